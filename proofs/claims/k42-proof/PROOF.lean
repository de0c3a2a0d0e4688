import PyProof.Rows.All
import Wide.All
import OpenK.AllK
import Wide.FinOn
import Lean
import PyProof.EqAt
import PyProof.EqKinds
import PyProof.TupleCall
import KE.KSortKey
import PyProof.ListMulRoad
import PyProof.Draws
import PyProof.EnumMake
import PyProof.ListNew
import KE.KRevIter
import KE.KMinKey
import PySem.Challenge.RW_benchdays_k42_whole_tables_bound
set_option Elab.async false
set_option linter.all false
set_option maxRecDepth 100000
noncomputable section
set_option hygiene false in
local macro_rules | `(tactic| and_intros) => `(tactic| intro ρ σ H hd ls Q d hd' hR hL hm hQ)
open List(mem_cons mem_filter filterMap_cons mem_cons_self mem_cons_of_mem mem_append mem_append_left mem_append_right size_toArray append_nil nodup_cons of_mem_zip length_take mem_of_getElem? length_append length_map length_drop any_cons replicate_succ flatten_cons append_assoc nil_append map_nil map_cons find?_cons length_cons length_nil lookup_cons lookup_append mem_map all_eq_true take_of_length_le mem_singleton mem_iff_getElem? cons_append nodup_append map_map drop_length zipIdx_cons not_mem_nil length_eq_zero_iff mergeSort_perm ext_getElem? map_snd_zip map_congr_left pairwise_mergeSort pairwise_map set_cons_succ set_cons_zero map_take map_id nodup_range flatMap_cons filter_cons sum_cons pairwise_cons map_append range_succ ext_getElem sum_append length_range sum_nil all_map)
open Option(isSome_iff_exists none_or map_some bind_some)
open Nat(lt_of_lt_of_le lt_irrefl ne_of_lt le_trans le_of_lt ne_of_gt le_refl lt_trans zero_le lt_succ_of_lt le_add_right)
open Int(toNat_natCast)
def dL{α β:Type _}{o:Option α}{f:α->Option β}{b:β}(h:o.bind f=some b):∃a,o=some a/\f a=some b:=Option.bind_eq_some_iff.mp h
def dM{α β:Type _}{o:Option α}{f:α->β}{b:β}(h:o.map f=some b):∃a,o=some a/\f a=b:=Option.map_eq_some_iff.mp h
set_option compiler.extract_closed false
local macro_rules | `(tactic| omega) => `(tactic| first | lia | omega (config := {}))
namespace Ea
open PySem PySem.W
def dA(s:Stmt):Arguments:=match s with
 |.FunctionDef _ a _ _ _ _ _ _ _ _=>a
 |_=>{ posonlyargs:=[],args:=[],vararg:=none,kwonlyargs:=[],kw_defaults:=[],kwarg:=none,defaults:=[] }
def dB(s:Stmt):List Stmt:=match s with
 |.FunctionDef _ _ b _ _ _ _ _ _ _=>b
 |_=>[]
def dS(s:Stmt):Scope:=match s with
 |.FunctionDef _ _ _ _ _ _ sc _ _ _=>sc
 |_=>{ kind:=.function,names:=[],isGenerator:=false,isCoroutine:=false }
def tO(o:Obj):Option Addr:=match o.data with
 | .fields vs=>(match (vs[11]?:Option Value)with
  |some (Value.ref P)=>some P
  | _=>none)
 |_=>none
def At(K:Frag)(n:Str)(s:Stmt)(f:Addr)(cd:Value):Prop:=∃oc kV dc pm ct od an sl,nsIn K mainGlobals n=some (some (.ref f))/\K.lookup f=some ⟨oc,od,.func (fnOf n n (dA s) (dB s) (dS s) .none kV dc pm an cd ct),sl⟩/\codeIn K cd n=true/\keepIn K (.ref f)=true
def Fe(K:Frag)(n:Str)(s:Stmt):Prop:=∃f cd,At K n s f cd
def Fl(K:Frag)(n:Str)(s:Stmt)(p:Addr):Prop:=∃f ca ob,At K n s f (.ref ca)/\K.lookup ca=some ob/\tO ob=some p
section
variable{K:Frag}{n:Str}{s:Stmt}{f ca p:Addr}{oc kV dc pm cd ct:Value}{od an:Option Addr}{sl:Array (Option Value)}{ob:Obj}
def feI(a:nsIn K mainGlobals n=some (some (.ref f)))(l:K.lookup f=some ⟨oc,od,.func (fnOf n n (dA s) (dB s) (dS s) .none kV dc pm an cd ct),sl⟩)(c:codeIn K cd n=true)(k:keepIn K (.ref f)=true):Fe K n s:=⟨f,cd,_,_,_,_,_,_,_,_,a,l,c,k⟩
def flI(a:nsIn K mainGlobals n=some (some (.ref f)))(l:K.lookup f=some ⟨oc,od,.func (fnOf n n (dA s) (dB s) (dS s) .none kV dc pm an cd ct),sl⟩)(c:codeIn K cd n=true)(k:keepIn K (.ref f)=true)(u:cd=.ref ca)(t:K.lookup ca=some ob)(v:tO ob=some p):Fl K n s p:=by
 subst u;exact⟨f,ca,ob,⟨_,_,_,_,_,_,_,_,a,l,c,k⟩,t,v⟩
end
abbrev Zf:List Str:=["list","tuple","len","range","repr","sum","min","max","abs","all","any","sorted","zip","isinstance","int","bool","str","set","enumerate","reversed","dict"]
def Zs(K:Frag):Prop:=∀n∈Zf,nsIn K mainGlobals n=some none
def Zg(K:Frag)(l:List Str):Prop:=∀n∈l,nsIn K mainGlobals n=some none
def zs0{K:Frag}:Zg K []:=λ_ h=>nomatch h
def zs1{K:Frag}{n:Str}{l:List Str}(h:nsIn K mainGlobals n=some none)(r:Zg K l):Zg K (n::l):=λm hm=>by
 rcases mem_cons.mp hm with rfl|hm
 .exact h
 .exact r m hm
end Ea
namespace T42
open PySem PySem.W PyProof.Rows Ea
def top(i:Nat):Stmt:=PySem.Challenge.pw_benchdays_k42_whole_tables_bound.main.body.getD i (.Pass ⟨0,0,0,0⟩)
def vw:PySem.Program:={ PySem.Challenge.pw_benchdays_k42_whole_tables_bound with main:={ PySem.Challenge.pw_benchdays_k42_whole_tables_bound.main with body:=[1,2,3,5,6,7,8,10,11,13,14,15,16,18,19,20,21,22,23,24,25,26,27,29,30,31,32,33,34,36,37,39,40,42,43,44,45,46,47,48,49,50,51,52].map top } }
def PZ(K:Frag):Prop:=Zs K/\Fe K "law" (top 52)/\Fe K "same_coming" (top 13)/\Fe K "one_coming" (top 14)/\Fe K "refuse_other_costs" (top 15)/\Fe K "late_coming" (top 18)/\Fe K "weight_of" (top 16)/\Fe K "full_weight" (top 20)/\Fe K "greatest_weight" (top 23)/\Fe K "is_number" (top 5)/\Fe K "is_tuple_of" (top 8)/\Fe K "look_at_shape" (top 24)/\Fe K "no_more" (top 21)/\Fe K "put_behind" (top 22)/\Fe K "look_at_row" (top 25)/\Fe K "look_at_places" (top 26)/\Fe K "lets_table" (top 27)/\Fe K "is_number_from" (top 6)/\Fe K "is_number_of_work" (top 7)/\Fe K "is_piece" (top 29)/\Fe K "one_at_a_time" (top 30)/\Fe K "lengths_done" (top 31)/\Fe K "keeps_wishes" (top 32)/\Fe K "ends_of" (top 34)/\Fe K "is_plan" (top 33)/\Fe K "steps_at" (top 10)/\Fe K "cost_at" (top 11)/\Fe K "costs_of" (top 36)/\Fe K "worth" (top 37)/\Fe K "next_row" (top 39)/\Fe K "table_of" (top 40)/\Fe K "_law_source" (top 42)/\Fe K "_law_pick" (top 43)/\Fe K "_law_late_works" (top 44)/\Fe K "_law_late_weight" (top 45)/\Fe K "_law_run_ends" (top 46)/\Fe K "_law_wishes" (top 47)/\Fe K "_law_plan" (top 48)/\Fe K "_law_plan_ends" (top 49)/\Fe K "_law_pairs" (top 51)/\Fe K "_law_orders" (top 50)/\∃p11,Fl K "by_dues" (top 19) p11/\([p11]:List Addr).Nodup
def bP{K:Frag}{p11:Addr}(z:Zs K)(h0:Fe K "law" (top 52))(h1:Fe K "same_coming" (top 13))(h2:Fe K "one_coming" (top 14))(h3:Fe K "refuse_other_costs" (top 15))(h4:Fe K "late_coming" (top 18))(h5:Fe K "weight_of" (top 16))(h6:Fe K "full_weight" (top 20))(h7:Fe K "greatest_weight" (top 23))(h8:Fe K "is_number" (top 5))(h9:Fe K "is_tuple_of" (top 8))(h10:Fe K "look_at_shape" (top 24))(h12:Fe K "no_more" (top 21))(h13:Fe K "put_behind" (top 22))(h14:Fe K "look_at_row" (top 25))(h15:Fe K "look_at_places" (top 26))(h16:Fe K "lets_table" (top 27))(h17:Fe K "is_number_from" (top 6))(h18:Fe K "is_number_of_work" (top 7))(h19:Fe K "is_piece" (top 29))(h20:Fe K "one_at_a_time" (top 30))(h21:Fe K "lengths_done" (top 31))(h22:Fe K "keeps_wishes" (top 32))(h23:Fe K "ends_of" (top 34))(h24:Fe K "is_plan" (top 33))(h25:Fe K "steps_at" (top 10))(h26:Fe K "cost_at" (top 11))(h27:Fe K "costs_of" (top 36))(h28:Fe K "worth" (top 37))(h29:Fe K "next_row" (top 39))(h30:Fe K "table_of" (top 40))(h31:Fe K "_law_source" (top 42))(h32:Fe K "_law_pick" (top 43))(h33:Fe K "_law_late_works" (top 44))(h34:Fe K "_law_late_weight" (top 45))(h35:Fe K "_law_run_ends" (top 46))(h36:Fe K "_law_wishes" (top 47))(h37:Fe K "_law_plan" (top 48))(h38:Fe K "_law_plan_ends" (top 49))(h39:Fe K "_law_pairs" (top 51))(h40:Fe K "_law_orders" (top 50))(h11:Fl K "by_dues" (top 19) p11)(tn:([p11]:List Addr).Nodup):PZ K:=⟨z,h0,h1,h2,h3,h4,h5,h6,h7,h8,h9,h10,h12,h13,h14,h15,h16,h17,h18,h19,h20,h21,h22,h23,h24,h25,h26,h27,h28,h29,h30,h31,h32,h33,h34,h35,h36,h37,h38,h39,h40,_,h11,tn⟩
local macro_rules | `(tactic| o_head $H) => `(tactic| (refine holds_open (r := PySem.Challenge.rw_benchdays_k42_whole_tables_bound.row) (q := T42.vw) (loose := []) (Xt := λ s => xlAt T42.vw [] s && recOk (RowW.records (OpenRow.toRowW PySem.Challenge.rw_benchdays_k42_whole_tables_bound.row)) s) (XP := XL T42.vw []) (Yf := Hook.obs $H) (Ya := Hook.val $H) (YP := Hook.says $H) (N := 100000) ?hl (Hook.of $H) (Hook.keeps $H) (λ s e => xl_of s (Bool.and_eq_true_iff.mp e).1) XL.keeps (by rfl) (by rfl) (by rfl) (λ s e => recFacts_of (Bool.and_eq_true_iff.mp e).2) (by rfl) (by first | assumption | decide +kernel) (by decide +kernel) ⟨rfl, rfl, rfl, rfl, rfl, by decide +kernel⟩ ?hw ?hc; (case hl => exact λ w => by kernel_rfl)))
set_option maxRecDepth 100000 in
set_option maxHeartbeats 0 in
def early(hG:∀(K:Params->Frag),(∀w:World,PZ (K w.params))->∀d:DefRec,d.name="law"->d.params.defaults=[]->WalkO T42.vw [] (XL T42.vw []) (λw h=>(K w.params).In h) PySem.Challenge.rw_benchdays_k42_whole_tables_bound.row.toRowW d [] (λf vs=>PySem.call f vs)):PySem.Challenge.rw_benchdays_k42_whole_tables_bound.Holds:=by
 w_on;o_law;k_head;(case hw=>w_witness2)
 k_fill
 refine λw s₀ s₁ mg mb G Y=>hG _ ?F _ rfl rfl w s₀ s₁ mg mb G (km_in_of Y)
 case F=>
  intro w;refine' bP ?z ?h0 ?h1 ?h2 ?h3 ?h4 ?h5 ?h6 ?h7 ?h8 ?h9 ?h10 ?h12 ?h13 ?h14 ?h15 ?h16 ?h17 ?h18 ?h19 ?h20 ?h21 ?h22 ?h23 ?h24 ?h25 ?h26 ?h27 ?h28 ?h29 ?h30 ?h31 ?h32 ?h33 ?h34 ?h35 ?h36 ?h37 ?h38 ?h39 ?h40 ?h11 ?tn
  case z=>(refine' zs1 _ (zs1 _ (zs1 _ (zs1 _ (zs1 _ (zs1 _ (zs1 _ (zs1 _ (zs1 _ (zs1 _ (zs1 _ (zs1 _ (zs1 _ (zs1 _ (zs1 _ (zs1 _ (zs1 _ (zs1 _ (zs1 _ (zs1 _ (zs1 _ (zs0)))))))))))))))))))))<;>k_is)
  case h0|h1|h2|h3|h4|h5|h6|h7|h8|h9|h10|h12|h13|h14|h15|h16|h17|h18|h19|h20|h21|h22|h23|h24|h25|h26|h27|h28|h29|h30|h31|h32|h33|h34|h35|h36|h37|h38|h39|h40=>(refine' feI ?a ?l ?c ?k;case a|l|c|k=>k_is)
  case h11=>(refine' flI ?a ?l ?c ?k ?u ?t ?v;(case a|l|c|k=>k_is);(case u=>rfl);(case t=>k_is);(case v=>rfl))
  case tn=>decide
end T42
namespace L2
open PySem PySem.Spec PyProof.Rows
abbrev Key:=Sum Int Str
def Hc:Key->Value->Bool
 |.inl k,v=>Value.isInt k v
 |.inr x,v=>Value.isStrOf x v
def bN(w:World):Key->Int
 |.inl k=>hashInt k
 |.inr x=>hashStr w x
def BG:∀{k:Key} {v:Value},Hc k v=true->(∃i t,k=Sum.inl i/\v=Value.int i t)∨(∃x t,k=Sum.inr x/\v=Value.str x t)
 |.inl i,v,h=>by
  obtain⟨t,e⟩:=Value.isInt_shape (k:=i) (v:=v) h;exact .inl ⟨i,t,rfl,e⟩
 |.inr x,v,h=>by
  obtain⟨t,e⟩:=Value.isStrOf_shape (x:=x) (v:=v) h;exact .inr ⟨x,t,rfl,e⟩
def Ql(i:Int)(t:Tok):Hc (.inl i) (.int i t)=true:=by simp[Hc,Value.isInt]
def Qk(x:Str)(t:Tok):Hc (.inr x) (.str x t)=true:=by simp[Hc,Value.isStrOf]
def ZE(a b:Int):decide ((Sum.inl a:Key)=Sum.inl b)=(a==b):=by
 by_cases e:a=b
 .subst e;simp
 .have h:¬ (Sum.inl a:Key)=Sum.inl b:=λq=>e (Sum.inl.inj q);rw[decide_eq_false h];exact(beq_eq_false_iff_ne.mpr e).symm
def ZB(a b:Str):decide ((Sum.inr a:Key)=Sum.inr b)=decide (a=b):=by
 by_cases e:a=b
 .subst e;simp
 .have h:¬ (Sum.inr a:Key)=Sum.inr b:=λq=>e (Sum.inr.inj q);rw[decide_eq_false h,decide_eq_false e]
def ZD(a:Int)(b:Str):decide ((Sum.inl a:Key)=Sum.inr b)=false:=decide_eq_false (λq=>nomatch q)
def ZC(a:Str)(b:Int):decide ((Sum.inr a:Key)=Sum.inl b)=false:=decide_eq_false (λq=>nomatch q)
def B5(prog:Program)(w:World):PySem.KeyKind prog w Key where
 is:=Hc
 hash:=bN w
 inj:=λv a b ha hb=>by
  rcases BG ha with⟨i,t,rfl,rfl⟩|⟨x,t,rfl,rfl⟩
  .rcases BG hb with⟨j,u,rfl,e⟩|⟨y,u,rfl,e⟩
   .injection e with e1 _;rw[e1]
   .exact nomatch e
  .rcases BG hb with⟨j,u,rfl,e⟩|⟨y,u,rfl,e⟩
   .exact nomatch e
   .injection e with e1 _;rw[e1]
 byValue:=λk v h=>by
  rcases BG h with⟨i,t,rfl,rfl⟩|⟨x,t,rfl,rfl⟩<;>rfl
 pyHash:=λhv h=>by
  rcases BG hv with⟨i,t,rfl,rfl⟩|⟨x,t,rfl,rfl⟩
  .exact wpAny_pyHash_int h
  .exact wpAny_pyHash_str h
 eqBool:=λhu hv h=>by
  rcases BG hu with⟨i,t,rfl,rfl⟩|⟨x,t,rfl,rfl⟩
  .rcases BG hv with⟨j,u,rfl,rfl⟩|⟨y,u,rfl,rfl⟩
   .rw[ZE]at h;exact wpAny_eqBool_int h
   .rw[ZD]at h;exact SeqAt.EqAt.int_str i t y u _ _ _ _ h
  .rcases BG hv with⟨j,u,rfl,rfl⟩|⟨y,u,rfl,rfl⟩
   .rw[ZC]at h;exact SeqAt.EqAt.str_int x t j u _ _ _ _ h
   .rw[ZB]at h;exact wpAny_eqBool_str h
 «strs»:=λk x t v h=>by
  rcases BG h with⟨i,u,rfl,e⟩|⟨y,u,rfl,e⟩
  .exact nomatch e
  .injection e with e1 _
   subst e1;cases v<;>rfl
def N9(prog:Program)(w:World)(i:Int)(t:Tok):(B5 prog w).is (.inl i) (.int i t)=true:=Ql i t
def N8(prog:Program)(w:World)(x:Str)(t:Tok):(B5 prog w).is (.inr x) (.str x t)=true:=Qk x t
inductive V where
 |non|bl (b:Bool)|int (i:Int)|str (x:Str)|byt (b:Array UInt8)|flt (b:UInt64)|ref (a:Addr)|ty (n:String)
 deriving DecidableEq
def RelV:V->Value->Prop
 |.non,u=>u=Value.none
 |.bl b,u=>u=Value.bool b
 |.int i,u=>∃t,u=Value.int i t
 |.str x,u=>∃t,u=Value.str x t
 |.byt b,u=>∃t,u=Value.bytes b t
 |.flt b,u=>∃t,u=Value.float b t
 |.ref a,u=>u=Value.ref a
 |.ty n,u=>u=Value.type n
abbrev Vals:List V->List Value->Prop:=Paired RelV
def Vals.length{xs:List V}{us:List Value}(r:Vals xs us):xs.length=us.length:=Paired.length r
def Vals.get:∀{xs:List V} {us:List Value} {i:Nat} {x:V},Vals xs us->xs[i]?=some x->∃u,us[i]?=some u/\RelV x u
 |_,_,_,_,.nil,e=>by simp at e
 |_,_,0,_,.cons r _,e=>by simp at e;subst e;exact⟨_,rfl,r⟩
 |_,_,i+1,x,.cons _ t,e=>by
  obtain⟨u,h1,h2⟩:=Vals.get (i:=i) (x:=x) t (by simpa using e);exact⟨u,by simpa using h1,h2⟩
def Vals.set{x:V}{u:Value}(r:RelV x u):∀{xs:List V} {us:List Value} (i:Nat),Vals xs us->Vals (xs.set i x) (us.set i u)
 |_,_,_,.nil=>.nil
 |_,_,0,.cons _ t=>.cons r t
 |_,_,i+1,.cons q t=>.cons q (Vals.set r i t)
def Vals.append:∀{xs ys:List V} {us ws:List Value},Vals xs us->Vals ys ws->Vals (xs++ys) (us++ws)
 |_,_,_,_,.nil,s=>s
 |_,_,_,_,.cons r t,s=>.cons r (Vals.append t s)
def Vals.take:∀{xs:List V} {us:List Value} (n:Nat),Vals xs us->Vals (xs.take n) (us.take n)
 |_,_,0,_=>.nil
 |_,_,_+1,.nil=>.nil
 |_,_,n+1,.cons r t=>.cons r (Vals.take n t)
def Vals.drop:∀{xs:List V} {us:List Value} (n:Nat),Vals xs us->Vals (xs.drop n) (us.drop n)
 |_,_,0,r=>r
 |_,_,_+1,.nil=>.nil
 |_,_,n+1,.cons _ t=>Vals.drop n t
def RelO:Option V->Option Value->Prop
 |some v,some u=>RelV v u
 |none,none=>True
 |_,_=>False
def KV{κ:Type}:List (κ×V)->List (κ×Value)->Prop:=Paired λ(p:κ×V) (q:κ×Value)=>p.1=q.1/\RelV p.2 q.2
def kV:Key->V
 |.inl i=>.int i
 |.inr x=>.str x
inductive HO where
 /-- a list -/
 |lst (xs:List V)
 /-- a tuple (never changes) -/
 |tup (xs:List V)
 /-- a dict whose keys are ints and texts;one whose keys are tuples of ints and texts (the empty one is both) -/
 |dK (kvs:List (Key×V))|dT (kvs:List (List Key×V))
 /-- a set of ints: its members,its size -/
 |set (S:Int->Bool) (n:Nat)
 /-- an instance of the class at C,its dict at dx,its attributes -/
 |ins (C dx:Addr) (fs:List (Str×V))
 /-- the dict of the instance at x -/
 |own (x:Addr)
 /-- the dict of an exception -/
 |xd (fs:List (Str×V))
 /-- a bound method,f of x -/
 |met (f x:Addr)
 /-- a range object lo,lo+1,.. below hi -/
 |rng (lo hi:Int)
 /-- a thing that is known to the object (the script;a dict while a loop walks it): read,never written while it is so -/
 |frz (o:Obj) (u:HO)
 /-- a code object's table -/
 |tbl (ps:Array Value)
 /-- any other thing,by what is true of its one object (a def of one's own: SetO a S n:=HO.ext λh=>..) -/
 |ext (φ:Heap->Prop)
abbrev Hp:=Addr->Option HO
def upd(H:Hp)(a:Addr)(o:HO):Hp:=λb=>if b=a then some o else H b
def AK{H:Hp}{a:Addr}{o:HO}:upd H a o a=some o:=by unfold upd;rw[if_pos rfl]
def AB{H:Hp}{a b:Addr}{o:HO}(h:b≠a):upd H a o b=H b:=by unfold upd;rw[if_neg h]
def aR{H:Hp}{a b:Addr}{o u:HO}(h:H a=some o)(h':H b=some u)(d:o≠u):a≠b:=by
 intro e;subst e;rw[h]at h';exact d (Option.some.inj h')
def AO{H:Hp}{a b:Addr}{o:HO}(h:H a=some o)(h':H b=none):a≠b:=by
 intro e;subst e;rw[h]at h';cases h'
def IsTupD(h:Heap)(a:Addr)(items:Array Value):Prop:=∃o,h.get? a=some o/\o.cls=.type "tuple"/\(∃n,o.data=.seq items n)/\o.dict=none
def IsTupD.t{h:Heap}{a:Addr}{items:Array Value}(x:IsTupD h a items):IsTup h a items:=let ⟨o,e,c,d,_⟩:=x;⟨o,e,c,d⟩
def IsTupD.new(h:Heap)(items:Array Value):IsTupD (h.push { cls:=.type "tuple",data:=.seq items }) h.objs.size items:=⟨_,Heap.get?_push_size _ rfl,rfl,⟨_,rfl⟩,rfl⟩
section
variable(P:Program)(w:World)
def ObjOk(H:Hp)(h:Heap)(a:Addr):HO->Prop
 |.lst xs=>xs.length<=sizeLine/\∃(its:List Value) (n:Nat),Vals xs its/\h.get? a=some { cls:=.type "list",data:=.seq its.toArray n }
 |.tup xs=>xs.length<=sizeLine/\∃its:List Value,Vals xs its/\IsTupD h a its.toArray
 |.dK kvs=>kvs.length<=sizeLine/\(a==sysModules)=false/\∃vs,KV kvs vs/\h.DictOf (B5 P w) a vs
 |.dT kvs=>kvs.length<=sizeLine/\(a==sysModules)=false/\∃xs:List (List Key×Addr×Value),
  Paired (λ(p:List Key×V) (q:List Key×Addr×Value)=>p.1=q.1/\H q.2.1=some (.tup (p.1.map kV))/\RelV p.2 q.2.2) kvs xs /\
  ∃o es ep,h.get? a=some o/\o.ExactDict/\o.data=.dict es ep/\es.toList=xs.map (entryOfKey (tupleKind (B5 P w)))/\(xs.map (·.1)).Nodup
 |.set S n=>h.SetOf (intKind P w) a S n
 |.ins C dx fs=>H dx=some (.own a)/\fs.length<=1000/\dx≠a/\h.get? a=some (PySem.W.instObj C dx)/\
  ∃mA,h.Ns1 dx mA/\(∀f,RelO (fs.lookup f) (mA f))/\PySem.Within mA (fs.map (·.1))
 |.own _=>∃o,h.get? a=some o
 |.xd fs=>∃mA,h.Ns1 a mA/\∀f,RelO (fs.lookup f) (mA f)
 |.rng lo hi=>∃t u v,h.get? a=some { cls:=.type "range",data:=.fields #[.int lo t,.int hi u,.int 1 v] }
 |.frz o u=>h.get? a=some o/\ObjOk H h a u
 |.tbl ps=>h.get? a=some { cls:=.none,data:=.fields ps }
 |.met f x=>h.get? a=some (PySem.W.methodObj (.ref f) (.ref x))
 |.ext φ=>φ h/\(∃o,h.get? a=some o)/\∀h1 h2:Heap,φ h1->(∀o,h1.get? a=some o->h2.get? a=some o)->φ h2
def HOk(H:Hp)(h:Heap):Prop:=∀a o,H a=some o->ObjOk P w H h a o
end
section
variable{P:Program}{w:World}{H H':Hp}{h h':Heap}{a:Addr}{o:HO}
def ObjOk.lt(x:ObjOk P w H h a o):a<h.objs.size:=by
 cases o with
 |lst xs=>obtain⟨_,_,_,_,e⟩:=x;exact Heap.lt_size e
 |tup xs=>obtain⟨_,_,_,o,e,_⟩:=x;exact Heap.lt_size e
 |dK kvs=>obtain⟨_,_,_,_,o,_,_,e,_⟩:=x;exact Heap.lt_size e
 |dT kvs=>obtain⟨_,_,_,_,o,_,_,e,_⟩:=x;exact Heap.lt_size e
 |set S n=>obtain⟨o,_,_,_,e,_⟩:=x;exact Heap.lt_size e
 |ins C dx fs=>obtain⟨_,_,_,e,_⟩:=x;exact Heap.lt_size e
 |own y=>obtain⟨_,e⟩:=x;exact Heap.lt_size e
 |xd fs=>obtain⟨_,⟨_,_,_,e,_⟩,_⟩:=x;exact Heap.lt_size e
 |rng lo hi=>obtain⟨_,_,_,e⟩:=x;exact Heap.lt_size e
 |frz ob u=>obtain⟨e,_⟩:=x;exact Heap.lt_size e
 |tbl ps=>exact Heap.lt_size (show h.get? a=some _ from x)
 |met f y=>exact Heap.lt_size (show h.get? a=some _ from x)
 |ext φ=>obtain⟨_,⟨_,e⟩,_⟩:=x;exact Heap.lt_size e
def Paired.mapP{α β:Type}{F G:α->β->Prop}:∀{l₁:List α} {l₂:List β},Paired F l₁ l₂->(∀a b,F a b->G a b)->Paired G l₁ l₂
 |_,_,.nil,_=>.nil
 |_,_,.cons r t,f=>.cons (f _ _ r) (Paired.mapP t f)
def ObjOk.stay(x:ObjOk P w H h a o)(k:∀b u,(b=a∨H b=some (.own a))->h.get? b=some u->h'.get? b=some u)
 (ho:∀b,H b=some (.own a)->H' b=some (.own a)) (ht:∀b xs,H b=some (.tup xs)->H' b=some (.tup xs)):ObjOk P w H' h' a o:=by
 induction o with
 |lst xs=>obtain⟨z,its,n,r,e⟩:=x;exact⟨z,its,n,r,k _ _ (.inl rfl) e⟩
 |tup xs=>obtain⟨z,its,r,ob,e,c⟩:=x;exact⟨z,its,r,ob,k _ _ (.inl rfl) e,c⟩
 |dK kvs=>obtain⟨z,y,vs,r,ob,es,ep,e,c⟩:=x;exact⟨z,y,vs,r,ob,es,ep,k _ _ (.inl rfl) e,c⟩
 |dT kvs=>
  obtain⟨z,y,xs,r,ob,es,ep,e,c⟩:=x;exact⟨z,y,xs,Paired.mapP r λp q z=>⟨z.1,ht _ _ z.2.1,z.2.2⟩,ob,es,ep,k _ _ (.inl rfl) e,c⟩
 |set S n=>obtain⟨ob,es,ep,t,e,c⟩:=x;exact⟨ob,es,ep,t,k _ _ (.inl rfl) e,c⟩
 |ins C dx fs=>
  obtain⟨d,z,ne,e,mA,⟨od,es,ep,e2,c⟩,r⟩:=x;exact⟨ho _ d,z,ne,k _ _ (.inl rfl) e,mA,⟨od,es,ep,k _ _ (.inr d) e2,c⟩,r⟩
 |own y=>obtain⟨ob,e⟩:=x;exact⟨ob,k _ _ (.inl rfl) e⟩
 |xd fs=>obtain⟨mA,⟨od,es,ep,e,c⟩,r⟩:=x;exact⟨mA,⟨od,es,ep,k _ _ (.inl rfl) e,c⟩,r⟩
 |rng lo hi=>obtain⟨t,u,v,e⟩:=x;exact⟨t,u,v,k _ _ (.inl rfl) e⟩
 |frz ob u ih=>obtain⟨e,q⟩:=x;exact⟨k _ _ (.inl rfl) e,ih q⟩
 |tbl ps=>
  have e:h.get? a=some { cls:=.none,data:=.fields ps }:=x;show h'.get? a=some { cls:=.none,data:=.fields ps };exact k a _ (.inl rfl) e
 |met f y=>
  have e:h.get? a=some (PySem.W.methodObj (.ref f) (.ref y)):=x;show h'.get? a=some (PySem.W.methodObj (.ref f) (.ref y));exact k a _ (.inl rfl) e
 |ext φ=>obtain⟨p,⟨o,e⟩,st⟩:=x;exact⟨st _ _ p λo q=>k _ _ (.inl rfl) q,⟨o,k _ _ (.inl rfl) e⟩,st⟩
def HOk.lt(x:HOk P w H h)(e:H a=some o):a<h.objs.size:=(x a o e).lt
def HOk.fresh(x:HOk P w H h)(e:h.objs.size<=a):H a=none:=by
 cases q:H a with
 |none=>rfl
 |some u=>exact absurd (lt_of_lt_of_le (x.lt q) e) (lt_irrefl _)
def HOk.kept(x:HOk P w H h)(k:∀b u,h.get? b=some u->h'.get? b=some u):HOk P w H h':=λa o e=>
 (x a o e).stay (λb u _ q=>k b u q) (λ_ q=>q) λ_ _ q=>q
def HOk.laid(x:HOk P w H h)(k:∀b u,h.get? b=some u->h'.get? b=some u)(hp:h.objs.size<=a)(new:ObjOk P w (upd H a o) h' a o):HOk P w (upd H a o) h':=λb u e=>by
 have hn:=x.fresh hp;by_cases hb:b=a
 .subst hb;rw[AK]at e;cases e;exact new
 .rw[AB hb]at e;exact(x b u e).stay (λc v _ q=>k c v q) (λc q=>by rw[AB (AO q hn)];exact q) λc xs q=>by rw[AB (AO q hn)];exact q
end
def Rd(H:Hp)(a:Addr)(u:HO):Prop:=H a=some u∨∃o,H a=some (.frz o u)
def Rd.ok{P:Program}{w:World}{H:Hp}{h:Heap}{a:Addr}{u:HO}(r:Rd H a u)(x:HOk P w H h):ObjOk P w H h a u:=by
 rcases r with r|⟨o,r⟩
 .exact x a u r
 .obtain⟨_,q⟩:=x a _ r;exact q
def Mut:Option HO->Prop
 |some (.lst _)=>True
 |some (.dK _)=>True
 |some (.dT _)=>True
 |some (.set _ _)=>True
 |some (.ins _ _ _)=>True
 |some (.ext _)=>True
 |_=>False
section
variable{P:Program}{w:World}{H:Hp}{h h':Heap}{x e:Addr}{o':HO}
def HOk.write(ok:HOk P w H h)(mu:Mut (H x))(he:e=x∨H e=some (.own x))(k:∀b u,b≠e->h.get? b=some u->h'.get? b=some u)(heo:∃u,h'.get? e=some u)
 (new:ObjOk P w (upd H x o') h' x o'):HOk P w (upd H x o') h':=λb u q=>by
 have nown:∀c y,H c=some (.own y)->c≠x:=λc y r z=>by subst z;rw[r]at mu;exact mu
 have ntup:∀c xs,H c=some (.tup xs)->c≠x:=λc xs r z=>by subst z;rw[r]at mu;exact mu
 by_cases hb:b=x
 .subst hb;rw[AK]at q;cases q;exact new
 .rw[AB hb]at q;by_cases hbe:b=e
  .have q':H b=some (.own x):=by
    rcases he with z|z
    .exact absurd (hbe.trans z) hb
    .rw[hbe];exact z
   rw[q]at q';cases q';obtain⟨v,hv⟩:=heo;exact⟨v,by rw[hbe];exact hv⟩
  .refine(ok b u q).stay (λc v hc r=>k c v ?_ r) (λc r=>by rw[AB (nown c b r)];exact r) λc xs r=>by rw[AB (ntup c xs r)];exact r
   rcases hc with rfl|hc
   .exact hbe
   .rintro rfl;rcases he with z|z
    .exact nown c b hc z
    .rw[hc]at z;cases z;exact hb rfl
end
structure Un(fs ex:List Addr)(H H':Hp)(h h':Heap):Prop where
 keep:∀b o,h.get? b=some o->H b=none->b∉fs->b∉ex->h'.get? b=some o
 slot:∀b o,h.get? b=some o->H b=none->b∈fs->b∉ex->∃sl,h'.get? b=some { o with slots:=sl }
 free:∀b o,h.get? b=some o->H b=none->b∉ex->H' b=none
 there:∀b o,h.get? b=some o->b∉ex->∃o',h'.get? b=some o'
 tups:∀b xs,H b=some (.tup xs)->H' b=some (.tup xs)
 frzs:∀b o u,H b=some (.frz o u)->H' b=some (.frz o u)
 tbls:∀b ps,H b=some (.tbl ps)->∃more,H' b=some (.tbl (ps++more))
section
variable{fs fs' ex ex':List Addr}{H H1 H2:Hp}{h h1 h2 h':Heap}{a x e:Addr}{o:HO}
def Un.any(u:Un fs ex H H1 h h1){b:Addr}{ob:Obj}(q:h.get? b=some ob)(n:H b=none)(hx:b∉ex):∃sl,h1.get? b=some { ob with slots:=sl }:=by
 by_cases hb:b∈fs
 .exact u.slot b ob q n hb hx
 .exact⟨ob.slots,u.keep b ob q n hb hx⟩
def Un.kept(k:∀b u,h.get? b=some u->h'.get? b=some u):Un fs ex H H h h':=
 ⟨λb ob q _ _ _=>k b ob q,λb ob q _ _ _=>⟨ob.slots,k b ob q⟩,λ_ _ _ n _=>n,λb ob q _=>⟨ob,k b ob q⟩,λ_ _ q=>q,λ_ _ _ q=>q,λ_ ps q=>⟨#[],by rw[q];simp⟩⟩
def Un.refl:Un fs ex H H h h:=Un.kept λ_ _ q=>q
def Un.laid(k:∀b u,h.get? b=some u->h'.get? b=some u)(hp:h.objs.size<=a)(hn:H a=none):Un fs ex H (upd H a o) h h' where
 keep:=λb u q _ _ _=>k b u q
 slot:=λb u q _ _ _=>⟨u.slots,k b u q⟩
 free:=λb u q n _=>by rw[AB (ne_of_lt (lt_of_lt_of_le (Heap.lt_size q) hp))];exact n
 there:=λb u q _=>⟨u,k b u q⟩
 tups:=λb xs q=>by rw[AB (AO q hn)];exact q
 frzs:=λb u xs q=>by rw[AB (AO q hn)];exact q
 tbls:=λb ps q=>⟨#[],by rw[AB (AO q hn),q];simp⟩
def Un.write(mu:Mut (H x))(he:e=x∨H e=some (.own x))(k:∀b u,b≠e->h.get? b=some u->h'.get? b=some u)(heo:∃u,h'.get? e=some u):Un fs ex H (upd H x o) h h':=by
 have hx:∀b,H b=none->b≠x:=λb n z=>by subst z;rw[n]at mu;exact mu
 have hb:∀b,H b=none->b≠e:=λb n z=>by
  subst z;rcases he with r|r
  .exact hx b n r
  .rw[n]at r;cases r
 have hm:∀b u,H b=some u->¬ Mut (some u)->b≠x:=λb u q nm z=>by subst z;rw[q]at mu;exact nm mu
 refine⟨λb u q n _ _=>k b u (hb b n) q,λb u q n _ _=>⟨u.slots,k b u (hb b n) q⟩,λb u q n _=>by rw[AB (hx b n)];exact n,λb u q _=>?_,
  λb xs q=>by rw[AB (hm b _ q λz=>z)];exact q,λb u xs q=>by rw[AB (hm b _ q λz=>z)];exact q,λb ps q=>⟨#[],by rw[AB (hm b _ q λz=>z),q];simp⟩⟩
 by_cases hbe:b=e
 .subst hbe;exact heo
 .exact⟨u,k b u hbe q⟩
end
def trk(h:Heap)(H:Hp):List Addr:=(List.range h.objs.size).filter λa=>(H a).isSome
def G8(h:Heap)(H:Hp):Heap:=PySem.W.hideAll h (trk h H)
def Qq(h:Heap)(H:Hp):(G8 h H).objs.size=h.objs.size:=PySem.W.hideAll_size _ _
def Tf{h:Heap}{H:Hp}{b:Addr}{o:Obj}(e:h.get? b=some o)(n:H b=none):(G8 h H).get? b=some o:=
 PySem.W.hideAll_get _ e λhm=>by
  have q:(H b).isSome=true:=(mem_filter.mp hm).2;rw[n]at q;simp at q
def WK{h:Heap}{H:Hp}{b:Addr}{o:Obj}(e:(G8 h H).get? b=some o):h.get? b=some o/\H b=none:=by
 have e':h.get? b=some o:=PySem.W.of_hideAll (trk h H) e;refine⟨e',?_⟩;cases q:H b with
 |none=>rfl
 |some x=>
  have hm:b∈trk h H:=mem_filter.mpr ⟨List.mem_range.mpr (Heap.lt_size e'),by simp[q]⟩;have z:(G8 h H).get? b=none:=PySem.W.hideAll_none (trk h H) hm;rw[z]at e;cases e
def X1(g h:Heap)(L:Addr):List (Addr×Obj):=(List.range h.objs.size).filterMap λa=>if a=L∨(g.get? a).isSome=true then none else(h.get? a).map λo=>(a,o)
def rest(g h:Heap)(L d:Addr):List (Addr×Obj):=(X1 g h L).filter λp=>decide (p.1≠d)
structure Mod(K:PySem.W.Frag)(mg:Str->Option Value)(base:Heap):Prop where
 kin:K.In base
 glob:base.Ns mainGlobals mg
 blt:∃mb,base.Ns builtinsNs mb/\∀x:Str,x≠"__name__"->mb x=bootBuiltins x
 nolimit:base.NoLimit
structure Cx where
 prog:Program
 w:World
 K:PySem.W.Frag
 mg:Str->Option Value
 base:Heap
 A:Around
 N:List Str
 s₀:Shared
 H₀:Hp
 env:Env
 outer:List Env
 stack:List Env
 ex:List Addr
 fn:Str->Bool
 calm:Bool
 pn:List (Addr×Obj)
 xe:Value->Shared->Prop
def frs(l:List Env):List Addr:=l.filterMap (·.frame)
abbrev Cx.fs(X:Cx):List Addr:=frs X.outer
def Vis(sc:Scope)(x:Str):Prop:=sc.names.lookup x=some .local∨sc.names.lookup x=some .cell∨sc.names.lookup x=some .free
def Loc(sc:Scope)(x:Str):Prop:=sc.names.lookup x=some .local∨sc.names.lookup x=some .cell
def ba(env:Env)(h:Heap)(m:Str->Option Value)(x:Str)(u:Value):Prop:=
 (env.kindOf x=some .local/\m x=some u)∨((env.kindOf x=some .cell∨env.kindOf x=some .free)/\∃c,env.cells.lookup x=some c/\h.IsCell c (some u))
structure Cx.Ok(X:Cx):Prop where
 mod:Mod X.K X.mg X.base
 kind:X.env.scope.kind=.function
 glob:X.env.globals=mainGlobals
 blt:X.env.builtins=builtinsNs
 above:X.s₀.heap.objs.size<=X.env.locals
 inj:∀x y c,X.env.cells.lookup x=some c->X.env.cells.lookup y=some c->x=y
 has:∀x,(X.env.kindOf x=some .cell∨X.env.kindOf x=some .free)->∃c,X.env.cells.lookup x=some c
 cab:∀x c,X.fn x=true->X.env.cells.lookup x=some c->X.s₀.heap.objs.size<=c
 hd:X.calm=true->X.A.handled=none
 frames:X.A.frames=some X.stack
 stk:X.stack=X.outer∨(X.stack=X.env::X.outer/\X.env.frame=some X.env.locals)
 exf:∀b∈X.ex,b≠X.env.locals/\∀x c,X.env.cells.lookup x=some c->c≠b
 bs:∀b o,X.base.get? b=some o->X.s₀.heap.get? b=some o/\X.H₀ b=none
 bsz:X.base.objs.size<=X.s₀.heap.objs.size
 noex:∀b o,X.base.get? b=some o->b∉X.ex
 exfs:∀b∈X.ex,b∉X.fs
 funs:X.s₀.heap.FunFrames X.base X.outer
 frf:∀b∈X.fs,X.H₀ b=none
structure Inv(X:Cx)(pins:List (Addr×Obj))(σ:List (Option V))(H:Hp)(s:Shared):Prop where
 ok:X.Ok
 os:s.os=X.s₀.os
 bare:AllBare s.gens
 base:Un X.fs X.ex X.H₀ H X.s₀.heap s.heap
 loc:∃m,s.heap.Ns X.env.locals m/\∀(i:Nat) (x:Str) (v:V),X.N[i]?=some x->σ[i]?=some (some v)->Vis X.env.scope x->∃u,RelV v u/\ba X.env s.heap m x u
 cell:∀x c,X.env.cells.lookup x=some c->∃v,s.heap.IsCell c v
 free:H X.env.locals=none
 freeC:∀x c,X.env.cells.lookup x=some c->H c=none
 pin:∀p∈X.pn++pins,s.heap.get? p.1=some p.2/\H p.1=none/\p.1≠X.env.locals/\p.1∉X.fs/\∀v,p.2.data≠.cell v
 hok:HOk X.prog X.w H s.heap
 len:σ.length=X.N.length
section
variable{X:Cx}{pins:List (Addr×Obj)}{σ:List (Option V)}{H H':Hp}{s:Shared}{h':Heap}
def Cx.Ok.nofr(ok:X.Ok){b:Addr}{o:Obj}(e:X.base.get? b=some o):b∉X.fs:=λhb=>by
 have:=(ok.funs.mem hb).1;rw[e]at this;cases this
def Inv.bs(I:Inv X pins σ H s):∀b o,X.base.get? b=some o->s.heap.get? b=some o/\H b=none:=λb o e=>
 ⟨I.base.keep b o (I.ok.bs b o e).1 (I.ok.bs b o e).2 (I.ok.nofr e) (I.ok.noex b o e),I.base.free b o (I.ok.bs b o e).1 (I.ok.bs b o e).2 (I.ok.noex b o e)⟩
def Inv.bk(I:Inv X pins σ H s):∀b o,X.base.get? b=some o->s.heap.get? b=some o:=λb o e=>(I.bs b o e).1
def Inv.mod(I:Inv X pins σ H s):Mod X.K X.mg X.base:=I.ok.mod
def Inv.kIn(I:Inv X pins σ H s):X.K.In s.heap:=I.ok.mod.kin.keeps I.bk
def Inv.nolimit(I:Inv X pins σ H s):s.heap.NoLimit:=I.ok.mod.nolimit.keeps I.bk
def Inv.lt(I:Inv X pins σ H s):X.env.locals<s.heap.objs.size:=let ⟨_,hn,_⟩:=I.loc;hn.lt
def Inv.sz(I:Inv X pins σ H s):X.s₀.heap.objs.size<=s.heap.objs.size:=le_trans I.ok.above (le_of_lt I.lt)
def Inv.nofs(I:Inv X pins σ H s){a:Addr}(h:s.heap.objs.size<=a):a∉X.fs:=λhb=>by
 obtain⟨_,o,ho,_⟩:=I.ok.funs.mem hb;exact absurd (lt_of_lt_of_le (Heap.lt_size ho) (le_trans I.sz h)) (lt_irrefl _)
def Inv.cne(I:Inv X pins σ H s):∀x c,X.env.cells.lookup x=some c->c≠X.env.locals:=λx c e z=>by
 obtain⟨v,o,ho,hd⟩:=I.cell x c e;obtain⟨m,⟨o',es,ep,ho',hd',_⟩,_⟩:=I.loc;rw[z,ho']at ho;cases ho;rw[hd']at hd;cases hd
def Inv.funs(I:Inv X pins σ H s):s.heap.FunFrames X.base X.outer:=by
 have all:∀(l:List Env),(∀b∈frs l,b∈X.fs)->X.s₀.heap.FunFrames X.base l->s.heap.FunFrames X.base l:=by
  intro l
  induction l with
  |nil=>intro _ _;trivial
  |cons env r ih=>
   intro hs hl;obtain⟨hk,⟨L,o,hf,hn,ho,hd⟩,hr⟩:=hl;have hL:L∈X.fs:=hs L (by unfold frs;rw[filterMap_cons,hf];exact mem_cons_self);obtain⟨sl,e⟩:=I.base.slot L o ho (I.ok.frf L hL) hL λz=>I.ok.exfs L z hL;exact⟨hk,⟨L,_,hf,hn,e,hd⟩,ih (λb hb=>hs b (by unfold frs;rw[filterMap_cons,hf];exact mem_cons_of_mem _ hb)) hr⟩
 exact all X.outer (λ_ hb=>hb) I.ok.funs
def Inv.stack(I:Inv X pins σ H s):s.heap.FunFrames X.base X.stack:=by
 rcases I.ok.stk with e|⟨e,hf⟩
 .rw[e];exact I.funs
 .rw[e];obtain⟨m,hn,_⟩:=I.loc;refine .cons (by rw[I.ok.kind];decide) hf hn ?_ I.funs;exact Heap.get?_none_of_le (le_trans I.ok.bsz I.ok.above)
def Inv.stkSub(I:Inv X pins σ H s):∀b∈frs X.stack,b∈X.env.locals::X.fs:=λb hb=>by
 rcases I.ok.stk with e|⟨e,hf⟩
 .rw[e]at hb;exact mem_cons_of_mem _ hb
 .rw[e]at hb;unfold frs at hb;rw[filterMap_cons,hf]at hb;exact hb
def Inv.stkFree(I:Inv X pins σ H s):∀b∈frs X.stack,H b=none:=λb hb=>by
 rcases mem_cons.mp (I.stkSub b hb)with e|hb
 .rw[e];exact I.free
 .obtain⟨_,o,ho,_⟩:=I.ok.funs.mem hb;exact I.base.free b o ho (I.ok.frf b hb) λz=>I.ok.exfs b z hb
def Inv.step{g':Array GenState}{t':Nat}{d':Drawn}{ch:List Addr}(I:Inv X pins σ H s)
 (hch:∀b∈ch,(b∈X.ex∨X.s₀.heap.objs.size<=b)/\b≠X.env.locals/\(∀x c,X.env.cells.lookup x=some c->c≠b)/\∀p∈X.pn++pins,p.1≠b)
 (keep:∀b o,b≠X.env.locals->b∉X.fs->b∉ch->s.heap.get? b=some o->H b=none->h'.get? b=some o)
 (slot:∀b o,b≠X.env.locals->b∈X.fs->b∉ch->s.heap.get? b=some o->H b=none->∃sl,h'.get? b=some { o with slots:=sl }) (free:∀b o,b∉ch->s.heap.get? b=some o->H b=none->H' b=none)
 (there:∀b o,b∉ch->s.heap.get? b=some o->∃o',h'.get? b=some o')
 (tups:∀b xs,H b=some (.tup xs)->H' b=some (.tup xs)) (frzs:∀b o u,H b=some (.frz o u)->H' b=some (.frz o u)) (tbls:∀b ps,H b=some (.tbl ps)->∃more,H' b=some (.tbl (ps++more)))
 (ns:∀m,s.heap.Ns X.env.locals m->h'.Ns X.env.locals m) (hok:HOk X.prog X.w H' h') (hg:AllBare g'):
 Inv X pins σ H' { s with heap:=h',gens:=g',drawn:=d',toks:=t' }:=by
 have neL:∀b o,X.s₀.heap.get? b=some o->b≠X.env.locals:=λb o e=>ne_of_lt (lt_of_lt_of_le (Heap.lt_size e) I.ok.above);have neC:∀b o,X.s₀.heap.get? b=some o->b∉X.ex->b∉ch:=λb o e hx hb=>by
  rcases(hch b hb).1 with z|z
  .exact hx z
  .exact absurd (lt_of_lt_of_le (Heap.lt_size e) z) (lt_irrefl _)
 have cellK:∀x c,X.env.cells.lookup x=some c->∀v,s.heap.IsCell c v->h'.IsCell c v:=λx c e v ⟨o,ho,hd⟩=>by
  have nch:c∉ch:=λz=>(hch c z).2.2.1 x c e rfl;by_cases hc:c∈X.fs
  .obtain⟨sl,q⟩:=slot c o (I.cne x c e) hc nch ho (I.freeC x c e);exact⟨_,q,hd⟩
  .exact⟨o,keep c o (I.cne x c e) hc nch ho (I.freeC x c e),hd⟩
 refine⟨I.ok,I.os,hg,⟨λb o e n hb hx=>?_,λb o e n hb hx=>?_,λb o e n hx=>?_,λb o e hx=>?_,λb xs e=>tups b xs (I.base.tups b xs e),λb o xs e=>frzs b o xs (I.base.frzs b o xs e),λb ps e=>?_⟩,?_,λx c e=>?_,?_,λx c e=>?_,λp hp=>?_,hok,I.len⟩
 .exact keep b o (neL b o e) hb (neC b o e hx) (I.base.keep b o e n hb hx) (I.base.free b o e n hx)
 .obtain⟨sl,e1⟩:=I.base.slot b o e n hb hx;obtain⟨sl',e2⟩:=slot b _ (neL b o e) hb (neC b o e hx) e1 (I.base.free b o e n hx);exact⟨sl',e2⟩
 .obtain⟨o',e1⟩:=I.base.there b o e hx;exact free b o' (neC b o e hx) e1 (I.base.free b o e n hx)
 .obtain⟨o',e1⟩:=I.base.there b o e hx;exact there b o' (neC b o e hx) e1
 .obtain⟨m1,e1⟩:=I.base.tbls b ps e;obtain⟨m2,e2⟩:=tbls b _ e1;exact⟨m1++m2,by rw[e2,Array.append_assoc]⟩
 .obtain⟨m,hn,hl⟩:=I.loc;refine⟨m,ns m hn,λi x v e1 e2 e3=>?_⟩;obtain⟨u,r,l⟩:=hl i x v e1 e2 e3;refine⟨u,r,?_⟩;rcases l with l|⟨k,c,e,z⟩
  .exact .inl l
  .exact .inr ⟨k,c,e,cellK x c e _ z⟩
 .obtain⟨v,z⟩:=I.cell x c e;exact⟨v,cellK x c e v z⟩
 .obtain⟨m,⟨o,_,_,ho,_⟩,_⟩:=I.loc;exact free _ o (λz=>(hch _ z).2.1 rfl) ho I.free
 .obtain⟨v,o,ho,hd⟩:=I.cell x c e;exact free c o (λz=>(hch c z).2.2.1 x c e rfl) ho (I.freeC x c e)
 .obtain⟨e,n,ne,nf,d⟩:=I.pin p hp;have nch:p.1∉ch:=λz=>(hch p.1 z).2.2.2 p hp rfl;exact⟨keep p.1 p.2 ne nf nch e n,free p.1 p.2 nch e n,ne,nf,d⟩
def Inv.un{t':Nat}(I:Inv X pins σ H s)(u:Un X.fs [] H H' s.heap h')(hok:HOk X.prog X.w H' h'):Inv X pins σ H' { s with heap:=h',toks:=t' }:=by
 obtain⟨m,⟨o,es,ep,ho,r⟩,_⟩:=id I.loc;obtain⟨sl,hL⟩:=u.any ho I.free (by simp);exact I.step (g':=s.gens) (d':=s.drawn) (ch:=[]) (λ_ z=>nomatch z) (λb o _ hb _ e n=>u.keep b o e n hb (by simp)) (λb o _ hb _ e n=>u.slot b o e n hb (by simp)) (λb o _ e n=>u.free b o e n (by simp)) (λb o _ e=>u.there b o e (by simp)) u.tups u.frzs u.tbls (λm' hm=>by
  obtain⟨o',es',ep',ho',r'⟩:=hm;rw[ho]at ho';cases ho';exact⟨_,es',ep',hL,r'⟩) hok I.bare
def Inv.call{g':Array GenState}{t':Nat}{d':Drawn}{ch:List Addr}(I:Inv X pins σ H s)(u:Un (frs X.stack) ch H H' s.heap h')(hok:HOk X.prog X.w H' h')(hg:AllBare g')
 (hch:∀b∈ch,(b∈X.ex∨X.s₀.heap.objs.size<=b)/\b≠X.env.locals/\(∀x c,X.env.cells.lookup x=some c->c≠b)/\∀p∈X.pn++pins,p.1≠b):
 Inv X pins σ H' { s with heap:=h',gens:=g',drawn:=d',toks:=t' }:=by
 obtain⟨m,⟨o,es,ep,ho,r⟩,_⟩:=id I.loc;obtain⟨sl,hL⟩:=u.any ho I.free λz=>(hch _ z).2.1 rfl;exact I.step (ch:=ch) hch (λb o hL hb hc e n=>u.keep b o e n (λz=>(mem_cons.mp (I.stkSub b z)).elim hL hb) hc) (λb o _ _ hc e n=>u.any e n hc) (λb o hc e n=>u.free b o e n hc) (λb o hc e=>u.there b o e hc) u.tups u.frzs u.tbls (λm' hm=>by
  obtain⟨o',es',ep',ho',r'⟩:=hm;rw[ho]at ho';cases ho';exact⟨_,es',ep',hL,r'⟩) hok hg
def Inv.turned{t':Nat}{it:Addr}(I:Inv X pins σ H s)(k:∀b o,b≠it->s.heap.get? b=some o->h'.get? b=some o)(hn:H it=none)(hL:it≠X.env.locals)
 (h1:it∈X.ex∨X.s₀.heap.objs.size<=it) (h2:∀x c,X.env.cells.lookup x=some c->c≠it) (h3:∀p∈X.pn++pins,p.1≠it):Inv X pins σ H { s with heap:=h',toks:=t' }:=by
 have nit:∀b u,H b=some u->b≠it:=λb u e z=>by rw[z,hn]at e;cases e
 refine I.step (g':=s.gens) (d':=s.drawn) (ch:=[it]) (λb hb=>?_) (λb o _ _ hc e _=>k b o (λz=>hc (by simp[z])) e) (λb o _ _ hc e _=>⟨o.slots,k b o (λz=>hc (by simp[z])) e⟩) (λ_ _ _ _ n=>n)
  (λb o hc e=>⟨o,k b o (λz=>hc (by simp[z])) e⟩) (λ_ _ e=>e) (λ_ _ _ e=>e) (λb ps e=>⟨#[],by rw[e];simp⟩) (λm hm=>?_) (λb u e=>?_) I.bare
 .have e:b=it:=by simpa using hb
  subst e;exact⟨h1,hL,h2,h3⟩
 .obtain⟨o,es,ep,ho,r⟩:=hm;exact⟨o,es,ep,k _ o (Ne.symm hL) ho,r⟩
 .refine(I.hok b u e).stay (λc v hc q=>k c v ?_ q) (λ_ q=>q) λ_ _ q=>q;rcases hc with z|z
  .rw[z];exact nit b u e
  .exact nit c _ z
def Inv.tok(I:Inv X pins σ H s)(t:Nat):Inv X pins σ H { s with toks:=t }:=I.un (h':=s.heap) (t':=t) Un.refl I.hok
def Inv.kept{t':Nat}(I:Inv X pins σ H s)(k:∀b u,s.heap.get? b=some u->h'.get? b=some u):Inv X pins σ H { s with heap:=h',toks:=t' }:=I.un (Un.kept k) (I.hok.kept k)
def Inv.laid{a:Addr}{o:HO}{t':Nat}(I:Inv X pins σ H s)(k:∀b u,s.heap.get? b=some u->h'.get? b=some u)(hp:s.heap.objs.size<=a)(new:ObjOk X.prog X.w (upd H a o) h' a o):
 Inv X pins σ (upd H a o) { s with heap:=h',toks:=t' }:=I.un (Un.laid k hp (I.hok.fresh hp)) (I.hok.laid k hp new)
def Inv.write{x e:Addr}{o:HO}{t':Nat}(I:Inv X pins σ H s)(mu:Mut (H x))(he:e=x∨H e=some (.own x))(k:∀b u,b≠e->s.heap.get? b=some u->h'.get? b=some u)(heo:∃u,h'.get? e=some u)
 (new:ObjOk X.prog X.w (upd H x o) h' x o):Inv X pins σ (upd H x o) { s with heap:=h',toks:=t' }:=I.un (Un.write mu he k heo) (I.hok.write mu he k heo new)
def Inv.pins_of{pins':List (Addr×Obj)}(I:Inv X pins σ H s)(h:∀p∈pins',s.heap.get? p.1=some p.2/\H p.1=none/\p.1≠X.env.locals/\p.1∉X.fs/\∀v,p.2.data≠.cell v):Inv X pins' σ H s:=
 ⟨I.ok,I.os,I.bare,I.base,I.loc,I.cell,I.free,I.freeC,λp hp=>(mem_append.mp hp).elim (λz=>I.pin p (mem_append_left _ z)) (h p),I.hok,I.len⟩
def M7{N:List Str}(hN:N.Nodup){i j:Nat}{x:Str}(a:N[i]?=some x)(b:N[j]?=some x):i=j:=by
 obtain⟨h1,e1⟩:=List.getElem?_eq_some_iff.mp a;obtain⟨h2,e2⟩:=List.getElem?_eq_some_iff.mp b;exact(List.getElem_inj hN).mp (e1.trans e2.symm)
def Gf{M:Model}{A:Around}{E:Value->Shared->Prop}{i:Nat}{x:Str}{v:V}{u:Value}{Q:Unit->Shared->Prop}(I:Inv X pins σ H s)(hN:X.N.Nodup)(hi:X.N[i]?=some x)(hx:Loc X.env.scope x)(r:RelV v u)
 (h:∀s',Inv X pins (σ.set i (some v)) H s'->(∃a,Heap.SameBut a s.heap s'.heap/\(a=X.env.locals∨X.env.cells.lookup x=some a))->Q () s') (hf:X.fn x=true∨X.env.scope.names.lookup x=some .local:=by first|exact .inl rfl|exact .inr rfl|assumption):wpAny M A (storeName X.env x u) Q E s:=by
 obtain⟨m,hn,hl⟩:=id I.loc;have hcls:(X.env.scope.kind==.class||(X.env.scope.kind==.module&&X.env.locals != X.env.globals))=false:=by rw[I.ok.kind];rfl
 have hiσ:i<σ.length:=by rw[I.len];exact(List.getElem?_eq_some_iff.mp hi).1
 have cne:=I.cne;have tracked:∀{a:Addr} {h':Heap},(∃o,s.heap.get? a=some o/\H a=none)->Heap.SameBut a s.heap h'->HOk X.prog X.w H h':=λ{a h'} ha hs b ob e=>by
  obtain⟨_,_,hfree⟩:=ha;refine(I.hok b ob e).stay (λc w' hc q=>(hs.2 c ?_).trans q) (λ_ q=>q) λ_ _ q=>q;rintro rfl;rcases hc with rfl|hc
  .rw[hfree]at e;cases e
  .rw[hfree]at hc;cases hc
 rcases hx with hk|hk
 .refine wpAny_storeName_local hk hn (λh' hn' hs=>?_) hcls;obtain⟨oL,_,_,hoL,_⟩:=id hn;refine h _ ⟨I.ok,I.os,I.bare,⟨λb o e n hb hx=>?_,λb o e n hb hx=>?_,I.base.free,λb o e hx=>?_,I.base.tups,I.base.frzs,I.base.tbls⟩,⟨_,hn',λj y v' e1 e2 e3=>?_⟩,λy c e=>?_,I.free,I.freeC,λp hp=>?_,tracked ⟨oL,hoL,I.free⟩ hs,by simpa using I.len⟩ ⟨_,hs,.inl rfl⟩
  .exact(hs.2 b (ne_of_lt (lt_of_lt_of_le (Heap.lt_size e) I.ok.above))).trans (I.base.keep b o e n hb hx)
  .obtain⟨sl,e1⟩:=I.base.slot b o e n hb hx;exact⟨sl,(hs.2 b (ne_of_lt (lt_of_lt_of_le (Heap.lt_size e) I.ok.above))).trans e1⟩
  .obtain⟨o',e1⟩:=I.base.there b o e hx;exact⟨o',(hs.2 b (ne_of_lt (lt_of_lt_of_le (Heap.lt_size e) I.ok.above))).trans e1⟩
  .by_cases hj:j=i
   .subst hj;rw[hi]at e1;cases e1;rw[List.getElem?_set_self hiσ]at e2;cases e2;exact⟨u,r,.inl ⟨hk,by simp⟩⟩
   .rw[List.getElem?_set_ne (Ne.symm hj)]at e2;obtain⟨u',r',q⟩:=hl j y v' e1 e2 e3;refine⟨u',r',?_⟩;rcases q with⟨k,e⟩|⟨k,c,e,z⟩
    .refine .inl ⟨k,?_⟩;have:y≠x:=λe=>hj (M7 hN e1 (e ▸ hi));simp[this,e]
    .exact .inr ⟨k,c,e,z.sameBut hs (cne y c e)⟩
  .obtain⟨w',z⟩:=I.cell y c e;exact⟨w',z.sameBut hs (cne y c e)⟩
  .obtain⟨e,n,ne,nf,d⟩:=I.pin p hp;exact⟨(hs.2 p.1 ne).trans e,n,ne,nf,d⟩
 .have hfn:X.fn x=true:=by
   rcases hf with z|z
   .exact z
   .rw[z]at hk;cases hk
  obtain⟨c,hc⟩:=I.ok.has x (.inl hk);obtain⟨w',z⟩:=I.cell x c hc;refine wpAny_storeName_cell I.ok.kind hk hc z (λh' hc' hs=>?_);obtain⟨oc,hoc,hocd⟩:=id z;refine h { s with heap:=h' } ⟨I.ok,I.os,I.bare,⟨λb o e n hb hx=>?_,λb o e n hb hx=>?_,I.base.free,λb o e hx=>?_,I.base.tups,I.base.frzs,I.base.tbls⟩,⟨m,hn.sameBut hs (Ne.symm (cne x c hc)),λj y v' e1 e2 e3=>?_⟩,λy c' e=>?_,I.free,I.freeC,λp hp=>?_,tracked ⟨oc,hoc,I.freeC x c hc⟩ hs,by simpa using I.len⟩ ⟨c,hs,.inr hc⟩
  .exact(hs.2 b (ne_of_lt (lt_of_lt_of_le (Heap.lt_size e) (I.ok.cab x c hfn hc)))).trans (I.base.keep b o e n hb hx)
  .obtain⟨sl,e1⟩:=I.base.slot b o e n hb hx;exact⟨sl,(hs.2 b (ne_of_lt (lt_of_lt_of_le (Heap.lt_size e) (I.ok.cab x c hfn hc)))).trans e1⟩
  .obtain⟨o',e1⟩:=I.base.there b o e hx;exact⟨o',(hs.2 b (ne_of_lt (lt_of_lt_of_le (Heap.lt_size e) (I.ok.cab x c hfn hc)))).trans e1⟩
  .by_cases hj:j=i
   .subst hj;rw[hi]at e1;cases e1;rw[List.getElem?_set_self hiσ]at e2;cases e2;exact⟨u,r,.inr ⟨.inl hk,c,hc,hc'⟩⟩
   .rw[List.getElem?_set_ne (Ne.symm hj)]at e2;obtain⟨u',r',q⟩:=hl j y v' e1 e2 e3;refine⟨u',r',?_⟩;rcases q with q|⟨k,c',e,z'⟩
    .exact .inl q
    .refine .inr ⟨k,c',e,z'.sameBut hs ?_⟩;rintro rfl;exact hj (M7 hN e1 (I.ok.inj _ _ _ e hc ▸ hi))
  .by_cases hcc:c'=c
   .subst hcc;exact⟨_,hc'⟩
   .obtain⟨w2,z2⟩:=I.cell y c' e;exact⟨w2,z2.sameBut hs hcc⟩
  .obtain⟨e,n,ne,nf,d⟩:=I.pin p hp;refine⟨(hs.2 p.1 ?_).trans e,n,ne,nf,d⟩;intro q;rw[q,hoc]at e;have q':oc=p.2:=Option.some.inj e;exact d w' (by rw[<- q'];exact hocd)
def La{M:Model}{A:Around}{E:Value->Shared->Prop}{i:Nat}{x:Str}{v:V}{u:Value}{Q:Unit->Shared->Prop}(I:Inv X pins σ H s)(hN:X.N.Nodup)(hi:X.N[i]?=some x)(hx:Loc X.env.scope x)(r:RelV v u)
 (h:∀s',Inv X pins (σ.set i (some v)) H s'->Q () s') (hf:X.fn x=true∨X.env.scope.names.lookup x=some .local:=by first|exact .inl rfl|exact .inr rfl|assumption):wpAny M A (storeName X.env x u) Q E s:=
 Gf I hN hi hx r (λs' I' _=>h s' I') hf
def Inv.call'{s':Shared}{ch:List Addr}(I:Inv X pins σ H s)(ho:s'.os=s.os)(u:Un (frs X.stack) ch H H' s.heap s'.heap)(hok:HOk X.prog X.w H' s'.heap)(hg:AllBare s'.gens)
 (hch:∀b∈ch,(b∈X.ex∨X.s₀.heap.objs.size<=b)/\b≠X.env.locals/\(∀x c,X.env.cells.lookup x=some c->c≠b)/\∀p∈X.pn++pins,p.1≠b):Inv X pins σ H' s':=by
 obtain⟨h',g',d',t',o'⟩:=s';have e:o'=s.os:=ho;subst e;exact I.call (g':=g') (t':=t') (d':=d') u hok hg hch
end
abbrev XK:=Value->Option Addr->Hp->Prop
abbrev St:=List (Option V)
abbrev VK:=V->Hp->Prop
abbrev TE:=St->Hp->VK->Prop
abbrev TT:=St->Hp->(Bool->Hp->Prop)->Prop
abbrev TA:=St->Hp->(List V->Hp->Prop)->Prop
structure Ends where
 nx:St->Hp->Prop
 rt:VK
 bk:St->Hp->Prop:=λ_ _=>False
 ct:St->Hp->Prop:=λ_ _=>False
abbrev TS:=Ends->St->Hp->Prop
def EP(X:Cx)(pins:List (Addr×Obj))(σ:St)(Q:VK)(u:Value)(s':Shared):Prop:=∃v H',Inv X pins σ H' s'/\RelV v u/\Q v H'
def TP(X:Cx)(pins:List (Addr×Obj))(σ:St)(Q:Bool->Hp->Prop)(b:Bool)(s':Shared):Prop:=∃H',Inv X pins σ H' s'/\Q b H'
def AP(X:Cx)(pins:List (Addr×Obj))(σ:St)(Q:List V->Hp->Prop)(us:List Value)(s':Shared):Prop:=∃vs H',Inv X pins σ H' s'/\Vals vs us/\Q vs H'
def SP(X:Cx)(pins:List (Addr×Obj))(D:Ends)(f:Flow)(s':Shared):Prop:=
 match f with
 |.next=>∃σ' H',Inv X pins σ' H' s'/\D.nx σ' H'
 |.brk=>∃σ' H',Inv X pins σ' H' s'/\D.bk σ' H'
 |.cont=>∃σ' H',Inv X pins σ' H' s'/\D.ct σ' H'
 |.ret u=>∃v σ' H',Inv X pins σ' H' s'/\RelV v u/\D.rt v H'
def PE(X:Cx)(e:Expr)(t:TE):Prop:=
 ∀(pins:List (Addr×Obj)) (s:Shared) (σ:St) (H:Hp) (Q:VK),Inv X pins σ H s->t σ H Q->wpAny (model X.prog X.w) X.A (eval e X.env) (EP X pins σ Q) X.xe s
def PT(X:Cx)(e:Expr)(t:TT):Prop:=
 ∀(pins:List (Addr×Obj)) (s:Shared) (σ:St) (H:Hp) (Q:Bool->Hp->Prop),Inv X pins σ H s->t σ H Q->wpAny (model X.prog X.w) X.A (isTrue e X.env (eval e X.env)) (TP X pins σ Q) X.xe s
def PW(X:Cx)(e:Expr)(t:TT):Prop:=
 ∀(whole:Sem Value) (pins:List (Addr×Obj)) (s:Shared) (σ:St) (H:Hp) (Q:Bool->Hp->Prop),Inv X pins σ H s->t σ H Q->wpAny (model X.prog X.w) X.A (isTrue e X.env whole) (TP X pins σ Q) X.xe s
def PW.pt{X:Cx}{e:Expr}{t:TT}(h:PW X e t):PT X e t:=h _
def PA(X:Cx)(es:List Expr)(t:TA):Prop:=
 ∀(pos:Pos) (pins:List (Addr×Obj)) (s:Shared) (σ:St) (H:Hp) (Q:List V->Hp->Prop),Inv X pins σ H s->t σ H Q->wpAny (model X.prog X.w) X.A (spliced (backTo pos (starEach es X.env))) (AP X pins σ Q) X.xe s
def PS(X:Cx)(st:Stmt)(t:TS):Prop:=
 ∀(pins:List (Addr×Obj)) (s:Shared) (σ:St) (H:Hp) (D:Ends),Inv X pins σ H s->t D σ H->wpAny (model X.prog X.w) X.A (exec st X.env) (SP X pins D) X.xe s
def PSs(X:Cx)(st:List Stmt)(t:TS):Prop:=
 ∀(pins:List (Addr×Obj)) (s:Shared) (σ:St) (H:Hp) (D:Ends),Inv X pins σ H s->t D σ H->wpAny (model X.prog X.w) X.A (execs st X.env) (SP X pins D) X.xe s
def thn{α:Type}{t:Sem α}{Q Q':α->Shared->Prop}{M:Model}{A:Around}{E:Value->Shared->Prop}{s:Shared}(h:wpAny M A t Q E s)(hQ:∀a s,Q a s->Q' a s):wpAny M A t Q' E s:=wpAny_mono h hQ λ_ _ x=>x
section
variable{X:Cx}
def bin{a b:Expr}{ta tb:TE}(ha:PE X a ta)(hb:PE X b tb){pins:List (Addr×Obj)}{s:Shared}{σ:St}{H:Hp}{R:V->V->Hp->Prop}(I:Inv X pins σ H s)(h:ta σ H λx H1=>tb σ H1 λy H2=>R x y H2)
 {α:Type} {Q:α->Shared->Prop} {f:Value->Value->Sem α}
 (hf:∀v u s2 x y H2,Inv X pins σ H2 s2->RelV x v->RelV y u->R x y H2->wpAny (model X.prog X.w) X.A (f v u) Q X.xe s2):
 wpAny (model X.prog X.w) X.A (eval a X.env) (λv s₁=>wpAny (model X.prog X.w) X.A (eval b X.env) (λu s₂=>wpAny (model X.prog X.w) X.A (f v u) Q X.xe s₂) X.xe s₁) X.xe s:=by
 refine thn (ha pins s σ H _ I h) λv s1 ⟨x,H1,I1,r1,q1⟩=>?_;refine thn (hb pins s1 σ H1 _ I1 q1) λu s2 ⟨y,H2,I2,r2,q2⟩=>?_;exact hf v u s2 x y H2 I2 r1 r2 q2
def Rs(i:Nat):TE:=λσ H Q=>∃v,σ[i]?=some (some v)/\Q v H
def tC(v:V):TE:=λ_ H Q=>Q v H
def Yk{i:Nat}{x:Str}{pos:Pos}(hN:X.N[i]?=some x)(hv:Vis X.env.scope x)(hd:(x==("__debug__":Str))=false:=by decide)(hcd:(x==("__classdict__":Str))=false:=by decide):PE X (.Name x pos) (Rs i):=by
 intro pins s σ H Q I h;obtain⟨v,e,h⟩:=h;obtain⟨m,hn,hl⟩:=I.loc;obtain⟨u,r,l⟩:=hl i x v hN e hv;have fin:EP X pins σ Q u s:=⟨v,H,I,r,h⟩
 rcases l with⟨hk,hm⟩|⟨hk,c,hc,hcell⟩
 .exact wpAny_Name (wpAny_loadName_local I.ok.kind hk hn hm fin) hd
 .rcases hk with hk|hk
  .exact wpAny_Name (wpAny_loadName_cell I.ok.kind hk hc hcell fin) hd
  .exact wpAny_Name (wpAny_loadName_free I.ok.kind hk hc hcell fin hcd) hd
def Ys{i j pos}:PE X (.Constant (.int i) j pos) (tC (.int i)):=λ_ _ _ H _ I h=>wpAny_Constant_int ⟨.int i,H,I.tok _,⟨_,rfl⟩,h⟩
def aM{b j pos}:PE X (.Constant (.bool b) j pos) (tC (.bl b)):=λ_ _ _ H _ I h=>Constant_bool ⟨.bl b,H,I,rfl,h⟩
def Yp{j pos}:PE X (.Constant .none j pos) (tC .non):=λ_ _ _ H _ I h=>Constant_none ⟨.non,H,I,rfl,h⟩
def Ym{x j pos}:PE X (.Constant (.str x) j pos) (tC (.str x)):=λ_ _ _ H _ I h=>Calls.Constant_str ⟨.str x,H,I.tok _,⟨_,rfl⟩,h⟩
def Gl(X:Cx)(x:Str):Prop:=X.env.kindOf x=some .globalImplicit
def WZ{E:Value->Shared->Prop}{pins:List (Addr×Obj)}{s:Shared}{σ:St}{H:Hp}{x:Str}{u:Value}{pos:Pos}{Q:Value->Shared->Prop}(I:Inv X pins σ H s)(hg:Gl X x)(hm:X.mg x=some u)(h:Q u s)
 (hd:(x==("__debug__":Str))=false:=by decide):wpAny (model X.prog X.w) X.A (eval (.Name x pos) X.env) Q E s:=
 Calls.Name_function_global I.ok.kind hg (Calls.loadGlobal_global (by rw[I.ok.glob];exact I.mod.glob.keeps I.bk) hm h) hd
def D3{E:Value->Shared->Prop}{pins:List (Addr×Obj)}{s:Shared}{σ:St}{H:Hp}{x:Str}{u:Value}{pos:Pos}{Q:Value->Shared->Prop}(I:Inv X pins σ H s)(hg:Gl X x)(hm:X.mg x=none)(hv:bootBuiltins x=some u)(h:Q u s)
 (hn:x≠"__name__":=by decide) (hd:(x==("__debug__":Str))=false:=by decide):wpAny (model X.prog X.w) X.A (eval (.Name x pos) X.env) Q E s:=by
 obtain⟨mb,h1,h2⟩:=I.mod.blt;exact Calls.Name_function_global I.ok.kind hg (Calls.loadGlobal_builtin (by rw[I.ok.glob];exact I.mod.glob.keeps I.bk) hm (by rw[I.ok.blt];exact h1.keeps I.bk) ((h2 x hn).trans hv) h) hd
variable{a b:Expr}{ta tb:TE}{pos:Pos}
def PC(X:Cx)(op:CmpOp)(a b:Expr)(t:TE):Prop:=
 ∀(pins:List (Addr×Obj)) (s:Shared) (σ:St) (H:Hp) (Q:VK),Inv X pins σ H s->t σ H Q ->
   wpAny (model X.prog X.w) X.A (eval a X.env) (λv s₁=>wpAny (model X.prog X.w) X.A (eval b X.env) (λu s₂=>wpAny (model X.prog X.w) X.A (compareOp op v u) (EP X pins σ Q) X.xe s₂) X.xe s₁) X.xe s
def M8(b:Expr){op:CmpOp}(h:op≠.In)(h2:op≠.NotIn):behindInMarks op b=false:=by
 have e1:(op==CmpOp.In)=false:=by cases op<;>first|rfl|exact absurd rfl h
 have e2:(op==CmpOp.NotIn)=false:=by cases op<;>first|rfl|exact absurd rfl h2
 cases b<;>simp[behindInMarks,e1,e2]
def OI(ta:TE):TE:=λσ H Q=>ta σ H λx H1=>Q (.bl (decide (x=.non))) H1
def LD(ta:TE):TE:=λσ H Q=>ta σ H λx H1=>Q (.bl (!decide (x=.non))) H1
def RelV.none_iff{x:V}{v:Value}(r:RelV x v):(v==Value.none)=decide (x=.non):=by
 cases x with
 |non=>cases r;rfl
 |bl _=>cases r;rfl
 |int _=>obtain⟨t,rfl⟩:=r;rfl
 |str _=>obtain⟨t,rfl⟩:=r;rfl
 |byt _=>obtain⟨t,rfl⟩:=r;rfl
 |flt _=>obtain⟨t,rfl⟩:=r;rfl
 |ref _=>cases r;rfl
 |ty _=>cases r;rfl
def QZ{j pos'}(ha:PE X a ta):PC X .Is a (.Constant .none j pos') (OI ta):=by
 intro pins s σ H Q I h;refine thn (ha pins s σ H _ I h) λv s1 ⟨x,H1,I1,r1,q1⟩=>?_;exact Constant_none (is_none_gen ⟨.bl _,H1,I1,by rw[r1.none_iff];rfl,q1⟩)
def Ng{j pos'}(ha:PE X a ta):PC X .IsNot a (.Constant .none j pos') (LD ta):=by
 intro pins s σ H Q I h;refine thn (ha pins s σ H _ I h) λv s1 ⟨x,H1,I1,r1,q1⟩=>?_;exact Constant_none (isnot_none_gen ⟨.bl _,H1,I1,by rw[r1.none_iff];rfl,q1⟩)
def tB(t:TE):TT:=λσ H Q=>t σ H λx H1=>∃c,x=.bl c/\Q c H1
def QY{op:CmpOp}{t:TE}(h:PC X op a b t)(h1:behindInMarks op b=false:=by first|exact M8 _ (by decide) (by decide)|rfl):PE X (.Compare a [op] [b] pos) t:=λpins s σ H Q I hw=>wpAny_Compare1 (h pins s σ H Q I hw) h1
def M1{op:CmpOp}{t:TE}(h:PC X op a b t)(h1:behindInMarks op b=false:=by first|exact M8 _ (by decide) (by decide)|rfl):PT X (.Compare a [op] [b] pos) (tB t):=by
 intro pins s σ H Q I hw;refine wpAny_isTrue_Compare1 (thn (h pins s σ H _ I hw) λv s1 h1=>thn h1 λu s2 h2=>thn h2 λc s3 ⟨x,H1,I1,r1,q1⟩=>?_) h1;obtain⟨d,rfl,q⟩:=q1;cases r1;exact wpAny_truthy_bool ⟨H1,I1,q⟩
variable{tA tB':TT}{rest:List Expr}
def S7(t u:TT):TT:=λσ H Q=>t σ H λc H1=>if c=true then u σ H1 Q else Q false H1
def tOr(t u:TT):TT:=λσ H Q=>t σ H λc H1=>if c=true then Q true H1 else u σ H1 Q
def Rz(t:TT):TT:=λσ H Q=>t σ H λc H1=>Q (!c) H1
def Vl(ha:PT X a tA):PW X (.BoolOp .And [a] pos) tA:=by
 intro wh pins s σ H Q I h;refine isTrue_and (thn (ha pins s σ H Q I h) λc s1 e=>?_);cases c with
 |true=>exact isTrue_and_nil e
 |false=>exact e
def YV(ha:PT X a tA):PW X (.BoolOp .Or [a] pos) tA:=by
 intro wh pins s σ H Q I h;refine isTrue_or (thn (ha pins s σ H Q I h) λc s1 e=>?_);cases c with
 |false=>exact isTrue_or_nil e
 |true=>exact e
def YW(ha:PT X a tA)(hb:PW X (.BoolOp .And (b::rest) pos) tB'):PW X (.BoolOp .And (a::b::rest) pos) (S7 tA tB'):=by
 intro wh pins s σ H Q I h;refine isTrue_and (thn (ha pins s σ H _ I h) λc s1 ⟨H1,I1,q1⟩=>?_);cases c with
 |true=>exact hb wh pins s1 σ H1 Q I1 q1
 |false=>exact⟨H1,I1,q1⟩
def aE(ha:PT X a tA)(hb:PW X (.BoolOp .Or (b::rest) pos) tB'):PW X (.BoolOp .Or (a::b::rest) pos) (tOr tA tB'):=by
 intro wh pins s σ H Q I h;refine isTrue_or (thn (ha pins s σ H _ I h) λc s1 ⟨H1,I1,q1⟩=>?_);cases c with
 |true=>exact⟨H1,I1,q1⟩
 |false=>exact hb wh pins s1 σ H1 Q I1 q1
def YX(ha:PT X a tA):PT X (.UnaryOp .Not a pos) (Rz tA):=by
 intro pins s σ H Q I h;exact isTrue_not (ha pins s σ H (λc H1=>Q (!c) H1) I h)
def ON(ta tb:TE):TE:=λσ H Q=>ta σ H λx H1=>∃c,x=.bl c/\if c=true then tb σ H1 Q else Q (.bl false) H1
def Ry(ta tb:TE):TE:=λσ H Q=>ta σ H λx H1=>∃c,x=.bl c/\if c=true then Q (.bl true) H1 else tb σ H1 Q
def OH(ta:TE):TE:=λσ H Q=>ta σ H λx H1=>∃c,x=.bl c/\Q (.bl (!c)) H1
def Yn{op}{t:TE}(h:PE X a t):PE X (.BoolOp op [a] pos) t:=λpins s σ H Q I hw=>BoolOp_one (h pins s σ H Q I hw)
def Yt(ha:PE X a ta)(hb:PE X (.BoolOp .And (b::rest) pos) tb):PE X (.BoolOp .And (a::b::rest) pos) (ON ta tb):=by
 intro pins s σ H Q I h;refine BoolOp_and (thn (ha pins s σ H _ I h) λv s1 ⟨x,H1,I1,r1,q1⟩=>?_);obtain⟨c,rfl,q1⟩:=q1;cases r1;refine wpAny_truthy_bool ?_;cases c with
 |true=>exact hb pins s1 σ H1 Q I1 q1
 |false=>exact⟨.bl false,H1,I1,rfl,q1⟩
def aK(ha:PE X a ta)(hb:PE X (.BoolOp .Or (b::rest) pos) tb):PE X (.BoolOp .Or (a::b::rest) pos) (Ry ta tb):=by
 intro pins s σ H Q I h;refine BoolOp_or (thn (ha pins s σ H _ I h) λv s1 ⟨x,H1,I1,r1,q1⟩=>?_);obtain⟨c,rfl,q1⟩:=q1;cases r1;refine wpAny_truthy_bool ?_;cases c with
 |false=>exact hb pins s1 σ H1 Q I1 q1
 |true=>exact⟨.bl true,H1,I1,rfl,q1⟩
def Yo(ha:PE X a ta):PE X (.UnaryOp .Not a pos) (OH ta):=by
 intro pins s σ H Q I h;refine UnaryOp_ (thn (ha pins s σ H _ I h) λv s1 ⟨x,H1,I1,r1,q1⟩=>?_);obtain⟨c,rfl,q1⟩:=q1;cases r1;exact not_of (wpAny_truthy_bool ⟨.bl (!c),H1,I1,rfl,q1⟩)
def tIf(t:TT)(ta tb:TE):TE:=λσ H Q=>t σ H λc H1=>if c=true then ta σ H1 Q else tb σ H1 Q
def T9{c:Expr}(hc:PT X c tA)(ha:PE X a ta)(hb:PE X b tb):PE X (.IfExp c a b pos) (tIf tA ta tb):=by
 intro pins s σ H Q I h;refine wpAny_IfExp (thn (hc pins s σ H _ I h) λd s1 ⟨H1,I1,q1⟩=>?_);cases d with
 |true=>exact ha pins s1 σ H1 Q I1 q1
 |false=>exact hb pins s1 σ H1 Q I1 q1
end
def SqL(K:PySem.W.Frag)(H:Hp)(a:Addr)(xs:List V):Prop:=
 Rd H a (.lst xs) ∨
  ∃(o:Obj) (its:Array Value) (n:Nat),K.lookup a=some o/\o.cls=.type "list"/\o.dict=none/\o.data=.seq its n/\its.size<=sizeLine/\Vals xs its.toList
def SqT(K:PySem.W.Frag)(H:Hp)(a:Addr)(xs:List V):Prop:=
 Rd H a (.tup xs) ∨
  ∃(o:Obj) (its:Array Value) (n:Nat),K.lookup a=some o/\o.cls=.type "tuple"/\o.dict=none/\o.data=.seq its n/\its.size<=sizeLine/\Vals xs its.toList
def bY:Value->Option V
 |.none=>some .non
 |.bool b=>some (.bl b)
 |.int i _=>some (.int i)
 |.str x _=>some (.str x)
 |.bytes b _=>some (.byt b)
 |.float b _=>some (.flt b)
 |.ref a=>some (.ref a)
 |.type n=>some (.ty n)
 |_=>none
def RelV.abs{x:V}{u:Value}(r:RelV x u):bY u=some x:=by
 cases x with
 |non=>cases r;rfl
 |bl _=>cases r;rfl
 |int _=>obtain⟨t,rfl⟩:=r;rfl
 |str _=>obtain⟨t,rfl⟩:=r;rfl
 |byt _=>obtain⟨t,rfl⟩:=r;rfl
 |flt _=>obtain⟨t,rfl⟩:=r;rfl
 |ref _=>cases r;rfl
 |ty _=>cases r;rfl
def RelV.inj{x y:V}{u:Value}(r:RelV x u)(q:RelV y u):x=y:=Option.some.inj (r.abs.symm.trans q.abs)
def Vals.inj:∀{xs ys:List V} {us:List Value},Vals xs us->Vals ys us->xs=ys
 |_,_,_,.nil,.nil=>rfl
 |_,_,_,.cons r t,.cons r' t'=>by rw[r.inj r',Vals.inj t t']
section
variable{X:Cx}{pins:List (Addr×Obj)}{σ:St}{H:Hp}{s:Shared}{a:Addr}{xs ys:List V}
def SqL.of{K:PySem.W.Frag}(h:H a=some (.lst xs)):SqL K H a xs:=.inl (.inl h)
def SqT.of{K:PySem.W.Frag}(h:H a=some (.tup xs)):SqT K H a xs:=.inl (.inl h)
def Inv.list(I:Inv X pins σ H s)(h:SqL X.K H a xs):∃its:List Value,Vals xs its/\PlainL s.heap a its.toArray/\xs.length<=sizeLine:=by
 rcases h with h|⟨o,its,n,hk,hc,hd,hs,hz,r⟩
 .obtain⟨z,its,n,r,e⟩:=h.ok I.hok;exact⟨its,r,⟨_,n,e,rfl,rfl,rfl⟩,z⟩
 .refine⟨its.toList,r,⟨o,n,I.kIn a o hk,hc,hd,by simpa using hs⟩,?_⟩;have e:=r.length;simp only[Array.length_toList]at e;omega
def Inv.tuple(I:Inv X pins σ H s)(h:SqT X.K H a xs):∃its:List Value,Vals xs its/\IsTup s.heap a its.toArray/\xs.length<=sizeLine:=by
 rcases h with h|⟨o,its,n,hk,hc,_,hs,hz,r⟩
 .obtain⟨z,its,r,p⟩:=h.ok I.hok;exact⟨its,r,p.t,z⟩
 .refine⟨its.toList,r,⟨o,I.kIn a o hk,hc,n,by simpa using hs⟩,?_⟩;have e:=r.length;simp only[Array.length_toList]at e;omega
def Inv.list_inj(I:Inv X pins σ H s)(h:SqL X.K H a xs)(h':SqL X.K H a ys):xs=ys:=by
 obtain⟨its,r,⟨o,n,e,_,_,d⟩,_⟩:=I.list h;obtain⟨its',r',⟨o',n',e',_,_,d'⟩,_⟩:=I.list h';rw[e]at e';cases e';rw[d]at d'
 injection d' with d1 _
 have:its=its':=by simpa using congrArg Array.toList d1
 subst this;exact r.inj r'
def Inv.tuple_inj(I:Inv X pins σ H s)(h:SqT X.K H a xs)(h':SqT X.K H a ys):xs=ys:=by
 obtain⟨its,r,⟨o,e,_,n,d⟩,_⟩:=I.tuple h;obtain⟨its',r',⟨o',e',_,n',d'⟩,_⟩:=I.tuple h';rw[e]at e';cases e';rw[d]at d'
 injection d' with d1 _
 have:its=its':=by simpa using congrArg Array.toList d1
 subst this;exact r.inj r'
end
abbrev Cx.wish(X:Cx)(E:Value->Shared->Prop):Cx:={ X with xe:=E }
abbrev Cx.nox(X:Cx):Cx:=X.wish λ_ _=>False
def Cx.Ok.wish{X:Cx}(ok:X.Ok)(E:Value->Shared->Prop):(X.wish E).Ok:=
 ⟨ok.mod,ok.kind,ok.glob,ok.blt,ok.above,ok.inj,ok.has,ok.cab,ok.hd,ok.frames,ok.stk,ok.exf,ok.bs,ok.bsz,ok.noex,ok.exfs,ok.funs,ok.frf⟩
def Cx.Ok.unwish{X:Cx}{E:Value->Shared->Prop}(ok:(X.wish E).Ok):X.Ok:=
 ⟨ok.mod,ok.kind,ok.glob,ok.blt,ok.above,ok.inj,ok.has,ok.cab,ok.hd,ok.frames,ok.stk,ok.exf,ok.bs,ok.bsz,ok.noex,ok.exfs,ok.funs,ok.frf⟩
section
variable{X:Cx}{pins:List (Addr×Obj)}{σ:St}{H:Hp}{s:Shared}{E:Value->Shared->Prop}
def Inv.wish(I:Inv X pins σ H s)(E:Value->Shared->Prop):Inv (X.wish E) pins σ H s:=⟨I.ok.wish E,I.os,I.bare,I.base,I.loc,I.cell,I.free,I.freeC,I.pin,I.hok,I.len⟩
def Inv.unwish(I:Inv (X.wish E) pins σ H s):Inv X pins σ H s:=⟨I.ok.unwish,I.os,I.bare,I.base,I.loc,I.cell,I.free,I.freeC,I.pin,I.hok,I.len⟩
def SP.unwish{D:Ends}{f:Flow}{s':Shared}(h:SP (X.wish E) pins D f s'):SP X pins D f s':=by
 cases f with
 |next=>obtain⟨σ',H',I,q⟩:=h;exact⟨σ',H',I.unwish,q⟩
 |brk=>obtain⟨σ',H',I,q⟩:=h;exact⟨σ',H',I.unwish,q⟩
 |cont=>obtain⟨σ',H',I,q⟩:=h;exact⟨σ',H',I.unwish,q⟩
 |ret u=>obtain⟨v,σ',H',I,r,q⟩:=h;exact⟨v,σ',H',I.unwish,r,q⟩
def PSs.nox{st:List Stmt}{t:TS}(h:PSs X.nox st t):PSs X st t:=λpins s σ H D I hw=>
 wpAny_mono (h pins s σ H D (I.wish _) hw) (λ_ _ q=>q.unwish) λ_ _ z=>False.elim z
end
section
variable{X:Cx}{st:Stmt}{rest:List Stmt}{t u:TS}{e:Expr}{te:TE}{pos:Pos}
def Ie:TS:=λD σ H=>D.nx σ H
def Rv(t u:TS):TS:=λD σ H=>t { D with nx:=u D } σ H
def Vn:PSs X [] Ie:=λ_ _ σ H _ I h=>wpAny_execs_nil ⟨σ,H,I,h⟩
def Sw(h1:PS X st t)(h2:PSs X rest u):PSs X (st::rest) (Rv t u):=by
 intro pins s σ H D I h;refine wpAny_execs_cons (thn (h1 pins s σ H { D with nx:=u D } I h) λf s1 q=>?_);cases f with
 |next=>
  obtain⟨σ',H',I',q⟩:=q;exact h2 pins s1 σ' H' D I' q
 |ret v=>exact q
 |brk=>exact q
 |cont=>exact q
def Vm(h1:PS X st t):PSs X [st] t:=by
 intro pins s σ H D I h;refine wpAny_execs_cons (thn (h1 pins s σ H D I h) λf s1 q=>?_);cases f with
 |next=>exact wpAny_execs_nil q
 |ret v=>exact q
 |brk=>exact q
 |cont=>exact q
def Vp:PS X (.Pass pos) Ie:=λ_ _ σ H _ I h=>wpAny_Pass ⟨σ,H,I,h⟩
def Inv.quiet{pins:List (Addr×Obj)}{σ:St}{H:Hp}{s:Shared}(I:Inv X pins σ H s):interactive X.env=false:=by simp[interactive,I.ok.kind]
def OJ(te:TE):TS:=λD σ H=>te σ H λ_ H1=>D.nx σ H1
def Vq(he:PE X e te)(hs:swapsWith e none pos.line X.env=pure false:=by rfl):PS X (.Expr e pos) (OJ te):=by
 intro pins s σ H D I h;exact wpAny_Expr_any (thn (he pins s σ H _ I h) λv s1 ⟨x,H1,I1,r1,q1⟩=>⟨σ,H1,I1,q1⟩) I.quiet hs
def Rx(te:TE):TS:=λD σ H=>te σ H D.rt
def YZ(he:PE X e te):PS X (.Return (some e) pos) (Rx te):=by
 intro pins s σ H D I h;exact wpAny_Return_some (thn (he pins s σ H _ I h) λv s1 ⟨x,H1,I1,r1,q1⟩=>⟨x,σ,H1,I1,r1,q1⟩)
def S5(c:TT)(t u:TS):TS:=λD σ H=>c σ H λb H1=>if b=true then t D σ H1 else u D σ H1
def aF{c:Expr}{a b:List Stmt}{tc:TT}(hc:PT X c tc)(ha:PSs X a t)(hb:PSs X b u):PS X (.If c a b pos) (S5 tc t u):=by
 intro pins s σ H D I h;refine wpAny_If (thn (hc pins s σ H _ I h) λd s1 ⟨H1,I1,q1⟩=>?_);cases d with
 |true=>exact ha pins s1 σ H1 D I1 q1
 |false=>exact hb pins s1 σ H1 D I1 q1
def LY:TS:=λ_ _ _=>False
def Sy:PS X st LY:=λ_ _ _ _ _ _ h=>h.elim
end
abbrev TG:=V->St->Hp->(St->Hp->Prop)->Prop
abbrev TGs:=List V->St->Hp->(St->Hp->Prop)->Prop
def PG(X:Cx)(target:Expr)(t:TG):Prop:=
 ∀(pins:List (Addr×Obj)) (s:Shared) (σ:St) (H:Hp) (v:V) (u:Value) (Q:St->Hp->Prop),Inv X pins σ H s->RelV v u->t v σ H Q ->
   wpAny (model X.prog X.w) X.A (assign target X.env u) (λ_ s'=>∃σ' H',Inv X pins σ' H' s'/\Q σ' H') X.xe s
def PGs(X:Cx)(ts:List Expr)(t:TGs):Prop:=
 ∀(pins:List (Addr×Obj)) (s:Shared) (σ:St) (H:Hp) (vs:List V) (us:List Value) (Q:St->Hp->Prop),Inv X pins σ H s->Vals vs us->t vs σ H Q ->
   wpAny (model X.prog X.w) X.A (assignInOrder ((assignEach ts X.env).map (·.2)) us) (λ_ s'=>∃σ' H',Inv X pins σ' H' s'/\Q σ' H') X.xe s
abbrev Mw:=V->V->V->Hp->(Hp->Prop)->Prop
def Tz(X:Cx)(t:Mw):Prop:=
 ∀(pins:List (Addr×Obj)) (s:Shared) (σ:St) (H:Hp) (o i v:V) (ov iv u:Value) (Q:Hp->Prop),Inv X pins σ H s->RelV o ov->RelV i iv->RelV v u->t o i v H Q ->
   wpAny (model X.prog X.w) X.A (setItem ov iv u) (λ_ s'=>∃H',Inv X pins σ H' s'/\Q H') X.xe s
abbrev TIp:=V->V->Hp->VK->Prop
def PIp(X:Cx)(op:Operator)(t:TIp):Prop:=
 ∀(pins:List (Addr×Obj)) (s:Shared) (σ:St) (H:Hp) (x y:V) (v u:Value) (Q:VK),Inv X pins σ H s->RelV x v->RelV y u->t x y H Q ->
   wpAny (model X.prog X.w) X.A (inplaceOp op v u) (EP X pins σ Q) X.xe s
section
variable{X:Cx}{pos:Pos}
def Co(i:Nat):TG:=λv σ H Q=>Q (σ.set i (some v)) H
def W3{i:Nat}{x:Str}(hN:X.N.Nodup)(hi:X.N[i]?=some x)(hx:Loc X.env.scope x)(hf:X.fn x=true∨X.env.scope.names.lookup x=some .local:=by first|exact .inl rfl|exact .inr rfl|assumption):PG X (.Name x pos) (Co i):=by
 intro pins s σ H v u Q I r h;exact wpAny_assign_Name (La I hN hi hx r (λs' I'=>⟨_,H,I',h⟩) hf)
def Tj:TGs:=λvs σ H Q=>vs=[]/\Q σ H
def PB(t:TG)(u:TGs):TGs:=λvs σ H Q=>∃v r,vs=v::r/\t v σ H λσ' H'=>u r σ' H' Q
def W1:PGs X [] Tj:=by
 intro pins s σ H vs us Q I r h;obtain⟨e,h⟩:=h;subst e;cases r;exact assignInOrder_nil ⟨σ,H,I,h⟩
def T7{e:Expr}{es:List Expr}{t:TG}{u:TGs}(h1:PG X e t)(h2:PGs X es u)
 (hs:(assignEach (e::es) X.env).map (·.2)=assign e X.env::(assignEach es X.env).map (·.2):=by rfl):PGs X (e::es) (PB t u):=by
 intro pins s σ H vs us Q I r h;obtain⟨v,vr,e1,h⟩:=h;subst e1;cases r with
 |cons r rr=>
  rw[hs];refine assignInOrder_cons (thn (h1 pins s σ H _ _ _ I r h) λ_ s1 ⟨σ1,H1,I1,q1⟩=>?_);exact h2 pins s1 σ1 H1 _ _ Q I1 rr q1
def P9(K:PySem.W.Frag)(n:Nat)(t:TGs):TG:=λv σ H Q=>∃a xs,v=.ref a/\SqT K H a xs/\xs.length=n/\t xs σ H Q
def Yg{es:List Expr}{k:Nat}{t:TGs}{n:Nat}(hc:X.calm=true)(h:PGs X es t)
 (hn:(assignEach es X.env).length=n:=by rfl) (hst:(assignEach es X.env).findIdx? (·.1)=none:=by rfl):PG X (.Tuple es k pos) (P9 X.K n t):=by
 intro pins s σ H v u Q I r hw;obtain⟨a,xs,e1,hq,hl,hw⟩:=hw;subst e1;cases r;obtain⟨its,rv,ht,hz⟩:=I.tuple hq;refine assign_Tuple_tuple (I.ok.hd hc) ht (by simp[hn,<- hl,rv.length]) hst λh' hx=>?_;have I1:Inv X pins σ H { s with heap:=h' }:=I.kept (t':=s.toks) λb o e=>hx b o (ne_of_lt (Heap.lt_size e)) e;exact h pins _ σ H xs _ Q I1 (by simpa using rv) hw
def Th(to ti:TE)(t:Mw):TG:=λv σ H Q=>to σ H λo H1=>ti σ H1 λi H2=>t o i v H2 λH3=>Q σ H3
def Yh{o i:Expr}{to ti:TE}{t:Mw}(ho:PE X o to)(hi:PE X i ti)(hs:Tz X t)
 (ha:∀v,assign (.Subscript o i pos) X.env v=(do
  let ov <- holding [v] (eval o X.env)
  let iv <- holding [v,ov] (eval i X.env)
  standAt pos
  holding [v,ov,iv] (setItem ov iv v)
  release [v,ov,iv] []):=by intro _;rfl):PG X (.Subscript o i pos) (Th to ti t):=by
 intro pins s σ H v u Q I r h;rw[ha];refine wpAny_bind (wpAny_holding (thn (ho pins s σ H _ I h) λov s1 ⟨x,H1,I1,r1,q1⟩=>?_));refine wpAny_bind (wpAny_holding (thn (hi pins s1 σ H1 _ I1 q1) λiv s2 ⟨y,H2,I2,r2,q2⟩=>?_));refine wpAny_bind (wpAny_standAt (wpAny_bind (wpAny_holding (thn (hs pins s2 σ H2 x y v ov iv u _ I2 r1 r2 r q2) λ_ s3 ⟨H3,I3,q3⟩=>?_))));exact wpAny_release ⟨σ,H3,I3,q3⟩
def DL(te:TE)(g:TG):TS:=λD σ H=>te σ H λx H1=>g x σ H1 D.nx
def QL{tg e:Expr}{te:TE}{g:TG}(he:PE X e te)(hg:PG X tg g)(hs:swapsWithSole [tg] e pos.line X.env=pure false:=by rfl)(hw:swappedStores [tg] e X.env=pure none:=by rfl)
 (h1:(assignEach [tg] X.env).map (·.2)=[assign tg X.env]:=by rfl):PS X (.Assign [tg] e pos) (DL te g):=by
 intro pins s σ H D I h;refine wpAny_Assign_stores (thn (he pins s σ H _ I h) λv s1 ⟨x,H1,I1,r1,q1⟩=>?_) hs hw;rw[h1];exact thn (hg pins s1 σ H1 x v _ I1 r1 q1) λ_ s2 q=>q
def YY{i:Nat}{x:Str}{e:Expr}{te:TE}{pos':Pos}(hN:X.N.Nodup)(hi:X.N[i]?=some x)(hx:Loc X.env.scope x)(he:PE X e te)(hs:swapsWith e (some (.Name x pos')) pos.line X.env=pure false:=by rfl)(hf:X.fn x=true∨X.env.scope.names.lookup x=some .local:=by first|exact .inl rfl|exact .inr rfl|assumption):
 PS X (.Assign [.Name x pos'] e pos) (DL te (Co i)):=by
 intro pins s σ H D I h;refine wpAny_Assign_Name (thn (he pins s σ H _ I h) λv s1 ⟨y,H1,I1,r1,q1⟩=>?_) hs;exact La I1 hN hi hx r1 (λs2 I2=>⟨_,H1,I2,q1⟩) hf
def OM(to ti te:TE)(tget:V->V->Hp->VK->Prop)(tip:TIp)(tset:Mw):TS:=λD σ H=>to σ H λo H1=>ti σ H1 λi H2=>tget o i H2 λx H3=>te σ H3 λy H4=>tip x y H4 λz H5=>tset o i z H5 λH6=>D.nx σ H6
def Zh(X:Cx)(t:V->V->Hp->VK->Prop):Prop:=
 ∀(pins:List (Addr×Obj)) (s:Shared) (σ:St) (H:Hp) (o i:V) (ov iv:Value) (Q:VK),Inv X pins σ H s->RelV o ov->RelV i iv->t o i H Q ->
   wpAny (model X.prog X.w) X.A (getItem ov iv) (EP X pins σ Q) X.xe s
def Vs{o i e:Expr}{to ti te:TE}{tget:V->V->Hp->VK->Prop}{tip:TIp}{tset:Mw}{op:Operator}{tpos:Pos}(ho:PE X o to)(hi:PE X i ti)(hg:Zh X tget)(he:PE X e te)(hp:PIp X op tip)(hs:Tz X tset)
 (ha:∀ov iv new,augStore i ov iv new=(do holding [new,ov,iv] (setItem ov iv new);release [new,ov,iv] [];pure .next):=by intros;rfl):PS X (.AugAssign (.Subscript o i tpos) op e pos) (OM to ti te tget tip tset):=by
 intro pins s σ H D I h;refine wpAny_AugAssign_SubscriptAny (thn (ho pins s σ H _ I h) λov s1 ⟨x1,H1,I1,r1,q1⟩=>?_) ha;refine thn (hi pins s1 σ H1 _ I1 q1) λiv s2 ⟨x2,H2,I2,r2,q2⟩=>?_;refine thn (hg pins s2 σ H2 x1 x2 ov iv _ I2 r1 r2 q2) λold s3 ⟨x3,H3,I3,r3,q3⟩=>?_;refine thn (he pins s3 σ H3 _ I3 q3) λv s4 ⟨x4,H4,I4,r4,q4⟩=>?_;refine thn (hp pins s4 σ H4 x3 x4 old v _ I4 r3 r4 q4) λnew s5 ⟨x5,H5,I5,r5,q5⟩=>?_;exact thn (hs pins s5 σ H5 x1 x2 x5 ov iv new _ I5 r1 r2 r5 q5) λ_ s6 ⟨H6,I6,q6⟩=>⟨σ,H6,I6,q6⟩
def ipI(f:Int->Int->Int):TIp:=λx y H Q=>∃i j,x=.int i/\y=.int j/\Q (.int (f i j)) H
def ZI:PIp X .Add (ipI λi j=>i+j):=by
 intro pins s σ H x y v u Q I r1 r2 h;obtain⟨i,j,e1,e2,q⟩:=h;subst e1;subst e2;obtain⟨t,rfl⟩:=r1;obtain⟨t',rfl⟩:=r2;exact iadd_int ⟨.int _,H,I.tok _,⟨_,rfl⟩,q⟩
end
structure It where
 go:Nat->Hp->Prop
 yld:Nat->Hp->V->Hp->Prop
 stop:Nat->Hp->Prop
def FpOk(X:Cx)(pins:List (Addr×Obj))(H:Hp)(b:Addr):Prop:=
 H b=none/\b≠X.env.locals/\b∉X.fs/\(b∈X.ex∨X.s₀.heap.objs.size<=b)/\(∀x c,X.env.cells.lookup x=some c->c≠b)/\∀p∈X.pn++pins,p.1≠b
def Inv.fpOk{X:Cx}{pins:List (Addr×Obj)}{σ:St}{H H':Hp}{s:Shared}{b:Addr}(I:Inv X pins σ H s)(hb:s.heap.objs.size<=b)(hn:H' b=none):FpOk X pins H' b:=by
 refine⟨hn,ne_of_gt (lt_of_lt_of_le I.lt hb),I.nofs hb,.inr (le_trans I.sz hb),λx c e z=>?_,λp hp z=>?_⟩
 .obtain⟨v,q⟩:=I.cell x c e;exact absurd (lt_of_lt_of_le q.lt (by rw[z];exact hb)) (lt_irrefl _)
 .exact absurd (lt_of_lt_of_le (Heap.lt_size (I.pin p hp).1) (by rw[z];exact hb)) (lt_irrefl _)
structure Turn(P:Program)(w:World)(K:PySem.W.Frag)(tg:Expr)(J:It)(fp:List Addr)(it:Addr)(tn:Nat->Heap->Prop):Prop where
 mem:it∈fp
 obj:∀i h,tn i h->∀b∈fp,∃o,h.get? b=some o/\∀v,o.data≠.cell v
 keep:∀i h h',tn i h->(∀b∈fp,∀o,h.get? b=some o->h'.get? b=some o)->tn i h'
 item:∀(X:Cx),X.prog=P->X.w=w->X.K=K->X.calm=true->∀(i:Nat) (pins:List (Addr×Obj)) (s:Shared) (σ:St) (H:Hp) (E:Value->Shared->Prop),Inv X pins σ H s->(∀b∈fp,FpOk X pins H b)->tn i s.heap->J.go i H ->
  wpAny (model P w) X.A (pyNext (.ref it)) (λr s1=>∃u,r=some u /\
   wpAny (model P w) X.A (letOwnedTupleGo tg (.ref it) u) (λ_ s2=>∃x H',Inv X pins σ H' s2/\RelV x u/\J.yld i H x H'/\tn (i+1) s2.heap/\∀b∈fp,H' b=none) E s1) E s
 done:∀(X:Cx),X.prog=P->X.w=w->X.K=K->X.calm=true->∀(i:Nat) (pins:List (Addr×Obj)) (s:Shared) (σ:St) (H:Hp) (E:Value->Shared->Prop),Inv X pins σ H s->(∀b∈fp,FpOk X pins H b)->tn i s.heap->J.stop i H ->
  wpAny (model P w) X.A (pyNext (.ref it)) (λr s1=>r=none/\Inv X pins σ H s1) E s
 self:∀(A:Around) (i:Nat) (s:Shared) (Q:Value->Shared->Prop) (E:Value->Shared->Prop),tn i s.heap->Q (.ref it) s->wpAny (model P w) A (pyIter (.ref it)) Q E s
abbrev TI:=St->Hp->(It->Hp->Prop)->Prop
def PIE(X:Cx)(pins:List (Addr×Obj))(σ:St)(tg:Expr)(R:It->Hp->Prop)(itv:Value)(s2:Shared):Prop:=
 ∃(it:Addr) (fp:List Addr) (tn:Nat->Heap->Prop) (J:It) (H':Hp),itv=.ref it/\Inv X pins σ H' s2/\Turn X.prog X.w X.K tg J fp it tn/\tn 0 s2.heap/\(∀b∈fp,FpOk X pins H' b)/\R J H'
def PI(X:Cx)(tg iter:Expr)(wi:TI):Prop:=
 ∀(pins:List (Addr×Obj)) (s:Shared) (σ:St) (H:Hp) (R:It->Hp->Prop),Inv X pins σ H s->wi σ H R ->
   wpAny (model X.prog X.w) X.A (eval iter X.env) (λv s1=>wpAny (model X.prog X.w) X.A (pyIter v) (PIE X pins σ tg R) X.xe s1) X.xe s
def P8{M:Model}{A:Around}{E:Value->Shared->Prop}{s:Shared}{tg:Expr}{it:Addr}{u:Value}{o:Obj}{n:String}{vs:Array Value}{Q:Unit->Shared->Prop}(ho:s.heap.get? it=some o)(hc:o.cls=.type n)(hd:o.data=.fields vs)
 (hn:["enumerate","zip","dict_itemiterator","dict_reverseitemiterator","odict_iterator","itertools.zip_longest","itertools.pairwise"].contains n=false) (hQ:Q () s):wpAny M A (letOwnedTupleGo tg (.ref it) u) Q E s:=by
 unfold letOwnedTupleGo;cases tg<;>first
  |exact wpAny_pure hQ
  | (cases u<;>first
   |exact wpAny_pure hQ
   | (refine wpAny_bind (wpAny_load ho ?_)
      rw[hc,hd];show wpAny M A (if(["enumerate","zip","dict_itemiterator","dict_reverseitemiterator","odict_iterator","itertools.zip_longest","itertools.pairwise"].contains n&&vs[0]?==some (rawInt _))=true then _ else _) Q E s;rw[if_neg (by intro h;rw[hn,Bool.false_and]at h;cases h)];exact wpAny_pure hQ))
def Itl(K:PySem.W.Frag)(a:Addr):It:=
 ⟨λi H=>∃xs x,SqL K H a xs/\xs[i]?=some x,λi H x H'=>H'=H/\∀xs,SqL K H a xs->xs[i]?=some x,λi H=>∃xs,SqL K H a xs/\xs.length<=i⟩
def Itt(K:PySem.W.Frag)(a:Addr):It:=
 ⟨λi H=>∃xs x,SqT K H a xs/\xs[i]?=some x,λi H x H'=>H'=H/\∀xs,SqT K H a xs->xs[i]?=some x,λi H=>∃xs,SqT K H a xs/\xs.length<=i⟩
def Itr(lo:Int)(n:Nat):It:=⟨λi _=>i<n,λi H x H'=>H'=H/\x=.int (lo+i),λi _=>n<=i⟩
def Po{P:Program}{w:World}{K:PySem.W.Frag}{tg:Expr}(a it:Addr):Turn P w K tg (Itl K a) [it] it (λi h=>h.IsListIter it a i) where
 mem:=by simp
 obj:=λi h st b hb=>by
  have e:b=it:=by simpa using hb
  subst e;obtain⟨o,e,c,d⟩:=st;exact⟨o,e,λv z=>by rw[d]at z;cases z⟩
 keep:=λi h h' st k=>st.at λo e=>k it (by simp) o e
 item:=by
  intro X hP hw hK hc i pins s σ H E I hf st hg;subst hP hw hK;obtain⟨xs,x,hq,hx⟩:=hg;obtain⟨its,rv,p,hz⟩:=I.list hq;obtain⟨u,hu,ru⟩:=rv.get hx;obtain⟨f0,f1,f2,f3,f4,f5⟩:=hf it (by simp);refine wpAny_pyNext_list_item st p.isList (x:=u) (by simpa using hu) λh' st' sb=>?_;have I1:Inv X pins σ H { s with heap:=h' }:=I.turned (t':=s.toks) (λb o hb e=>(sb.2 b hb).trans e) f0 f1 f3 f4 f5;obtain⟨o,e,c,d⟩:=id st';exact⟨u,rfl,P8 (s:={ s with heap:=h' }) e c d (by decide) ⟨x,H,I1,ru,⟨rfl,λys hy=>by rw[I.list_inj hy hq];exact hx⟩,st',λb hb=>(hf b hb).1⟩⟩
 done:=by
  intro X hP hw hK hc i pins s σ H E I hf st hg;subst hP hw hK;obtain⟨xs,hq,hx⟩:=hg;obtain⟨its,rv,p,hz⟩:=I.list hq;obtain⟨f0,f1,f2,f3,f4,f5⟩:=hf it (by simp);have hl:=rv.length;exact wpAny_pyNext_list_end (I.ok.hd hc) st p.isList (by simp;omega) λh' eb=>⟨rfl,I.turned (t':=s.toks) (λb o hb e=>eb b o hb e) f0 f1 f3 f4 f5⟩
 self:=λ_ _ _ _ _ st h=>wpAny_pyIter_listiter st h
def OA{P:Program}{w:World}{K:PySem.W.Frag}{tg:Expr}(a it:Addr):Turn P w K tg (Itt K a) [it] it (λi h=>h.IsTupleIter it a i) where
 mem:=by simp
 obj:=λi h st b hb=>by
  have e:b=it:=by simpa using hb
  subst e;obtain⟨o,e,c,d⟩:=st;exact⟨o,e,λv z=>by rw[d]at z;cases z⟩
 keep:=λi h h' st k=>st.at λo e=>k it (by simp) o e
 item:=by
  intro X hP hw hK hc i pins s σ H E I hf st hg;subst hP hw hK;obtain⟨xs,x,hq,hx⟩:=hg;obtain⟨its,rv,p,hz⟩:=I.tuple hq;obtain⟨u,hu,ru⟩:=rv.get hx;obtain⟨f0,f1,f2,f3,f4,f5⟩:=hf it (by simp);refine wpAny_pyNext_tuple_item st (show s.heap.IsTuple a its.toArray from p) (x:=u) (by simpa using hu) λh' st' sb=>?_;have I1:Inv X pins σ H { s with heap:=h' }:=I.turned (t':=s.toks) (λb o hb e=>(sb.2 b hb).trans e) f0 f1 f3 f4 f5;obtain⟨o,e,c,d⟩:=id st';exact⟨u,rfl,P8 (s:={ s with heap:=h' }) e c d (by decide) ⟨x,H,I1,ru,⟨rfl,λys hy=>by rw[I.tuple_inj hy hq];exact hx⟩,st',λb hb=>(hf b hb).1⟩⟩
 done:=by
  intro X hP hw hK hc i pins s σ H E I hf st hg;subst hP hw hK;obtain⟨xs,hq,hx⟩:=hg;obtain⟨its,rv,p,hz⟩:=I.tuple hq;obtain⟨f0,f1,f2,f3,f4,f5⟩:=hf it (by simp);have hl:=rv.length;exact wpAny_pyNext_tuple_end (I.ok.hd hc) st (show s.heap.IsTuple a its.toArray from p) (by simp;omega) λh' eb=>⟨rfl,I.turned (t':=s.toks) (λb o hb e=>eb b o hb e) f0 f1 f3 f4 f5⟩
 self:=λ_ _ _ _ _ st h=>wpAny_pyIter_tupleiter st h
def OB{P:Program}{w:World}{K:PySem.W.Frag}{tg:Expr}(it:Addr)(lo:Int)(n:Nat):Turn P w K tg (Itr lo n) [it] it (λi h=>IsRangeIter h it (lo+(i:Nat)*1) ((n:Int)-(i:Nat)) 1) where
 mem:=by simp
 obj:=λi h st b hb=>by
  have e:b=it:=by simpa using hb
  subst e;exact⟨_,st,λv z=>by
   have z':Data.fields _=Data.cell v:=z;cases z'⟩
 keep:=λi h h' st k=>k it (by simp) _ st
 item:=by
  intro X hP hw hK hc i pins s σ H E I hf st hg;subst hP hw hK;obtain⟨f0,f1,f2,f3,f4,f5⟩:=hf it (by simp);have W:=Walks.range (prog:=X.prog) (w:=X.w) (I.ok.hd hc) it lo 1 n;refine W.item i s _ _ hg st λv h' tk hv st' kk=>?_;obtain⟨t,rfl⟩:=hv;have I1:Inv X pins σ H { s with heap:=h',toks:=tk }:=I.turned (λb o hb e=>kk b o (by simpa using hb) e) f0 f1 f3 f4 f5;refine⟨_,rfl,P8 (s:={ s with heap:=h',toks:=tk }) (n:="range_iterator") st' rfl rfl (by decide) ⟨.int (lo+i),H,I1,⟨t,?_⟩,⟨rfl,rfl⟩,st',λb hb=>(hf b hb).1⟩⟩;rw[Int.mul_one]
 done:=by
  intro X hP hw hK hc i pins s σ H E I hf st hg;subst hP hw hK;obtain⟨f0,f1,f2,f3,f4,f5⟩:=hf it (by simp);exact wpAny_pyNext_range_end (I.ok.hd hc) st (by have:n<=i:=hg;omega) λh' eb=>⟨rfl,I.turned (t':=s.toks) (λb o hb e=>eb b o hb e) f0 f1 f3 f4 f5⟩
 self:=λ_ _ _ _ _ st h=>wpAny_pyIter_rangeiter st h
section
variable{X:Cx}{tg:Expr}
def LN(K:PySem.W.Frag)(tl:TE):TI:=λσ H R=>tl σ H λx H1=>∃a,x=.ref a/\(∃xs,SqL K H1 a xs)/\R (Itl K a) H1
def P3(K:PySem.W.Frag)(tl:TE):TI:=λσ H R=>tl σ H λx H1=>∃a,x=.ref a/\(∃xs,SqT K H1 a xs)/\R (Itt K a) H1
def W0{l:Expr}{tl:TE}(hl:PE X l tl):PI X tg l (LN X.K tl):=by
 intro pins s σ H R I h;refine thn (hl pins s σ H _ I h) λv s1 ⟨x,H1,I1,r1,q1⟩=>?_;obtain⟨a,e,⟨xs,hq⟩,q⟩:=q1;subst e;cases r1;obtain⟨its,rv,p,hz⟩:=I1.list hq;refine wpAny_pyIter_list p.isList ?_;refine⟨s1.heap.objs.size,[s1.heap.objs.size],_,_,H1,rfl,I1.kept (t':=s1.toks) λb o e=>Heap.get?_push_of_some _ e,Po a _,⟨_,Heap.get?_push_size _ rfl,rfl,rfl⟩,λb hb=>?_,q⟩;have e:b=s1.heap.objs.size:=by simpa using hb
 subst e;exact I1.fpOk (le_refl _) (I1.hok.fresh (le_refl _))
def Ye{l:Expr}{tl:TE}(hl:PE X l tl):PI X tg l (P3 X.K tl):=by
 intro pins s σ H R I h;refine thn (hl pins s σ H _ I h) λv s1 ⟨x,H1,I1,r1,q1⟩=>?_;obtain⟨a,e,⟨xs,hq⟩,q⟩:=q1;subst e;cases r1;obtain⟨its,rv,p,hz⟩:=I1.tuple hq;refine wpAny_pyIter_tuple (show s1.heap.IsTuple a its.toArray from p) ?_;refine⟨s1.heap.objs.size,[s1.heap.objs.size],_,_,H1,rfl,I1.kept (t':=s1.toks) λb o e=>Heap.get?_push_of_some _ e,OA a _,⟨_,Heap.get?_push_size _ rfl,rfl,rfl⟩,λb hb=>?_,q⟩;have e:b=s1.heap.objs.size:=by simpa using hb
 subst e;exact I1.fpOk (le_refl _) (I1.hok.fresh (le_refl _))
def Lu{pins:List (Addr×Obj)}{σ:St}{H:Hp}{s:Shared}{R:It->Hp->Prop}{E:Value->Shared->Prop}{lo hi:Int}{t u v:Tok}{tk:Nat}(I:Inv X pins σ H s)(h1:-(2^62)<=lo)(h2:lo<2^62)(h3:-(2^62)<=hi)(h4:hi<2^62)
 (q:R (Itr lo (hi-lo).toNat) H):wpAny (model X.prog X.w) X.A (pyIter (.ref s.heap.objs.size)) (PIE X pins σ tg R) E { s with heap:=s.heap.push { cls:=.type "range",data:=.fields #[.int lo t,.int hi u,.int 1 v] },toks:=tk }:=by
 refine wpAny_pyIter_range (IsRange.new ..) (small_one h1 h2 h3 h4) ?_;have I1:Inv X pins σ H { s with heap:=s.heap.push { cls:=.type "range",data:=.fields #[.int lo t,.int hi u,.int 1 v] },toks:=tk }:=I.kept λb o e=>Heap.get?_push_of_some _ e;refine⟨(s.heap.push { cls:=.type "range",data:=.fields #[.int lo t,.int hi u,.int 1 v] }).objs.size,[(s.heap.push { cls:=.type "range",data:=.fields #[.int lo t,.int hi u,.int 1 v] }).objs.size],_,_,H,rfl,
  I1.kept (t':=tk) λb o e=>Heap.get?_push_of_some _ e,OB _ lo (hi-lo).toNat,?_,λb hb=>?_,q⟩
 .have e1:lo+((0:Nat):Int)*1=lo:=by simp
  have e2:(((hi-lo).toNat:Nat):Int)-((0:Nat):Int)=Builtin.Range.rangeSize lo hi 1:=by rw[rangeSize_one];split<;>omega
  show IsRangeIter _ _ (lo+((0:Nat):Int)*1) ((((hi-lo).toNat:Nat):Int)-((0:Nat):Int)) 1;rw[e1,e2];exact Heap.get?_push_size _ rfl
 .have e:b=(s.heap.push { cls:=.type "range",data:=.fields #[.int lo t,.int hi u,.int 1 v] }).objs.size:=by simpa using hb
  subst e;exact I1.fpOk (le_refl _) (I1.hok.fresh (le_refl _))
def P5(ta:TA):TI:=λσ H R=>ta σ H λvs H1=>∃j:Int,vs=[.int j]/\-(2^62)<=j/\j<2^62/\R (Itr 0 j.toNat) H1
def P4(ta:TA):TI:=λσ H R=>ta σ H λvs H1=>∃i j:Int,vs=[.int i,.int j]/\(-(2^62)<=i/\i<2^62/\-(2^62)<=j/\j<2^62)/\R (Itr i (j-i).toNat) H1
def QU{a:Expr}{ta:TA}{p pos:Pos}(hg:Gl X "range")(hm:X.mg "range"=none)(ha:PA X [a] ta)(hs:starEach [a] X.env=[(false,eval a X.env)]:=by rfl):PI X tg (.Call (.Name "range" p) [a] [] pos) (P5 ta):=by
 intro pins s σ H R I h;refine Call_ (D3 I hg hm boot_range (PyProof.Rows.callWith_type1 (thn (ha pos pins s σ H _ I h) λus s1 ⟨vs,H1,I1,r1,q1⟩=>?_) hs rfl));obtain⟨j,e,q1,q2,q⟩:=q1;subst e;cases r1 with
 |cons r rr=>
  cases rr;obtain⟨t,rfl⟩:=r;exact call_range_1 (Lu I1 (by omega) (by omega) q1 q2 (by simpa using q))
def QQ{a b:Expr}{ta:TA}{p pos:Pos}(hg:Gl X "range")(hm:X.mg "range"=none)(ha:PA X [a,b] ta)(hs:starEach [a,b] X.env=[(false,eval a X.env),(false,eval b X.env)]:=by rfl)(hs2:starEach [b] X.env=[(false,eval b X.env)]:=by rfl):
 PI X tg (.Call (.Name "range" p) [a,b] [] pos) (P4 ta):=by
 intro pins s σ H R I h;refine Call_ (D3 I hg hm boot_range (PyProof.Rows.callWith_type1 (thn (ha pos pins s σ H _ I h) λus s1 ⟨vs,H1,I1,r1,q1⟩=>?_) (by rw[hs,hs2]) (by rw[hs2];rfl)));obtain⟨i,j,e,⟨q1,q2,q3,q4⟩,q⟩:=q1;subst e;cases r1 with
 |cons r rr=>
  cases rr with
  |cons r' rr=>
   cases rr;obtain⟨t,rfl⟩:=r;obtain⟨t',rfl⟩:=r';exact call_range_2 (Lu I1 q1 q2 q3 q4 q)
def S6(wi:TI)(g:TG)(tb:TS):TS:=λD σ H=>wi σ H λJ H1=>∃W:Nat->Nat->St->Hp->Prop,(∃m,W 0 m σ H1)/\∀i m σ H,W i m σ H ->
 (J.stop i H/\D.nx σ H)∨(J.go i H/\∃N:St->Hp->Prop,(∀σ' H',N σ' H'->∃m',m'<m/\W (i+1) m' σ' H')/\∀x H',J.yld i H x H'->g x σ H' λσ2 H2=>tb { D with nx:=N,ct:=N,bk:=D.nx } σ2 H2)
def E4(fp:List Addr)(h:Heap):List (Addr×Obj):=fp.filterMap λb=>(h.get? b).map λo=>(b,o)
def BE{fp:List Addr}{h:Heap}{b:Addr}{o:Obj}(hb:b∈fp)(e:h.get? b=some o):(b,o)∈E4 fp h:=List.mem_filterMap.mpr ⟨b,hb,by rw[e];rfl⟩
def Qc{fp:List Addr}{h:Heap}{p:Addr×Obj}(hp:p∈E4 fp h):p.1∈fp/\h.get? p.1=some p.2:=by
 obtain⟨b,hb,e⟩:=List.mem_filterMap.mp hp;cases q:h.get? b with
 |none=>rw[q]at e;cases e
 |some o=>
  rw[q]at e;have e':(b,o)=p:=Option.some.inj e;subst e';exact⟨hb,q⟩
def Inv.pinned{pins:List (Addr×Obj)}{σ:St}{H:Hp}{s:Shared}{fp:List Addr}(I:Inv X pins σ H s)(hf:∀b∈fp,FpOk X pins H b)(ho:∀b∈fp,∃o,s.heap.get? b=some o/\∀v,o.data≠.cell v):Inv X (pins++E4 fp s.heap) σ H s:=
 I.pins_of λp hp=>(mem_append.mp hp).elim (λz=>I.pin p (mem_append_right _ z)) λz=>by
  obtain⟨hb,e⟩:=Qc z;obtain⟨f0,f1,f2,_⟩:=hf p.1 hb;obtain⟨o,e',d⟩:=ho p.1 hb;rw[e]at e';cases e';exact⟨e,f0,f1,f2,d⟩
def Inv.unpinned{pins pl:List (Addr×Obj)}{σ:St}{H:Hp}{s:Shared}(I:Inv X (pins++pl) σ H s):Inv X pins σ H s:=I.pins_of λp hp=>I.pin p (mem_append_right _ (mem_append_left _ hp))
def Yb{iter:Expr}{body:List Stmt}{wi:TI}{g:TG}{tb:TS}{pos:Pos}(hp:PassesOwn (model X.prog X.w) X.A X.env X.xe)(hc:X.calm=true)(hi:PI X tg iter wi)(hg:PG X tg g)(hb:PSs X body tb)
 (hs:∀x,foldedSetIterable iter X.env x=pure x:=by intro _;rfl):PS X (.For tg iter body [] pos) (S6 wi g tb):=by
 intro pins s σ H D I h;refine wpAny_For (thn (hi pins s σ H _ I h) λv s1 h1=>thn h1 λitv s2 h2=>?_) hs;obtain⟨it,fp,tn,J,H2,e,I2,T,st2,f2,W,⟨m0,w0⟩,turn⟩:=h2;subst e
 -- what stays true of the iterator's objects through the loop
 have stat:∀{H':Hp},(∀b∈fp,H' b=none)->∀b∈fp,FpOk X pins H' b:=λhn b hb=>⟨hn b hb,(f2 b hb).2⟩
 refine codeAny_forLoop_any (λn s'=>∃i σ' H',Inv X pins σ' H' s'/\tn i s'.heap/\(∀b∈fp,H' b=none)/\W i n σ' H') ?_ m0 ⟨0,σ,H2,I2,st2,λb hb=>(f2 b hb).1,w0⟩;rintro n s3 ⟨i,σ3,H3,I3,st3,fr3,w3⟩;rcases turn i n σ3 H3 w3 with⟨stop,qn⟩|⟨go,N,hN,step⟩
 .refine wpAny_passesOwn hp (thn (T.done X rfl rfl rfl hc i pins s3 σ3 H3 X.xe I3 (stat fr3) st3 stop) λr s4 ⟨hr,I4⟩=>?_);subst hr;exact wpAny_execs_nil ⟨σ3,H3,I4,qn⟩
 .refine wpAny_passesOwn hp (thn (T.item X rfl rfl rfl hc i pins s3 σ3 H3 X.xe I3 (stat fr3) st3 go) λr s4 ⟨u,hr,h4⟩=>?_);subst hr;refine wpAny_passesOwn hp (thn h4 λ_ s5 ⟨x,H5,I5,r5,y5,st5,fr5⟩=>?_);have I5':=I5.pinned (stat fr5) (T.obj _ _ st5);refine wpAny_passesOwn hp (thn (hg _ s5 σ3 H5 x u _ I5' r5 (step x H5 y5)) λ_ s6 ⟨σ6,H6,I6,q6⟩=>?_);refine wpAny_passesOwn hp (thn (hb _ s6 σ6 H6 _ I6 q6) λf s7 q7=>?_);have again:∀{σ7:St} {H7:Hp},Inv X (pins++E4 fp s5.heap) σ7 H7 s7->N σ7 H7->∃m,m<n/\∃i σ' H',Inv X pins σ' H' s7/\tn i s7.heap/\(∀b∈fp,H' b=none)/\W i m σ' H':=λ{σ7 H7} I7 n7=>by
   obtain⟨m',hm,w7⟩:=hN σ7 H7 n7;refine⟨m',hm,i+1,σ7,H7,I7.unpinned,T.keep _ _ _ st5 λb hb o e=>(I7.pin (b,o) (mem_append_right _ (mem_append_right _ (BE hb e)))).1,λb hb=>?_,w7⟩;obtain⟨o,e,d⟩:=T.obj _ _ st5 b hb;exact(I7.pin (b,o) (mem_append_right _ (mem_append_right _ (BE hb e)))).2.1
  cases f with
  |next=>obtain⟨σ7,H7,I7,n7⟩:=q7;exact again I7 n7
  |cont=>obtain⟨σ7,H7,I7,n7⟩:=q7;exact again I7 n7
  |brk=>obtain⟨σ7,H7,I7,q7⟩:=q7;exact⟨σ7,H7,I7.unpinned,q7⟩
  |ret v=>obtain⟨x7,σ7,H7,I7,r7,q7⟩:=q7;exact⟨x7,σ7,H7,I7.unpinned,r7,q7⟩
end
abbrev R2:=V->V->Hp->VK->Prop
def OpR(X:Cx)(f:Value->Value->Sem Value)(r:R2):Prop:=
 ∀(pins:List (Addr×Obj)) (s:Shared) (σ:St) (H:Hp) (x y:V) (v u:Value) (Q:VK),Inv X pins σ H s->RelV x v->RelV y u->r x y H Q ->
   wpAny (model X.prog X.w) X.A (f v u) (EP X pins σ Q) X.xe s
def UnR(X:Cx)(f:Value->Sem Value)(r:V->Hp->VK->Prop):Prop:=
 ∀(pins:List (Addr×Obj)) (s:Shared) (σ:St) (H:Hp) (x:V) (v:Value) (Q:VK),Inv X pins σ H s->RelV x v->r x H Q ->
   wpAny (model X.prog X.w) X.A (f v) (EP X pins σ Q) X.xe s
def CallR(X:Cx)(f:Value)(r:List V->Hp->VK->Prop):Prop:=
 ∀(pins:List (Addr×Obj)) (s:Shared) (σ:St) (H:Hp) (xs:List V) (us:List Value) (Q:VK),Inv X pins σ H s->Vals xs us->r xs H Q ->
   wpAny (model X.prog X.w) X.A (call f us) (EP X pins σ Q) X.xe s
def bZ(X:Cx)(r:V->Hp->(Bool->Hp->Prop)->Prop):Prop:=
 ∀(pins:List (Addr×Obj)) (s:Shared) (σ:St) (H:Hp) (x:V) (v:Value) (Q:Bool->Hp->Prop),Inv X pins σ H s->RelV x v->r x H Q ->
   wpAny (model X.prog X.w) X.A (truthy v) (TP X pins σ Q) X.xe s
def tOp(r:R2)(ta tb:TE):TE:=λσ H Q=>ta σ H λx H1=>tb σ H1 λy H2=>r x y H2 Q
def tUn(r:V->Hp->VK->Prop)(ta:TE):TE:=λσ H Q=>ta σ H λx H1=>r x H1 Q
def rI(C:Int->Int->Prop)(g:Int->Int->V):R2:=λx y H Q=>∃i j,x=.int i/\y=.int j/\C i j/\Q (g i j) H
def rI0(g:Int->Int->V):R2:=λx y H Q=>∃i j,x=.int i/\y=.int j/\Q (g i j) H
def rU(g:Int->V):V->Hp->VK->Prop:=λx H Q=>∃i,x=.int i/\Q (g i) H
section
variable{X:Cx}{a b c:Expr}{ta tb tc:TE}{pos:Pos}
def Tw(ha:PE X a ta)(hb:PE X b tb){pins:List (Addr×Obj)}{s:Shared}{σ:St}{H:Hp}{R:V->V->Hp->Prop}(I:Inv X pins σ H s)
 (h:ta σ H λx H1=>tb σ H1 λy H2=>R x y H2) {Q:Value->Shared->Prop} {f:Value->Value->Sem Value}
 (hf:∀v u s2 x y H2,Inv X pins σ H2 s2->RelV x v->RelV y u->R x y H2->wpAny (model X.prog X.w) X.A (f v u) Q X.xe s2):
 wpAny (model X.prog X.w) X.A (eval a X.env) (λv s₁=>wpAny (model X.prog X.w) X.A (eval b X.env) (λu s₂=>wpAny (model X.prog X.w) X.A (f v u) Q X.xe s₂) X.xe s₁) X.xe s:=by
 refine thn (ha pins s σ H _ I h) λv s1 ⟨x,H1,I1,r1,q1⟩=>?_;refine thn (hb pins s1 σ H1 _ I1 q1) λu s2 ⟨y,H2,I2,r2,q2⟩=>?_;exact hf v u s2 x y H2 I2 r1 r2 q2
def Ol{op:Operator}{r:R2}(ho:OpR X (binaryOp op) r)(ha:PE X a ta)(hb:PE X b tb):PE X (.BinOp a op b pos) (tOp r ta tb):=by
 intro pins s σ H Q I h;exact wpAny_BinOp (Tw ha hb I h λv u s2 x y H2 I2 rx ry q=>ho pins s2 σ H2 x y v u Q I2 rx ry q)
def aJ{op:UnaryOp}{r:V->Hp->VK->Prop}(ho:UnR X (unaryOp op) r)(ha:PE X a ta):PE X (.UnaryOp op a pos) (tUn r ta):=by
 intro pins s σ H Q I h;exact UnaryOp_ (thn (ha pins s σ H _ I h) λv s1 ⟨x,H1,I1,r1,q1⟩=>ho pins s1 σ H1 x v Q I1 r1 q1)
def opI{f:Value->Value->Sem Value}{C:Int->Int->Prop}{g:Int->Int->Int}
 (rule:∀(i j:Int) (t u:Tok) (s:Shared) (Q:Value->Shared->Prop) (E:Value->Shared->Prop),C i j->Q (.int (g i j) s.toks) { s with toks:=s.toks+1 }->wpAny (model X.prog X.w) X.A (f (.int i t) (.int j u)) Q E s):
 OpR X f (rI C λi j=>.int (g i j)):=by
 intro pins s σ H x y v u Q I rx ry h;obtain⟨i,j,rfl,rfl,hc,q⟩:=h;obtain⟨t,rfl⟩:=rx;obtain⟨t',rfl⟩:=ry;exact rule i j t t' s _ _ hc ⟨.int (g i j),H,I.tok _,⟨_,rfl⟩,q⟩
def Z4{f:Value->Value->Sem Value}{g:Int->Int->Int}
 (rule:∀(i j:Int) (t u:Tok) (s:Shared) (Q:Value->Shared->Prop) (E:Value->Shared->Prop),Q (.int (g i j) s.toks) { s with toks:=s.toks+1 }->wpAny (model X.prog X.w) X.A (f (.int i t) (.int j u)) Q E s):
 OpR X f (rI0 λi j=>.int (g i j)):=by
 intro pins s σ H x y v u Q I rx ry h;obtain⟨i,j,rfl,rfl,q⟩:=h;obtain⟨t,rfl⟩:=rx;obtain⟨t',rfl⟩:=ry;exact rule i j t t' s _ _ ⟨.int (g i j),H,I.tok _,⟨_,rfl⟩,q⟩
def On{f:Value->Value->Sem Value}{g:Int->Int->Bool}
 (rule:∀(i j:Int) (t u:Tok) (s:Shared) (Q:Value->Shared->Prop) (E:Value->Shared->Prop),Q (.bool (g i j)) s->wpAny (model X.prog X.w) X.A (f (.int i t) (.int j u)) Q E s):
 OpR X f (rI0 λi j=>.bl (g i j)):=by
 intro pins s σ H x y v u Q I rx ry h;obtain⟨i,j,rfl,rfl,q⟩:=h;obtain⟨t,rfl⟩:=rx;obtain⟨t',rfl⟩:=ry;exact rule i j t t' s _ _ ⟨.bl (g i j),H,I,rfl,q⟩
def Zk(i j:Int):Prop:=0<j/\j<1073741824
def Zj(i j:Int):Prop:=0<=j/\j<=1000000/\i.natAbs<2^64
def CMul(i j:Int):Prop:=(-(2^64)<i/\i<2^64)∨(-(2^64)<j/\j<2^64)
def CMul.ok{i j:Int}(h:CMul i j):IntMulOk i j:=by
 rcases h with⟨h1,h2⟩|⟨h1,h2⟩
 .exact .of_left (intBits_le_64 h1 h2)
 .exact .of_right (intBits_le_64 h1 h2)
def Qb:OpR X (binaryOp .Add) (rI0 λi j=>.int (i+j)):=Z4 λ_ _ _ _ _ _ _ q=>add_int q
def Yw:OpR X (binaryOp .Sub) (rI0 λi j=>.int (i-j)):=Z4 λ_ _ _ _ _ _ _ q=>sub_int q
def Z1:OpR X (binaryOp .Mult) (rI CMul λi j=>.int (i*j)):=opI λ_ _ _ _ _ _ _ hc q=>mul_int q hc.ok
def WD:OpR X (binaryOp .FloorDiv) (rI Zk λi j=>.int (i/j)):=opI λi j _ _ _ _ _ hc q=>by
 have h1:(0:Int)<j:=hc.1;have h2:j<1073741824:=hc.2;exact floordiv_int (by omega) (by rw[Int.fdiv_eq_ediv_of_nonneg i (by omega)];exact q) (.inl (PyProof.noPylong_small (by omega)))
def Z2:OpR X (binaryOp .Mod) (rI (λ_ j=>0<j) λi j=>.int (i%j)):=opI λi j _ _ _ _ _ hc q=>by
 have h1:(0:Int)<j:=hc;exact mod_int' (by omega) (by rw[Int.fmod_eq_emod_of_nonneg i (by omega)];exact q)
def Yy:OpR X (binaryOp .Pow) (rI Zj λi j=>.int (i^j.toNat)):=opI λ_ _ _ _ _ _ _ hc q=>pow_int_small hc.1 hc.2.1 hc.2.2 q
def unI{f:Value->Sem Value}{g:Int->Int}
 (rule:∀(i:Int) (t:Tok) (s:Shared) (Q:Value->Shared->Prop) (E:Value->Shared->Prop),Q (.int (g i) s.toks) { s with toks:=s.toks+1 }->wpAny (model X.prog X.w) X.A (f (.int i t)) Q E s):
 UnR X f (rU λi=>.int (g i)):=by
 intro pins s σ H x v Q I rx h;obtain⟨i,rfl,q⟩:=h;obtain⟨t,rfl⟩:=rx;exact rule i t s _ _ ⟨.int (g i),H,I.tok _,⟨_,rfl⟩,q⟩
def XE:UnR X (unaryOp .USub) (rU λi=>.int (-i)):=unI λ_ _ _ _ _ q=>neg_int q
end
def Lf:V->V->Bool
 |.non,.non=>true|.non,.int _=>true|.int _,.non=>true|.non,.bl _=>true|.bl _,.non=>true|.non,.str _=>true|.str _,.non=>true
 |.int _,.int _=>true|.bl _,.bl _=>true|.str _,.str _=>true|.byt _,.byt _=>true
 |.int _,.str _=>true|.str _,.int _=>true|.bl _,.str _=>true|.str _,.bl _=>true
 |_,_=>false
def rEq:R2:=λx y H Q=>Lf x y=true/\Q (.bl (decide (x=y))) H
def rNe:R2:=λx y H Q=>Lf x y=true/\Q (.bl (!decide (x=y))) H
def O0{i j:Int}:decide (V.int i=V.int j)=(i==j):=by
 rw[Bool.eq_iff_iff];simp
def R9{i j:Bool}:decide (V.bl i=V.bl j)=(i==j):=by
 rw[Bool.eq_iff_iff];simp
def Nz{i j:Str}:decide (V.str i=V.str j)=(i==j):=by
 rw[Bool.eq_iff_iff];simp
def O1{i j:Array UInt8}:decide (V.byt i=V.byt j)=(i.toList==j.toList):=by
 rw[Bool.eq_iff_iff];cases i;cases j;simp
section
variable{X:Cx}{a b c:Expr}{ta tb tc:TE}{pos:Pos}
def Af{pins:List (Addr×Obj)}{σ:St}{H:Hp}{s:Shared}{Q:VK}{k k':Bool}(I:Inv X pins σ H s)(q:Q (.bl k) H)(e:k=k'):EP X pins σ Q (.bool k') s:=by
 subst e;exact⟨.bl k,H,I,rfl,q⟩
def US:OpR X (compareOp .Eq) rEq:=by
 intro pins s σ H x y v u Q I rx ry h;obtain⟨hs,q⟩:=h;cases x with
 |non=>
  cases rx;cases y with
  |non=>cases ry;exact PySem.EqNone.eq_none_none (Af I q (by simp))
  |bl j=>cases ry;exact PySem.EqNone.eq_none_bool (Af I q (by simp))
  |int j=>obtain⟨t',rfl⟩:=ry;exact PySem.EqNone.eq_none_int (Af I q (by simp))
  |str j=>obtain⟨t',rfl⟩:=ry;exact PySem.EqNone.eq_none_str (Af I q (by simp))
  |_=>exact absurd (show false=true from hs) Bool.false_ne_true
 |bl i=>
  cases rx;cases y with
  |non=>cases ry;exact PySem.EqNone.eq_bool_none (Af I q (by simp))
  |bl j=>cases ry;exact eq_bool (Af I q R9)
  |str j=>obtain⟨t',rfl⟩:=ry;exact PySem.EqMixed.eq_bool_str (Af I q (by simp))
  |_=>exact absurd (show false=true from hs) Bool.false_ne_true
 |int i=>
  obtain⟨t,rfl⟩:=rx;cases y with
  |non=>cases ry;exact PySem.EqNone.eq_int_none (Af I q (by simp))
  |int j=>obtain⟨t',rfl⟩:=ry;exact eq_int (Af I q O0)
  |str j=>obtain⟨t',rfl⟩:=ry;exact PySem.EqMixed.eq_int_str (Af I q (by simp))
  |_=>exact absurd (show false=true from hs) Bool.false_ne_true
 |str i=>
  obtain⟨t,rfl⟩:=rx;cases y with
  |non=>cases ry;exact PySem.EqNone.eq_str_none (Af I q (by simp))
  |bl j=>cases ry;exact PySem.EqMixed.eq_str_bool (Af I q (by simp))
  |int j=>obtain⟨t',rfl⟩:=ry;exact PySem.EqMixed.eq_str_int (Af I q (by simp))
  |str j=>obtain⟨t',rfl⟩:=ry;exact eq_str (Af I q Nz)
  |_=>exact absurd (show false=true from hs) Bool.false_ne_true
 |byt i=>
  obtain⟨t,rfl⟩:=rx;cases y with
  |byt j=>obtain⟨t',rfl⟩:=ry;exact PySem.W.eq_bytes (Af I q O1)
  |_=>exact absurd (show false=true from hs) Bool.false_ne_true
 |_=>cases y<;>exact absurd (show false=true from hs) Bool.false_ne_true
def UO:OpR X (compareOp .NotEq) rNe:=by
 intro pins s σ H x y v u Q I rx ry h;obtain⟨hs,q⟩:=h;cases x with
 |non=>
  cases rx;cases y with
  |non=>cases ry;exact PySem.EqNone.ne_none_none (Af I q (by simp))
  |bl j=>cases ry;exact PySem.EqNone.ne_none_bool (Af I q (by simp))
  |int j=>obtain⟨t',rfl⟩:=ry;exact PySem.EqNone.ne_none_int (Af I q (by simp))
  |str j=>obtain⟨t',rfl⟩:=ry;exact PySem.EqNone.ne_none_str (Af I q (by simp))
  |_=>exact absurd (show false=true from hs) Bool.false_ne_true
 |bl i=>
  cases rx;cases y with
  |non=>cases ry;exact PySem.EqNone.ne_bool_none (Af I q (by simp))
  |bl j=>cases ry;exact ne_bool (Af I q (congrArg not R9))
  |str j=>obtain⟨t',rfl⟩:=ry;exact PySem.EqMixed.ne_bool_str (Af I q (by simp))
  |_=>exact absurd (show false=true from hs) Bool.false_ne_true
 |int i=>
  obtain⟨t,rfl⟩:=rx;cases y with
  |non=>cases ry;exact PySem.EqNone.ne_int_none (Af I q (by simp))
  |int j=>obtain⟨t',rfl⟩:=ry;exact ne_int (Af I q (congrArg not O0))
  |str j=>obtain⟨t',rfl⟩:=ry;exact PySem.EqMixed.ne_int_str (Af I q (by simp))
  |_=>exact absurd (show false=true from hs) Bool.false_ne_true
 |str i=>
  obtain⟨t,rfl⟩:=rx;cases y with
  |non=>cases ry;exact PySem.EqNone.ne_str_none (Af I q (by simp))
  |bl j=>cases ry;exact PySem.EqMixed.ne_str_bool (Af I q (by simp))
  |int j=>obtain⟨t',rfl⟩:=ry;exact PySem.EqMixed.ne_str_int (Af I q (by simp))
  |str j=>obtain⟨t',rfl⟩:=ry;exact ne_str (Af I q (congrArg not Nz))
  |_=>exact absurd (show false=true from hs) Bool.false_ne_true
 |byt i=>
  obtain⟨t,rfl⟩:=rx;cases y with
  |byt j=>obtain⟨t',rfl⟩:=ry;exact PySem.W.ne_bytes (Af I q (congrArg not O1))
  |_=>exact absurd (show false=true from hs) Bool.false_ne_true
 |_=>cases y<;>exact absurd (show false=true from hs) Bool.false_ne_true
def UP:OpR X (compareOp .Lt) (rI0 λi j=>.bl (decide (i<j))):=On λ_ _ _ _ _ _ _ q=>lt_int q
def UQ:OpR X (compareOp .LtE) (rI0 λi j=>.bl (decide (i<=j))):=On λ_ _ _ _ _ _ _ q=>le_int q
def aP:OpR X (compareOp .Gt) (rI0 λi j=>.bl (decide (j<i))):=On λ_ _ _ _ _ _ _ q=>gt_int q
def UR:OpR X (compareOp .GtE) (rI0 λi j=>.bl (decide (j<=i))):=On λ_ _ _ _ _ _ _ q=>ge_int q
def OpR.or{f:Value->Value->Sem Value}{r r':R2}(h:OpR X f r)(h':OpR X f r'):OpR X f (λx y H Q=>r x y H Q∨r' x y H Q):=by
 intro pins s σ H x y v u Q I rx ry q;rcases q with q|q
 .exact h pins s σ H x y v u Q I rx ry q
 .exact h' pins s σ H x y v u Q I rx ry q
def M6(b:Expr){op:CmpOp}(h:op≠.In:=by decide)(h2:op≠.NotIn:=by decide):behindInMarks op b=false:=by
 have e1:(op==CmpOp.In)=false:=by cases op<;>first|rfl|exact absurd rfl h
 have e2:(op==CmpOp.NotIn)=false:=by cases op<;>first|rfl|exact absurd rfl h2
 cases b<;>simp[behindInMarks,e1,e2]
def W7{op:CmpOp}{r:R2}(ho:OpR X (compareOp op) r)(ha:PE X a ta)(hb:PE X b tb)(hm:behindInMarks op b=false):PE X (.Compare a [op] [b] pos) (tOp r ta tb):=by
 intro pins s σ H Q I h;exact wpAny_Compare1 (Tw ha hb I h λv u s2 x y H2 I2 rx ry q=>ho pins s2 σ H2 x y v u Q I2 rx ry q) hm
def LB(t:TE):TT:=λσ H Q=>t σ H λx H'=>∃k,x=.bl k/\Q k H'
def Nf{op:CmpOp}{r:R2}(ho:OpR X (compareOp op) r)(ha:PE X a ta)(hb:PE X b tb)(hm:behindInMarks op b=false):PT X (.Compare a [op] [b] pos) (LB (tOp r ta tb)):=by
 intro pins s σ H Q I h;refine wpAny_isTrue_Compare1 (thn (ha pins s σ H _ I h) λv s1 ⟨x,H1,I1,r1,q1⟩=>thn (hb pins s1 σ H1 _ I1 q1) λu s2 ⟨y,H2,I2,r2,q2⟩=>
  thn (ho pins s2 σ H2 x y v u _ I2 r1 r2 q2) λc s3 ⟨z,H3,I3,r3,k,e,q3⟩=>?_) hm
 subst e;cases r3;exact wpAny_truthy_bool ⟨H3,I3,q3⟩
def Mv(K:PySem.W.Frag)(x:V)(H:Hp)(k:Bool):Prop:=
 match x with
 |.non=>k=false
 |.bl b=>k=b
 |.int i=>k=(i != 0)
 |.str y=>y.length<=sizeLine/\k=((y.length:Int) != 0)
 |.byt y=>y.size<=sizeLine/\k=((y.size:Int) != 0)
 |.ref p=>(∃xs,SqL K H p xs/\k=!xs.isEmpty)∨(∃xs,SqT K H p xs/\k=!xs.isEmpty)∨∃kvs,H p=some (.dK kvs)/\k=!kvs.isEmpty
 |_=>False
def P0{κ:Type}{kvs:List (κ×V)}{vs:List (κ×Value)}(r:KV kvs vs):(!vs.isEmpty)=!kvs.isEmpty:=by
 cases r<;>rfl
def JG{xs:List V}{its:List Value}(r:Vals xs its):(!its.toArray.isEmpty)=!xs.isEmpty:=by
 cases r<;>simp
def Fd:(sizeLine:Nat)<2^63:=by rw[sizeLine_eq];decide
def XG:bZ X (λx H Q=>∃k,Mv X.K x H k/\Q k H):=by
 intro pins s σ H x v Q I rx h;obtain⟨k,e,q⟩:=h;have hl:=Fd;have hs:sizeLine=16777216:=sizeLine_eq;cases x with
 |non=>
  cases rx;have e':k=false:=e;subst e';exact truthy_none ⟨H,I,q⟩
 |bl b=>
  cases rx;have e':k=b:=e;subst e';exact wpAny_truthy_bool ⟨H,I,q⟩
 |int i=>
  obtain⟨t,rfl⟩:=rx;have e':k=(i != 0):=e;subst e';exact PySem.P.truthy_int ⟨H,I,q⟩
 |str y=>
  obtain⟨t,rfl⟩:=rx;obtain⟨hy,e'⟩:y.length<=sizeLine/\k=((y.length:Int) != 0):=e;subst e';exact PySem.P.truthy_str (by omega) ⟨H,I.tok _,q⟩
 |byt y=>
  obtain⟨t,rfl⟩:=rx;obtain⟨hy,e'⟩:y.size<=sizeLine/\k=((y.size:Int) != 0):=e;subst e';exact PySem.W.truthy_bytes (by omega) ⟨H,I.tok _,q⟩
 |ref p=>
  cases rx;have e':(∃xs,SqL X.K H p xs/\k=!xs.isEmpty)∨(∃xs,SqT X.K H p xs/\k=!xs.isEmpty)∨∃kvs,H p=some (.dK kvs)/\k=!kvs.isEmpty:=e;rcases e' with⟨xs,hx,e'⟩|⟨xs,hx,e'⟩|⟨kvs,hx,e'⟩
  .subst e';obtain⟨its,r,pl,hz⟩:=I.list hx;have hlen:=r.length;exact wpAny_truthy_list pl.isList (by simp only[size_toArray];omega) ⟨H,I.tok _,by rw[JG r];exact q⟩
  .subst e';obtain⟨its,r,pl,hz⟩:=I.tuple hx;have hlen:=r.length;exact truthy_tuple pl (by simp only[size_toArray];omega) ⟨H,I.tok _,by rw[JG r];exact q⟩
  .subst e';obtain⟨hz,hS,vs,r,m⟩:kvs.length<=sizeLine/\(p==sysModules)=false/\∃vs,KV kvs vs/\s.heap.DictOf (B5 X.prog X.w) p vs:=I.hok p _ hx;have hlen:kvs.length=vs.length:=Paired.length r;exact wpAny_truthy_dict hS m (by omega) ⟨H,I.tok _,by rw[P0 r];exact q⟩
 |_=>exact(show False from e).elim
def Su(ha:PE X a ta)(he:∀whole,isTrue a X.env whole=(do let v <- whole;standAt a.pos;holding [v] (truthy v))):
 PT X a (λσ H Q=>ta σ H λx H'=>∃k,Mv X.K x H' k/\Q k H'):=by
 intro pins s σ H Q I h;exact isTrue_plain (thn (ha pins s σ H _ I h) λv s1 ⟨x,H1,I1,r1,q1⟩=>XG pins s1 σ H1 x v Q I1 r1 q1) (he _)
def CT{x:V}{us:List Value}(r:Vals [x] us):∃u,us=[u]/\RelV x u:=by
 cases r with
 |cons r1 r2=>cases r2;exact⟨_,rfl,r1⟩
def O9{x y:V}{us:List Value}(r:Vals [x,y] us):∃u w',us=[u,w']/\RelV x u/\RelV y w':=by
 cases r with
 |cons r1 r2=>
  cases r2 with
  |cons r3 r4=>cases r4;exact⟨_,_,rfl,r1,r3⟩
def RQ(hc:X.calm=true):CallR X (.builtin "max") (λxs H Q=>∃i j,xs=[.int i,.int j]/\Q (.int (if j>i then j else i)) H):=by
 intro pins s σ H xs us Q I r h;obtain⟨i,j,rfl,q⟩:=h;obtain⟨u,w',rfl,⟨t,rfl⟩,⟨t',rfl⟩⟩:=O9 r;refine max_two_ints (I.ok.hd hc) λh' tk k=>⟨_,H,I.kept k,?_,q⟩
 by_cases hj:j>i
 .rw[if_pos hj,if_pos hj];exact⟨_,rfl⟩
 .rw[if_neg hj,if_neg hj];exact⟨_,rfl⟩
end
def RelO.some_of{v:V}{o:Option Value}(r:RelO (some v) o):∃u,o=some u/\RelV v u:=by
 cases o with
 |none=>exact(show False from r).elim
 |some u=>exact⟨u,rfl,r⟩
structure Room(k:Nat)(A:Around):Prop where
 hd:A.handled=none
 dp:A.depth+3*k+5<recursionLimit
 un:A.units+16*k+200<cLine
 gd:A.guards=some []
def Room.mono{j k:Nat}{A:Around}(r:Room k A)(h:j<=k):Room j A:=⟨r.hd,by have:=r.dp;omega,by have:=r.un;omega,r.gd⟩
def Room.deeper{k:Nat}{A:Around}(r:Room (k+1) A)(env:Env):Room k (A.deeper env):=
 ⟨r.hd,by have:=r.dp;show A.depth+1+3*k+5<_;omega,by have:=r.un;show A.units+3+16*k+200<_;omega,by first|exact r.gd|(simpa [Around.deeper,Around.under,Code.guards,Code.isGuard,pushGuards]using r.gd)⟩
def Room.in1{k:Nat}{A:Around}(r:Room (k+1) A):Room k A.in1:=
 ⟨r.hd,by have:=r.dp;show A.depth+3*k+5<_;omega,by have:=r.un;show A.units+1+16*k+200<_;omega,r.gd⟩
def Room.depth{k:Nat}{A:Around}(r:Room k A):A.depth<recursionLimit:=by have:=r.dp;omega
def Room.units{k:Nat}{A:Around}(r:Room k A):A.units+64<cLine:=by have:=r.un;omega
def C2:TA:=λ_ H Q=>Q [] H
def BD(ta:TE)(tr:TA):TA:=λσ H Q=>ta σ H λx H1=>tr σ H1 λxs H2=>Q (x::xs) H2
section
variable{X:Cx}{e:Expr}{es:List Expr}{te:TE}{t:TA}{pos:Pos}
def D1:PA X [] C2:=λ_ _ _ _ H Q I h=>Calls.spliced_nil ⟨[],H,I,.nil,h⟩
def Bz(ha:PE X e te)(hr:PA X es t)(hs:starEach (e::es) X.env=(false,eval e X.env)::starEach es X.env:=by rfl):PA X (e::es) (BD te t):=by
 intro pos pins s σ H Q I h;rw[hs];show wpAny _ _ (spliced ((false,eval e X.env)::backTo pos (starEach es X.env))) _ _ s;refine Calls.spliced_cons (thn (ha pins s σ H _ I h) λu s1 ⟨x,H1,I1,r1,q1⟩=>?_);exact thn (hr pos pins s1 σ H1 _ I1 q1) λus s2 ⟨xs,H2,I2,r2,q2⟩=>⟨x::xs,H2,I2,.cons r1 r2,q2⟩
def Rt(t:TA):TE:=λσ H Q=>t σ H λxs H1=>xs.length<=sizeLine/\∀p,H1 p=none->Q (.ref p) (upd H1 p (.tup xs))
def S0(t:TA):TE:=λσ H Q=>t σ H λxs H1=>xs.length<=sizeLine/\∀p,H1 p=none->Q (.ref p) (upd H1 p (.lst xs))
def Yl{x1}(h:PA X es t):PE X (.Tuple es x1 pos) (Rt t):=by
 intro pins s σ H Q I hq;refine wpAny_Tuple_spliced (thn (h pos pins s σ H _ I hq) λus s1 ⟨xs,H1,I1,r,z,q⟩=>⟨by rw[<- r.length];exact z,?_⟩);have hf:H1 s1.heap.objs.size=none:=I1.hok.fresh (le_refl _);refine⟨.ref s1.heap.objs.size,upd H1 s1.heap.objs.size (.tup xs),I1.laid (t':=s1.toks) (λb u e=>Heap.get?_push_of_some _ e) (le_refl _) ?_,rfl,q _ hf⟩;exact⟨z,us,r,⟨_,Heap.get?_push_size _ rfl,rfl,⟨_,rfl⟩,rfl⟩⟩
def Yq(h:PA X es t):PE X (.List es pos) (S0 t):=by
 intro pins s σ H Q I hq;refine wpAny_List_spliced (thn (h pos pins s σ H _ I hq) λus s1 ⟨xs,H1,I1,r,z,q⟩=>⟨by rw[<- r.length];exact z,?_⟩);have hf:H1 s1.heap.objs.size=none:=I1.hok.fresh (le_refl _);refine⟨.ref s1.heap.objs.size,upd H1 s1.heap.objs.size (.lst xs),I1.laid (t':=s1.toks) (λb u e=>Heap.get?_push_of_some _ e) (le_refl _) ?_,rfl,q _ hf⟩;exact⟨z,us,0,r,Heap.get?_push_size _ rfl⟩
end
abbrev Sp:=List V->Hp->VK->XK->Prop
abbrev CXT:=List Env->Hp->Shared->XK->Value->Shared->Prop
structure Env0(P:Program)(w:World)(K:PySem.W.Frag)(mg:Str->Option Value)(base:Heap)(A:Around)(outer:List Env)(s:Shared)(H:Hp):Prop where
 frames:A.frames=some outer
 mod:Mod K mg base
 bs:∀b o,base.get? b=some o->s.heap.get? b=some o/\H b=none
 bsz:base.objs.size<=s.heap.objs.size
 funs:s.heap.FunFrames base outer
 frf:∀b∈frs outer,H b=none
 hok:HOk P w H s.heap
 bare:AllBare s.gens
def CE(outer:List Env)(P:Program)(w:World)(H:Hp)(s:Shared)(Q:VK)(u:Value)(s':Shared):Prop:=
 ∃v H',s'.os=s.os/\AllBare s'.gens/\Un (frs outer) [] H H' s.heap s'.heap/\HOk P w H' s'.heap/\RelV v u/\Q v H'
def CR(CX:CXT)(outer:List Env)(P:Program)(w:World)(H:Hp)(s:Shared)(Q:VK)(E:XK)(r:Result)(s':Shared):Prop:=
 match r with
 |.ok (.ret u)=>CE outer P w H s Q u s'
 |.ok _=>False
 |.error e=>CX outer H s E e s'
structure FnOk(P:Program)(w:World)(K:PySem.W.Frag)(mg:Str->Option Value)(base:Heap)(CX:CXT)(k:Nat)(f:Addr)(fd:FuncData)(ps:List Str)(sp:Sp):Prop where
 len:∀vs H Q E,sp vs H Q E->vs.length=ps.length
 run:∀(A:Around) (outer:List Env) (s:Shared) (H:Hp) (args:Args) (us:List Value) (vs:List V) (Q:VK) (E:XK),Room k A->Env0 P w K mg base A outer s H->BindsTo s fd args (ps.zip us)->Vals vs us->sp vs H Q E ->
  codeAny (model P w) A (.call (.ref f) args) (CR CX outer P w H s Q E) s
def FnOk.mono{P:Program}{w:World}{K:PySem.W.Frag}{mg:Str->Option Value}{base:Heap}{CX:CXT}{j k:Nat}{f:Addr}{fd:FuncData}{ps:List Str}{sp:Sp}(F:FnOk P w K mg base CX j f fd ps sp)(h:j<=k):
 FnOk P w K mg base CX k f fd ps sp:=⟨F.len,λA outer s H args us vs Q E hr=>F.run A outer s H args us vs Q E (hr.mono h)⟩
section
variable{X:Cx}{pins:List (Addr×Obj)}{σ:St}{H:Hp}{s s':Shared}
def Inv.env0(I:Inv X pins σ H s):Env0 X.prog X.w X.K X.mg X.base X.A X.stack s H:=
 ⟨I.ok.frames,I.ok.mod,I.bs,le_trans I.ok.bsz I.sz,I.stack,I.stkFree,I.hok,I.bare⟩
def Inv.after{Q:VK}{u:Value}(I:Inv X pins σ H s)(h:CE X.stack X.prog X.w H s Q u s'):EP X pins σ Q u s':=by
 obtain⟨v,H',os,bare,un,hok,r,q⟩:=h;obtain⟨hh,g,d,t,os'⟩:=s';obtain rfl:os'=s.os:=os;exact⟨v,H',I.call (h':=hh) (g':=g) (d':=d) (t':=t) (ch:=[]) un hok bare (λb z=>absurd z (by simp)),r,q⟩
end
def Ey(sp:Sp)(dvs:List V)(E:XK)(t:TA):TE:=λσ H Q=>t σ H λvs H1=>sp (vs++dvs) H1 Q E
def Binds(K:PySem.W.Frag)(fd:FuncData)(ps:List Str)(ds:List Value):Prop:=
 ∀(s:Shared) (us:List Value),K.In s.heap->(us++ds).length=ps.length->BindsTo s fd ⟨us,[]⟩ (ps.zip (us++ds))
def Binds.all{K:PySem.W.Frag}{fd:FuncData}{ps:List Str}(h:∀us:List Value,us.length=ps.length->bindArgs fd ⟨us,[]⟩=pure (ps.zip us)):Binds K fd ps []:=λs us _ hl=>by
 rw[append_nil]at hl ⊢;exact .of_eq (h us hl)
def My(CX:CXT)(X:Cx)(E:XK):Prop:=∀(pins:List (Addr×Obj)) (σ:St) (H:Hp) (s:Shared) (e:Value) (s':Shared),Inv X pins σ H s->CX X.stack H s E e s'->X.xe e s'
section
variable{X:Cx}{CX:CXT}{k:Nat}{f C:Addr}{fd:FuncData}{ps:List Str}{sp:Sp}{dvs:List V}{ds:List Value}{E:XK}{x m:Str}{p pos apos:Pos}{e o:Expr}{es:List Expr}{ta:TE}{t:TA}
def XQ{pins:List (Addr×Obj)}{σ:St}{H:Hp}{s:Shared}{Q:VK}{us:List Value}{vs:List V}(F:FnOk X.prog X.w X.K X.mg X.base CX k f fd ps sp)(hr:Room k X.A)(hb:Binds X.K fd ps ds)(hd:Vals dvs ds)(hx:My CX X E)
 (I:Inv X pins σ H s) (r:Vals vs us) (h:sp (vs++dvs) H Q E):wpAny (model X.prog X.w) X.A (call (.ref f) us) (EP X pins σ Q) X.xe s:=by
 have r2:Vals (vs++dvs) (us++ds):=r.append hd;have hl:(us++ds).length=ps.length:=by rw[<- r2.length];exact F.len _ _ _ _ h
 refine wpAny_call (codeAny_mono (F.run X.A X.stack s H ⟨us,[]⟩ (us++ds) (vs++dvs) Q E hr I.env0 (hb s us I.kIn hl) r2 h) λr s' hq=>?_);cases r with
 |error e=>exact hx pins σ H s e s' I hq
 |ok fl=>
  cases fl with
  |ret u=>exact I.after hq
  |next=>exact False.elim hq
  |brk=>exact False.elim hq
  |cont=>exact False.elim hq
def W8(F:FnOk X.prog X.w X.K X.mg X.base CX k f fd ps sp)(hr:Room k X.A)(hg:Gl X x)(hm:X.mg x=some (.ref f))(hk:PySem.W.keepIn X.K (.ref f)=true)(hb:Binds X.K fd ps ds)(hd:Vals dvs ds)(hx:My CX X E)
 (ha:PA X (e::es) t) (hdb:(x==("__debug__":Str))=false:=by decide) (he:starEach (e::es) X.env=(false,eval e X.env)::starEach es X.env:=by rfl) (hpl:(backTo pos (starEach es X.env)).any (·.1)=false:=by rfl):
 PE X (.Call (.Name x p) (e::es) [] pos) (Ey sp dvs E t):=by
 intro pins s σ H Q I h;refine wpAny_Call_Name_kw (WZ I hg hm ?_ hdb);refine PySem.W.callWith_K (h₀:=X.base) I.ok.mod.kin hk (thn (ha pos pins s σ H _ I h) λus s1 ⟨vs,H1,I1,r,q⟩=>⟨I1.kIn,?_⟩) he hpl;exact XQ F hr hb hd hx I1 r q
end
structure FnScope(N P:List Str)(sc:Scope):Prop where
 kind:sc.kind=.function
 co:sc.isCoroutine=false
 gen:sc.isGenerator=false
 nd:N.Nodup
 pre:N.take P.length=P
 par:∀x∈P,sc.names.lookup x=some .local∨sc.names.lookup x=some .cell
 nofree:∀y∈sc.names,y.2≠.free
def Kk{kindOf:Str->Option NameKind}{x:Str}:∀{binds:List (Str×Value)} {m:Str->Option Value},(∀v,(x,v)∉binds)->bindL kindOf binds m x=m x
 |[],_,_=>rfl
 |(n,v)::r,m,h=>by
   unfold bindL;rw[Kk λw hw=>h w (mem_cons_of_mem _ hw)];split
   .have:x≠n:=by rintro rfl;exact h v mem_cons_self
    simp[this]
   .rfl
def Km{kindOf:Str->Option NameKind}{x:Str}:∀{binds:List (Str×Value)} {m:Str->Option Value},(∀v,(x,v)∉binds)->bindC kindOf binds m x=m x
 |[],_,_=>rfl
 |(n,v)::r,m,h=>by
   unfold bindC;rw[Km λw hw=>h w (mem_cons_of_mem _ hw)];split
   .rfl
   .have:x≠n:=by rintro rfl;exact h v mem_cons_self
    simp[this]
def Kl{kindOf:Str->Option NameKind}{x:Str}{v:Value}:∀{P:List Str} {vs:List Value} {i:Nat} {m:Str->Option Value},P.Nodup->P[i]?=some x->vs[i]?=some v->kindOf x=some .local ->
 bindL kindOf (P.zip vs) m x=some v
 |[],_,_,_,_,h,_,_=>by simp at h
 |_::_,[],_,_,_,_,h,_=>by simp at h
 |p::P,w::vs,0,m,nd,h1,h2,hk=>by
  simp at h1 h2;subst h1;subst h2;show bindL kindOf ((p,w)::P.zip vs) m p=_;unfold bindL;rw[Kk λv hv=>(nodup_cons.mp nd).1 (of_mem_zip hv).1,if_pos hk];simp
 |p::P,w::vs,i+1,m,nd,h1,h2,hk=>by
  show bindL kindOf ((p,w)::P.zip vs) m x=_;unfold bindL;exact Kl (i:=i) (nodup_cons.mp nd).2 (by simpa using h1) (by simpa using h2) hk
def Ko{kindOf:Str->Option NameKind}{x:Str}{v:Value}:∀{P:List Str} {vs:List Value} {i:Nat} {m:Str->Option Value},P.Nodup->P[i]?=some x->vs[i]?=some v->kindOf x≠some .local ->
 bindC kindOf (P.zip vs) m x=some v
 |[],_,_,_,_,h,_,_=>by simp at h
 |_::_,[],_,_,_,_,h,_=>by simp at h
 |p::P,w::vs,0,m,nd,h1,h2,hk=>by
  simp at h1 h2;subst h1;subst h2;show bindC kindOf ((p,w)::P.zip vs) m p=_;unfold bindC;rw[Km λv hv=>(nodup_cons.mp nd).1 (of_mem_zip hv).1,if_neg hk];simp
 |p::P,w::vs,i+1,m,nd,h1,h2,hk=>by
  show bindC kindOf ((p,w)::P.zip vs) m x=_;unfold bindC;exact Ko (i:=i) (nodup_cons.mp nd).2 (by simpa using h1) (by simpa using h2) hk
def D7(N:List Str)(vs:List V):St:=vs.map some++List.replicate (N.length-vs.length) none
def FM(CX:CXT)(P:Program)(w:World)(K:PySem.W.Frag)(mg:Str->Option Value)(base:Heap)(N:List Str)(qual:Str)(scope:Scope)(f:Addr)(cd:Value)(A:Around)(outer:List Env)(s:Shared)(H:Hp)(E:XK):Cx where
 prog:=P
 w:=w
 K:=K
 mg:=mg
 base:=base
 A:=A.deeper (envOfC qual scope s.heap.objs.size f cd)
 N:=N
 s₀:=s
 H₀:=H
 env:=envOfC qual scope s.heap.objs.size f cd
 outer:=outer
 stack:=envOfC qual scope s.heap.objs.size f cd::outer
 ex:=[]
 calm:=true
 fn:=λ_=>true
 pn:=[]
 xe:=λe s'=>wpAny (model P w) (A.deeper (envOfC qual scope s.heap.objs.size f cd)) (leaving (envOfC qual scope s.heap.objs.size f cd) e) (λ_ s''=>CX outer H s E e s'') (λe' s''=>CX outer H s E e' s'') s'
def Mm{sc:Scope}{n:Nat}{x:Str}(h:sc.names.lookup x=some .cell):∃c,(cellsFrom n sc.names []).lookup x=some c:=by
 have q:=PySem.W.cellsFrom_some sc.names n [] (.inl h);exact isSome_iff_exists.mp q
def Qn{CX:CXT}{P:Program}{w:World}{K:PySem.W.Frag}{mg:Str->Option Value}{base:Heap}{N ps:List Str}{qual:Str}{scope:Scope}{f:Addr}{cd:Value}{A:Around}{outer:List Env}{s s1:Shared}{H:Hp}{E:XK}{us:List Value}{vs:List V}
 (S:FnScope N ps scope) (hd:A.handled=none) (e0:Env0 P w K mg base A outer s H) (hl:vs.length=ps.length) (r:Vals vs us)
 (x:InCallC s s.heap.objs.size (bindL (envOfC qual scope s.heap.objs.size f cd).kindOf (ps.zip us) λ_=>none) (cellsFrom (s.heap.objs.size+1) scope.names []) (bindC (envOfC qual scope s.heap.objs.size f cd).kindOf (ps.zip us) λ_=>none) s1):
 Inv (FM CX P w K mg base N qual scope f cd A outer s H E) [] (D7 N vs) H s1:=by
 have hpl:ps.length<=N.length:=by have:=congrArg List.length S.pre;rw[length_take]at this;omega
 obtain⟨h1,tk,rfl,hk⟩:=x.done;have noA:∀b:Addr,b∉(FM CX P w K mg base N qual scope f cd A outer s H E).ex:=λb z=>absurd (show b∈([]:List Addr)from z) (by simp);refine⟨⟨e0.mod,S.kind,rfl,rfl,le_refl _,λy z c h1 h2=>?_,λy hy=>?_,λy c _ h=>?_,λ_=>hd,Around.frames_deeper e0.frames,.inr ⟨rfl,rfl⟩,λb z=>absurd z (noA b),e0.bs,e0.bsz,λb _ _=>noA b,λb z=>absurd z (noA b),e0.funs,e0.frf⟩,
  rfl,e0.bare,Un.kept hk,⟨_,x.toInCall.ns,λi y v h1 h2 h3=>?_⟩,λy c h=>⟨_,x.cell y c h⟩,e0.hok.fresh (le_refl _),λy c h=>?_,λp hp=>absurd (show p∈([]:List (Addr×Obj))from hp) (by simp),e0.hok.kept hk,?_⟩
 .exact name_of_addr x.apart (PySem.mem_of_lookup h1) (PySem.mem_of_lookup h2)
 .have hy:scope.names.lookup y=some .cell∨scope.names.lookup y=some .free:=hy;rcases hy with hy|hy
  .exact Mm hy
  .exact absurd rfl (S.nofree _ (PySem.mem_of_lookup hy))
 .exact le_of_lt (x.above y c (PySem.mem_of_lookup h))
 .have hi:i<vs.length:=by
   unfold D7 at h2;by_cases hi:i<vs.length
   .exact hi
   .rw[List.getElem?_append_right (by simpa using hi)]at h2;rw[List.getElem?_replicate]at h2;split at h2<;>cases h2
  have ha:vs[i]?=some v:=by
   unfold D7 at h2;rw[List.getElem?_append_left (by simpa using hi),List.getElem?_map]at h2;cases e:vs[i]? with
   |none=>rw[e]at h2;cases h2
   |some a=>rw[e]at h2;cases h2;rfl
  obtain⟨u,hu,rv⟩:=r.get ha;have hp:ps[i]?=some y:=by
   rw[<- S.pre,List.getElem?_take_of_lt (by omega)];exact h1
  have ndP:ps.Nodup:=by rw[<- S.pre];exact S.nd.sublist (List.take_sublist _ _)
  refine⟨u,rv,?_⟩;rcases S.par y (mem_of_getElem? hp)with k|k
  .exact .inl ⟨k,Kl ndP hp hu k⟩
  .obtain⟨c,e⟩:=Mm (n:=s.heap.objs.size+1) k;refine .inr ⟨.inl k,c,e,?_⟩;have q:=x.cell y c e;rw[Ko ndP hp hu (by show scope.names.lookup y≠_;rw[k];decide)]at q;exact q
 .exact e0.hok.fresh (le_of_lt (x.above y c (PySem.mem_of_lookup h)))
 .unfold D7;show _=N.length;rw[length_append,length_map,List.length_replicate];omega
def UU{CX:CXT}{P:Program}{w:World}{K:PySem.W.Frag}{mg:Str->Option Value}{base:Heap}{k:Nat}{f:Addr}{name qual:Str}{params:Arguments}{body:List Stmt}{scope:Scope}{dV kV doc pm cdv ct oc:Value}{an od:Option Addr}
 {osl:Array (Option Value)} {N ps:List Str} {sp:Sp} (lk:K.lookup f=some ⟨oc,od,.func (PySem.W.fnOf name qual params body scope dV kV doc pm an cdv ct),osl⟩) (hcd:PySem.W.codeIn K cdv qual=true) (S:FnScope N ps scope)
 (len:∀vs H Q E,sp vs H Q E->vs.length=ps.length)
 (hbody:∀(A:Around) (outer:List Env) (s:Shared) (H:Hp) (vs:List V) (Q:VK) (E:XK),Room k (A.deeper (envOfC qual scope s.heap.objs.size f cdv))->sp vs H Q E ->
  ∃t,PSs (FM CX P w K mg base N qual scope f cdv A outer s H E) body t/\t { nx:=λ_ H'=>Q .non H',rt:=Q } (D7 N vs) H):
 FnOk P w K mg base CX (k+1) f (PySem.W.fnOf name qual params body scope dV kV doc pm an cdv ct) ps sp:=by
 refine⟨len,λA outer s H args us vs Q E hr e0 hb r hsp=>?_⟩;have hl:=len _ _ _ _ hsp;have KX:K.In s.heap:=e0.mod.kin.keeps λb o e=>(e0.bs b o e).1;have lim:s.heap.NoLimit:=e0.mod.nolimit.keeps λb o e=>(e0.bs b o e).1;have hkind:∀y∈ps.zip us,scope.names.lookup y.1=some .local∨(scope.names.lookup y.1=some .cell/\((cellsFrom (s.heap.objs.size+1) scope.names []).lookup y.1).isSome=true):=λ⟨n,v⟩ hy=>by
  rcases S.par n (of_mem_zip hy).1 with q|q
  .exact .inl q
  .exact .inr ⟨q,PySem.W.cellsFrom_some _ _ _ (.inl q)⟩
 refine codeAny_call_function hr.depth (KX _ _ lk) rfl S.co S.gen rfl (PySem.W.codeRec_of KX hcd) (hb _ _ _ _ ?_);refine wpAny_newFunctionEnv_cells S.kind hkind λenv he s1 x=>?_;subst he;refine⟨lim.keeps x.toInCall.keep,codeAny_func ?_⟩;obtain⟨t,ht,hq⟩:=hbody A outer s H vs Q E (hr.deeper _) hsp;have I:Inv (FM CX P w K mg base N qual scope f cdv A outer s H E) [] (D7 N vs) H s1:=Qn S hr.hd e0 hl r x;refine wpAny_mono (ht [] s1 (D7 N vs) H _ I hq) (λfl s' hs=>?_) λe s' hs=>hs;have fin:∀{σ':St} {H':Hp} {v:V} {u:Value},Inv (FM CX P w K mg base N qual scope f cdv A outer s H E) [] σ' H' s'->RelV v u->Q v H'->CE outer P w H s Q u s':=
  λ{σ' H' v u} J rv q=>⟨v,H',J.os,J.bare,J.base,J.hok,rv,q⟩
 cases fl with
 |ret u=>
  obtain⟨v,σ',H',J,rv,q⟩:=hs;exact fin J rv q
 |next=>
  obtain⟨σ',H',J,q⟩:=hs;exact fin (v:=V.non) (u:=Value.none) J rfl q
 |brk=>
  obtain⟨_,_,_,q⟩:=hs;exact False.elim q
 |cont=>
  obtain⟨_,_,_,q⟩:=hs;exact False.elim q
section
variable{X:Cx}{x:Str}{p pos:Pos}{e:Expr}{es:List Expr}{t:TA}{id T:String}{r:List V->Hp->VK->Prop}
def tCB(r:List V->Hp->VK->Prop)(t:TA):TE:=λσ H Q=>t σ H λvs H1=>r vs H1 Q
def ID(hc:CallR X (.builtin id) r)(hg:Gl X x)(hm:X.mg x=none)(hv:bootBuiltins x=some (.builtin id))(ha:PA X (e::es) t)(hn:x≠"__name__":=by decide)(hdb:(x==("__debug__":Str))=false:=by decide)
 (he:starEach (e::es) X.env=(false,eval e X.env)::starEach es X.env:=by rfl) (hpl:(backTo pos (starEach es X.env)).any (·.1)=false:=by rfl):PE X (.Call (.Name x p) (e::es) [] pos) (tCB r t):=by
 intro pins s σ H Q I h;refine wpAny_Call_Name_kw (D3 I hg hm hv ?_ hn hdb);exact PyProof.Rows.callWith_builtin1 (thn (ha pos pins s σ H _ I h) λus s1 ⟨vs,H1,I1,r1,q1⟩=>hc pins s1 σ H1 vs us Q I1 r1 q1) he hpl
def DH(hc:CallR X (.type T) r)(hg:Gl X x)(hm:X.mg x=none)(hv:bootBuiltins x=some (.type T))(ha:PA X (e::es) t)(hn:x≠"__name__":=by decide)(hdb:(x==("__debug__":Str))=false:=by decide)
 (he:starEach (e::es) X.env=(false,eval e X.env)::starEach es X.env:=by rfl) (hpl:(backTo pos (starEach es X.env)).any (·.1)=false:=by rfl):PE X (.Call (.Name x p) (e::es) [] pos) (tCB r t):=by
 intro pins s σ H Q I h;refine wpAny_Call_Name_kw (D3 I hg hm hv ?_ hn hdb);exact PyProof.Rows.callWith_type1 (thn (ha pos pins s σ H _ I h) λus s1 ⟨vs,H1,I1,r1,q1⟩=>hc pins s1 σ H1 vs us Q I1 r1 q1) he hpl
end
end L2
namespace HT
open PySem PyProof.Rows
section
variable{prog:Program}{w:World}{A:Around}{E:Value->Shared->Prop}{s:Shared}
def cat_tup{t b:Addr}{vs ws:List Value}{Q:Value->Shared->Prop}(ht:IsTup s.heap t vs.toArray)(hb:IsTup s.heap b ws.toArray)(hv:vs≠[])
 (h1:ws=[]->Q (.ref t) s) (h2:ws≠[]->Q (.ref s.heap.objs.size) { s with heap:=s.heap.push { cls:=.type "tuple",data:=.seq (vs++ws).toArray } })
 (hsz:vs.length+ws.length<=sizeLine):wpAny (model prog w) A (binaryOp .Add (.ref t) (.ref b)) Q E s:=by
 obtain⟨⟨cls,dd,data,sl⟩,ho,hc,n,hd⟩:=id ht;obtain⟨⟨cls2,dd2,data2,sl2⟩,ho2,hc2,n2,hd2⟩:=id hb;simp only at hc hd hc2 hd2;subst hc hd hc2 hd2;have e:vs.toArray++ws.toArray=(vs++ws).toArray:=by simp
 by_cases hw:ws=[]
 .exact concat_meets ⟨_,ho,rfl⟩ ⟨_,ho2,rfl⟩ noFill_tuple_add seq_tuple_add PySem.F.slot_tuple_add PySem.F.entry_tuple_add (PySem.F.args_tuple_add_2 _ _)
   (tuple_addW1 t b vs.toArray ws.toArray n n2 dd dd2 sl sl2 (by simpa using hv) (by simp[hw])) ⟨ho,ho2,h1 hw⟩
 .refine concat_meets ⟨_,ho,rfl⟩ ⟨_,ho2,rfl⟩ noFill_tuple_add seq_tuple_add PySem.F.slot_tuple_add PySem.F.entry_tuple_add (PySem.F.args_tuple_add_2 _ _)
   (tuple_addW2 t b vs.toArray ws.toArray n n2 dd dd2 sl sl2 (by simpa using hv) (by simpa using hw) (by rw[size_toArray,size_toArray];exact hsz)) ⟨ho,ho2,?_⟩
  rw[e];exact h2 hw
def sIx(n d:Nat):Option Int->Nat
 |none=>d
 |some v=>if v<0 then(v+(n:Int)).toNat else min v.toNat n
def sIx_none(n d:Nat):sIx n d none=d:=rfl
def sIx_nat(n d k:Nat):sIx n d (some (k:Int))=min k n:=by
 show(if(k:Int)<0 then((k:Int)+(n:Int)).toNat else min (k:Int).toNat n)=min k n;rw[if_neg (by omega),toNat_natCast]
def XN(n d:Nat)(hd:d<=n)(o:Option Int):sIx n d o<=n:=by
 cases o with
 |none=>exact hd
 |some v=>
  show(if v<0 then(v+(n:Int)).toNat else min v.toNat n)<=n;by_cases hv:v<0
  .rw[if_pos hv];omega
  .rw[if_neg hv];exact Nat.min_le_right _ _
def O3(v:Int)(n d:Nat):(if v<0 then max (v+(n:Int)) 0 else min v (n:Int))=((sIx n d (some v):Nat):Int):=by
 show(if v<0 then max (v+(n:Int)) 0 else min v (n:Int))=(((if v<0 then(v+(n:Int)).toNat else min v.toNat n):Nat):Int);by_cases hv:v<0
 .simp only[if_pos hv];omega
 .simp only[if_neg hv];omega
def PX(lo hi:Option Int)(n:Nat):Builtin.Slice.sliceAdjust lo hi 1 (n:Int)=(((sIx n 0 lo:Nat):Int),((sIx n n hi:Nat):Int)):=by
 have h1:¬ ((1:Int)<0):=by omega
 unfold Builtin.Slice.sliceAdjust;simp only[h1,if_false];refine Prod.ext ?_ ?_
 .cases lo with
  |none=>rfl
  |some v=>exact O3 v n 0
 .cases hi with
  |none=>rfl
  |some v=>exact O3 v n n
def Oj(i j:Nat):Builtin.Slice.slicePlaces (i:Int) (j:Int) 1=j-i:=by
 unfold Builtin.Slice.slicePlaces;have h1:(1:Int)>0:=by omega
 simp only[h1,if_true,Int.ediv_one];split<;>omega
def Ii{v:Value}{o:Option Int}{Q:Option Int->Shared->Prop}(p:IsPart v o)(h:Q o s):wpAny (model prog w) A (Builtin.Slice.slicePartIndex v) Q E s:=by
 cases p with
 |none=>exact slicePart_none h
 |int i t=>exact slicePart_int h
def Eh{sl:Addr}{vl vu:Value}{lo hi:Option Int}{n:Nat}{Q:Int×Int×Nat->Shared->Prop}(hs:s.heap.IsSliceOf sl vl vu .none)(pl:IsPart vl lo)(pu:IsPart vu hi)
 (h:Q (((sIx n 0 lo:Nat):Int),1,sIx n n hi-sIx n 0 lo) s):wpAny (model prog w) A (Builtin.Slice.sliceApplied (.ref sl) (pure (n:Int))) Q E s:=by
 obtain⟨os,hos,hcs,hds⟩:=id hs;unfold Builtin.Slice.sliceApplied Builtin.Slice.sliceFields;refine wpAny_bind (wpAny_bind (wpAny_field hos hds (x:=vl) rfl (wpAny_bind (wpAny_field hos hds (x:=vu) rfl (wpAny_bind (wpAny_field hos hds (x:=.none) rfl (wpAny_pure ?_)))))));refine wpAny_bind (slicePart_none ?_);show wpAny _ _ (if((1:Int)==0)=true then _ else _) _ _ s;rw[if_neg (by decide)];refine wpAny_bind (Ii pl (wpAny_bind (Ii pu (wpAny_bind (wpAny_pure ?_)))));show wpAny _ _ (match Builtin.Slice.sliceAdjust lo hi 1 (n:Int)with|(lo,hi)=>pure (lo,(1:Int),Builtin.Slice.slicePlaces lo hi 1)) _ _ s;rw[PX lo hi n];show wpAny _ _ (pure (((sIx n 0 lo:Nat):Int),(1:Int),Builtin.Slice.slicePlaces ((sIx n 0 lo:Nat):Int) ((sIx n n hi:Nat):Int) 1)) _ _ s;rw[Oj];exact wpAny_pure h
def T3(xs:Array Value)(i k:Nat):((List.range k).filterMap λ(m:Nat)=>xs[((i:Int)+(m:Int)*1).toNat]?).toArray=((xs.toList.drop i).take k).toArray:=by
 have e:(λ(m:Nat)=>xs[((i:Int)+(m:Int)*1).toNat]?)=λm=>xs[i+m]? := by
  funext m
  have:((i:Int)+(m:Int)*1).toNat=i+m:=by omega
  rw[this]
 rw[e];have:=pick_run xs i k;rw[List.filterMap_map]at this;have e2:((λx=>xs[x]?) ∘ λx=>i+x)=λm=>xs[i+m]? := rfl;rw[e2]at this;rw[this]
def getItem_tuple_cut{t sl:Addr}{items:Array Value}{vl vu:Value}{lo hi:Option Int}{Q:Value->Shared->Prop}(ht:IsTup s.heap t items)(hs:s.heap.IsSliceOf sl vl vu .none)(pl:IsPart vl lo)(pu:IsPart vu hi)
 (hw:¬ (sIx items.size 0 lo=0/\sIx items.size items.size hi=items.size))
 (h:Q (.ref s.heap.objs.size) { s with heap:=s.heap.push { cls:=.type "tuple",data:=.seq ((items.toList.drop (sIx items.size 0 lo)).take (sIx items.size items.size hi-sIx items.size 0 lo)).toArray } })
 (hsz:items.size<=sizeLine):wpAny (model prog w) A (getItem (.ref t) (.ref sl)) Q E s:=by
 have htake:sizeOk (.seq ((items.toList.drop (sIx items.size 0 lo)).take (sIx items.size items.size hi-sIx items.size 0 lo)).toArray):=by
  show((items.toList.drop (sIx items.size 0 lo)).take (sIx items.size items.size hi-sIx items.size 0 lo)).toArray.size<=sizeLine;rw[size_toArray,length_take,length_drop,Array.length_toList];omega
 have hj:sIx items.size items.size hi<=items.size:=XN _ _ (le_refl _) hi;obtain⟨os,hos,hcs,hds⟩:=id hs;have hTs:s.TypeIs (.ref sl) "slice":=⟨os,hos,hcs⟩
 unfold getItem
 try with_reducible refine wpAny_holding ?_
 first|refine wpAny_bind (wpAny_pure ?_)|skip
 refine wpAny_bind (wpAny_sequenceKey ht.typeIs (by decide) ?_);refine wpAny_bind (wpAny_callSpecial?_slot (name:=Str.ofString "__getitem__") ht.typeIs PyProof.Rows.slot_tuple_getitem
  (wpAny_call_entry PyProof.Rows.slot_tuple_getitem ht.typeIs entry_tuple_getitem ?_ (args_tuple_getitem _ _)))
 show wpAny _ _ (Builtin.Tuple.tupleItemsOf (.ref t) >>= _) _ _ s;refine wpAny_bind (tupleItemsOf_ ht ?_);refine wpAny_bind (wpAny_typeOf hTs ?_);rw[if_pos (by decide)];refine wpAny_bind (Eh hs pl pu ?_);have hno:¬ ((((sIx items.size 0 lo:Nat):Int)==0&&(1:Int)==1&&(sIx items.size items.size hi-sIx items.size 0 lo)==items.size)=true):=by
  intro q;rw[Bool.and_eq_true,Bool.and_eq_true]at q;have q1:((sIx items.size 0 lo:Nat):Int)=0:=eq_of_beq q.1.1;have q2:sIx items.size items.size hi-sIx items.size 0 lo=items.size:=eq_of_beq q.2;exact hw ⟨by omega,by omega⟩
 show wpAny _ _ (if(((sIx items.size 0 lo:Nat):Int)==0&&(1:Int)==1&&(sIx items.size items.size hi-sIx items.size 0 lo)==items.size)=true then _ else _) _ _ s;rw[if_neg hno,T3]
 first
  |exact wpAny_bind (m:=Builtin.Tuple.tupleExact _) (wpAny_newObj_type (wpAny_pure ⟨_,rfl,wpAny_pure h⟩) htake)
  |exact wpAny_bind (m:=Builtin.Tuple.tupleExact _) (wpAny_newObj_type (wpAny_bind (wpAny_pure (wpAny_pure ⟨_,rfl,wpAny_pure h⟩))) htake)
  |exact wpAny_bind (wpAny_bind (m:=Builtin.Tuple.tupleExact _) (wpAny_newObj_type (wpAny_pure (wpAny_pure ⟨_,rfl,wpAny_pure h⟩)) htake))
  |exact wpAny_bind (wpAny_bind (m:=Builtin.Tuple.tupleExact _) (wpAny_newObj_type (wpAny_pure ⟨_,rfl,wpAny_pure h⟩) htake))
end
end HT
namespace L2
open PySem PySem.Spec PyProof.Rows
abbrev TO:=St->Hp->(Option Int->Hp->Prop)->Prop
def PO(X:Cx)(e:Option Expr)(t:TO):Prop:=
 ∀(pins:List (Addr×Obj)) (s:Shared) (σ:St) (H:Hp) (Q:Option Int->Hp->Prop),Inv X pins σ H s->t σ H Q ->
   wpAny (model X.prog X.w) X.A (evalPart e X.env) (λu s'=>∃o H',Inv X pins σ H' s'/\IsPart u o/\Q o H') X.xe s
def JX:TO:=λ_ H Q=>Q none H
def OG(t:TE):TO:=λσ H Q=>t σ H λx H1=>∃i,x=.int i/\Q (some i) H1
section
variable{X:Cx}{e:Expr}{te:TE}{lo hi:Option Expr}{tl th:TO}{pos p2:Pos}
def Vv:PO X none JX:=by
 intro pins s σ H Q I h;rw[evalPart_none];exact wpAny_pure ⟨none,H,I,.none,h⟩
def Vu(h:PE X e te):PO X (some e) (OG te):=by
 intro pins s σ H Q I hw;rw[evalPart_some];refine thn (h pins s σ H _ I hw) λu s1 ⟨x,H1,I1,r1,q1⟩=>?_;obtain⟨i,rfl,q⟩:=q1;obtain⟨t,rfl⟩:=r1;exact⟨some i,H1,I1,.int i t,q⟩
def SlR(X:Cx)(r:V->Option Int->Option Int->Hp->VK->Prop):Prop:=
 ∀(pins:List (Addr×Obj)) (s:Shared) (σ:St) (H:Hp) (x:V) (v vl vu:Value) (lo hi:Option Int) (sl:Addr) (Q:VK),Inv X pins σ H s->RelV x v->s.heap.IsSliceOf sl vl vu .none->IsPart vl lo->IsPart vu hi->r x lo hi H Q ->
   ∃T id,typeLookup (.type T) "__getitem__"=pure (some (.builtin id))/\s.TypeIs v T/\wpAny (model X.prog X.w) X.A (getItem v (.ref sl)) (EP X pins σ Q) X.xe s
def tSl(r:V->Option Int->Option Int->Hp->VK->Prop)(te:TE)(tl th:TO):TE:=λσ H Q=>te σ H λx H1=>tl σ H1 λl H2=>th σ H2 λu H3=>r x l u H3 Q
def M2{r:V->Option Int->Option Int->Hp->VK->Prop}(hr:SlR X r)(he:PE X e te)(hl:PO X lo tl)(hu:PO X hi th):PE X (.Subscript e (.Slice lo hi none p2) pos) (tSl r te tl th):=by
 intro pins s σ H Q I h;refine Subscript_ (thn (he pins s σ H _ I h) λv s1 ⟨x,H1,I1,r1,q1⟩=>?_);refine wpAny_Slice (thn (hl pins s1 σ H1 _ I1 q1) λvl s2 ⟨l,H2,I2,pl,q2⟩=>thn (hu pins s2 σ H2 _ I2 q2) λvu s3 ⟨u,H3,I3,pu,q3⟩=>?_);rw[evalPart_none];refine wpAny_pure ?_;have I4:Inv X pins σ H3 { s3 with heap:=s3.heap.push { cls:=.type "slice",data:=.fields #[vl,vu,.none] } }:=I3.kept (t':=s3.toks) λb ob q=>Heap.get?_push_of_some _ q;obtain⟨T,id,hT,ht,hg⟩:=hr pins { s3 with heap:=s3.heap.push { cls:=.type "slice",data:=.fields #[vl,vu,.none] } } σ H3 x v vl vu l u s3.heap.objs.size Q I4 r1 (Heap.IsSliceOf.new ..) pl pu q3;show wpAny (model X.prog X.w) X.A (subscriptTail e (.Slice lo hi none p2) v (.ref s3.heap.objs.size)) (EP X pins σ Q) X.xe { s3 with heap:=s3.heap.push { cls:=.type "slice",data:=.fields #[vl,vu,.none] } };exact tail_any (ops:=[.ref s3.heap.objs.size,v]) ht hT hg (by with_unfolding_all rfl)
def FN(xs:List V)(lo hi:Option Int):List V:=(xs.drop (HT.sIx xs.length 0 lo)).take (HT.sIx xs.length xs.length hi-HT.sIx xs.length 0 lo)
def Ht(xs:List V)(lo hi:Option Int):(FN xs lo hi).length<=xs.length:=by
 unfold FN;rw[length_take,length_drop];omega
def Xr(K:PySem.W.Frag):V->Option Int->Option Int->Hp->VK->Prop:=λx lo hi H Q=>∃a xs,x=.ref a/\SqT K H a xs /\
 ¬ (HT.sIx xs.length 0 lo=0/\HT.sIx xs.length xs.length hi=xs.length)/\∀p,H p=none->Q (.ref p) (upd H p (.tup (FN xs lo hi)))
def XJ:SlR X (Xr X.K):=by
 intro pins s σ H x v vl vu lo hi sl Q I rx hs pl pu h;obtain⟨a,xs,rfl,hx,hw,q⟩:=h;cases rx;obtain⟨its,r,ht,hz⟩:=I.tuple hx;have hlen:its.toArray.size=xs.length:=by rw[size_toArray];exact r.length.symm
 refine⟨"tuple",_,PyProof.Rows.slot_tuple_getitem.lookup,ht.typeIs,?_⟩;refine HT.getItem_tuple_cut ht hs pl pu (by rw[hlen];exact hw) ?_ (by rw[hlen];exact hz);rw[hlen];refine⟨.ref s.heap.objs.size,_,I.laid (t':=s.toks) (o:=.tup (FN xs lo hi)) (λb ob q=>Heap.get?_push_of_some _ q) (le_refl _) ?_,rfl,q _ (I.hok.fresh (le_refl _))⟩;exact⟨le_trans (Ht xs lo hi) hz,_,(r.drop (HT.sIx xs.length 0 lo)).take (HT.sIx xs.length xs.length hi-HT.sIx xs.length 0 lo),IsTupD.new _ _⟩
def Og(K:PySem.W.Frag):R2:=λx y H Q=>∃a b xs ys,x=.ref a/\y=.ref b/\SqT K H a xs/\SqT K H b ys/\xs≠[]/\xs.length+ys.length<=sizeLine /\
 (ys=[]->Q (.ref a) H)/\(ys≠[]->∀p,H p=none->Q (.ref p) (upd H p (.tup (xs++ys))))
def Vals.nil_iff{xs:List V}{us:List Value}(r:Vals xs us):us=[]↔xs=[]:=by
 cases r with
 |nil=>simp
 |cons _ _=>simp
def WG:OpR X (binaryOp .Add) (Og X.K):=by
 intro pins s σ H x y v u Q I rx ry h;obtain⟨a,b,xs,ys,rfl,rfl,ha,hb,hx,hz,q1,q2⟩:=h;cases rx;cases ry;obtain⟨its,r1,p1,_⟩:=I.tuple ha;obtain⟨its2,r2,p2,_⟩:=I.tuple hb;refine HT.cat_tup p1 p2 (λz=>hx (r1.nil_iff.mp z)) (λz=>⟨.ref a,H,I,rfl,q1 (r2.nil_iff.mp z)⟩) (λz=>?_) (by rw[<- r1.length,<- r2.length];exact hz);refine⟨.ref s.heap.objs.size,_,I.laid (t':=s.toks) (o:=.tup (xs++ys)) (λb ob q=>Heap.get?_push_of_some _ q) (le_refl _) ?_,rfl,q2 (λw=>z (r2.nil_iff.mpr w)) _ (I.hok.fresh (le_refl _))⟩;exact⟨by rw[length_append];exact hz,_,r1.append r2,IsTupD.new _ _⟩
end
def ixN(n:Nat)(i:Int):Option Nat:=if 0<=i then(if i<n then some i.toNat else none)else if -(n:Int)<=i then some (i+n).toNat else none
def atI{α:Type}(xs:List α)(i:Int):Option α:=(ixN xs.length i).bind λj=>xs[j]?
def Jx{n:Nat}{i:Int}{j:Nat}(h:ixN n i=some j):seqIndex? i n=some j/\j<n/\-(n:Int)<=i/\i<n:=by
 unfold ixN at h;by_cases h0:0<=i
 .rw[if_pos h0]at h;by_cases h1:i<n
  .rw[if_pos h1]at h;have e:i.toNat=j:=Option.some.inj h;exact⟨by rw[seqIndex_of h0 h1,e],by omega,by omega,h1⟩
  .rw[if_neg h1]at h;cases h
 .rw[if_neg h0]at h;by_cases h1:-(n:Int)<=i
  .rw[if_pos h1]at h;have e:(i+n).toNat=j:=Option.some.inj h;exact⟨by rw[seqIndex_neg (by omega) h1,e],by omega,h1,by omega⟩
  .rw[if_neg h1]at h;cases h
def K7{α:Type}{xs:List α}{i:Int}{v:α}(h:atI xs i=some v):∃j,seqIndex? i xs.length=some j/\xs[j]?=some v/\j<xs.length/\-(xs.length:Int)<=i/\i<xs.length:=by
 unfold atI at h;cases e:ixN xs.length i with
 |none=>rw[e]at h;cases h
 |some j=>
  rw[e]at h;obtain⟨h1,h2,h3,h4⟩:=Jx e;exact⟨j,h1,h,h2,h3,h4⟩
def Bn{α:Type}{xs:List α}{j:Nat}{v:α}(h:xs[j]?=some v):atI xs (j:Int)=some v:=by
 have hj:j<xs.length:=(List.getElem?_eq_some_iff.mp h).1;have e:ixN xs.length (j:Int)=some j:=by
  unfold ixN;rw[if_pos (by omega),if_pos (by omega)];simp
 unfold atI;rw[e];exact h
def Ms{α:Type}(xs:List α)(v:α):atI (xs++[v]) (-1)=some v:=by
 have hl:(xs++[v]).length=xs.length+1:=by simp
 have e:ixN (xs++[v]).length (-1)=some xs.length:=by
  unfold ixN;rw[hl,if_neg (by decide),if_pos (by omega)]
  congr 1
  omega
 unfold atI;rw[e];show(xs++[v])[xs.length]?=some v;simp
def K9(b:Expr):Prop:=∀o i,subscripted b false o i=operate [o,i] (getItem o i)
def IxR(X:Cx)(r:R2):Prop:=
 ∀(value slice:Expr) (pins:List (Addr×Obj)) (s:Shared) (σ:St) (H:Hp) (x y:V) (v u:Value) (Q:VK),Inv X pins σ H s->RelV x v->RelV y u->r x y H Q ->
   subscripted slice false v u=operate [v,u] (getItem v u)->wpAny (model X.prog X.w) X.A (subscriptTail value slice v u) (EP X pins σ Q) X.xe s
def MtR(X:Cx)(id:String)(r:V->List V->Hp->VK->Prop):Prop:=
 ∀(pins:List (Addr×Obj)) (s:Shared) (σ:St) (H:Hp) (x:V) (xs:List V) (v:Value) (us:List Value) (Q:VK),Inv X pins σ H s->RelV x v->Vals xs us->r x xs H Q ->
   wpAny (model X.prog X.w) X.A (call (.builtin id) (v::us)) (EP X pins σ Q) X.xe s
section
variable{X:Cx}{a b:Expr}{ta tb:TE}{pos:Pos}
def IxR.or{r r':R2}(h:IxR X r)(h':IxR X r'):IxR X (λx y H Q=>r x y H Q∨r' x y H Q):=by
 intro value slice pins s σ H x y v u Q I rx ry q hs;rcases q with q|q
 .exact h value slice pins s σ H x y v u Q I rx ry q hs
 .exact h' value slice pins s σ H x y v u Q I rx ry q hs
def UM{r:R2}(hr:IxR X r)(ha:PE X a ta)(hb:PE X b tb)(hs:K9 b):PE X (.Subscript a b pos) (tOp r ta tb):=by
 intro pins s σ H Q I h;exact Subscript_ (Tw ha hb I h λv u s2 x y H2 I2 rx ry q=>hr a b pins s2 σ H2 x y v u Q I2 rx ry q (hs _ _))
def Jh(K:PySem.W.Frag):R2:=λx y H Q=>∃p xs i v,x=.ref p/\y=.int i/\SqL K H p xs/\atI xs i=some v/\Q v H
def Sb(K:PySem.W.Frag):R2:=λx y H Q=>∃p xs i v,x=.ref p/\y=.int i/\SqT K H p xs/\atI xs i=some v/\Q v H
def We:IxR X (Jh X.K):=by
 intro value slice pins s σ H x y v u Q I rx ry h hs;obtain⟨p,xs,i,z,rfl,rfl,hq,he,q⟩:=h;cases rx;obtain⟨t,rfl⟩:=ry;obtain⟨its,r,pl,hz⟩:=I.list hq;obtain⟨j,h1,h2,h3,h4,h5⟩:=K7 he;obtain⟨w,ew,rw'⟩:=r.get h2;have hl:=r.length;have hn:=Fd;have fin:EP X pins σ Q w s:=⟨z,H,I,rw',q⟩
 by_cases h0:0<=i
 .have hj:i.toNat=j:=by
   rw[seqIndex_of h0 h5]at h1;exact Option.some.inj h1
  exact item_listR pl.isList h0 (by omega) (by rw[hj];simpa using ew) fin hs
 .have hj:(i+(its.toArray.size:Int)).toNat=j:=by
   rw[seqIndex_neg (by omega) h4]at h1;rw[size_toArray,<- hl];exact Option.some.inj h1
  exact subscriptTail_builtinR (x:=w) pl.isList.typeIs slot_list_getitem.lookup
   (wpAny_getItem_list_neg (Q:=λr s'=>r=w/\EP X pins σ Q r s') pl.isList (by omega) (by rw[size_toArray]<;>omega) (by omega) (by rw[hj];simpa using ew) ⟨rfl,fin⟩) hs
def ZF:IxR X (Sb X.K):=by
 intro value slice pins s σ H x y v u Q I rx ry h hs;obtain⟨p,xs,i,z,rfl,rfl,hq,he,q⟩:=h;cases rx;obtain⟨t,rfl⟩:=ry;obtain⟨its,r,pl,hz⟩:=I.tuple hq;obtain⟨j,h1,h2,h3,h4,h5⟩:=K7 he;obtain⟨w,ew,rw'⟩:=r.get h2;have hl:=r.length;have hn:=Fd;have fin:EP X pins σ Q w s:=⟨z,H,I,rw',q⟩
 exact subscriptTail_builtinR (x:=w) pl.typeIs slot_tuple_getitem.lookup
  (getItem_tuple (j:=j) (Q:=λr s'=>r=w/\EP X pins σ Q r s') pl (by omega) (by omega) (by rw[size_toArray,<- hl];exact h1) (by simpa using ew) ⟨rfl,fin⟩) hs
def Op(its:List Value)(n j:Nat)(u:Value):Obj.mapSeq (·.setIfInBounds j u) { cls:=.type "list",data:=.seq its.toArray n }={ cls:=.type "list",data:=.seq (its.set j u).toArray n }:=by
 simp[Obj.mapSeq]
def Inv.lst{pins:List (Addr×Obj)}{σ:St}{H:Hp}{s:Shared}{p:Addr}{xs:List V}(I:Inv X pins σ H s)(h:H p=some (.lst xs)):
 ∃(its:List Value) (n:Nat),Vals xs its/\s.heap.get? p=some { cls:=.type "list",data:=.seq its.toArray n }/\xs.length<=sizeLine:=by
 obtain⟨z,its,n,r,e⟩:=I.hok p _ h;exact⟨its,n,r,e,z⟩
def Inv.lstUpd{pins:List (Addr×Obj)}{σ:St}{H:Hp}{s:Shared}{p:Addr}{xs ys:List V}{its its':List Value}{n n':Nat}{f:Obj->Obj}(I:Inv X pins σ H s)(h:H p=some (.lst xs))
 (ho:s.heap.get? p=some { cls:=.type "list",data:=.seq its.toArray n }) (hf:f { cls:=.type "list",data:=.seq its.toArray n }={ cls:=.type "list",data:=.seq its'.toArray n' }) (r:Vals ys its') (hz:ys.length<=sizeLine) (t:Nat):
 Inv X pins σ (upd H p (.lst ys)) { s with heap:=s.heap.update p f,toks:=t }:=by
 have e:(s.heap.update p f).get? p=some { cls:=.type "list",data:=.seq its'.toArray n' }:=by
  rw[Heap.get?_update_self f ho (by rw[hf]<;>rfl),hf]
 refine I.write (x:=p) (e:=p) (by rw[h];trivial) (.inl rfl) (λb u hb q=>(Heap.get?_update_other _ _ (Ne.symm hb)).trans q) ⟨_,e⟩ ?_;exact⟨hz,its',n',r,e⟩
def J0:V->V->V->Hp->(Hp->Prop)->Prop:=λo i v H Q=>∃p xs k j,o=.ref p/\i=.int k/\H p=some (.lst xs)/\ixN xs.length k=some j/\Q (upd H p (.lst (xs.set j v)))
def Le:Tz X J0:=by
 intro pins s σ H o i v ov iv u Q I ro ri rv h;obtain⟨p,xs,k,j,rfl,rfl,hp,hj,q⟩:=h;cases ro;obtain⟨t,rfl⟩:=ri;obtain⟨its,n,r,ho,hz⟩:=I.lst hp;obtain⟨h1,h2,h3,h4⟩:=Jx hj;have hl:=r.length;have hn:=Fd;have I':Inv X pins σ (upd H p (.lst (xs.set j v))) { s with heap:=s.heap.update p (Obj.mapSeq (·.setIfInBounds j u)) }:=
  I.lstUpd hp ho (Op its n j u) (r.set rv j) (by rw[List.length_set];exact hz) s.toks
 by_cases h0:0<=k
 .have hk:k.toNat=j:=by
   rw[seqIndex_of h0 h4]at h1;exact Option.some.inj h1
  exact PySem.W.ki_setAt ho h0 (by omega) (by rw[size_toArray,<- hl];exact h4) (by rw[hk];exact⟨_,I',q⟩)
 .have hk:(k+(its.toArray.size:Int)).toNat=j:=by
   rw[seqIndex_neg (by omega) h3]at h1;rw[size_toArray,<- hl];exact Option.some.inj h1
  exact PySem.W.ki_setBack ho (by omega) (by rw[size_toArray,<- hl];exact h3) (by omega) (by rw[hk];exact⟨_,I',q⟩)
def Ld(lo hi:Option Int)(n:Nat):(sliceBounds lo hi none n).1=((HT.sIx n 0 lo:Nat):Int)/\(sliceBounds lo hi none n).2.1=((HT.sIx n n hi:Nat):Int)/\(sliceBounds lo hi none n).2.2=1:=by
 refine⟨?_,?_,rfl⟩
 .cases lo with
  |none=>simp[sliceBounds,HT.sIx]
  |some i=>
   simp only[sliceBounds,HT.sIx,Option.getD_none,show(1:Int)>0 by decide,if_true];by_cases h:i<0
   .simp only[h,if_true]<;>omega
   .simp only[h,if_false]<;>omega
 .cases hi with
  |none=>simp[sliceBounds,HT.sIx]
  |some i=>
   simp only[sliceBounds,HT.sIx,Option.getD_none,show(1:Int)>0 by decide,if_true];by_cases h:i<0
   .simp only[h,if_true]<;>omega
   .simp only[h,if_false]<;>omega
def Kp(its:List Value)(lo hi:Option Int):slicePick its.toArray lo hi none=((its.drop (HT.sIx its.length 0 lo)).take (HT.sIx its.length its.length hi-HT.sIx its.length 0 lo)).toArray:=by
 obtain⟨h1,h2,h3⟩:=Ld lo hi its.toArray.size;unfold slicePick;rw[h1,h2,h3];simp only[sliceRange_one,pick_run,size_toArray]<;>rfl
def Oe(K:PySem.W.Frag):V->Option Int->Option Int->Hp->VK->Prop:=λx lo hi H Q=>∃a xs,x=.ref a/\SqL K H a xs/\∀p,H p=none->Q (.ref p) (upd H p (.lst (FN xs lo hi)))
def Ur:SlR X (Oe X.K):=by
 intro pins s σ H x v vl vu lo hi sl Q I rx hs pl pu h;obtain⟨a,xs,rfl,hx,q⟩:=h;cases rx;obtain⟨its,r,ht,hz⟩:=I.list hx;have hlen:=r.length;refine⟨"list",_,slot_list_getitem.lookup,ht.isList.typeIs,?_⟩;refine wpAny_getItem_list_slice ht.isList hs pl pu .none (by simp) ?_ (by rw[size_toArray]<;>omega);rw[Kp,<- hlen];refine⟨.ref s.heap.objs.size,_,I.laid (t':=s.toks) (o:=.lst (FN xs lo hi)) (λb ob q=>Heap.get?_push_of_some _ q) (le_refl _) ?_,rfl,q _ (I.hok.fresh (le_refl _))⟩;exact⟨le_trans (Ht xs lo hi) hz,_,0,(r.drop (HT.sIx xs.length 0 lo)).take (HT.sIx xs.length xs.length hi-HT.sIx xs.length 0 lo),Heap.get?_push_size _ rfl⟩
def Dy:V->Bool
 |.non=>true
 |.bl _=>true
 |.int _=>true
 |.str _=>true
 |_=>false
def eqV:V->V->Bool
 |.non,.non=>true
 |.bl a,.bl b=>a==b
 |.bl a,.int b=>(if a then 1 else 0)==b
 |.int a,.bl b=>a==(if b then 1 else 0)
 |.int a,.int b=>a==b
 |.str a,.str b=>a==b
 |_,_=>false
def Zb{A:Around}{s:Shared}{y x:V}{u v:Value}(ry:RelV y u)(rx:RelV x v)(fy:Dy y=true)(fx:Dy x=true):SeqAt.EqAt A s u v (eqV y x):=by
 cases y with
 |non=>
  cases ry;cases x with
  |non=>cases rx;exact SeqAt.EqAt.same _
  |bl b=>cases rx;exact SeqAt.EqAt.none_bool b
  |int b=>obtain⟨t,rfl⟩:=rx;exact SeqAt.EqAt.none_int b t
  |str b=>obtain⟨t,rfl⟩:=rx;exact SeqAt.EqAt.none_str b t
  |_=>exact absurd (show false=true from fx) Bool.false_ne_true
 |bl a=>
  cases ry;cases x with
  |non=>cases rx;exact SeqAt.EqAt.bool_none a
  |bl b=>cases rx;exact SeqAt.EqAt.bool_bool a b
  |int b=>obtain⟨t,rfl⟩:=rx;exact SeqAt.EqAt.bool_int a b t
  |str b=>obtain⟨t,rfl⟩:=rx;exact SeqAt.EqAt.bool_str a b t
  |_=>exact absurd (show false=true from fx) Bool.false_ne_true
 |int a=>
  obtain⟨t',rfl⟩:=ry;cases x with
  |non=>cases rx;exact SeqAt.EqAt.int_none a t'
  |bl b=>cases rx;exact SeqAt.EqAt.int_bool a t' b
  |int b=>obtain⟨t,rfl⟩:=rx;exact SeqAt.EqAt.int_int a t' b t
  |str b=>obtain⟨t,rfl⟩:=rx;exact SeqAt.EqAt.int_str a t' b t
  |_=>exact absurd (show false=true from fx) Bool.false_ne_true
 |str a=>
  obtain⟨t',rfl⟩:=ry;cases x with
  |non=>cases rx;exact SeqAt.EqAt.str_none a t'
  |bl b=>cases rx;exact SeqAt.EqAt.str_bool a t' b
  |int b=>obtain⟨t,rfl⟩:=rx;exact SeqAt.EqAt.str_int a t' b t
  |str b=>obtain⟨t,rfl⟩:=rx;exact SeqAt.EqAt.str_str a t' b t
  |_=>exact absurd (show false=true from fx) Bool.false_ne_true
 |_=>exact absurd (show false=true from fy) Bool.false_ne_true
def eqU(x:V)(u:Value):Bool:=match u with
 |.none=>eqV .non x
 |.bool b=>eqV (.bl b) x
 |.int i _=>eqV (.int i) x
 |.str z _=>eqV (.str z) x
 |_=>false
def Qw{x y:V}{u:Value}(r:RelV y u)(f:Dy y=true):eqU x u=eqV y x:=by
 cases y with
 |non=>cases r;rfl
 |bl b=>cases r;rfl
 |int i=>obtain⟨t,rfl⟩:=r;rfl
 |str z=>obtain⟨t,rfl⟩:=r;rfl
 |_=>exact absurd (show false=true from f) Bool.false_ne_true
def K8{x:V}:∀{xs:List V} {us:List Value},Vals xs us->xs.all Dy=true->us.any (eqU x)=xs.any λy=>eqV y x
 |_,_,.nil,_=>rfl
 |y::xs,u::us,.cons r t,f=>by
  rw[List.all_cons,Bool.and_eq_true]at f;rw[any_cons,any_cons,Qw r f.1,K8 t f.2]
def IG{A:Around}{s:Shared}{x:V}{v:Value}(rx:RelV x v)(fx:Dy x=true):∀{xs:List V} {us:List Value},Vals xs us->xs.all Dy=true->∀u∈us,SeqAt.EqAt A s u v (eqU x u)
 |_,_,.nil,_=>λu hu=>by cases hu
 |y::xs,u::us,.cons r t,f=>λu' hu=>by
  rw[List.all_cons,Bool.and_eq_true]at f;rcases mem_cons.mp hu with rfl|hu
  .rw[Qw r f.1];exact Zb r rx f.1 fx
  .exact IG rx fx t f.2 u' hu
def inV(x:V)(xs:List V):Bool:=xs.any λy=>eqV y x
def rIn(K:PySem.W.Frag)(neg:Bool):R2:=λx y H Q=>∃p xs,y=.ref p/\(SqL K H p xs∨SqT K H p xs)/\Dy x=true/\xs.all Dy=true/\Q (.bl (if neg then !inV x xs else inV x xs)) H
def M4:OpR X (compareOp .NotIn) (rIn X.K true):=by
 intro pins s σ H x y v u Q I rx ry h;obtain⟨p,xs,rfl,hq,fx,fs,q⟩:=h;cases ry;rcases hq with hq|hq
 .obtain⟨its,r,pl,hz⟩:=I.list hq;refine SeqAt.notIn_listAt (eqU x) pl.isList (λw hw=>IG rx fx r fs w (by simpa using hw)) ⟨.bl _,H,I,rfl,?_⟩;rw[show its.toArray.any (eqU x)=its.any (eqU x) by simp,K8 r fs];exact q
 .obtain⟨its,r,pl,hz⟩:=I.tuple hq;refine SeqAt.notIn_tupleAt (eqU x) pl (λw hw=>IG rx fx r fs w (by simpa using hw)) ⟨.bl _,H,I,rfl,?_⟩;rw[show its.toArray.any (eqU x)=its.any (eqU x) by simp,K8 r fs];exact q
def Mp:CallR X (.builtin "len") (λxs H Q=>∃p ys,xs=[.ref p]/\(SqL X.K H p ys∨SqT X.K H p ys)/\Q (.int ys.length) H):=by
 intro pins s σ H xs us Q I r h;obtain⟨p,ys,rfl,hq,q⟩:=h;obtain⟨u,rfl,rx⟩:=CT r;cases rx;have hn:=Fd;rcases hq with hq|hq
 .obtain⟨its,r',pl,hz⟩:=I.list hq;have hlen:=r'.length;exact Calls.call_len_list pl.isList (by simp only[size_toArray]<;>omega) ⟨.int ys.length,H,I.tok _,⟨s.toks+1,by rw[size_toArray,hlen]⟩,q⟩
 .obtain⟨its,r',pl,hz⟩:=I.tuple hq;have hlen:=r'.length;exact len_tuple pl (by simp only[size_toArray]<;>omega) ⟨.int ys.length,H,I.tok _,⟨s.toks+1,by rw[size_toArray,hlen]⟩,q⟩
def CallR.or{f:Value}{r r':List V->Hp->VK->Prop}(h:CallR X f r)(h':CallR X f r'):CallR X f (λxs H Q=>r xs H Q∨r' xs H Q):=by
 intro pins s σ H xs us Q I rs q;rcases q with q|q
 .exact h pins s σ H xs us Q I rs q
 .exact h' pins s σ H xs us Q I rs q
def Mo:CallR X (.type "list") (λxs H Q=>∃p ys,xs=[.ref p]/\(SqL X.K H p ys∨SqT X.K H p ys)/\∀l,H l=none->Q (.ref l) (upd H l (.lst ys))):=by
 intro pins s σ H xs us Q I r h;obtain⟨p,ys,rfl,hq,q⟩:=h;obtain⟨u,rfl,rx⟩:=CT r;cases rx;have fin:∀(its:List Value),Vals ys its->ys.length<=sizeLine->∀(h':Heap) (c':Nat),(∀b o',s.heap.get? b=some o'->h'.get? b=some o') ->
  h'.get? s.heap.objs.size=some { cls:=.type "list",dict:=none,data:=.seq its.toArray c',slots:=#[] }->EP X pins σ Q (.ref s.heap.objs.size) { s with heap:=h' }:=λits r' hz h' c' kp e=>
  ⟨.ref s.heap.objs.size,_,I.laid (t':=s.toks) kp (le_refl _) (show ObjOk X.prog X.w _ h' _ (.lst ys)from⟨hz,its,c',r',e⟩),rfl,q _ (I.hok.fresh (le_refl _))⟩
 rcases hq with hq|hq
 .obtain⟨its,r',pl,hz⟩:=I.list hq;have hlen:=r'.length;obtain⟨o,ho,hc,n,hd⟩:=pl.isList;exact call_list_seq p (.inl rfl) ho hc hd (λh' c' kp e=>fin its r' hz h' c' kp e) (by simp only[size_toArray]<;>omega)
 .obtain⟨its,r',pl,hz⟩:=I.tuple hq;have hlen:=r'.length;obtain⟨o,ho,hc,n,hd⟩:=pl;exact call_list_seq p (.inr rfl) ho hc hd (λh' c' kp e=>fin its r' hz h' c' kp e) (by simp only[size_toArray]<;>omega)
def L0:CallR X (.type "tuple") (λxs H Q=>∃p ys,xs=[.ref p]/\((SqL X.K H p ys/\∀l,H l=none->Q (.ref l) (upd H l (.tup ys)))∨(SqT X.K H p ys/\Q (.ref p) H))):=by
 intro pins s σ H xs us Q I r h;obtain⟨p,ys,rfl,h⟩:=h;obtain⟨u,rfl,rx⟩:=CT r;cases rx;rcases h with⟨hq,q⟩|⟨hq,q⟩
 .obtain⟨its,r',pl,hz⟩:=I.list hq;have hlen:=r'.length;refine call_tuple_list pl.isList (λh' kp=>?_) (by simp only[size_toArray]<;>omega);have I1:Inv X pins σ H { s with heap:=h' }:=I.kept (t':=s.toks) kp;have I2:Inv X pins σ (upd H h'.objs.size (.tup ys)) { s with heap:=h'.push { cls:=.type "tuple",data:=.seq its.toArray } }:=
   I1.laid (t':=s.toks) (λb o e=>Heap.get?_push_of_some _ e) (le_refl _) (show ObjOk X.prog X.w _ _ _ (.tup ys)from⟨hz,its,r',IsTupD.new _ _⟩)
  exact⟨.ref h'.objs.size,_,I2,rfl,q _ (I1.hok.fresh (le_refl _))⟩
 .obtain⟨its,r',pl,hz⟩:=I.tuple hq;exact call_tuple_same pl ⟨.ref p,H,I,rfl,q⟩
def tyV(K:PySem.W.Frag)(T:String)(x:V)(H:Hp):Prop:=match x with
 |.str _=>T="str"
 |.int _=>T="int"
 |.ref p=>(T="list"/\∃xs,SqL K H p xs)∨(T="tuple"/\∃o,K.lookup p=some o/\o.cls=.type "tuple"/\o.dict=none) ∨
  (T="dict"/\((∃kvs,H p=some (.dK kvs))∨∃kvs,H p=some (.dT kvs)))∨(T="set"/\∃S n,H p=some (.set S n))
 |_=>False
def XF{pins:List (Addr×Obj)}{σ:St}{H:Hp}{s:Shared}{T:String}{x:V}{v:Value}(I:Inv X pins σ H s)(r:RelV x v)(ty:tyV X.K T x H):
 s.TypeIs v T/\∀a,v=.ref a->∃ob,s.heap.get? a=some ob/\ob.dict=none:=by
 cases x with
 |str z=>
  obtain⟨t,rfl⟩:=r;cases(show T="str" from ty);exact⟨typeIs_str s z t,λ_ e=>nomatch e⟩
 |int i=>
  obtain⟨t,rfl⟩:=r;cases(show T="int" from ty);exact⟨typeIs_int s i t,λ_ e=>nomatch e⟩
 |ref p=>
  cases r;rcases ty with⟨rfl,xs,hq⟩|⟨rfl,o,hk,hc,hd⟩|⟨rfl,hk⟩|⟨rfl,S,n,hk⟩
  .obtain⟨its,_,pl,_⟩:=I.list hq;refine⟨pl.isList.typeIs,λa e=>?_⟩;cases e;obtain⟨o,n,e,c,hd,_⟩:=pl;exact⟨o,e,hd⟩
  .refine⟨⟨o,I.kIn p o hk,hc⟩,λa e=>?_⟩;cases e;exact⟨o,I.kIn _ o hk,hd⟩
  .have z:∃o,s.heap.get? p=some o/\o.ExactDict:=by
    rcases hk with⟨kvs,hk⟩|⟨kvs,hk⟩
    .obtain⟨_,_,_,_,o,_,_,e,ex,_⟩:=I.hok p _ hk;exact⟨o,e,ex⟩
    .obtain⟨_,_,_,_,o,_,_,e,ex,_⟩:=I.hok p _ hk;exact⟨o,e,ex⟩
   obtain⟨o,e,ex⟩:=z;refine⟨⟨o,e,ex.1⟩,λa e2=>?_⟩;cases e2;exact⟨o,e,ex.2.1⟩
  .obtain⟨o,_,_,_,e,ex,_⟩:=I.hok p _ hk;refine⟨⟨o,e,ex.1⟩,λa e2=>?_⟩;cases e2;exact⟨o,e,ex.2.1⟩
 |_=>exact False.elim ty
def tBM(K:PySem.W.Frag)(T:String)(r:V->List V->Hp->VK->Prop)(to:TE)(t:TA):TE:=λσ H Q=>to σ H λx H1=>tyV K T x H1/\t σ H1 λxs H2=>r x xs H2 Q
variable{o e:Expr}{es:List Expr}{to:TE}{t:TA}{name:Str}{apos cpos:Pos}{T id:String}{r:V->List V->Hp->VK->Prop}
def aL(pa:PlainAttrs T)(slot:Slot T name id)(hty:typeOf (.builtin id)=pure (.type "method_descriptor"))(hm:MtR X id r)(ho:PE X o to)(ha:PA X (e::es) t)
 (hbase:attributeBase o name X.env (eval o X.env)=eval o X.env:=by rfl)
 (hfew:((backTo cpos (starEach (e::es) X.env)).all (λx=>!x.1)&&(backToKw cpos (keywordEach [] X.env)).all (λx=>x.1.isSome)
  && decide ((e::es).length+([]:List Keyword).length+(if([]:List Keyword).isEmpty then 0 else 1)<30))=true:=by rfl)
 (hline:(apos.endLine==cpos.line)=true:=by rfl) (hs:starEach (e::es) X.env=(false,eval e X.env)::starEach es X.env:=by rfl) (hplain:(backTo cpos (starEach es X.env)).any (·.1)=false:=by rfl):
 PE X (.Call (.Attribute o name apos) (e::es) [] cpos) (tBM X.K T r to t):=by
 intro pins s σ H Q I h;refine wpAny_Call_method_late hbase hfew hline rfl (thn (ho pins s σ H _ I h) λv s1 ⟨x,H1,I1,r1,ty,q1⟩=>?_);obtain⟨h1,h2⟩:=XF I1 r1 ty;refine⟨T,id,pa,slot,hty,h1,h2,?_⟩;have hA:=ha cpos pins s1 σ H1 _ I1 q1;rw[hs]at hA ⊢;refine Calls.callWith_builtin (by show(false||(backTo cpos (starEach es X.env)).any (·.1))=false;rw[hplain]<;>rfl) (Calls.evalArgs_plain ?_);exact thn hA λus s2 ⟨vs,H2,I2,r2,q2⟩=>hm pins s2 σ H2 x vs v us Q I2 r1 r2 q2
end
def MtM(X:Cx)(id:String)(r:V->List V->Hp->VK->Prop):Prop:=
 ∀(pins:List (Addr×Obj)) (s:Shared) (σ:St) (H:Hp) (x:V) (xs:List V) (v:Value) (us:List Value) (Q:VK),Inv X pins σ H s->RelV x v->Vals xs us->r x xs H Q ->
   wpAny (model X.prog X.w) X.A (call (.builtin id) (v::us)) (EP X pins σ Q) X.xe s
def Vals.one:∀{x:V} {us:List Value},Vals [x] us->∃u,us=[u]/\RelV x u
 |_,_,.cons r .nil=>⟨_,rfl,r⟩
def Vals.eraseIdx:∀{xs:List V} {us:List Value} (i:Nat),Vals xs us->Vals (xs.eraseIdx i) (us.eraseIdx i)
 |_,_,_,.nil=>.nil
 |_,_,0,.cons _ t=>t
 |_,_,i+1,.cons r t=>.cons r (Vals.eraseIdx i t)
def Vals.rep{xs:List V}{us:List Value}(h:Vals xs us):∀k:Nat,Vals (List.replicate k xs).flatten (List.replicate k us).flatten
 |0=>.nil
 |k+1=>by
  rw[replicate_succ,replicate_succ,flatten_cons,flatten_cons];exact Vals.append h (Vals.rep h k)
def KO{α:Type}:∀(l:List α) (i:Nat),(l.eraseIdx i).length<=l.length
 |[],_=>le_refl _
 |_::_,0=>Nat.le_succ _
 |_::r,i+1=>Nat.succ_le_succ (KO r i)
def HC(its:List Value):∀(k:Nat) (acc:List Value),
 List.foldl (λx1 x2=>x1++x2) acc.toArray (List.replicate k its.toArray)=(acc++(List.replicate k its).flatten).toArray
 |0,acc=>by simp
 |k+1,acc=>by
  have e:acc.toArray++its.toArray=(acc++its).toArray:=by simp
  have e2:(acc++its)++(List.replicate k its).flatten=acc++(List.replicate (k+1) its).flatten:=by
   rw[replicate_succ,flatten_cons,append_assoc]
  rw[<- e2,<- HC its k (acc++its),<- e,replicate_succ,List.foldl_cons]
section
variable{X:Cx}{pins:List (Addr×Obj)}{σ:St}{H:Hp}{s:Shared}{l b:Addr}{xs ys zs:List V}
def Inv.lset{its its':List Value}{n:Nat}{f:Array Value->Array Value}{t':Nat}(I:Inv X pins σ H s)(hH:H l=some (.lst xs))
 (e:s.heap.get? l=some { cls:=.type "list",data:=.seq its.toArray n }) (hf:f its.toArray=its'.toArray) (hv:Vals ys its') (hz:ys.length<=sizeLine):
 Inv X pins σ (upd H l (.lst ys)) { s with heap:=s.heap.update l (Obj.mapSeq f),toks:=t' }:=by
 have q:=PySem.IsL.update e f;rw[hf]at q;refine I.write (x:=l) (e:=l) (by rw[hH];exact trivial) (.inl rfl) (λb' u hb hu=>(Heap.get?_update_other s.heap (Obj.mapSeq f) (Ne.symm hb)).trans hu) ⟨_,q⟩ ?_;exact⟨hz,its',_,hv,q⟩
def Inv.lnew{its:List Value}{t':Nat}(I:Inv X pins σ H s)(hv:Vals ys its)(hz:ys.length<=sizeLine):
 Inv X pins σ (upd H s.heap.objs.size (.lst ys)) { s with heap:=s.heap.push { cls:=.type "list",data:=.seq its.toArray },toks:=t' }:=
 I.laid (λ_ _ q=>Heap.get?_push_of_some _ q) (le_refl _) ⟨hz,its,0,hv,Heap.get?_push_size _ rfl⟩
def Inv.fresh(I:Inv X pins σ H s):H s.heap.objs.size=none:=I.hok.fresh (le_refl _)
def Inv.lstM(I:Inv X pins σ H s)(hH:H l=some (.lst xs)):xs.length<=sizeLine/\∃(its:List Value) (n:Nat),Vals xs its/\xs.length=its.length/\s.heap.get? l=some { cls:=.type "list",data:=.seq its.toArray n }:=by
 obtain⟨z,its,n,r,e⟩:=I.hok l _ hH;exact⟨z,its,n,r,r.length,e⟩
def TL{n:Nat}(h:n<=sizeLine):Builtin.List.listTooLong n=false:=by
 unfold Builtin.List.listTooLong;exact decide_eq_false (by omega)
end
section
variable{X:Cx}
def Nc:V->List V->Hp->VK->Prop:=λx vs H Q=>∃l xs y,x=.ref l/\vs=[y]/\H l=some (.lst xs)/\xs.length<sizeLine/\Q .non (upd H l (.lst (xs++[y])))
def KM:MtM X "list.append" Nc:=by
 intro pins s σ H x vs v us Q I rx rv h;obtain⟨l,xs,y,rfl,rfl,hH,hz,q⟩:=h;cases rx;obtain⟨u,rfl,ru⟩:=rv.one;obtain⟨z,its,n,r,hl,e⟩:=I.lstM hH;refine call_meets F.slot_list_append ⟨_,e,rfl⟩ F.entry_list_append (F.args_list_append_2 _ _) (PySem.list_append l its.toArray n u (by rw[size_toArray];omega)) ⟨e,?_⟩;refine⟨.non,_,I.lset (its':=its++[u]) hH e (by simp) (r.append (.cons ru .nil)) ?_,rfl,q⟩;rw[length_append,List.length_singleton];omega
def QJ:V->List V->Hp->VK->Prop:=λx vs H Q=>∃l xs i k y,x=.ref l/\vs=[.int i]/\H l=some (.lst xs)/\-(2^63)<=i/\i<2^63/\seqIndex? i xs.length=some k/\xs[k]?=some y/\Q y (upd H l (.lst (xs.eraseIdx k)))
def TM:MtM X "list.pop" QJ:=by
 intro pins s σ H x vs v us Q I rx rv h;obtain⟨l,xs,i,k,y,rfl,rfl,hH,h1,h2,hk,hy,q⟩:=h;cases rx;obtain⟨u,rfl,ru⟩:=rv.one;obtain⟨t,rfl⟩:=ru;obtain⟨z,its,n,r,hl,e⟩:=I.lstM hH;obtain⟨w,hw,rw'⟩:=r.get hy;refine call_meets F.slot_list_pop ⟨_,e,rfl⟩ F.entry_list_pop (F.args_list_pop_2 _ _)
  (MeetsSeq.list_pop_at l its.toArray n i t k w (fitsIndex_both h1 h2) (by rw[size_toArray,<- hl];exact hk) (by rw[<- Array.getElem?_toList];exact hw) (by rw[size_toArray];omega)) ⟨e,?_⟩
 refine⟨y,_,I.lset (its':=its.eraseIdx k) hH e ?_ (r.eraseIdx k) ?_,rw',q⟩
 .show its.toArray.eraseIdxIfInBounds k=(its.eraseIdx k).toArray;rw[List.eraseIdxIfInBounds_toArray]
 .have:=KO xs k;omega
def SZ:R2:=λx y H Q=>∃l k xs,x=.ref l/\y=.int k/\H l=some (.lst xs)/\-(2^63)<=k/\k<2^63/\xs.length*k.toNat<=sizeLine /\
 ∀p,H p=none->Q (.ref p) (upd H p (.lst (List.replicate k.toNat xs).flatten))
def No{α:Type}(xs:List α)(k:Nat):(List.replicate k xs).flatten.length=k*xs.length:=by
 induction k with
 |zero=>simp
 |succ k ih=>rw[replicate_succ,flatten_cons,length_append,ih,Nat.succ_mul,Nat.add_comm]
def Yx:OpR X (binaryOp .Mult) SZ:=by
 intro pins s σ H x y v u Q I rx ry h;obtain⟨l,k,xs,rfl,rfl,hH,h1,h2,hz,q⟩:=h;cases rx;obtain⟨t,rfl⟩:=ry;obtain⟨z,its,n,r,hl,e⟩:=I.lstM hH;have hlen:its.toArray.size*k.toNat<=sizeLine:=by rw[size_toArray,<- hl];exact hz
 have hcap:¬ its.toArray.size*k.toNat>(2^63-1)/8:=by
  have:(sizeLine:Nat)<=(2^63-1)/8:=by decide
  omega
 have hfit:¬ (!Builtin.List.listFitsIndex k)=true:=by
  rw[fitsIndex_both h1 h2];exact Bool.false_ne_true
 have hlong:¬ Builtin.List.listTooLong (its.toArray.size*k.toNat)=true:=by
  rw[TL hlen];exact Bool.false_ne_true
 have hnew:List.foldl (λx1 x2=>x1++x2) #[] (List.replicate (if its.toArray.isEmpty=true then 0 else k.toNat) its.toArray)=(List.replicate k.toNat its).flatten.toArray:=by
  have f0:∀m:Nat,List.foldl (λx1 x2=>x1++x2) #[] (List.replicate m its.toArray)=(List.replicate m its).flatten.toArray:=λm=>by
   have:=HC its m [];rw[nil_append]at this;exact this
  rw[f0];cases its with
  |nil=>simp
  |cons a r'=>rw[if_neg (by simp)]
 refine wpAny_binaryOp_repeat_ref (T:="list") (U:="int") (by decide) ⟨_,e,rfl⟩ (λs'=>typeIs_int s' k t) noFill_list_mul F.fills_int_mul F.slot_int_rmul repeat_list F.slot_int_index.lookup
  (call_meets F.slot_int_rmul (typeIs_int s k t) F.entry_int_rmul (F.args_int_rmul_2 _ _) (int___rmul___int_list k t l its.toArray n)
   ⟨e,rfl,⟨_,e,rfl⟩,call_meets F.slot_list_mul ⟨_,e,rfl⟩ F.entry_list_mul (F.args_list_mul_2 _ _) (AutoListH.list___mul___list_int_3 l its.toArray n k t hfit hcap hlong) ⟨e,?_⟩⟩)
 rw[hnew];exact⟨.ref _,_,I.lnew (t':=s.toks) (r.rep k.toNat) (by rw[No,Nat.mul_comm];exact hz),rfl,q _ I.fresh⟩
end
end L2
namespace Att
open PySem PySem.W PySem.Calls PyProof.Rows
def JH{P:Params}{h:Heap}:∀(ns:List Int) (vs:List Value),WellAll P h vs (ns.map WData.int)->IntsAre vs ns:=by
 intro ns
 induction ns with
 |nil=>
  intro vs w;rw[map_nil]at w;cases w;exact .nil
 |cons n ns ih=>
  intro vs w;rw[map_cons]at w;cases w with
  |cons a b=>
   cases a;exact .cons _ _ (ih _ b)
def Ps{l:OpenLaw}{n:Nat}(hn:l.most=some n){P:Params}{h:Heap}{args:List WData}{vals:List Value}
 (hpre:l.row.toRowW.claim.pre args=true) (hwl:WellAll P h vals args):
 ∃a vs ns,vals=[Value.ref a]/\args=[WData.list (ns.map WData.int)]/\h.get? a=some { cls:=.type "list",data:=.seq vs.toArray }/\IntsAre vs ns/\ns.length<=n:=by
 have hsh:WShape.hasAll [] args [.list .int]=true:=(pre_splitW hpre).1;have hc:l.pre.holds [] { args:=args }=true:=(pre_splitW hpre).2;obtain⟨d,r,rfl,h1,h2⟩:=hasAllW_cons hsh;obtain rfl:=hasAllW_nil h2;obtain⟨xs,rfl,h3⟩:=hasW_list h1;obtain⟨ns,rfl⟩:=items_int h3;have hlen:ns.length<=n:=by
  unfold OpenLaw.pre at hc;have h4:(WTm.not (.lt (.lit (.int (n:Int))) (.len (.arg 0)))).holds [] { args:=[.list (ns.map .int)] }=true:=by
   have h4:=(holds_andW hc).1;rw[hn]at h4;exact h4
  have h5:=condW_of h4 (w_not (w_lt w_lit (w_len_list (w_arg rfl))));rw[length_map]at h5;refine Nat.le_of_not_lt λq=>?_;have q':(n:Int)<((ns.length:Nat):Int):=by omega
  first
   |(rw[decide_eq_true q']at h5;exact absurd h5 (by decide))
   |(simp at h5;omega)
 cases hwl with
 |cons w1 w2=>
  cases w2;cases w1 with
  |list ho hall=>exact⟨_,_,ns,rfl,rfl,ho,JH ns _ hall,hlen⟩
def QM(l:OpenLaw)(args:List WData):l.row.toRowW.claim.post args (.bool true) args=true:=
 postW_of (r:=l.row.toRowW) (X:=(true==true))
  (show WShape.has [] (.bool true) .bool=true by first|rfl|decide|simp[WShape.has,WShape.arms,WShape.armsAll])
  (show(WTm.eq .res (.lit (.bool true))).value [] { args:=args,res:=some (.bool true),after:=args }=some (.bool (true==true))from w_eq_bool (w_res rfl) w_lit) rfl
def attach_call{l:OpenLaw}{n:Nat}{q:Program}{loose:List Str}{XP:(Str->Option Value)->Heap->Prop}{YP:World->Heap->Prop}{d:DefRec}
 (hn:l.most=some n) (hdf:d.params.defaults=[])
 (call:∀(w:World) (s₀ s₁:Shared) (mg mb:Str->Option Value) (fa:Addr) (o:Obj) (pm cd doc:Value) (a:Addr) (vs:List Value) (ns:List Int),
  Ground q loose [] XP w s₀ mg mb s₁.heap->YP w s₁.heap ->
  s₁.heap.get? fa=some o->o.data=.func (docDef d.name d.params d.body d.scope pm cd doc)->s₁.heap.CodeRec cd d.name->mg d.name=some (.ref fa) ->
  s₁.heap.get? a=some { cls:=.type "list",data:=.seq vs.toArray }->IntsAre vs ns->ns.length<=n->s₁.gens=#[] ->
  codeAny (model l.prog w) callerA (.call (.ref fa) ⟨[.ref a],[]⟩) (λr s'=>r=.ok (.ret (.bool true))/\OldK s₁.heap s'.heap/\s'.os=s₁.os/\AllBare s'.gens) s₁):
 WalkO q loose XP YP l.row.toRowW d [] (λf vs=>PySem.call f vs):=by
 intro w s₀ s₁ mg mb G Y fa o pm cd doc dV kV ho hd hcd hD hmg hg args vals as hpre hlay hrd hwl hlo;obtain rfl:dV=.none:=Dflts.none hD hdf;obtain rfl:kV=.none:=Dflts.noKw hD;obtain⟨a,vs,ns,rfl,rfl,hobj,hints,hlen⟩:=Ps hn hpre hwl;refine enter_call (codeAny_mono (call w s₀ s₁ mg mb fa o pm cd doc a vs ns G Y ho (fd_plain hd) hcd hmg hobj hints hlen hg) λr s' hq=>?_);obtain⟨rfl,h2,h3,h4⟩:=hq;exact⟨.inl ⟨.bool true,.bool true,[],rfl,λ_=>rfl,.bool true,QM l _,λ_=>⟨List.Pairwise.nil,λ_ hm=>(nomatch hm)⟩⟩,h2,h3,h4⟩
end Att
namespace L2
open PySem PySem.Spec PyProof.Rows
def KC:∀{vs:List Value} {ns:List Int},IntsAre vs ns->Vals (ns.map V.int) vs
 |_,_,.nil=>.nil
 |_,_,.cons n t h=>.cons ⟨t,rfl⟩ (KC h)
def CM(s:Stmt):Arguments:=match s with
 |.FunctionDef _ a _ _ _ _ _ _ _ _=>a
 |_=>{ posonlyargs:=[],args:=[],vararg:=none,kwonlyargs:=[],kw_defaults:=[],kwarg:=none,defaults:=[] }
def BC(s:Stmt):List Stmt:=match s with
 |.FunctionDef _ _ b _ _ _ _ _ _ _=>b
 |_=>[]
def A9(s:Stmt):Scope:=match s with
 |.FunctionDef _ _ _ _ _ _ sc _ _ _=>sc
 |_=>{ kind:=.function,names:=[],isGenerator:=false,isCoroutine:=false }
abbrev CX0:CXT:=λ_ _ _ _ _ _=>False
abbrev E0:XK:=λ_ _ _=>False
def aN{X:Cx}:My CX0 X E0:=λ_ _ _ _ _ _ _ h=>h.elim
structure Fun(K:PySem.W.Frag)(x qual:Str)(st:Stmt)(f:Addr)(fd:FuncData):Prop where
 ex:∃(oc:Value) (od:Option Addr) (kV doc pm:Value) (an:Option Addr) (cdv ct:Value) (osl:Array (Option Value)),
  fd=PySem.W.fnOf x qual (CM st) (BC st) (A9 st) .none kV doc pm an cdv ct/\K.lookup f=some ⟨oc,od,.func fd,osl⟩/\PySem.W.codeIn K cdv qual=true
 kp:PySem.W.keepIn K (.ref f)=true
section
variable{P:Program}{w:World}{K:PySem.W.Frag}{mg:Str->Option Value}{base:Heap}
def Fun.ok{x qual:Str}{st:Stmt}{f:Addr}{fd:FuncData}{N ps:List Str}{k:Nat}{sp:Sp}(F:Fun K x qual st f fd)(S:FnScope N ps (A9 st))(len:∀vs H Q E,sp vs H Q E->vs.length=ps.length)
 (hbody:∀(cdv:Value) (A:Around) (outer:List Env) (s:Shared) (H:Hp) (vs:List V) (Q:VK) (E:XK),Room k (A.deeper (envOfC qual (A9 st) s.heap.objs.size f cdv))->sp vs H Q E ->
  ∃t,PSs (FM CX0 P w K mg base N qual (A9 st) f cdv A outer s H E).nox (BC st) t/\t { nx:=λ_ H'=>Q .non H',rt:=Q } (D7 N vs) H):FnOk P w K mg base CX0 (k+1) f fd ps sp:=by
 obtain⟨oc,od,kV,doc,pm,an,cdv,ct,osl,rfl,lk,hcd⟩:=F.ex;refine UU lk hcd S len λA outer s H vs Q E hr hsp=>?_;obtain⟨t,h,q⟩:=hbody cdv A outer s H vs Q E hr hsp;exact⟨t,h.nox,q⟩
def Fun.binds{x qual:Str}{st:Stmt}{f:Addr}{fd:FuncData}{ps:List Str}(F:Fun K x qual st f fd)
 (h:∀(kV doc pm:Value) (an:Option Addr) (cdv ct:Value) (us:List Value),us.length=ps.length->bindArgs (PySem.W.fnOf x qual (CM st) (BC st) (A9 st) .none kV doc pm an cdv ct) ⟨us,[]⟩=pure (ps.zip us)):Binds K fd ps []:=by
 obtain⟨oc,od,kV,doc,pm,an,cdv,ct,osl,rfl,lk,hcd⟩:=F.ex;exact .all (h kV doc pm an cdv ct)
def ZJ{x qual:Str}{st:Stmt}{f:Addr}{oc:Value}{od an:Option Addr}{osl:Array (Option Value)}{kV doc pm cdv ct:Value}(l:K.lookup f=some ⟨oc,od,.func (PySem.W.fnOf x qual (CM st) (BC st) (A9 st) .none kV doc pm an cdv ct),osl⟩)
 (c:PySem.W.codeIn K cdv qual=true) (k:PySem.W.keepIn K (.ref f)=true):Fun K x qual st f (PySem.W.fnOf x qual (CM st) (BC st) (A9 st) .none kV doc pm an cdv ct):=⟨⟨oc,od,kV,doc,pm,an,cdv,ct,osl,rfl,l,c⟩,k⟩
end
def UT{A:Around}{k:Nat}(hr:Room k A):A.units+1<cLine:=Nat.lt_of_le_of_lt (Nat.add_le_add_left (by decide:1<=64) _) hr.units
def Pr{n:Nat}(h:n<=1000):n<sizeLine:=Nat.lt_of_le_of_lt h (by decide)
section
variable{κ:Type}[DecidableEq κ]
def Dg(kvs:List (κ×V))(k:κ):Option V:=(kvs.find? λkv=>decide (kv.1=k)).map (·.2)
def C3(kvs:List (κ×V))(k:κ)(v:V):List (κ×V):=
 if(kvs.any λkv=>decide (kv.1=k))=true then kvs.map (λkv=>if kv.1=k then(kv.1,v)else kv)else kvs++[(k,v)]
def Ee{p:κ×V}{r:List (κ×V)}{k:κ}(e:p.1=k):Dg (p::r) k=some p.2:=by simp[Dg,find?_cons,e]
def Ef{p:κ×V}{r:List (κ×V)}{k:κ}(e:¬ p.1=k):Dg (p::r) k=Dg r k:=by simp[Dg,find?_cons,e]
def LV(k:κ):∀kvs:List (κ×V),(kvs.any λkv=>decide (kv.1=k))=(Dg kvs k).isSome
 |[]=>rfl
 |p::r=>by
  rw[any_cons];by_cases e:p.1=k
  .simp only[Ee e,decide_eq_true e,Bool.true_or,Option.isSome_some]
  .rw[Ef e,decide_eq_false e,Bool.false_or];exact LV k r
def FI(kvs:List (κ×V))(k:κ)(v:V):(C3 kvs k v).length<=kvs.length+1:=by
 unfold C3;split
 .rw[length_map];omega
 .rw[length_append,length_cons,length_nil];omega
def RelO.isSome_eq{o:Option V}{u:Option Value}(r:RelO o u):o.isSome=u.isSome:=by
 cases o with
 |none=>cases u with
  |none=>rfl
  |some _=>exact(show False from r).elim
 |some _=>cases u with
  |none=>exact(show False from r).elim
  |some _=>rfl
def KV.val{kvs:List (κ×V)}{vs:List (κ×Value)}(r:KV kvs vs)(k:κ):RelO (Dg kvs k) (valueAt vs k):=by
 unfold KV at r
 induction r with
 |nil=>exact True.intro
 |@cons p q ps qs h t ih=>
  obtain⟨h1,h2⟩:=h;by_cases e:p.1=k
  .have e':q.1=k:=h1.symm.trans e;have b:valueAt (q::qs) k=some q.2:=by simp[valueAt,find?_cons,e']
   rw[Ee e,b];exact h2
  .have e':¬ q.1=k:=λz=>e (h1.trans z);have b:valueAt (q::qs) k=valueAt qs k:=by simp[valueAt,find?_cons,e']
   rw[Ef e,b];exact ih
def KV.any{kvs:List (κ×V)}{vs:List (κ×Value)}(r:KV kvs vs)(k:κ):(kvs.any λkv=>decide (kv.1=k))=vs.any λkv=>decide (kv.1=k):=by
 unfold KV at r
 induction r with
 |nil=>rfl
 |cons h t ih=>rw[any_cons,any_cons,ih,h.1]
def KV.repl{kvs:List (κ×V)}{vs:List (κ×Value)}(r:KV kvs vs)(k:κ){y:V}{u:Value}(ry:RelV y u):
 KV (kvs.map λkv=>if kv.1=k then(kv.1,y)else kv) (vs.map λkv=>if kv.1=k then(kv.1,u)else kv):=by
 unfold KV at r ⊢
 induction r with
 |nil=>exact .nil
 |@cons p q ps qs h t ih=>
  rw[map_cons,map_cons];refine .cons ?_ ih;obtain⟨h1,h2⟩:=h;by_cases e:p.1=k
  .rw[if_pos e,if_pos (h1.symm.trans e)];exact⟨h1,ry⟩
  .rw[if_neg e,if_neg (λz=>e (h1.trans z))];exact⟨h1,h2⟩
def KV.put{kvs:List (κ×V)}{vs:List (κ×Value)}(r:KV kvs vs)(k:κ){y:V}{u:Value}(ry:RelV y u):KV (C3 kvs k y) (stored vs k u):=by
 unfold C3 stored;rw[r.any k];by_cases e:(vs.any λkv=>decide (kv.1=k))=true
 .rw[if_pos e,if_pos e];exact r.repl k ry
 .rw[if_neg e,if_neg e];exact Paired.snoc r ⟨rfl,ry⟩
def KV.length{kvs:List (κ×V)}{vs:List (κ×Value)}(r:KV kvs vs):kvs.length=vs.length:=Paired.length r
end
def LL{P:Program}{w:World}{k:Key}{u:Value}(r:RelV (kV k) u):(B5 P w).is k u=true:=by
 cases k with
 |inl i=>obtain⟨t,e⟩:=(show ∃t,u=Value.int i t from r);subst e;exact N9 P w i t
 |inr x=>obtain⟨t,e⟩:=(show ∃t,u=Value.str x t from r);subst e;exact N8 P w x t
def KS{P:Program}{w:World}:∀{ks:List Key} {us:List Value},Vals (ks.map kV) us->ItemsAre (B5 P w) ks us
 |[],_,r=>by rw[map_nil]at r;cases r;exact .nil
 |k::ks,_,r=>by
  rw[map_cons]at r;cases r with
  |cons h t=>exact .cons (LL h) (KS t)
abbrev KT(H:Hp):List (List Key×V)->List (List Key×Addr×Value)->Prop:=Paired λp q=>p.1=q.1/\H q.2.1=some (.tup (p.1.map kV))/\RelV p.2 q.2.2
def KT.val{H:Hp}{kvs:List (List Key×V)}{xs:List (List Key×Addr×Value)}(r:KT H kvs xs)(k:List Key):RelO (Dg kvs k) ((atKey xs k).map (·.2)):=by
 induction r with
 |nil=>exact True.intro
 |@cons p q ps qs h t ih=>
  obtain⟨h1,_,h2⟩:=h;by_cases e:p.1=k
  .have e':q.1=k:=h1.symm.trans e;have b:atKey (q::qs) k=some q.2:=by simp[atKey,find?_cons,e']
   rw[Ee e,b];exact h2
  .have e':¬ q.1=k:=λz=>e (h1.trans z);have b:atKey (q::qs) k=atKey qs k:=by simp[atKey,find?_cons,e']
   rw[Ef e,b];exact ih
def KT.repl{H:Hp}{kvs:List (List Key×V)}{xs:List (List Key×Addr×Value)}(r:KT H kvs xs)(k:List Key){y:V}{u:Value}(ry:RelV y u):
 KT H (kvs.map λkv=>if kv.1=k then(kv.1,y)else kv) (xs.map (putAt k u)):=by
 induction r with
 |nil=>exact .nil
 |@cons p q ps qs h t ih=>
  rw[map_cons,map_cons];refine .cons ?_ ih;obtain⟨h1,h2,h3⟩:=h;unfold putAt;by_cases e:p.1=k
  .rw[if_pos e,if_pos (h1.symm.trans e)];exact⟨h1,h2,ry⟩
  .rw[if_neg e,if_neg (λz=>e (h1.trans z))];exact⟨h1,h2,h3⟩
def KT.put{H:Hp}{kvs:List (List Key×V)}{xs:List (List Key×Addr×Value)}(r:KT H kvs xs)(k:List Key){b:Addr}{y:V}{u:Value}(hb:H b=some (.tup (k.map kV)))(ry:RelV y u):
 KT H (C3 kvs k y) (storedH xs k b u):=by
 have e:(kvs.any λkv=>decide (kv.1=k))=(atKey xs k).isSome:=by
  rw[LV,(r.val k).isSome_eq,Option.isSome_map]
 unfold C3 storedH;rw[e];by_cases q:(atKey xs k).isSome=true
 .rw[if_pos q,if_pos q];exact r.repl k ry
 .rw[if_neg q,if_neg q];exact Paired.snoc r ⟨rfl,hb,ry⟩
def KT.keeps{H H':Hp}{kvs:List (List Key×V)}{xs:List (List Key×Addr×Value)}(r:KT H kvs xs)(ht:∀b ys,H b=some (.tup ys)->H' b=some (.tup ys)):KT H' kvs xs:=
 Paired.mapP r λ_ _ z=>⟨z.1,ht _ _ z.2.1,z.2.2⟩
section
variable{P:Program}{w:World}{H:Hp}{h:Heap}{a:Addr}
def UA{u:HO}(ok:HOk P w H h)(e:Rd H a u):ObjOk P w H h a u:=e.ok ok
def PL{kvs:List (Key×V)}(ok:HOk P w H h)(e:Rd H a (.dK kvs)):kvs.length<=sizeLine/\(a==sysModules)=false/\∃vs,KV kvs vs/\h.DictOf (B5 P w) a vs:=
 show ObjOk P w H h a (.dK kvs)from UA ok e
def UY{kvs:List (Key×V)}(ok:HOk P w H h)(e:H a=some (.dK kvs)):kvs.length<=sizeLine/\(a==sysModules)=false/\∃vs,KV kvs vs/\h.DictOf (B5 P w) a vs:=PL ok (.inl e)
def MP{ks:List Key}(ok:HOk P w H h)(e:H a=some (.tup (ks.map kV))):(tupleKind (B5 P w)).is h ks a:=by
 obtain⟨_,its,r,o,h1,h2,⟨n,h3⟩,_⟩:=(show ObjOk P w H h a (.tup (ks.map kV))from ok a _ e)
 exact⟨o,its.toArray,n,h1,h2,h3,by simpa using KS r⟩
def PK{kvs:List (List Key×V)}(ok:HOk P w H h)(e:Rd H a (.dT kvs)):kvs.length<=sizeLine/\(a==sysModules)=false /\
 ∃xs,KT H kvs xs/\h.DictOfH (tupleKind (B5 P w)) a xs:=by
 obtain⟨z,y,xs,r,o,es,ep,h1,h2,h3,h4,h5⟩:=(show ObjOk P w H h a (.dT kvs)from UA ok e)
 refine⟨z,y,xs,r,o,es,ep,h1,h2,h3,h4,λx hx=>?_,h5⟩;have all:∀{l:List (List Key×V)} {m:List (List Key×Addr×Value)},KT H l m->∀x∈m,(tupleKind (B5 P w)).is h x.1 x.2.1:=by
  intro l m q
  induction q with
  |nil=>intro x hx;exact nomatch hx
  |@cons p q ps qs hq t ih=>
   intro x hx;rcases mem_cons.mp hx with e|hx
   .subst e;exact MP ok (by rw[<- hq.1];exact hq.2.1)
   .exact ih x hx
 exact all r x hx
def am{kvs:List (List Key×V)}(ok:HOk P w H h)(e:H a=some (.dT kvs)):kvs.length<=sizeLine/\(a==sysModules)=false /\
 ∃xs,KT H kvs xs/\h.DictOfH (tupleKind (B5 P w)) a xs:=PK ok (.inl e)
end
def DGet(H:Hp)(a:Addr)(y:V)(r:Option V):Prop:=
 (∃kvs k,Rd H a (.dK kvs)/\y=kV k/\r=Dg kvs k)∨∃kvs k b,Rd H a (.dT kvs)/\y=.ref b/\H b=some (.tup (k.map kV))/\r=Dg kvs k
def DPut(H:Hp)(a:Addr)(y v:V)(H':Hp):Prop:=
 (∃kvs k,H a=some (.dK kvs)/\y=kV k/\kvs.length<sizeLine/\H'=upd H a (.dK (C3 kvs k v))) ∨
 ∃kvs k b,H a=some (.dT kvs)/\y=.ref b/\H b=some (.tup (k.map kV))/\kvs.length<sizeLine/\H'=upd H a (.dT (C3 kvs k v))
def DGet.k{H:Hp}{a:Addr}{kvs:List (Key×V)}{k:Key}(e:H a=some (.dK kvs)):DGet H a (kV k) (Dg kvs k):=.inl ⟨kvs,k,.inl e,rfl,rfl⟩
def DPut.k{H:Hp}{a:Addr}{kvs:List (Key×V)}{k:Key}{v:V}(e:H a=some (.dK kvs))(hl:kvs.length<sizeLine):DPut H a (kV k) v (upd H a (.dK (C3 kvs k v))):=.inl ⟨kvs,k,e,rfl,hl,rfl⟩
section
variable{X:Cx}{pins:List (Addr×Obj)}{σ:St}{H:Hp}{s:Shared}{a:Addr}{y v:V}{u r:Value}{o:Option V}{A:Around}{E:Value->Shared->Prop}
def Inv.big(I:Inv X pins σ H s):sysModules<s.heap.objs.size:=by
 have h:mainGlobals<s.heap.objs.size:=(I.mod.glob.keeps I.bk).lt;exact lt_trans (by decide) h
def RK{Q:Value->Shared->Prop}(hu:A.units+1<cLine)(I:Inv X pins σ H s)(g:DGet H a y (some v))(ry:RelV y u)(h:∀w' s',Inv X pins σ H s'->RelV v w'->Q w' s'):
 wpAny (model X.prog X.w) A (getItem (.ref a) u) Q E s:=by
 rcases g with⟨kvs,k,e,ey,l⟩|⟨kvs,k,b,e,ey,eb,l⟩
 .subst ey;obtain⟨z,hd,vs,rel,dd⟩:=PL I.hok e;obtain⟨w',hw,rw'⟩:=RelO.some_of (v:=v) (o:=valueAt vs k) (by rw[l];exact rel.val k);exact wpAny_getItem_of (LL ry) dd.mapOf hw (h w' _ (I.tok _) rw')
 .subst ey;cases(show u=Value.ref b from ry);obtain⟨z,hd,xs,rel,dd⟩:=PK I.hok e;obtain⟨w',hw,rw'⟩:=RelO.some_of (v:=v) (o:=(atKey xs k).map (·.2)) (by rw[l];exact rel.val k);obtain⟨p,hp,hp2⟩:=dM hw;refine wpAny_getItem_heap (tupleKind_room_in1 hu) (MP I.hok eb) dd hp ?_;rw[hp2];exact h w' _ (I.tok _) rw'
def K5{h':Heap}{t':Nat}{ob:HO}(I:Inv X pins σ H s)(mu:Mut (H a))(hs:Heap.SameBut a s.heap h')(he:∃q,h'.get? a=some q)(new:ObjOk X.prog X.w (upd H a ob) h' a ob):
 Inv X pins σ (upd H a ob) { s with heap:=h',toks:=t' }:=
 I.write (x:=a) (e:=a) mu (.inl rfl) (λb q hb z=>(hs.2 b hb).trans z) he new
def R8{P:Program}{w:World}{H':Hp}{h':Heap}{kvs:List (Key×V)}{vs:List (Key×Value)}(z:kvs.length<=sizeLine)(hd:(a==sysModules)=false)(rel:KV kvs vs)(dd:h'.DictOf (B5 P w) a vs):
 ObjOk P w H' h' a (.dK kvs):=⟨z,hd,vs,rel,dd⟩
def RJ{H':Hp}{Q:Unit->Shared->Prop}(hu:A.units+1<cLine)(I:Inv X pins σ H s)(g:DPut H a y v H')(ry:RelV y u)(rv:RelV v r)(h:∀s',Inv X pins σ H' s'->Q () s'):
 wpAny (model X.prog X.w) A (setItem (.ref a) u r) Q E s:=by
 rcases g with⟨kvs,k,e,ey,l,eH⟩|⟨kvs,k,b,e,ey,eb,l,eH⟩
 .subst ey eH;obtain⟨z,hd,vs,rel,dd⟩:=UY I.hok e;have hz:vs.length<=sizeLine:=by rw[<- rel.length];exact z
  have hl:(C3 kvs k v).length<=sizeLine:=by have:=FI kvs k v;omega
  refine wpAny_setItem_pairs (hsz:=hz) (LL ry) dd λh' dd' hs=>h _ ?_;have he:∃q,h'.get? a=some q:=let ⟨q,_,_,hq,_⟩:=dd';⟨q,hq⟩
  exact K5 I (by rw[e];exact True.intro) hs he (R8 hl hd (rel.put k rv) dd')
 .subst ey eH;cases(show u=Value.ref b from ry);obtain⟨z,hd,xs,rel,dd⟩:=am I.hok e;have hz:xs.length<=sizeLine:=by rw[<- Paired.length rel];exact z
  have hl:(C3 kvs k v).length<=sizeLine:=by have:=FI kvs k v;omega
  refine wpAny_setItem_heap (hsz:=hz) (tupleKind_room_in1 hu) (MP I.hok eb) dd λh' dd' hs=>h _ ?_;obtain⟨q,es,ep,hq,h2,h3,h4,_,h5⟩:=dd';refine K5 I (by rw[e];exact True.intro) hs ⟨q,hq⟩ ⟨hl,hd,_,(rel.put k eb rv).keeps λc ys ec=>?_,q,es,ep,hq,h2,h3,h4,h5⟩;rw[AB (aR ec e (λz=>nomatch z))];exact ec
end
def U0(i:Expr):Prop:=∀ov iv,subscripted i false ov iv=operate [ov,iv] (getItem ov iv)
def Uo{prog:Program}{w:World}{A:Around}{E:Value->Shared->Prop}{s:Shared}{env:Env}{value slice:Expr}{pos:Pos}{T id:String}{Q:Value->Shared->Prop}
 (hl:typeLookup (.type T) "__getitem__"=pure (some (.builtin id))) (hs:U0 slice)
 (h:wpAny (model prog w) A (eval value env) (λo s₁=>wpAny (model prog w) A (eval slice env) (λi s₂=>s₂.TypeIs o T/\wpAny (model prog w) A (getItem o i) Q E s₂) E s₁) E s):
 wpAny (model prog w) A (eval (.Subscript value slice pos) env) Q E s:=by
 refine Subscript_ (wpAny_mono h (λo s₁ h₁=>wpAny_mono h₁ (λi s₂ h₂=>?_) λ_ _ x=>x) λ_ _ x=>x);obtain⟨hT,h₂⟩:=h₂;unfold subscriptTail;refine wpAny_bind ?_;rw[getitemInPython_of_ne hT.not_modules];refine wpAny_bind (wpAny_specialOf hT hl ?_);have fin:wpAny (model prog w) A (subscripted slice false o i) (λr s₃=>wpAny (model prog w) A (letTemporaryGo value o r >>= λ_=>pure r) Q E s₃) E s₂:=by
  rw[hs o i];exact wpAny_operating (wpAny_mono h₂ (λr s₃ h₃=>wpAny_bind (wpAny_letTemporaryGo (wpAny_pure h₃))) λ_ _ x=>x)
 first
  |exact wpAny_pure (wpAny_bind fin)
  |exact wpAny_bind (wpAny_pure (wpAny_bind fin))
  |exact wpAny_bind fin
def ND{X:Cx}{pins:List (Addr×Obj)}{σ:St}{H:Hp}{s:Shared}{a:Addr}{y:V}{o:Option V}(I:Inv X pins σ H s)(g:DGet H a y o):s.TypeIs (.ref a) "dict":=by
 rcases g with⟨kvs,k,e,_,_⟩|⟨kvs,k,b,e,_,_,_⟩
 .obtain⟨_,_,vs,_,dd⟩:=PL I.hok e;exact dd.typeIs
 .obtain⟨_,_,xs,_,dd⟩:=PK I.hok e;exact dd.typeIs
def OL(td ty:TE):TE:=λσ H Q=>td σ H λx H1=>ty σ H1 λy H2=>∃a v,x=.ref a/\DGet H2 a y (some v)/\Q v H2
def OX(td ty tv:TE):TS:=λD σ H=>tv σ H λv H1=>td σ H1 λx H2=>ty σ H2 λy H3=>∃a H4,x=.ref a/\DPut H3 a y v H4/\D.nx σ H4
section
variable{X:Cx}{o i e value:Expr}{pos pos' tpos:Pos}{td ty tv:TE}
def W5(hu:X.A.units+1<cLine)(ho:PE X o td)(hi:PE X i ty)(hs:U0 i):PE X (.Subscript o i pos) (OL td ty):=by
 intro pins s σ H Q I h;refine Uo PySem.F.slot_dict_getitem.lookup hs (thn (ho pins s σ H _ I h) λu s1 ⟨x,H1,I1,rx,q1⟩=>thn (hi pins s1 σ H1 _ I1 q1) λiv s2 ⟨y,H2,I2,ry,a,v,ex,g,q2⟩=>?_);subst ex;obtain rfl:u=Value.ref a:=rx;exact⟨ND I2 g,RK hu I2 g ry λw' s3 I3 rw'=>⟨v,H2,I3,rw',q2⟩⟩
def Vr(hu:X.A.units+1<cLine)(ho:PE X o td)(hi:PE X i ty)(hv:PE X value tv)(hs:swapsWith value (some (.Subscript o i pos')) pos.line X.env=pure false):
 PS X (.Assign [.Subscript o i pos'] value pos) (OX td ty tv):=by
 intro pins s σ H D I h;refine wpAny_Assign_Subscript (thn (hv pins s σ H _ I h) λr s1 ⟨v,H1,I1,rv,q1⟩=>thn (ho pins s1 σ H1 _ I1 q1) λu s2 ⟨x,H2,I2,rx,q2⟩=>thn (hi pins s2 σ H2 _ I2 q2) λiv s3 ⟨y,H3,I3,ry,a,H4,ex,g,q3⟩=>?_) hs;subst ex;obtain rfl:u=Value.ref a:=rx;exact RJ hu I3 g ry rv λs4 I4=>⟨σ,H4,I4,q3⟩
end
def Tq{P:Program}{w:World}{H:Hp}(h:Heap)(hb:sysModules<h.objs.size):ObjOk P w H (h.push { cls:=.type "dict",data:=.dict #[] }) h.objs.size (.dK []):=
 ⟨zero_le _,beq_eq_false_iff_ne.mpr (Ne.symm (ne_of_lt hb)),[],.nil,Heap.DictOf.new h⟩
def Ge:List (TE×TE)->St->Hp->(List (V×V)->Hp->Prop)->Prop
 |[],_,H,Q=>Q [] H
 |(tk,tv)::r,σ,H,Q=>tk σ H λx H1=>tv σ H1 λy H2=>Ge r σ H2 λps H3=>Q ((x,y)::ps) H3
abbrev VV:List (V×V)->List (Value×Value)->Prop:=Paired λp q=>RelV p.1 q.1/\RelV p.2 q.2
def PPs(X:Cx)(pos:Pos)(keys:List (Option Expr))(values:List Expr)(trs:List (TE×TE)):Prop:=
 ∀(pins:List (Addr×Obj)) (s:Shared) (σ:St) (H:Hp) (Q:List (V×V)->Hp->Prop),Inv X pins σ H s->Ge trs σ H Q ->
   wpAny (model X.prog X.w) X.A (evalPairs (pairTrees keys values X.env pos)) (λvs s'=>∃ps H',Inv X pins σ H' s'/\VV ps vs/\Q ps H') X.xe s
def Vt{X:Cx}{pos:Pos}:PPs X pos [] [] []:=λpins s σ H Q I h=>pairTrees_nil_walk ⟨[],H,I,.nil,h⟩
def T0{X:Cx}{pos:Pos}{k v:Expr}{ks:List (Option Expr)}{vs:List Expr}{tk tv:TE}{trs:List (TE×TE)}(hk:PE X k tk)(hv:PE X v tv)(hr:PPs X pos ks vs trs):
 PPs X pos (some k::ks) (v::vs) ((tk,tv)::trs):=λpins s σ H Q I h=>
 pairTrees_cons_walk (thn (hk pins s σ H _ I h) λu s1 ⟨x,H1,I1,rx,q1⟩=>thn (hv pins s1 σ H1 _ I1 q1) λw2 s2 ⟨y,H2,I2,ry,q2⟩=>
  thn (hr pins s2 σ H2 _ I2 q2) λws s3 ⟨ps,H3,I3,rel,q3⟩=>⟨(x,y)::ps,H3,I3,.cons ⟨rx,ry⟩ rel,q3⟩)
def E5(kvs more:List (Key×V)):List (Key×V):=more.foldl (λacc kv=>C3 acc kv.1 kv.2) kvs
def KV.merge:∀{more:List (Key×V)} {rs:List (Key×Value)} {kvs:List (Key×V)} {vs:List (Key×Value)},KV more rs->KV kvs vs->KV (E5 kvs more) (merged vs rs):=by
 intro more rs kvs vs r;unfold KV at r
 induction r generalizing kvs vs with
 |nil=>intro q;exact q
 |@cons p q ps qs h t ih=>
  intro r0;have e:KV (C3 kvs p.1 p.2) (stored vs q.1 q.2):=by
   have:=r0.put p.1 h.2;rw[<- h.1];exact this
  exact ih e
def GW:∀(more kvs:List (Key×V)),(E5 kvs more).length<=kvs.length+more.length
 |[],kvs=>by show kvs.length<=kvs.length+0;omega
 |p::r,kvs=>by
  have h1:=GW r (C3 kvs p.1 p.2);have h2:=FI kvs p.1 p.2;show(E5 (C3 kvs p.1 p.2) r).length<=_;rw[length_cons];omega
def JM{P:Program}{w:World}:∀{kvs:List (Key×V)} {ws:List (Value×Value)},VV (kvs.map λkv=>(kV kv.1,kv.2)) ws->∃rs,Carries (B5 P w) ws rs/\KV kvs rs
 |[],_,r=>by rw[map_nil]at r;cases r;exact⟨[],True.intro,.nil⟩
 |p::kvs,_,r=>by
  rw[map_cons]at r;cases r with
  |@cons a b as bs h t=>
   obtain⟨rs,c,q⟩:=JM (P:=P) (w:=w) t;obtain⟨b1,b2⟩:=b;exact⟨(p.1,b2)::rs,⟨LL h.1,rfl,c⟩,.cons ⟨rfl,h.2⟩ q⟩
def OK(trs:List (TE×TE)):TE:=λσ H Q=>∀p,H p=none->Ge trs σ (upd H p (.dK [])) λps H2=>H2 p=some (.dK [])/\∃kvs:List (Key×V),ps=kvs.map (λkv=>(kV kv.1,kv.2))/\kvs.length<=15/\Q (.ref p) (upd H2 p (.dK (E5 [] kvs)))
def W4{X:Cx}{pos:Pos}{keys:List (Option Expr)}{values:List Expr}{trs:List (TE×TE)}(h:PPs X pos keys values trs)(hall:keys.all (·.isSome)=true)(hl:keys.length=values.length)(h0:keys≠[])
 (h15:keys.length<=15):PE X (.Dict keys values pos) (OK trs):=by
 intro pins s σ H Q I q;have hn:=I.hok.fresh (le_refl s.heap.objs.size);have I1:=I.laid (a:=s.heap.objs.size) (o:=.dK []) (h':=s.heap.push { cls:=.type "dict",data:=.dict #[] }) (t':=s.toks) (λ_ _ q=>Heap.get?_push_of_some _ q) (le_refl _) (Tq s.heap I.big);refine wpAny_Dict_walk (knd:=B5 X.prog X.w) hall hl h0 h15 (thn (h pins _ σ _ _ I1 (q _ hn)) λws s2 ⟨ps,H2,I2,rel,e,kvs,ep,lk,q2⟩=>?_);subst ep;obtain⟨rs,c,rk⟩:=JM (P:=X.prog) (w:=X.w) rel;obtain⟨z,hd,vs0,r0,dd⟩:=UY I2.hok e;cases r0;refine⟨rs,c,dd,λh' dd' hs=>⟨.ref s.heap.objs.size,_,?_,rfl,q2⟩⟩;have hz:(E5 [] kvs).length<=sizeLine:=by
  have h1:=GW kvs [];rw[length_nil]at h1;rw[sizeLine_eq];omega
 have he:∃q,h'.get? s.heap.objs.size=some q:=let ⟨q,_,_,hq,_⟩:=dd';⟨q,hq⟩
 exact K5 I2 (by rw[e];exact True.intro) hs he (R8 hz hd (rk.merge .nil) dd')
def Aa(cells:List (Str×Addr)):List (Str×NameKind)->List (Str×Addr)->List (Str×Addr)
 |[],acc=>acc
 |(n,k)::r,acc=>if k==.free then Aa cells r ((n,(cells.lookup n).getD 0)::acc)else Aa cells r acc
def Fj{env:Env}(f:Str×NameKind->List (Str×Addr)->Sem (ForInStep (List (Str×Addr))))
 (hf:∀name kind cs,f (name,kind) cs=if(kind==NameKind.free)=true then(do let a <- cellOf env name;pure (ForInStep.yield ((name,a)::cs)))else pure (ForInStep.yield cs)):
 ∀(names:List (Str×NameKind)) (acc:List (Str×Addr)),(∀y∈names,y.2=.free->∃c,env.cells.lookup y.1=some c)->forIn names acc f=pure (Aa env.cells names acc)
 |[],acc,_=>rfl
 |(n,k)::r,acc,hy=>by
   rw[List.forIn_cons,hf];have ih:=λa=>Fj f hf r a λz hz=>hy z (mem_cons_of_mem _ hz);by_cases hk:(k==NameKind.free)=true
   .obtain⟨c,hc⟩:=hy (n,k) mem_cons_self (by simpa using hk);have hc:env.cells.lookup n=some c:=hc;have e1:cellOf env n=pure c:=by unfold cellOf;rw[hc]
    rw[if_pos hk,e1];show forIn r ((n,c)::acc) f=_;have e2:Aa env.cells ((n,k)::r) acc=Aa env.cells r ((n,c)::acc):=by
     rw[Aa,if_pos hk,hc];rfl
    rw[ih,e2]
   .rw[if_neg hk];show forIn r acc f=_;have e2:Aa env.cells ((n,k)::r) acc=Aa env.cells r acc:=by
     rw[Aa,if_neg hk]
    rw[ih,e2]
def CJ{scope:Scope}{env:Env}(h:∀y∈scope.names,y.2=.free->∃c,env.cells.lookup y.1=some c):closureFor scope env=pure (Aa env.cells scope.names []):=by
 unfold closureFor;dsimp only;rw[Fj _ (λname kind cs=>rfl) scope.names [] h];rfl
def DY{cells:List (Str×Addr)}:∀{names:List (Str×NameKind)} {acc:List (Str×Addr)},(∀y∈names,y.2=.free->∃c,cells.lookup y.1=some c)->(∀x c,acc.lookup x=some c->cells.lookup x=some c) ->
 ∀x c,(Aa cells names acc).lookup x=some c->cells.lookup x=some c
 |[],_,_,ha,x,c,e=>ha x c e
 |(n,k)::r,acc,hy,ha,x,c,e=>by
   unfold Aa at e;have hr:∀y∈r,y.2=.free->∃c,cells.lookup y.1=some c:=λz hz=>hy z (mem_cons_of_mem _ hz);by_cases hk:(k==NameKind.free)=true
   .rw[if_pos hk]at e;refine DY hr (λz d q=>?_) x c e;obtain⟨c0,hc0⟩:=hy (n,k) mem_cons_self (by simpa using hk);have hc0:cells.lookup n=some c0:=hc0;rw[lookup_cons]at q;by_cases hz:(z==n)=true
    .rw[hz,hc0]at q;have:z=n:=by simpa using hz
     subst this;simpa [hc0]using q
    .have hz':(z==n)=false:=by simpa using hz
     rw[hz']at q;exact ha z d q
   .rw[if_neg hk]at e;exact DY hr ha x c e
def Cq{cells:List (Str×Addr)}:∀{names:List (Str×NameKind)} {acc:List (Str×Addr)} {x:Str},((acc.lookup x).isSome=true∨(x,NameKind.free)∈names)->((Aa cells names acc).lookup x).isSome=true
 |[],_,_,h=>h.elim id λz=>by cases z
 |(n,k)::r,acc,x,h=>by
   unfold Aa;by_cases hk:(k==NameKind.free)=true
   .rw[if_pos hk];refine Cq ?_;by_cases hx:(x==n)=true
    .exact .inl (by rw[lookup_cons,hx];rfl)
    .have hx':(x==n)=false:=by simpa using hx
     rcases h with h|h
     .exact .inl (by rw[lookup_cons,hx'];exact h)
     .rcases mem_cons.mp h with h|h
      .cases h;simp at hx
      .exact .inr h
   .rw[if_neg hk];refine Cq ?_;rcases h with h|h
    .exact .inl h
    .rcases mem_cons.mp h with h|h
     .cases h;simp at hk
     .exact .inr h
def CN:Nat->List (Str×NameKind)->List (Str×Addr)
 |_,[]=>[]
 |n,(x,k)::r=>if k==.cell then CN (n+1) r++[(x,n)]else CN n r
def Bm:∀(names:List (Str×NameKind)) (n:Nat) (acc:List (Str×Addr)),cellsFrom n names acc=CN n names++acc
 |[],_,_=>rfl
 |(x,k)::r,n,acc=>by
   unfold cellsFrom CN;by_cases hk:(k==NameKind.cell)=true
   .rw[if_pos hk,if_pos hk,Bm r (n+1),append_assoc];rfl
   .rw[if_neg hk,if_neg hk,Bm r n]
def IE:∀(names:List (Str×NameKind)) (n:Nat) (x:Str) (c:Addr),(CN n names).lookup x=some c->(x,NameKind.cell)∈names
 |[],_,_,_,e=>by cases e
 |(y,k)::r,n,x,c,e=>by
   unfold CN at e;by_cases hk:(k==NameKind.cell)=true
   .rw[if_pos hk]at e;have hk':k=.cell:=by simpa using hk
    rw[lookup_append]at e;cases q:(CN (n+1) r).lookup x with
    |some d=>exact mem_cons_of_mem _ (IE r _ x d q)
    |none=>
     rw[q]at e;simp only[none_or,lookup_cons]at e;by_cases hx:(x==y)=true
     .have:x=y:=by simpa using hx
      subst this;subst hk';exact mem_cons_self
     .have hx':(x==y)=false:=by simpa using hx
      rw[hx']at e;cases e
   .rw[if_neg hk]at e;exact mem_cons_of_mem _ (IE r n x c e)
def IF:∀(names:List (Str×NameKind)) (n:Nat) (x:Str),(x,NameKind.cell)∈names->∃c,(CN n names).lookup x=some c
 |[],_,_,h=>by cases h
 |(y,k)::r,n,x,h=>by
   unfold CN;by_cases hk:(k==NameKind.cell)=true
   .rw[if_pos hk,lookup_append];rcases mem_cons.mp h with h|h
    .obtain⟨rfl,rfl⟩:=Prod.mk.inj h;cases q:(CN (n+1) r).lookup x with
     |some d=>exact⟨d,rfl⟩
     |none=>exact⟨n,by simp[lookup_cons]⟩
    .obtain⟨c,hc⟩:=IF r (n+1) x h;exact⟨c,by rw[hc];rfl⟩
   .rw[if_neg hk];rcases mem_cons.mp h with h|h
    .cases h;simp at hk
    .exact IF r n x h
def PV(scope:Scope)(C:Addr)(env:Env):Env:=
 { scope:=relabel scope env,locals:=C,globals:=env.globals,cells:=cellsFrom (C+1) scope.names (Aa env.cells scope.names []),qual:=env.qual,func:=none,code:=env.code,frame:=env.frame,builtins:=env.builtins }
def Jl{M:Model}{A:Around}{E:Value->Shared->Prop}{s:Shared}{scope:Scope}{cl:List (Str×Addr)}{env:Env}{Q:Env->Shared->Prop}
 (hQ:∀h',(∀b o,s.heap.get? b=some o->h'.get? b=some o)->h'.Ns s.heap.objs.size (λ_=>none)->(∀x c,(CN (s.heap.objs.size+1) scope.names).lookup x=some c->h'.IsCell c none/\s.heap.objs.size<c) ->
  ((CN (s.heap.objs.size+1) scope.names).Pairwise λx y=>x.2≠y.2) ->
  Q { scope:=scope,locals:=s.heap.objs.size,globals:=env.globals,cells:=cellsFrom (s.heap.objs.size+1) scope.names cl,qual:=env.qual,func:=none,code:=env.code,frame:=env.frame,builtins:=env.builtins } { s with heap:=h' }):
 wpAny M A (newFunctionEnv scope env.globals cl [] env.qual none .none (some env)) Q E s:=by
 simp only[newFunctionEnv,Option.isSome_some,if_true];refine wpAny_bind (wpAny_alloc ?_);refine wpAny_bind (wpAny_layCells _ (λname kind cells=>by cases hkc:kind==NameKind.cell<;>simp[hkc]) _ _ _ _ ?_);have ok:=cellsFrom_ok scope.names (s.heap.push { cls:=.type "dict",data:=.dict #[] }) (s.heap.objs.size+1) [] ⟨λ_ _ hm=>(nomatch hm),List.Pairwise.nil⟩ (by rw[Heap.size_push];exact le_refl _);rw[Heap.size_push,Bm,append_nil]at ok;rw[show({ s with heap:=s.heap.push { cls:=.type "dict",data:=.dict #[] } }:Shared).heap.objs.size=s.heap.objs.size+1 from Heap.size_push ..];refine wpAny_bind (wpAny_pure (wpAny_pure ?_));exact hQ _ (λb o e=>pushCells_keeps _ _ b o (Heap.get?_push_of_some _ e)) ((Heap.Ns.new s.heap (.type "dict")).keeps (pushCells_keeps _ _)) (λx c hc=>⟨(ok.empty x c (mem_of_lookup hc)).1,(ok.empty x c (mem_of_lookup hc)).2⟩) ok.apart
def KL:∀{names:List (Str×NameKind)} {x:Str} {k k':NameKind},(names.map (·.1)).Nodup->(x,k)∈names->(x,k')∈names->k=k'
 |[],_,_,_,_,h,_=>by cases h
 |(y,q)::r,x,k,k',nd,h,h'=>by
   have nd:(y::r.map (·.1)).Nodup:=nd;obtain⟨n1,n2⟩:=nodup_cons.mp nd;have out:∀{z:NameKind},(y,z)∈r->False:=λm=>n1 (mem_map.mpr ⟨_,m,rfl⟩);rcases mem_cons.mp h with e|e<;>rcases mem_cons.mp h' with e'|e'
   .cases e;cases e';rfl
   .cases e;exact(out e').elim
   .cases e';exact(out e).elim
   .exact KL n2 e e'
def GV{env:Env}{x:Str}:∀{names:List (Str×NameKind)},names.lookup x=some .free ->
 (names.map λ(n,k)=>if(k==NameKind.free&&env.scope.kind==.function&&env.kindOf n==some .cell)then(n,NameKind.cell)else(n,k)).lookup x=some .cell ∨
 (names.map λ(n,k)=>if(k==NameKind.free&&env.scope.kind==.function&&env.kindOf n==some .cell)then(n,NameKind.cell)else(n,k)).lookup x=some .free
 |[],h=>by simp at h
 |(n,k)::r,h=>by
   have ih:=@GV env x r;show List.lookup x ((if(k==NameKind.free&&env.scope.kind==.function&&env.kindOf n==some .cell)=true then(n,NameKind.cell)else(n,k))::_)=_∨List.lookup x ((if(k==NameKind.free&&env.scope.kind==.function&&env.kindOf n==some .cell)=true then(n,NameKind.cell)else(n,k))::_)=_;cases hx:x==n with
   |true=>
    simp only[lookup_cons,hx]at h;cases h;by_cases hc:(NameKind.free==NameKind.free&&env.scope.kind==.function&&env.kindOf n==some .cell)=true
    .rw[if_pos hc];exact .inl (by simp only[lookup_cons,hx])
    .rw[if_neg hc];exact .inr (by simp only[lookup_cons,hx])
   |false=>
    simp only[lookup_cons,hx]at h;by_cases hc:(k==NameKind.free&&env.scope.kind==.function&&env.kindOf n==some .cell)=true
    .rw[if_pos hc];simp only[lookup_cons,hx];exact ih h
    .rw[if_neg hc];simp only[lookup_cons,hx];exact ih h
def Gn{env:Env}{x:Str}:∀{names:List (Str×NameKind)},
 ((names.map λ(n,k)=>if(k==NameKind.free&&env.scope.kind==.function&&env.kindOf n==some .cell)then(n,NameKind.cell)else(n,k)).lookup x=some .cell ∨
 (names.map λ(n,k)=>if(k==NameKind.free&&env.scope.kind==.function&&env.kindOf n==some .cell)then(n,NameKind.cell)else(n,k)).lookup x=some .free) ->
 names.lookup x=some .cell∨names.lookup x=some .free
 |[],h=>by simp at h
 |(n,k)::r,h=>by
   have ih:=@Gn env x r;have h:List.lookup x ((if(k==NameKind.free&&env.scope.kind==.function&&env.kindOf n==some .cell)=true then(n,NameKind.cell)else(n,k))::_)=_∨List.lookup x ((if(k==NameKind.free&&env.scope.kind==.function&&env.kindOf n==some .cell)=true then(n,NameKind.cell)else(n,k))::_)=_:=h;cases hx:x==n with
   |true=>
    by_cases hc:(k==NameKind.free&&env.scope.kind==.function&&env.kindOf n==some .cell)=true
    .have hk:k=.free:=by
      have:=(Bool.and_eq_true _ _ ▸ (Bool.and_eq_true _ _ ▸ hc).1:(k==NameKind.free)=true/\_).1;simpa using this
     exact .inr (by simp only[lookup_cons,hx,hk])
    .rw[if_neg hc]at h;simp only[lookup_cons,hx]at h ⊢;exact h
   |false=>
    simp only[lookup_cons,hx];refine ih ?_;by_cases hc:(k==NameKind.free&&env.scope.kind==.function&&env.kindOf n==some .cell)=true
    .rw[if_pos hc]at h;simp only[lookup_cons,hx]at h;exact h
    .rw[if_neg hc]at h;simp only[lookup_cons,hx]at h;exact h
def cCx(X:Cx)(N':List Str)(scope:Scope)(s:Shared)(H:Hp)(ex:List Addr):Cx:=
 { X with N:=N',s₀:=s,H₀:=H,env:=PV scope s.heap.objs.size X.env,outer:=X.stack,ex:=ex,fn:=λx=>decide ((x,NameKind.cell)∈scope.names),pn:=[],xe:=λ_ _=>False }
structure CSc(X:Cx)(scope:Scope)(fr:List Str)(ix:List Nat):Prop where
 kind:scope.kind=.function
 nd:(scope.names.map (·.1)).Nodup
 free:(scope.names.all λy=>y.2 != .free||X.env.kindOf y.1==some .cell||X.env.kindOf y.1==some .free)=true
 frs:(fr.all λx=>scope.names.lookup x==some .free)=true
 ixs:fr.map some=ix.map λi=>X.N[i]?
 loc:(scope.names.all λy=>y.2 != .local||scope.names.lookup y.1==some .local)=true
def FP(n:Nat)(ix:List Nat)(σ:St):St:=List.replicate n none++ix.map λi=>(σ[i]?).join
section
variable{X:Cx}{scope:Scope}{fr loc:List Str}{ix:List Nat}{pins:List (Addr×Obj)}{σ:St}{H:Hp}{s:Shared}
def CSc.outer(S:CSc X scope fr ix){y:Str×NameKind}(hy:y∈scope.names)(e:y.2=.free):X.env.kindOf y.1=some .cell∨X.env.kindOf y.1=some .free:=by
 have h:=all_eq_true.mp S.free y hy;rw[e]at h;simpa using h
def CSc.clos(S:CSc X scope fr ix)(ok:X.Ok):∀y∈scope.names,y.2=.free->∃c,X.env.cells.lookup y.1=some c:=λy hy e=>ok.has y.1 (S.outer hy e)
def D6(S:CSc X scope fr ix)(ok:X.Ok){n:Nat}{x:Str}{c:Addr}(e:(cellsFrom n scope.names (Aa X.env.cells scope.names [])).lookup x=some c):
 (CN n scope.names).lookup x=some c∨X.env.cells.lookup x=some c:=by
 rw[Bm,lookup_append]at e;cases q:(CN n scope.names).lookup x with
 |some d=>rw[q]at e;exact .inl e
 |none=>
  rw[q]at e;exact .inr (DY (S.clos ok) (λ_ _ z=>by simp at z) x c e)
def IN(S:CSc X scope fr ix)(I:Inv X pins σ H s){ex:List Addr}(hex:∀b∈ex,FpOk X pins H b){h':Heap}(hk:∀b o,s.heap.get? b=some o->h'.get? b=some o)(hn:h'.Ns s.heap.objs.size λ_=>none)
 (ho:∀x c,(CN (s.heap.objs.size+1) scope.names).lookup x=some c->h'.IsCell c none/\s.heap.objs.size<c) (ha:(CN (s.heap.objs.size+1) scope.names).Pairwise λx y=>x.2≠y.2) (hlt:∀b∈ex,b<s.heap.objs.size):
 Inv (cCx X (loc++fr) scope s H ex) [] (FP loc.length ix σ) H { s with heap:=h' }:=by
 have old:∀x c,X.env.cells.lookup x=some c->c<s.heap.objs.size:=λx c e=>let ⟨v,z⟩:=I.cell x c e;z.lt
 have lenix:fr.length=ix.length:=by simpa using congrArg List.length S.ixs
 refine⟨⟨I.ok.mod,?_,I.ok.glob,I.ok.blt,le_refl _,?_,?_,?_,I.ok.hd,I.ok.frames,.inl rfl,?_,I.bs,le_trans I.ok.bsz I.sz,?_,?_,I.stack,I.stkFree⟩,rfl,I.bare,Un.kept hk,⟨_,hn,?_⟩,?_,I.hok.fresh (le_refl _),?_,?_,I.hok.kept hk,?_⟩
 .exact S.kind
 .intro x y c e1 e2;rcases D6 S I.ok e1 with a|a<;>rcases D6 S I.ok e2 with b|b
  .exact name_of_addr ha (PySem.mem_of_lookup a) (PySem.mem_of_lookup b)
  .exact absurd (lt_trans (ho x c a).2 (old y c b)) (lt_irrefl _)
  .exact absurd (lt_trans (ho y c b).2 (old x c a)) (lt_irrefl _)
  .exact I.ok.inj x y c a b
 .intro x hx;rcases Gn hx with e|e
  .exact isSome_iff_exists.mp (PySem.W.cellsFrom_some _ _ _ (.inl e))
  .exact isSome_iff_exists.mp (PySem.W.cellsFrom_some _ _ _ (.inr (Cq (.inr (PySem.mem_of_lookup e)))))
 .intro x c hf e;have hf:(x,NameKind.cell)∈scope.names:=of_decide_eq_true hf;obtain⟨d,hd⟩:=IF scope.names (s.heap.objs.size+1) x hf;have e':(cellsFrom (s.heap.objs.size+1) scope.names (Aa X.env.cells scope.names [])).lookup x=some c:=e;rw[Bm,lookup_append,hd]at e';cases e';exact le_of_lt (ho x _ hd).2
 .intro b hb;refine⟨ne_of_lt (hlt b hb),λx c e z=>?_⟩;rcases D6 S I.ok e with a|a
  .exact absurd (lt_trans (ho x c a).2 (by rw[z];exact hlt b hb)) (lt_irrefl _)
  .exact(hex b hb).2.2.2.2.1 x c a z
 .intro b o e hb;rcases(hex b hb).2.2.2.1 with z|z
  .exact I.ok.noex b o e z
  .exact absurd (lt_of_lt_of_le (Heap.lt_size (I.ok.bs b o e).1) z) (lt_irrefl _)
 .intro b hb hf;rcases mem_cons.mp (I.stkSub b hf)with z|z
  .exact(hex b hb).2.1 z
  .exact(hex b hb).2.2.1 z
 .intro i x v e1 e2 e3;have e1:(loc++fr)[i]?=some x:=e1;unfold FP at e2;by_cases hi:i<loc.length
  .rw[List.getElem?_append_left (by simpa using hi),List.getElem?_replicate]at e2;split at e2<;>cases e2
  .have hi':loc.length<=i:=Nat.not_lt.mp hi;rw[List.getElem?_append_right (by simpa using hi')]at e2;rw[List.getElem?_append_right hi']at e1;rw[List.length_replicate,List.getElem?_map]at e2;generalize hj:i-loc.length=j at e1 e2;have e4:(fr.map some)[j]?=some (some x):=by rw[List.getElem?_map,e1];rfl
   rw[S.ixs,List.getElem?_map]at e4;cases q:ix[j]? with
   |none=>rw[q]at e2;cases e2
   |some k=>
    rw[q]at e2 e4;have e2:(σ[k]?).join=some v:=Option.some.inj e2;have e4:X.N[k]?=some x:=Option.some.inj e4;have e5:σ[k]?=some (some v):=by
     cases w:σ[k]? with
     |none=>rw[w]at e2;cases e2
     |some z=>rw[w]at e2;simpa using e2
    have hfx:=all_eq_true.mp S.frs x (mem_of_getElem? e1);have hfx:scope.names.lookup x=some .free:=by simpa using hfx
    have hmem:=PySem.mem_of_lookup hfx;have hout:=S.outer hmem rfl;obtain⟨m,hm,hl⟩:=I.loc;obtain⟨u,r,l⟩:=hl k x v e4 e5 (.inr hout);refine⟨u,r,.inr ⟨GV hfx,?_⟩⟩;rcases l with⟨kk,_⟩|⟨kk,c,ec,z⟩
    .rcases hout with w|w
     .rw[kk]at w;cases w
     .rw[kk]at w;cases w
    .have own0:(CN (s.heap.objs.size+1) scope.names).lookup x=none:=by
      cases w:(CN (s.heap.objs.size+1) scope.names).lookup x with
      |none=>rfl
      |some d=>exact absurd (KL S.nd (IE _ _ _ _ w) hmem) (by decide)
     have hc:(Aa X.env.cells scope.names []).lookup x=some c:=by
      obtain⟨d,hd⟩:=isSome_iff_exists.mp (Cq (cells:=X.env.cells) (acc:=[]) (.inr hmem));have:=DY (S.clos I.ok) (λ_ _ z=>by simp at z) x d hd;rw[ec]at this;cases this;exact hd
     refine⟨c,?_,z.keeps hk⟩;show(cellsFrom (s.heap.objs.size+1) scope.names (Aa X.env.cells scope.names [])).lookup x=some c;rw[Bm,lookup_append,own0,hc];rfl
 .intro x c e;rcases D6 S I.ok e with a|a
  .exact⟨_,(ho x c a).1⟩
  .obtain⟨v,z⟩:=I.cell x c a;exact⟨v,z.keeps hk⟩
 .intro x c e;rcases D6 S I.ok e with a|a
  .exact I.hok.fresh (le_of_lt (ho x c a).2)
  .exact I.freeC x c a
 .intro p hp;cases hp
 .unfold FP;show _=(loc++fr).length;simp[lenix]
end
section
variable{prog:Program}{w:World}{A:Around}{R:Result->Shared->Prop}{s:Shared}
def HH{elt target iter:Expr}{ifs:List Expr}{scope:Scope}{pos:Pos}{it acc:Value}{env:Env}(I:Nat->Shared->Prop)
 (turn:∀n s,I n s->wpAny (model prog w) A (pyNext it) (λr s₁=>match r with
  |none=>R (.ok .next) s₁
  | some v=>wpAny (model prog w) A (letOwnedTupleGo target it v) (λ_ s₁=>wpAny (model prog w) A (assign target env v) (λ_ s₂=>
   wpAny (model prog w) A (forIn ifs true λc r=>if r=true then do let ok <- isTrue c env (eval c env);pure (ForInStep.yield ok)else pure (ForInStep.yield r)) (λok s₃=>
    if ok=true then wpAny (model prog w) A (eval elt env) (λx s₄=>
     wpAny (model prog w) A (call (.builtin "list.append") [acc,x]) (λ_ s₅=>∃m,m<n/\I m s₅) (λ_ _=>False) s₄) (λ_ _=>False) s₃
    else ∃m,m<n/\I m s₃) (λ_ _=>False) s₂) (λ_ _=>False) s₁) (λ_ _=>False) s₁) (λ_ _=>False) s)
 (n:Nat) (h:I n s):
 codeAny (model prog w) A (.compLoop (.ListComp elt [⟨target,iter,ifs,0⟩] scope pos) 0 it acc env) R s:=by
 refine codeAny_loop rfl I (λn s hI=>?_) n h;show wpAny _ A ((compTurn (.ListComp elt [⟨target,iter,ifs,0⟩] scope pos) 0 it acc env).onRaise (λx=>do noteFrame x env;theTreesLotGoes x)) _ _ s;refine wpAny_noted ?_;rw[compTurn_list];refine wpAny_bind (wpAny_standAt (wpAny_bind (wpAny_mono (turn n s hI) (λr s₁ h₁=>?_) λ_ _ h'=>h'.elim)));cases r with
 |none=>exact wpAny_pure h₁
 |some v=>
  refine wpAny_bind (wpAny_mono h₁ (λ_ s₁ h₁=>?_) λ_ _ h'=>h'.elim);refine wpAny_bind (wpAny_mono h₁ (λ_ s₂ h₂=>wpAny_bind (wpAny_mono h₂ (λok s₃ h₃=>?_) λ_ _ h'=>h'.elim)) λ_ _ h'=>h'.elim);cases ok with
  |false=>exact wpAny_pure ⟨rfl,h₃⟩
  |true=>
   exact wpAny_bind (wpAny_bind (wpAny_mono h₃ (λx s₄ h₄=>wpAny_bind (wpAny_mono h₄ (λ_ s₅ h₅=>wpAny_pure (wpAny_pure ⟨rfl,h₅⟩)) λ_ _ h'=>h'.elim)) λ_ _ h'=>h'.elim))
end
def PF(X:Cx)(ifs:List Expr)(t:TT):Prop:=
 ∀(pins:List (Addr×Obj)) (s:Shared) (σ:St) (H:Hp) (Q:Bool->Hp->Prop),Inv X pins σ H s->t σ H Q ->
   wpAny (model X.prog X.w) X.A (forIn ifs true λc r=>if r=true then do let ok <- isTrue c X.env (eval c X.env);pure (ForInStep.yield ok)else pure (ForInStep.yield r)) (TP X pins σ Q) X.xe s
def Rr:TT:=λ_ H Q=>Q true H
def Yj{X:Cx}:PF X [] Rr:=λpins s σ H Q I h=>wpAny_tests_nil ⟨H,I,h⟩
def Yi{X:Cx}{c:Expr}{t:TT}(h:PT X c t):PF X [c] t:=λpins s σ H Q I q=>wpAny_tests_one (h pins s σ H Q I q)
def Ua(J:It)(D:Addr)(σ0:St)(H0:Hp)(g:TG)(tf:TT)(te:TE)(Q:VK):Prop:=∃W:Nat->Nat->St->List V->Hp->Prop,
 (∃m,W 0 m σ0 [] (upd H0 D (.lst [])))/\∀i m σ ys H,W i m σ ys H->H D=some (.lst ys)/\
  ((J.stop i H/\Q (.ref D) H)∨(J.go i H/\ys.length<sizeLine/\∃N:St->List V->Hp->Prop,(∀σ' ys' H',N σ' ys' H'->∃m',m'<m/\W (i+1) m' σ' ys' H')/\
    ∀x H',J.yld i H x H'->g x σ H' λσ2 H2=>tf σ2 H2 λb H3=>
     if b=true then te σ2 H3 λv H4=>H4 D=some (.lst ys)/\N σ2 (ys++[v]) (upd H4 D (.lst (ys++[v])))
     else N σ2 ys H3))
def Fq(n:Nat)(ix:List Nat)(wi:TI)(g:TG)(tf:TT)(te:TE):TE:=λσ H Q=>wi σ H λJ H1=>∀D,H1 D=none->Ua J D (FP n ix σ) H1 g tf te Q
section
variable{X:Cx}
def Mu{pins:List (Addr×Obj)}{σ:St}{H:Hp}{s:Shared}{D:Addr}{ys:List V}{x:V}{u:Value}{Q:Value->Shared->Prop}{E:Value->Shared->Prop}(I:Inv X pins σ H s)(hD:H D=some (.lst ys))(r:RelV x u)(hz:ys.length<sizeLine)
 (h:∀v s',Inv X pins σ (upd H D (.lst (ys++[x]))) s'->Q v s'):wpAny (model X.prog X.w) X.A (call (.builtin "list.append") [.ref D,u]) Q E s:=by
 have I':=I.wish λ_ _=>False;have q:=KM (X:=X.wish λ_ _=>False) pins s σ H (.ref D) [x] (.ref D) [u] (λv H'=>H'=upd H D (.lst (ys++[x]))) I' rfl (.cons r .nil) ⟨D,ys,x,rfl,rfl,hD,hz,rfl⟩;refine wpAny_mono q (λv s' ⟨v',H',I2,_,e⟩=>?_) λ_ _ z=>False.elim z;subst e;exact h v s' I2.unwish
def W6{elt tg iter:Expr}{ifs:List Expr}{scope:Scope}{pos:Pos}{loc fr:List Str}{ix:List Nat}{wi:TI}{g:TG}{tf:TT}{te:TE}(hc:X.calm=true)(S:CSc X scope fr ix)(hi:PI X tg iter wi)
 (hg:∀s H ex,PG (cCx X (loc++fr) scope s H ex) tg g) (hf:∀s H ex,PF (cCx X (loc++fr) scope s H ex) ifs tf) (he:∀s H ex,PE (cCx X (loc++fr) scope s H ex) elt te)
 (hs:∀x,foldedSetIterable iter X.env x=pure x:=by intro _;rfl):PE X (.ListComp elt [⟨tg,iter,ifs,0⟩] scope pos) (Fq loc.length ix wi g tf te):=by
 intro pins s σ H Q I h;rw[eval_ListComp];have hnames:∀y∈scope.names,y.2=.local->scope.names.lookup y.1=some .local:=λy hy e=>by
  have:=all_eq_true.mp S.loc y hy;rw[e]at this;simpa using this
 refine wpAny_comprehension_free (use:=none) rfl hs (CJ (S.clos I.ok)) S.kind hnames (thn (hi pins s σ H _ I h) λv s1 h1=>thn h1 λitv s2 h2=>?_);obtain⟨it,fp,tn,J,H2,rfl,I2,T,st2,f2,hW⟩:=h2;refine wpAny_newObj_type ?_;have fresh2:H2 s2.heap.objs.size=none:=I2.hok.fresh (le_refl _);have I3:=I2.lnew (its:=[]) (ys:=[]) (t':=s2.toks) .nil (zero_le _);obtain⟨W,⟨m0,w0⟩,turn⟩:=hW s2.heap.objs.size fresh2;have lt2:∀b∈fp,b<s2.heap.objs.size:=λb hb=>let ⟨o,e,_⟩:=T.obj 0 _ st2 b hb;Heap.lt_size e
 have f3:∀b∈fp,FpOk X pins (upd H2 s2.heap.objs.size (.lst [])) b:=λb hb=>⟨by rw[AB (ne_of_lt (lt2 b hb))];exact(f2 b hb).1,(f2 b hb).2⟩
 have lt3:∀b∈fp,b<(s2.heap.push { cls:=.type "list",data:=.seq ([]:List Value).toArray }).objs.size:=λb hb=>by rw[Heap.size_push];exact lt_succ_of_lt (lt2 b hb)
 generalize hs3:({ s2 with heap:=s2.heap.push { cls:=.type "list",data:=.seq ([]:List Value).toArray } }:Shared)=s3 at *;have lt3:∀b∈fp,b<s3.heap.objs.size:=by rw[<- hs3];exact lt3
 have st3:tn 0 s3.heap:=T.keep _ _ _ st2 λb hb o e=>by rw[<- hs3];exact Heap.get?_push_of_some _ e
 refine Jl λh' hk hn ho ha=>?_;have I4:=IN (loc:=loc) S I3 f3 hk hn ho ha lt3;have fpX:∀{H':Hp},(∀b∈fp,H' b=none)->∀b∈fp,FpOk (cCx X (loc++fr) scope s3 (upd H2 s2.heap.objs.size (.lst [])) fp) [] H' b:=λhn b hb=>
  ⟨hn b hb,(I4.ok.exf b hb).1,I4.ok.exfs b hb,.inl hb,(I4.ok.exf b hb).2,λp hp=>by cases hp⟩
 have loop:codeAny (model X.prog X.w) X.A (.compLoop (.ListComp elt [⟨tg,iter,ifs,0⟩] scope pos) 0 (.ref it) (.ref s2.heap.objs.size) (PV scope s3.heap.objs.size X.env))
  (compPost (model X.prog X.w) X.A X.xe none (EP X pins σ Q) (.ref s2.heap.objs.size) s3.heap.objs.size) { s3 with heap:=h' }:=by
  refine HH (λn s'=>∃i σ' ys H',Inv (cCx X (loc++fr) scope s3 (upd H2 s2.heap.objs.size (.lst [])) fp) [] σ' H' s'/\tn i s'.heap/\(∀b∈fp,H' b=none)/\W i n σ' ys H') ?_ m0
   ⟨0,_,[],_,I4,T.keep _ _ _ st3 λb hb o e=>hk b o e,λb hb=>(f3 b hb).1,w0⟩
  rintro n s5 ⟨i,σ5,ys,H5,I5,st5,fr5,w5⟩;obtain⟨hD,w5⟩:=turn i n σ5 ys H5 w5;rcases w5 with⟨stop,qn⟩|⟨go,hz,N,hN,step⟩
  .refine thn (T.done (cCx X (loc++fr) scope s3 (upd H2 s2.heap.objs.size (.lst [])) fp) rfl rfl rfl hc i [] s5 σ5 H5 _ I5 (fpX fr5) st5 stop) λr s6 ⟨hr,I6⟩=>?_;subst hr;obtain⟨m,hm,_⟩:=I6.loc;refine⟨m,hm,λh'' hs=>?_⟩;have neC:∀b o,s3.heap.get? b=some o->b≠s3.heap.objs.size:=λb o e=>ne_of_lt (Heap.lt_size e);have un:=I6.base;refine⟨.ref s2.heap.objs.size,H5,I3.call' (s':={ s6 with heap:=h'' }) (ch:=fp) I6.os ⟨λb o e n hb hx=>?_,λb o e n hb hx=>?_,un.free,λb o e hx=>?_,un.tups,un.frzs,un.tbls⟩ ?_ I6.bare ?_,rfl,qn⟩
   .exact(hs.2 b (neC b o e)).trans (un.keep b o e n hb hx)
   .obtain⟨sl,q⟩:=un.slot b o e n hb hx;exact⟨sl,(hs.2 b (neC b o e)).trans q⟩
   .obtain⟨o',q⟩:=un.there b o e hx;exact⟨o',(hs.2 b (neC b o e)).trans q⟩
   .intro b ob e;have hfree:H5 s3.heap.objs.size=none:=I6.free;refine(I6.hok b ob e).stay (λc w' hc q=>(hs.2 c ?_).trans q) (λ_ q=>q) λ_ _ q=>q;intro z;rcases hc with hc|hc
    .rw[<- hc,z,hfree]at e;cases e
    .rw[z,hfree]at hc;cases hc
   .intro b hb;obtain⟨_,a2,_,a4,a5,a6⟩:=f3 b hb;exact⟨a4,a2,a5,a6⟩
  .refine thn (T.item (cCx X (loc++fr) scope s3 (upd H2 s2.heap.objs.size (.lst [])) fp) rfl rfl rfl hc i [] s5 σ5 H5 _ I5 (fpX fr5) st5 go) λr s6 ⟨u,hr,h6⟩=>?_;subst hr;refine thn h6 λ_ s7 ⟨x,H7,I7,r7,y7,st7,fr7⟩=>?_;have I7':=I7.pinned (fpX fr7) (T.obj _ _ st7);have keepI:∀{σ8:St} {H8:Hp} {s8:Shared},Inv (cCx X (loc++fr) scope s3 (upd H2 s2.heap.objs.size (.lst [])) fp) ([]++E4 fp s7.heap) σ8 H8 s8->tn (i+1) s8.heap/\∀b∈fp,H8 b=none:=λ{σ8 H8 s8} I8=>by
    refine⟨T.keep _ _ _ st7 λb hb o e=>(I8.pin (b,o) (mem_append_right _ (mem_append_right _ (BE hb e)))).1,λb hb=>?_⟩;obtain⟨o,e,d⟩:=T.obj _ _ st7 b hb;exact(I8.pin (b,o) (mem_append_right _ (mem_append_right _ (BE hb e)))).2.1
   refine thn (hg s3 (upd H2 s2.heap.objs.size (.lst [])) fp _ s7 σ5 H7 x u _ I7' r7 (step x H7 y7)) λ_ s8 ⟨σ8,H8,I8,q8⟩=>?_;refine thn (hf s3 (upd H2 s2.heap.objs.size (.lst [])) fp _ s8 σ8 H8 _ I8 q8) λb s9 ⟨H9,I9,q9⟩=>?_;cases b with
   |false=>
    rw[if_neg Bool.false_ne_true]at q9 ⊢;obtain⟨m',hm,w9⟩:=hN _ _ _ q9;exact⟨m',hm,i+1,σ8,ys,H9,I9.unpinned,(keepI I9).1,(keepI I9).2,w9⟩
   |true=>
    rw[if_pos rfl]at q9 ⊢;refine thn (he s3 (upd H2 s2.heap.objs.size (.lst [])) fp _ s9 σ8 H9 _ I9 q9) λe10 s10 ⟨v10,H10,I10,r10,hD10,n10⟩=>?_;obtain⟨m',hm,w10⟩:=hN _ _ _ n10;refine Mu (X:=cCx X (loc++fr) scope s3 (upd H2 s2.heap.objs.size (.lst [])) fp) I10 hD10 r10 hz λ_ s11 I11=>?_;exact⟨m',hm,i+1,σ8,_,_,I11.unpinned,(keepI I11).1,(keepI I11).2,w10⟩
 exact codeAny_compStart_list loop (T.self X.A 0 _ _ _ (T.keep _ _ _ st3 λb hb o e=>hk b o e) loop)
end
section
variable{X:Cx}
def PQ{elt tg iter:Expr}{ifs:List Expr}{scope:Scope}{pos:Pos}{loc fr:List Str}{ix:List Nat}{g:TG}{tf:TT}{te:TE}{pins:List (Addr×Obj)}{σ:St}{Q:VK}{it:Addr}{fp:List Addr}{tn:Nat->Heap->Prop}{J:It}{H2:Hp}{s2:Shared}{E:Value->Shared->Prop}
 {RR:Value->Addr->Result->Shared->Prop} (hc:X.calm=true) (S:CSc X scope fr ix)
 (hg:∀s H ex,PG (cCx X (loc++fr) scope s H ex) tg g) (hf:∀s H ex,PF (cCx X (loc++fr) scope s H ex) ifs tf) (he:∀s H ex,PE (cCx X (loc++fr) scope s H ex) elt te)
 (I2:Inv X pins σ H2 s2) (T:Turn X.prog X.w X.K tg J fp it tn) (st2:tn 0 s2.heap) (f2:∀b∈fp,FpOk X pins H2 b) (hW:∀D,H2 D=none->Ua J D (FP loc.length ix σ) H2 g tf te Q)
 (hfin:∀(s3 s6:Shared) (H5:Hp) (σ5:St) (D:Addr),Inv X pins σ (upd H2 D (.lst [])) s3->Inv (cCx X (loc++fr) scope s3 (upd H2 D (.lst [])) fp) [] σ5 H5 s6->(∀b∈fp,FpOk X pins (upd H2 D (.lst [])) b)->Q (.ref D) H5->RR (.ref D) s3.heap.objs.size (.ok .next) s6):
 wpAny (model X.prog X.w) X.A (newList []) (λacc s₃=>wpAny (model X.prog X.w) X.A (newFunctionEnv scope X.env.globals (Aa X.env.cells scope.names []) [] X.env.qual none .none (some X.env)) (λcenv s₄=>
  codeAny (model X.prog X.w) X.A (.compStart (.ListComp elt [⟨tg,iter,ifs,0⟩] scope pos) 0 (.ref it) acc { cenv with scope:=relabel scope X.env }) (RR acc cenv.locals) s₄) E s₃) E s2:=by
 refine wpAny_newObj_type ?_;have fresh2:H2 s2.heap.objs.size=none:=I2.hok.fresh (le_refl _);have I3:=I2.lnew (its:=[]) (ys:=[]) (t':=s2.toks) .nil (zero_le _);obtain⟨W,⟨m0,w0⟩,turn⟩:=hW s2.heap.objs.size fresh2;have lt2:∀b∈fp,b<s2.heap.objs.size:=λb hb=>let ⟨o,e,_⟩:=T.obj 0 _ st2 b hb;Heap.lt_size e
 have f3:∀b∈fp,FpOk X pins (upd H2 s2.heap.objs.size (.lst [])) b:=λb hb=>⟨by rw[AB (ne_of_lt (lt2 b hb))];exact(f2 b hb).1,(f2 b hb).2⟩
 have lt3:∀b∈fp,b<(s2.heap.push { cls:=.type "list",data:=.seq ([]:List Value).toArray }).objs.size:=λb hb=>by rw[Heap.size_push];exact lt_succ_of_lt (lt2 b hb)
 generalize hs3:({ s2 with heap:=s2.heap.push { cls:=.type "list",data:=.seq ([]:List Value).toArray } }:Shared)=s3 at *;have lt3:∀b∈fp,b<s3.heap.objs.size:=by rw[<- hs3];exact lt3
 have st3:tn 0 s3.heap:=T.keep _ _ _ st2 λb hb o e=>by rw[<- hs3];exact Heap.get?_push_of_some _ e
 refine Jl λh' hk hn ho ha=>?_;have I4:=IN (loc:=loc) S I3 f3 hk hn ho ha lt3;have fpX:∀{H':Hp},(∀b∈fp,H' b=none)->∀b∈fp,FpOk (cCx X (loc++fr) scope s3 (upd H2 s2.heap.objs.size (.lst [])) fp) [] H' b:=λhn b hb=>
  ⟨hn b hb,(I4.ok.exf b hb).1,I4.ok.exfs b hb,.inl hb,(I4.ok.exf b hb).2,λp hp=>by cases hp⟩
 have loop:codeAny (model X.prog X.w) X.A (.compLoop (.ListComp elt [⟨tg,iter,ifs,0⟩] scope pos) 0 (.ref it) (.ref s2.heap.objs.size) (PV scope s3.heap.objs.size X.env))
  (RR (.ref s2.heap.objs.size) s3.heap.objs.size) { s3 with heap:=h' }:=by
  refine HH (λn s'=>∃i σ' ys H',Inv (cCx X (loc++fr) scope s3 (upd H2 s2.heap.objs.size (.lst [])) fp) [] σ' H' s'/\tn i s'.heap/\(∀b∈fp,H' b=none)/\W i n σ' ys H') ?_ m0
   ⟨0,_,[],_,I4,T.keep _ _ _ st3 λb hb o e=>hk b o e,λb hb=>(f3 b hb).1,w0⟩
  rintro n s5 ⟨i,σ5,ys,H5,I5,st5,fr5,w5⟩;obtain⟨hD,w5⟩:=turn i n σ5 ys H5 w5;rcases w5 with⟨stop,qn⟩|⟨go,hz,N,hN,step⟩
  .refine thn (T.done (cCx X (loc++fr) scope s3 (upd H2 s2.heap.objs.size (.lst [])) fp) rfl rfl rfl hc i [] s5 σ5 H5 _ I5 (fpX fr5) st5 stop) λr s6 ⟨hr,I6⟩=>?_;subst hr;exact hfin s3 s6 H5 σ5 s2.heap.objs.size I3 I6 f3 qn
  .refine thn (T.item (cCx X (loc++fr) scope s3 (upd H2 s2.heap.objs.size (.lst [])) fp) rfl rfl rfl hc i [] s5 σ5 H5 _ I5 (fpX fr5) st5 go) λr s6 ⟨u,hr,h6⟩=>?_;subst hr;refine thn h6 λ_ s7 ⟨x,H7,I7,r7,y7,st7,fr7⟩=>?_;have I7':=I7.pinned (fpX fr7) (T.obj _ _ st7);have keepI:∀{σ8:St} {H8:Hp} {s8:Shared},Inv (cCx X (loc++fr) scope s3 (upd H2 s2.heap.objs.size (.lst [])) fp) ([]++E4 fp s7.heap) σ8 H8 s8->tn (i+1) s8.heap/\∀b∈fp,H8 b=none:=λ{σ8 H8 s8} I8=>by
    refine⟨T.keep _ _ _ st7 λb hb o e=>(I8.pin (b,o) (mem_append_right _ (mem_append_right _ (BE hb e)))).1,λb hb=>?_⟩;obtain⟨o,e,d⟩:=T.obj _ _ st7 b hb;exact(I8.pin (b,o) (mem_append_right _ (mem_append_right _ (BE hb e)))).2.1
   refine thn (hg s3 (upd H2 s2.heap.objs.size (.lst [])) fp _ s7 σ5 H7 x u _ I7' r7 (step x H7 y7)) λ_ s8 ⟨σ8,H8,I8,q8⟩=>?_;refine thn (hf s3 (upd H2 s2.heap.objs.size (.lst [])) fp _ s8 σ8 H8 _ I8 q8) λb s9 ⟨H9,I9,q9⟩=>?_;cases b with
   |false=>
    rw[if_neg Bool.false_ne_true]at q9 ⊢;obtain⟨m',hm,w9⟩:=hN _ _ _ q9;exact⟨m',hm,i+1,σ8,ys,H9,I9.unpinned,(keepI I9).1,(keepI I9).2,w9⟩
   |true=>
    rw[if_pos rfl]at q9 ⊢;refine thn (he s3 (upd H2 s2.heap.objs.size (.lst [])) fp _ s9 σ8 H9 _ I9 q9) λe10 s10 ⟨v10,H10,I10,r10,hD10,n10⟩=>?_;obtain⟨m',hm,w10⟩:=hN _ _ _ n10;refine Mu (X:=cCx X (loc++fr) scope s3 (upd H2 s2.heap.objs.size (.lst [])) fp) I10 hD10 r10 hz λ_ s11 I11=>?_;exact⟨m',hm,i+1,σ8,_,_,I11.unpinned,(keepI I11).1,(keepI I11).2,w10⟩
 exact codeAny_compStart_list loop (T.self X.A 0 _ _ _ (T.keep _ _ _ st3 λb hb o e=>hk b o e) loop)
def FT{scope:Scope}{N':List Str}{fp:List Addr}{pins:List (Addr×Obj)}{σ σ5:St}{H3 H5:Hp}{s3 s6:Shared}{h'':Heap}(I3:Inv X pins σ H3 s3)(I6:Inv (cCx X N' scope s3 H3 fp) [] σ5 H5 s6)(f3:∀b∈fp,FpOk X pins H3 b)
 (hs:Heap.SameBut s3.heap.objs.size s6.heap h''):Inv X pins σ H5 { s6 with heap:=h'' }:=by
 have neC:∀b o,s3.heap.get? b=some o->b≠s3.heap.objs.size:=λb o e=>ne_of_lt (Heap.lt_size e);have un:=I6.base;refine I3.call' (s':={ s6 with heap:=h'' }) (ch:=fp) I6.os ⟨λb o e n hb hx=>?_,λb o e n hb hx=>?_,un.free,λb o e hx=>?_,un.tups,un.frzs,un.tbls⟩ ?_ I6.bare ?_
 .exact(hs.2 b (neC b o e)).trans (un.keep b o e n hb hx)
 .obtain⟨sl,q⟩:=un.slot b o e n hb hx;exact⟨sl,(hs.2 b (neC b o e)).trans q⟩
 .obtain⟨o',q⟩:=un.there b o e hx;exact⟨o',(hs.2 b (neC b o e)).trans q⟩
 .intro b ob e;have hfree:H5 s3.heap.objs.size=none:=I6.free;refine(I6.hok b ob e).stay (λc w' hc q=>(hs.2 c ?_).trans q) (λ_ q=>q) λ_ _ q=>q;intro z;rcases hc with hc|hc
  .rw[<- hc,z,hfree]at e;cases e
  .rw[z,hfree]at hc;cases hc
 .intro b hb;obtain⟨_,a2,_,a4,a5,a6⟩:=f3 b hb;exact⟨a4,a2,a5,a6⟩
def Vo{i:Nat}{y:Str}{elt tg iter:Expr}{ifs:List Expr}{scope:Scope}{pos spos py:Pos}{loc fr:List Str}{ix:List Nat}{wi:TI}{g:TG}{tf:TT}{te:TE}(hN:X.N.Nodup)(hiN:X.N[i]?=some y)(hy:X.env.scope.names.lookup y=some .local)
 (hc:X.calm=true) (S:CSc X scope fr ix) (hi:PI X tg iter wi)
 (hg:∀s H ex,PG (cCx X (loc++fr) scope s H ex) tg g) (hf:∀s H ex,PF (cCx X (loc++fr) scope s H ex) ifs tf) (he:∀s H ex,PE (cCx X (loc++fr) scope s H ex) elt te)
 (hsw:swapsWith (.ListComp elt [⟨tg,iter,ifs,0⟩] scope pos) (some (.Name y py)) spos.line X.env=pure true:=by rfl) (hs:∀x,foldedSetIterable iter X.env x=pure x:=by intro _;rfl):
 PS X (.Assign [.Name y py] (.ListComp elt [⟨tg,iter,ifs,0⟩] scope pos) spos) (DL (Fq loc.length ix wi g tf te) (Co i)):=by
 intro pins s σ H D I h;have hnames:∀y∈scope.names,y.2=.local->scope.names.lookup y.1=some .local:=λy hy e=>by
  have:=all_eq_true.mp S.loc y hy;rw[e]at this;simpa using this
 rw[exec_Assign_Name_used _ _ _ _ hsw];refine wpAny_bind (wpAny_standAt (wpAny_bind ?_));show wpAny _ _ (do let _ <- comprehension (.ListComp elt [⟨tg,iter,ifs,0⟩] scope pos) scope X.env _ (newList []) false (eval iter X.env) (some (assign (.Name y py) X.env))) _ _ s;refine wpAny_bind (wpAny_mono (wpAny_comprehension_free (use:=some (assign (.Name y py) X.env)) (Q:=λ_ s'=>SP X pins D .next s') rfl hs (CJ (S.clos I.ok)) S.kind hnames
  (thn (hi pins s σ H _ I h) λv s1 h1=>thn h1 λitv s2 h2=>?_)) (λ_ s' hq=>wpAny_pure (wpAny_pure hq)) λ_ _ e=>e)
 obtain⟨it,fp,tn,J,H2,rfl,I2,T,st2,f2,hW⟩:=h2;refine PQ (RR:=λacc C=>compPost (model X.prog X.w) X.A X.xe (some (assign (.Name y py) X.env)) (λ_ s'=>SP X pins D .next s') acc C) hc S hg hf he I2 T st2 f2 hW λs3 s6 H5 σ5 L I3 I6 f3 q=>?_;have J6:Inv X pins σ H5 s6:=FT (h'':=s6.heap) I3 I6 f3 (.refl ..);obtain⟨m,hm,_⟩:=I6.loc;have hm:s6.heap.Ns s3.heap.objs.size m:=hm;have hL:s3.heap.objs.size≠X.env.locals:=Ne.symm (ne_of_lt I3.lt);show wpAny _ _ (assign (.Name y py) X.env (.ref L)) _ _ s6;refine wpAny_assign_Name (Gf (v:=.ref L) J6 hN hiN (.inl hy) rfl (λs7 I7 ⟨a,sb,ha⟩=>?_) (.inr hy));have hca:s3.heap.objs.size≠a:=by
  rcases ha with rfl|ha
  .exact hL
  .obtain⟨v,z⟩:=I3.cell y a ha;exact Ne.symm (ne_of_lt z.lt)
 refine⟨m,hm.sameBut sb hca,λh' hs'=>?_⟩;refine⟨_,H5,I7.turned (t':=s7.toks) (it:=s3.heap.objs.size) (λb o hb e=>(hs'.2 b hb).trans e) I6.free hL (.inr I3.sz) (λx c e z=>?_) (λp hp z=>?_),q⟩
 .obtain⟨v,w⟩:=I3.cell x c e;exact absurd w.lt (by rw[z];exact lt_irrefl _)
 .exact absurd (Heap.lt_size (I3.pin p hp).1) (by rw[z];exact lt_irrefl _)
end
mutual
def Rep(K:PySem.W.Frag)(H:Hp):PyData->V->Prop
 |.none,v=>v=.non
 |.bool b,v=>v=.bl b
 |.int i,v=>v=.int i
 |.str x,v=>v=.str x
 |.list ds,v=>∃a xs,v=.ref a/\SqL K H a xs/\CK K H ds xs
 |.tuple ds,v=>∃a xs,v=.ref a/\SqT K H a xs/\CK K H ds xs
 |.dict _,_=>False
def CK(K:PySem.W.Frag)(H:Hp):List PyData->List V->Prop
 |[],xs=>xs=[]
 |d::ds,xs=>∃x r,xs=x::r/\Rep K H d x/\CK K H ds r
end
section
variable{X:Cx}{pins:List (Addr×Obj)}{σ:St}{H:Hp}{s:Shared}
mutual
def E3(I:Inv X pins σ H s):∀(d:PyData) (v:V) (u:Value),Rep X.K H d v->RelV v u->∃as,Reads s.heap u d as
 |.none,v,u,h,r=>by
  have h:v=.non:=by simpa only[Rep]using h
  subst h;cases r;exact⟨_,.none⟩
 |.bool b,v,u,h,r=>by
  have h:v=.bl b:=by simpa only[Rep]using h
  subst h;cases r;exact⟨_,.bool b⟩
 |.int i,v,u,h,r=>by
  have h:v=.int i:=by simpa only[Rep]using h
  subst h;obtain⟨t,rfl⟩:=r;exact⟨_,.int i t⟩
 |.str x,v,u,h,r=>by
  have h:v=.str x:=by simpa only[Rep]using h
  subst h;obtain⟨t,rfl⟩:=r;exact⟨_,.str x t⟩
 |.list ds,v,u,h,r=>by
  have h:∃a xs,v=.ref a/\SqL X.K H a xs/\CK X.K H ds xs:=by simpa only[Rep]using h
  obtain⟨a,xs,rfl,hq,ha⟩:=h;cases r;obtain⟨its,rv,⟨o,n,e,c,_,dd⟩,hz⟩:=I.list hq;obtain⟨as,q⟩:=El I ds xs its ha rv;exact⟨_,.list e c dd (by simpa using q)⟩
 |.tuple ds,v,u,h,r=>by
  have h:∃a xs,v=.ref a/\SqT X.K H a xs/\CK X.K H ds xs:=by simpa only[Rep]using h
  obtain⟨a,xs,rfl,hq,ha⟩:=h;cases r;obtain⟨its,rv,⟨o,e,c,n,dd⟩,hz⟩:=I.tuple hq;obtain⟨as,q⟩:=El I ds xs its ha rv;exact⟨_,.tuple e c dd (by simpa using q)⟩
 |.dict _,v,u,h,r=>by
  have h:False:=by simpa only[Rep]using h
  exact h.elim
def El(I:Inv X pins σ H s):∀(ds:List PyData) (xs:List V) (us:List Value),CK X.K H ds xs->Vals xs us->∃as,ReadsAll s.heap us ds as
 |[],xs,us,h,r=>by
  have h:xs=[]:=by simpa only[CK]using h
  subst h;cases r;exact⟨_,.nil⟩
 |d::ds,xs,us,h,r=>by
  have h:∃x r,xs=x::r/\Rep X.K H d x/\CK X.K H ds r:=by simpa only[CK]using h
  obtain⟨x,rr,rfl,h1,h2⟩:=h;cases r with
  |cons r1 r2=>
   obtain⟨as,q1⟩:=E3 I d _ _ h1 r1;obtain⟨bs,q2⟩:=El I ds _ _ h2 r2;exact⟨_,.cons q1 q2⟩
end
end
structure Grow(H H':Hp):Prop where
 tup:∀b xs,H b=some (.tup xs)->H' b=some (.tup xs)
 frz:∀b o u,H b=some (.frz o u)->H' b=some (.frz o u)
def Grow.refl{H:Hp}:Grow H H:=⟨λ_ _ h=>h,λ_ _ _ h=>h⟩
def Chg(H:Hp)(p:Addr):Prop:=(∀xs,H p≠some (.tup xs))/\∀o u,H p≠some (.frz o u)
def Grow.put{H H':Hp}{p:Addr}{o:HO}(a:Grow H H')(h:Chg H' p):Grow H (upd H' p o):=⟨λc xs e=>by
 have q:=a.tup c xs e;have n:c≠p:=λz=>h.1 xs (by rw[<- z];exact q);rw[AB n];exact q,λc z u e=>by
 have q:=a.frz c z u e;have n:c≠p:=λw=>h.2 z u (by rw[<- w];exact q);rw[AB n];exact q⟩
def Chg.lst{H:Hp}{p:Addr}{xs:List V}(h:H p=some (.lst xs)):Chg H p:=⟨(λ_ e=>by rw[h]at e;cases e),(λ_ _ e=>by rw[h]at e;cases e)⟩
def Grow.sq{K:PySem.W.Frag}{H H':Hp}{a:Addr}{xs:List V}(g:Grow H H')(h:SqT K H a xs):SqT K H' a xs:=by
 rcases h with(h|⟨o,h⟩)|h
 .exact .inl (.inl (g.tup _ _ h))
 .exact .inl (.inr ⟨o,g.frz _ _ _ h⟩)
 .exact .inr h
section
variable{X:Cx}
def Sa(K:PySem.W.Frag):R2:=λx y H Q=>∃d e,Rep K H d x/\Rep K H e y/\d.canLay0=true/\e.canLay0=true/\min d.depth e.depth<=60/\Q (.bl (!PyData.eqv d e)) H
def Sc(K:PySem.W.Frag):R2:=λx y H Q=>∃d e,Rep K H d x/\Rep K H e y/\d.canLay0=true/\e.canLay0=true/\min d.depth e.depth<=60/\Q (.bl (PyData.eqv d e)) H
def Z0(hu:X.A.units+64<cLine):OpR X (compareOp .NotEq) (Sa X.K):=by
 intro pins s σ H x y v u Q I rx ry h;obtain⟨d,e,h1,h2,c1,c2,hm,q⟩:=h;obtain⟨as,q1⟩:=E3 I d x v h1 rx;obtain⟨bs,q2⟩:=E3 I e y u h2 ry;exact PySem.SeqAt.compareNe_reads q1 q2 c1 c2 (by omega) ⟨.bl _,H,I,rfl,q⟩
def Z3(hu:X.A.units+64<cLine):OpR X (compareOp .Eq) (Sc X.K):=by
 intro pins s σ H x y v u Q I rx ry h;obtain⟨d,e,h1,h2,c1,c2,hm,q⟩:=h;obtain⟨as,q1⟩:=E3 I d x v h1 rx;obtain⟨bs,q2⟩:=E3 I e y u h2 ry;exact PySem.SeqAt.compareEq_reads q1 q2 c1 c2 (by omega) ⟨.bl _,H,I,rfl,q⟩
def EZ:∀{ns:List Int} {us:List Value},Vals (ns.map V.int) us->IntsAre us ns
 |[],_,.nil=>.nil
 |n::ns,_,.cons r t=>by obtain⟨k,rfl⟩:=r;exact .cons _ _ (EZ t)
def RP(hc:X.calm=true):CallR X (.builtin "sum") (λxs H Q=>∃(a:Addr) (ns:List Int),xs=[.ref a]/\SqL X.K H a (ns.map V.int)/\Q (.int ns.sum) H):=by
 intro pins s σ H xs us Q I r h;obtain⟨a,ns,rfl,hq,q⟩:=h;obtain⟨u,rfl,ru⟩:=CT r;cases ru;obtain⟨its,rv,p,hz⟩:=I.list hq;have hi:=EZ rv;obtain⟨xs,hx⟩:=hi.allInts.items;have hl':s.heap.IsList a (intItems xs):=hx ▸ p.isList;refine sum_intListG (I.ok.hd hc) hl' λh' tk t' hk=>?_;have e1:ns=xs.toList.map (·.1):=by
  rw[<- nums_intItems,<- hx];exact(show numsOf its.toArray.toList=ns from hi.numsOf).symm
 have e2:preSum (numAt xs) xs.size=ns.sum:=by
  rw[preSum_eq,take_of_length_le (by simp),e1]
 rw[e2];exact⟨.int ns.sum,H,I.kept hk,⟨_,rfl⟩,q⟩
end
end L2
namespace L2
open PySem PySem.Spec PyProof.Rows
section
variable(K:PySem.W.Frag){X:Cx}
def MV(hK:X.K=K:=by rfl):IxR X (Jh K):=by subst hK;exact We
def Nr(hK:X.K=K:=by rfl):IxR X (Sb K):=by subst hK;exact ZF
def SC(hK:X.K=K:=by rfl):SlR X (Oe K):=by subst hK;exact Ur
def Qa(hK:X.K=K:=by rfl):OpR X (compareOp .NotIn) (rIn K true):=by subst hK;exact M4
def Nh(hu:X.A.units+64<cLine)(hK:X.K=K:=by rfl):OpR X (compareOp .Eq) (Sc K):=by subst hK;exact Z3 hu
def Jj(hu:X.A.units+64<cLine)(hK:X.K=K:=by rfl):OpR X (compareOp .NotEq) (Sa K):=by subst hK;exact Z0 hu
def M5(hK:X.K=K:=by rfl):OpR X (binaryOp .Add) (Og K):=by subst hK;exact WG
def Xu:List V->Hp->VK->Prop:=λxs H Q=>∃p ys,xs=[.ref p]/\(SqL K H p ys∨SqT K H p ys)/\Q (.int ys.length) H
def RU(hK:X.K=K:=by rfl):CallR X (.builtin "len") (Xu K):=by subst hK;exact Mp
def Jg:List V->Hp->VK->Prop:=λxs H Q=>∃p ys,xs=[.ref p]/\(SqL K H p ys∨SqT K H p ys)/\∀l,H l=none->Q (.ref l) (upd H l (.lst ys))
def PU(hK:X.K=K:=by rfl):CallR X (.type "list") (Jg K):=by subst hK;exact Mo
def Lv:List V->Hp->VK->Prop:=λxs H Q=>∃p ys,xs=[.ref p]/\((SqL K H p ys/\∀l,H l=none->Q (.ref l) (upd H l (.tup ys)))∨(SqT K H p ys/\Q (.ref p) H))
def Hv(hK:X.K=K:=by rfl):CallR X (.type "tuple") (Lv K):=by subst hK;exact L0
def UF:List V->Hp->VK->Prop:=λxs H Q=>∃(a:Addr) (ns:List Int),xs=[.ref a]/\SqL K H a (ns.map V.int)/\Q (.int ns.sum) H
def Kc(hc:X.calm=true)(hK:X.K=K:=by rfl):CallR X (.builtin "sum") (UF K):=by subst hK;exact RP hc
def T4{tg l:Expr}{tl:TE}(hl:PE X l tl)(hK:X.K=K:=by rfl):PI X tg l (LN K tl):=by subst hK;exact W0 hl
def Vz{tg l:Expr}{tl:TE}(hl:PE X l tl)(hK:X.K=K:=by rfl):PI X tg l (P3 K tl):=by subst hK;exact Ye hl
def W2{pos:Pos}{es:List Expr}{k:Nat}{t:TGs}{n:Nat}(hc:X.calm=true)(h:PGs X es t)(hK:X.K=K:=by rfl)
 (hn:(assignEach es X.env).length=n:=by rfl) (hst:(assignEach es X.env).findIdx? (·.1)=none:=by rfl):PG X (.Tuple es k pos) (P9 K n t):=by
 subst hK;exact Yg hc h hn hst
end
section
variable(K:PySem.W.Frag){X:Cx}
def HJ:∀{bs:List Bool} {us:List Value} {i:Nat} {v:Value},Vals (bs.map V.bl) us->us[i]?=some v->∃b,bs[i]?=some b/\v=.bool b
 |[],_,_,_,.nil,e=>by simp at e
 |b::bs,_,0,_,.cons r _,e=>by simp at e;subst e;exact⟨b,rfl,r⟩
 |b::bs,_,i+1,_,.cons _ t,e=>by
  obtain⟨c,h1,h2⟩:=HJ (i:=i) t (by simpa using e);exact⟨c,by simpa using h1,h2⟩
def Xw:List V->Hp->VK->Prop:=λxs H Q=>∃(a:Addr) (bs:List Bool),xs=[.ref a]/\SqL K H a (bs.map V.bl)/\Q (.bl (bs.all id)) H
def Xv:List V->Hp->VK->Prop:=λxs H Q=>∃(a:Addr) (bs:List Bool),xs=[.ref a]/\SqL K H a (bs.map V.bl)/\Q (.bl (bs.any id)) H
def Kh(hc:X.calm=true)(hK:X.K=K:=by rfl):CallR X (.builtin "all") (Xw K):=by
 subst hK;intro pins s σ H xs us Q I r h;obtain⟨a,bs,rfl,hq,q⟩:=h;obtain⟨u,rfl,ru⟩:=CT r;cases ru;obtain⟨its,rv,p,hz⟩:=I.list hq;have hl:=p.isList;have hlen:=rv.length;have hlt:a<s.heap.objs.size:=by obtain⟨_,e,_⟩:=hl;exact Heap.lt_size e
 refine call_all_walk (wpAny_pyIter_list hl ?_);refine⟨s.heap.objs.size,[s.heap.objs.size,a],[s.heap.objs.size],its.toArray.size,_,_,λi=>(bs[i]?).getD true,rfl,Walks.list (A:=X.A.in1) (I.ok.hd hc) _ a (ne_of_lt hlt) its.toArray,
  ⟨⟨_,Heap.get?_push_size _ rfl,rfl,rfl⟩,hl.push _⟩,λi v s' Q' E' hP hQ=>?_,λh' tk hk=>?_⟩
 .obtain⟨b,e,rfl⟩:=HJ rv (by simpa using hP);simp only[e,Option.getD_some]at hQ;exact wpAny_truthy_bool hQ
 .have e:((List.range its.toArray.size).all λi=>(bs[i]?).getD true)=bs.all id:=by
   rw[size_toArray,<- hlen,length_map];exact LSm.range_all bs
  rw[e];exact⟨.bl _,H,I.kept (LSm.kept_iter hk),rfl,q⟩
def Kg(hc:X.calm=true)(hK:X.K=K:=by rfl):CallR X (.builtin "any") (Xv K):=by
 subst hK;intro pins s σ H xs us Q I r h;obtain⟨a,bs,rfl,hq,q⟩:=h;obtain⟨u,rfl,ru⟩:=CT r;cases ru;obtain⟨its,rv,p,hz⟩:=I.list hq;have hl:=p.isList;have hlen:=rv.length;have hlt:a<s.heap.objs.size:=by obtain⟨_,e,_⟩:=hl;exact Heap.lt_size e
 refine call_any_walk (wpAny_pyIter_list hl ?_);refine⟨s.heap.objs.size,[s.heap.objs.size,a],[s.heap.objs.size],its.toArray.size,_,_,λi=>(bs[i]?).getD false,rfl,Walks.list (A:=X.A.in1) (I.ok.hd hc) _ a (ne_of_lt hlt) its.toArray,
  ⟨⟨_,Heap.get?_push_size _ rfl,rfl,rfl⟩,hl.push _⟩,λi v s' Q' E' hP hQ=>?_,λh' tk hk=>?_⟩
 .obtain⟨b,e,rfl⟩:=HJ rv (by simpa using hP);simp only[e,Option.getD_some]at hQ;exact wpAny_truthy_bool hQ
 .have e:((List.range its.toArray.size).any λi=>(bs[i]?).getD false)=bs.any id:=by
   rw[size_toArray,<- hlen,length_map];exact LSm.range_any bs
  rw[e];exact⟨.bl _,H,I.kept (LSm.kept_iter hk),rfl,q⟩
def UI:List V->Hp->VK->Prop:=λxs H Q=>∃(a:Addr) (ns:List Int),xs=[.ref a]/\SqL K H a (ns.map V.int)/\0<ns.length/\∀M:Int,M∈ns->(∀x∈ns,x<=M)->Q (.int M) H
def Kf(hc:X.calm=true)(hK:X.K=K:=by rfl):CallR X (.builtin "max") (UI K):=by
 subst hK;intro pins s σ H xs us Q I r h;obtain⟨a,ns,rfl,hq,hne,q⟩:=h;obtain⟨u,rfl,ru⟩:=CT r;cases ru;obtain⟨its,rv,p,hz⟩:=I.list hq;have hi:=EZ rv;obtain⟨ys,e⟩:=hi.allInts.items;have hns:ns=ys.toList.map (·.1):=by
  rw[<- hi.numsOf,<- nums_intItems,<- e]
 have hsz:0<ys.size:=by
  have h3:=hne;rw[hns,length_map,Array.length_toList]at h3;exact h3
 have hl:=p.isList;rw[e]at hl;refine max_intList (I.ok.hd hc) hl hsz λv h' tk hv hk=>?_;obtain⟨t,rfl⟩:=intItems_at hv;obtain⟨h1,h2⟩:=argBest_gt (numAt ys) (ys.size-1);refine⟨.int _,H,I.kept hk,⟨t,rfl⟩,q _ ?_ λx hx=>?_⟩
 .rw[hns,numAt_eq];exact getD_mem (by rw[length_map,Array.length_toList];omega)
 .rw[hns]at hx;obtain⟨j,hj,rfl⟩:=mem_getD hx;rw[length_map,Array.length_toList]at hj;rw[<- numAt_eq];exact h2 j (by omega)
def UG:List V->Hp->VK->Prop:=λxs H Q=>∃(a:Addr) (ns:List Int),xs=[.ref a]/\SqL K H a (ns.map V.int)/\0<ns.length/\∀M:Int,M∈ns->(∀x∈ns,M<=x)->Q (.int M) H
def Ke(hc:X.calm=true)(hK:X.K=K:=by rfl):CallR X (.builtin "min") (UG K):=by
 subst hK;intro pins s σ H xs us Q I r h;obtain⟨a,ns,rfl,hq,hne,q⟩:=h;obtain⟨u,rfl,ru⟩:=CT r;cases ru;obtain⟨its,rv,p,hz⟩:=I.list hq;have hi:=EZ rv;obtain⟨ys,e⟩:=hi.allInts.items;have hns:ns=ys.toList.map (·.1):=by
  rw[<- hi.numsOf,<- nums_intItems,<- e]
 have hsz:0<ys.size:=by
  have h3:=hne;rw[hns,length_map,Array.length_toList]at h3;exact h3
 have hl:=p.isList;rw[e]at hl;refine min_intList (I.ok.hd hc) hl hsz λv h' tk hv hk=>?_;obtain⟨t,rfl⟩:=intItems_at hv;obtain⟨h1,h2⟩:=argBest_lt (numAt ys) (ys.size-1);refine⟨.int _,H,I.kept hk,⟨t,rfl⟩,q _ ?_ λx hx=>?_⟩
 .rw[hns,numAt_eq];exact getD_mem (by rw[length_map,Array.length_toList];omega)
 .rw[hns]at hx;obtain⟨j,hj,rfl⟩:=mem_getD hx;rw[length_map,Array.length_toList]at hj;rw[<- numAt_eq];exact h2 j (by omega)
end
section
variable{prog:Program}{w:World}{A:Around}{E:Value->Shared->Prop}{s:Shared}{l:Addr}{xs:Array (Int×Tok)}
def GY{Q:Value->Shared->Prop}(hl:s.heap.IsTuple l (intItems xs))
 (h:∀s₂:Shared,s₂={ s with heap:=s.heap.push { cls:=.type "tuple_iterator",data:=.fields #[.ref l,.int 0 0] } } ->
  (s₂.heap.IsTupleIter s.heap.objs.size l 0/\s₂.heap.IsTuple l (intItems xs))->(∀b∈[s.heap.objs.size,l],b<s₂.heap.objs.size)->l≠s.heap.objs.size->Q (.ref s.heap.objs.size) s₂):
 wpAny (model prog w) A (pyIter (.ref l)) Q E s:=by
 have hlt:l<s.heap.objs.size:=by obtain⟨_,e,_⟩:=hl;exact Heap.lt_size e
 refine wpAny_pyIter_tuple hl (h _ rfl ⟨⟨_,Heap.get?_push_size _ rfl,rfl,rfl⟩,hl.push _⟩ (λb hb=>?_) (ne_of_lt hlt));show b<(s.heap.push _).objs.size;rw[Heap.size_push];rcases mem_cons.mp hb with rfl|hb
 .exact Nat.lt_succ_self _
 .rcases mem_cons.mp hb with rfl|hb
  .exact lt_succ_of_lt hlt
  .cases hb
def KK{h':Heap}{o:Obj}(hk:∀b x,b∉[s.heap.objs.size]->(s.heap.push o).get? b=some x->h'.get? b=some x):∀b x,s.heap.get? b=some x->h'.get? b=some x:=
 λb x e=>hk b x (λhm=>by rw[mem_singleton.mp hm]at e;exact lt_irrefl _ (Heap.lt_size e)) (Heap.get?_push_of_some _ e)
def LZ{Q:Value->Shared->Prop}(hh:A.handled=none)(hl:s.heap.IsTuple l (intItems xs))
 (h:∀h' tk t',(∀b o,s.heap.get? b=some o->h'.get? b=some o)->Q (.int (preSum (numAt xs) xs.size) t') { s with heap:=h',toks:=tk }):
 wpAny (model prog w) A (call (.builtin "sum") [.ref l]) Q E s:=by
 refine call_sum_walkG (GY hl λs₂ e st hfp hlI=>?_);subst e;refine⟨_,_,_,_,_,_,numAt xs,rfl,Walks.tuple (A:=A.in1) hh _ l hlI (intItems xs),st,hfp,(λ_ _=>intItems_at),λh' tk t' hk=>?_⟩;have:=h h' tk t' (KK hk);simpa [intItems]using this
def MB{Q:Value->Shared->Prop}(hh:A.handled=none)(hl:s.heap.IsTuple l (intItems xs))(hne:0<xs.size)
 (h:∀v h' tk,(intItems xs)[argBest (λi j=>decide (numAt xs i>numAt xs j)) (xs.size-1)]?=some v->(∀b o,s.heap.get? b=some o->h'.get? b=some o)->Q v { s with heap:=h',toks:=tk }):
 wpAny (model prog w) A (call (.builtin "max") [.ref l]) Q E s:=by
 refine call_max_walk (GY hl λs₂ e st hfp hlI=>?_);subst e;refine⟨_,_,_,_,_,_,_,rfl,Walks.tuple (A:=A.in1) hh _ l hlI (intItems xs),st,hfp,by simpa [intItems]using hne,CmpOf.ints_gt (numAt xs) (λ_ _=>intItems_at),λv h' tk hP hk=>?_⟩;exact h v h' tk (by simpa [intItems]using hP) (KK hk)
end
section
variable(K:PySem.W.Frag){X:Cx}
def UE:List V->Hp->VK->Prop:=λxs H Q=>∃(a:Addr) (ns:List Int),xs=[.ref a]/\SqT K H a (ns.map V.int)/\Q (.int ns.sum) H
def JN(hc:X.calm=true)(hK:X.K=K:=by rfl):CallR X (.builtin "sum") (UE K):=by
 subst hK;intro pins s σ H xs us Q I r h;obtain⟨a,ns,rfl,hq,q⟩:=h;obtain⟨u,rfl,ru⟩:=CT r;cases ru;obtain⟨its,rv,p,hz⟩:=I.tuple hq;have hi:=EZ rv;obtain⟨xs,hx⟩:=hi.allInts.items;have hl':s.heap.IsTuple a (intItems xs):=hx ▸ (show s.heap.IsTuple a its.toArray from p);refine LZ (I.ok.hd hc) hl' λh' tk t' hk=>?_;have e1:ns=xs.toList.map (·.1):=by
  rw[<- nums_intItems,<- hx];exact(show numsOf its.toArray.toList=ns from hi.numsOf).symm
 have e2:preSum (numAt xs) xs.size=ns.sum:=by
  rw[preSum_eq,take_of_length_le (by simp),e1]
 rw[e2];exact⟨.int ns.sum,H,I.kept hk,⟨_,rfl⟩,q⟩
def UH:List V->Hp->VK->Prop:=λxs H Q=>∃(a:Addr) (ns:List Int),xs=[.ref a]/\SqT K H a (ns.map V.int)/\0<ns.length/\∀M:Int,M∈ns->(∀x∈ns,x<=M)->Q (.int M) H
def JO(hc:X.calm=true)(hK:X.K=K:=by rfl):CallR X (.builtin "max") (UH K):=by
 subst hK;intro pins s σ H xs us Q I r h;obtain⟨a,ns,rfl,hq,hne,q⟩:=h;obtain⟨u,rfl,ru⟩:=CT r;cases ru;obtain⟨its,rv,p,hz⟩:=I.tuple hq;have hi:=EZ rv;obtain⟨ys,e⟩:=hi.allInts.items;have hns:ns=ys.toList.map (·.1):=by
  rw[<- hi.numsOf,<- nums_intItems,<- e]
 have hsz:0<ys.size:=by
  have h3:=hne;rw[hns,length_map,Array.length_toList]at h3;exact h3
 have hl:s.heap.IsTuple a (intItems ys):=e ▸ (show s.heap.IsTuple a its.toArray from p);refine MB (I.ok.hd hc) hl hsz λv h' tk hv hk=>?_;obtain⟨t,rfl⟩:=intItems_at hv;obtain⟨h1,h2⟩:=argBest_gt (numAt ys) (ys.size-1);refine⟨.int _,H,I.kept hk,⟨t,rfl⟩,q _ ?_ λx hx=>?_⟩
 .rw[hns,numAt_eq];exact getD_mem (by rw[length_map,Array.length_toList];omega)
 .rw[hns]at hx;obtain⟨j,hj,rfl⟩:=mem_getD hx;rw[length_map,Array.length_toList]at hj;rw[<- numAt_eq];exact h2 j (by omega)
end
structure DefAt(K:PySem.W.Frag)(mg:Str->Option Value)(x:Str)(st:Stmt)(f:Addr)(fd:FuncData)(ps:List Str):Prop where
 fn:Fun K x x st f fd
 mg:mg x=some (.ref f)
 bd:Binds K fd ps []
def UN{X:Cx}{j k:Nat}{f:Addr}{fd:FuncData}{ps:List Str}{sp:Sp}{x:Str}{st:Stmt}{e:Expr}{es:List Expr}{t:TA}{p pos:Pos}(F:FnOk X.prog X.w X.K X.mg X.base CX0 j f fd ps sp)(hr:Room k X.A)(D:DefAt X.K X.mg x st f fd ps)(ha:PA X (e::es) t)
 (hjk:j<=k:=by decide) (hg:Gl X x:=by rfl) (hdb:(x==("__debug__":Str))=false:=by decide) (he:starEach (e::es) X.env=(false,eval e X.env)::starEach es X.env:=by rfl) (hpl:(backTo pos (starEach es X.env)).any (·.1)=false:=by rfl):
 PE X (.Call (.Name x p) (e::es) [] pos) (Ey sp [] E0 t):=
 W8 (F.mono hjk) hr hg D.mg D.fn.kp D.bd .nil aN ha hdb he hpl
def O5:bootBuiltins "list"=some (.type "list"):=by decide +kernel
def bt_tuple:bootBuiltins "tuple"=some (.type "tuple"):=by decide +kernel
def bt_len:bootBuiltins "len"=some (.builtin "len"):=by decide +kernel
def bt_sum:bootBuiltins "sum"=some (.builtin "sum"):=by decide +kernel
def bt_min:bootBuiltins "min"=some (.builtin "min"):=by decide +kernel
def bt_max:bootBuiltins "max"=some (.builtin "max"):=by decide +kernel
def Kj:bootBuiltins "sorted"=some (.builtin "sorted"):=by decide +kernel
def bt_all:bootBuiltins "all"=some (.builtin "all"):=by decide +kernel
def bt_any:bootBuiltins "any"=some (.builtin "any"):=by decide +kernel
def L3:bootBuiltins "isinstance"=some (.builtin "isinstance"):=by decide +kernel
mutual
def FQ:∀ns:List Int,PyData.canLayAll0 (ns.map PyData.int)=true
 |[]=>by simp[PyData.canLayAll0]
 |n::ns=>by simp[PyData.canLayAll0,PyData.canLay0,FQ ns]
end
end L2
namespace L2
open PySem PySem.Spec PyProof.Rows PySem.W
def lCx(X:Cx)(A:Around)(N':List Str)(qual:Str)(scope:Scope)(f:Addr)(cd:Value)(cl:List (Str×Addr))(s:Shared)(H:Hp):Cx:=
 { X with N:=N',s₀:=s,H₀:=H,A:=A.deeper (envX qual scope s.heap.objs.size f cd cl),env:=envX qual scope s.heap.objs.size f cd cl,outer:=X.stack,stack:=envX qual scope s.heap.objs.size f cd cl::X.stack,ex:=[],fn:=λ_=>false,calm:=true,pn:=[],xe:=λ_ _=>False }
structure LSc(scope:Scope)(p:Str):Prop where
 nocell:(scope.names.all λy=>y.2 != .cell)=true
 par:scope.names.lookup p=some .local
 co:scope.isCoroutine=false
 gen:scope.isGenerator=false
section
variable{X:Cx}{scope:Scope}{fr:List Str}{ix:List Nat}{pins:List (Addr×Obj)}{σ:St}{H:Hp}{s:Shared}{p:Str}
def LSc.ne(L:LSc scope p):∀y∈scope.names,y.2≠.cell:=λy hy e=>by
 have:=all_eq_true.mp L.nocell y hy;rw[e]at this
 revert this;decide
def Wh(S:CSc X scope fr ix)(L:LSc scope p)(I:Inv X pins σ H s){A:Around}(hf:A.frames=X.A.frames)(hh:A.handled=none){qual:Str}{f:Addr}{cd:Value}{h':Heap}{x:V}{u:Value}{t':Nat}
 (hk:∀b o,s.heap.get? b=some o->h'.get? b=some o) (hn:h'.Ns s.heap.objs.size λy=>if y=p then some u else none) (r:RelV x u):
 Inv (lCx X A (p::fr) qual scope f cd (Aa X.env.cells scope.names []) s H) [] (some x::ix.map λi=>(σ[i]?).join) H { s with heap:=h',toks:=t' }:=by
 have lenix:fr.length=ix.length:=by simpa using congrArg List.length S.ixs
 have co:∀x c,(Aa X.env.cells scope.names []).lookup x=some c->X.env.cells.lookup x=some c:=λx c e=>DY (S.clos I.ok) (λ_ _ z=>by simp at z) x c e;refine⟨⟨I.ok.mod,S.kind,rfl,rfl,le_refl _,?_,?_,?_,λ_=>hh,Around.frames_deeper (hf.trans I.ok.frames),.inr ⟨rfl,rfl⟩,?_,I.bs,le_trans I.ok.bsz I.sz,?_,?_,I.stack,I.stkFree⟩,rfl,I.bare,Un.kept hk,⟨_,hn,?_⟩,?_,I.hok.fresh (le_refl _),?_,?_,I.hok.kept hk,?_⟩
 .intro x y c e1 e2;exact I.ok.inj x y c (co x c e1) (co y c e2)
 .intro x hx;rcases hx with e|e
  .exact absurd rfl (L.ne (x,.cell) (PySem.mem_of_lookup e))
  .exact isSome_iff_exists.mp (Cq (.inr (PySem.mem_of_lookup e)))
 .intro x c hf;cases hf
 .intro b hb;cases hb
 .intro b o e hb;cases hb
 .intro b hb;cases hb
 .intro i y v e1 e2 e3;cases i with
  |zero=>
   have e1:some p=some y:=e1;have e2:some (some x)=some (some v):=e2;cases e1;cases e2;exact⟨u,r,.inl ⟨L.par,if_pos rfl⟩⟩
  |succ j=>
   have e1:fr[j]?=some y:=e1;have e2:(ix.map λi=>(σ[i]?).join)[j]?=some (some v):=e2;rw[List.getElem?_map]at e2;have e4:(fr.map some)[j]?=some (some y):=by rw[List.getElem?_map,e1];rfl
   rw[S.ixs,List.getElem?_map]at e4;cases q:ix[j]? with
   |none=>rw[q]at e2;cases e2
   |some k=>
    rw[q]at e2 e4;have e2:(σ[k]?).join=some v:=Option.some.inj e2;have e4:X.N[k]?=some y:=Option.some.inj e4;have e5:σ[k]?=some (some v):=by
     cases w:σ[k]? with
     |none=>rw[w]at e2;cases e2
     |some z=>rw[w]at e2;simpa using e2
    have hfx:=all_eq_true.mp S.frs y (mem_of_getElem? e1);have hfx:scope.names.lookup y=some .free:=by simpa using hfx
    have hmem:=PySem.mem_of_lookup hfx;have hout:=S.outer hmem rfl;obtain⟨m,hm,hl⟩:=I.loc;obtain⟨u',r',l⟩:=hl k y v e4 e5 (.inr hout);refine⟨u',r',.inr ⟨.inr hfx,?_⟩⟩;rcases l with⟨kk,_⟩|⟨kk,c,ec,z⟩
    .rcases hout with w|w
     .rw[kk]at w;cases w
     .rw[kk]at w;cases w
    .obtain⟨d,hd⟩:=isSome_iff_exists.mp (Cq (cells:=X.env.cells) (acc:=[]) (.inr hmem));have:=co y d hd;rw[ec]at this;cases this;exact⟨c,hd,z.keeps hk⟩
 .intro x c e;obtain⟨v,z⟩:=I.cell x c (co x c e);exact⟨v,z.keeps hk⟩
 .intro x c e;exact I.freeC x c (co x c e)
 .intro p hp;cases hp
 .show(_::_:List (Option V)).length=(p::fr).length;simp[lenix]
def TY(S:CSc X scope fr ix)(L:LSc scope p)(I:Inv X pins σ H s){A:Around}(hf:A.frames=X.A.frames)(hr:Room 1 A){qual:Str}{f:Addr}{cd ctv pm:Value}{params:Arguments}{body:Expr}{x:V}{u:Value}{tb:TE}{Q:VK}
 (ho:s.heap.get? f=some { cls:=.type "function",data:=.func (kla_fn "<lambda>" qual params body scope (Aa X.env.cells scope.names []) pm cd ctv) }) (hcd:s.heap.CodeRec cd qual)
 (hb:∀us:Value,bindArgs (kla_fn "<lambda>" qual params body scope (Aa X.env.cells scope.names []) pm cd ctv) ⟨[us],[]⟩=pure [(p,us)])
 (he:∀(s:Shared) (H:Hp),PE (lCx X A (p::fr) qual scope f cd (Aa X.env.cells scope.names []) s H) body tb) (r:RelV x u) (h:tb (some x::ix.map λi=>(σ[i]?).join) H Q):
 wpAny (model X.prog X.w) A (call (.ref f) [u]) (EP X pins σ Q) (λ_ _=>False) s:=by
 refine wpAny_call (codeAny_mono (R:=λres s'=>match res with|.ok (.ret u)=>EP X pins σ Q u s'|_=>False) (kla_callFunE hr.depth ho rfl L.co L.gen rfl hcd ?_) ?_)
 .rw[hb];refine wpAny_pure ?_;refine wpAny_newFunctionEnv L.ne (λy hy=>by rw[mem_singleton]at hy;subst hy;exact L.par) (λh' hns hsb=>⟨?_,?_⟩) S.kind
  .have hk:∀b o,s.heap.get? b=some o->h'.get? b=some o:=λb o e=>(hsb.2 b (ne_of_lt (Heap.lt_size e))).trans (Heap.get?_push_of_some _ e);exact I.nolimit.keeps hk
  .have hk:∀b o,s.heap.get? b=some o->h'.get? b=some o:=λb o e=>(hsb.2 b (ne_of_lt (Heap.lt_size e))).trans (Heap.get?_push_of_some _ e);have hns':h'.Ns s.heap.objs.size λy=>if y=p then some u else none:=by
    have e:(λy=>([(p,u)]:List (Str×Value)).reverse.lookup y)=λy=>if y=p then some u else none:=by
     funext y
     simp only[List.reverse_cons,List.reverse_nil,nil_append,lookup_cons,List.lookup_nil];by_cases hy:y=p
     .subst hy;simp
     .have hb':(y==p)=false:=beq_eq_false_iff_ne.mpr hy;simp[hb',hy]
    rw[<- e];exact hns
   have J:=Wh (t':=s.toks+1) (qual:=qual) (f:=f) (cd:=cd) S L I hf hr.hd hk hns' r;refine kla_codeExpr (wpAny_mono (he s H [] _ _ H Q J h) (λv s' hv=>?_) λ_ _ z=>z.elim);obtain⟨y,H',J',ry,q⟩:=hv;obtain⟨hh,g,d,t,os'⟩:=s';obtain rfl:os'=s.os:=J'.os;exact⟨y,H',I.call (h':=hh) (g':=g) (d':=d) (t':=t) (ch:=[]) J'.base J'.hok J'.bare (λb z=>absurd z (by simp)),ry,q⟩
 .intro res s' hq;cases res with
  |error e=>exact hq
  |ok fl=>
   cases fl with
   |ret u=>exact hq
   |next=>exact hq
   |brk=>exact hq
   |cont=>exact hq
end
def cdF(c:Addr)(q:Str):Heap->Prop:=λh=>h.CodeRec (.ref c) q
def JR(H:Hp)(q:Str)(pos:Pos)(ps:Array Value):Prop:=ps=#[]∨∃c,ps=#[rawInt pos.line,rawInt pos.col,.ref c]/\H c=some (.ext (cdF c q))
def TabStep(P:Addr)(q:Str)(pos:Pos)(H H':Hp):Prop:=H'=H∨∃c,H c=none/\c≠P/\H'=upd (upd H P (.tbl #[rawInt pos.line,rawInt pos.col,.ref c])) c (.ext (cdF c q))
structure LamAt(X:Cx)(c P:Addr):Prop where
 code:X.env.code=.ref c
 hd:CodeHd X.base c P
 bl:X.base.BuiltinsAt X.mg P
section
variable{X:Cx}{pins:List (Addr×Obj)}{σ:St}{H:Hp}{s:Shared}{c P:Addr}{scope:Scope}{fr:List Str}{ix:List Nat}
def Wg(I:Inv X pins σ H s){q:Str}{ps:Array Value}{ps':Array Value}(hP:H P=some (.tbl ps)){c':Addr}{h':Heap}{t':Nat}(hx:∀b o,b≠P->s.heap.get? b=some o->h'.get? b=some o)(hc:s.heap.objs.size<=c')
 (hrec:h'.CodeRec (.ref c') q) (htb:h'.get? P=some (tabObj (ps++ps'))):Inv X pins σ (upd (upd H P (.tbl (ps++ps'))) c' (.ext (cdF c' q))) { s with heap:=h',toks:=t' }:=by
 have hcn:H c'=none:=I.hok.fresh hc;have hPc:P≠c':=AO hP hcn;have nP:∀b,H b=none->b≠P:=λb n z=>by subst z;rw[hP]at n;cases n
 have other:∀b,b≠P->b≠c'->upd (upd H P (.tbl (ps++ps'))) c' (.ext (cdF c' q)) b=H b:=λb h1 h2=>by rw[AB h2,AB h1]
 have ne':∀b u,H b=some u->b≠c':=λb u e=>AO e hcn;refine I.un (h':=h') (t':=t') ⟨λb o e n _ _=>hx b o (nP b n) e,λb o e n _ _=>⟨o.slots,hx b o (nP b n) e⟩,λb o e n _=>?_,λb o e _=>?_,λb xs e=>?_,λb o u e=>?_,λb qs e=>?_⟩ λb u e=>?_
 .rw[other b (nP b n) (ne_of_lt (lt_of_lt_of_le (Heap.lt_size e) hc))];exact n
 .by_cases z:b=P
  .subst z;exact⟨_,htb⟩
  .exact⟨o,hx b o z e⟩
 .rw[other b (λz=>by subst z;rw[hP]at e;cases e) (ne' b _ e)];exact e
 .rw[other b (λz=>by subst z;rw[hP]at e;cases e) (ne' b _ e)];exact e
 .by_cases z:b=P
  .subst z;rw[hP]at e;cases e;exact⟨ps',by rw[AB hPc,AK]⟩
  .exact⟨#[],by rw[other b z (ne' b _ e),e];simp⟩
 .by_cases z:b=c'
  .subst z;rw[AK]at e;cases e;obtain⟨c0,o,vs,t,e0,r⟩:=id hrec;cases e0;refine⟨hrec,⟨o,r.1⟩,λh1 h2 q1 k=>?_⟩;obtain⟨c1,o1,vs1,t1,e1,g1,r1⟩:=q1;cases e1;exact⟨_,o1,vs1,t1,rfl,k _ g1,r1⟩
  .by_cases z2:b=P
   .subst z2;rw[AB hPc,AK]at e;cases e;exact htb
   .rw[other b z2 z]at e;refine(I.hok b u e).stay (λd v hd q=>hx d v ?_ q) (λd q=>?_) λd xs q=>?_
    .rcases hd with rfl|hd
     .exact z2
     .intro y;subst y;rw[hP]at hd;cases hd
    .rw[other d (λy=>by subst y;rw[hP]at q;cases q) (ne' d _ q)];exact q
    .rw[other d (λy=>by subst y;rw[hP]at q;cases q) (ne' d _ q)];exact q
structure Made(X:Cx)(scope:Scope)(params:Arguments)(body:Expr)(P:Addr)(q:Str)(pos:Pos)(s:Shared)(H H':Hp)(f:Addr)(cd ctv:Value)(s':Shared):Prop where
 fn:s'.heap.get? f=some { cls:=.type "function",data:=.func (kla_fn "<lambda>" q params body scope (Aa X.env.cells scope.names []) ((X.mg "__name__").getD .none) cd ctv) }
 cdc:∃c,cd=.ref c/\H' c=some (.ext (cdF c q))
 step:TabStep P q pos H H'
 new:s.heap.objs.size<=f
 fre:H' f=none
def TX(S:CSc X scope fr ix)(LA:LamAt X c P)(I:Inv X pins σ H s){A:Around}{E:Value->Shared->Prop}{params:Arguments}{body:Expr}{pos:Pos}{ps:Array Value}{Q:Value->Shared->Prop}(hdef:defaultsOf params X.env=([],[]))
 (hP:H P=some (.tbl ps)) (hg:JR H (X.env.qual++"<lambda>") pos ps)
 (h:∀f cd ctv H' s',Inv X pins σ H' s'->Made X scope params body P (X.env.qual++"<lambda>") pos s H H' f cd ctv s'->Q (.ref f) s'):
 wpAny (model X.prog X.w) A (eval (.Lambda params body scope pos) X.env) Q E s:=by
 have hcl:closureFor scope X.env=pure (Aa X.env.cells scope.names []):=CJ (S.clos I.ok);have hns:=I.mod.glob.keeps I.bk;have hb:=LA.bl.keeps I.bk;have hcd:=LA.hd.keeps I.bk;have hobj:s.heap.get? P=some (tabObj ps):=I.hok P _ hP;have hgP:mainGlobals≠P:=λz=>by
  obtain⟨o,es,ep,e,hd,_⟩:=hns;rw[z,hobj]at e;cases e;cases hd
 refine kla_eval hdef ?_;rcases hg with rfl|⟨c',rfl,hc'⟩
 .refine kla_makeFunction hcl I.ok.glob hns LA.code hcd hobj trivial rfl hgP hb λc' ctv h' tk hx hge hlt hrec htb=>?_;have hx':∀b o,b≠P->s.heap.get? b=some o->(h'.push (kla_obj "<lambda>" (X.env.qual++"<lambda>") params body scope (Aa X.env.cells scope.names []) ((X.mg "__name__").getD .none) c' ctv)).get? b=some o:=λb o n e=>Heap.get?_push_of_some _ (hx b o n e);have J:=Wg (t':=tk) I hP hx' hge (hrec.push _) (Heap.get?_push_of_some _ htb);refine h _ _ ctv _ _ J ⟨Heap.get?_push_size _ rfl,⟨c',rfl,AK⟩,.inr ⟨c',I.hok.fresh hge,(AO hP (I.hok.fresh hge)).symm,?_⟩,?_,?_⟩
  .simp
  .exact le_trans hge (le_of_lt hlt)
  .have hs:s.heap.objs.size<=h'.objs.size:=le_trans hge (le_of_lt hlt);rw[AB (ne_of_gt hlt),AB (ne_of_gt (lt_of_lt_of_le (Heap.lt_size hobj) hs))];exact I.hok.fresh hs
 .have hrec:s.heap.CodeRec (.ref c') (X.env.qual++"<lambda>"):=(I.hok c' _ hc').1;have hf:codeAmong pos (#[rawInt pos.line,rawInt pos.col,Value.ref c']:Array Value).toList=some (.ref c'):=by simp[codeAmong,rawInt]
  refine kla_makeFunctionHit hcl I.ok.glob hns LA.code hcd hobj (by simp[TriplesOk,rawInt]) hf hb λctv h' tk hk hsz=>?_;have hk':∀b o,s.heap.get? b=some o->(h'.push { cls:=.type "function",data:=.func (kla_fn "<lambda>" (X.env.qual++"<lambda>") params body scope (Aa X.env.cells scope.names []) ((X.mg "__name__").getD .none) (.ref c') ctv) }).get? b=some o:=λb o e=>Heap.get?_push_of_some _ (hk b o e);exact h _ _ ctv _ _ (I.kept (t':=tk) hk') ⟨Heap.get?_push_size _ rfl,⟨c',rfl,hc'⟩,.inl rfl,hsz,I.hok.fresh hsz⟩
end
end L2
namespace L2
open PySem PySem.Spec PyProof.Rows
inductive I where
 |non|bl (b:Bool)|int (i:Int)|str (x:Str)|tup (ds:List I)
inductive D where
 |im (i:I)|mu (n:Nat)|tm (ds:List D)|ro (ns:List Int)
inductive MO where
 |lst (ds:List D)|dic (kvs:List (Key×D))
abbrev Hd:=List MO
abbrev Ls:=List (Option D)
def RoL(K:PySem.W.Frag)(H:Hp)(a:Addr)(xs:List V):Prop:=(∃o,H a=some (.frz o (.lst xs))) ∨
 ∃(o:Obj) (its:Array Value) (n:Nat),K.lookup a=some o/\o.cls=.type "list"/\o.dict=none/\o.data=.seq its n/\its.size<=sizeLine/\Vals xs its.toList
def RoL.sq{K:PySem.W.Frag}{H:Hp}{a:Addr}{xs:List V}(h:RoL K H a xs):SqL K H a xs:=by
 rcases h with⟨o,h⟩|h
 .exact .inl (.inr ⟨o,h⟩)
 .exact .inr h
def RoL.grow{K:PySem.W.Frag}{H H':Hp}{a:Addr}{xs:List V}(g:Grow H H')(h:RoL K H a xs):RoL K H' a xs:=by
 rcases h with⟨o,h⟩|h
 .exact .inl ⟨o,g.frz _ _ _ h⟩
 .exact .inr h
def Bl(n:Nat):Prop:=n<=sizeLine
def GC(n:Nat):Prop:=n<sizeLine
def Du(i j:Int):Prop:=(-(2^64)<i/\i<2^64)∨(-(2^64)<j/\j<2^64)
def Oi(i j:Int):Prop:=0<=j/\j<=1000000/\i.natAbs<2^64
def Hh(j:Int):Prop:=0<j/\j<1073741824
def CU(j:Int):Prop:=0<j
def Ft(j:Int):Prop:=-(2^62)<=j/\j<2^62
def OZ(i j:Int):Prop:=(-(2^62)<=i/\i<2^62)/\-(2^62)<=j/\j<2^62
def LG(j:Int):Prop:=j<2^24/\-(2^62)<=j
def U8(i j:Int):Prop:=(-(2^62)<=i/\i<2^62)/\(-(2^62)<=j/\j<2^62)/\(j-i).toNat<=2^24
def Ab{n:Nat}(h:n<=1000000):Bl n:=le_trans h (by rw[sizeLine_eq];decide)
def Ch{n:Nat}(h:n<1000000):GC n:=lt_of_lt_of_le h (by rw[sizeLine_eq];decide)
def C0{i j:Int}(a:-1000000000000<=i)(b:i<=1000000000000):Du i j:=.inl ⟨by omega,by omega⟩
def Di{j:Int}(a:-1000000000000<=j)(b:j<=1000000000000):Ft j:=⟨by omega,by omega⟩
def V2{i j:Int}(a:-1000000000000<=i)(b:i<=1000000000000)(c:-1000000000000<=j)(d:j<=1000000000000):OZ i j:=⟨⟨by omega,by omega⟩,by omega,by omega⟩
def SJ{j:Int}(a:-1000000000000<=j)(b:j<=1000000):LG j:=⟨by omega,by omega⟩
section
variable(K:PySem.W.Frag)
mutual
def RI(H:Hp):I->V->Prop
 |.non,v=>v=.non
 |.bl b,v=>v=.bl b
 |.int i,v=>v=.int i
 |.str x,v=>v=.str x
 |.tup ds,v=>∃a xs,v=.ref a/\SqT K H a xs/\RIs H ds xs
def RIs(H:Hp):List I->List V->Prop
 |[],xs=>xs=[]
 |d::ds,xs=>∃x r,xs=x::r/\RI H d x/\RIs H ds r
end
mutual
def RD(ρ:List Addr)(H:Hp):D->V->Prop
 |.im i,v=>RI K H i v
 |.mu n,v=>∃a,ρ[n]?=some a/\v=.ref a
 |.tm ds,v=>∃a xs,v=.ref a/\SqT K H a xs/\RDs ρ H ds xs
 |.ro ns,v=>∃a,v=.ref a/\RoL K H a (ns.map V.int)
def RDs(ρ:List Addr)(H:Hp):List D->List V->Prop
 |[],xs=>xs=[]
 |d::ds,xs=>∃x r,xs=x::r/\RD ρ H d x/\RDs ρ H ds r
end
def RKs(ρ:List Addr)(H:Hp):List (Key×D)->List (Key×V)->Prop
 |[],xs=>xs=[]
 |d::ds,xs=>∃x r,xs=x::r/\x.1=d.1/\RD K ρ H d.2 x.2/\RKs ρ H ds r
def RC(ρ:List Addr)(H:Hp):MO->HO->Prop
 |.lst ds,o=>∃xs,o=.lst xs/\RDs K ρ H ds xs
 |.dic kvs,o=>∃kv,o=.dK kv/\RKs K ρ H kvs kv
def L9:List Value->List (Addr×Str×Pos)
 |.ref P::.str q _::.int l _::.int c _::r=>(P,q,⟨l.toNat,c.toNat,0,0⟩)::L9 r
 |_=>[]
def Zq(o:Obj):List (Addr×Str×Pos):=match o.cls,o.data with
 |.str _ _,.fields vs=>L9 vs.toList
 |_,_=>[]
def Ca(K:PySem.W.Frag):List (Addr×Str×Pos):=match K.getLast? with
 |some p=>Zq p.2
 |none=>[]
def TabsOk(K:PySem.W.Frag)(H:Hp):Prop:=∀x∈Ca K,∃ps,H x.1=some (.tbl ps)/\JR H x.2.1 x.2.2 ps
structure RH(ρ:List Addr)(H:Hp)(hd:Hd):Prop where
 len:ρ.length=hd.length
 nd:ρ.Nodup
 tabs:TabsOk K H
 ob:∀(n:Nat) (o:MO) (a:Addr),hd[n]?=some o->ρ[n]?=some a->∃ho,H a=some ho/\RC K ρ H o ho
structure RL(ρ:List Addr)(H:Hp)(ls:Ls)(σ:St):Prop where
 len:ls.length=σ.length
 ob:∀(i:Nat) (d:D),ls[i]?=some (some d)->∃v,σ[i]?=some (some v)/\RD K ρ H d v
end
structure Ext(ρ:List Addr)(H:Hp)(ρ':List Addr)(H':Hp):Prop where
 pre:∃r,ρ'=ρ++r/\∀b∈r,H b=none
 keep:∀b o,H b=some o->b∉ρ->(∀ps,o≠.tbl ps)->H' b=some o
 tab:∀b ps,H b=some (.tbl ps)->∃ps',H' b=some (.tbl ps')
def nt{o:HO}(h:match o with|.tbl _=>False|_=>True:=by trivial):∀ps,o≠.tbl ps:=λps e=>by subst e;exact h
def TabsOk.upd{K:PySem.W.Frag}{H:Hp}(t:TabsOk K H){a:Addr}{ho:HO}(h1:∀ps,H a≠some (.tbl ps))(h2:∀φ,H a≠some (.ext φ)):TabsOk K (upd H a ho):=λx hx=>by
 obtain⟨ps,e,g⟩:=t x hx;have ne:x.1≠a:=λz=>h1 ps (by rw[<- z];exact e);refine⟨ps,by rw[AB ne];exact e,?_⟩;rcases g with g|⟨c,g1,g2⟩
 .exact .inl g
 .have nc:c≠a:=λz=>h2 _ (by rw[<- z];exact g2);exact .inr ⟨c,g1,by rw[AB nc];exact g2⟩
section
variable{K:PySem.W.Frag}{ρ ρ' ρ1 ρ2:List Addr}{H H' H1 H2:Hp}{hd hd' hd1:Hd}
mutual
def RI.grow(g:Grow H H'):∀{i:I} {v:V},RI K H i v->RI K H' i v
 |.non,v,h=>by simpa only[RI]using h
 |.bl b,v,h=>by simpa only[RI]using h
 |.int b,v,h=>by simpa only[RI]using h
 |.str b,v,h=>by simpa only[RI]using h
 |.tup ds,v,h=>by
  simp only[RI]at h ⊢;obtain⟨a,xs,e,q,r⟩:=h;exact⟨a,xs,e,g.sq q,RIs.grow g r⟩
def RIs.grow(g:Grow H H'):∀{i:List I} {v:List V},RIs K H i v->RIs K H' i v
 |[],v,h=>by simpa only[RIs]using h
 |d::ds,v,h=>by
  simp only[RIs]at h ⊢;obtain⟨x,r,e,q,z⟩:=h;exact⟨x,r,e,q.grow g,RIs.grow g z⟩
end
def RH.mut(h:RH K ρ H hd){a:Addr}(m:a∈ρ):(∃xs,H a=some (.lst xs))∨∃kv,H a=some (.dK kv):=by
 obtain⟨n,e⟩:=mem_iff_getElem?.mp m;have hn:n<hd.length:=by rw[<- h.len];exact(List.getElem?_eq_some_iff.mp e).1
 obtain⟨ho,e1,e2⟩:=h.ob n hd[n] a (by simp[hn]) e;cases q:hd[n]with
 |lst ds=>rw[q]at e2;obtain⟨xs,rfl,_⟩:=e2;exact .inl ⟨xs,e1⟩
 |dic ds=>rw[q]at e2;obtain⟨xs,rfl,_⟩:=e2;exact .inr ⟨xs,e1⟩
def RH.tup_out(h:RH K ρ H hd){a:Addr}{xs:List V}(e:H a=some (.tup xs)):a∉ρ:=λm=>by
 rcases h.mut m with⟨y,z⟩|⟨y,z⟩<;>(rw[e]at z;cases z)
def RH.frz_out(h:RH K ρ H hd){a:Addr}{o:Obj}{u:HO}(e:H a=some (.frz o u)):a∉ρ:=λm=>by
 rcases h.mut m with⟨y,z⟩|⟨y,z⟩<;>(rw[e]at z;cases z)
def Ext.grow(e:Ext ρ H ρ' H')(h:RH K ρ H hd):Grow H H':=⟨λb xs q=>e.keep b _ q (h.tup_out q) nt,λb o u q=>e.keep b _ q (h.frz_out q) nt⟩
def Ext.refl:Ext ρ H ρ H:=⟨⟨[],by simp,by simp⟩,λ_ _ h _ _=>h,λ_ ps h=>⟨ps,h⟩⟩
def Ext.trans(e:Ext ρ H ρ1 H1)(h0:RH K ρ1 H1 hd1)(e2:Ext ρ1 H1 ρ2 H2):Ext ρ H ρ2 H2:=by
 obtain⟨r1,rfl,f1⟩:=e.pre;obtain⟨r2,rfl,f2⟩:=e2.pre;refine⟨⟨r1++r2,by simp,λb m=>?_⟩,λb o q n t=>?_,λb ps q=>?_⟩
 .rcases mem_append.mp m with m|m
  .exact f1 b m
  .have z:=f2 b m;cases q:H b with
   |none=>rfl
   |some o=>
    by_cases n:b∈ρ
    .rcases h0.mut (mem_append_left r1 n)with⟨y,w⟩|⟨y,w⟩<;>(rw[z]at w;cases w)
    .by_cases t:∃ps,o=.tbl ps
     .obtain⟨ps,rfl⟩:=t;obtain⟨ps',this⟩:=e.tab b ps q;rw[z]at this;cases this
     .have:=e.keep b o q n λps y=>t ⟨ps,y⟩;rw[z]at this;cases this
 .refine e2.keep b o (e.keep b o q n t) (λm=>?_) t;rcases mem_append.mp m with m|m
  .exact n m
  .have:=f1 b m;rw[q]at this;cases this
 .obtain⟨ps',q'⟩:=e.tab b ps q;exact e2.tab b ps' q'
mutual
def RD.mono(g:Grow H H')(r:List Addr):∀{d:D} {v:V},RD K ρ H d v->RD K (ρ++r) H' d v
 |.im i,v,h=>by simp only[RD]at h ⊢;exact h.grow g
 |.mu n,v,h=>by
  simp only[RD]at h ⊢;obtain⟨a,e,q⟩:=h;exact⟨a,by rw[List.getElem?_append_left (List.getElem?_eq_some_iff.mp e).1];exact e,q⟩
 |.tm ds,v,h=>by
  simp only[RD]at h ⊢;obtain⟨a,xs,e,q,z⟩:=h;exact⟨a,xs,e,g.sq q,RDs.mono g r z⟩
 |.ro ns,v,h=>by
  simp only[RD]at h ⊢;obtain⟨a,e,q⟩:=h;exact⟨a,e,q.grow g⟩
def RDs.mono(g:Grow H H')(r:List Addr):∀{d:List D} {v:List V},RDs K ρ H d v->RDs K (ρ++r) H' d v
 |[],v,h=>by simpa only[RDs]using h
 |d::ds,v,h=>by
  simp only[RDs]at h ⊢;obtain⟨x,r',e,q,z⟩:=h;exact⟨x,r',e,q.mono g r,RDs.mono g r z⟩
end
def RKs.mono(g:Grow H H')(r:List Addr):∀{d:List (Key×D)} {v:List (Key×V)},RKs K ρ H d v->RKs K (ρ++r) H' d v
 |[],v,h=>by simpa only[RKs]using h
 |d::ds,v,h=>by
  simp only[RKs]at h ⊢;obtain⟨x,r',e,q1,q,z⟩:=h;exact⟨x,r',e,q1,q.mono g r,RKs.mono g r z⟩
def RC.mono(g:Grow H H')(r:List Addr){o:MO}{ho:HO}(h:RC K ρ H o ho):RC K (ρ++r) H' o ho:=by
 cases o with
 |lst ds=>obtain⟨xs,e,q⟩:=h;exact⟨xs,e,q.mono g r⟩
 |dic ds=>obtain⟨xs,e,q⟩:=h;exact⟨xs,e,q.mono g r⟩
def RD.ext(h:RH K ρ H hd)(e:Ext ρ H ρ' H'){d:D}{v:V}(q:RD K ρ H d v):RD K ρ' H' d v:=by
 obtain⟨r,rfl,_⟩:=e.pre;exact q.mono (e.grow h) r
def RDs.ext(h:RH K ρ H hd)(e:Ext ρ H ρ' H'){d:List D}{v:List V}(q:RDs K ρ H d v):RDs K ρ' H' d v:=by
 obtain⟨r,rfl,_⟩:=e.pre;exact q.mono (e.grow h) r
def RL.ext(h:RH K ρ H hd)(e:Ext ρ H ρ' H'){ls:Ls}{σ:St}(q:RL K ρ H ls σ):RL K ρ' H' ls σ:=
 ⟨q.len,λi d z=>let ⟨v,a,b⟩:=q.ob i d z;⟨v,a,b.ext h e⟩⟩
def RDs.len:∀{ds:List D} {xs:List V},RDs K ρ H ds xs->xs.length=ds.length
 |[],xs,h=>by simp only[RDs]at h;rw[h];rfl
 |d::ds,xs,h=>by
  simp only[RDs]at h;obtain⟨x,r,rfl,_,z⟩:=h;simp[RDs.len z]
def RDs.get:∀{ds:List D} {xs:List V} {i:Nat} {d:D},RDs K ρ H ds xs->ds[i]?=some d->∃x,xs[i]?=some x/\RD K ρ H d x
 |[],xs,i,d,h,e=>by simp at e
 |d::ds,xs,0,e,h,q=>by
  simp only[RDs]at h;obtain⟨x,r,rfl,z,_⟩:=h;simp at q;subst q;exact⟨x,rfl,z⟩
 |d::ds,xs,i+1,e,h,q=>by
  simp only[RDs]at h;obtain⟨x,r,rfl,_,z⟩:=h;obtain⟨y,a,b⟩:=RDs.get (i:=i) z (by simpa using q);exact⟨y,by simpa using a,b⟩
def RDs.nil:RDs K ρ H [] []:=by simp[RDs]
def RDs.cons{d:D}{v:V}{ds:List D}{vs:List V}(h:RD K ρ H d v)(t:RDs K ρ H ds vs):RDs K ρ H (d::ds) (v::vs):=by
 simp only[RDs];exact⟨v,vs,rfl,h,t⟩
def RDs.app:∀{ds es:List D} {xs ys:List V},RDs K ρ H ds xs->RDs K ρ H es ys->RDs K ρ H (ds++es) (xs++ys)
 |[],es,xs,ys,h,t=>by simp only[RDs]at h;subst h;simpa using t
 |d::ds,es,xs,ys,h,t=>by
  simp only[RDs]at h;obtain⟨x,r,rfl,z,q⟩:=h;simp only[cons_append];exact .cons z (q.app t)
def RDs.set:∀{ds:List D} {xs:List V} {d:D} {v:V} (i:Nat),RDs K ρ H ds xs->RD K ρ H d v->RDs K ρ H (ds.set i d) (xs.set i v)
 |[],xs,d,v,i,h,t=>by simp only[RDs]at h;subst h;simp[RDs]
 |d::ds,xs,e,v,0,h,t=>by
  simp only[RDs]at h;obtain⟨x,r,rfl,z,q⟩:=h;simpa using RDs.cons t q
 |d::ds,xs,e,v,i+1,h,t=>by
  simp only[RDs]at h;obtain⟨x,r,rfl,z,q⟩:=h;simpa using RDs.cons z (q.set i t)
def RDs.drop:∀{ds:List D} {xs:List V} (n:Nat),RDs K ρ H ds xs->RDs K ρ H (ds.drop n) (xs.drop n)
 |ds,xs,0,h=>by simpa using h
 |[],xs,n+1,h=>by simp only[RDs]at h;subst h;simp[RDs]
 |d::ds,xs,n+1,h=>by
  simp only[RDs]at h;obtain⟨x,r,rfl,z,q⟩:=h;simpa using q.drop n
def RDs.take:∀{ds:List D} {xs:List V} (n:Nat),RDs K ρ H ds xs->RDs K ρ H (ds.take n) (xs.take n)
 |ds,xs,0,h=>by simp[RDs]
 |[],xs,n+1,h=>by simp only[RDs]at h;subst h;simp[RDs]
 |d::ds,xs,n+1,h=>by
  simp only[RDs]at h;obtain⟨x,r,rfl,z,q⟩:=h;simpa using RDs.cons z (q.take n)
def RIs.ds:∀{is:List I} {xs:List V},RIs K H is xs->RDs K ρ H (is.map D.im) xs
 |[],xs,h=>by simpa only[RIs,RDs,map_nil]using h
 |i::is,xs,h=>by
  simp only[RIs]at h;obtain⟨x,r,rfl,z,q⟩:=h;exact .cons (by simpa only[RD]using z) q.ds
def RDs.is:∀{is:List I} {xs:List V},RDs K ρ H (is.map D.im) xs->RIs K H is xs
 |[],xs,h=>by simpa only[RIs,RDs,map_nil]using h
 |i::is,xs,h=>by
  simp only[map_cons,RDs]at h;obtain⟨x,r,rfl,z,q⟩:=h;simp only[RIs];exact⟨x,r,rfl,by simpa only[RD]using z,q.is⟩
def RH.new(h:RH K ρ H hd){a:Addr}(ha:H a=none){o:MO}{ho:HO}(c:RC K ρ H o ho):RH K (ρ++[a]) (upd H a ho) (hd++[o])/\Ext ρ H (ρ++[a]) (upd H a ho):=by
 have out:a∉ρ:=λm=>by rcases h.mut m with⟨y,z⟩|⟨y,z⟩<;>(rw[ha]at z;cases z)
 have ex:Ext ρ H (ρ++[a]) (upd H a ho):=⟨⟨[a],rfl,λb m=>by simp at m;subst m;exact ha⟩,λb o q n _=>by rw[AB (AO q ha)];exact q,λb ps q=>⟨ps,by rw[AB (AO q ha)];exact q⟩⟩
 refine⟨⟨by simp[h.len],?_,h.tabs.upd (by simp[ha]) (by simp[ha]),λn o' b e1 e2=>?_⟩,ex⟩
 .rw[nodup_append];refine⟨h.nd,by simp,λx hx y hy z=>?_⟩;simp at hy;subst hy;subst z;exact out hx
 .have gr:=ex.grow h;by_cases hn:n<ρ.length
  .rw[List.getElem?_append_left hn]at e2;rw[List.getElem?_append_left (by rw[<- h.len];exact hn)]at e1;obtain⟨ho',q1,q2⟩:=h.ob n o' b e1 e2;exact⟨ho',by rw[AB (AO q1 ha)];exact q1,q2.mono gr [a]⟩
  .have hn':n=ρ.length:=by
    have:=(List.getElem?_eq_some_iff.mp e2).1;simp at this;omega
   subst hn';simp at e2;rw[h.len]at e1;simp at e1;subst e1;subst e2;exact⟨ho,AK,c.mono gr [a]⟩
def RH.put(h:RH K ρ H hd){n:Nat}{a:Addr}(hn:ρ[n]?=some a){o:MO}{ho:HO}(c:RC K ρ H o ho):RH K ρ (upd H a ho) (hd.set n o)/\Ext ρ H ρ (upd H a ho):=by
 have ha:=h.mut (mem_of_getElem? hn);have n1:∀ps,H a≠some (.tbl ps):=λps e=>by rcases ha with⟨y,z⟩|⟨y,z⟩<;>(rw[e]at z;cases z)
 have n2:∀φ,H a≠some (.ext φ):=λps e=>by rcases ha with⟨y,z⟩|⟨y,z⟩<;>(rw[e]at z;cases z)
 have ex:Ext ρ H ρ (upd H a ho):=⟨⟨[],by simp,by simp⟩,λb o q m _=>by
  have:b≠a:=λz=>m (by rw[z];exact mem_of_getElem? hn);rw[AB this];exact q,λb ps q=>⟨ps,(AB (show b≠a from λz=>n1 ps (by rw[<- z];exact q))).trans q⟩⟩
 have gr:=ex.grow h;refine⟨⟨by simp[h.len],h.nd,h.tabs.upd n1 n2,λm o' b e1 e2=>?_⟩,ex⟩;have hm:m<hd.length:=by rw[<- h.len];exact(List.getElem?_eq_some_iff.mp e2).1
 by_cases hmn:m=n
 .subst hmn;rw[hn]at e2;cases e2;rw[List.getElem?_set_self hm]at e1;cases e1;exact⟨ho,AK,by simpa using c.mono gr []⟩
 .rw[List.getElem?_set_ne (λz=>hmn z.symm)]at e1;obtain⟨ho',q1,q2⟩:=h.ob m o' b e1 e2;have:b≠a:=λz=>by
   subst z;have l1:=(List.getElem?_eq_some_iff.mp e2).1;have l2:=(List.getElem?_eq_some_iff.mp hn).1;exact hmn ((List.getElem?_inj l1 h.nd).mp (e2.trans hn.symm))
  exact⟨ho',by rw[AB this];exact q1,by simpa using q2.mono gr []⟩
def RH.lst(h:RH K ρ H hd){n:Nat}{a:Addr}{ds:List D}(hn:ρ[n]?=some a)(e:hd[n]?=some (.lst ds)):∃xs,H a=some (.lst xs)/\RDs K ρ H ds xs:=by
 obtain⟨ho,q,xs,rfl,r⟩:=h.ob n _ a e hn;exact⟨xs,q,r⟩
def RH.dic(h:RH K ρ H hd){n:Nat}{a:Addr}{ds:List (Key×D)}(hn:ρ[n]?=some a)(e:hd[n]?=some (.dic ds)):∃xs,H a=some (.dK xs)/\RKs K ρ H ds xs:=by
 obtain⟨ho,q,xs,rfl,r⟩:=h.ob n _ a e hn;exact⟨xs,q,r⟩
def RH.hid(h:RH K ρ H hd){a:Addr}(ha:H a=none){ho:HO}:RH K ρ (upd H a ho) hd/\Ext ρ H ρ (upd H a ho):=by
 have out:a∉ρ:=λm=>by rcases h.mut m with⟨y,z⟩|⟨y,z⟩<;>(rw[ha]at z;cases z)
 have ex:Ext ρ H ρ (upd H a ho):=⟨⟨[],by simp,by simp⟩,λb o q n _=>by rw[AB (AO q ha)];exact q,λb ps q=>⟨ps,by rw[AB (AO q ha)];exact q⟩⟩
 have gr:=ex.grow h;refine⟨⟨h.len,h.nd,h.tabs.upd (by simp[ha]) (by simp[ha]),λm o' b e1 e2=>?_⟩,ex⟩;obtain⟨ho',q1,q2⟩:=h.ob m o' b e1 e2;exact⟨ho',by rw[AB (AO q1 ha)];exact q1,by simpa using q2.mono gr []⟩
def RH.hput(h:RH K ρ H hd){a:Addr}(out:a∉ρ){xs:List V}{ho:HO}(hl:H a=some (.lst xs)):RH K ρ (upd H a ho) hd:=by
 have gr:Grow H (upd H a ho):=Grow.refl.put (.lst hl);refine⟨h.len,h.nd,h.tabs.upd (by simp[hl]) (by simp[hl]),λm o' b e1 e2=>?_⟩;obtain⟨ho',q1,q2⟩:=h.ob m o' b e1 e2;have:b≠a:=λz=>out (by rw[<- z];exact mem_of_getElem? e2);exact⟨ho',by rw[AB this];exact q1,by simpa using q2.mono gr []⟩
end
end L2
namespace L2
open PySem PySem.Spec PyProof.Rows
abbrev ME:=Ls->Hd->Option (D×Hd)
abbrev MT:=Ls->Hd->Option (Bool×Hd)
abbrev MA:=Ls->Hd->Option (List D×Hd)
inductive Fl where
 |nx (ls:Ls)|rt (d:D)|bk (ls:Ls)|ct (ls:Ls)
abbrev MS:=Ls->Hd->Option (Fl×Hd)
section
variable(K:PySem.W.Frag)
def RE(t:TE)(m:ME):Prop:=∀(ρ:List Addr) (σ:St) (H:Hp) (hd:Hd) (ls:Ls) (Q:VK) (d:D) (hd':Hd),RH K ρ H hd->RL K ρ H ls σ->m ls hd=some (d,hd') ->
 (∀ρ' H' v,Ext ρ H ρ' H'->RH K ρ' H' hd'->RD K ρ' H' d v->Q v H')->t σ H Q
def RT(t:TT)(m:MT):Prop:=∀(ρ:List Addr) (σ:St) (H:Hp) (hd:Hd) (ls:Ls) (Q:Bool->Hp->Prop) (d:Bool) (hd':Hd),RH K ρ H hd->RL K ρ H ls σ->m ls hd=some (d,hd') ->
 (∀ρ' H',Ext ρ H ρ' H'->RH K ρ' H' hd'->Q d H')->t σ H Q
def RA(t:TA)(m:MA):Prop:=∀(ρ:List Addr) (σ:St) (H:Hp) (hd:Hd) (ls:Ls) (Q:List V->Hp->Prop) (d:List D) (hd':Hd),RH K ρ H hd->RL K ρ H ls σ->m ls hd=some (d,hd') ->
 (∀ρ' H' v,Ext ρ H ρ' H'->RH K ρ' H' hd'->RDs K ρ' H' d v->Q v H')->t σ H Q
def RN(t:TE)(m:MA):Prop:=∀(ρ:List Addr) (σ:St) (H:Hp) (hd:Hd) (ls:Ls) (Q:VK) (d:List D) (hd':Hd),RH K ρ H hd->RL K ρ H ls σ->m ls hd=some (d,hd') ->
 (∀ρ' H' a xs,Ext ρ H ρ' H'->RH K ρ' H' hd'->H a=none->a∉ρ'->H' a=some (.lst xs)->RDs K ρ' H' d xs->Q (.ref a) H')->t σ H Q
def au(E:Ends)(ρ:List Addr)(H:Hp):Fl->Prop
 |.nx ls=>∀σ,RL K ρ H ls σ->E.nx σ H
 |.bk ls=>∀σ,RL K ρ H ls σ->E.bk σ H
 |.ct ls=>∀σ,RL K ρ H ls σ->E.ct σ H
 |.rt d=>∀v,RD K ρ H d v->E.rt v H
def RS(t:TS)(m:MS):Prop:=∀(ρ:List Addr) (σ:St) (H:Hp) (hd:Hd) (ls:Ls) (E:Ends) (f:Fl) (hd':Hd),RH K ρ H hd->RL K ρ H ls σ->m ls hd=some (f,hd') ->
 (∀ρ' H',Ext ρ H ρ' H'->RH K ρ' H' hd'->au K E ρ' H' f)->t E σ H
def RB(r:R2)(f:D->D->Hd->Option (D×Hd)):Prop:=∀(ρ:List Addr) (H:Hp) (hd:Hd) (d e:D) (v u:V) (Q:VK) (z:D) (hd':Hd),RH K ρ H hd->RD K ρ H d v->RD K ρ H e u->f d e hd=some (z,hd') ->
 (∀ρ' H' w,Ext ρ H ρ' H'->RH K ρ' H' hd'->RD K ρ' H' z w->Q w H')->r v u H Q
def RF(r:List V->Hp->VK->Prop)(f:List D->Hd->Option (D×Hd)):Prop:=∀(ρ:List Addr) (H:Hp) (hd:Hd) (ds:List D) (vs:List V) (Q:VK) (z:D) (hd':Hd),RH K ρ H hd->RDs K ρ H ds vs->f ds hd=some (z,hd') ->
 (∀ρ' H' w,Ext ρ H ρ' H'->RH K ρ' H' hd'->RD K ρ' H' z w->Q w H')->r vs H Q
def RG(tp:Bool)(r:List V->Hp->VK->Prop)(g:List D->Option D):Prop:=∀(ρ:List Addr) (H:Hp) (hd:Hd) (a:Addr) (xs:List V) (ds:List D) (Q:VK) (z:D),RH K ρ H hd->(SqL K H a xs∨(tp=true/\SqT K H a xs))->RDs K ρ H ds xs->g ds=some z ->
 (∀H' w,Ext ρ H ρ H'->RH K ρ H' hd->RD K ρ H' z w->Q w H')->r [.ref a] H Q
end
structure QE(K:PySem.W.Frag)(X:Cx)(e:Expr)(t:TE)(m:ME):Prop where
 p:PE X e t
 r:RE K t m
structure QT(K:PySem.W.Frag)(X:Cx)(e:Expr)(t:TT)(m:MT):Prop where
 p:PT X e t
 r:RT K t m
structure QW(K:PySem.W.Frag)(X:Cx)(e:Expr)(t:TT)(m:MT):Prop where
 p:PW X e t
 r:RT K t m
structure QA(K:PySem.W.Frag)(X:Cx)(e:List Expr)(t:TA)(m:MA):Prop where
 p:PA X e t
 r:RA K t m
structure QN(K:PySem.W.Frag)(X:Cx)(e:Expr)(t:TE)(m:MA):Prop where
 p:PE X e t
 r:RN K t m
structure QS(K:PySem.W.Frag)(X:Cx)(e:Stmt)(t:TS)(m:MS):Prop where
 p:PS X e t
 r:RS K t m
structure QSs(K:PySem.W.Frag)(X:Cx)(e:List Stmt)(t:TS)(m:MS):Prop where
 p:PSs X e t
 r:RS K t m
def AZ:D->Option (List D)
 |.im (.tup is)=>some (is.map .im)
 |.tm ds=>some ds
 |_=>none
def B6(hd:Hd):D->Option (List D)
 |.mu n=>match hd[n]? with
  |some (.lst ds)=>some ds
  |_=>none
 |.ro ns=>some (ns.map λn=>.im (.int n))
 |_=>none
def Az(hd:Hd)(d:D):Option (List D):=match AZ d with
 |some ds=>some ds
 |none=>B6 hd d
def BU:List D->Option (List I)
 |[]=>some []
 |.im i::r=>(BU r).map (i::·)
 |_::_=>none
def AX(ds:List D):D:=match BU ds with
 |some is=>.im (.tup is)
 |none=>.tm ds
def As:List D->Option (List Int)
 |[]=>some []
 |.im (.int i)::r=>(As r).map (i::·)
 |_::_=>none
def C1:List D->Option (List Bool)
 |[]=>some []
 |.im (.bl i)::r=>(C1 r).map (i::·)
 |_::_=>none
section
variable{K:PySem.W.Frag}{ρ ρ':List Addr}{H H':Hp}{hd hd':Hd}
def GL:∀{ds:List D} {is:List I},BU ds=some is->ds=is.map .im
 |[],is,h=>by simp[BU]at h;subst h;rfl
 |.im i::r,is,h=>by
  simp only[BU,Option.map_eq_some_iff]at h;obtain⟨js,e,rfl⟩:=h;simp[GL e]
 |.mu _::_,is,h=>by simp[BU]at h
 |.tm _::_,is,h=>by simp[BU]at h
 |.ro _::_,is,h=>by simp[BU]at h
def Dq:∀{ds:List D} {is:List Int},As ds=some is->ds=is.map λi=>.im (.int i)
 |[],is,h=>by simp[As]at h;subst h;rfl
 |.im (.int i)::r,is,h=>by
  simp only[As,Option.map_eq_some_iff]at h;obtain⟨js,e,rfl⟩:=h;simp[Dq e]
 |.im (.bl _)::_,is,h=>by simp[As]at h
 |.im (.str _)::_,is,h=>by simp[As]at h
 |.im .non::_,is,h=>by simp[As]at h
 |.im (.tup _)::_,is,h=>by simp[As]at h
 |.mu _::_,is,h=>by simp[As]at h
 |.tm _::_,is,h=>by simp[As]at h
 |.ro _::_,is,h=>by simp[As]at h
def K6:∀{ds:List D} {is:List Bool},C1 ds=some is->ds=is.map λi=>.im (.bl i)
 |[],is,h=>by simp[C1]at h;subst h;rfl
 |.im (.bl i)::r,is,h=>by
  simp only[C1,Option.map_eq_some_iff]at h;obtain⟨js,e,rfl⟩:=h;simp[K6 e]
 |.im (.int _)::_,is,h=>by simp[C1]at h
 |.im (.str _)::_,is,h=>by simp[C1]at h
 |.im .non::_,is,h=>by simp[C1]at h
 |.im (.tup _)::_,is,h=>by simp[C1]at h
 |.mu _::_,is,h=>by simp[C1]at h
 |.tm _::_,is,h=>by simp[C1]at h
 |.ro _::_,is,h=>by simp[C1]at h
@[simp] theorem RW(is:List I):BU (is.map .im)=some is:=by induction is<;>simp_all [BU]
@[simp] theorem Qo(is:List Int):As (is.map λi=>.im (.int i))=some is:=by induction is<;>simp_all [As]
@[simp] theorem blsD_map(is:List Bool):C1 (is.map λi=>.im (.bl i))=some is:=by induction is<;>simp_all [C1]
def HQ:∀{ns:List Int} {xs:List V},RDs K ρ H (ns.map λi=>.im (.int i)) xs->xs=ns.map V.int
 |[],xs,h=>by simpa [RDs]using h
 |n::ns,xs,h=>by
  simp only[map_cons,RDs,RD,RI]at h;obtain⟨x,r,rfl,rfl,z⟩:=h;rw[HQ z];rfl
def Ff:∀{ns:List Int},RDs K ρ H (ns.map λi=>.im (.int i)) (ns.map V.int)
 |[]=>by simp[RDs]
 |n::ns=>by simp only[map_cons];exact .cons (by simp[RD,RI]) Ff
def Lq:∀{ns:List Bool} {xs:List V},RDs K ρ H (ns.map λi=>.im (.bl i)) xs->xs=ns.map V.bl
 |[],xs,h=>by simpa [RDs]using h
 |n::ns,xs,h=>by
  simp only[map_cons,RDs,RD,RI]at h;obtain⟨x,r,rfl,rfl,z⟩:=h;rw[Lq z];rfl
def RD.tup{d:D}{v:V}{ds:List D}(h:RD K ρ H d v)(e:AZ d=some ds):∃a xs,v=.ref a/\SqT K H a xs/\RDs K ρ H ds xs:=by
 cases d with
 |im i=>
  cases i with
  |tup is=>
   simp only[AZ,Option.some.injEq]at e;subst e;simp only[RD,RI]at h;obtain⟨a,xs,rfl,q,r⟩:=h;exact⟨a,xs,rfl,q,r.ds⟩
  |_=>simp[AZ]at e
 |tm es=>
  simp only[AZ,Option.some.injEq]at e;subst e;simpa only[RD]using h
 |_=>simp[AZ]at e
def RD.lst{d:D}{v:V}{ds:List D}(hR:RH K ρ H hd)(h:RD K ρ H d v)(e:B6 hd d=some ds):∃a xs,v=.ref a/\SqL K H a xs/\RDs K ρ H ds xs:=by
 cases d with
 |mu n=>
  simp only[B6]at e;simp only[RD]at h;obtain⟨a,hn,rfl⟩:=h;split at e
  .next q=>
   cases e;obtain⟨xs,e1,e2⟩:=hR.lst hn q;exact⟨a,xs,rfl,SqL.of e1,e2⟩
  .cases e
 |ro ns=>
  simp only[B6,Option.some.injEq]at e;subst e;simp only[RD]at h;obtain⟨a,rfl,q⟩:=h;exact⟨a,_,rfl,q.sq,Ff⟩
 |_=>simp[B6]at e
def RD.seq{d:D}{v:V}{ds:List D}(hR:RH K ρ H hd)(h:RD K ρ H d v)(e:Az hd d=some ds):∃a xs,v=.ref a/\(SqL K H a xs∨SqT K H a xs)/\RDs K ρ H ds xs:=by
 unfold Az at e;split at e
 .next q=>
  cases e;obtain⟨a,xs,e1,e2,e3⟩:=h.tup q;exact⟨a,xs,e1,.inr e2,e3⟩
 .obtain⟨a,xs,e1,e2,e3⟩:=h.lst hR e;exact⟨a,xs,e1,.inl e2,e3⟩
def BL{ds:List D}{a:Addr}{xs:List V}(q:SqT K H a xs)(r:RDs K ρ H ds xs):RD K ρ H (AX ds) (.ref a):=by
 unfold AX;split
 .next e=>
  rw[GL e]at r;simp only[RD,RI];exact⟨a,xs,rfl,q,r.is⟩
 .simp only[RD];exact⟨a,xs,rfl,q,r⟩
def A0(i:Nat):ME:=λls hd=>match ls[i]? with
 |some (some d)=>some (d,hd)
 |_=>none
def Xe{i:Nat}:RE K (Rs i) (A0 i):=by
 and_intros;unfold A0 at hm;split at hm
 .next e=>
  cases hm;obtain⟨v,e1,e2⟩:=hL.ob i _ e;exact⟨v,e1,hQ ρ H v .refl hR e2⟩
 .cases hm
def mC(i:I):ME:=λ_ hd=>some (.im i,hd)
def Ob{v:V}{i:I}(h:∀H,RI K H i v):RE K (tC v) (mC i):=by
 and_intros;cases hm;exact hQ ρ H v .refl hR (by simpa only[RD]using h H)
def mOp(f:D->D->Hd->Option (D×Hd))(ma mb:ME):ME:=λls hd=>(ma ls hd).bind λp=>(mb ls p.2).bind λq=>f p.1 q.1 q.2
def LH{r:R2}{f:D->D->Hd->Option (D×Hd)}{ta tb:TE}{ma mb:ME}(hr:RB K r f)(ha:RE K ta ma)(hb:RE K tb mb):RE K (tOp r ta tb) (mOp f ma mb):=by
 and_intros;obtain⟨⟨d1,h1⟩,e1,hm⟩:=dL hm;obtain⟨⟨d2,h2⟩,e2,hm⟩:=dL hm;refine ha ρ σ H hd ls _ d1 h1 hR hL e1 λρ1 H1 v1 x1 R1 r1=>?_;refine hb ρ1 σ H1 h1 ls _ d2 h2 R1 (hL.ext hR x1) e2 λρ2 H2 v2 x2 R2 r2=>?_;exact hr ρ2 H2 h2 d1 d2 v1 v2 Q d hd' R2 (r1.ext R1 x2) r2 hm λρ' H' w x3 R3 r3=>hQ ρ' H' w ((x1.trans R1 x2).trans R2 x3) R3 r3
def EJ(ta tb:MT):MT:=λls hd=>(ta ls hd).bind λp=>if p.1=true then tb ls p.2 else some (false,p.2)
def mOr(ta tb:MT):MT:=λls hd=>(ta ls hd).bind λp=>if p.1=true then some (true,p.2)else tb ls p.2
def CP(ta:MT):MT:=λls hd=>(ta ls hd).bind λp=>some (!p.1,p.2)
def XT{ta tb:TT}{ma mb:MT}(ha:RT K ta ma)(hb:RT K tb mb):RT K (S7 ta tb) (EJ ma mb):=by
 and_intros;obtain⟨⟨d1,h1⟩,e1,hm⟩:=dL hm;refine ha ρ σ H hd ls _ d1 h1 hR hL e1 λρ1 H1 x1 R1=>?_;cases d1 with
 |true=>
  rw[if_pos rfl]at hm ⊢;exact hb ρ1 σ H1 h1 ls Q d hd' R1 (hL.ext hR x1) hm λρ2 H2 x2 R2=>hQ ρ2 H2 (x1.trans R1 x2) R2
 |false=>
  rw[if_neg Bool.false_ne_true]at hm ⊢;cases hm;exact hQ ρ1 H1 x1 R1
def Zr{ta tb:TT}{ma mb:MT}(ha:RT K ta ma)(hb:RT K tb mb):RT K (tOr ta tb) (mOr ma mb):=by
 and_intros;obtain⟨⟨d1,h1⟩,e1,hm⟩:=dL hm;refine ha ρ σ H hd ls _ d1 h1 hR hL e1 λρ1 H1 x1 R1=>?_;cases d1 with
 |true=>
  rw[if_pos rfl]at hm ⊢;cases hm;exact hQ ρ1 H1 x1 R1
 |false=>
  rw[if_neg Bool.false_ne_true]at hm ⊢;exact hb ρ1 σ H1 h1 ls Q d hd' R1 (hL.ext hR x1) hm λρ2 H2 x2 R2=>hQ ρ2 H2 (x1.trans R1 x2) R2
def XS{ta:TT}{ma:MT}(ha:RT K ta ma):RT K (Rz ta) (CP ma):=by
 and_intros;obtain⟨⟨d1,h1⟩,e1,hm⟩:=dL hm;cases hm;exact ha ρ σ H hd ls _ d1 h1 hR hL e1 λρ1 H1 x1 R1=>hQ ρ1 H1 x1 R1
open Classical in
def EE(hd:Hd):D->Option Bool
 |.im .non=>some false
 |.im (.bl b)=>some b
 |.im (.int i)=>some (i != 0)
 |.im (.str x)=>if Bl x.length then some ((x.length:Int) != 0)else none
 |.im (.tup is)=>some (!is.isEmpty)
 |.tm is=>some (!is.isEmpty)
 |.ro ns=>some (!ns.isEmpty)
 |.mu n=>match hd[n]? with
  |some (.lst ds)=>some (!ds.isEmpty)
  |some (.dic ds)=>some (!ds.isEmpty)
  |none=>none
def D4{α β:Type}{xs:List α}{ys:List β}(h:xs.length=ys.length):xs.isEmpty=ys.isEmpty:=by
 cases xs<;>cases ys<;>simp_all
def RKs.len:∀{ds:List (Key×D)} {xs:List (Key×V)},RKs K ρ H ds xs->xs.length=ds.length
 |[],xs,h=>by simp only[RKs]at h;rw[h];rfl
 |d::ds,xs,h=>by
  simp only[RKs]at h;obtain⟨x,r,rfl,_,_,z⟩:=h;simp[RKs.len z]
def Um{d:D}{v:V}{b:Bool}(hR:RH K ρ H hd)(h:RD K ρ H d v)(e:EE hd d=some b):Mv K v H b:=by
 cases d with
 |im i=>
  cases i with
  |non=>simp only[RD,RI]at h;subst h;simp only[EE,Option.some.injEq]at e;subst e;exact rfl
  |bl c=>simp only[RD,RI]at h;subst h;simp only[EE,Option.some.injEq]at e;subst e;exact rfl
  |int c=>simp only[RD,RI]at h;subst h;simp only[EE,Option.some.injEq]at e;subst e;exact rfl
  |str c=>
   simp only[RD,RI]at h;subst h;simp only[EE]at e;split at e
   .next z=>cases e;exact⟨z,rfl⟩
   .cases e
  |tup is=>
   obtain⟨a,xs,rfl,q,r⟩:=h.tup (ds:=is.map .im) rfl;simp only[EE,Option.some.injEq]at e;subst e;exact .inr (.inl ⟨xs,q,by rw[D4 (show xs.length=is.length by simpa using r.len)]⟩)
 |tm ds=>
  obtain⟨a,xs,rfl,q,r⟩:=h.tup (ds:=ds) rfl;simp only[EE,Option.some.injEq]at e;subst e;exact .inr (.inl ⟨xs,q,by rw[D4 r.len]⟩)
 |ro ns=>
  obtain⟨a,xs,rfl,q,r⟩:=h.lst hR (hd:=hd) (ds:=ns.map λn=>.im (.int n)) rfl;simp only[EE,Option.some.injEq]at e;subst e;exact .inl ⟨xs,q,by rw[D4 (show xs.length=ns.length by simpa using r.len)]⟩
 |mu n=>
  simp only[RD]at h;obtain⟨a,hn,rfl⟩:=h;simp only[EE]at e;split at e
  .next q=>
   cases e;obtain⟨xs,e1,e2⟩:=hR.lst hn q;exact .inl ⟨xs,SqL.of e1,by rw[D4 e2.len]⟩
  .next q=>
   cases e;obtain⟨xs,e1,e2⟩:=hR.dic hn q;exact .inr (.inr ⟨xs,e1,by rw[D4 e2.len]⟩)
  .cases e
def BM(ma:ME):MT:=λls hd=>(ma ls hd).bind λp=>(EE p.2 p.1).map (·,p.2)
def SG{ta:TE}{ma:ME}(ha:RE K ta ma):RT K (λσ H Q=>ta σ H λx H'=>∃k,Mv K x H' k/\Q k H') (BM ma):=by
 and_intros;obtain⟨⟨d1,h1⟩,e1,hm⟩:=dL hm;obtain⟨b,e2,e3⟩:=dM hm;cases e3;exact ha ρ σ H hd ls _ d1 h1 hR hL e1 λρ1 H1 v x1 R1 r1=>⟨_,Um R1 r1 e2,hQ ρ1 H1 x1 R1⟩
def AE(ma:ME):MT:=λls hd=>(ma ls hd).bind λp=>match p.1 with
 |.im (.bl b)=>some (b,p.2)
 |_=>none
def EY{ta:TE}{ma:ME}(ha:RE K ta ma):RT K (LB ta) (AE ma):=by
 and_intros;obtain⟨⟨d1,h1⟩,e1,hm⟩:=dL hm;dsimp only at hm;split at hm
 .cases hm;exact ha ρ σ H hd ls _ _ _ hR hL e1 λρ1 H1 v x1 R1 r1=>⟨_,by simpa only[RD,RI]using r1,hQ ρ1 H1 x1 R1⟩
 .cases hm
def SH{ta:TE}{ma:ME}(ha:RE K ta ma):RT K (tB ta) (AE ma):=EY ha
def mIf(c:MT)(ma mb:ME):ME:=λls hd=>(c ls hd).bind λp=>if p.1=true then ma ls p.2 else mb ls p.2
def Zw{tc:TT}{c:MT}{ta tb:TE}{ma mb:ME}(hc:RT K tc c)(ha:RE K ta ma)(hb:RE K tb mb):RE K (tIf tc ta tb) (mIf c ma mb):=by
 and_intros;obtain⟨⟨d1,h1⟩,e1,hm⟩:=dL hm;refine hc ρ σ H hd ls _ d1 h1 hR hL e1 λρ1 H1 x1 R1=>?_;cases d1 with
 |true=>
  rw[if_pos rfl]at hm ⊢;exact ha ρ1 σ H1 h1 ls Q d hd' R1 (hL.ext hR x1) hm λρ2 H2 v x2 R2 r2=>hQ ρ2 H2 v (x1.trans R1 x2) R2 r2
 |false=>
  rw[if_neg Bool.false_ne_true]at hm ⊢;exact hb ρ1 σ H1 h1 ls Q d hd' R1 (hL.ext hR x1) hm λρ2 H2 v x2 R2 r2=>hQ ρ2 H2 v (x1.trans R1 x2) R2 r2
def DT(ma mb:ME):ME:=λls hd=>(AE ma ls hd).bind λp=>if p.1=true then mb ls p.2 else some (.im (.bl false),p.2)
def Js(ma mb:ME):ME:=λls hd=>(AE ma ls hd).bind λp=>if p.1=true then some (.im (.bl true),p.2)else mb ls p.2
def HY(ma:ME):ME:=λls hd=>(AE ma ls hd).bind λp=>some (.im (.bl (!p.1)),p.2)
def VE{ta tb:TE}{ma mb:ME}(ha:RE K ta ma)(hb:RE K tb mb):RE K (ON ta tb) (DT ma mb):=by
 and_intros;obtain⟨⟨d1,h1⟩,e1,hm⟩:=dL hm;refine EY ha ρ σ H hd ls (λc H1=>if c=true then tb σ H1 Q else Q (.bl false) H1) d1 h1 hR hL e1 λρ1 H1 x1 R1=>?_;cases d1 with
 |true=>
  rw[if_pos rfl]at hm ⊢;exact hb ρ1 σ H1 h1 ls Q d hd' R1 (hL.ext hR x1) hm λρ2 H2 v x2 R2 r2=>hQ ρ2 H2 v (x1.trans R1 x2) R2 r2
 |false=>
  rw[if_neg Bool.false_ne_true]at hm ⊢;cases hm;exact hQ ρ1 H1 _ x1 R1 (by simp[RD,RI])
def Xh{ta tb:TE}{ma mb:ME}(ha:RE K ta ma)(hb:RE K tb mb):RE K (Ry ta tb) (Js ma mb):=by
 and_intros;obtain⟨⟨d1,h1⟩,e1,hm⟩:=dL hm;refine EY ha ρ σ H hd ls (λc H1=>if c=true then Q (.bl true) H1 else tb σ H1 Q) d1 h1 hR hL e1 λρ1 H1 x1 R1=>?_;cases d1 with
 |true=>
  rw[if_pos rfl]at hm ⊢;cases hm;exact hQ ρ1 H1 _ x1 R1 (by simp[RD,RI])
 |false=>
  rw[if_neg Bool.false_ne_true]at hm ⊢;exact hb ρ1 σ H1 h1 ls Q d hd' R1 (hL.ext hR x1) hm λρ2 H2 v x2 R2 r2=>hQ ρ2 H2 v (x1.trans R1 x2) R2 r2
def VA{ta:TE}{ma:ME}(ha:RE K ta ma):RE K (OH ta) (HY ma):=by
 and_intros;obtain⟨⟨d1,h1⟩,e1,hm⟩:=dL hm;cases hm;exact EY ha ρ σ H hd ls (λc H1=>Q (.bl (!c)) H1) d1 h1 hR hL e1 λρ1 H1 x1 R1=>hQ ρ1 H1 _ x1 R1 (by simp[RD,RI])
def A4:MA:=λ_ hd=>some ([],hd)
def A2(ma:ME)(mr:MA):MA:=λls hd=>(ma ls hd).bind λp=>(mr ls p.2).bind λq=>some (p.1::q.1,q.2)
def Xq:RA K C2 A4:=by
 and_intros;cases hm;exact hQ ρ H [] .refl hR .nil
def VH{ta:TE}{tr:TA}{ma:ME}{mr:MA}(ha:RE K ta ma)(hr:RA K tr mr):RA K (BD ta tr) (A2 ma mr):=by
 and_intros;obtain⟨⟨d1,h1⟩,e1,hm⟩:=dL hm;obtain⟨⟨d2,h2⟩,e2,hm⟩:=dL hm;cases hm;refine ha ρ σ H hd ls _ d1 h1 hR hL e1 λρ1 H1 v1 x1 R1 r1=>?_;exact hr ρ1 σ H1 h1 ls _ d2 _ R1 (hL.ext hR x1) e2 λρ2 H2 v2 x2 R2 r2=>hQ ρ2 H2 _ (x1.trans R1 x2) R2 (.cons (r1.ext R1 x2) r2)
open Classical in
def CO(ma:MA):ME:=λls hd=>(ma ls hd).bind λp=>if Bl p.1.length then some (AX p.1,p.2)else none
def Xf{t:TA}{m:MA}(h:RA K t m):RE K (Rt t) (CO m):=by
 and_intros;obtain⟨⟨d1,h1⟩,e1,hm⟩:=dL hm;dsimp only at hm;split at hm
 .next z=>
  cases hm;refine h ρ σ H hd ls _ d1 _ hR hL e1 λρ1 H1 v1 x1 R1 r1=>⟨by rw[r1.len];exact z,λp hp=>?_⟩
  obtain⟨R2,x2⟩:=R1.hid (ho:=.tup v1) hp;exact hQ ρ1 _ _ (x1.trans R1 x2) R2 (BL (SqT.of AK) (r1.ext R1 x2))
 .cases hm
open Classical in
def C4(ma:MA):MA:=λls hd=>(ma ls hd).bind λp=>if Bl p.1.length then some (p.1,p.2)else none
def RH.out(hR:RH K ρ H hd){a:Addr}(h:H a=none):a∉ρ:=λm=>by rcases hR.mut m with⟨y,z⟩|⟨y,z⟩<;>(rw[h]at z;cases z)
def Ext.none(e:Ext ρ H ρ' H')(hR:RH K ρ H hd){a:Addr}(h:H' a=none)(hR':RH K ρ' H' hd'):H a=none:=by
 cases q:H a with
 |none=>rfl
 |some o=>
  by_cases m:a∈ρ
  .obtain⟨r,rfl,_⟩:=e.pre;exact absurd (mem_append_left r m) (hR'.out h)
  .by_cases t:∃ps,o=.tbl ps
   .obtain⟨ps,rfl⟩:=t;obtain⟨ps',this⟩:=e.tab a ps q;rw[h]at this;cases this
   .rw[e.keep a o q m λps y=>t ⟨ps,y⟩]at h;cases h
def XZ{t:TA}{m:MA}(h:RA K t m):RN K (S0 t) (C4 m):=by
 and_intros;obtain⟨⟨d1,h1⟩,e1,hm⟩:=dL hm;dsimp only at hm;split at hm
 .next z=>
  cases hm;refine h ρ σ H hd ls _ _ _ hR hL e1 λρ1 H1 v1 x1 R1 r1=>⟨by rw[r1.len];exact z,λp hp=>?_⟩
  obtain⟨R2,x2⟩:=R1.hid (ho:=.lst v1) hp;exact hQ ρ1 _ p v1 (x1.trans R1 x2) R2 (x1.none hR hp R1) (R1.out hp) AK (r1.ext R1 x2)
 .cases hm
def B8(ml:MA):ME:=λls hd=>(ml ls hd).bind λp=>some (.mu p.2.length,p.2++[.lst p.1])
def RH.name(hR:RH K ρ H hd){a:Addr}{xs:List V}{ds:List D}(out:a∉ρ)(e:H a=some (.lst xs))(r:RDs K ρ H ds xs):RH K (ρ++[a]) H (hd++[.lst ds]):=by
 have mono:∀{o:MO} {ho:HO},RC K ρ H o ho->RC K (ρ++[a]) H o ho:=λc=>c.mono Grow.refl [a];refine⟨by simp[hR.len],?_,hR.tabs,λn o' b e1 e2=>?_⟩
 .rw[nodup_append];refine⟨hR.nd,by simp,λx hx y hy z=>?_⟩;simp at hy;subst hy;subst z;exact out hx
 .by_cases hn:n<ρ.length
  .rw[List.getElem?_append_left hn]at e2;rw[List.getElem?_append_left (by rw[<- hR.len];exact hn)]at e1;obtain⟨ho',q1,q2⟩:=hR.ob n o' b e1 e2;exact⟨ho',q1,mono q2⟩
  .have hn':n=ρ.length:=by
    have:=(List.getElem?_eq_some_iff.mp e2).1;simp at this;omega
   subst hn';simp at e2;rw[hR.len]at e1;simp at e1;subst e1;subst e2;exact⟨_,e,mono ⟨xs,rfl,r⟩⟩
def Ext.name(e:Ext ρ H ρ' H'){a:Addr}(h:H a=Option.none):Ext ρ H (ρ'++[a]) H':=by
 obtain⟨r,rfl,f⟩:=e.pre;refine⟨⟨r++[a],by simp,λb m=>?_⟩,e.keep,e.tab⟩;rcases mem_append.mp m with m|m
 .exact f b m
 .simp at m;subst m;exact h
def Q6{t:TE}{m:MA}(h:RN K t m):RE K t (B8 m):=by
 and_intros;obtain⟨⟨d1,h1⟩,e1,hm⟩:=dL hm;cases hm;refine h ρ σ H hd ls Q d1 h1 hR hL e1 λρ1 H1 a xs x1 R1 na oa ea r1=>?_;refine hQ (ρ1++[a]) H1 _ (x1.name na) (R1.name oa ea r1) ?_;simp only[RD];exact⟨a,by rw[<- R1.len];simp,rfl⟩
end
section
variable{K:PySem.W.Frag}{ρ ρ':List Addr}{H H':Hp}{hd hd':Hd}
def fI(g:Int->Int->Option I):D->D->Hd->Option (D×Hd)
 |.im (.int i),.im (.int j),hd=>(g i j).map (.im ·,hd)
 |_,_,_=>none
def Oc{C:Int->Int->Prop}{g:Int->Int->V}{f:Int->Int->Option I}(h:∀i j z,f i j=some z->C i j/\∀H,RI K H z (g i j)):RB K (rI C g) (fI f):=by
 intro ρ H hd d e v u Q z hd' hR h1 h2 hf hQ;unfold fI at hf;split at hf
 .simp only[RD,RI]at h1 h2;subst h1 h2;obtain⟨w,e1,e2⟩:=dM hf;cases e2;obtain⟨c,r⟩:=h _ _ _ e1;exact⟨_,_,rfl,rfl,c,hQ ρ H _ .refl hR (by simpa only[RD]using r H)⟩
 .cases hf
def HU{g:Int->Int->V}{f:Int->Int->I}(h:∀i j H,RI K H (f i j) (g i j)):RB K (rI0 g) (fI λi j=>some (f i j)):=by
 intro ρ H hd d e v u Q z hd' hR h1 h2 hf hQ;unfold fI at hf;split at hf
 .simp only[RD,RI]at h1 h2;subst h1 h2;cases hf;exact⟨_,_,rfl,rfl,hQ ρ H _ .refl hR (by simpa only[RD]using h _ _ H)⟩
 .cases hf
def ES(f g:D->D->Hd->Option (D×Hd)):D->D->Hd->Option (D×Hd):=λd e hd=>match f d e hd with
 |some z=>some z
 |none=>g d e hd
def Dj{r r':R2}{f g:D->D->Hd->Option (D×Hd)}(h:RB K r f)(h':RB K r' g):RB K (λx y H Q=>r x y H Q∨r' x y H Q) (ES f g):=by
 intro ρ H hd d e v u Q z hd' hR h1 h2 hf hQ;unfold ES at hf;split at hf
 .next q=>cases hf;exact .inl (h ρ H hd d e v u Q z hd' hR h1 h2 q hQ)
 .exact .inr (h' ρ H hd d e v u Q z hd' hR h1 h2 hf hQ)
abbrev Jz:D->D->Hd->Option (D×Hd):=fI λi j=>some (.int (i+j))
abbrev Cn:D->D->Hd->Option (D×Hd):=fI λi j=>some (.int (i-j))
def QH:RB K (rI0 λi j=>.int (i+j)) Jz:=HU λ_ _ _=>by simp[RI]
def Xm:RB K (rI0 λi j=>.int (i-j)) Cn:=HU λ_ _ _=>by simp[RI]
open Classical in
abbrev Cw:D->D->Hd->Option (D×Hd):=fI λi j=>if Du i j then some (.int (i*j))else none
def Xo:RB K (rI CMul λi j=>.int (i*j)) Cw:=Oc λi j z h=>by
 split at h
 .next q=>cases h;exact⟨q,λ_=>by simp[RI]⟩
 .cases h
open Classical in
abbrev Ep:D->D->Hd->Option (D×Hd):=fI λi j=>if CU j then some (.int (i%j))else none
def Xp:RB K (rI (λ_ j=>0<j) λi j=>.int (i%j)) Ep:=Oc λi j z h=>by
 split at h
 .next q=>cases h;exact⟨q,λ_=>by simp[RI]⟩
 .cases h
open Classical in
abbrev F7:D->D->Hd->Option (D×Hd):=fI λi j=>if Hh j then some (.int (i/j))else none
def VF:RB K (rI Zk λi j=>.int (i/j)) F7:=Oc λi j z h=>by
 split at h
 .next q=>cases h;exact⟨q,λ_=>by simp[RI]⟩
 .cases h
open Classical in
abbrev Ti:D->D->Hd->Option (D×Hd):=fI λi j=>if Oi i j then some (.int (i^j.toNat))else none
def Xn:RB K (rI Zj λi j=>.int (i^j.toNat)) Ti:=Oc λi j z h=>by
 split at h
 .next q=>cases h;exact⟨q,λ_=>by simp[RI]⟩
 .cases h
abbrev gLt:D->D->Hd->Option (D×Hd):=fI λi j=>some (.bl (decide (i<j)))
abbrev gLe:D->D->Hd->Option (D×Hd):=fI λi j=>some (.bl (decide (i<=j)))
abbrev gGt:D->D->Hd->Option (D×Hd):=fI λi j=>some (.bl (decide (j<i)))
abbrev gGe:D->D->Hd->Option (D×Hd):=fI λi j=>some (.bl (decide (j<=i)))
def UB:RB K (rI0 λi j=>.bl (decide (i<j))) gLt:=HU λ_ _ _=>by simp[RI]
def UC:RB K (rI0 λi j=>.bl (decide (i<=j))) gLe:=HU λ_ _ _=>by simp[RI]
def Zz:RB K (rI0 λi j=>.bl (decide (j<i))) gGt:=HU λ_ _ _=>by simp[RI]
def UD:RB K (rI0 λi j=>.bl (decide (j<=i))) gGe:=HU λ_ _ _=>by simp[RI]
def scI:I->Option V
 |.non=>some .non
 |.bl b=>some (.bl b)
 |.int i=>some (.int i)
 |.str x=>some (.str x)
 |.tup _=>none
def Il{i:I}{v w:V}(e:scI i=some w)(h:RI K H i v):v=w:=by
 cases i with
 |tup _=>simp[scI]at e
 |_=>simp only[scI,Option.some.injEq]at e;subst e;simpa only[RI]using h
def EK(neg:Bool):D->D->Hd->Option (D×Hd)
 |.im i,.im j,hd=>match scI i,scI j with
  |some x,some y=>if Lf x y=true then some (.im (.bl (if neg then !decide (x=y)else decide (x=y))),hd)else none
  |_,_=>none
 |_,_,_=>none
def QC:RB K rEq (EK false):=by
 intro ρ H hd d e v u Q z hd' hR h1 h2 hf hQ;unfold EK at hf;split at hf
 .split at hf
  .next x y e1 e2=>
   split at hf
   .next s=>
    cases hf;simp only[RD]at h1 h2;rw[Il e1 h1,Il e2 h2];exact⟨s,hQ ρ H _ .refl hR (by simp[RD,RI])⟩
   .cases hf
  .cases hf
 .cases hf
def Q9:RB K rNe (EK true):=by
 intro ρ H hd d e v u Q z hd' hR h1 h2 hf hQ;unfold EK at hf;split at hf
 .split at hf
  .next x y e1 e2=>
   split at hf
   .next s=>
    cases hf;simp only[RD]at h1 h2;rw[Il e1 h1,Il e2 h2];exact⟨s,hQ ρ H _ .refl hR (by simp[RD,RI])⟩
   .cases hf
  .cases hf
 .cases hf
mutual
def I.py:I->PyData
 |.non=>.none
 |.bl b=>.bool b
 |.int i=>.int i
 |.str x=>.str x
 |.tup ds=>.tuple (I.pys ds)
def I.pys:List I->List PyData
 |[]=>[]
 |d::ds=>I.py d::I.pys ds
end
mutual
def RI.rep:∀{i:I} {v:V},RI K H i v->Rep K H i.py v
 |.non,v,h=>by simpa only[RI,I.py,Rep]using h
 |.bl _,v,h=>by simpa only[RI,I.py,Rep]using h
 |.int _,v,h=>by simpa only[RI,I.py,Rep]using h
 |.str _,v,h=>by simpa only[RI,I.py,Rep]using h
 |.tup ds,v,h=>by
  simp only[RI]at h;obtain⟨a,xs,e,q,r⟩:=h;simp only[I.py,Rep];exact⟨a,xs,e,q,RIs.rep r⟩
def RIs.rep:∀{i:List I} {v:List V},RIs K H i v->CK K H (I.pys i) v
 |[],v,h=>by simpa only[RIs,I.pys,CK]using h
 |d::ds,v,h=>by
  simp only[RIs]at h;obtain⟨x,r,e,q,z⟩:=h;simp only[I.pys,CK];exact⟨x,r,e,q.rep,RIs.rep z⟩
end
def pyD(hd:Hd):D->Option PyData
 |.im i=>some i.py
 |.mu n=>match hd[n]? with
  |some (.lst ds)=>(BU ds).map λis=>.list (I.pys is)
  |_=>none
 |.ro ns=>some (.list (I.pys (ns.map I.int)))
 |_=>none
def FZ{d:D}{v:V}{p:PyData}(hR:RH K ρ H hd)(h:RD K ρ H d v)(e:pyD hd d=some p):Rep K H p v:=by
 cases d with
 |im i=>simp only[pyD,Option.some.injEq]at e;subst e;simp only[RD]at h;exact h.rep
 |mu n=>
  simp only[pyD]at e;simp only[RD]at h;obtain⟨a,hn,rfl⟩:=h;split at e
  .next q=>
   obtain⟨is,e1,rfl⟩:=dM e;obtain⟨xs,e2,e3⟩:=hR.lst hn q;rw[GL e1]at e3;simp only[Rep];exact⟨a,xs,rfl,SqL.of e2,e3.is.rep⟩
  .cases e
 |ro ns=>
  simp only[pyD,Option.some.injEq]at e;subst e;obtain⟨a,xs,rfl,q,r⟩:=h.lst hR (hd:=hd) (ds:=ns.map λn=>.im (.int n)) rfl;simp only[Rep];refine⟨a,xs,rfl,q,RIs.rep (RDs.is (ρ:=ρ) ?_)⟩;rw[map_map];exact r
 |tm _=>simp[pyD]at e
def G9(neg:Bool):D->D->Hd->Option (D×Hd):=λd e hd=>match pyD hd d,pyD hd e with
 |some x,some y=>if x.canLay0=true/\y.canLay0=true/\min x.depth y.depth<=60 then some (.im (.bl (if neg then !PyData.eqv x y else PyData.eqv x y)),hd)else none
 |_,_=>none
def QD:RB K (Sc K) (G9 false):=by
 intro ρ H hd d e v u Q z hd' hR h1 h2 hf hQ;unfold G9 at hf;split at hf
 .next e1 e2=>
  split at hf
  .next c=>cases hf;exact⟨_,_,FZ hR h1 e1,FZ hR h2 e2,c.1,c.2.1,c.2.2,hQ ρ H _ .refl hR (by simp[RD,RI])⟩
  .cases hf
 .cases hf
def QB:RB K (Sa K) (G9 true):=by
 intro ρ H hd d e v u Q z hd' hR h1 h2 hf hQ;unfold G9 at hf;split at hf
 .next e1 e2=>
  split at hf
  .next c=>cases hf;exact⟨_,_,FZ hR h1 e1,FZ hR h2 e2,c.1,c.2.1,c.2.2,hQ ρ H _ .refl hR (by simp[RD,RI])⟩
  .cases hf
 .cases hf
abbrev gEq:=ES (EK false) (G9 false)
abbrev gNe:=ES (EK true) (G9 true)
def gIx:D->D->Hd->Option (D×Hd)
 |d,.im (.int i),hd=>(Az hd d).bind λds=>(atI ds i).map (·,hd)
 |_,_,_=>none
def O6{α β:Type}{xs:List α}{ys:List β}{i:Int}{y:β}(h:xs.length=ys.length)(e:atI ys i=some y):∃(j:Nat),ys[j]?=some y/\∀x,xs[j]?=some x->atI xs i=some x:=by
 unfold atI at e;obtain⟨j,e1,e2⟩:=dL e;exact⟨j,e2,λx q=>by unfold atI;rw[h,e1];exact q⟩
def LI(K:PySem.W.Frag):R2:=λx y H Q=>Jh K x y H Q∨Sb K x y H Q
def Zx:RB K (LI K) gIx:=by
 intro ρ H hd d e v u Q z hd' hR h1 h2 hf hQ;unfold gIx at hf;split at hf
 .obtain⟨ds,e1,hf⟩:=dL hf;obtain⟨w,e2,e3⟩:=dM hf;cases e3;obtain⟨a,xs,rfl,q,r⟩:=h1.seq hR e1;simp only[RD,RI]at h2;subst h2;obtain⟨j,j1,j2⟩:=O6 r.len e2;obtain⟨x,x1,x2⟩:=r.get j1;rcases q with q|q
  .exact .inl ⟨a,xs,_,x,rfl,rfl,q,j2 x x1,hQ ρ H x .refl hR x2⟩
  .exact .inr ⟨a,xs,_,x,rfl,rfl,q,j2 x x1,hQ ρ H x .refl hR x2⟩
 .cases hf
def Ci(xs:List D)(lo hi:Option Int):List D:=(xs.drop (HT.sIx xs.length 0 lo)).take (HT.sIx xs.length xs.length hi-HT.sIx xs.length 0 lo)
def O2{ds:List D}{xs:List V}{lo hi:Option Int}(r:RDs K ρ H ds xs):RDs K ρ H (Ci ds lo hi) (FN xs lo hi):=by
 unfold Ci FN;rw[r.len];exact(r.drop _).take _
abbrev MO1:=Ls->Hd->Option (Option Int×Hd)
def RO1(K:PySem.W.Frag)(t:TO)(m:MO1):Prop:=∀(ρ:List Addr) (σ:St) (H:Hp) (hd:Hd) (ls:Ls) (Q:Option Int->Hp->Prop) (d:Option Int) (hd':Hd),RH K ρ H hd->RL K ρ H ls σ->m ls hd=some (d,hd') ->
 (∀ρ' H',Ext ρ H ρ' H'->RH K ρ' H' hd'->Q d H')->t σ H Q
def Dk:MO1:=λ_ hd=>some (none,hd)
def G4(m:ME):MO1:=λls hd=>(m ls hd).bind λp=>match p.1 with
 |.im (.int i)=>some (some i,p.2)
 |_=>none
def V1:RO1 K JX Dk:=by
 and_intros;cases hm;exact hQ ρ H .refl hR
def V0{t:TE}{m:ME}(h:RE K t m):RO1 K (OG t) (G4 m):=by
 and_intros;obtain⟨⟨d1,h1⟩,e1,hm⟩:=dL hm;dsimp only at hm;split at hm
 .cases hm;exact h ρ σ H hd ls _ _ _ hR hL e1 λρ1 H1 v x1 R1 r1=>⟨_,by simpa only[RD,RI]using r1,hQ ρ1 H1 x1 R1⟩
 .cases hm
def bM(m:ME)(ml mh:MO1):ME:=λls hd=>(m ls hd).bind λp=>(ml ls p.2).bind λl=>(mh ls l.2).bind λh=>(AZ p.1).bind λds=>
 if ¬ (HT.sIx ds.length 0 l.1=0/\HT.sIx ds.length ds.length h.1=ds.length)then some (AX (Ci ds l.1 h.1),h.2)else none
def Jq(m:ME)(ml mh:MO1):MA:=λls hd=>(m ls hd).bind λp=>(ml ls p.2).bind λl=>(mh ls l.2).bind λh=>(B6 h.2 p.1).bind λds=>some (Ci ds l.1 h.1,h.2)
def XX{t:TE}{tl th:TO}{m:ME}{ml mh:MO1}(h:RE K t m)(hl:RO1 K tl ml)(hh:RO1 K th mh):RN K (tSl (Oe K) t tl th) (Jq m ml mh):=by
 and_intros;obtain⟨⟨d1,h1⟩,e1,hm⟩:=dL hm;obtain⟨⟨d2,h2⟩,e2,hm⟩:=dL hm;obtain⟨⟨d3,h3⟩,e3,hm⟩:=dL hm;obtain⟨ds,e4,hm⟩:=dL hm;dsimp only at e2 e3 e4 hm;cases hm;refine h ρ σ H hd ls _ d1 h1 hR hL e1 λρ1 H1 v1 x1 R1 r1=>?_;refine hl ρ1 σ H1 h1 ls _ d2 h2 R1 (hL.ext hR x1) e2 λρ2 H2 x2 R2=>?_;refine hh ρ2 σ H2 h2 ls _ d3 _ R2 (hL.ext hR (x1.trans R1 x2)) e3 λρ3 H3 x3 R3=>?_;obtain⟨a,xs,rfl,q,r⟩:=RD.lst R3 ((r1.ext R1 x2).ext R2 x3) e4;refine⟨a,xs,rfl,q,λp hp=>?_⟩;obtain⟨R4,x4⟩:=R3.hid (ho:=.lst (FN xs d2 d3)) hp;have x123:=(x1.trans R1 x2).trans R2 x3;exact hQ ρ3 _ p _ (x123.trans R3 x4) R4 (x123.none hR hp R3) (R3.out hp) AK ((O2 r).ext R3 x4)
def mCB(f:List D->Hd->Option (D×Hd))(ma:MA):ME:=λls hd=>(ma ls hd).bind λp=>f p.1 p.2
def U9{r:List V->Hp->VK->Prop}{f:List D->Hd->Option (D×Hd)}{t:TA}{m:MA}(hr:RF K r f)(h:RA K t m):RE K (tCB r t) (mCB f m):=by
 and_intros;obtain⟨⟨d1,h1⟩,e1,hm⟩:=dL hm;refine h ρ σ H hd ls _ d1 h1 hR hL e1 λρ1 H1 v1 x1 R1 r1=>?_;exact hr ρ1 H1 h1 d1 v1 Q d hd' R1 r1 hm λρ' H' w x2 R2 r2=>hQ ρ' H' w (x1.trans R1 x2) R2 r2
def f1(tp:Bool)(g:List D->Option D):List D->Hd->Option (D×Hd)
 |[d],hd=>((if tp then Az hd d else B6 hd d)).bind λds=>(g ds).map (·,hd)
 |_,_=>none
def IA{tp:Bool}{r:List V->Hp->VK->Prop}{g:List D->Option D}(h:RG K tp r g):RF K r (f1 tp g):=by
 intro ρ H hd ds vs Q z hd' hR h1 hf hQ;unfold f1 at hf;split at hf
 .next d hd'=>
  obtain⟨es,e1,hf⟩:=dL hf;obtain⟨w,e2,e3⟩:=dM hf;cases e3;simp only[RDs]at h1;obtain⟨x,r,rfl,rx,rfl⟩:=h1;cases tp with
  |true=>
   rw[if_pos rfl]at e1;obtain⟨a,xs,rfl,q,rr⟩:=rx.seq hR e1;exact h ρ H hd a xs es Q z hR (q.imp id λq=>⟨rfl,q⟩) rr e2 λH' w x R r=>hQ ρ H' w x R r
  |false=>
   rw[if_neg Bool.false_ne_true]at e1;obtain⟨a,xs,rfl,q,rr⟩:=rx.lst hR e1;exact h ρ H hd a xs es Q z hR (.inl q) rr e2 λH' w x R r=>hQ ρ H' w x R r
 .cases hf
def BN(g:List D->Option D)(ml:MA):ME:=λls hd=>(ml ls hd).bind λp=>(g p.1).map (·,p.2)
def Q8{tp:Bool}{r:List V->Hp->VK->Prop}{g:List D->Option D}{t:TE}{m:MA}(hr:RG K tp r g)(h:RN K t m):RE K (tCB r (BD t C2)) (BN g m):=by
 and_intros;obtain⟨⟨d1,h1⟩,e1,hm⟩:=dL hm;obtain⟨w,e2,e3⟩:=dM hm;cases e3;refine h ρ σ H hd ls _ d1 _ hR hL e1 λρ1 H1 a xs x1 R1 na oa ea r1=>?_;exact hr ρ1 H1 _ a xs d1 Q d R1 (.inl (SqL.of ea)) r1 e2 λH' w x R r=>hQ ρ1 H' w (x1.trans R1 x) R r
def BT(ds:List D):Option D:=some (.im (.int ds.length))
def Xd:RG K true (Xu K) BT:=by
 intro ρ H hd a xs ds Q z hR q r e hQ;cases e;refine⟨a,xs,rfl,q.imp id λq=>q.2,?_⟩;rw[r.len];exact hQ H _ .refl hR (by simp[RD,RI])
def BR(ds:List D):Option D:=some (AX ds)
def Lo:RG K true (Lv K) BR:=by
 intro ρ H hd a xs ds Q z hR q r e hQ;cases e;refine⟨a,xs,rfl,?_⟩;rcases q with q|⟨_,q⟩
 .refine .inl ⟨q,λp hp=>?_⟩;obtain⟨R2,x2⟩:=hR.hid (ho:=.tup xs) hp;exact hQ _ _ x2 R2 (BL (SqT.of AK) (r.ext hR x2))
 .exact .inr ⟨q,hQ H _ .refl hR (BL q r)⟩
def FJ(ds:List D):Option D:=(As ds).map λns=>.im (.int ns.sum)
def bE(K:PySem.W.Frag):List V->Hp->VK->Prop:=λxs H Q=>UF K xs H Q∨UE K xs H Q
def Q0:RG K true (bE K) FJ:=by
 intro ρ H hd a xs ds Q z hR q r e hQ;obtain⟨ns,e1,rfl⟩:=dM e;rw[Dq e1]at r;have:=HQ r;subst this;rcases q with q|⟨_,q⟩
 .exact .inl ⟨a,ns,rfl,q,hQ H _ .refl hR (by simp[RD,RI])⟩
 .exact .inr ⟨a,ns,rfl,q,hQ H _ .refl hR (by simp[RD,RI])⟩
def Dp(ds:List D):Option D:=(C1 ds).map λbs=>.im (.bl (bs.all id))
def MU(ds:List D):Option D:=(C1 ds).map λbs=>.im (.bl (bs.any id))
def Q5:RG K false (Xw K) Dp:=by
 intro ρ H hd a xs ds Q z hR q r e hQ;obtain⟨ns,e1,rfl⟩:=dM e;rw[K6 e1]at r;have:=Lq r;subst this;rcases q with q|⟨q,_⟩
 .exact⟨a,ns,rfl,q,hQ H _ .refl hR (by simp[RD,RI])⟩
 .cases q
def Q4:RG K false (Xv K) MU:=by
 intro ρ H hd a xs ds Q z hR q r e hQ;obtain⟨ns,e1,rfl⟩:=dM e;rw[K6 e1]at r;have:=Lq r;subst this;rcases q with q|⟨q,_⟩
 .exact⟨a,ns,rfl,q,hQ H _ .refl hR (by simp[RD,RI])⟩
 .cases q
def FF:List Int->Int
 |[]=>0
 |[x]=>x
 |x::r=>if FF r>x then FF r else x
def Fz:List Int->Int
 |[]=>0
 |[x]=>x
 |x::r=>if Fz r<x then Fz r else x
def F3:∀{xs:List Int},xs≠[]->FF xs∈xs/\∀x∈xs,x<=FF xs
 |[],h=>absurd rfl h
 |[x],_=>by simp[FF]
 |x::y::r,_=>by
  obtain⟨h1,h2⟩:=F3 (xs:=y::r) (by simp);rw[FF];split
  .next h=>exact⟨mem_cons_of_mem _ h1,λz m=>by rcases mem_cons.mp m with rfl|m;omega;exact h2 z m⟩
  .next h=>exact⟨mem_cons_self,λz m=>by rcases mem_cons.mp m with rfl|m;omega;exact Int.le_trans (h2 z m) (by omega)⟩
  .simp
def Gw:∀{xs:List Int},xs≠[]->Fz xs∈xs/\∀x∈xs,Fz xs<=x
 |[],h=>absurd rfl h
 |[x],_=>by simp[Fz]
 |x::y::r,_=>by
  obtain⟨h1,h2⟩:=Gw (xs:=y::r) (by simp);rw[Fz];split
  .next h=>exact⟨mem_cons_of_mem _ h1,λz m=>by rcases mem_cons.mp m with rfl|m;omega;exact h2 z m⟩
  .next h=>exact⟨mem_cons_self,λz m=>by rcases mem_cons.mp m with rfl|m;omega;exact Int.le_trans (by omega) (h2 z m)⟩
  .simp
def IM(ds:List D):Option D:=(As ds).bind λns=>if ns=[]then none else some (.im (.int (FF ns)))
def MR(ds:List D):Option D:=(As ds).bind λns=>if ns=[]then none else some (.im (.int (Fz ns)))
def bF(K:PySem.W.Frag):List V->Hp->VK->Prop:=λxs H Q=>UI K xs H Q∨UH K xs H Q
def DI{α:Type}{xs:List α}(h:xs≠[]):0<xs.length:=by cases xs<;>simp_all
def Q3:RG K true (bF K) IM:=by
 intro ρ H hd a xs ds Q z hR q r e hQ;obtain⟨ns,e1,e⟩:=dL e;split at e
 .cases e
 .next hn=>
  cases e;rw[Dq e1]at r;have:=HQ r;subst this;have u:∀M:Int,M∈ns->(∀x∈ns,x<=M)->M=FF ns:=λM m1 m2=>by
   obtain⟨n1,n2⟩:=F3 hn;have:=n2 M m1;have:=m2 _ n1;omega
  rcases q with q|⟨_,q⟩
  .exact .inl ⟨a,ns,rfl,q,DI hn,λM m1 m2=>by rw[u M m1 m2];exact hQ H _ .refl hR (by simp[RD,RI])⟩
  .exact .inr ⟨a,ns,rfl,q,DI hn,λM m1 m2=>by rw[u M m1 m2];exact hQ H _ .refl hR (by simp[RD,RI])⟩
def Q2:RG K false (UG K) MR:=by
 intro ρ H hd a xs ds Q z hR q r e hQ;obtain⟨ns,e1,e⟩:=dL e;split at e
 .cases e
 .next hn=>
  cases e;rw[Dq e1]at r;have:=HQ r;subst this;have u:∀M:Int,M∈ns->(∀x∈ns,M<=x)->M=Fz ns:=λM m1 m2=>by
   obtain⟨n1,n2⟩:=Gw hn;have:=n2 M m1;have:=m2 _ n1;omega
  rcases q with q|⟨q,_⟩
  .exact⟨a,ns,rfl,q,DI hn,λM m1 m2=>by rw[u M m1 m2];exact hQ H _ .refl hR (by simp[RD,RI])⟩
  .cases q
def GD:List D->Hd->Option (D×Hd)
 |[.im (.int i),.im (.int j)],hd=>some (.im (.int (if j>i then j else i)),hd)
 |_,_=>none
def UV:List D->Hd->Option (D×Hd)
 |[.im (.int i),.im (.int j)],hd=>some (.im (.int (if j<i then j else i)),hd)
 |_,_=>none
def V7:RF K (λxs H Q=>∃i j,xs=[.int i,.int j]/\Q (.int (if j>i then j else i)) H) GD:=by
 intro ρ H hd ds vs Q z hd' hR h1 hf hQ;unfold GD at hf;split at hf
 .cases hf;simp only[RDs,RD,RI]at h1;obtain⟨x,r,rfl,rfl,y,r2,rfl,rfl,rfl⟩:=h1;exact⟨_,_,rfl,hQ ρ H _ .refl hR (by simp[RD,RI])⟩
 .cases hf
def bQ:List D->Hd->Option (D×Hd)
 |[.im (.int i)],hd=>some (.im (.int (if i<0 then -i else i)),hd)
 |_,_=>none
def aX(ma:ME):MA:=λls hd=>(ma ls hd).bind λp=>(Az p.2 p.1).map (·,p.2)
def Gz(ml:MA):MA:=ml
def SN{t:TE}{m:MA}(h:RN K t m):RN K (tCB (Jg K) (BD t C2)) (Gz m):=by
 and_intros;refine h ρ σ H hd ls _ d _ hR hL hm λρ1 H1 a xs x1 R1 na oa ea r1=>?_;refine⟨a,xs,rfl,.inl (SqL.of ea),λl hl=>?_⟩;obtain⟨R2,x2⟩:=R1.hid (ho:=.lst xs) hl;exact hQ ρ1 _ l xs (x1.trans R1 x2) R2 (x1.none hR hl R1) (R1.out hl) AK (r1.ext R1 x2)
def F8:I->Option V
 |.non=>some .non
 |.bl b=>some (.bl b)
 |.int i=>some (.int i)
 |.str x=>some (.str x)
 |.tup _=>none
def Cg:List D->Option (List V)
 |[]=>some []
 |.im i::r=>(F8 i).bind λv=>(Cg r).map (v::·)
 |_::_=>none
def Md{i:I}{v w:V}(e:F8 i=some w)(h:RI K H i v):v=w/\Dy w=true:=by
 cases i with
 |tup _=>simp[F8]at e
 |_=>simp only[F8,Option.some.injEq]at e;subst e;exact⟨by simpa only[RI]using h,rfl⟩
def KW:∀{ds:List D} {vs ws:List V},Cg ds=some ws->RDs K ρ H ds vs->vs=ws/\ws.all Dy=true
 |[],vs,ws,e,h=>by simp[Cg]at e;subst e;simp only[RDs]at h;subst h;exact⟨rfl,rfl⟩
 |.im i::r,vs,ws,e,h=>by
  simp only[Cg]at e;obtain⟨v,e1,e⟩:=dL e;obtain⟨us,e2,rfl⟩:=dM e;simp only[RDs,RD]at h;obtain⟨x,y,rfl,h1,h2⟩:=h;obtain⟨rfl,f1⟩:=Md e1 h1;obtain⟨rfl,f2⟩:=KW e2 h2;exact⟨rfl,by simp[f1,f2]⟩
 |.mu _::_,_,_,e,_=>by simp[Cg]at e
 |.tm _::_,_,_,e,_=>by simp[Cg]at e
 |.ro _::_,_,_,e,_=>by simp[Cg]at e
def gIn(neg:Bool):D->D->Hd->Option (D×Hd)
 |.im i,e,hd=>(F8 i).bind λx=>(Az hd e).bind λds=>(Cg ds).map λxs=>(.im (.bl (if neg then !inV x xs else inV x xs)),hd)
 |_,_,_=>none
def Zy{neg:Bool}:RB K (rIn K neg) (gIn neg):=by
 intro ρ H hd d e v u Q z hd' hR h1 h2 hf hQ;unfold gIn at hf;split at hf
 .obtain⟨x,e1,hf⟩:=dL hf;obtain⟨ds,e2,hf⟩:=dL hf;obtain⟨xs,e3,e4⟩:=dM hf;cases e4;simp only[RD]at h1;obtain⟨rfl,f1⟩:=Md e1 h1;obtain⟨a,ys,rfl,q,r⟩:=h2.seq hR e2;obtain⟨rfl,f2⟩:=KW e3 r;exact⟨a,ys,rfl,q,f1,f2,hQ ρ H _ .refl hR (by simp[RD,RI])⟩
 .cases hf
def mMt(f:D->List D->Hd->Option (D×Hd))(mo:ME)(ma:MA):ME:=λls hd=>(mo ls hd).bind λp=>match B6 p.2 p.1 with
 |some _=>(ma ls p.2).bind λq=>f p.1 q.1 q.2
 |none=>none
def RM(K:PySem.W.Frag)(r:V->List V->Hp->VK->Prop)(f:D->List D->Hd->Option (D×Hd)):Prop:=∀(ρ:List Addr) (H:Hp) (hd:Hd) (d:D) (v:V) (ds:List D) (vs:List V) (Q:VK) (z:D) (hd':Hd),RH K ρ H hd->RD K ρ H d v->RDs K ρ H ds vs->f d ds hd=some (z,hd') ->
 (∀ρ' H' w,Ext ρ H ρ' H'->RH K ρ' H' hd'->RD K ρ' H' z w->Q w H')->r v vs H Q
def Zv{r:V->List V->Hp->VK->Prop}{f:D->List D->Hd->Option (D×Hd)}{to:TE}{t:TA}{mo:ME}{ma:MA}(hr:RM K r f)(ho:RE K to mo)(ha:RA K t ma):RE K (tBM K "list" r to t) (mMt f mo ma):=by
 and_intros;obtain⟨⟨d1,h1⟩,e1,hm⟩:=dL hm;dsimp only at hm;split at hm
 .next e=>
  obtain⟨⟨d2,h2⟩,e2,hm⟩:=dL hm;refine ho ρ σ H hd ls _ d1 h1 hR hL e1 λρ1 H1 v x1 R1 r1=>⟨?_,?_⟩
  .obtain⟨a,xs,rfl,q,_⟩:=r1.lst R1 e;exact .inl ⟨rfl,xs,q⟩
  .exact ha ρ1 σ H1 h1 ls _ d2 h2 R1 (hL.ext hR x1) e2 λρ2 H2 vs x2 R2 r2=>hr ρ2 H2 h2 d1 v d2 vs Q d hd' R2 (r1.ext R1 x2) r2 hm λρ' H' w x3 R3 r3=>hQ ρ' H' w ((x1.trans R1 x2).trans R2 x3) R3 r3
 .cases hm
open Classical in
def BB:D->List D->Hd->Option (D×Hd)
 |.mu n,[x],hd=>match hd[n]? with
  |some (.lst ds)=>if GC ds.length then some (.im .non,hd.set n (.lst (ds++[x])))else none
  |_=>none
 |_,_,_=>none
def Pz:RM K Nc BB:=by
 intro ρ H hd d v ds vs Q z hd' hR h1 h2 hf hQ;unfold BB at hf;split at hf
 .split at hf
  .next q=>
   split at hf
   .next c=>
    cases hf;simp only[RD]at h1;obtain⟨a,hn,rfl⟩:=h1;simp only[RDs]at h2;obtain⟨x,r,rfl,rx,rfl⟩:=h2;obtain⟨xs,e1,e2⟩:=hR.lst hn q;obtain⟨R2,x2⟩:=hR.put hn (o:=.lst (_++[_])) (ho:=.lst (xs++[x])) ⟨_,rfl,e2.app (.cons rx .nil)⟩;exact⟨a,xs,x,rfl,rfl,e1,by rw[e2.len];exact c,hQ ρ _ _ x2 R2 (by simp[RD,RI])⟩
   .cases hf
  .cases hf
 .cases hf
end
end L2
namespace L2
open PySem PySem.Spec PyProof.Rows
section
variable{K:PySem.W.Frag}{ρ ρ':List Addr}{H H':Hp}{hd hd':Hd}
def AT:MS:=λls hd=>some (.nx ls,hd)
def NU:RS K Ie AT:=by
 intro ρ σ H hd ls E f hd' hR hL hm hQ;cases hm;exact hQ ρ H .refl hR σ hL
def AA(a b:MS):MS:=λls hd=>(a ls hd).bind λp=>match p.1 with
 |.nx ls1=>b ls1 p.2
 |f=>some (f,p.2)
def XU{t u:TS}{a b:MS}(ha:RS K t a)(hb:RS K u b):RS K (Rv t u) (AA a b):=by
 intro ρ σ H hd ls E f hd' hR hL hm hQ;obtain⟨⟨f1,h1⟩,e1,hm⟩:=dL hm;refine ha ρ σ H hd ls { E with nx:=u E } f1 h1 hR hL e1 λρ1 H1 x1 R1=>?_;cases f1 with
 |nx ls1=>
  intro σ1 L1;exact hb ρ1 σ1 H1 h1 ls1 E f hd' R1 L1 hm λρ2 H2 x2 R2=>hQ ρ2 H2 (x1.trans R1 x2) R2
 |bk ls1=>cases hm;exact hQ ρ1 H1 x1 R1
 |ct ls1=>cases hm;exact hQ ρ1 H1 x1 R1
 |rt d=>cases hm;exact hQ ρ1 H1 x1 R1
def Z9:MS:=λls hd=>some (.bk ls,hd)
def aZ:MS:=λls hd=>some (.ct ls,hd)
def C5(m:ME):MS:=λls hd=>(m ls hd).bind λp=>some (.nx ls,p.2)
def Uy{t:TE}{m:ME}(h:RE K t m):RS K (OJ t) (C5 m):=by
 intro ρ σ H hd ls E f hd' hR hL hm hQ;obtain⟨⟨d1,h1⟩,e1,hm⟩:=dL hm;cases hm;exact h ρ σ H hd ls _ d1 _ hR hL e1 λρ1 H1 v x1 R1 r1=>hQ ρ1 H1 x1 R1 σ (hL.ext hR x1)
def AM(m:ME):MS:=λls hd=>(m ls hd).bind λp=>some (.rt p.1,p.2)
def XV{t:TE}{m:ME}(h:RE K t m):RS K (Rx t) (AM m):=by
 intro ρ σ H hd ls E f hd' hR hL hm hQ;obtain⟨⟨d1,h1⟩,e1,hm⟩:=dL hm;cases hm;exact h ρ σ H hd ls _ d1 _ hR hL e1 λρ1 H1 v x1 R1 r1=>hQ ρ1 H1 x1 R1 v r1
def aV:MS:=λ_ hd=>some (.rt (.im .non),hd)
def Ae(c:MT)(a b:MS):MS:=λls hd=>(c ls hd).bind λp=>if p.1=true then a ls p.2 else b ls p.2
def Zt{tc:TT}{t u:TS}{c:MT}{a b:MS}(hc:RT K tc c)(ha:RS K t a)(hb:RS K u b):RS K (S5 tc t u) (Ae c a b):=by
 intro ρ σ H hd ls E f hd' hR hL hm hQ;obtain⟨⟨d1,h1⟩,e1,hm⟩:=dL hm;refine hc ρ σ H hd ls _ d1 h1 hR hL e1 λρ1 H1 x1 R1=>?_;cases d1 with
 |true=>
  rw[if_pos rfl]at hm ⊢;exact ha ρ1 σ H1 h1 ls E f hd' R1 (hL.ext hR x1) hm λρ2 H2 x2 R2=>hQ ρ2 H2 (x1.trans R1 x2) R2
 |false=>
  rw[if_neg Bool.false_ne_true]at hm ⊢;exact hb ρ1 σ H1 h1 ls E f hd' R1 (hL.ext hR x1) hm λρ2 H2 x2 R2=>hQ ρ2 H2 (x1.trans R1 x2) R2
def Cd:MS:=λ_ _=>none
def SI:RS K LY Cd:=by
 intro ρ σ H hd ls E f hd' hR hL hm hQ;cases hm
abbrev MG:=D->Ls->Hd->Option Ls
abbrev MGs:=List D->Ls->Hd->Option Ls
def RGt(K:PySem.W.Frag)(t:TG)(m:MG):Prop:=∀(ρ:List Addr) (σ:St) (H:Hp) (hd:Hd) (ls ls':Ls) (d:D) (v:V) (Q:St->Hp->Prop),RH K ρ H hd->RL K ρ H ls σ->RD K ρ H d v->m d ls hd=some ls' ->
 (∀σ',RL K ρ H ls' σ'->Q σ' H)->t v σ H Q
def Mx(K:PySem.W.Frag)(t:TGs)(m:MGs):Prop:=∀(ρ:List Addr) (σ:St) (H:Hp) (hd:Hd) (ls ls':Ls) (d:List D) (v:List V) (Q:St->Hp->Prop),RH K ρ H hd->RL K ρ H ls σ->RDs K ρ H d v->m d ls hd=some ls' ->
 (∀σ',RL K ρ H ls' σ'->Q σ' H)->t v σ H Q
def RL.set{ls:Ls}{σ:St}{d:D}{v:V}(h:RL K ρ H ls σ)(i:Nat)(r:RD K ρ H d v):RL K ρ H (ls.set i (some d)) (σ.set i (some v)):=by
 refine⟨by simp[h.len],λj e q=>?_⟩;by_cases hij:i=j
 .subst hij;have hl:i<ls.length:=by
   have:=(List.getElem?_eq_some_iff.mp q).1;simpa using this
  rw[List.getElem?_set_self hl]at q;cases q;exact⟨v,by rw[List.getElem?_set_self (by rw[<- h.len];exact hl)],r⟩
 .rw[List.getElem?_set_ne hij]at q;obtain⟨w,e1,e2⟩:=h.ob j e q;exact⟨w,by rw[List.getElem?_set_ne hij];exact e1,e2⟩
def AD(i:Nat):MG:=λd ls _=>some (ls.set i (some d))
def HP{i:Nat}:RGt K (Co i) (AD i):=by
 intro ρ σ H hd ls ls' d v Q hR hL hd hm hQ;cases hm;exact hQ _ (hL.set i hd)
def B1:MGs:=λds ls _=>match ds with
 |[]=>some ls
 |_=>none
def AH(m:MG)(r:MGs):MGs:=λds ls hd=>match ds with
 |d::es=>(m d ls hd).bind λls1=>r es ls1 hd
 |[]=>none
def V6:Mx K Tj B1:=by
 intro ρ σ H hd ls ls' d v Q hR hL hd hm hQ;cases d with
 |nil=>
  simp only[RDs]at hd;subst hd;cases hm;exact⟨rfl,hQ _ hL⟩
 |cons a b=>cases hm
def SS{t:TG}{u:TGs}{m:MG}{r:MGs}(h:RGt K t m)(h':Mx K u r):Mx K (PB t u) (AH m r):=by
 intro ρ σ H hd ls ls' d v Q hR hL hd hm hQ;cases d with
 |nil=>cases hm
 |cons a b=>
  simp only[RDs]at hd;obtain⟨x,y,rfl,h1,h2⟩:=hd;obtain⟨ls1,e1,e2⟩:=dL hm;exact⟨x,y,rfl,h ρ σ H _ ls ls1 a x _ hR hL h1 e1 λσ1 L1=>h' ρ σ1 H _ ls1 ls' b y Q hR L1 h2 e2 hQ⟩
def B0(n:Nat)(r:MGs):MG:=λd ls hd=>(AZ d).bind λds=>if ds.length=n then r ds ls hd else none
def Xc{n:Nat}{u:TGs}{r:MGs}(h':Mx K u r):RGt K (P9 K n u) (B0 n r):=by
 intro ρ σ H hd ls ls' d v Q hR hL hd hm hQ;obtain⟨ds,e1,hm⟩:=dL hm;split at hm
 .next c=>
  obtain⟨a,xs,rfl,q,rr⟩:=hd.tup e1;exact⟨a,xs,rfl,q,by rw[rr.len];exact c,h' ρ σ H _ ls ls' ds xs Q hR hL rr hm hQ⟩
 .cases hm
def IL(m:ME)(g:MG):MS:=λls hd=>(m ls hd).bind λp=>(g p.1 ls p.2).map λls'=>(.nx ls',p.2)
def Iv{t:TE}{m:ME}{g:TG}{n:MG}(h:RE K t m)(hg:RGt K g n):RS K (DL t g) (IL m n):=by
 intro ρ σ H hd ls E f hd' hR hL hm hQ;obtain⟨⟨d1,h1⟩,e1,hm⟩:=dL hm;obtain⟨ls',e2,e3⟩:=dM hm;cases e3;exact h ρ σ H hd ls _ d1 _ hR hL e1 λρ1 H1 v x1 R1 r1=>hg ρ1 σ H1 _ ls ls' d1 v _ R1 (hL.ext hR x1) r1 e2 λσ' L'=>hQ ρ1 H1 x1 R1 σ' L'
abbrev AI(i:Nat)(m:ME):MS:=IL m (AD i)
def Ov(ix:List Nat)(ma:MA):MS:=λls hd=>(ma ls hd).bind λp=>if p.1.length=ix.length then some (.nx ((ix.zip p.1).foldl (λl q=>l.set q.1 (some q.2)) ls),p.2)else none
def aW(i j k:Nat)(ma:MA):MS:=Ov [k,j,i] (λls hd=>(ma ls hd).map λp=>(p.1.reverse,p.2))
abbrev Gd:=List (Nat×List D)
abbrev MI:=Ls->Hd->Option ((List D×Gd)×Hd)
def GOk(hd:Hd)(g:Gd):Prop:=∀p∈g,hd[p.1]?=some (.lst p.2)
@[simp] theorem AJ(hd:Hd):GOk hd []:=λp h=>by cases h
def JQ(K:PySem.W.Frag)(ρ:List Addr)(H:Hp)(J:It)(ds:List D)(g:Gd):Prop:=∀(ρ2:List Addr) (H2:Hp) (hd2:Hd),Ext ρ H ρ2 H2->RH K ρ2 H2 hd2->GOk hd2 g ->
 ∀i:Nat,(i<ds.length->J.go i H2/\∀x H3,J.yld i H2 x H3->∃ρ3 d,Ext ρ2 H2 ρ3 H3/\ρ3=ρ2/\RH K ρ3 H3 hd2/\ds[i]?=some d/\RD K ρ3 H3 d x)/\(i=ds.length->J.stop i H2)
def RIt(K:PySem.W.Frag)(t:TI)(m:MI):Prop:=∀(ρ:List Addr) (σ:St) (H:Hp) (hd:Hd) (ls:Ls) (Q:It->Hp->Prop) (d:List D) (g:Gd) (hd':Hd),RH K ρ H hd->RL K ρ H ls σ->m ls hd=some ((d,g),hd') ->
 (∀ρ' H' J,Ext ρ H ρ' H'->RH K ρ' H' hd'->GOk hd' g->JQ K ρ' H' J d g->Q J H')->t σ H Q
def O7{a:Addr}{xs:List V}{ds:List D}(hR:RH K ρ H hd)(q:SqT K H a xs)(r:RDs K ρ H ds xs)(g:Gd):JQ K ρ H (Itt K a) ds g:=by
 intro ρ2 H2 hd2 x2 R2 _ i;have q2:=(x2.grow hR).sq q;have r2:=r.ext hR x2;have uniq:∀ys,SqT K H2 a ys->True:=λ_ _=>trivial;refine⟨λhi=>?_,λhi=>⟨xs,q2,by rw[r2.len,hi];exact le_refl _⟩⟩;have e:ds[i]?=some ds[i]:=by simp[hi]
 obtain⟨x,x1,x3⟩:=r2.get e;refine⟨⟨xs,x,q2,x1⟩,λy H3 ⟨e3,hy⟩=>?_⟩;subst e3;have:=hy xs q2;rw[x1]at this;cases this;exact⟨ρ2,_,.refl,rfl,R2,e,x3⟩
def Al(m:ME):MI:=λls hd=>(m ls hd).bind λp=>(AZ p.1).map λds=>((ds,[]),p.2)
def Xb{t:TE}{m:ME}(h:RE K t m):RIt K (P3 K t) (Al m):=by
 intro ρ σ H hd ls Q d g hd' hR hL hm hQ;obtain⟨⟨d1,h1⟩,e1,hm⟩:=dL hm;obtain⟨ds,e2,e3⟩:=dM hm;cases e3;refine h ρ σ H hd ls _ d1 _ hR hL e1 λρ1 H1 v x1 R1 r1=>?_;obtain⟨a,xs,rfl,q,r⟩:=r1.tup e2;exact⟨a,rfl,⟨xs,q⟩,hQ ρ1 H1 _ x1 R1 (AJ _) (O7 R1 q r [])⟩
def Dm(m:ME):MI:=λls hd=>(m ls hd).bind λp=>match p.1 with
 |.mu n=>match p.2[n]? with
  |some (.lst ds)=>some ((ds,[(n,ds)]),p.2)
  |_=>none
 |.ro ns=>some ((ns.map λn=>.im (.int n),[]),p.2)
 |_=>none
def V5{t:TE}{m:ME}(h:RE K t m):RIt K (LN K t) (Dm m):=by
 intro ρ σ H hd ls Q d g hd' hR hL hm hQ;obtain⟨⟨d1,h1⟩,e1,hm⟩:=dL hm;dsimp only at hm;split at hm
 .next n=>
  split at hm
  .next ds q=>
   cases hm;refine h ρ σ H hd ls _ _ _ hR hL e1 λρ1 H1 v x1 R1 r1=>?_;simp only[RD]at r1;obtain⟨a,hn,rfl⟩:=r1;obtain⟨xs,e2,e3⟩:=R1.lst hn q;refine⟨a,rfl,⟨xs,SqL.of e2⟩,hQ ρ1 H1 _ x1 R1 (λp z=>by simp at z;subst z;exact q) ?_⟩;intro ρ2 H2 hd2 x2 R2 G2 i;have q2:=G2 (n,d) (by simp);have hn2:ρ2[n]?=some a:=by
    obtain⟨r,rfl,_⟩:=x2.pre;rw[List.getElem?_append_left (List.getElem?_eq_some_iff.mp hn).1];exact hn
   obtain⟨ys,e4,e5⟩:=R2.lst hn2 q2;refine⟨λhi=>?_,λhi=>⟨ys,SqL.of e4,by rw[e5.len,hi];exact le_refl _⟩⟩;have e:d[i]?=some d[i]:=by simp[hi]
   obtain⟨x,y1,y2⟩:=e5.get e;refine⟨⟨ys,x,SqL.of e4,y1⟩,λy H3 ⟨e6,hy⟩=>?_⟩;subst e6;have:=hy ys (SqL.of e4);rw[y1]at this;cases this;exact⟨ρ2,_,.refl,rfl,R2,e,y2⟩
  .cases hm
 .next ns=>
  cases hm;refine h ρ σ H hd ls _ _ _ hR hL e1 λρ1 H1 v x1 R1 r1=>?_;simp only[RD]at r1;obtain⟨a,rfl,q⟩:=r1;refine⟨a,rfl,⟨_,q.sq⟩,hQ ρ1 H1 _ x1 R1 (AJ _) ?_⟩;intro ρ2 H2 hd2 x2 R2 G2 i;have q2:=(q.grow (x2.grow R1)).sq;have e5:RDs K ρ2 H2 (ns.map λn=>.im (.int n)) (ns.map V.int):=Ff;refine⟨λhi=>?_,λhi=>⟨_,q2,by rw[e5.len,hi];exact le_refl _⟩⟩;have e:(ns.map λn=>D.im (.int n))[i]?=some ((ns.map λn=>D.im (.int n))[i]):=by simp[hi]
  obtain⟨x,y1,y2⟩:=e5.get e;refine⟨⟨_,x,q2,y1⟩,λy H3 ⟨e6,hy⟩=>?_⟩;subst e6;have:=hy _ q2;rw[y1]at this;cases this;exact⟨ρ2,_,.refl,rfl,R2,e,y2⟩
 .cases hm
def Z8(ml:MA):MI:=λls hd=>(ml ls hd).map λp=>((p.1,[]),p.2)
def AW(lo:Int):Nat->List D
 |0=>[]
 |n+1=>.im (.int lo)::AW (lo+1) n
@[simp] theorem Iy(lo:Int)(n:Nat):(AW lo n).length=n:=by
 induction n generalizing lo with
 |zero=>rfl
 |succ n ih=>simp[AW,ih]
def Iz{n:Nat}:∀{lo:Int} {i:Nat},i<n->(AW lo n)[i]?=some (.im (.int (lo+i))):=by
 induction n with
 |zero=>intro lo i h;omega
 |succ n ih=>
  intro lo i h;cases i with
  |zero=>simp[AW]
  |succ i=>
   simp only[AW,List.getElem?_cons_succ];rw[ih (by omega)]
   congr 3
   push_cast
   omega
def IW{lo:Int}{n:Nat}{g:Gd}:JQ K ρ H (Itr lo n) (AW lo n) g:=by
 intro ρ2 H2 hd2 x2 R2 G2 i;refine⟨λhi=>?_,λhi=>by rw[hi,Iy];exact le_refl _⟩;rw[Iy]at hi;refine⟨hi,λx H3 ⟨e1,e2⟩=>?_⟩;subst e1 e2;exact⟨ρ2,_,.refl,rfl,R2,Iz hi,by simp[RD,RI]⟩
open Classical in
def DQ(m:MA):MI:=λls hd=>(m ls hd).bind λp=>match p.1 with
 |[.im (.int j)]=>if Ft j then some ((AW 0 j.toNat,[]),p.2)else none
 |_=>none
def V4{t:TA}{m:MA}(h:RA K t m):RIt K (P5 t) (DQ m):=by
 intro ρ σ H hd ls Q d g hd' hR hL hm hQ;obtain⟨⟨d1,h1⟩,e1,hm⟩:=dL hm;dsimp only at hm;split at hm
 .next j=>
  split at hm
  .next c=>
   cases hm;refine h ρ σ H hd ls _ _ _ hR hL e1 λρ1 H1 v x1 R1 r1=>?_;simp only[RDs,RD,RI]at r1;obtain⟨x,r,rfl,rfl,rfl⟩:=r1;exact⟨j,rfl,c.1,c.2,hQ ρ1 H1 _ x1 R1 (AJ _) IW⟩
  .cases hm
 .cases hm
open Classical in
def Ha(m:MA):MI:=λls hd=>(m ls hd).bind λp=>match p.1 with
 |[.im (.int i),.im (.int j)]=>if OZ i j then some ((AW i (j-i).toNat,[]),p.2)else none
 |_=>none
def V3{t:TA}{m:MA}(h:RA K t m):RIt K (P4 t) (Ha m):=by
 intro ρ σ H hd ls Q d g hd' hR hL hm hQ;obtain⟨⟨d1,h1⟩,e1,hm⟩:=dL hm;dsimp only at hm;split at hm
 .next i j=>
  split at hm
  .next c=>
   cases hm;refine h ρ σ H hd ls _ _ _ hR hL e1 λρ1 H1 v x1 R1 r1=>?_;simp only[RDs,RD,RI]at r1;obtain⟨x,r,rfl,rfl,y,r2,rfl,rfl,rfl⟩:=r1;exact⟨i,j,rfl,⟨c.1.1,c.1.2,c.2.1,c.2.2⟩,hQ ρ1 H1 _ x1 R1 (AJ _) IW⟩
  .cases hm
 .cases hm
open Classical in
def Ax(n:MG)(b:MS)(g:Gd):List D->Ls->Hd->Option (Fl×Hd)
 |[],ls,hd=>some (.nx ls,hd)
 |d::r,ls,hd=>(n d ls hd).bind λls1=>(b ls1 hd).bind λp=>match p.1 with
  |.nx ls2=>if GOk p.2 g then Ax n b g r ls2 p.2 else none
  |.ct ls2=>if GOk p.2 g then Ax n b g r ls2 p.2 else none
  |.bk ls2=>some (.nx ls2,p.2)
  |.rt d=>some (.rt d,p.2)
def BS(mi:MI)(n:MG)(b:MS):MS:=λls hd=>(mi ls hd).bind λp=>Ax n b p.1.2 p.1.1 ls p.2
def XW{wi:TI}{g:TG}{tb:TS}{mi:MI}{n:MG}{b:MS}(hi:RIt K wi mi)(hg:RGt K g n)(hb:RS K tb b):RS K (S6 wi g tb) (BS mi n b):=by
 intro ρ σ H hd ls E f hd' hR hL hm hQ;obtain⟨⟨⟨ds,gd⟩,h1⟩,e1,hm⟩:=dL hm;refine hi ρ σ H hd ls _ ds gd h1 hR hL e1 λρ1 H1 J x1 R1 G1 Y=>?_;dsimp only at hm;refine⟨λi m σ2 H2=>m=ds.length-i/\i<=ds.length/\∃ρ2 ls2 hd2,Ext ρ1 H1 ρ2 H2/\RH K ρ2 H2 hd2/\RL K ρ2 H2 ls2 σ2/\GOk hd2 gd/\Ax n b gd (ds.drop i) ls2 hd2=some (f,hd'),
  ⟨ds.length,by simp,zero_le _,ρ1,ls,h1,.refl,R1,hL.ext hR x1,G1,by simpa using hm⟩,?_⟩
 rintro i m σ2 H2 ⟨rfl,hi,ρ2,ls2,hd2,x2,R2,L2',G2,hm2⟩;obtain⟨Y1,Y2⟩:=Y ρ2 H2 hd2 x2 R2 G2 i;by_cases hlt:i<ds.length
 .obtain⟨go,Y1⟩:=Y1 hlt;have ed:ds.drop i=ds[i]::ds.drop (i+1):=List.drop_eq_getElem_cons hlt;rw[ed]at hm2;unfold Ax at hm2;obtain⟨ls3,e3,hm2⟩:=dL hm2;obtain⟨⟨fl,hd4⟩,e4,hm2⟩:=dL hm2;refine .inr ⟨go,λσ' H'=>∃ρ2 ls2 hd2,Ext ρ1 H1 ρ2 H'/\RH K ρ2 H' hd2/\RL K ρ2 H' ls2 σ'/\GOk hd2 gd/\Ax n b gd (ds.drop (i+1)) ls2 hd2=some (f,hd'),λσ' H' z=>⟨ds.length-(i+1),by omega,rfl,hlt,z⟩,λx H3 y=>?_⟩;obtain⟨ρ3,d3,x3,rfl,R3,e5,r3⟩:=Y1 x H3 y;have e6:d3=ds[i]:=by
   have:ds[i]?=some ds[i]:=by simp[hlt]
   rw[this]at e5;exact(Option.some.inj e5).symm
  subst e6;refine hg ρ3 σ2 H3 hd2 ls2 ls3 _ x _ R3 (L2'.ext R2 x3) r3 e3 λσ4 L4=>?_;refine hb ρ3 σ4 H3 hd2 ls3 _ fl hd4 R3 L4 e4 λρ5 H5 x5 R5=>?_;have x15:=(x2.trans R2 x3).trans R3 x5;cases fl with
  |nx ls5=>
   intro σ5 L5;dsimp only at hm2;split at hm2
   .next c=>exact⟨ρ5,ls5,hd4,x15,R5,L5,c,hm2⟩
   .cases hm2
  |ct ls5=>
   intro σ5 L5;dsimp only at hm2;split at hm2
   .next c=>exact⟨ρ5,ls5,hd4,x15,R5,L5,c,hm2⟩
   .cases hm2
  |bk ls5=>
   intro σ5 L5;cases hm2;exact hQ ρ5 H5 (x1.trans R1 x15) R5 σ5 L5
  |rt d5=>
   intro v5 r5;cases hm2;exact hQ ρ5 H5 (x1.trans R1 x15) R5 v5 r5
 .have e:i=ds.length:=by omega
  subst e;rw[drop_length]at hm2;unfold Ax at hm2;cases hm2;exact .inl ⟨Y2 rfl,hQ ρ2 H2 (x1.trans R1 x2) R2 σ2 L2'⟩
open Classical in
def Au(n:MG)(c:MT)(m:ME)(g:Gd):List D->Ls->Hd->Option (List D×Hd)
 |[],_,hd=>some ([],hd)
 |d::r,ls,hd=>(n d ls hd).bind λls1=>(c ls1 hd).bind λp=>if p.1=true then(m ls1 p.2).bind λq=>if GOk q.2 g then(Au n c m g r ls1 q.2).map λz=>(q.1::z.1,z.2)else none else if GOk p.2 g then Au n c m g r ls1 p.2 else none
def DZ(k:Nat)(ix:List Nat)(ls:Ls):Ls:=List.replicate k none++ix.map λi=>(ls[i]?).join
open Classical in
def Ao(k:Nat)(ix:List Nat)(mi:MI)(n:MG)(c:MT)(m:ME):MA:=λls hd=>(mi ls hd).bind λp=>if Bl p.1.1.length then Au n c m p.1.2 p.1.1 (DZ k ix ls) p.2 else none
def O4{k:Nat}{ix:List Nat}{ls:Ls}{σ:St}(h:RL K ρ H ls σ):RL K ρ H (DZ k ix ls) (FP k ix σ):=by
 refine⟨by simp[DZ,FP],λi d e=>?_⟩;unfold DZ at e;unfold FP;by_cases hi:i<k
 .rw[List.getElem?_append_left (by simpa using hi),List.getElem?_replicate]at e;split at e<;>cases e
 .have hi':k<=i:=Nat.not_lt.mp hi;rw[List.getElem?_append_right (by simpa using hi'),List.length_replicate,List.getElem?_map]at e ⊢;cases q:ix[i-k]? with
  |none=>rw[q]at e;cases e
  |some j=>
   rw[q]at e;simp only[map_some,Option.some.injEq]at e ⊢;have e5:ls[j]?=some (some d):=by
    cases w:ls[j]? with
    |none=>rw[w]at e;cases e
    |some z=>rw[w]at e;simpa using e
   obtain⟨v,e6,e7⟩:=h.ob j d e5;exact⟨v,by rw[e6];rfl,e7⟩
def NW{k:Nat}{ix:List Nat}{wi:TI}{g:TG}{tf:TT}{te:TE}{mi:MI}{n:MG}{c:MT}{m:ME}(hi:RIt K wi mi)(hg:RGt K g n)(hf:RT K tf c)(he:RE K te m):RN K (Fq k ix wi g tf te) (Ao k ix mi n c m):=by
 intro ρ σ H hd ls Q out hd' hR hL hm hQ;obtain⟨⟨⟨ds,gd⟩,h1⟩,e1,hm⟩:=dL hm;dsimp only at hm;split at hm
 .next hlen=>
  have hlen:ds.length<=sizeLine:=hlen;refine hi ρ σ H hd ls _ ds gd h1 hR hL e1 λρ1 H1 J x1 R1 G1 Y=>?_;intro Da hDa;obtain⟨R1',x1'⟩:=R1.hid (ho:=.lst []) hDa;have oD:Da∉ρ1:=R1.out hDa;have nD:H Da=none:=x1.none hR hDa R1;refine⟨λi mm σ2 ys H2=>mm=ds.length-i/\i<=ds.length/\∃ρ2 ls2 hd2 es rest,Ext ρ1 (upd H1 Da (.lst ys)) ρ2 H2/\Ext ρ1 H1 ρ2 H2/\Da∉ρ2/\H2 Da=some (.lst ys)/\RH K ρ2 H2 hd2/\RL K ρ2 H2 ls2 σ2/\RDs K ρ2 H2 es ys/\es.length<=i/\GOk hd2 gd/\Au n c m gd (ds.drop i) ls2 hd2=some (rest,hd')/\out=es++rest,
   ⟨ds.length,by simp,zero_le _,ρ1,_,h1,[],out,.refl,x1',oD,AK,R1',(O4 ((hL.ext hR x1).ext R1 x1')),.nil,le_refl _,G1,by simpa using hm,rfl⟩,?_⟩
  rintro i mm σ2 ys H2 ⟨rfl,hi,ρ2,ls2,hd2,es,rest,x2',x2,oD2,hD2,R2,L2',r2,hle,G2,hm2,rfl⟩;refine⟨hD2,?_⟩;obtain⟨Y1,Y2⟩:=Y ρ2 H2 hd2 x2 R2 G2 i;by_cases hlt:i<ds.length
  .obtain⟨go,Y1⟩:=Y1 hlt;have ed:ds.drop i=ds[i]::ds.drop (i+1):=List.drop_eq_getElem_cons hlt;rw[ed]at hm2;unfold Au at hm2;obtain⟨ls3,e3,hm2⟩:=dL hm2;obtain⟨⟨bb,hd4⟩,e4,hm2⟩:=dL hm2;refine .inr ⟨go,Nat.lt_of_le_of_lt (by rw[r2.len];exact hle) (by omega),λσ' ys' H'=>∃ρ2 ls2 hd2 es' rest',Ext ρ1 (upd H1 Da (.lst ys')) ρ2 H'/\Ext ρ1 H1 ρ2 H'/\Da∉ρ2/\H' Da=some (.lst ys')/\RH K ρ2 H' hd2/\RL K ρ2 H' ls2 σ'/\RDs K ρ2 H' es' ys'/\es'.length<=i+1/\GOk hd2 gd/\Au n c m gd (ds.drop (i+1)) ls2 hd2=some (rest',hd')/\es++rest=es'++rest',λσ' ys' H' z=>⟨ds.length-(i+1),by omega,rfl,hlt,z⟩,λx H3 y=>?_⟩;obtain⟨ρ3,d3,x3,rfl,R3,e5,r3⟩:=Y1 x H3 y;have e6:d3=ds[i]:=by
    have:ds[i]?=some ds[i]:=by simp[hlt]
    rw[this]at e5;exact(Option.some.inj e5).symm
   subst e6;refine hg ρ3 σ2 H3 hd2 ls2 ls3 _ x _ R3 (L2'.ext R2 x3) r3 e3 λσ4 L4=>?_;refine hf ρ3 σ4 H3 hd2 ls3 _ bb hd4 R3 L4 e4 λρ5 H5 x5 R5=>?_;have hD5:H5 Da=some (.lst ys):=x5.keep Da _ (x3.keep Da _ hD2 oD2 nt) oD2 nt;have out5:Da∉ρ5:=by
    obtain⟨r,rfl,fr⟩:=x5.pre;intro z;rcases mem_append.mp z with z|z
    .exact oD2 z
    .have:=fr _ z;rw[x3.keep Da _ hD2 oD2 nt]at this;cases this
   cases bb with
   |false=>
    rw[if_neg Bool.false_ne_true]at hm2 ⊢;have y25:=x3.trans R3 x5;split at hm2
    .next g5=>exact⟨ρ5,ls3,hd4,es,rest,x2'.trans R2 y25,(x2.trans R2 y25),out5,hD5,R5,L4.ext R3 x5,(r2.ext R2 y25),by omega,g5,hm2,rfl⟩
    .cases hm2
   |true=>
    rw[if_pos rfl]at hm2 ⊢;obtain⟨⟨z,hd6⟩,e6,hm2⟩:=dL hm2;obtain⟨g6,hm2⟩:GOk hd6 gd/\((Au n c m gd (ds.drop (i+1)) ls3 hd6).map λq=>(z::q.1,q.2))=some (rest,hd'):=by
     dsimp only at hm2;split at hm2
     .next g6=>exact⟨g6,hm2⟩
     .cases hm2
    obtain⟨⟨zs,hd7⟩,e7,e8⟩:=dM hm2;cases e8;refine he ρ5 σ4 H5 hd4 ls3 _ z hd6 R5 (L4.ext R3 x5) e6 λρ6 H6 v6 x6 R6 r6=>?_;have hD6:H6 Da=some (.lst ys):=x6.keep Da _ hD5 out5 nt;have out6:Da∉ρ6:=by
     obtain⟨r,rfl,fr⟩:=x6.pre;intro z;rcases mem_append.mp z with z|z
     .exact out5 z
     .have:=fr _ z;rw[hD5]at this;cases this
    refine⟨hD6,?_⟩;have y26:=(x3.trans R3 x5).trans R5 x6;have gr:Grow H6 (upd H6 Da (.lst (ys++[v6]))):=Grow.refl.put (.lst hD6);have R7:=R6.hput (ho:=.lst (ys++[v6])) out6 hD6;have x12:=x2.trans R2 y26;have ext7:Ext ρ1 H1 ρ6 (upd H6 Da (.lst (ys++[v6]))):=⟨x12.pre,λb o q nb t=>by
     have:b≠Da:=AO q hDa;rw[AB this];exact x12.keep b o q nb t,λb ps q=>by
     have:b≠Da:=AO q hDa;rw[AB this];exact x12.tab b ps q⟩
    have ext8:Ext ρ1 (upd H1 Da (.lst (ys++[v6]))) ρ6 (upd H6 Da (.lst (ys++[v6]))):=by
     obtain⟨r,er,fr⟩:=x12.pre;refine⟨⟨r,er,λb hb=>?_⟩,λb o q nb t=>?_,λb ps q=>?_⟩
     .have:b≠Da:=λz=>out6 (by rw[er,<- z];exact mem_append_right _ hb);rw[AB this];exact fr b hb
     .by_cases hb:b=Da
      .subst hb;rw[AK]at q ⊢;exact q
      .rw[AB hb]at q ⊢;exact x12.keep b o q nb t
     .by_cases hb:b=Da
      .subst hb;rw[AK]at q;cases q
      .rw[AB hb]at q ⊢;exact x12.tab b ps q
    refine⟨ρ6,ls3,hd6,es++[z],zs,ext8,ext7,out6,AK,R7,?_,?_,by simp;omega,g6,e7,by simp⟩
    .have L6:=(L4.ext R3 x5).ext R5 x6;exact⟨L6.len,λi d e=>let ⟨v,a,b⟩:=L6.ob i d e;⟨v,a,by simpa using b.mono gr []⟩⟩
    .have:=((r2.ext R2 y26).app (.cons r6 .nil)).mono gr [];simpa using this
  .have e:i=ds.length:=by omega
   subst e;rw[drop_length]at hm2;unfold Au at hm2;cases hm2;refine .inl ⟨Y2 rfl,?_⟩;exact hQ ρ2 H2 Da ys (x1.trans R1 x2) R2 nD oD2 hD2 (by simpa using r2)
 .cases hm
end
mutual
def clD(w:Nat):D->Bool
 |.im _=>true
 |.mu n=>decide (n<w)
 |.tm ds=>B2 w ds
 |.ro _=>true
def B2(w:Nat):List D->Bool
 |[]=>true
 |d::ds=>clD w d&&B2 w ds
end
def FO(w:Nat):List (Key×D)->Bool
 |[]=>true
 |d::ds=>clD w d.2&&FO w ds
def clO(w:Nat):MO->Bool
 |.lst ds=>B2 w ds
 |.dic ds=>FO w ds
section
variable{K:PySem.W.Frag}{ρ ρ' ρ1:List Addr}{H H' H1:Hp}{hd hd' h1 h2:Hd}
mutual
def RD.take(w:Nat):∀{d:D} {v:V},RD K ρ H d v->clD w d=true->RD K (ρ.take w) H d v
 |.im i,v,h,_=>by simp only[RD]at h ⊢;exact h
 |.mu n,v,h,c=>by
  simp only[RD]at h ⊢;obtain⟨a,e,q⟩:=h;exact⟨a,by rw[List.getElem?_take_of_lt (by simpa [clD]using c)];exact e,q⟩
 |.tm ds,v,h,c=>by
  simp only[RD]at h ⊢;obtain⟨a,xs,e,q,z⟩:=h;exact⟨a,xs,e,q,RDs.take' w z (by simpa [clD]using c)⟩
 |.ro ns,v,h,c=>by simp only[RD]at h ⊢;exact h
def RDs.take'(w:Nat):∀{d:List D} {v:List V},RDs K ρ H d v->B2 w d=true->RDs K (ρ.take w) H d v
 |[],v,h,_=>by simpa only[RDs]using h
 |d::ds,v,h,c=>by
  simp only[RDs]at h ⊢;obtain⟨x,r',e,q,z⟩:=h;have c:clD w d=true/\B2 w ds=true:=by simpa [B2]using c
  exact⟨x,r',e,q.take w c.1,RDs.take' w z c.2⟩
end
def RKs.take(w:Nat):∀{d:List (Key×D)} {v:List (Key×V)},RKs K ρ H d v->FO w d=true->RKs K (ρ.take w) H d v
 |[],v,h,_=>by simpa only[RKs]using h
 |d::ds,v,h,c=>by
  simp only[RKs]at h ⊢;obtain⟨x,r',e,q1,q,z⟩:=h;have c:clD w d.2=true/\FO w ds=true:=by simpa [FO]using c
  exact⟨x,r',e,q1,q.take w c.1,RKs.take w z c.2⟩
def RC.take(w:Nat){o:MO}{ho:HO}(h:RC K ρ H o ho)(c:clO w o=true):RC K (ρ.take w) H o ho:=by
 cases o with
 |lst ds=>obtain⟨xs,e,q⟩:=h;exact⟨xs,e,q.take' w c⟩
 |dic ds=>obtain⟨xs,e,q⟩:=h;exact⟨xs,e,q.take w c⟩
def RH.take(h:RH K ρ H hd)(w:Nat)(c:(hd.take w).all (clO w)=true):RH K (ρ.take w) H (hd.take w):=by
 refine⟨by simp[h.len],h.nd.sublist (List.take_sublist _ _),h.tabs,λn o a e1 e2=>?_⟩;have co:=all_eq_true.mp c o (mem_of_getElem? e1);have hn:n<w:=by
  have:=(List.getElem?_eq_some_iff.mp e1).1;simp at this;omega
 rw[List.getElem?_take_of_lt hn]at e1 e2;obtain⟨ho,q1,q2⟩:=h.ob n o a e1 e2;exact⟨ho,q1,q2.take w co⟩
def RH.back(R1:RH K ρ1 H1 h1){w:Nat}(hw:w<=h1.length)(c1:(h1.take w).all (clO w)=true)(x:Ext (ρ1.take w) H1 ρ' H')(R':RH K ρ' H' h2)(c:(h2.take w).all (clO w)=true):
 RH K ρ1 H' (h2.take w++h1.drop w)/\Ext ρ1 H1 ρ1 H'/\ρ'.take w=ρ1.take w:=by
 obtain⟨r,rfl,fr⟩:=x.pre;have lw:(ρ1.take w).length=w:=by rw[length_take,R1.len];omega
 have l2:w<=h2.length:=by rw[<- R'.len];simp[lw]
 have tk:(ρ1.take w++r).take w=ρ1.take w:=by rw[List.take_append_of_le_length (by omega),List.take_take];simp
 refine⟨⟨?_,R1.nd,R'.tabs,λn o a e1 e2=>?_⟩,⟨⟨[],by simp,by simp⟩,λb o q nb t=>x.keep b o q (λm=>nb (List.mem_of_mem_take m)) t,x.tab⟩,tk⟩
 .rw[length_append,length_take,length_drop,R1.len];omega
 .by_cases hn:n<w
  .rw[List.getElem?_append_left (by rw[length_take];omega),List.getElem?_take_of_lt hn]at e1;have e3:(ρ1.take w++r)[n]?=some a:=by
    rw[List.getElem?_append_left (by omega),List.getElem?_take_of_lt hn];exact e2
   obtain⟨ho,q1,q2⟩:=R'.ob n o a e1 e3;have co:=all_eq_true.mp c o (by
    have:(h2.take w)[n]?=some o:=by rw[List.getElem?_take_of_lt hn];exact e1
    exact mem_of_getElem? this)
   have q3:=q2.take w co;rw[tk]at q3;have q4:=q3.mono (Grow.refl (H:=H')) (ρ1.drop w);rw[List.take_append_drop]at q4;exact⟨ho,q1,q4⟩
  .rw[List.getElem?_append_right (by rw[length_take];omega),length_take,List.getElem?_drop]at e1;have e1:h1[n]?=some o:=by
    have:w+(n-min w h2.length)=n:=by omega
    rw[this]at e1;exact e1
   obtain⟨ho,q1,q2⟩:=R1.ob n o a e1 e2;have out:a∉ρ1.take w:=λm=>by
    obtain⟨k,hk⟩:=mem_iff_getElem?.mp m;have kw:k<w:=by
     have:=(List.getElem?_eq_some_iff.mp hk).1;rw[lw]at this;exact this
    rw[List.getElem?_take_of_lt kw]at hk;have:=(List.getElem?_inj (List.getElem?_eq_some_iff.mp e2).1 R1.nd).mp (e2.trans hk.symm);omega
   have gr:=x.grow (R1.take w c1);exact⟨ho,x.keep a ho q1 out (λps z=>by rcases R1.mut (mem_of_getElem? e2)with⟨y,w⟩|⟨y,w⟩<;>(rw[q1,z]at w;cases w)),by simpa using q2.mono gr []⟩
def spF(K:PySem.W.Frag)(k:Nat)(F:List D->Hd->Option (D×Hd)):Sp:=λvs H Q _=>vs.length=k/\∃(ρ:List Addr) (hd:Hd) (ds:List D) (d:D) (hd':Hd),RH K ρ H hd/\RDs K ρ H ds vs/\F ds hd=some (d,hd')/\
 ∀ρ' H' v,Ext ρ H ρ' H'->RH K ρ' H' hd'->RD K ρ' H' d v->Q v H'
def mkF(k n:Nat)(m:MS):List D->Hd->Option (D×Hd):=λds hd=>if ds.length=k then(match m (ds.map some++List.replicate (n-k) none) hd with
 |some (.rt d,hd')=>some (d,hd')
 |some (.nx _,hd')=>some (.im .non,hd')
 | _=>none)else none
def Ln{N:List Str}:∀{ds:List D} {vs:List V},RDs K ρ H ds vs->RL K ρ H (ds.map some++List.replicate (N.length-ds.length) none) (D7 N vs):=by
 intro ds vs r;have hl:=r.len;refine⟨by simp[D7,hl],λi d e=>?_⟩;unfold D7;by_cases hi:i<ds.length
 .rw[List.getElem?_append_left (by simpa using hi),List.getElem?_map]at e;have e':ds[i]?=some d:=by
   cases q:ds[i]? with
   |none=>rw[q]at e;cases e
   |some z=>rw[q]at e;simpa using e
  obtain⟨x,x1,x2⟩:=r.get e';exact⟨x,by rw[List.getElem?_append_left (by rw[length_map,hl];exact hi),List.getElem?_map,x1];rfl,x2⟩
 .rw[List.getElem?_append_right (by simpa using Nat.not_lt.mp hi),List.getElem?_replicate]at e;split at e<;>cases e
def NP{k:Nat}{N:List Str}{m:MS}{t:TS}(h:RS K t m){vs:List V}{H:Hp}{Q:VK}{E:XK}(s:spF K k (mkF k N.length m) vs H Q E):t { nx:=λ_ H'=>Q .non H',rt:=Q } (D7 N vs) H:=by
 obtain⟨hk,ρ,hd,ds,d,hd',hR,hr,hF,hQ⟩:=s;unfold mkF at hF;split at hF
 .next hl=>
  subst hl;split at hF
  .next q=>
   cases hF;exact h ρ _ H hd _ _ _ _ hR (Ln hr) q λρ' H' x R v r=>hQ ρ' H' v x R r
  .next q=>
   cases hF;exact h ρ _ H hd _ _ _ _ hR (Ln hr) q λρ' H' x R σ L=>hQ ρ' H' .non x R (by simp[RD,RI])
  .cases hF
 .cases hF
def DS(F:List D->Hd->Option (D×Hd))(ma:MA):ME:=λls hd=>(ma ls hd).bind λp=>F p.1 p.2
def SX{k:Nat}{F:List D->Hd->Option (D×Hd)}{t:TA}{m:MA}(h:RA K t m)(hk:∀ds hd z,F ds hd=some z->ds.length=k):RE K (Ey (spF K k F) [] E0 t) (DS F m):=by
 and_intros;obtain⟨⟨d1,h1⟩,e1,hm⟩:=dL hm;refine h ρ σ H hd ls _ d1 h1 hR hL e1 λρ1 H1 v1 x1 R1 r1=>?_;rw[append_nil];exact⟨by rw[r1.len];exact hk _ _ _ hm,ρ1,h1,d1,d,hd',R1,r1,hm,λρ' H' w x2 R2 r2=>hQ ρ' H' w (x1.trans R1 x2) R2 r2⟩
def Nl{k n:Nat}{m:MS}:∀ds hd z,mkF k n m ds hd=some z->ds.length=k:=λds hd z h=>by
 unfold mkF at h;split at h
 .next e=>exact e
 .cases h
def fin(w:Nat)(d:D)(h2 rest:Hd):Option (D×Hd):=if(h2.take w).all (clO w)=true then(match d with
 | .mu k=>if k<w then some (.mu k,h2.take w++rest)else(match h2[k]? with
  |some (.lst ds)=>if B2 w ds=true then some (.mu (w+rest.length),h2.take w++rest++[.lst ds])else none
  | _=>none)
 | d=>if clD w d=true then some (d,h2.take w++rest)else none)else none
def A8(w:Nat)(F:List D->Hd->Option (D×Hd))(ma:MA):ME:=λls hd=>(ma ls hd).bind λp=>
 if w<=p.2.length/\B2 w p.1=true/\(p.2.take w).all (clO w)=true then(F p.1 (p.2.take w)).bind λr=>fin w r.1 r.2 (p.2.drop w)else none
def SW{w k:Nat}{F:List D->Hd->Option (D×Hd)}{t:TA}{m:MA}(h:RA K t m)(hk:∀ds hd z,F ds hd=some z->ds.length=k):RE K (Ey (spF K k F) [] E0 t) (A8 w F m):=by
 and_intros;obtain⟨⟨d1,h1⟩,e1,hm⟩:=dL hm;dsimp only at hm;split at hm
 .next c=>
  obtain⟨c0,c1,c2⟩:=c;obtain⟨⟨d2,h2⟩,e2,hm⟩:=dL hm;refine h ρ σ H hd ls _ d1 h1 hR hL e1 λρ1 H1 v1 x1 R1 r1=>?_;rw[append_nil];refine⟨by rw[r1.len];exact hk _ _ _ e2,ρ1.take w,h1.take w,d1,d2,h2,R1.take w c2,r1.take' w c1,e2,λρ' H' v x2 R2 r2=>?_⟩;unfold fin at hm;dsimp only at hm;split at hm
  .next c3=>
   obtain⟨R3,x3,tk⟩:=R1.back c0 c2 x2 R2 c3;have up:∀{d:D} {v:V},RD K ρ' H' d v->clD w d=true->RD K ρ1 H' d v:=λr c=>by
    have q:=r.take w c;rw[tk]at q;have q:=q.mono (Grow.refl (H:=H')) (ρ1.drop w);rw[List.take_append_drop]at q;exact q
   have ups:∀{d:List D} {v:List V},RDs K ρ' H' d v->B2 w d=true->RDs K ρ1 H' d v:=λr c=>by
    have q:=r.take' w c;rw[tk]at q;have q:=q.mono (Grow.refl (H:=H')) (ρ1.drop w);rw[List.take_append_drop]at q;exact q
   split at hm
   .next k'=>
    split at hm
    .next hk'=>
     cases hm;exact hQ ρ1 H' v (x1.trans R1 x3) R3 (up r2 (by simpa [clD]using hk'))
    .next hk'=>
     split at hm
     .next ds q=>
      split at hm
      .next c4=>
       cases hm;simp only[RD]at r2;obtain⟨a,ea,rfl⟩:=r2;obtain⟨xs,l1,l2⟩:=R2.lst ea q;have len3:=R3.len;have out:a∉ρ1:=λm=>by
        -- a is one of those made behind the first w
        obtain⟨r,er,fr⟩:=x2.pre;have lw:(ρ1.take w).length=w:=by rw[length_take,R1.len];omega
        have ma:a∈r:=by
         rw[er,List.getElem?_append_right (by rw[lw];omega)]at ea;exact mem_of_getElem? ea
        exact R1.out (fr a ma) m
       have na:H1 a=none:=by
        obtain⟨r,er,fr⟩:=x2.pre;have lw:(ρ1.take w).length=w:=by rw[length_take,R1.len];omega
        have ma:a∈r:=by
         rw[er,List.getElem?_append_right (by rw[lw];omega)]at ea;exact mem_of_getElem? ea
        exact fr a ma
       refine hQ (ρ1++[a]) H' _ (x1.trans R1 (x3.name na)) (R3.name out l1 (ups l2 c4)) ?_;simp only[RD];refine⟨a,?_,rfl⟩;have:w+(List.drop w h1).length=ρ1.length:=by rw[length_drop,R1.len];omega
       rw[this];simp
      .cases hm
     .cases hm
   .next d' nd=>
    split at hm
    .next c4=>cases hm;exact hQ ρ1 H' v (x1.trans R1 x3) R3 (up r2 c4)
    .cases hm
  .cases hm
 .cases hm
def CZ(kvs:List (Key×D))(k:Key):Option D:=(kvs.find? λkv=>decide (kv.1=k)).map (·.2)
def DO(kvs:List (Key×D))(k:Key)(v:D):List (Key×D):=
 if(kvs.any λkv=>decide (kv.1=k))=true then kvs.map (λkv=>if kv.1=k then(kv.1,v)else kv)else kvs++[(k,v)]
def RKs.val:∀{kvs:List (Key×D)} {xs:List (Key×V)} {k:Key} {d:D},RKs K ρ H kvs xs->CZ kvs k=some d->∃v,Dg xs k=some v/\RD K ρ H d v
 |[],xs,k,d,h,e=>by simp[CZ]at e
 |p::kvs,xs,k,d,h,e=>by
  simp only[RKs]at h;obtain⟨x,r,rfl,e1,r1,r2⟩:=h;by_cases hk:p.1=k
  .rw[Ee (e1.trans hk)];simp[CZ,find?_cons,hk]at e;subst e;exact⟨_,rfl,r1⟩
  .rw[Ef (by rw[e1];exact hk)];simp only[CZ,find?_cons,hk,decide_false]at e;exact RKs.val r2 e
def RKs.valN:∀{kvs:List (Key×D)} {xs:List (Key×V)} {k:Key},RKs K ρ H kvs xs->(Dg xs k).isSome=(CZ kvs k).isSome
 |[],xs,k,h=>by simp only[RKs]at h;subst h;rfl
 |p::kvs,xs,k,h=>by
  simp only[RKs]at h;obtain⟨x,r,rfl,e1,r1,r2⟩:=h;by_cases hk:p.1=k
  .rw[Ee (e1.trans hk)];simp[CZ,find?_cons,hk]
  .rw[Ef (by rw[e1];exact hk)];simp only[CZ,find?_cons,hk,decide_false];exact RKs.valN r2
def RKs.any:∀{kvs:List (Key×D)} {xs:List (Key×V)} {k:Key},RKs K ρ H kvs xs->(xs.any λkv=>decide (kv.1=k))=(kvs.any λkv=>decide (kv.1=k))
 |[],xs,k,h=>by simp only[RKs]at h;subst h;rfl
 |p::kvs,xs,k,h=>by
  simp only[RKs]at h;obtain⟨x,r,rfl,e1,r1,r2⟩:=h;simp only[any_cons,e1,RKs.any r2]
def RKs.upd:∀{kvs:List (Key×D)} {xs:List (Key×V)} {k:Key} {d:D} {v:V},RKs K ρ H kvs xs->RD K ρ H d v->RKs K ρ H (kvs.map (λkv=>if kv.1=k then(kv.1,d)else kv)) (xs.map (λkv=>if kv.1=k then(kv.1,v)else kv))
 |[],xs,k,d,v,h,_=>by simp only[RKs]at h;subst h;simp[RKs]
 |p::kvs,xs,k,d,v,h,q=>by
  simp only[RKs]at h;obtain⟨x,r,rfl,e1,r1,r2⟩:=h;simp only[map_cons,RKs];refine⟨_,_,rfl,?_,?_,RKs.upd r2 q⟩
  .rw[e1];split<;>simp[e1]
  .rw[e1];split
   .exact q
   .exact r1
def RKs.app:∀{kvs ks:List (Key×D)} {xs ys:List (Key×V)},RKs K ρ H kvs xs->RKs K ρ H ks ys->RKs K ρ H (kvs++ks) (xs++ys)
 |[],ks,xs,ys,h,t=>by simp only[RKs]at h;subst h;simpa using t
 |d::ds,ks,xs,ys,h,t=>by
  simp only[RKs]at h;obtain⟨x,r,rfl,e,z,q⟩:=h;simp only[cons_append,RKs];exact⟨_,_,rfl,e,z,q.app t⟩
def RKs.put{kvs:List (Key×D)}{xs:List (Key×V)}{k:Key}{d:D}{v:V}(h:RKs K ρ H kvs xs)(q:RD K ρ H d v):RKs K ρ H (DO kvs k d) (C3 xs k v):=by
 unfold DO C3;rw[h.any];split
 .exact h.upd q
 .exact h.app (by simp only[RKs];exact⟨_,_,rfl,rfl,q,rfl⟩)
def Do:D->Option Key
 |.im (.int i)=>some (.inl i)
 |.im (.str x)=>some (.inr x)
 |_=>none
def Jv{d:D}{v:V}{k:Key}(h:RD K ρ H d v)(e:Do d=some k):v=kV k:=by
 cases d with
 |im i=>
  cases i with
  |int i=>simp only[Do,Option.some.injEq]at e;subst e;simp only[RD,RI]at h;exact h
  |str i=>simp only[Do,Option.some.injEq]at e;subst e;simp only[RD,RI]at h;exact h
  |_=>simp[Do]at e
 |_=>simp[Do]at e
def Eb(hd:Hd):D->Option (List (Key×D))
 |.mu n=>match hd[n]? with
  |some (.dic kvs)=>some kvs
  |_=>none
 |_=>none
def RD.dic{d:D}{v:V}{kvs:List (Key×D)}(hR:RH K ρ H hd)(h:RD K ρ H d v)(e:Eb hd d=some kvs):∃n a xs,d=.mu n/\v=.ref a/\ρ[n]?=some a/\H a=some (.dK xs)/\RKs K ρ H kvs xs:=by
 cases d with
 |mu n=>
  simp only[Eb]at e;simp only[RD]at h;obtain⟨a,hn,rfl⟩:=h;split at e
  .next q=>
   cases e;obtain⟨xs,e1,e2⟩:=hR.dic hn q;exact⟨n,a,xs,rfl,rfl,hn,e1,e2⟩
  .cases e
 |_=>simp[Eb]at e
def CA:D->D->Hd->Option (D×Hd):=λd e hd=>(Eb hd d).bind λkvs=>(Do e).bind λk=>(CZ kvs k).map (·,hd)
def VD{td ty:TE}{md my:ME}(hd:RE K td md)(hy:RE K ty my):RE K (OL td ty) (mOp CA md my):=by
 intro ρ σ H hd0 ls Q d hd' hR hL hm hQ;obtain⟨⟨d1,h1⟩,e1,hm⟩:=dL hm;obtain⟨⟨d2,h2⟩,e2,hm⟩:=dL hm;obtain⟨kvs,e3,hm⟩:=dL hm;obtain⟨k,e4,hm⟩:=dL hm;obtain⟨w,e5,e6⟩:=dM hm;cases e6;refine hd ρ σ H hd0 ls _ d1 h1 hR hL e1 λρ1 H1 v1 x1 R1 r1=>?_;refine hy ρ1 σ H1 h1 ls _ d2 _ R1 (hL.ext hR x1) e2 λρ2 H2 v2 x2 R2 r2=>?_;obtain⟨n,a,xs,rfl,rfl,hn,l1,l2⟩:=RD.dic R2 (r1.ext R1 x2) e3;have:=Jv r2 e4;subst this;obtain⟨v,v1,v2⟩:=l2.val e5;exact⟨a,v,rfl,v1 ▸ DGet.k l1,hQ ρ2 H2 v (x1.trans R1 x2) R2 v2⟩
open Classical in
def F4(md my mv:ME):MS:=λls hd=>(mv ls hd).bind λp=>(md ls p.2).bind λq=>(my ls q.2).bind λr=>(Do r.1).bind λk=>match q.1 with
 |.mu n=>match r.2[n]? with
  |some (.dic kvs)=>if GC kvs.length then some (.nx ls,r.2.set n (.dic (DO kvs k p.1)))else none
  |_=>none
 |_=>none
def Uz{td ty tv:TE}{md my mv:ME}(hd:RE K td md)(hy:RE K ty my)(hv:RE K tv mv):RS K (OX td ty tv) (F4 md my mv):=by
 intro ρ σ H hd0 ls E f hd' hR hL hm hQ;obtain⟨⟨d1,h1⟩,e1,hm⟩:=dL hm;obtain⟨⟨d2,h2⟩,e2,hm⟩:=dL hm;obtain⟨⟨d3,h3⟩,e3,hm⟩:=dL hm;obtain⟨k,e4,hm⟩:=dL hm;dsimp only at hm;split at hm
 .split at hm
  .next q=>
   split at hm
   .next c=>
    cases hm;refine hv ρ σ H hd0 ls _ d1 h1 hR hL e1 λρ1 H1 v1 x1 R1 r1=>?_;refine hd ρ1 σ H1 h1 ls _ _ h2 R1 (hL.ext hR x1) e2 λρ2 H2 v2 x2 R2 r2=>?_;refine hy ρ2 σ H2 h2 ls _ d3 _ R2 (hL.ext hR (x1.trans R1 x2)) e3 λρ3 H3 v3 x3 R3 r3=>?_;have r2:=r2.ext R2 x3;simp only[RD]at r2;obtain⟨a,hn,rfl⟩:=r2;obtain⟨xs,l1,l2⟩:=R3.dic hn q;have:=Jv r3 e4;subst this;obtain⟨R4,x4⟩:=R3.put hn (o:=.dic (DO _ k d1)) (ho:=.dK (C3 xs k v1)) ⟨_,rfl,l2.put ((r1.ext R1 x2).ext R2 x3)⟩;have x13:=(x1.trans R1 x2).trans R2 x3;exact⟨a,_,rfl,DPut.k l1 (by rw[l2.len];exact c),hQ ρ3 _ (x13.trans R3 x4) R4 σ ((hL.ext hR x13).ext R3 x4)⟩
   .cases hm
  .cases hm
 .cases hm
def E7:List (ME×ME)->Ls->Hd->Option (List (Key×D)×Hd)
 |[],_,hd=>some ([],hd)
 |(mk,mv)::r,ls,hd=>(mk ls hd).bind λp=>(mv ls p.2).bind λq=>(E7 r ls q.2).bind λz=>(Do p.1).map λk=>((k,q.1)::z.1,z.2)
def Fb(kvs more:List (Key×D)):List (Key×D):=more.foldl (λacc kv=>DO acc kv.1 kv.2) kvs
def RKs.merge:∀{more kvs:List (Key×D)} {ms xs:List (Key×V)},RKs K ρ H more ms->RKs K ρ H kvs xs->RKs K ρ H (Fb kvs more) (E5 xs ms)
 |[],kvs,ms,xs,h,t=>by simp only[RKs]at h;subst h;exact t
 |d::ds,kvs,ms,xs,h,t=>by
  simp only[RKs]at h;obtain⟨x,r,rfl,e,z,q⟩:=h;show RKs K ρ H (Fb (DO kvs d.1 d.2) ds) (E5 (C3 xs x.1 x.2) r);rw[e];exact q.merge (t.put z)
def RPs(K:PySem.W.Frag):List (TE×TE)->List (ME×ME)->Prop
 |[],[]=>True
 |t::ts,m::ms=>RE K t.1 m.1/\RE K t.2 m.2/\RPs K ts ms
 |_,_=>False
def M3:∀{trs:List (TE×TE)} {ms:List (ME×ME)},RPs K trs ms->∀(ρ:List Addr) (σ:St) (H:Hp) (hd:Hd) (ls:Ls) (Q:List (V×V)->Hp->Prop) (kvs:List (Key×D)) (hd':Hd),RH K ρ H hd->RL K ρ H ls σ->E7 ms ls hd=some (kvs,hd') ->
 (∀ρ' H' xs,Ext ρ H ρ' H'->RH K ρ' H' hd'->RKs K ρ' H' kvs xs->Q (xs.map λkv=>(kV kv.1,kv.2)) H')->Ge trs σ H Q
 |[],[],_,ρ,σ,H,hd,ls,Q,kvs,hd',hR,hL,hm,hQ=>by
  cases hm;exact hQ ρ H [] .refl hR (by simp[RKs])
 |(tk,tv)::ts,(mk,mv)::ms,⟨a,b,c⟩,ρ,σ,H,hd,ls,Q,kvs,hd',hR,hL,hm,hQ=>by
   unfold E7 at hm;obtain⟨⟨d1,h1⟩,e1,hm⟩:=dL hm;obtain⟨⟨d2,h2⟩,e2,hm⟩:=dL hm;obtain⟨⟨d3,h3⟩,e3,hm⟩:=dL hm;obtain⟨k,e4,e5⟩:=dM hm;cases e5;unfold Ge;refine a ρ σ H hd ls _ d1 h1 hR hL e1 λρ1 H1 v1 x1 R1 r1=>?_;refine b ρ1 σ H1 h1 ls _ d2 h2 R1 (hL.ext hR x1) e2 λρ2 H2 v2 x2 R2 r2=>?_;refine M3 c ρ2 σ H2 h2 ls _ d3 _ R2 (hL.ext hR (x1.trans R1 x2)) e3 λρ3 H3 xs x3 R3 r3=>?_;have:=Jv r1 e4;subst this;exact hQ ρ3 H3 ((k,v2)::xs) ((x1.trans R1 x2).trans R2 x3) R3 (by simp only[RKs];exact⟨_,_,rfl,rfl,r2.ext R2 x3,r3⟩)
 |[],_::_,h,_,_,_,_,_,_,_,_,_,_,_,_=>h.elim
 |_::_,[],h,_,_,_,_,_,_,_,_,_,_,_,_=>h.elim
def LJ(ms:List (ME×ME)):ME:=λls hd=>(E7 ms ls hd).bind λp=>if p.1.length<=15 then some (.mu p.2.length,p.2++[.dic (Fb [] p.1)])else none
def RH.nameD(hR:RH K ρ H hd){a:Addr}{xs:List (Key×V)}{kvs:List (Key×D)}(out:a∉ρ){o:HO}(e:H a=some o)(ht:∀ys,o≠.tup ys)(hf:∀x u,o≠.frz x u)(r:RKs K ρ H kvs xs)(h1:∀ps,o≠.tbl ps:=by intro _ z;cases z)(h2:∀φ,o≠.ext φ:=by intro _ z;cases z):RH K (ρ++[a]) (upd H a (.dK xs)) (hd++[.dic kvs]):=by
 have gr:Grow H (upd H a (.dK xs)):=Grow.refl.put ⟨λys z=>ht ys (by rw[e]at z;exact Option.some.inj z),λx u z=>hf x u (by rw[e]at z;exact Option.some.inj z)⟩;refine⟨by simp[hR.len],?_,hR.tabs.upd (λps z=>h1 ps (Option.some.inj (e.symm.trans z))) (λps z=>h2 ps (Option.some.inj (e.symm.trans z))),λn o' b e1 e2=>?_⟩
 .rw[nodup_append];refine⟨hR.nd,by simp,λx hx y hy z=>?_⟩;simp at hy;subst hy;subst z;exact out hx
 .by_cases hn:n<ρ.length
  .rw[List.getElem?_append_left hn]at e2;rw[List.getElem?_append_left (by rw[<- hR.len];exact hn)]at e1;obtain⟨ho',q1,q2⟩:=hR.ob n o' b e1 e2;have:b≠a:=λz=>out (by rw[<- z];exact mem_of_getElem? e2);exact⟨ho',by rw[AB this];exact q1,q2.mono gr [a]⟩
  .have hn':n=ρ.length:=by
    have:=(List.getElem?_eq_some_iff.mp e2).1;simp at this;omega
   subst hn';simp at e2;rw[hR.len]at e1;simp at e1;subst e1;subst e2;exact⟨_,AK,⟨xs,rfl,r.mono gr [_]⟩⟩
def VC{trs:List (TE×TE)}{ms:List (ME×ME)}(h:RPs K trs ms):RE K (OK trs) (LJ ms):=by
 and_intros;obtain⟨⟨kvs,h1⟩,e1,hm⟩:=dL hm;dsimp only at hm;split at hm
 .next c=>
  cases hm;intro p hp;obtain⟨R0,x0⟩:=hR.hid (ho:=.dK []) hp;refine M3 h ρ σ _ hd ls _ kvs h1 R0 (hL.ext hR x0) e1 λρ1 H1 xs x1 R1 r1=>?_;have hp1:H1 p=some (.dK []):=x1.keep p _ AK (hR.out hp) nt;have op:p∉ρ1:=by
   obtain⟨r,rfl,fr⟩:=x1.pre;intro z;rcases mem_append.mp z with z|z
   .exact hR.out hp z
   .have:=fr _ z;rw[AK]at this;cases this
  refine⟨hp1,xs,rfl,by rw[r1.len];exact c,?_⟩;have mm:RKs K ρ1 H1 (Fb [] kvs) (E5 [] xs):=r1.merge (by simp[RKs]);have R2:=R1.nameD op hp1 (λ_ z=>by cases z) (λ_ _ z=>by cases z) mm;have x01:=x0.trans R0 x1;refine hQ (ρ1++[p]) _ _ ?_ R2 ?_
  .obtain⟨r,er,fr⟩:=x01.pre;refine⟨⟨r++[p],by rw[er];simp,λb m=>?_⟩,λb o q nb t=>?_,λb ps q=>?_⟩
   .rcases mem_append.mp m with m|m
    .exact fr b m
    .simp at m;subst m;exact hp
   .have:b≠p:=AO q hp;rw[AB this];exact x01.keep b o q nb t
   .have:b≠p:=AO q hp;rw[AB this];exact x01.tab b ps q
  .simp only[RD];exact⟨p,by rw[<- R1.len];simp,rfl⟩
 .cases hm
def DP(mo mi mv:ME):MS:=λls hd=>(mv ls hd).bind λp=>(mo ls p.2).bind λq=>(mi ls q.2).bind λr=>match q.1,r.1 with
 |.mu n,.im (.int i)=>match r.2[n]? with
  |some (.lst ds)=>(ixN ds.length i).map λj=>(.nx ls,r.2.set n (.lst (ds.set j p.1)))
  |_=>none
 |_,_=>none
def Uw{to ti tv:TE}{mo mi mv:ME}(ho:RE K to mo)(hi:RE K ti mi)(hv:RE K tv mv):RS K (DL tv (Th to ti J0)) (DP mo mi mv):=by
 intro ρ σ H hd0 ls E f hd' hR hL hm hQ;obtain⟨⟨d1,h1⟩,e1,hm⟩:=dL hm;obtain⟨⟨d2,h2⟩,e2,hm⟩:=dL hm;obtain⟨⟨d3,h3⟩,e3,hm⟩:=dL hm;dsimp only at hm;split at hm
 .split at hm
  .next q=>
   obtain⟨j,e4,e5⟩:=dM hm;cases e5;refine hv ρ σ H hd0 ls _ d1 h1 hR hL e1 λρ1 H1 v1 x1 R1 r1=>?_;refine ho ρ1 σ H1 h1 ls _ _ h2 R1 (hL.ext hR x1) e2 λρ2 H2 v2 x2 R2 r2=>?_;refine hi ρ2 σ H2 h2 ls _ _ _ R2 (hL.ext hR (x1.trans R1 x2)) e3 λρ3 H3 v3 x3 R3 r3=>?_;have r2:=r2.ext R2 x3;simp only[RD]at r2;obtain⟨a,hn,rfl⟩:=r2;simp only[RD,RI]at r3;subst r3;obtain⟨xs,l1,l2⟩:=R3.lst hn q;obtain⟨R4,x4⟩:=R3.put hn (o:=.lst _) (ho:=.lst (xs.set j v1)) ⟨_,rfl,l2.set j ((r1.ext R1 x2).ext R2 x3)⟩;have x13:=(x1.trans R1 x2).trans R2 x3;exact⟨a,xs,_,j,rfl,rfl,l1,by rw[l2.len];exact e4,hQ ρ3 _ (x13.trans R3 x4) R4 σ ((hL.ext hR x13).ext R3 x4)⟩
  .cases hm
 .cases hm
end
end L2
namespace L2
open PySem PySem.Spec PyProof.Rows
structure QG(K:PySem.W.Frag)(X:Cx)(e:Expr)(t:TG)(m:MG):Prop where
 p:PG X e t
 r:RGt K t m
structure QGs(K:PySem.W.Frag)(X:Cx)(e:List Expr)(t:TGs)(m:MGs):Prop where
 p:PGs X e t
 r:Mx K t m
structure QI(K:PySem.W.Frag)(X:Cx)(tg e:Expr)(t:TI)(m:MI):Prop where
 p:PI X tg e t
 r:RIt K t m
structure QF(K:PySem.W.Frag)(X:Cx)(e:List Expr)(t:TT)(m:MT):Prop where
 p:PF X e t
 r:RT K t m
structure QO(K:PySem.W.Frag)(X:Cx)(e:Option Expr)(t:TO)(m:MO1):Prop where
 p:PO X e t
 r:RO1 K t m
structure QPs(K:PySem.W.Frag)(X:Cx)(pos:Pos)(keys:List (Option Expr))(values:List Expr)(t:List (TE×TE))(m:List (ME×ME)):Prop where
 p:PPs X pos keys values t
 r:RPs K t m
def UZ(a b:List D):Prop:=a≠[]/\Bl (a.length+b.length)
open Classical in
def GA:D->D->Hd->Option (D×Hd):=λd e hd=>(AZ d).bind λa=>(AZ e).bind λb=>if UZ a b then some (AX (a++b),hd)else none
def NZ{K:PySem.W.Frag}:RB K (Og K) GA:=by
 intro ρ H hd d e v u Q z hd' hR h1 h2 hf hQ;unfold GA at hf;obtain⟨a,e1,hf⟩:=dL hf;obtain⟨b,e2,hf⟩:=dL hf;split at hf
 .next c=>
  cases hf;obtain⟨p,xs,rfl,q1,r1⟩:=h1.tup e1;obtain⟨p2,ys,rfl,q2,r2⟩:=h2.tup e2;have l1:=r1.len;have l2:=r2.len;refine⟨p,p2,xs,ys,rfl,rfl,q1,q2,λz=>c.1 (by rw[z]at l1;simpa using l1.symm),by rw[l1,l2];exact c.2,λz=>?_,λ_ p3 hp=>?_⟩
  .have:b=[]:=by rw[z]at l2;simpa using l2.symm
   subst this;exact hQ ρ H _ .refl hR (by rw[append_nil];exact BL q1 r1)
  .obtain⟨R2,x2⟩:=hR.hid (ho:=.tup (xs++ys)) hp;exact hQ ρ _ _ x2 R2 (BL (SqT.of AK) ((r1.app r2).ext hR x2))
 .cases hf
abbrev Ap:=ES Jz GA
def CQ(neg:Bool)(m:ME):ME:=λls hd=>(m ls hd).bind λp=>some (.im (.bl (match p.1 with
 |.im .non=>!neg
 | _=>neg)),p.2)
def Z5{K:PySem.W.Frag}{ρ:List Addr}{H:Hp}{d:D}{v:V}(h:RD K ρ H d v):decide (v=.non)=(match d with|.im .non=>true|_=>false):=by
 cases d with
 |im i=>
  cases i with
  |non=>simp only[RD,RI]at h;subst h;rfl
  |tup is=>simp only[RD,RI]at h;obtain⟨a,xs,rfl,_⟩:=h;rfl
  |_=>simp only[RD,RI]at h;subst h;rfl
 |mu n=>simp only[RD]at h;obtain⟨a,_,rfl⟩:=h;rfl
 |tm ds=>simp only[RD]at h;obtain⟨a,xs,rfl,_⟩:=h;rfl
 |ro ns=>simp only[RD]at h;obtain⟨a,rfl,_⟩:=h;rfl
def Q7{K:PySem.W.Frag}{t:TE}{m:ME}(h:RE K t m):RE K (OI t) (CQ false m):=by
 and_intros;obtain⟨⟨d1,h1⟩,e1,hm⟩:=dL hm;cases hm;refine h ρ σ H hd ls _ d1 _ hR hL e1 λρ1 H1 v x1 R1 r1=>?_;rw[Z5 r1];refine hQ ρ1 H1 _ x1 R1 ?_;simp only[RD,RI];cases d1 with
 |im i=>cases i<;>rfl
 |_=>rfl
def NX{K:PySem.W.Frag}{t:TE}{m:ME}(h:RE K t m):RE K (LD t) (CQ true m):=by
 and_intros;obtain⟨⟨d1,h1⟩,e1,hm⟩:=dL hm;cases hm;refine h ρ σ H hd ls _ d1 _ hR hL e1 λρ1 H1 v x1 R1 r1=>?_;rw[Z5 r1];refine hQ ρ1 H1 _ x1 R1 ?_;simp only[RD,RI];cases d1 with
 |im i=>cases i<;>rfl
 |_=>rfl
def IK(m:ME):ME:=λls hd=>(m ls hd).bind λp=>match p.1 with
 |.im (.int i)=>some (.im (.int (-i)),p.2)
 |_=>none
def Xi{K:PySem.W.Frag}{t:TE}{m:ME}(h:RE K t m):RE K (tUn (rU λi=>.int (-i)) t) (IK m):=by
 and_intros;obtain⟨⟨d1,h1⟩,e1,hm⟩:=dL hm;dsimp only at hm;split at hm
 .cases hm;exact h ρ σ H hd ls _ _ _ hR hL e1 λρ1 H1 v x1 R1 r1=>⟨_,by simpa only[RD,RI]using r1,hQ ρ1 H1 _ x1 R1 (by simp[RD,RI])⟩
 .cases hm
def Bt:MT:=λ_ hd=>some (true,hd)
def XR{K:PySem.W.Frag}:RT K Rr Bt:=by
 and_intros;cases hm;exact hQ ρ H .refl hR
section
variable(K:PySem.W.Frag){X:Cx}{a b c e:Expr}{es:List Expr}{ta tb tc te:TE}{ma mb mc me:ME}{tA tB':TT}{nA nB:MT}{t:TA}{m:MA}{pos:Pos}{x:Str}
def qv(i:Nat){x:Str}{pos:Pos}(hN:X.N[i]?=some x:=by rfl)(hv:Vis X.env.scope x:=by first|exact Or.inl rfl|exact Or.inr (Or.inl rfl)|exact Or.inr (Or.inr rfl))(hd:(x==("__debug__":Str))=false:=by decide)
 (hcd:(x==("__classdict__":Str))=false:=by decide):QE K X (.Name x pos) (Rs i) (A0 i):=⟨Yk hN hv hd hcd,Xe⟩
def YS{i:Int}{j pos}:QE K X (.Constant (.int i) j pos) (tC (.int i)) (mC (.int i)):=⟨Ys,Ob λ_=>by simp[RI]⟩
def aD{i:Bool}{j pos}:QE K X (.Constant (.bool i) j pos) (tC (.bl i)) (mC (.bl i)):=⟨aM,Ob λ_=>by simp[RI]⟩
def YM{j pos}:QE K X (.Constant .none j pos) (tC .non) (mC .non):=⟨Yp,Ob λ_=>by simp[RI]⟩
def YI{x:Str}{j pos}:QE K X (.Constant (.str x) j pos) (tC (.str x)) (mC (.str x)):=⟨Ym,Ob λ_=>by simp[RI]⟩
def Fw{op:Operator}{r:R2}{f:D->D->Hd->Option (D×Hd)}(ho:OpR X (binaryOp op) r)(hr:RB K r f)(ha:QE K X a ta ma)(hb:QE K X b tb mb):QE K X (.BinOp a op b pos) (tOp r ta tb) (mOp f ma mb):=⟨Ol ho ha.p hb.p,LH hr ha.r hb.r⟩
def YO(ha:QE K X a ta ma):QE K X (.UnaryOp .USub a pos) (tUn (rU λi=>.int (-i)) ta) (IK ma):=⟨aJ XE ha.p,Xi ha.r⟩
def Go{op:CmpOp}{r:R2}{f:D->D->Hd->Option (D×Hd)}(ho:OpR X (compareOp op) r)(hr:RB K r f)(ha:QE K X a ta ma)(hb:QE K X b tb mb)(hm:behindInMarks op b=false:=by first|exact M6 _|rfl):QE K X (.Compare a [op] [b] pos) (tOp r ta tb) (mOp f ma mb):=⟨W7 ho ha.p hb.p hm,LH hr ha.r hb.r⟩
def Em{op:CmpOp}{r:R2}{f:D->D->Hd->Option (D×Hd)}(ho:OpR X (compareOp op) r)(hr:RB K r f)(ha:QE K X a ta ma)(hb:QE K X b tb mb)(hm:behindInMarks op b=false:=by first|exact M6 _|rfl):QT K X (.Compare a [op] [b] pos) (LB (tOp r ta tb)) (AE (mOp f ma mb)):=⟨Nf ho ha.p hb.p hm,EY (LH hr ha.r hb.r)⟩
def YR{j pos'}(ha:QE K X a ta ma):QE K X (.Compare a [.Is] [.Constant .none j pos'] pos) (OI ta) (CQ false ma):=⟨QY (QZ ha.p),Q7 ha.r⟩
def Vh{j pos'}(ha:QE K X a ta ma):QE K X (.Compare a [.IsNot] [.Constant .none j pos'] pos) (LD ta) (CQ true ma):=⟨QY (Ng ha.p),NX ha.r⟩
def Y0{j pos'}(ha:QE K X a ta ma):QT K X (.Compare a [.Is] [.Constant .none j pos'] pos) (tB (OI ta)) (AE (CQ false ma)):=⟨M1 (QZ ha.p),SH (Q7 ha.r)⟩
def VJ{j pos'}(ha:QE K X a ta ma):QT K X (.Compare a [.IsNot] [.Constant .none j pos'] pos) (tB (LD ta)) (AE (CQ true ma)):=⟨M1 (Ng ha.p),SH (NX ha.r)⟩
def Sd(ha:QE K X a ta ma)(he:∀whole,isTrue a X.env whole=(do let v <- whole;standAt a.pos;holding [v] (truthy v)):=by intro _;rfl)(hK:X.K=K:=by rfl):
 QT K X a (λσ H Q=>ta σ H λx H'=>∃k,Mv K x H' k/\Q k H') (BM ma):=by
 subst hK;exact⟨Su ha.p he,SG ha.r⟩
def Xz(ha:QT K X a tA nA):QT K X (.UnaryOp .Not a pos) (Rz tA) (CP nA):=⟨YX ha.p,XS ha.r⟩
def VI(ha:QT K X a tA nA):QW K X (.BoolOp .And [a] pos) tA nA:=⟨Vl ha.p,ha.r⟩
def Xx(ha:QT K X a tA nA):QW K X (.BoolOp .Or [a] pos) tA nA:=⟨YV ha.p,ha.r⟩
def Xy{rest:List Expr}(ha:QT K X a tA nA)(hb:QW K X (.BoolOp .And (b::rest) pos) tB' nB):QW K X (.BoolOp .And (a::b::rest) pos) (S7 tA tB') (EJ nA nB):=⟨YW ha.p hb.p,XT ha.r hb.r⟩
def a0{rest:List Expr}(ha:QT K X a tA nA)(hb:QW K X (.BoolOp .Or (b::rest) pos) tB' nB):QW K X (.BoolOp .Or (a::b::rest) pos) (tOr tA tB') (mOr nA nB):=⟨aE ha.p hb.p,Zr ha.r hb.r⟩
def QW.toT{K:PySem.W.Frag}{X:Cx}{e:Expr}{t:TT}{m:MT}(h:QW K X e t m):QT K X e t m:=⟨h.p.pt,h.r⟩
def YK{op}(ha:QE K X a ta ma):QE K X (.BoolOp op [a] pos) ta ma:=⟨Yn ha.p,ha.r⟩
def YT{rest:List Expr}(ha:QE K X a ta ma)(hb:QE K X (.BoolOp .And (b::rest) pos) tb mb):QE K X (.BoolOp .And (a::b::rest) pos) (ON ta tb) (DT ma mb):=⟨Yt ha.p hb.p,VE ha.r hb.r⟩
def a9{rest:List Expr}(ha:QE K X a ta ma)(hb:QE K X (.BoolOp .Or (b::rest) pos) tb mb):QE K X (.BoolOp .Or (a::b::rest) pos) (Ry ta tb) (Js ma mb):=⟨aK ha.p hb.p,Xh ha.r hb.r⟩
def YL(ha:QE K X a ta ma):QE K X (.UnaryOp .Not a pos) (OH ta) (HY ma):=⟨Yo ha.p,VA ha.r⟩
def Sq(hc:QT K X c tA nA)(ha:QE K X a ta ma)(hb:QE K X b tb mb):QE K X (.IfExp c a b pos) (tIf tA ta tb) (mIf nA ma mb):=⟨T9 hc.p ha.p hb.p,Zw hc.r ha.r hb.r⟩
def YU:QA K X [] C2 A4:=⟨D1,Xq⟩
def Vk(ha:QE K X e te me)(hr:QA K X es t m)(hs:starEach (e::es) X.env=(false,eval e X.env)::starEach es X.env:=by rfl):QA K X (e::es) (BD te t) (A2 me m):=⟨Bz ha.p hr.p hs,VH ha.r hr.r⟩
def YH{x1}(h:QA K X es t m):QE K X (.Tuple es x1 pos) (Rt t) (CO m):=⟨Yl h.p,Xf h.r⟩
def YB(h:QA K X es t m):QN K X (.List es pos) (S0 t) (C4 m):=⟨Yq h.p,XZ h.r⟩
def YN(h:QN K X e te m):QE K X e te (B8 m):=⟨h.p,Q6 h.r⟩
def aA(ha:QE K X a ta ma)(hb:QE K X b tb mb)(hs:K9 b:=by exact λ_ _=>rfl)(hK:X.K=K:=by rfl):QE K X (.Subscript a b pos) (tOp (LI K) ta tb) (mOp gIx ma mb):=⟨UM ((MV K hK).or (Nr K hK)) ha.p hb.p hs,LH Zx ha.r hb.r⟩
def Vj(hu:X.A.units+1<cLine)(ha:QE K X a ta ma)(hb:QE K X b tb mb)(hs:U0 b:=by exact λ_ _=>rfl):QE K X (.Subscript a b pos) (OL ta tb) (mOp CA ma mb):=⟨W5 hu ha.p hb.p hs,VD ha.r hb.r⟩
def VZ:QO K X none JX Dk:=⟨Vv,V1⟩
def VY(h:QE K X e te me):QO K X (some e) (OG te) (G4 me):=⟨Vu h.p,V0 h.r⟩
def Y9{lo hi:Option Expr}{tl th:TO}{ml mh:MO1}{p2:Pos}(h:QE K X e te me)(hl:QO K X lo tl ml)(hh:QO K X hi th mh)(hK:X.K=K:=by rfl):QN K X (.Subscript e (.Slice lo hi none p2) pos) (tSl (Oe K) te tl th) (Jq me ml mh):=⟨M2 (SC K hK) h.p hl.p hh.p,XX h.r hl.r hh.r⟩
def Fx{id:String}{p:Pos}{r:List V->Hp->VK->Prop}{f:List D->Hd->Option (D×Hd)}(hc:CallR X (.builtin id) r)(hr:RF K r f)(hm:X.mg x=none)(hv:bootBuiltins x=some (.builtin id))(ha:QA K X (e::es) t m)(hg:Gl X x:=by rfl)(hn:x≠"__name__":=by decide)(hdb:(x==("__debug__":Str))=false:=by decide)
 (he:starEach (e::es) X.env=(false,eval e X.env)::starEach es X.env:=by rfl) (hpl:(backTo pos (starEach es X.env)).any (·.1)=false:=by rfl):QE K X (.Call (.Name x p) (e::es) [] pos) (tCB r t) (mCB f m):=⟨ID hc hg hm hv ha.p hn hdb he hpl,U9 hr ha.r⟩
def aC{id:String}{p:Pos}{r:List V->Hp->VK->Prop}{f:List D->Hd->Option (D×Hd)}(hc:CallR X (.type id) r)(hr:RF K r f)(hm:X.mg x=none)(hv:bootBuiltins x=some (.type id))(ha:QA K X (e::es) t m)(hg:Gl X x:=by rfl)(hn:x≠"__name__":=by decide)(hdb:(x==("__debug__":Str))=false:=by decide)
 (he:starEach (e::es) X.env=(false,eval e X.env)::starEach es X.env:=by rfl) (hpl:(backTo pos (starEach es X.env)).any (·.1)=false:=by rfl):QE K X (.Call (.Name x p) (e::es) [] pos) (tCB r t) (mCB f m):=⟨DH hc hg hm hv ha.p hn hdb he hpl,U9 hr ha.r⟩
def J7{id:String}{p:Pos}{r:List V->Hp->VK->Prop}{tp:Bool}{g:List D->Option D}(hc:CallR X (.builtin id) r)(hr:RG K tp r g)(hm:X.mg x=none)(hv:bootBuiltins x=some (.builtin id))(ha:QN K X e te m)(hg:Gl X x:=by rfl)(hn:x≠"__name__":=by decide)(hdb:(x==("__debug__":Str))=false:=by decide)
 (he:starEach [e] X.env=[(false,eval e X.env)]:=by rfl):QE K X (.Call (.Name x p) [e] [] pos) (tCB r (BD te C2)) (BN g m):=⟨ID hc hg hm hv (Bz ha.p D1 he) hn hdb he rfl,Q8 hr ha.r⟩
def aB{id:String}{p:Pos}{r:List V->Hp->VK->Prop}{tp:Bool}{g:List D->Option D}(hc:CallR X (.type id) r)(hr:RG K tp r g)(hm:X.mg x=none)(hv:bootBuiltins x=some (.type id))(ha:QN K X e te m)(hg:Gl X x:=by rfl)(hn:x≠"__name__":=by decide)(hdb:(x==("__debug__":Str))=false:=by decide)
 (he:starEach [e] X.env=[(false,eval e X.env)]:=by rfl):QE K X (.Call (.Name x p) [e] [] pos) (tCB r (BD te C2)) (BN g m):=⟨DH hc hg hm hv (Bz ha.p D1 he) hn hdb he rfl,Q8 hr ha.r⟩
def Sl{p:Pos}(hm:X.mg "list"=none)(ha:QN K X e te m)(hg:Gl X "list":=by rfl)(he:starEach [e] X.env=[(false,eval e X.env)]:=by rfl)(hK:X.K=K:=by rfl):QN K X (.Call (.Name "list" p) [e] [] pos) (tCB (Jg K) (BD te C2)) (Gz m):=⟨DH (PU K hK) hg hm O5 (Bz ha.p D1 he) (by decide) (by decide) he rfl,SN ha.r⟩
def UK{id:String}{r:V->List V->Hp->VK->Prop}{f:D->List D->Hd->Option (D×Hd)}{name:Str}{apos cpos:Pos}{o:Expr}{to:TE}{mo:ME}(slot:Slot "list" name id)(hty:typeOf (.builtin id)=pure (.type "method_descriptor"))(hm:MtM X id r)(hr:RM K r f)(ho:QE K X o to mo)(ha:QA K X (e::es) t m)
 (hbase:attributeBase o name X.env (eval o X.env)=eval o X.env:=by rfl)
 (hfew:((backTo cpos (starEach (e::es) X.env)).all (λx=>!x.1)&&(backToKw cpos (keywordEach [] X.env)).all (λx=>x.1.isSome)
  && decide ((e::es).length+([]:List Keyword).length+(if([]:List Keyword).isEmpty then 0 else 1)<30))=true:=by rfl)
 (hline:(apos.endLine==cpos.line)=true:=by rfl) (hs:starEach (e::es) X.env=(false,eval e X.env)::starEach es X.env:=by rfl) (hplain:(backTo cpos (starEach es X.env)).any (·.1)=false:=by rfl) (hK:X.K=K:=by rfl):
 QE K X (.Call (.Attribute o name apos) (e::es) [] cpos) (tBM K "list" r to t) (mMt f mo m):=by
 subst hK;exact⟨aL PySem.F.plainAttrs_list slot hty hm ho.p ha.p hbase hfew hline hs hplain,Zv hr ho.r ha.r⟩
def Sr(w:Nat){j k:Nat}{f:Addr}{fd:FuncData}{ps:List Str}{n:Nat}{F:List D->Hd->Option (D×Hd)}{st:Stmt}{p:Pos}(G:FnOk X.prog X.w X.K X.mg X.base CX0 j f fd ps (spF K n F))(hr:Room k X.A)(DA:DefAt X.K X.mg x st f fd ps)(ha:QA K X (e::es) t m)(hF:∀ds hd z,F ds hd=some z->ds.length=n)
 (hjk:j<=k:=by decide) (hg:Gl X x:=by rfl) (hdb:(x==("__debug__":Str))=false:=by decide) (he:starEach (e::es) X.env=(false,eval e X.env)::starEach es X.env:=by rfl) (hpl:(backTo pos (starEach es X.env)).any (·.1)=false:=by rfl):
 QE K X (.Call (.Name x p) (e::es) [] pos) (Ey (spF K n F) [] E0 t) (A8 w F m):=⟨UN G hr DA ha.p hjk hg hdb he hpl,SW ha.r hF⟩
def Ss{j k:Nat}{f:Addr}{fd:FuncData}{ps:List Str}{n:Nat}{F:List D->Hd->Option (D×Hd)}{st:Stmt}{p:Pos}(G:FnOk X.prog X.w X.K X.mg X.base CX0 j f fd ps (spF K n F))(hr:Room k X.A)(DA:DefAt X.K X.mg x st f fd ps)(ha:QA K X (e::es) t m)(hF:∀ds hd z,F ds hd=some z->ds.length=n)
 (hjk:j<=k:=by decide) (hg:Gl X x:=by rfl) (hdb:(x==("__debug__":Str))=false:=by decide) (he:starEach (e::es) X.env=(false,eval e X.env)::starEach es X.env:=by rfl) (hpl:(backTo pos (starEach es X.env)).any (·.1)=false:=by rfl):
 QE K X (.Call (.Name x p) (e::es) [] pos) (Ey (spF K n F) [] E0 t) (DS F m):=⟨UN G hr DA ha.p hjk hg hdb he hpl,SX ha.r hF⟩
def VX{pos:Pos}:QPs K X pos [] [] [] []:=⟨Vt,trivial⟩
def Si{pos:Pos}{k v:Expr}{ks:List (Option Expr)}{vs:List Expr}{tk tv:TE}{mk mv:ME}{trs:List (TE×TE)}{ms:List (ME×ME)}(hk:QE K X k tk mk)(hv:QE K X v tv mv)(hr:QPs K X pos ks vs trs ms):QPs K X pos (some k::ks) (v::vs) ((tk,tv)::trs) ((mk,mv)::ms):=⟨T0 hk.p hv.p hr.p,hk.r,hv.r,hr.r⟩
def Vi{pos:Pos}{keys:List (Option Expr)}{values:List Expr}{trs:List (TE×TE)}{ms:List (ME×ME)}(h:QPs K X pos keys values trs ms)(hall:keys.all (·.isSome)=true:=by rfl)(hl:keys.length=values.length:=by rfl)(h0:keys≠[]:=by simp)
 (h15:keys.length<=15:=by decide):QE K X (.Dict keys values pos) (OK trs) (LJ ms):=⟨W4 h.p hall hl h0 h15,VC h.r⟩
def Vf{i:Nat}(hN:X.N.Nodup)(hi:X.N[i]?=some x)(hx:Loc X.env.scope x)(hf:X.fn x=true∨X.env.scope.names.lookup x=some .local:=by first|exact .inl rfl|exact .inr rfl|assumption):QG K X (.Name x pos) (Co i) (AD i):=⟨W3 hN hi hx hf,HP⟩
def Ve:QGs K X [] Tj B1:=⟨W1,V6⟩
def So{tg:TG}{tgs:TGs}{n:MG}{ns:MGs}(h1:QG K X e tg n)(h2:QGs K X es tgs ns)(hs:(assignEach (e::es) X.env).map (·.2)=assign e X.env::(assignEach es X.env).map (·.2):=by rfl):QGs K X (e::es) (PB tg tgs) (AH n ns):=⟨T7 h1.p h2.p hs,SS h1.r h2.r⟩
def YE{k n:Nat}{tgs:TGs}{ns:MGs}(hc:X.calm=true)(h:QGs K X es tgs ns)(hK:X.K=K:=by rfl)(hn:(assignEach es X.env).length=n:=by rfl)(hst:(assignEach es X.env).findIdx? (·.1)=none:=by rfl):QG K X (.Tuple es k pos) (P9 K n tgs) (B0 n ns):=⟨W2 K hc h.p hK hn hst,Xc h.r⟩
def YD{tg:Expr}(h:QE K X e te me)(hK:X.K=K:=by rfl):QI K X tg e (P3 K te) (Al me):=⟨Vz K h.p hK,Xb h.r⟩
def Vd{tg:Expr}(h:QE K X e te me)(hK:X.K=K:=by rfl):QI K X tg e (LN K te) (Dm me):=⟨T4 K h.p hK,V5 h.r⟩
def Vc{tg:Expr}{p:Pos}(hm:X.mg "range"=none)(ha:QA K X [a] t m)(hg:Gl X "range":=by rfl)(hs:starEach [a] X.env=[(false,eval a X.env)]:=by rfl):QI K X tg (.Call (.Name "range" p) [a] [] pos) (P5 t) (DQ m):=⟨QU hg hm ha.p hs,V4 ha.r⟩
def Vb{tg:Expr}{p:Pos}(hm:X.mg "range"=none)(ha:QA K X [a,b] t m)(hg:Gl X "range":=by rfl)(hs:starEach [a,b] X.env=[(false,eval a X.env),(false,eval b X.env)]:=by rfl)(hs2:starEach [b] X.env=[(false,eval b X.env)]:=by rfl):QI K X tg (.Call (.Name "range" p) [a,b] [] pos) (P4 t) (Ha m):=⟨QQ hg hm ha.p hs hs2,V3 ha.r⟩
def YG:QF K X [] Rr Bt:=⟨Yj,XR⟩
def YF(h:QT K X c tA nA):QF K X [c] tA nA:=⟨Yi h.p,h.r⟩
def Va{elt tg iter:Expr}{ifs:List Expr}{scope:Scope}{loc fr:List Str}{ix:List Nat}{wi:TI}{g:TG}{tf:TT}{te:TE}{mi:MI}{n:MG}{mf:MT}{mm:ME}(hc:X.calm=true)(S:CSc X scope fr ix)(hi:QI K X tg iter wi mi)
 (hg:∀s H ex,QG K (cCx X (loc++fr) scope s H ex) tg g n) (hf:∀s H ex,QF K (cCx X (loc++fr) scope s H ex) ifs tf mf) (he:∀s H ex,QE K (cCx X (loc++fr) scope s H ex) elt te mm)
 (hs:∀x,foldedSetIterable iter X.env x=pure x:=by intro _;rfl):QN K X (.ListComp elt [⟨tg,iter,ifs,0⟩] scope pos) (Fq loc.length ix wi g tf te) (Ao loc.length ix mi n mf mm):=
 ⟨W6 hc S hi.p (λs H ex=>(hg s H ex).p) (λs H ex=>(hf s H ex).p) (λs H ex=>(he s H ex).p) hs,NW hi.r (hg X.s₀ X.H₀ []).r (hf X.s₀ X.H₀ []).r (he X.s₀ X.H₀ []).r⟩
def VO:QSs K X [] Ie AT:=⟨Vn,NU⟩
def Se{st:Stmt}{rest:List Stmt}{u v:TS}{m1 m2:MS}(h1:QS K X st u m1)(h2:QSs K X rest v m2):QSs K X (st::rest) (Rv u v) (AA m1 m2):=⟨Sw h1.p h2.p,XU h1.r h2.r⟩
def VN{st:Stmt}{u:TS}{m1:MS}(h1:QS K X st u m1):QSs K X [st] u m1:=⟨Vm h1.p,h1.r⟩
def VQ:QS K X (.Pass pos) Ie AT:=⟨Vp,NU⟩
def VT(he:QE K X e te me)(hs:swapsWith e none pos.line X.env=pure false:=by rfl):QS K X (.Expr e pos) (OJ te) (C5 me):=⟨Vq he.p hs,Uy he.r⟩
def Y5(he:QE K X e te me):QS K X (.Return (some e) pos) (Rx te) (AM me):=⟨YZ he.p,XV he.r⟩
def a7{a b:List Stmt}{u v:TS}{m1 m2:MS}(hc:QT K X c tA nA)(ha:QSs K X a u m1)(hb:QSs K X b v m2):QS K X (.If c a b pos) (S5 tA u v) (Ae nA m1 m2):=⟨aF hc.p ha.p hb.p,Zt hc.r ha.r hb.r⟩
def Sh{st:Stmt}:QS K X st LY Cd:=⟨Sy,SI⟩
def Y8{tg:Expr}{g:TG}{n:MG}(he:QE K X e te me)(hg:QG K X tg g n)(hs:swapsWithSole [tg] e pos.line X.env=pure false:=by rfl)(hw:swappedStores [tg] e X.env=pure none:=by rfl)
 (h1:(assignEach [tg] X.env).map (·.2)=[assign tg X.env]:=by rfl):QS K X (.Assign [tg] e pos) (DL te g) (IL me n):=⟨QL he.p hg.p hs hw h1,Iv he.r hg.r⟩
def Y4{i:Nat}{pos':Pos}(hN:X.N.Nodup)(hi:X.N[i]?=some x)(hx:Loc X.env.scope x)(he:QE K X e te me)(hs:swapsWith e (some (.Name x pos')) pos.line X.env=pure false:=by rfl)(hf:X.fn x=true∨X.env.scope.names.lookup x=some .local:=by first|exact .inl rfl|exact .inr rfl|assumption):
 QS K X (.Assign [.Name x pos'] e pos) (DL te (Co i)) (AI i me):=⟨YY hN hi hx he.p hs hf,Iv he.r HP⟩
def VP{i:Nat}{y:Str}{elt tg iter:Expr}{ifs:List Expr}{scope:Scope}{spos py:Pos}{loc fr:List Str}{ix:List Nat}{wi:TI}{g:TG}{tf:TT}{te:TE}{mi:MI}{n:MG}{mf:MT}{mm:ME}(hN:X.N.Nodup)(hiN:X.N[i]?=some y)(hy:X.env.scope.names.lookup y=some .local)
 (hc:X.calm=true) (S:CSc X scope fr ix) (hi:QI K X tg iter wi mi)
 (hg:∀s H ex,QG K (cCx X (loc++fr) scope s H ex) tg g n) (hf:∀s H ex,QF K (cCx X (loc++fr) scope s H ex) ifs tf mf) (he:∀s H ex,QE K (cCx X (loc++fr) scope s H ex) elt te mm)
 (hsw:swapsWith (.ListComp elt [⟨tg,iter,ifs,0⟩] scope pos) (some (.Name y py)) spos.line X.env=pure true:=by rfl) (hs:∀x,foldedSetIterable iter X.env x=pure x:=by intro _;rfl):
 QS K X (.Assign [.Name y py] (.ListComp elt [⟨tg,iter,ifs,0⟩] scope pos) spos) (DL (Fq loc.length ix wi g tf te) (Co i)) (AI i (B8 (Ao loc.length ix mi n mf mm))):=
 ⟨Vo hN hiN hy hc S hi.p (λs H ex=>(hg s H ex).p) (λs H ex=>(hf s H ex).p) (λs H ex=>(he s H ex).p) hsw hs,Iv (Q6 (NW hi.r (hg X.s₀ X.H₀ []).r (hf X.s₀ X.H₀ []).r (he X.s₀ X.H₀ []).r)) HP⟩
def VU{o i value:Expr}{pos':Pos}{td ty tv:TE}{md my mv:ME}(hu:X.A.units+1<cLine)(ho:QE K X o td md)(hi:QE K X i ty my)(hv:QE K X value tv mv)(hs:swapsWith value (some (.Subscript o i pos')) pos.line X.env=pure false:=by rfl):
 QS K X (.Assign [.Subscript o i pos'] value pos) (OX td ty tv) (F4 md my mv):=⟨Vr hu ho.p hi.p hv.p hs,Uz ho.r hi.r hv.r⟩
def VR{o i value:Expr}{pos':Pos}{to ti tv:TE}{mo mi mv:ME}(ho:QE K X o to mo)(hi:QE K X i ti mi)(hv:QE K X value tv mv)(hs:swapsWithSole [.Subscript o i pos'] value pos.line X.env=pure false:=by rfl)(hw:swappedStores [.Subscript o i pos'] value X.env=pure none:=by rfl)
 (h1:(assignEach [.Subscript o i pos'] X.env).map (·.2)=[assign (.Subscript o i pos') X.env]:=by rfl)
 (ha:∀v,assign (.Subscript o i pos') X.env v=(do
  let ov <- holding [v] (eval o X.env)
  let iv <- holding [v,ov] (eval i X.env)
  standAt pos'
  holding [v,ov,iv] (setItem ov iv v)
  release [v,ov,iv] []):=by intro _;rfl):QS K X (.Assign [.Subscript o i pos'] value pos) (DL tv (Th to ti J0)) (DP mo mi mv):=⟨QL hv.p (Yh ho.p hi.p Le ha) hs hw h1,Uw ho.r hi.r hv.r⟩
def Y7{tg iter:Expr}{body:List Stmt}{wi:TI}{g:TG}{tb:TS}{mi:MI}{n:MG}{mb:MS}(hc:X.calm=true)(hi:QI K X tg iter wi mi)(hg:QG K X tg g n)(hb:QSs K X body tb mb)(hp:PassesOwn (model X.prog X.w) X.A X.env X.xe:=by exact PassesOwn.never)
 (hs:∀x,foldedSetIterable iter X.env x=pure x:=by intro _;rfl):QS K X (.For tg iter body [] pos) (S6 wi g tb) (BS mi n mb):=⟨Yb hp hc hi.p hg.p hb.p hs,XW hi.r hg.r hb.r⟩
end
def WJ{P:Program}{w:World}{K:PySem.W.Frag}{mg:Str->Option Value}{base:Heap}{x:Str}{st:Stmt}{f:Addr}{fd:FuncData}{N ps:List Str}{j:Nat}{m:MS}(DA:DefAt K mg x st f fd ps)(S:FnScope N ps (A9 st))
 (h:∀(cdv:Value) (A:Around) (outer:List Env) (s:Shared) (H:Hp) (E:XK),Room j (A.deeper (envOfC x (A9 st) s.heap.objs.size f cdv))->∃t,QSs K (FM CX0 P w K mg base N x (A9 st) f cdv A outer s H E).nox (BC st) t m):
 FnOk P w K mg base CX0 (j+1) f fd ps (spF K ps.length (mkF ps.length N.length m)):=by
 refine DA.fn.ok S (λvs H Q E h=>h.1) (λcdv A outer s H vs Q E hr hs=>?_);obtain⟨t,q⟩:=h cdv A outer s H E hr;exact⟨t,q.p,NP q.r hs⟩
section
variable{X:Cx}{pins:List (Addr×Obj)}{σ:List (Option V)}{H H':Hp}{s:Shared}{h':Heap}
def Inv.turns{tk:Nat}{fp:List Addr}(I:Inv X pins σ H s)(k:∀b o,b∉fp->s.heap.get? b=some o->h'.get? b=some o)(hf:∀b∈fp,FpOk X pins H b):Inv X pins σ H { s with heap:=h',toks:=tk }:=by
 have out:∀b u,H b=some u->b∉fp:=λb u e z=>by rw[(hf b z).1]at e;cases e
 have hL:X.env.locals∉fp:=λz=>(hf _ z).2.1 rfl;refine I.step (g':=s.gens) (d':=s.drawn) (ch:=fp) (λb hb=>⟨(hf b hb).2.2.2.1,(hf b hb).2.1,(hf b hb).2.2.2.2.1,(hf b hb).2.2.2.2.2⟩) (λb o _ _ hc e _=>k b o hc e) (λb o _ _ hc e _=>⟨o.slots,k b o hc e⟩) (λ_ _ _ _ n=>n)
  (λb o hc e=>⟨o,k b o hc e⟩) (λ_ _ e=>e) (λ_ _ _ e=>e) (λb ps e=>⟨#[],by rw[e];simp⟩) (λm hm=>?_) (λb u e=>?_) I.bare
 .obtain⟨o,es,ep,ho,r⟩:=hm;exact⟨o,es,ep,k _ o hL ho,r⟩
 .refine(I.hok b u e).stay (λc v hc q=>k c v ?_ q) (λ_ q=>q) λ_ _ q=>q;rcases hc with z|z
  .rw[z];exact out b u e
  .exact out c _ z
end
def Inv.turnsL{X:Cx}{pins:List (Addr×Obj)}{σ:List (Option V)}{H:Hp}{s:Shared}{h':Heap}{tk:Nat}{fp:List Addr}{a:Addr}{o:HO}(I:Inv X pins σ H s)(k:∀b o,b∉fp->s.heap.get? b=some o->h'.get? b=some o)(hf:∀b∈fp,FpOk X pins H b)(ha:s.heap.objs.size<=a)(new:ObjOk X.prog X.w (upd H a o) h' a o):
 Inv X pins σ (upd H a o) { s with heap:=h',toks:=tk }:=by
 have out:∀b u,H b=some u->b∉fp:=λb u e z=>by rw[(hf b z).1]at e;cases e
 have hL:X.env.locals∉fp:=λz=>(hf _ z).2.1 rfl;have fr:H a=none:=I.hok.fresh ha;refine I.step (g':=s.gens) (d':=s.drawn) (ch:=fp) (λb hb=>⟨(hf b hb).2.2.2.1,(hf b hb).2.1,(hf b hb).2.2.2.2.1,(hf b hb).2.2.2.2.2⟩) (λb o _ _ hc e _=>k b o hc e) (λb o _ _ hc e _=>⟨o.slots,k b o hc e⟩)
  (λb o _ e n=>by rw[AB (ne_of_lt (lt_of_lt_of_le (Heap.lt_size e) ha))];exact n) (λb o hc e=>⟨o,k b o hc e⟩) (λb xs e=>by rw[AB (AO e fr)];exact e) (λb o u e=>by rw[AB (AO e fr)];exact e)
  (λb ps e=>⟨#[],by rw[AB (AO e fr),e];simp⟩) (λm hm=>?_) (λb u e=>?_) I.bare
 .obtain⟨o,es,ep,ho,r⟩:=hm;exact⟨o,es,ep,k _ o hL ho,r⟩
 .by_cases hb:b=a
  .subst hb;rw[AK]at e;cases e;exact new
  .rw[AB hb]at e;refine(I.hok b u e).stay (λc v hc q=>k c v ?_ q) (λc q=>by rw[AB (AO q fr)];exact q) λc xs q=>by rw[AB (AO q fr)];exact q
   rcases hc with z|z
   .rw[z];exact out b u e
   .exact out c _ z
def RowI(tp:Bool)(h:Heap)(it l:Addr)(k:Nat):Prop:=match tp with
 |true=>h.IsTupleIter it l k
 |false=>h.IsListIter it l k
def RowL(tp:Bool)(h:Heap)(l:Addr)(xs:Array Value):Prop:=match tp with
 |true=>h.IsTuple l xs
 |false=>h.IsList l xs
def RowI.at{tp:Bool}{h h':Heap}{it l:Addr}{k:Nat}(x:RowI tp h it l k)(e:∀o,h.get? it=some o->h'.get? it=some o):RowI tp h' it l k:=by
 cases tp with
 |true=>exact Heap.IsTupleIter.at x e
 |false=>exact Heap.IsListIter.at x e
def RowL.at{tp:Bool}{h h':Heap}{l:Addr}{xs:Array Value}(x:RowL tp h l xs)(e:∀o,h.get? l=some o->h'.get? l=some o):RowL tp h' l xs:=by
 cases tp with
 |true=>obtain⟨o,e1,r⟩:=(show h.IsTuple l xs from x);exact⟨o,e _ e1,r⟩
 |false=>obtain⟨o,e1,r⟩:=(show h.IsList l xs from x);exact⟨o,e _ e1,r⟩
def RowI.obj{tp:Bool}{h:Heap}{it l:Addr}{k:Nat}(x:RowI tp h it l k):∃o,h.get? it=some o/\o.data=.fields #[.ref l,.int k 0]:=by
 cases tp with
 |true=>obtain⟨o,e,_,d⟩:=(show h.IsTupleIter it l k from x);exact⟨o,e,d⟩
 |false=>obtain⟨o,e,_,d⟩:=(show h.IsListIter it l k from x);exact⟨o,e,d⟩
def RowL.obj{tp:Bool}{h:Heap}{l:Addr}{xs:Array Value}(x:RowL tp h l xs):∃o n,h.get? l=some o/\o.data=.seq xs n:=by
 cases tp with
 |true=>obtain⟨o,e,_,n,d⟩:=(show h.IsTuple l xs from x);exact⟨o,n,e,d⟩
 |false=>obtain⟨o,e,_,n,d⟩:=(show h.IsList l xs from x);exact⟨o,n,e,d⟩
section
variable{prog:Program}{w:World}{A:Around}{E:Value->Shared->Prop}{s:Shared}{it l:Addr}{k:Nat}{xs:Array Value}{x:Value}
def Rn(hit:s.heap.IsTupleIter it l k)(hl:s.heap.IsTuple l xs)(hx:xs[k]?=some x){Q:Value->Shared->Prop}(hQ:∀g,g.IsTupleIter it l (k+1)->Heap.SameBut it s.heap g->Q x { s with heap:=g }):
 wpAny (model prog w) A (Builtin.SmallTypes.nextOf (.ref it)) Q E s:=by
 obtain⟨o,eo,ec,ed⟩:=id hit;obtain⟨ol,el,_,nl,edl⟩:=hl;unfold Builtin.SmallTypes.nextOf;refine wpAny_bind (wpAny_callSpecial?_slot (name:=Str.ofString "__next__") hit.typeIs PyProof.Rows.slot_tupleiter_next (wpAny_call_entry PyProof.Rows.slot_tupleiter_next hit.typeIs PyProof.Rows.entry_tupleiter_next ?_ (PyProof.Rows.args_tupleiter_next _)));show wpAny _ _ (field (.ref it) 0 >>= _) _ _ s;refine wpAny_bind (wpAny_field eo ed (x:=.ref l) rfl ?_);show wpAny _ _ (if(Value.ref l==Value.none)=true then _ else _) _ _ s;rw[if_neg (show ¬ (Value.ref l==Value.none)=true from Bool.false_ne_true)];show wpAny _ _ (field (.ref it) 1 >>= _) _ _ s;refine wpAny_bind (wpAny_field eo ed (x:=.int k 0) rfl ?_);show wpAny _ _ (seqItems? (.ref l) >>= _) _ _ s;refine wpAny_bind (wpAny_seqItems el edl ?_);simp only[toNat_natCast,hx];refine wpAny_bind (wpAny_setField eo ed (by simp) (wpAny_pure ⟨x,rfl,wpAny_pure (hQ _ ⟨_,Heap.get?_update_self _ eo (Obj.isFreed_of_fields (Obj.data_mapFields ed _)),(Obj.cls_mapFields ..).trans ec,?_⟩ (Heap.SameBut.update ..))⟩));rw[Obj.data_mapFields ed];simp[rawInt]
def Rm(hh:A.handled=none)(hit:s.heap.IsTupleIter it l k)(hl:s.heap.IsTuple l xs)(hx:xs[k]?=none){Q:Value->Shared->Prop}(hE:∀g e,Heap.ExtBut it s.heap g->(∃o,g.get? e=some o/\o.cls=.type "StopIteration")->E (.ref e) { s with heap:=g }):
 wpAny (model prog w) A (Builtin.SmallTypes.nextOf (.ref it)) Q E s:=by
 obtain⟨o,eo,ec,ed⟩:=id hit;obtain⟨ol,el,_,nl,edl⟩:=hl;unfold Builtin.SmallTypes.nextOf;refine wpAny_bind (wpAny_callSpecial?_slot (name:=Str.ofString "__next__") hit.typeIs PyProof.Rows.slot_tupleiter_next (wpAny_call_entry PyProof.Rows.slot_tupleiter_next hit.typeIs PyProof.Rows.entry_tupleiter_next ?_ (PyProof.Rows.args_tupleiter_next _)));show wpAny _ _ (field (.ref it) 0 >>= _) _ _ s;refine wpAny_bind (wpAny_field eo ed (x:=.ref l) rfl ?_);show wpAny _ _ (if(Value.ref l==Value.none)=true then _ else _) _ _ s;rw[if_neg (show ¬ (Value.ref l==Value.none)=true from Bool.false_ne_true)];show wpAny _ _ (field (.ref it) 1 >>= _) _ _ s;refine wpAny_bind (wpAny_field eo ed (x:=.int k 0) rfl ?_);show wpAny _ _ (seqItems? (.ref l) >>= _) _ _ s;refine wpAny_bind (wpAny_seqItems el edl ?_);simp only[toNat_natCast,hx];refine wpAny_bind (wpAny_rule (wpAny_bind (wpAny_setField eo ed (by simp) ?_)));show wpAny _ _ (newExc (.type "StopIteration") [] >>= _) _ _ _;refine wpAny_bind ?_;simp only[newExc,newTuple];refine wpAny_bind (wpAny_newObj_type ?_ (by size_fits));refine wpAny_bind (m:=firstArgMember _ _) (wpAny_of_eq (a:=Value.none) (by first|rfl|(simp only[firstArgMember];rfl)) ?_);refine wpAny_newObj_type ?_ (by size_fits);simp only[raiseNew];refine wpAny_bind (wpAny_handled ?_)
 first|rw[show A.in1.handled=none from hh]|rw[hh]
 exact wpAny_bind (wpAny_pure (wpAny_throw (hE _ _ (((Heap.SameBut.update ..).extBut.push _).push _) ⟨_,Heap.get?_push_size _ rfl,rfl⟩)))
def I0{tp:Bool}(hit:RowI tp s.heap it l k)(hl:RowL tp s.heap l xs)(hx:xs[k]?=some x){Q:Value->Shared->Prop}(hQ:∀g,RowI tp g it l (k+1)->Heap.SameBut it s.heap g->Q x { s with heap:=g }):
 wpAny (model prog w) A (Builtin.SmallTypes.nextOf (.ref it)) Q E s:=by
 cases tp with
 |true=>exact Rn hit hl hx hQ
 |false=>exact wpAny_nextOf_list_item hit hl hx hQ
def Lm{tp:Bool}(hh:A.handled=none)(hit:RowI tp s.heap it l k)(hl:RowL tp s.heap l xs)(hx:xs[k]?=none){Q:Value->Shared->Prop}(hE:∀g e,Heap.ExtBut it s.heap g->(∃o,g.get? e=some o/\o.cls=.type "StopIteration")->E (.ref e) { s with heap:=g }):
 wpAny (model prog w) A (Builtin.SmallTypes.nextOf (.ref it)) Q E s:=by
 cases tp with
 |true=>exact Rm hh hit hl hx hE
 |false=>exact wpAny_nextOf_list_end hh hit hl hx hE
end
structure ZAt(t1 t2:Bool)(h:Heap)(z a b i1 i2 l1 l2:Addr)(f0:Value)(j k:Nat):Prop where
 z:IsZip h z a b f0
 p:IsPair h a (.ref i1) (.ref i2)
 o:∃u v,IsPair h b u v
 r1:RowI t1 h i1 l1 j
 r2:RowI t2 h i2 l2 k
structure ZNe(z a b i1 i2 l1 l2:Addr):Prop where
 az:a≠z
 bz:b≠z
 iz:i1≠z
 jz:i2≠z
 ab:a≠b
 ai:a≠i1
 aj:a≠i2
 bi:b≠i1
 bj:b≠i2
 ij:i1≠i2
 lz:l1≠z
 lb:l1≠b
 li:l1≠i1
 lj:l1≠i2
 mz:l2≠z
 mb:l2≠b
 mi:l2≠i1
 mj:l2≠i2
section
variable{prog:Program}{w:World}{A:Around}{E:Value->Shared->Prop}{s:Shared}{t1 t2:Bool}{z a b i1 i2 l1 l2:Addr}{j k:Nat}{xs ys:Array Value}{x y:Value}
abbrev PY(z b i1 i2:Addr)(h h':Heap):Prop:=∀c o,c≠z->c≠b->c≠i1->c≠i2->h.get? c=some o->h'.get? c=some o
def RZ(N:ZNe z a b i1 i2 l1 l2)(Z:ZAt t1 t2 s.heap z a b i1 i2 l1 l2 .none j k)(hl1:RowL t1 s.heap l1 xs)(hl2:RowL t2 s.heap l2 ys)(hx:xs[j]?=some x)(hy:ys[k]?=some y){Q:Value->Shared->Prop}
 (hQ:∀g,ZAt t1 t2 g z a b i1 i2 l1 l2 (rawInt s.heap.objs.size) (j+1) (k+1)->IsPair g s.heap.objs.size x y->PY z b i1 i2 s.heap g->Q (.ref s.heap.objs.size) { s with heap:=g }):
 wpAny (model prog w) A (Builtin.«zip.__next__» ⟨[.ref z],[]⟩) (λfin s'=>∃v,fin=.done (.ret v)/\Q v s') E s:=by
 obtain⟨hz,hp,⟨u,v,hb⟩,q1,q2⟩:=Z;show wpAny _ _ (field (.ref z) 2 >>= _) _ _ _;refine wpAny_bind (wpAny_field hz rfl (x:=.bool false) rfl ?_);show wpAny _ _ (field (.ref z) 3 >>= _) _ _ _;refine wpAny_bind (wpAny_field hz rfl (x:=.ref a) rfl (wpAny_bind (wpAny_seqItems hp rfl ?_)));show wpAny _ _ (Builtin.SmallTypes.ownedTupleIsFree (.ref z) >>= _) _ _ _;unfold Builtin.SmallTypes.ownedTupleIsFree;refine wpAny_bind (wpAny_bind (wpAny_field hz rfl (x:=.none) rfl (wpAny_pure ?_)));simp only[if_true];refine wpAny_bind (wpAny_rule (wpAny_bind (wpAny_field hz rfl (x:=.ref b) rfl ?_)));refine wpAny_bind (wpAny_setField_rec hz (by simp) λg1 z1 s1=>?_);have z1:IsZip g1 z a b .ellipsis:=z1;refine wpAny_bind ?_;simp only[zipIdx_cons,List.zipIdx_nil,List.forIn_cons,List.forIn_nil];refine wpAny_bind (wpAny_bind (wpAny_onRaise ?_));show wpAny _ _ (Builtin.SmallTypes.nextOf (.ref i1) >>= _) _ _ _;refine wpAny_bind (I0 (s:={ s with heap:=g1 }) (q1.at λo e=>s1.extBut _ _ N.iz e) (hl1.at λo e=>s1.extBut _ _ N.lz e) hx λg2 r2 s2=>wpAny_pure ?_);have b2:IsPair g2 b u v:=s2.extBut _ _ N.bi (s1.extBut _ _ N.bz hb);refine wpAny_bind (wpAny_seqItems b2 rfl (wpAny_bind (wpAny_updateSeq_pair b2 λg3 b3 s3=>?_)));have b3:IsPair g3 b x v:=b3;refine wpAny_bind (wpAny_letGo (wpAny_pure (wpAny_bind (wpAny_bind (wpAny_onRaise ?_)))));show wpAny _ _ (Builtin.SmallTypes.nextOf (.ref i2) >>= _) _ _ _;have q3:RowI t2 g3 i2 l2 k:=q2.at λo e=>s3.extBut _ _ N.bj.symm (s2.extBut _ _ N.ij.symm (s1.extBut _ _ N.jz e));have m3:RowL t2 g3 l2 ys:=hl2.at λo e=>s3.extBut _ _ N.mb (s2.extBut _ _ N.mi (s1.extBut _ _ N.mz e));refine wpAny_bind (I0 (s:={ s with heap:=g3 }) q3 m3 hy λg4 r4 s4=>wpAny_pure ?_);have b4:IsPair g4 b x v:=s4.extBut _ _ N.bj b3;refine wpAny_bind (wpAny_seqItems b4 rfl (wpAny_bind (wpAny_updateSeq_pair b4 λg5 b5 s5=>?_)));have b5:IsPair g5 b x y:=b5;refine wpAny_bind (wpAny_letGo (wpAny_pure (wpAny_pure (wpAny_bind (wpAny_seqItems b5 rfl (wpAny_bind (wpAny_newTuple ?_)))))));have sz:g5.objs.size=s.heap.objs.size:=by rw[s5.1,s4.1,s3.1,s2.1,s1.1]
 have z5:IsZip g5 z a b .ellipsis:=s5.extBut _ _ N.bz.symm (s4.extBut _ _ N.jz.symm (s3.extBut _ _ N.bz.symm (s2.extBut _ _ N.iz.symm z1)));have kp:PY z b i1 i2 s.heap g5:=λc o c1 c2 c3 c4 e=>s5.extBut _ _ c2 (s4.extBut _ _ c4 (s3.extBut _ _ c2 (s2.extBut _ _ c3 (s1.extBut _ _ c1 e))));have w1:RowI t1 g5 i1 l1 (j+1):=r2.at λo e=>s5.extBut _ _ N.bi.symm (s4.extBut _ _ N.ij (s3.extBut _ _ N.bi.symm e));have w2:RowI t2 g5 i2 l2 (k+1):=r4.at λo e=>s5.extBut _ _ N.bj.symm e;have zlt:=Heap.lt_size z5;show wpAny _ _ (Builtin.SmallTypes.ownedTupleHandOut (.ref z) (.ref g5.objs.size) >>= _) _ _ _;unfold Builtin.SmallTypes.ownedTupleHandOut;have z6:IsZip (g5.push { cls:=.type "tuple",data:=.seq #[x,y] }) z a b .ellipsis:=Heap.get?_push_of_some _ z5;refine wpAny_bind (wpAny_bind (wpAny_setField_rec z6 (by simp) λg7 z7 s7=>?_));have z7:IsZip g7 z a b (rawInt g5.objs.size):=z7;refine wpAny_setField_rec z7 (by simp) λg8 z8 s8=>wpAny_pure ⟨_,rfl,?_⟩;have z8:IsZip g8 z a b (rawInt g5.objs.size):=z8;have up:∀c o,c≠z->g5.get? c=some o->g8.get? c=some o:=λc o c1 e=>s8.extBut _ _ c1 (s7.extBut _ _ c1 (Heap.get?_push_of_some _ e));have t8:IsPair g8 g5.objs.size x y:=s8.extBut _ _ (ne_of_gt zlt) (s7.extBut _ _ (ne_of_gt zlt) (Heap.get?_push_size _ rfl));show Q (.ref g5.objs.size) _;rw[sz]at z8 t8 ⊢;exact hQ g8 ⟨z8,up _ _ N.az (kp _ _ N.az N.ab N.ai N.aj hp),⟨_,_,up _ _ N.bz b5⟩,w1.at λo e=>up _ o N.iz e,w2.at λo e=>up _ o N.jz e⟩ t8 λc o c1 c2 c3 c4 e=>up c o c1 (kp c o c1 c2 c3 c4 e)
def RY(hh:A.handled=none)(N:ZNe z a b i1 i2 l1 l2)(Z:ZAt t1 t2 s.heap z a b i1 i2 l1 l2 .none j k)(hl1:RowL t1 s.heap l1 xs)(hl2:RowL t2 s.heap l2 ys)(hend:xs[j]?=none∨ys[k]?=none){Q:Fin->Shared->Prop}
 (hE:∀g e,PY z b i1 i2 s.heap g->(∃o,g.get? e=some o/\o.cls=.type "StopIteration")->E (.ref e) { s with heap:=g }):
 wpAny (model prog w) A (Builtin.«zip.__next__» ⟨[.ref z],[]⟩) Q E s:=by
 obtain⟨hz,hp,⟨u,v,hb⟩,q1,q2⟩:=Z;show wpAny _ _ (field (.ref z) 2 >>= _) _ _ _;refine wpAny_bind (wpAny_field hz rfl (x:=.bool false) rfl ?_);show wpAny _ _ (field (.ref z) 3 >>= _) _ _ _;refine wpAny_bind (wpAny_field hz rfl (x:=.ref a) rfl (wpAny_bind (wpAny_seqItems hp rfl ?_)));show wpAny _ _ (Builtin.SmallTypes.ownedTupleIsFree (.ref z) >>= _) _ _ _;unfold Builtin.SmallTypes.ownedTupleIsFree;refine wpAny_bind (wpAny_bind (wpAny_field hz rfl (x:=.none) rfl (wpAny_pure ?_)));simp only[if_true];refine wpAny_bind (wpAny_rule (wpAny_bind (wpAny_field hz rfl (x:=.ref b) rfl ?_)));refine wpAny_bind (wpAny_setField_rec hz (by simp) λg1 z1 s1=>?_);have z1:IsZip g1 z a b .ellipsis:=z1;refine wpAny_bind ?_;simp only[zipIdx_cons,List.zipIdx_nil,List.forIn_cons,List.forIn_nil];refine wpAny_bind (wpAny_bind (wpAny_onRaise ?_));show wpAny _ _ (Builtin.SmallTypes.nextOf (.ref i1) >>= _) _ _ _;have o1:RowI t1 g1 i1 l1 j:=q1.at λo e=>s1.extBut _ _ N.iz e;have m1:RowL t1 g1 l1 xs:=hl1.at λo e=>s1.extBut _ _ N.lz e;cases hx:xs[j]? with
 |none=>
  refine wpAny_bind (Lm (s:={ s with heap:=g1 }) hh o1 m1 hx λg2 e s2 he=>?_);obtain⟨oe,he1,he2⟩:=he;have z2:IsZip g2 z a b .ellipsis:=s2 _ _ N.iz.symm z1;have ne:e≠z:=λq=>by subst q;rw[z2]at he1;cases he1;simp at he2
  exact wpAny_setField_rec z2 (by simp) λg3 _ s3=>hE g3 e (λc o c1 _ c3 _ q=>s3.extBut _ _ c1 (s2 _ _ c3 (s1.extBut _ _ c1 q))) ⟨oe,s3.extBut _ _ ne he1,he2⟩
 |some x=>
  have hy:ys[k]?=none:=by
   rcases hend with q|q
   .rw[hx]at q;cases q
   .exact q
  refine wpAny_bind (I0 (s:={ s with heap:=g1 }) o1 m1 hx λg2 r2 s2=>wpAny_pure ?_);have b2:IsPair g2 b u v:=s2.extBut _ _ N.bi (s1.extBut _ _ N.bz hb);refine wpAny_bind (wpAny_seqItems b2 rfl (wpAny_bind (wpAny_updateSeq_pair b2 λg3 b3 s3=>?_)));refine wpAny_bind (wpAny_letGo (wpAny_pure (wpAny_bind (wpAny_bind (wpAny_onRaise ?_)))));show wpAny _ _ (Builtin.SmallTypes.nextOf (.ref i2) >>= _) _ _ _;have q3:RowI t2 g3 i2 l2 k:=q2.at λo e=>s3.extBut _ _ N.bj.symm (s2.extBut _ _ N.ij.symm (s1.extBut _ _ N.jz e));have m3:RowL t2 g3 l2 ys:=hl2.at λo e=>s3.extBut _ _ N.mb (s2.extBut _ _ N.mi (s1.extBut _ _ N.mz e));refine wpAny_bind (Lm (s:={ s with heap:=g3 }) hh q3 m3 hy λg4 e s4 he=>?_);obtain⟨oe,he1,he2⟩:=he;have z4:IsZip g4 z a b .ellipsis:=s4 _ _ N.jz.symm (s3.extBut _ _ N.bz.symm (s2.extBut _ _ N.iz.symm z1));have ne:e≠z:=λq=>by subst q;rw[z4]at he1;cases he1;simp at he2
  exact wpAny_setField_rec z4 (by simp) λg5 _ s5=>hE g5 e (λc o c1 c2 c3 c4 q=>s5.extBut _ _ c1 (s4 _ _ c4 (s3.extBut _ _ c2 (s2.extBut _ _ c3 (s1.extBut _ _ c1 q))))) ⟨oe,s5.extBut _ _ ne he1,he2⟩
end
def SqS(K:PySem.W.Frag)(tp:Bool)(H:Hp)(a:Addr)(xs:List V):Prop:=match tp with
 |true=>SqT K H a xs
 |false=>SqL K H a xs
def Itz(K:PySem.W.Frag)(t1 t2:Bool)(a b:Addr):It:=
 ⟨λi H=>∃xs ys x y,SqS K t1 H a xs/\SqS K t2 H b ys/\xs[i]?=some x/\ys[i]?=some y,
  λi H x H'=>∃p u v,H p=none/\H'=upd H p (.tup [u,v])/\x=.ref p/\(∀xs,SqS K t1 H a xs->xs[i]?=some u)/\∀ys,SqS K t2 H b ys->ys[i]?=some v,
  λi H=>∃xs ys,SqS K t1 H a xs/\SqS K t2 H b ys/\(xs.length<=i∨ys.length<=i)⟩
section
variable{X:Cx}{pins:List (Addr×Obj)}{σ:List (Option V)}{H:Hp}{s:Shared}
def Inv.row{tp:Bool}{a:Addr}{xs:List V}(I:Inv X pins σ H s)(h:SqS X.K tp H a xs):∃its:List Value,Vals xs its/\RowL tp s.heap a its.toArray/\xs.length<=sizeLine:=by
 cases tp with
 |true=>obtain⟨its,r,p,z⟩:=I.tuple h;exact⟨its,r,(show s.heap.IsTuple a its.toArray from p),z⟩
 |false=>obtain⟨its,r,p,z⟩:=I.list h;exact⟨its,r,p.isList,z⟩
def Inv.row_inj{tp:Bool}{a:Addr}{xs ys:List V}(I:Inv X pins σ H s)(h:SqS X.K tp H a xs)(h':SqS X.K tp H a ys):xs=ys:=by
 cases tp with
 |true=>exact I.tuple_inj h h'
 |false=>exact I.list_inj h h'
end
def RowL.lt{tp:Bool}{h:Heap}{l:Addr}{xs:Array Value}(x:RowL tp h l xs):l<h.objs.size:=by
 obtain⟨o,n,e,_⟩:=x.obj;exact Heap.lt_size e
def X2{M:Model}{A:Around}{E:Value->Shared->Prop}{s:Shared}{elts:List Expr}{x1}{pos:Pos}{z a b T:Addr}{Q:Unit->Shared->Prop}(hz:IsZip s.heap z a b (rawInt T)){prog:Program}{w:World}
 (hQ:∀g,IsZip g z a b .none->Heap.SameBut z s.heap g->Q () { s with heap:=g }):wpAny (model prog w) A (letOwnedTupleGo (.Tuple elts x1 pos) (.ref z) (.ref T)) Q E s:=wpAny_letOwnedTupleGo_zip hz hQ
def Rl{P:Program}{w:World}{K:PySem.W.Frag}{elts:List Expr}{kk:Nat}{tpos:Pos}{t1 t2:Bool}{z a b i1 i2 l1 l2:Addr}(N:ZNe z a b i1 i2 l1 l2):Turn P w K (.Tuple elts kk tpos) (Itz K t1 t2 l1 l2) [z,a,b,i1,i2] z (λi h=>ZAt t1 t2 h z a b i1 i2 l1 l2 .none i i) where
 mem:=by simp
 obj:=λi h st c hc=>by
  obtain⟨hz,hp,⟨u,v,hb⟩,q1,q2⟩:=st;simp only[mem_cons,not_mem_nil,or_false]at hc;rcases hc with rfl|rfl|rfl|rfl|rfl
  .exact⟨_,hz,λv z=>by cases(show Data.fields _=Data.cell v from z)⟩
  .exact⟨_,hp,λv z=>by cases(show Data.seq _ _=Data.cell v from z)⟩
  .exact⟨_,hb,λv z=>by cases(show Data.seq _ _=Data.cell v from z)⟩
  .obtain⟨o,e,d⟩:=q1.obj;exact⟨o,e,λv z=>by rw[d]at z;cases z⟩
  .obtain⟨o,e,d⟩:=q2.obj;exact⟨o,e,λv z=>by rw[d]at z;cases z⟩
 keep:=λi h h' st k=>by
  obtain⟨hz,hp,⟨u,v,hb⟩,q1,q2⟩:=st;exact⟨k z (by simp) _ hz,k a (by simp) _ hp,⟨u,v,k b (by simp) _ hb⟩,q1.at λo e=>k i1 (by simp) o e,q2.at λo e=>k i2 (by simp) o e⟩
 item:=by
  intro X hP hw hK hc i pins s σ H E I hf st hg;subst hP hw hK;obtain⟨xs,ys,x,y,h1,h2,hx,hy⟩:=hg;obtain⟨ix,rx,px,zx⟩:=I.row h1;obtain⟨iy,ry,py,zy⟩:=I.row h2;obtain⟨u,hu,ru⟩:=rx.get hx;obtain⟨v,hv,rv⟩:=ry.get hy;have hT:s.TypeIs (.ref z) "zip":=⟨_,st.z,rfl⟩
  unfold pyNext;refine wpAny_bind (wpAny_attempt (wpAny_callSpecial?_slot (name:=Str.ofString "__next__") hT F.slot_zip_next (wpAny_call_entry F.slot_zip_next hT F.entry_zip_next
   (RZ N st px py (x:=u) (y:=v) (by simpa using hu) (by simpa using hv) λg Z g5 kp=>wpAny_pure ⟨_,rfl,?_⟩) (F.args_zip_next_1 _))))
  refine X2 (M:=model X.prog X.w) (s:={ s with heap:=g }) Z.z λg' z' sb=>?_;have kp2:∀c o,c∉[z,a,b,i1,i2]->s.heap.get? c=some o->g'.get? c=some o:=λc o nc e=>by
   simp only[mem_cons,not_mem_nil,or_false,not_or]at nc;exact sb.extBut _ _ nc.1 (kp c o nc.1 nc.2.2.1 nc.2.2.2.1 nc.2.2.2.2 e)
  have hTz:s.heap.objs.size≠z:=ne_of_gt (Heap.lt_size st.z);have hpair:IsPair g' s.heap.objs.size u v:=sb.extBut _ _ hTz g5;have fresh:H s.heap.objs.size=none:=I.hok.fresh (le_refl _);have I2:Inv X pins σ (upd H s.heap.objs.size (.tup [x,y])) { s with heap:=g' }:=I.turnsL (tk:=s.toks) (o:=.tup [x,y]) kp2 hf (le_refl _)
   (show ObjOk X.prog X.w _ g' _ (.tup [x,y])from⟨by show 2<=sizeLine;decide,[u,v],.cons ru (.cons rv .nil),⟨_,hpair,rfl,⟨_,rfl⟩,rfl⟩⟩)
  refine⟨.ref s.heap.objs.size,_,I2,rfl,⟨_,x,y,fresh,rfl,rfl,λxs' q=>by rw[I.row_inj q h1];exact hx,λys' q=>by rw[I.row_inj q h2];exact hy⟩,⟨z',?_,?_,?_,?_⟩,λc hc=>?_⟩
  .exact sb.extBut _ _ N.az Z.p
  .obtain⟨p,q,e⟩:=Z.o;exact⟨p,q,sb.extBut _ _ N.bz e⟩
  .exact Z.r1.at λo e=>sb.extBut _ _ N.iz e
  .exact Z.r2.at λo e=>sb.extBut _ _ N.jz e
  .have lt:c<s.heap.objs.size:=by
    obtain⟨hz,hp,⟨u,v,hb⟩,q1,q2⟩:=st;simp only[mem_cons,not_mem_nil,or_false]at hc;rcases hc with rfl|rfl|rfl|rfl|rfl
    .exact Heap.lt_size hz
    .exact Heap.lt_size hp
    .exact Heap.lt_size hb
    .obtain⟨o,e,_⟩:=q1.obj;exact Heap.lt_size e
    .obtain⟨o,e,_⟩:=q2.obj;exact Heap.lt_size e
   rw[AB (ne_of_lt lt)];exact(hf c hc).1
 done:=by
  intro X hP hw hK hc i pins s σ H E I hf st hg;subst hP hw hK;obtain⟨xs,ys,h1,h2,hend⟩:=hg;obtain⟨ix,rx,px,zx⟩:=I.row h1;obtain⟨iy,ry,py,zy⟩:=I.row h2;have l1':=rx.length;have l2':=ry.length;have hT:s.TypeIs (.ref z) "zip":=⟨_,st.z,rfl⟩
  unfold pyNext;refine wpAny_bind (wpAny_attempt (wpAny_callSpecial?_slot (name:=Str.ofString "__next__") hT F.slot_zip_next (wpAny_call_entry F.slot_zip_next hT F.entry_zip_next
   (RY (A:=X.A.in1) (show X.A.in1.handled=none from I.ok.hd hc) N st px py (hend.imp (λq=>by simp;omega) λq=>by simp;omega) λg e kp he=>?_) (F.args_zip_next_1 _))))
  obtain⟨o,ho,hcl⟩:=he;refine wpAny_bind (wpAny_isInstance (T:="StopIteration") (b:=true) ⟨o,ho,hcl⟩ isSubtype_stop (wpAny_pure ⟨rfl,?_⟩));exact I.turns (tk:=s.toks) (λc o nc e=>by
   simp only[mem_cons,not_mem_nil,or_false,not_or]at nc;exact kp c o nc.1 nc.2.2.1 nc.2.2.2.1 nc.2.2.2.2 e) hf
 self:=λ_ _ _ _ _ st h=>wpAny_pyIter_zip st.z h
abbrev Dw(tp:Bool)(l:Addr):Obj:={ cls:=.type (match tp with|true=>"tuple_iterator" | false=>"list_iterator"),data:=.fields #[.ref l,.int 0 0] }
abbrev zh1(t1:Bool)(h:Heap)(l1:Addr):Heap:=h.push (Dw t1 l1)
abbrev zh2(t1 t2:Bool)(h:Heap)(l1 l2:Addr):Heap:=(zh1 t1 h l1).push (Dw t2 l2)
abbrev zh3(t1 t2:Bool)(h:Heap)(l1 l2:Addr):Heap:=(zh2 t1 t2 h l1 l2).push { cls:=.type "tuple",data:=.seq #[.ref h.objs.size,.ref (zh1 t1 h l1).objs.size] }
abbrev zh4(t1 t2:Bool)(h:Heap)(l1 l2:Addr):Heap:=(zh3 t1 t2 h l1 l2).push { cls:=.type "tuple",data:=.seq #[.none,.none] }
abbrev zh5(t1 t2:Bool)(h:Heap)(l1 l2:Addr):Heap:=(zh4 t1 t2 h l1 l2).push { cls:=.type "zip",data:=.fields #[.none,.bool false,.bool false,.ref (zh2 t1 t2 h l1 l2).objs.size,.ref (zh3 t1 t2 h l1 l2).objs.size] }
set_option maxHeartbeats 4000000 in
def Ra(t1 t2:Bool)(l1 l2:Addr)(xs ys:Array Value):
 Meets (Builtin.«zip.__new__» ⟨[.type "zip",.ref l1,.ref l2],[]⟩) (λ_ R s=>RowL t1 s.heap l1 xs/\RowL t2 s.heap l2 ys/\R (.ok (.ret (.ref (zh4 t1 t2 s.heap l1 l2).objs.size))) { s with heap:=zh5 t1 t2 s.heap l1 l2 }):=
 .of_wp λprog w A R s h=>by
  obtain⟨hp,g,d,tk,os⟩:=s;obtain⟨q1,q2,h⟩:=h;have hsub:=sub_zip;have q2':RowL t2 (hp.push (Dw t1 l1)) l2 ys:=q2.at λo e=>Heap.get?_push_of_some _ e;cases t1<;>cases t2
  .have p1:Heap.IsList (Shared.heap ⟨hp,g,d,tk,os⟩) l1 xs:=q1;have p2:Heap.IsList (Shared.heap ⟨hp.push (Dw false l1),g,d,tk,os⟩) l2 ys:=q2'
   wp_walk using wpAny_pyIter_list p1,wpAny_pyIter_list p2
   exact⟨_,rfl,h⟩
  .have p1:Heap.IsList (Shared.heap ⟨hp,g,d,tk,os⟩) l1 xs:=q1;have p2:Heap.IsTuple (Shared.heap ⟨hp.push (Dw false l1),g,d,tk,os⟩) l2 ys:=q2'
   wp_walk using wpAny_pyIter_list p1,wpAny_pyIter_tuple p2
   exact⟨_,rfl,h⟩
  .have p1:Heap.IsTuple (Shared.heap ⟨hp,g,d,tk,os⟩) l1 xs:=q1;have p2:Heap.IsList (Shared.heap ⟨hp.push (Dw true l1),g,d,tk,os⟩) l2 ys:=q2'
   wp_walk using wpAny_pyIter_tuple p1,wpAny_pyIter_list p2
   exact⟨_,rfl,h⟩
  .have p1:Heap.IsTuple (Shared.heap ⟨hp,g,d,tk,os⟩) l1 xs:=q1;have p2:Heap.IsTuple (Shared.heap ⟨hp.push (Dw true l1),g,d,tk,os⟩) l2 ys:=q2'
   wp_walk using wpAny_pyIter_tuple p1,wpAny_pyIter_tuple p2
   exact⟨_,rfl,h⟩
def Ub{n l1 l2:Addr}(h1:l1<n)(h2:l2<n):ZNe (n+4) (n+2) (n+3) n (n+1) l1 l2:=by
 have k1:@LT.lt Nat _ l1 n:=h1;have k2:@LT.lt Nat _ l2 n:=h2;constructor<;>(intro z;have z:@Eq Nat _ _:=z;omega)
def NV{tp:Bool}{h:Heap}{a l:Addr}(e:h.get? a=some (Dw tp l)):RowI tp h a l 0:=by
 cases tp with
 |true=>exact⟨_,e,rfl,rfl⟩
 |false=>exact⟨_,e,rfl,rfl⟩
section
variable{prog:Program}{w:World}{A:Around}{E:Value->Shared->Prop}{s:Shared}
def Rb{t1 t2:Bool}{l1 l2:Addr}{xs ys:Array Value}{Q:Value->Shared->Prop}(q1:RowL t1 s.heap l1 xs)(q2:RowL t2 s.heap l2 ys)
 (h:∀g,ZAt t1 t2 g (s.heap.objs.size+4) (s.heap.objs.size+2) (s.heap.objs.size+3) s.heap.objs.size (s.heap.objs.size+1) l1 l2 .none 0 0->(∀c o,s.heap.get? c=some o->g.get? c=some o)->Q (.ref (s.heap.objs.size+4)) { s with heap:=g }):
 wpAny (model prog w) A (call (.type "zip") [.ref l1,.ref l2]) Q E s:=by
 refine callType_new F.called_zip (by decide) (F.typeCall_zip_2 _ _) (F.newCall_zip_2 _ _) (λobj=>F.args_object_init_3 obj _ _) F.entry_zip_new (Ra t1 t2 l1 l2 xs ys) ⟨q1,q2,?_⟩;have n1:(zh1 t1 s.heap l1).objs.size=s.heap.objs.size+1:=Heap.size_push ..;have n2:(zh2 t1 t2 s.heap l1 l2).objs.size=s.heap.objs.size+2:=by rw[Heap.size_push,n1]
 have n3:(zh3 t1 t2 s.heap l1 l2).objs.size=s.heap.objs.size+3:=by rw[Heap.size_push,n2]
 have n4:(zh4 t1 t2 s.heap l1 l2).objs.size=s.heap.objs.size+4:=by rw[Heap.size_push,n3]
 have up:∀{g:Heap} {c:Addr} {o x:Obj},g.get? c=some o->(g.push x).get? c=some o:=λe=>Heap.get?_push_of_some _ e;have e5:(zh5 t1 t2 s.heap l1 l2).get? (zh4 t1 t2 s.heap l1 l2).objs.size=some _:=Heap.get?_push_size _ rfl;have e4:(zh5 t1 t2 s.heap l1 l2).get? (zh3 t1 t2 s.heap l1 l2).objs.size=some _:=up (Heap.get?_push_size _ rfl);have e3:(zh5 t1 t2 s.heap l1 l2).get? (zh2 t1 t2 s.heap l1 l2).objs.size=some _:=up (up (Heap.get?_push_size _ rfl));have e2:(zh5 t1 t2 s.heap l1 l2).get? (zh1 t1 s.heap l1).objs.size=some (Dw t2 l2):=up (up (up (Heap.get?_push_size _ (by cases t2<;>rfl))));have e1:(zh5 t1 t2 s.heap l1 l2).get? s.heap.objs.size=some (Dw t1 l1):=up (up (up (up (Heap.get?_push_size _ (by cases t1<;>rfl)))));show _/\_;rw[n2,n3,n4]at e5;rw[n1,n2]at e3;rw[n3]at e4;rw[n1]at e2;rw[n4];exact⟨⟨_,e5,rfl⟩,h _ ⟨e5,e3,⟨_,_,e4⟩,NV e1,NV e2⟩ λc o x=>up (up (up (up (up x))))⟩
end
def P2(K:PySem.W.Frag)(t1 t2:Bool)(ta:TA):TI:=λσ H R=>ta σ H λvs H1=>∃a b xs ys,vs=[.ref a,.ref b]/\SqS K t1 H1 a xs/\SqS K t2 H1 b ys/\R (Itz K t1 t2 a b) H1
section
variable{X:Cx}
def Yd{t1 t2:Bool}{a b:Expr}{ta:TA}{elts:List Expr}{kk:Nat}{tpos p pos:Pos}(hg:Gl X "zip")(hm:X.mg "zip"=none)(ha:PA X [a,b] ta)(hs:starEach [a,b] X.env=[(false,eval a X.env),(false,eval b X.env)]:=by rfl)(hs2:starEach [b] X.env=[(false,eval b X.env)]:=by rfl):
 PI X (.Tuple elts kk tpos) (.Call (.Name "zip" p) [a,b] [] pos) (P2 X.K t1 t2 ta):=by
 intro pins s σ H R I h;refine Call_ (D3 I hg hm boot_zip (PyProof.Rows.callWith_type1 (thn (ha pos pins s σ H _ I h) λus s1 ⟨vs,H1,I1,r1,q1⟩=>?_) (by rw[hs,hs2]) (by rw[hs2];rfl)));obtain⟨l1,l2,xs,ys,e,c1,c2,q⟩:=q1;subst e;obtain⟨u,v,rfl,ru,rv⟩:=O9 r1;cases ru;cases rv;obtain⟨ix,rx,px,zx⟩:=I1.row c1;obtain⟨iy,ry,py,zy⟩:=I1.row c2;refine Rb px py λg Z kp=>wpAny_pyIter_zip Z.z ?_;refine⟨_,_,_,_,H1,rfl,I1.kept (t':=s1.toks) kp,Rl (Ub px.lt py.lt),Z,λc hc=>?_,q⟩;simp only[mem_cons,not_mem_nil,or_false]at hc;have le:s1.heap.objs.size<=c:=by
  rcases hc with rfl|rfl|rfl|rfl|rfl
  .exact le_add_right _ _
  .exact le_add_right _ _
  .exact le_add_right _ _
  .exact le_refl _
  .exact le_add_right _ _
 exact I1.fpOk le (I1.hok.fresh le)
def Vy(K:PySem.W.Frag){t1 t2:Bool}{a b:Expr}{ta:TA}{elts:List Expr}{kk:Nat}{tpos p pos:Pos}(hg:Gl X "zip")(hm:X.mg "zip"=none)(ha:PA X [a,b] ta)(hK:X.K=K:=by rfl)(hs:starEach [a,b] X.env=[(false,eval a X.env),(false,eval b X.env)]:=by rfl)(hs2:starEach [b] X.env=[(false,eval b X.env)]:=by rfl):
 PI X (.Tuple elts kk tpos) (.Call (.Name "zip" p) [a,b] [] pos) (P2 K t1 t2 ta):=by subst hK;exact Yd hg hm ha hs hs2
end
def ar(K:PySem.W.Frag)(ρ:List Addr)(H:Hp)(tp:Bool)(a:Addr)(ds:List D)(g:Gd):Prop:=∀(ρ2:List Addr) (H2:Hp) (hd2:Hd),Ext ρ H ρ2 H2->RH K ρ2 H2 hd2->GOk hd2 g->∃xs,SqS K tp H2 a xs/\RDs K ρ2 H2 ds xs
def RRw(K:PySem.W.Frag)(tp:Bool)(t:TE)(m:MI):Prop:=∀(ρ:List Addr) (σ:St) (H:Hp) (hd:Hd) (ls:Ls) (Q:VK) (d:List D) (g:Gd) (hd':Hd),RH K ρ H hd->RL K ρ H ls σ->m ls hd=some ((d,g),hd') ->
 (∀ρ' H' a,Ext ρ H ρ' H'->RH K ρ' H' hd'->GOk hd' g->ar K ρ' H' tp a d g->Q (.ref a) H')->t σ H Q
structure QR(K:PySem.W.Frag)(tp:Bool)(X:Cx)(e:Expr)(t:TE)(m:MI):Prop where
 p:PE X e t
 r:RRw K tp t m
section
variable{K:PySem.W.Frag}{ρ ρ':List Addr}{H H':Hp}{hd hd':Hd}
def XO{t:TE}{m:ME}(h:RE K t m):RRw K true t (Al m):=by
 intro ρ σ H hd ls Q d g hd' hR hL hm hQ;obtain⟨⟨d1,h1⟩,e1,hm⟩:=dL hm;obtain⟨ds,e2,e3⟩:=dM hm;cases e3;refine h ρ σ H hd ls _ d1 _ hR hL e1 λρ1 H1 v x1 R1 r1=>?_;obtain⟨a,xs,rfl,q,r⟩:=r1.tup e2;exact hQ ρ1 H1 a x1 R1 (AJ _) λρ2 H2 hd2 x2 R2 _=>⟨xs,(x2.grow R1).sq q,r.ext R1 x2⟩
def Uv{t:TE}{m:ME}(h:RE K t m):RRw K false t (Dm m):=by
 intro ρ σ H hd ls Q d g hd' hR hL hm hQ;obtain⟨⟨d1,h1⟩,e1,hm⟩:=dL hm;dsimp only at hm;split at hm
 .next n=>
  split at hm
  .next ds q=>
   cases hm;refine h ρ σ H hd ls _ _ _ hR hL e1 λρ1 H1 v x1 R1 r1=>?_;simp only[RD]at r1;obtain⟨a,hn,rfl⟩:=r1;refine hQ ρ1 H1 a x1 R1 (λp z=>by simp at z;subst z;exact q) λρ2 H2 hd2 x2 R2 G2=>?_;have hn2:ρ2[n]?=some a:=by
    obtain⟨r,rfl,_⟩:=x2.pre;rw[List.getElem?_append_left (List.getElem?_eq_some_iff.mp hn).1];exact hn
   obtain⟨ys,e4,e5⟩:=R2.lst hn2 (G2 (n,d) (by simp));exact⟨ys,SqL.of e4,e5⟩
  .cases hm
 .next ns=>
  cases hm;refine h ρ σ H hd ls _ _ _ hR hL e1 λρ1 H1 v x1 R1 r1=>?_;simp only[RD]at r1;obtain⟨a,rfl,q⟩:=r1;exact hQ ρ1 H1 a x1 R1 (AJ _) λρ2 H2 hd2 x2 R2 _=>⟨_,(q.grow (x2.grow R1)).sq,Ff⟩
 .cases hm
open Classical in
def FG(ma mb:MI):MI:=λls hd=>(ma ls hd).bind λp=>(mb ls p.2).bind λq=>if GOk q.2 p.1.2 then some ((List.zipWith (λx y=>AX [x,y]) p.1.1 q.1.1,p.1.2++q.1.2),q.2)else none
def Xa{t1 t2:Bool}{ta tb:TE}{ma mb:MI}(ha:RRw K t1 ta ma)(hb:RRw K t2 tb mb):RIt K (P2 K t1 t2 (BD ta (BD tb C2))) (FG ma mb):=by
 intro ρ σ H hd ls Q d g hd' hR hL hm hQ;obtain⟨⟨⟨d1,g1⟩,h1⟩,e1,hm⟩:=dL hm;obtain⟨⟨⟨d2,g2⟩,h2⟩,e2,hm⟩:=dL hm;dsimp only at hm;split at hm
 .next gk=>
  cases hm;refine ha ρ σ H hd ls _ d1 g1 h1 hR hL e1 λρ1 H1 a x1 R1 G1 S1=>?_;refine hb ρ1 σ H1 h1 ls _ d2 g2 _ R1 (hL.ext hR x1) e2 λρ2 H2 b x2 R2 G2 S2=>?_;obtain⟨xs,c1,r1⟩:=S1 ρ2 H2 _ x2 R2 gk;obtain⟨ys,c2,r2⟩:=S2 ρ2 H2 _ .refl R2 G2;refine⟨a,b,xs,ys,rfl,c1,c2,hQ ρ2 H2 _ (x1.trans R1 x2) R2 (λp hp=>(mem_append.mp hp).elim (gk p) (G2 p)) ?_⟩;intro ρ3 H3 hd3 x3 R3 G3 i;obtain⟨xs,c1,r1⟩:=S1 ρ3 H3 _ (x2.trans R2 x3) R3 λp hp=>G3 p (mem_append_left _ hp);obtain⟨ys,c2,r2⟩:=S2 ρ3 H3 _ x3 R3 λp hp=>G3 p (mem_append_right _ hp);have l1:=r1.len;have l2:=r2.len;refine⟨λhi=>?_,λhi=>⟨xs,ys,c1,c2,?_⟩⟩
  .simp only[List.length_zipWith]at hi;have i1:d1[i]?=some (d1[i]'(by omega)):=List.getElem?_eq_getElem _;have i2:d2[i]?=some (d2[i]'(by omega)):=List.getElem?_eq_getElem _;obtain⟨x,x4,x5⟩:=r1.get i1;obtain⟨y,y4,y5⟩:=r2.get i2;refine⟨⟨xs,ys,x,y,c1,c2,x4,y4⟩,λz H4 hz=>?_⟩;obtain⟨p,u,v,fp,rfl,rfl,hu,hv⟩:=hz;have eu:=hu xs c1;rw[x4]at eu;cases eu;have ev:=hv ys c2;rw[y4]at ev;cases ev;obtain⟨R4,x6⟩:=R3.hid (ho:=.tup [x,y]) fp;refine⟨ρ3,AX [d1[i]'(by omega),d2[i]'(by omega)],x6,rfl,R4,?_,BL (SqT.of AK) (.cons (x5.ext R3 x6) (.cons (y5.ext R3 x6) .nil))⟩;simp[List.getElem?_zipWith,i1,i2]
  .simp only[List.length_zipWith]at hi;omega
 .cases hm
end
section
variable(K:PySem.W.Frag){X:Cx}{a b e:Expr}{ta tb te:TE}{me:ME}{m:MA}
def QK(h:QE K X e te me):QR K true X e te (Al me):=⟨h.p,XO h.r⟩
def VW(h:QE K X e te me):QR K false X e te (Dm me):=⟨h.p,Uv h.r⟩
def YC{t1 t2:Bool}{ma mb:MI}{elts:List Expr}{kk:Nat}{tpos p pos:Pos}(hm:X.mg "zip"=none)(ha:QR K t1 X a ta ma)(hb:QR K t2 X b tb mb)(hg:Gl X "zip":=by rfl)(hK:X.K=K:=by rfl)(hs:starEach [a,b] X.env=[(false,eval a X.env),(false,eval b X.env)]:=by rfl)(hs2:starEach [b] X.env=[(false,eval b X.env)]:=by rfl):
 QI K X (.Tuple elts kk tpos) (.Call (.Name "zip" p) [a,b] [] pos) (P2 K t1 t2 (BD ta (BD tb C2))) (FG ma mb):=⟨Vy K hg hm (Bz ha.p (Bz hb.p D1 hs2) (by rw[hs,hs2])) hK hs hs2,Xa ha.r hb.r⟩
end
section
variable{K:PySem.W.Frag}
def G5(ml:MA)(mb:ME):ME:=λls hd=>(ml ls hd).bind λp=>(mb ls p.2).bind λq=>match q.1 with
 |.im (.int i)=>(atI p.1 i).map (·,q.2)
 |_=>none
def Xj{ta tb:TE}{ml:MA}{mb:ME}(ha:RN K ta ml)(hb:RE K tb mb):RE K (tOp (LI K) ta tb) (G5 ml mb):=by
 and_intros;obtain⟨⟨d1,h1⟩,e1,hm⟩:=dL hm;obtain⟨⟨d2,h2⟩,e2,hm⟩:=dL hm;dsimp only at hm;split at hm
 .obtain⟨w,e3,e4⟩:=dM hm;cases e4;refine ha ρ σ H hd ls _ d1 h1 hR hL e1 λρ1 H1 a xs x1 R1 na oa ea r1=>?_;refine hb ρ1 σ H1 h1 ls _ _ _ R1 (hL.ext hR x1) e2 λρ2 H2 v2 x2 R2 r2=>?_;simp only[RD,RI]at r2;subst r2;have r1':=r1.ext R1 x2;obtain⟨j,j1,j2⟩:=O6 r1'.len e3;obtain⟨x,y1,y2⟩:=r1'.get j1;exact .inl ⟨a,xs,_,x,rfl,rfl,SqL.of (x2.keep a _ ea oa nt),j2 x y1,hQ ρ2 H2 x (x1.trans R1 x2) R2 y2⟩
 .cases hm
def K2(neg:Bool)(x y:PyData)(hd:Hd):Option (D×Hd):=if x.canLay0=true/\y.canLay0=true/\min x.depth y.depth<=60 then some (.im (.bl (if neg then !PyData.eqv x y else PyData.eqv x y)),hd)else none
def D8(neg:Bool)(ma:ME)(ml:MA):ME:=λls hd=>(ma ls hd).bind λp=>(ml ls p.2).bind λq=>(pyD q.2 p.1).bind λx=>(BU q.1).bind λis=>K2 neg x (.list (I.pys is)) q.2
def rEN(K:PySem.W.Frag)(neg:Bool):R2:=λx y H Q=>∃d e,Rep K H d x/\Rep K H e y/\d.canLay0=true/\e.canLay0=true/\min d.depth e.depth<=60/\Q (.bl (if neg then !PyData.eqv d e else PyData.eqv d e)) H
def V8{ρ:List Addr}{H:Hp}{a:Addr}{xs:List V}{ds:List D}{is:List I}(ea:H a=some (.lst xs))(r:RDs K ρ H ds xs)(e:BU ds=some is):Rep K H (.list (I.pys is)) (.ref a):=by
 rw[GL e]at r;simp only[Rep];exact⟨a,xs,rfl,SqL.of ea,r.is.rep⟩
def VB{neg:Bool}{ta tb:TE}{ma:ME}{ml:MA}(ha:RE K ta ma)(hb:RN K tb ml):RE K (tOp (rEN K neg) ta tb) (D8 neg ma ml):=by
 and_intros;obtain⟨⟨d1,h1⟩,e1,hm⟩:=dL hm;obtain⟨⟨d2,h2⟩,e2,hm⟩:=dL hm;obtain⟨x,e3,hm⟩:=dL hm;obtain⟨is,e4,hm⟩:=dL hm;unfold K2 at hm;split at hm
 .next c=>
  cases hm;refine ha ρ σ H hd ls _ d1 h1 hR hL e1 λρ1 H1 v x1 R1 r1=>?_;refine hb ρ1 σ H1 h1 ls _ d2 _ R1 (hL.ext hR x1) e2 λρ2 H2 a xs x2 R2 na oa ea r2=>?_;exact⟨_,_,FZ R2 (r1.ext R1 x2) e3,V8 ea r2 e4,c.1,c.2.1,c.2.2,hQ ρ2 H2 _ (x1.trans R1 x2) R2 (by simp[RD,RI])⟩
 .cases hm
end
def Yz(K:PySem.W.Frag){X:Cx}(hu:X.A.units+64<cLine)(hK:X.K=K:=by rfl):OpR X (compareOp .NotEq) (rEN K true):=Jj K hu hK
section
variable(K:PySem.W.Frag){X:Cx}{a b e:Expr}{ta tb te:TE}{ma mb me:ME}{m mk:MA}{pos:Pos}{op:CmpOp}{neg:Bool}
def YQ(ha:QN K X a ta m)(hb:QE K X b tb mb)(hs:K9 b:=by exact λ_ _=>rfl)(hK:X.K=K:=by rfl):QE K X (.Subscript a b pos) (tOp (LI K) ta tb) (G5 m mb):=⟨UM ((MV K hK).or (Nr K hK)) ha.p hb.p hs,Xj ha.r hb.r⟩
def VM(ho:OpR X (compareOp op) (rEN K neg))(ha:QE K X a ta ma)(hb:QN K X b tb m)(hm:behindInMarks op b=false:=by first|exact M6 _|rfl):QT K X (.Compare a [op] [b] pos) (LB (tOp (rEN K neg) ta tb)) (AE (D8 neg ma m)):=⟨Nf ho ha.p hb.p hm,EY (VB ha.r hb.r)⟩
end
def Bc(lo:Int):Nat->List V
 |0=>[]
 |n+1=>.int lo::Bc (lo+1) n
def Od(lo:Int)(n:Nat):(Bc lo n).length=n:=by
 induction n generalizing lo with
 |zero=>rfl
 |succ n ih=>simp[Bc,ih]
def Lr{K:PySem.W.Frag}{ρ:List Addr}{H:Hp}(lo:Int)(n:Nat):RDs K ρ H (AW lo n) (Bc lo n):=by
 induction n generalizing lo with
 |zero=>simp[AW,Bc,RDs]
 |succ n ih=>exact .cons (by simp[RD,RI]) (ih _)
def Ix{lo:Int}:∀{n:Nat} {us:List Value},us.length=n->(∀(j:Nat) (v:Value),us[j]?=some v->∃t,v=.int (lo+j*1) t)->Vals (Bc lo n) us
 |0,us,h,_=>by
  have:us=[]:=length_eq_zero_iff.mp h;subst this;exact .nil
 |n+1,[],h,_=>by simp at h
 |n+1,u::us,h,k=>by
  obtain⟨t,e⟩:=k 0 u rfl;refine .cons ⟨t,by rw[e];simp⟩ (Ix (by simpa using h) λj v q=>?_);obtain⟨t',e'⟩:=k (j+1) v (by simpa using q);exact⟨t',by rw[e'];congr 1;push_cast;omega⟩
section
variable{prog:Program}{w:World}{A:Around}{E:Value->Shared->Prop}{s:Shared}
def N6{Q:List Value->Shared->Prop}{r:Addr}{a b c:Int}{t u v:Tok}{n:Nat}(hh:A.handled=none)(hr:IsRange s.heap r a b c t u v)(hsm:Builtin.Range.small a b c=true)(hn:Builtin.Range.rangeSize a b c=n)(hl:n<=2^24)
 (hQ:∀g tk (acc:Array Value),(∀b o,s.heap.get? b=some o->g.get? b=some o)->ItemsOf (λi v=>∃t,v=.int (a+i*c) t) acc n->Q acc.toList { s with heap:=g,toks:=tk }):
 wpAny (model prog w) A (collect (.ref r)) Q E s:=by
 unfold collect;refine wpAny_bind (wpAny_runValue (codeAny_builtin F.entry_proto_collect ?_));rw[Around.under_plainId F.plain_proto_collect _];show wpAny _ A.in1 (newList [] >>= λl=>again (.builtin "list.__iadd__" ⟨[l,.ref r],[]⟩)) _ _ s;refine wpAny_bind (wpAny_newObj_type (wpAny_pure ⟨plainId_quiet F.plain_list_iadd _,codeAny_builtin F.entry_list_iadd ?_⟩));rw[Around.under_plainId F.plain_list_iadd _];show wpAny _ A.in1 (Builtin.List.listExtendWith (.ref s.heap.objs.size) (.ref r) (.ref s.heap.objs.size)) _ _ _;have e0:(s.heap.push { cls:=.type "list",data:=.seq ([]:List Value).toArray }).get? s.heap.objs.size=some { cls:=.type "list",data:=.seq #[] 0 }:=Heap.get?_push_size _ rfl;have fin:∀g tk (acc:Array Value) c',(∀b o,b≠s.heap.objs.size->(s.heap.push { cls:=.type "list",data:=.seq ([]:List Value).toArray }).get? b=some o->g.get? b=some o)->g.get? s.heap.objs.size=some { cls:=.type "list",dict:=none,data:=.seq acc c',slots:=#[] }->ItemsOf (λi v=>∃t,v=.int (a+i*c) t) acc n ->
  wpAny (model prog w) A (load s.heap.objs.size >>= λo=>match o.data with|Data.seq xs epoch=>pure xs.toList|x=>unsupported "internal:collect") Q E { s with heap:=g,toks:=tk }:=λg tk acc c' kp eS it=>
  wpAny_bind (wpAny_load eS (wpAny_pure (hQ g tk acc (λb o q=>kp b o (ne_of_lt (Heap.lt_size q)) (Heap.get?_push_of_some _ q)) it)))
 refine wpAny_mono (wpAny_extend_range (A:=A) (R:=λr s'=>r=.ok (.ret (.ref s.heap.objs.size))/\∃g tk,s'={ s with heap:=g,toks:=tk }/\wpAny (model prog w) A (load s.heap.objs.size >>= λo=>match o.data with|Data.seq xs epoch=>pure xs.toList|x=>unsupported "internal:collect") Q E s')
  (s:={ s with heap:=s.heap.push { cls:=.type "list",data:=.seq ([]:List Value).toArray } }) hh (Heap.get?_push_of_some _ hr) hsm hn hl s.heap.objs.size (.ref s.heap.objs.size) 0 e0 λg tk acc c' kp eS it=>⟨rfl,g,tk,rfl,fin g tk acc c' kp eS it⟩) (λfn s' h=>?_) (λe s' h=>absurd h.1 (by simp))
 cases fn with
 |done f=>
  obtain⟨e,_,_,_,q⟩:=h;cases e;exact q
 |again c'=>exact⟨h.1,codeAny_mono h.2 λr s'' hr=>by obtain⟨rfl,_,_,_,q⟩:=hr;exact q⟩
end
def Nb:List V->Hp->VK->Prop:=λxs H Q=>∃j:Int,xs=[.int j]/\∀p,H p=none->Q (.ref p) (upd H p (.rng 0 j))
def Na:List V->Hp->VK->Prop:=λxs H Q=>∃i j:Int,xs=[.int i,.int j]/\∀p,H p=none->Q (.ref p) (upd H p (.rng i j))
def Lx:List V->Hp->VK->Prop:=λxs H Q=>∃a lo hi,xs=[.ref a]/\H a=some (.rng lo hi)/\(-(2^62)<=lo/\lo<2^62/\-(2^62)<=hi/\hi<2^62)/\(hi-lo).toNat<=2^24/\∀p,H p=none->Q (.ref p) (upd H p (.lst (Bc lo (hi-lo).toNat)))
section
variable{X:Cx}
def call_rng1:CallR X (.type "range") Nb:=by
 intro pins s σ H xs us Q I r h;obtain⟨j,rfl,q⟩:=h;obtain⟨u,rfl,t,rfl⟩:=CT r;exact call_range_1 ⟨.ref s.heap.objs.size,_,I.laid (a:=s.heap.objs.size) (o:=.rng 0 j) (λb o e=>Heap.get?_push_of_some _ e) (le_refl _) ⟨_,_,_,Heap.get?_push_size _ rfl⟩,rfl,q _ (I.hok.fresh (le_refl _))⟩
def Kd:CallR X (.type "range") Na:=by
 intro pins s σ H xs us Q I r h;obtain⟨i,j,rfl,q⟩:=h;obtain⟨u,v,rfl,⟨t,rfl⟩,⟨t',rfl⟩⟩:=O9 r;exact call_range_2 ⟨.ref s.heap.objs.size,_,I.laid (a:=s.heap.objs.size) (o:=.rng i j) (λb o e=>Heap.get?_push_of_some _ e) (le_refl _) ⟨_,_,_,Heap.get?_push_size _ rfl⟩,rfl,q _ (I.hok.fresh (le_refl _))⟩
def U7{lo hi:Int}:Builtin.Range.rangeSize lo hi 1=((hi-lo).toNat:Nat):=by rw[rangeSize_one];split<;>omega
def JF{lo:Int}{n:Nat}{acc:Array Value}(it:ItemsOf (λi v=>∃t,v=.int (lo+i*1) t) acc n):Vals (Bc lo n) acc.toList:=Ix (by simpa using it.1) λj v q=>it.2 j v (by simpa using q)
def PR(hc:X.calm=true):CallR X (.type "list") Lx:=by
 intro pins s σ H xs us Q I r h;obtain⟨a,lo,hi,rfl,ha,⟨b1,b2,b3,b4⟩,hz,q⟩:=h;obtain⟨u,rfl,ru⟩:=CT r;cases ru;obtain⟨t,u,v,hr⟩:∃t u v,s.heap.get? a=some { cls:=.type "range",data:=.fields #[.int lo t,.int hi u,.int 1 v] }:=I.hok a _ ha;refine call_list_range (I.ok.hd hc) hr (small_one b1 b2 b3 b4) U7 hz λg tk acc c' kp e it=>?_;exact⟨.ref s.heap.objs.size,_,I.laid (t':=tk) (o:=.lst _) kp (le_refl _) ⟨by rw[Od,sizeLine_eq];omega,acc.toList,c',JF it,by simpa using e⟩,rfl,q _ (I.hok.fresh (le_refl _))⟩
end
section
variable{K:PySem.W.Frag}
open Classical in
def Gy(m:MA):MA:=λls hd=>(m ls hd).bind λp=>match p.1 with
 |[.im (.int j)]=>if LG j then some (AW 0 j.toNat,p.2)else none
 |[.im (.int i),.im (.int j)]=>if U8 i j then some (AW i (j-i).toNat,p.2)else none
 |_=>none
def J1:List V->Hp->VK->Prop:=λxs H Q=>Nb xs H Q∨Na xs H Q
def SM{t:TA}{m:MA}(h:RA K t m):RN K (tCB Lx (BD (tCB J1 t) C2)) (Gy m):=by
 and_intros;obtain⟨⟨d1,h1⟩,e1,hm⟩:=dL hm;dsimp only at hm;refine h ρ σ H hd ls _ d1 h1 hR hL e1 λρ1 H1 v x1 R1 r1=>?_;split at hm
 .next j=>
  split at hm
  .next c=>
   have c:j<2^24/\-(2^62)<=j:=c;cases hm;simp only[RDs,RD,RI]at r1;obtain⟨x,r,rfl,rfl,rfl⟩:=r1;refine .inl ⟨j,rfl,λp hp=>⟨p,0,j,rfl,AK,⟨by decide,by decide,c.2,by omega⟩,by omega,λl hl=>?_⟩⟩;obtain⟨R2,x2⟩:=R1.hid (ho:=.rng 0 j) hp;obtain⟨R3,x3⟩:=R2.hid (ho:=.lst (Bc 0 (j-0).toNat)) hl;refine hQ ρ1 _ l (Bc 0 (j-0).toNat) ((x1.trans R1 x2).trans R2 x3) R3 ((x1.trans R1 x2).none hR hl R2) (R2.out hl) AK ?_;rw[Int.sub_zero];exact Lr 0 _
  .cases hm
 .next i j=>
  split at hm
  .next c=>
   cases hm;simp only[RDs,RD,RI]at r1;obtain⟨x,r,rfl,rfl,y,r2,rfl,rfl,rfl⟩:=r1;refine .inr ⟨i,j,rfl,λp hp=>⟨p,i,j,rfl,AK,⟨c.1.1,c.1.2,c.2.1.1,c.2.1.2⟩,c.2.2,λl hl=>?_⟩⟩;obtain⟨R2,x2⟩:=R1.hid (ho:=.rng i j) hp;obtain⟨R3,x3⟩:=R2.hid (ho:=.lst (Bc i (j-i).toNat)) hl;exact hQ ρ1 _ l (Bc i (j-i).toNat) ((x1.trans R1 x2).trans R2 x3) R3 ((x1.trans R1 x2).none hR hl R2) (R2.out hl) AK (Lr i _)
  .cases hm
 .cases hm
def aU(m:MA):ME:=λls hd=>(Gy m ls hd).bind λp=>some (AX p.1,p.2)
def LF(xs:List Int):List Int:=xs.mergeSort (λa b=>decide (a<=b))
def Ih(xs:List Int):(LF xs).Perm xs:=mergeSort_perm ..
def WW(m:MI):MA:=λls hd=>(m ls hd).bind λp=>(As p.1.1).bind λns=>if ns.length<64 then some ((LF ns).map λi=>.im (.int i),p.2)else none
end
section
variable(K:PySem.W.Frag){X:Cx}{a b e:Expr}{ta tb te:TE}{me:ME}{m:MA}{t:TA}{p p2 pos pos2:Pos}{es:List Expr}
def Sk(hm:X.mg "list"=none)(hm2:X.mg "range"=none)(ha:QA K X (a::es) t m)(hc:X.calm=true:=by rfl)(hg:Gl X "list":=by rfl)(hg2:Gl X "range":=by rfl)(he2:starEach (a::es) X.env=(false,eval a X.env)::starEach es X.env:=by rfl)(hpl:(backTo pos2 (starEach es X.env)).any (·.1)=false:=by rfl)
 (he:starEach [.Call (.Name "range" p2) (a::es) [] pos2] X.env=[(false,eval (.Call (.Name "range" p2) (a::es) [] pos2) X.env)]:=by rfl):
 QN K X (.Call (.Name "list" p) [.Call (.Name "range" p2) (a::es) [] pos2] [] pos) (tCB Lx (BD (tCB J1 t) C2)) (Gy m):=
 ⟨DH (PR hc) hg hm O5 (Bz (DH (call_rng1.or Kd) hg2 hm2 boot_range ha.p (by decide) (by decide) he2 hpl) D1 he) (by decide) (by decide) he rfl,SM ha.r⟩
end
end L2
namespace L2
structure BltA(mg:PySem.Str->Option PySem.Value):Prop where
 list:mg "list"=none
 tuple:mg "tuple"=none
 len:mg "len"=none
 range:mg "range"=none
 repr:mg "repr"=none
 sum:mg "sum"=none
 min:mg "min"=none
 max:mg "max"=none
 abs:mg "abs"=none
 all:mg "all"=none
 any:mg "any"=none
 sorted:mg "sorted"=none
 zip:mg "zip"=none
 isinstance:mg "isinstance"=none
 int:mg "int"=none
 bool:mg "bool"=none
 str:mg "str"=none
 set:mg "set"=none
 enumerate:mg "enumerate"=none
 reversed:mg "reversed"=none
 dict:mg "dict"=none
end L2
namespace L2
open PySem PySem.Spec PyProof.Rows
section
variable{ls:Ls}{hd:Hd}{a b c:MS}{ma mb mc:ME}{ta tb:MT}{m m1 m2:MA}{n:MG}{ns:MGs}{d e:D}
@[simp] theorem Me:AA a b ls hd=(a ls hd).bind λp=>match p.1 with
 |.nx ls1=>b ls1 p.2
 |f=>some (f,p.2):=rfl
@[simp] theorem Wq:AT ls hd=some (.nx ls,hd):=rfl
@[simp] theorem bv:C5 ma ls hd=(ma ls hd).bind λp=>some (.nx ls,p.2):=rfl
@[simp] theorem Qu:AM ma ls hd=(ma ls hd).bind λp=>some (.rt p.1,p.2):=rfl
@[simp] theorem bh:aV ls hd=some (.rt (.im .non),hd):=rfl
@[simp] theorem bW:Z9 ls hd=some (.bk ls,hd):=rfl
@[simp] theorem c8:aZ ls hd=some (.ct ls,hd):=rfl
@[simp] theorem ZX:Ae ta a b ls hd=(ta ls hd).bind λp=>if p.1=true then a ls p.2 else b ls p.2:=rfl
@[simp] theorem JL:IL ma n ls hd=(ma ls hd).bind λp=>(n p.1 ls p.2).map λls'=>(.nx ls',p.2):=rfl
@[simp] theorem K1(i:Nat):AD i d ls hd=some (ls.set i (some d)):=rfl
@[simp] theorem bo(k:Nat):B0 k ns d ls hd=(AZ d).bind λds=>if ds.length=k then ns ds ls hd else none:=rfl
@[simp] theorem bS(d:D)(ds:List D):AH n ns (d::ds) ls hd=(n d ls hd).bind λls1=>ns ds ls1 hd:=rfl
@[simp] theorem bq:B1 [] ls hd=some ls:=rfl
@[simp] theorem ZP(ix:List Nat):Ov ix m ls hd=(m ls hd).bind λp=>if p.1.length=ix.length then some (.nx ((ix.zip p.1).foldl (λl q=>l.set q.1 (some q.2)) ls),p.2)else none:=rfl
@[simp] theorem bn(i j k:Nat):aW i j k m ls hd=Ov [k,j,i] (λls hd=>(m ls hd).map λp=>(p.1.reverse,p.2)) ls hd:=rfl
@[simp] theorem JK(i:Nat):A0 i ls hd=match ls[i]? with
 |some (some d)=>some (d,hd)
 |_=>none:=rfl
@[simp] theorem bV(i:I):mC i ls hd=some (.im i,hd):=rfl
@[simp] theorem af(f:D->D->Hd->Option (D×Hd)):mOp f ma mb ls hd=(ma ls hd).bind λp=>(mb ls p.2).bind λq=>f p.1 q.1 q.2:=rfl
@[simp] theorem cP:EJ ta tb ls hd=(ta ls hd).bind λp=>if p.1=true then tb ls p.2 else some (false,p.2):=rfl
@[simp] theorem cq:mOr ta tb ls hd=(ta ls hd).bind λp=>if p.1=true then some (true,p.2)else tb ls p.2:=rfl
@[simp] theorem cL:CP ta ls hd=(ta ls hd).bind λp=>some (!p.1,p.2):=rfl
@[simp] theorem ZN:BM ma ls hd=(ma ls hd).bind λp=>(EE p.2 p.1).map (·,p.2):=rfl
@[simp] theorem Nx:AE ma ls hd=(ma ls hd).bind λp=>match p.1 with
 |.im (.bl b)=>some (b,p.2)
 |_=>none:=rfl
@[simp] theorem cr:mIf ta ma mb ls hd=(ta ls hd).bind λp=>if p.1=true then ma ls p.2 else mb ls p.2:=rfl
@[simp] theorem c9:DT ma mb ls hd=(AE ma ls hd).bind λp=>if p.1=true then mb ls p.2 else some (.im (.bl false),p.2):=rfl
@[simp] theorem cK:Js ma mb ls hd=(AE ma ls hd).bind λp=>if p.1=true then some (.im (.bl true),p.2)else mb ls p.2:=rfl
@[simp] theorem bp:HY ma ls hd=(AE ma ls hd).bind λp=>some (.im (.bl (!p.1)),p.2):=rfl
@[simp] theorem ZQ:A4 ls hd=some ([],hd):=rfl
@[simp] theorem Wu:A2 ma m ls hd=(ma ls hd).bind λp=>(m ls p.2).bind λq=>some (p.1::q.1,q.2):=rfl
open Classical in
@[simp] theorem cH:CO m ls hd=(m ls hd).bind λp=>if Bl p.1.length then some (AX p.1,p.2)else none:=rfl
open Classical in
@[simp] theorem cM:C4 m ls hd=(m ls hd).bind λp=>if Bl p.1.length then some (p.1,p.2)else none:=rfl
@[simp] theorem ZR:B8 m ls hd=(m ls hd).bind λp=>some (.mu p.2.length,p.2++[.lst p.1]):=rfl
@[simp] theorem ZS:IK ma ls hd=(ma ls hd).bind λp=>match p.1 with
 |.im (.int i)=>some (.im (.int (-i)),p.2)
 |_=>none:=rfl
@[simp] theorem cN(neg:Bool):CQ neg ma ls hd=(ma ls hd).bind λp=>some (.im (.bl (match p.1 with
 |.im .non=>!neg
 | _=>neg)),p.2):=rfl
@[simp] theorem cu(g:Int->Int->Option I)(i j:Int):fI g (.im (.int i)) (.im (.int j)) hd=(g i j).map (.im ·,hd):=rfl
@[simp] theorem Wt(f g:D->D->Hd->Option (D×Hd)):ES f g d e hd=match f d e hd with
 |some z=>some z
 |none=>g d e hd:=rfl
@[simp] theorem cO(neg:Bool)(i j:Int):EK neg (.im (.int i)) (.im (.int j)) hd=some (.im (.bl (if neg then !decide (i=j)else decide (i=j))),hd):=by simp[EK,scI,Lf]
@[simp] theorem ZZ(neg:Bool)(i j:Str):EK neg (.im (.str i)) (.im (.str j)) hd=some (.im (.bl (if neg then !decide (i=j)else decide (i=j))),hd):=by simp[EK,scI,Lf]
@[simp] theorem ah(i:Int):gIx d (.im (.int i)) hd=(Az hd d).bind λds=>(atI ds i).map (·,hd):=rfl
@[simp] theorem c5:CA d e hd=(Eb hd d).bind λkvs=>(Do e).bind λk=>(CZ kvs k).map (·,hd):=rfl
@[simp] theorem ak(f:List D->Hd->Option (D×Hd)):mCB f m ls hd=(m ls hd).bind λp=>f p.1 p.2:=rfl
@[simp] theorem UW(tp:Bool)(g:List D->Option D):f1 tp g [d] hd=((if tp then Az hd d else B6 hd d)).bind λds=>(g ds).map (·,hd):=rfl
@[simp] theorem Qv(g:List D->Option D):BN g m ls hd=(m ls hd).bind λp=>(g p.1).map (·,p.2):=rfl
@[simp] theorem ag(f:D->List D->Hd->Option (D×Hd)):mMt f ma m ls hd=(ma ls hd).bind λp=>match B6 p.2 p.1 with
 |some _=>(m ls p.2).bind λq=>f p.1 q.1 q.2
 |none=>none:=rfl
@[simp] theorem bt(i j:Int):GD [.im (.int i),.im (.int j)] hd=some (.im (.int (if j>i then j else i)),hd):=rfl
@[simp] theorem br(i j:Int):UV [.im (.int i),.im (.int j)] hd=some (.im (.int (if j<i then j else i)),hd):=rfl
@[simp] theorem cQ(i:Int):bQ [.im (.int i)] hd=some (.im (.int (if i<0 then -i else i)),hd):=rfl
@[simp] theorem ZT:G5 m ma ls hd=(m ls hd).bind λp=>(ma ls p.2).bind λq=>match q.1 with
 |.im (.int i)=>(atI p.1 i).map (·,q.2)
 |_=>none:=rfl
@[simp] theorem Mf:Al ma ls hd=(ma ls hd).bind λp=>(AZ p.1).map λds=>((ds,[]),p.2):=rfl
@[simp] theorem ZW:Z8 m ls hd=(m ls hd).map λp=>((p.1,[]),p.2):=rfl
@[simp] theorem ZV:Dm ma ls hd=(ma ls hd).bind λp=>match p.1 with
 |.mu n=>match p.2[n]? with
  |some (.lst ds)=>some ((ds,[(n,ds)]),p.2)
  |_=>none
 |.ro ns=>some ((ns.map λn=>.im (.int n),[]),p.2)
 |_=>none:=rfl
open Classical in
@[simp] theorem ZU:DQ m ls hd=(m ls hd).bind λp=>match p.1 with
 |[.im (.int j)]=>if Ft j then some ((AW 0 j.toNat,[]),p.2)else none
 |_=>none:=rfl
open Classical in
@[simp] theorem Ws:Ha m ls hd=(m ls hd).bind λp=>match p.1 with
 |[.im (.int i),.im (.int j)]=>if OZ i j then some ((AW i (j-i).toNat,[]),p.2)else none
 |_=>none:=rfl
@[simp] theorem ZY(mi:MI):BS mi n a ls hd=(mi ls hd).bind λp=>Ax n a p.1.2 p.1.1 ls p.2:=rfl
open Classical in
@[simp] theorem Ny(k:Nat)(ix:List Nat)(mi:MI):Ao k ix mi n ta ma ls hd=(mi ls hd).bind λp=>if Bl p.1.1.length then Au n ta ma p.1.2 p.1.1 (DZ k ix ls) p.2 else none:=rfl
@[simp] theorem cG:Bt ls hd=some (true,hd):=rfl
@[simp] theorem bU(F:List D->Hd->Option (D×Hd)):DS F m ls hd=(m ls hd).bind λp=>F p.1 p.2:=rfl
@[simp] theorem ay:Dk ls hd=some (none,hd):=rfl
@[simp] theorem Wp:G4 ma ls hd=(ma ls hd).bind λp=>match p.1 with
 |.im (.int i)=>some (some i,p.2)
 |_=>none:=rfl
@[simp] theorem bu:aX ma ls hd=(ma ls hd).bind λp=>(Az p.2 p.1).map (·,p.2):=rfl
@[simp] theorem bT:Gz m ls hd=m ls hd:=rfl
@[simp] theorem cJ(ml mh:MO1):Jq ma ml mh ls hd=(ma ls hd).bind λp=>(ml ls p.2).bind λl=>(mh ls l.2).bind λh=>(B6 h.2 p.1).bind λds=>some (Ci ds l.1 h.1,h.2):=rfl
@[simp] theorem cI(ml mh:MO1):bM ma ml mh ls hd=(ma ls hd).bind λp=>(ml ls p.2).bind λl=>(mh ls l.2).bind λh=>(AZ p.1).bind λds=>if ¬ (HT.sIx ds.length 0 l.1=0/\HT.sIx ds.length ds.length h.1=ds.length)then some (AX (Ci ds l.1 h.1),h.2)else none:=rfl
@[simp] theorem bg:aU m ls hd=(Gy m ls hd).bind λp=>some (AX p.1,p.2):=rfl
open Classical in
@[simp] theorem ZO:Gy m ls hd=(m ls hd).bind λp=>match p.1 with
 |[.im (.int j)]=>if LG j then some (AW 0 j.toNat,p.2)else none
 |[.im (.int i),.im (.int j)]=>if U8 i j then some (AW i (j-i).toNat,p.2)else none
 |_=>none:=rfl
@[simp] theorem aw(mi:MI):WW mi ls hd=(mi ls hd).bind λp=>(As p.1.1).bind λns=>if ns.length<64 then some ((LF ns).map λi=>.im (.int i),p.2)else none:=rfl
@[simp] theorem bx(ms:List (ME×ME)):LJ ms ls hd=(E7 ms ls hd).bind λp=>if p.1.length<=15 then some (.mu p.2.length,p.2++[.dic (Fb [] p.1)])else none:=rfl
@[simp] theorem ax:E7 [] ls hd=some ([],hd):=rfl
@[simp] theorem bR(r:List (ME×ME)):E7 ((ma,mb)::r) ls hd=(ma ls hd).bind λp=>(mb ls p.2).bind λq=>(E7 r ls q.2).bind λz=>(Do p.1).map λk=>((k,q.1)::z.1,z.2):=rfl
open Classical in
@[simp] theorem bw:F4 ma mb mc ls hd=(mc ls hd).bind λp=>(ma ls p.2).bind λq=>(mb ls q.2).bind λr=>(Do r.1).bind λk=>match q.1 with
 |.mu n=>match r.2[n]? with
  |some (.dic kvs)=>if GC kvs.length then some (.nx ls,r.2.set n (.dic (DO kvs k p.1)))else none
  |_=>none
 |_=>none:=rfl
@[simp] theorem Wr:DP ma mb mc ls hd=(mc ls hd).bind λp=>(ma ls p.2).bind λq=>(mb ls q.2).bind λr=>match q.1,r.1 with
 |.mu n,.im (.int i)=>match r.2[n]? with
  |some (.lst ds)=>(ixN ds.length i).map λj=>(.nx ls,r.2.set n (.lst (ds.set j p.1)))
  |_=>none
 |_,_=>none:=rfl
@[simp] theorem Pn(is:List I):AZ (.im (.tup is))=some (is.map .im):=rfl
@[simp] theorem cV(ds:List D):AZ (.tm ds)=some ds:=rfl
@[simp] theorem cX(k:Nat):AZ (.mu k)=none:=rfl
@[simp] theorem cW(k:List Int):AZ (.ro k)=none:=rfl
@[simp] theorem CG(is:List I):Az hd (.im (.tup is))=some (is.map .im):=rfl
@[simp] theorem cb(ds:List D):Az hd (.tm ds)=some ds:=rfl
@[simp] theorem OO(k:Nat):Az hd (.mu k)=B6 hd (.mu k):=rfl
@[simp] theorem ce(k:List Int):Az hd (.ro k)=some (k.map λn=>.im (.int n)):=rfl
@[simp] theorem Ow(k:Nat):B6 hd (.mu k)=match hd[k]? with
 |some (.lst ds)=>some ds
 |_=>none:=rfl
@[simp] theorem ci(k:List Int):B6 hd (.ro k)=some (k.map λn=>.im (.int n)):=rfl
@[simp] theorem cv(k:Nat):Eb hd (.mu k)=match hd[k]? with
 |some (.dic ds)=>some ds
 |_=>none:=rfl
@[simp] theorem ck(i:Int):Do (.im (.int i))=some (.inl i):=rfl
@[simp] theorem cj(i:Str):Do (.im (.str i))=some (.inr i):=rfl
@[simp] theorem cU:BU []=some []:=rfl
@[simp] theorem cx(i:I)(r:List D):BU (.im i::r)=(BU r).map (i::·):=rfl
@[simp] theorem cE:As []=some []:=rfl
@[simp] theorem cF(i:Int)(r:List D):As (.im (.int i)::r)=(As r).map (i::·):=rfl
@[simp] theorem cT:C1 []=some []:=rfl
@[simp] theorem cw(i:Bool)(r:List D):C1 (.im (.bl i)::r)=(C1 r).map (i::·):=rfl
@[simp] theorem Be(is:List I):AX (is.map .im)=.im (.tup is):=by simp[AX]
@[simp] theorem Qf:AX []=.im (.tup []):=rfl
@[simp] theorem Jn(i:I):AX [.im i]=.im (.tup [i]):=rfl
@[simp] theorem Jm(i j:I):AX [.im i,.im j]=.im (.tup [i,j]):=rfl
@[simp] theorem WN(i j k:I):AX [.im i,.im j,.im k]=.im (.tup [i,j,k]):=rfl
@[simp] theorem be(i j k l:I):AX [.im i,.im j,.im k,.im l]=.im (.tup [i,j,k,l]):=rfl
@[simp] theorem cS(w:Nat)(i:I):clD w (.im i)=true:=by simp[clD]
@[simp] theorem cR(w n:Nat):clD w (.mu n)=decide (n<w):=by simp[clD]
@[simp] theorem bX(w:Nat):B2 w []=true:=by simp[B2]
@[simp] theorem RO(w:Nat)(d:D)(ds:List D):B2 w (d::ds)=(clD w d&&B2 w ds):=by simp[B2]
@[simp] theorem Mr{α:Type}(x:α)(r:List α):atI (x::r) 0=some x:=Bn (j:=0) rfl
@[simp] theorem FS{α:Type}(x y:α)(r:List α):atI (x::y::r) 1=some y:=Bn (j:=1) rfl
@[simp] theorem GK{α:Type}(x y z:α)(r:List α):atI (x::y::z::r) 2=some z:=Bn (j:=2) rfl
def FR{α:Type}{xs:List α}{i:Int}{k:Nat}{x:α}(hi:i=k)(h:xs[k]?=some x):atI xs i=some x:=by subst hi;exact Bn h
@[simp] theorem E9:Bl 0:=Ab (by decide)
@[simp] theorem Et:Bl 1:=Ab (by decide)
@[simp] theorem JJ:Bl 2:=Ab (by decide)
@[simp] theorem Es:Bl 3:=Ab (by decide)
@[simp] theorem ZL:Bl 4:=Ab (by decide)
@[simp] theorem Qs:Bl 5:=Ab (by decide)
@[simp] theorem bf:GC 4:=Ch (by decide)
open Classical in
@[simp] theorem Za(k:Nat)(x:D):BB (.mu k) [x] hd=match hd[k]? with
 |some (.lst ds)=>if GC ds.length then some (.im .non,hd.set k (.lst (ds++[x])))else none
 |_=>none:=rfl
def FB{F:List D->Hd->Option (D×Hd)}{ds:List D}{hd1 h2:Hd}{i:I}(h1:m ls hd=some (ds,hd1))(hc:B2 0 ds=true)(hF:F ds []=some (.im i,h2)):A8 0 F m ls hd=some (.im i,hd1):=by
 simp[A8,h1,hc,hF,fin]
def Mq{w:Nat}{F:List D->Hd->Option (D×Hd)}{ds:List D}{pre pre' rest g:Hd}{i:I}(hw:pre.length=w)(hw':pre'.length=w)(h1:m ls hd=some (ds,pre++rest))(hc:B2 w ds=true)(hp:pre.all (clO w)=true)(hp':pre'.all (clO w)=true)(hF:F ds pre=some (.im i,pre'++g)):A8 w F m ls hd=some (.im i,pre'++rest):=by
 subst hw;have e1:(pre++rest).take pre.length=pre:=by simp
 have e2:(pre'++g).take pre.length=pre':=by rw[<- hw'];simp
 simp only[A8,h1,bind_some,e1,hc,hp,hF,fin,e2,hp'];simp
end
def MJ{n:MG}{b:MS}{g:Gd}{ls:Ls}{hd:Hd}:Ax n b g [] ls hd=some (.nx ls,hd):=by unfold Ax;rfl
def KN{n:MG}{b:MS}{g:Gd}{d:D}{r:List D}{ls ls1 ls2:Ls}{hd hd2:Hd}(h1:n d ls hd=some ls1)(h2:b ls1 hd=some (.nx ls2,hd2))(h3:GOk hd2 g):Ax n b g (d::r) ls hd=Ax n b g r ls2 hd2:=by
 conv=>lhs;unfold Ax
 simp[h1,h2,h3]
def TV{n:MG}{b:MS}{g:Gd}{d v:D}{r:List D}{ls ls1:Ls}{hd hd2:Hd}(h1:n d ls hd=some ls1)(h2:b ls1 hd=some (.rt v,hd2)):Ax n b g (d::r) ls hd=some (.rt v,hd2):=by
 conv=>lhs;unfold Ax
 simp[h1,h2]
abbrev LC2(elt tg iter:Expr)(ifs:List Expr)(tg2 iter2:Expr)(ifs2:List Expr)(scope:Scope)(pos:Pos):Expr:=.ListComp elt [⟨tg,iter,ifs,0⟩,⟨tg2,iter2,ifs2,0⟩] scope pos
def Ul(elt tg iter:Expr)(ifs:List Expr)(tg2 iter2:Expr)(ifs2:List Expr)(scope:Scope)(pos:Pos)(it acc:Value)(env:Env):
 compTurn (LC2 elt tg iter ifs tg2 iter2 ifs2 scope pos) 0 it acc env=(do
  standAt iter.pos
  match <- pyNext it with
  |none=>pure (.done .next)
  |some v=>
   letOwnedTupleGo tg it v
   assign tg env v
   let mut ok:=true
   for c in ifs do
    if ok then ok <- isTrue c env (eval c env)
   if ok then
    let x <- eval iter2 env
    standAt iter2.pos
    let x <- foldedSetIterable iter2 env x
    let _ <- runOwn (.compStart (LC2 elt tg iter ifs tg2 iter2 ifs2 scope pos) 1 (<- holding [x] (pyIter x)) acc env) env
   again (.compLoop (LC2 elt tg iter ifs tg2 iter2 ifs2 scope pos) 0 it acc env)):=by rfl
def Uk(elt tg iter:Expr)(ifs:List Expr)(tg2 iter2:Expr)(ifs2:List Expr)(scope:Scope)(pos:Pos)(it acc:Value)(env:Env):
 compTurn (LC2 elt tg iter ifs tg2 iter2 ifs2 scope pos) 1 it acc env=(do
  standAt iter2.pos
  match <- pyNext it with
  |none=>pure (.done .next)
  |some v=>
   letOwnedTupleGo tg2 it v
   assign tg2 env v
   let mut ok:=true
   for c in ifs2 do
    if ok then ok <- isTrue c env (eval c env)
   if ok then
    (do let _ <- call (.builtin "list.append") [acc,<- eval elt env])
   again (.compLoop (LC2 elt tg iter ifs tg2 iter2 ifs2 scope pos) 1 it acc env)):=by rfl
section
variable{prog:Program}{w:World}{A:Around}{R:Result->Shared->Prop}{s:Shared}{elt tg iter tg2 iter2:Expr}{ifs ifs2:List Expr}{scope:Scope}{pos:Pos}{it acc:Value}{env:Env}
def WX(I:Nat->Shared->Prop)
 (turn:∀n s,I n s->wpAny (model prog w) A (pyNext it) (λr s₁=>match r with
  |none=>R (.ok .next) s₁
  | some v=>wpAny (model prog w) A (letOwnedTupleGo tg2 it v) (λ_ s₁=>wpAny (model prog w) A (assign tg2 env v) (λ_ s₂=>
   wpAny (model prog w) A (forIn ifs2 true λc r=>if r=true then do let ok <- isTrue c env (eval c env);pure (ForInStep.yield ok)else pure (ForInStep.yield r)) (λok s₃=>
    if ok=true then wpAny (model prog w) A (eval elt env) (λx s₄=>
     wpAny (model prog w) A (call (.builtin "list.append") [acc,x]) (λ_ s₅=>∃m,m<n/\I m s₅) (λ_ _=>False) s₄) (λ_ _=>False) s₃
    else ∃m,m<n/\I m s₃) (λ_ _=>False) s₂) (λ_ _=>False) s₁) (λ_ _=>False) s₁) (λ_ _=>False) s)
 (n:Nat) (h:I n s):codeAny (model prog w) A (.compLoop (LC2 elt tg iter ifs tg2 iter2 ifs2 scope pos) 1 it acc env) R s:=by
 refine codeAny_loop rfl I (λn s hI=>?_) n h;show wpAny _ A ((compTurn (LC2 elt tg iter ifs tg2 iter2 ifs2 scope pos) 1 it acc env).onRaise (λx=>do noteFrame x env;theTreesLotGoes x)) _ _ s;refine wpAny_noted ?_;rw[Uk];refine wpAny_bind (wpAny_standAt (wpAny_bind (wpAny_mono (turn n s hI) (λr s₁ h₁=>?_) λ_ _ h'=>h'.elim)));cases r with
 |none=>exact wpAny_pure h₁
 |some v=>
  refine wpAny_bind (wpAny_mono h₁ (λ_ s₁ h₁=>?_) λ_ _ h'=>h'.elim);refine wpAny_bind (wpAny_mono h₁ (λ_ s₂ h₂=>wpAny_bind (wpAny_mono h₂ (λok s₃ h₃=>?_) λ_ _ h'=>h'.elim)) λ_ _ h'=>h'.elim);cases ok with
  |false=>exact wpAny_pure ⟨rfl,h₃⟩
  |true=>
   exact wpAny_bind (wpAny_bind (wpAny_mono h₃ (λx s₄ h₄=>wpAny_bind (wpAny_mono h₄ (λ_ s₅ h₅=>wpAny_pure (wpAny_pure ⟨rfl,h₅⟩)) λ_ _ h'=>h'.elim)) λ_ _ h'=>h'.elim))
def WY(hs:∀x,foldedSetIterable iter2 env x=pure x)(I:Nat->Shared->Prop)
 (turn:∀n s,I n s->wpAny (model prog w) A (pyNext it) (λr s₁=>match r with
  |none=>R (.ok .next) s₁
  | some v=>wpAny (model prog w) A (letOwnedTupleGo tg it v) (λ_ s₁=>wpAny (model prog w) A (assign tg env v) (λ_ s₂=>
   wpAny (model prog w) A (forIn ifs true λc r=>if r=true then do let ok <- isTrue c env (eval c env);pure (ForInStep.yield ok)else pure (ForInStep.yield r)) (λok s₃=>
    if ok=true then wpAny (model prog w) A (eval iter2 env) (λx s₄=>wpAny (model prog w) A (pyIter x) (λit2 s₅=>
     codeAny (model prog w) A (.compStart (LC2 elt tg iter ifs tg2 iter2 ifs2 scope pos) 1 it2 acc env) (λr s₆=>r=.ok .next/\∃m,m<n/\I m s₆) s₅) (λ_ _=>False) s₄) (λ_ _=>False) s₃
    else ∃m,m<n/\I m s₃) (λ_ _=>False) s₂) (λ_ _=>False) s₁) (λ_ _=>False) s₁) (λ_ _=>False) s)
 (n:Nat) (h:I n s):codeAny (model prog w) A (.compLoop (LC2 elt tg iter ifs tg2 iter2 ifs2 scope pos) 0 it acc env) R s:=by
 refine codeAny_loop rfl I (λn s hI=>?_) n h;show wpAny _ A ((compTurn (LC2 elt tg iter ifs tg2 iter2 ifs2 scope pos) 0 it acc env).onRaise (λx=>do noteFrame x env;theTreesLotGoes x)) _ _ s;refine wpAny_noted ?_;rw[Ul];refine wpAny_bind (wpAny_standAt (wpAny_bind (wpAny_mono (turn n s hI) (λr s₁ h₁=>?_) λ_ _ h'=>h'.elim)));cases r with
 |none=>exact wpAny_pure h₁
 |some v=>
  refine wpAny_bind (wpAny_mono h₁ (λ_ s₁ h₁=>?_) λ_ _ h'=>h'.elim);refine wpAny_bind (wpAny_mono h₁ (λ_ s₂ h₂=>wpAny_bind (wpAny_mono h₂ (λok s₃ h₃=>?_) λ_ _ h'=>h'.elim)) λ_ _ h'=>h'.elim);cases ok with
  |false=>exact wpAny_pure ⟨rfl,h₃⟩
  |true=>
   refine wpAny_bind (wpAny_mono h₃ (λx s₄ h₄=>wpAny_bind (wpAny_standAt ?_)) λ_ _ h'=>h'.elim);rw[hs];refine wpAny_bind (wpAny_pure (wpAny_bind (wpAny_holding (wpAny_mono h₄ (λit2 s₅ h₅=>wpAny_bind (wpAny_runOwn (codeAny_mono h₅ λr s₆ h₆=>?_))) λ_ _ h'=>h'.elim))));obtain⟨rfl,h₆⟩:=h₆;exact wpAny_pure ⟨rfl,h₆⟩
def SA(h0:codeAny (model prog w) A (.compLoop (LC2 elt tg iter ifs tg2 iter2 ifs2 scope pos) 1 it acc env) R s)
 (h:wpAny (model prog w) A (pyIter it) (λit' s'=>codeAny (model prog w) A (.compLoop (LC2 elt tg iter ifs tg2 iter2 ifs2 scope pos) 1 it' acc env) R s') (λ_ _=>False) s):
 codeAny (model prog w) A (.compStart (LC2 elt tg iter ifs tg2 iter2 ifs2 scope pos) 1 it acc env) R s:=by
 refine codeAny_of_tree ?_;show wpAny _ _ ((compStart (LC2 elt tg iter ifs tg2 iter2 ifs2 scope pos) 1 it acc env).onRaise (λx=>do noteFrame x env;standAt theWindowsPlace)) _ _ s;refine wpAny_notedAt ?_;unfold compStart;show wpAny _ _ (ask >>= _) _ _ s;refine wpAny_bind (wpAny_askSetting (wpAny_ite ?_));split
 .exact wpAny_bind (wpAny_pure (wpAny_pure (And.intro rfl h0)))
 .exact wpAny_bind (wpAny_rule (wpAny_bind (wpAny_standAt (wpAny_bind (wpAny_mono h (λit' s' h'=>wpAny_pure (And.intro rfl h')) λ_ _ x=>x.elim)))))
end
def Pa(J:It)(D:Addr)(σ0:St)(H0:Hp)(g:TG)(tf:TT)(te:TE)(Q:St->Hp->Prop):Prop:=∃W:Nat->Nat->St->Hp->Prop,
 (∃m,W 0 m σ0 H0)/\∀i m σ H,W i m σ H ->
  ((J.stop i H/\Q σ H)∨(J.go i H/\∃N:St->Hp->Prop,(∀σ' H',N σ' H'->∃m',m'<m/\W (i+1) m' σ' H')/\
    ∀x H',J.yld i H x H'->g x σ H' λσ2 H2=>tf σ2 H2 λb H3=>
     if b=true then te σ2 H3 λv H4=>∃ys,H4 D=some (.lst ys)/\ys.length<sizeLine/\N σ2 (upd H4 D (.lst (ys++[v])))
     else N σ2 H3))
def RX(J:It)(D:Addr)(σ0:St)(H0:Hp)(g:TG)(tf:TT)(wi2:TI)(g2:TG)(tf2:TT)(te:TE)(Q:VK):Prop:=∃W:Nat->Nat->St->Hp->Prop,
 (∃m,W 0 m σ0 (upd H0 D (.lst [])))/\∀i m σ H,W i m σ H ->
  ((J.stop i H/\Q (.ref D) H)∨(J.go i H/\∃N:St->Hp->Prop,(∀σ' H',N σ' H'->∃m',m'<m/\W (i+1) m' σ' H')/\
    ∀x H',J.yld i H x H'->g x σ H' λσ2 H2=>tf σ2 H2 λb H3=>
     if b=true then wi2 σ2 H3 λJ2 H4=>Pa J2 D σ2 H4 g2 tf2 te N
     else N σ2 H3))
def Eg(n:Nat)(ix:List Nat)(wi:TI)(g:TG)(tf:TT)(wi2:TI)(g2:TG)(tf2:TT)(te:TE):TE:=λσ H Q=>wi σ H λJ H1=>∀D,H1 D=none->RX J D (FP n ix σ) H1 g tf wi2 g2 tf2 te Q
section
variable{X:Cx}
def PP{elt tg iter tg2 iter2:Expr}{ifs ifs2:List Expr}{scope:Scope}{pos:Pos}{N':List Str}{s3:Shared}{H3:Hp}{fp3:List Addr}{g:TG}{tf:TT}{te:TE}{pins:List (Addr×Obj)}{σ:St}{H:Hp}{s:Shared}{D it:Addr}{fp:List Addr}{tn:Nat->Heap->Prop}{J:It}{Q:St->Hp->Prop}
 (hc:X.calm=true) (hg:PG (cCx X N' scope s3 H3 fp3) tg2 g) (hf:PF (cCx X N' scope s3 H3 fp3) ifs2 tf) (he:PE (cCx X N' scope s3 H3 fp3) elt te)
 (I:Inv (cCx X N' scope s3 H3 fp3) pins σ H s) (T:Turn X.prog X.w X.K tg2 J fp it tn) (st:tn 0 s.heap) (f2:∀b∈fp,FpOk (cCx X N' scope s3 H3 fp3) pins H b) (hW:Pa J D σ H g tf te Q):
 codeAny (model X.prog X.w) X.A (.compStart (LC2 elt tg iter ifs tg2 iter2 ifs2 scope pos) 1 (.ref it) (.ref D) (cCx X N' scope s3 H3 fp3).env)
  (λr s'=>r=.ok .next/\∃σ' H',Inv (cCx X N' scope s3 H3 fp3) pins σ' H' s'/\Q σ' H') s:=by
 obtain⟨W,⟨m0,w0⟩,turn⟩:=hW;have fpX:∀{H':Hp},(∀b∈fp,H' b=none)->∀b∈fp,FpOk (cCx X N' scope s3 H3 fp3) pins H' b:=λhn b hb=>⟨hn b hb,(f2 b hb).2⟩
 have loop:codeAny (model X.prog X.w) X.A (.compLoop (LC2 elt tg iter ifs tg2 iter2 ifs2 scope pos) 1 (.ref it) (.ref D) (cCx X N' scope s3 H3 fp3).env)
  (λr s'=>r=.ok .next/\∃σ' H',Inv (cCx X N' scope s3 H3 fp3) pins σ' H' s'/\Q σ' H') s:=by
  refine WX (λn s'=>∃i σ' H',Inv (cCx X N' scope s3 H3 fp3) pins σ' H' s'/\tn i s'.heap/\(∀b∈fp,H' b=none)/\W i n σ' H') ?_ m0
   ⟨0,_,_,I,st,λb hb=>(f2 b hb).1,w0⟩
  rintro n s5 ⟨i,σ5,H5,I5,st5,fr5,w5⟩;have w5:=turn i n σ5 H5 w5;rcases w5 with⟨stop,qn⟩|⟨go,N,hN,step⟩
  .refine thn (T.done (cCx X N' scope s3 H3 fp3) rfl rfl rfl hc i pins s5 σ5 H5 _ I5 (fpX fr5) st5 stop) λr s6 ⟨hr,I6⟩=>?_;subst hr;exact⟨rfl,σ5,H5,I6,qn⟩
  .refine thn (T.item (cCx X N' scope s3 H3 fp3) rfl rfl rfl hc i pins s5 σ5 H5 _ I5 (fpX fr5) st5 go) λr s6 ⟨u,hr,h6⟩=>?_;subst hr;refine thn h6 λ_ s7 ⟨x,H7,I7,r7,y7,st7,fr7⟩=>?_;have I7':=I7.pinned (fpX fr7) (T.obj _ _ st7);have keepI:∀{σ8:St} {H8:Hp} {s8:Shared},Inv (cCx X N' scope s3 H3 fp3) (pins++E4 fp s7.heap) σ8 H8 s8->tn (i+1) s8.heap/\∀b∈fp,H8 b=none:=λ{σ8 H8 s8} I8=>by
    refine⟨T.keep _ _ _ st7 λb hb o e=>(I8.pin (b,o) (mem_append_right _ (mem_append_right _ (BE hb e)))).1,λb hb=>?_⟩;obtain⟨o,e,d⟩:=T.obj _ _ st7 b hb;exact(I8.pin (b,o) (mem_append_right _ (mem_append_right _ (BE hb e)))).2.1
   refine thn (hg _ s7 σ5 H7 x u _ I7' r7 (step x H7 y7)) λ_ s8 ⟨σ8,H8,I8,q8⟩=>?_;refine thn (hf _ s8 σ8 H8 _ I8 q8) λb s9 ⟨H9,I9,q9⟩=>?_;cases b with
   |false=>
    rw[if_neg Bool.false_ne_true]at q9 ⊢;obtain⟨m',hm,w9⟩:=hN _ _ q9;exact⟨m',hm,i+1,σ8,H9,I9.unpinned,(keepI I9).1,(keepI I9).2,w9⟩
   |true=>
    rw[if_pos rfl]at q9 ⊢;refine thn (he _ s9 σ8 H9 _ I9 q9) λe10 s10 ⟨v10,H10,I10,r10,ys,hD10,hz,n10⟩=>?_;obtain⟨m',hm,w10⟩:=hN _ _ n10;refine Mu (X:=cCx X N' scope s3 H3 fp3) I10 hD10 r10 hz λ_ s11 I11=>?_;exact⟨m',hm,i+1,σ8,_,I11.unpinned,(keepI I11).1,(keepI I11).2,w10⟩
 exact SA loop (T.self X.A 0 _ _ _ st loop)
def Hu{elt tg iter tg2 iter2:Expr}{ifs ifs2:List Expr}{scope:Scope}{pos:Pos}{loc fr:List Str}{ix:List Nat}{g g2:TG}{tf tf2:TT}{wi2:TI}{te:TE}{pins:List (Addr×Obj)}{σ:St}{Q:VK}{it:Addr}{fp:List Addr}{tn:Nat->Heap->Prop}{J:It}{H2:Hp}{s2:Shared}{E:Value->Shared->Prop}
 {RR:Value->Addr->Result->Shared->Prop} (hc:X.calm=true) (S:CSc X scope fr ix)
 (hg:∀s H ex,PG (cCx X (loc++fr) scope s H ex) tg g) (hf:∀s H ex,PF (cCx X (loc++fr) scope s H ex) ifs tf) (hi2:∀s H ex,PI (cCx X (loc++fr) scope s H ex) tg2 iter2 wi2) (hg2:∀s H ex,PG (cCx X (loc++fr) scope s H ex) tg2 g2) (hf2:∀s H ex,PF (cCx X (loc++fr) scope s H ex) ifs2 tf2) (he:∀s H ex,PE (cCx X (loc++fr) scope s H ex) elt te)
 (hs2:∀s H ex x,foldedSetIterable iter2 (cCx X (loc++fr) scope s H ex).env x=pure x)
 (I2:Inv X pins σ H2 s2) (T:Turn X.prog X.w X.K tg J fp it tn) (st2:tn 0 s2.heap) (f2:∀b∈fp,FpOk X pins H2 b) (hW:∀D,H2 D=none->RX J D (FP loc.length ix σ) H2 g tf wi2 g2 tf2 te Q)
 (hfin:∀(s3 s6:Shared) (H5:Hp) (σ5:St) (D:Addr),Inv X pins σ (upd H2 D (.lst [])) s3->Inv (cCx X (loc++fr) scope s3 (upd H2 D (.lst [])) fp) [] σ5 H5 s6->(∀b∈fp,FpOk X pins (upd H2 D (.lst [])) b)->Q (.ref D) H5->RR (.ref D) s3.heap.objs.size (.ok .next) s6):
 wpAny (model X.prog X.w) X.A (newList []) (λacc s₃=>wpAny (model X.prog X.w) X.A (newFunctionEnv scope X.env.globals (Aa X.env.cells scope.names []) [] X.env.qual none .none (some X.env)) (λcenv s₄=>
  codeAny (model X.prog X.w) X.A (.compStart (LC2 elt tg iter ifs tg2 iter2 ifs2 scope pos) 0 (.ref it) acc { cenv with scope:=relabel scope X.env }) (RR acc cenv.locals) s₄) E s₃) E s2:=by
 refine wpAny_newObj_type ?_;have fresh2:H2 s2.heap.objs.size=none:=I2.hok.fresh (le_refl _);have I3:=I2.lnew (its:=[]) (ys:=[]) (t':=s2.toks) .nil (zero_le _);obtain⟨W,⟨m0,w0⟩,turn⟩:=hW s2.heap.objs.size fresh2;have lt2:∀b∈fp,b<s2.heap.objs.size:=λb hb=>let ⟨o,e,_⟩:=T.obj 0 _ st2 b hb;Heap.lt_size e
 have f3:∀b∈fp,FpOk X pins (upd H2 s2.heap.objs.size (.lst [])) b:=λb hb=>⟨by rw[AB (ne_of_lt (lt2 b hb))];exact(f2 b hb).1,(f2 b hb).2⟩
 have lt3:∀b∈fp,b<(s2.heap.push { cls:=.type "list",data:=.seq ([]:List Value).toArray }).objs.size:=λb hb=>by rw[Heap.size_push];exact lt_succ_of_lt (lt2 b hb)
 generalize hs3:({ s2 with heap:=s2.heap.push { cls:=.type "list",data:=.seq ([]:List Value).toArray } }:Shared)=s3 at *;have lt3:∀b∈fp,b<s3.heap.objs.size:=by rw[<- hs3];exact lt3
 have st3:tn 0 s3.heap:=T.keep _ _ _ st2 λb hb o e=>by rw[<- hs3];exact Heap.get?_push_of_some _ e
 refine Jl λh' hk hn ho ha=>?_;have I4:=IN (loc:=loc) S I3 f3 hk hn ho ha lt3;have fpX:∀{H':Hp},(∀b∈fp,H' b=none)->∀b∈fp,FpOk (cCx X (loc++fr) scope s3 (upd H2 s2.heap.objs.size (.lst [])) fp) [] H' b:=λhn b hb=>
  ⟨hn b hb,(I4.ok.exf b hb).1,I4.ok.exfs b hb,.inl hb,(I4.ok.exf b hb).2,λp hp=>by cases hp⟩
 have loop:codeAny (model X.prog X.w) X.A (.compLoop (LC2 elt tg iter ifs tg2 iter2 ifs2 scope pos) 0 (.ref it) (.ref s2.heap.objs.size) (PV scope s3.heap.objs.size X.env))
  (RR (.ref s2.heap.objs.size) s3.heap.objs.size) { s3 with heap:=h' }:=by
  refine WY (hs2 s3 (upd H2 s2.heap.objs.size (.lst [])) fp) (λn s'=>∃i σ' H',Inv (cCx X (loc++fr) scope s3 (upd H2 s2.heap.objs.size (.lst [])) fp) [] σ' H' s'/\tn i s'.heap/\(∀b∈fp,H' b=none)/\W i n σ' H') ?_ m0
   ⟨0,_,_,I4,T.keep _ _ _ st3 λb hb o e=>hk b o e,λb hb=>(f3 b hb).1,w0⟩
  rintro n s5 ⟨i,σ5,H5,I5,st5,fr5,w5⟩;have w5:=turn i n σ5 H5 w5;rcases w5 with⟨stop,qn⟩|⟨go,N,hN,step⟩
  .refine thn (T.done (cCx X (loc++fr) scope s3 (upd H2 s2.heap.objs.size (.lst [])) fp) rfl rfl rfl hc i [] s5 σ5 H5 _ I5 (fpX fr5) st5 stop) λr s6 ⟨hr,I6⟩=>?_;subst hr;exact hfin s3 s6 H5 σ5 s2.heap.objs.size I3 I6 f3 qn
  .refine thn (T.item (cCx X (loc++fr) scope s3 (upd H2 s2.heap.objs.size (.lst [])) fp) rfl rfl rfl hc i [] s5 σ5 H5 _ I5 (fpX fr5) st5 go) λr s6 ⟨u,hr,h6⟩=>?_;subst hr;refine thn h6 λ_ s7 ⟨x,H7,I7,r7,y7,st7,fr7⟩=>?_;have I7':=I7.pinned (fpX fr7) (T.obj _ _ st7);have keepI:∀{σ8:St} {H8:Hp} {s8:Shared},Inv (cCx X (loc++fr) scope s3 (upd H2 s2.heap.objs.size (.lst [])) fp) ([]++E4 fp s7.heap) σ8 H8 s8->tn (i+1) s8.heap/\∀b∈fp,H8 b=none:=λ{σ8 H8 s8} I8=>by
    refine⟨T.keep _ _ _ st7 λb hb o e=>(I8.pin (b,o) (mem_append_right _ (mem_append_right _ (BE hb e)))).1,λb hb=>?_⟩;obtain⟨o,e,d⟩:=T.obj _ _ st7 b hb;exact(I8.pin (b,o) (mem_append_right _ (mem_append_right _ (BE hb e)))).2.1
   refine thn (hg s3 (upd H2 s2.heap.objs.size (.lst [])) fp _ s7 σ5 H7 x u _ I7' r7 (step x H7 y7)) λ_ s8 ⟨σ8,H8,I8,q8⟩=>?_;refine thn (hf s3 (upd H2 s2.heap.objs.size (.lst [])) fp _ s8 σ8 H8 _ I8 q8) λb s9 ⟨H9,I9,q9⟩=>?_;cases b with
   |false=>
    rw[if_neg Bool.false_ne_true]at q9 ⊢;obtain⟨m',hm,w9⟩:=hN _ _ q9;exact⟨m',hm,i+1,σ8,H9,I9.unpinned,(keepI I9).1,(keepI I9).2,w9⟩
   |true=>
    rw[if_pos rfl]at q9 ⊢;refine thn (hi2 s3 (upd H2 s2.heap.objs.size (.lst [])) fp _ s9 σ8 H9 _ I9 q9) λv10 s10 h10=>thn h10 λit2 s11 h11=>?_;obtain⟨itb,fpb,tnb,Jb,Hb,rfl,Ib,Tb,stb,fb,hWb⟩:=h11;refine codeAny_mono (PP hc (hg2 _ _ _) (hf2 _ _ _) (he _ _ _) Ib Tb stb fb hWb) λr s12 ⟨hr,σ12,H12,I12,n12⟩=>⟨hr,?_⟩
    obtain⟨m',hm,w12⟩:=hN _ _ n12;exact⟨m',hm,i+1,σ12,H12,I12.unpinned,(keepI I12).1,(keepI I12).2,w12⟩
 exact codeAny_compStart_list loop (T.self X.A 0 _ _ _ (T.keep _ _ _ st3 λb hb o e=>hk b o e) loop)
def TB{elt tg iter tg2 iter2:Expr}{ifs ifs2:List Expr}{scope:Scope}{pos:Pos}{loc fr:List Str}{ix:List Nat}{wi wi2:TI}{g g2:TG}{tf tf2:TT}{te:TE}(hc:X.calm=true)(S:CSc X scope fr ix)(hi:PI X tg iter wi)
 (hg:∀s H ex,PG (cCx X (loc++fr) scope s H ex) tg g) (hf:∀s H ex,PF (cCx X (loc++fr) scope s H ex) ifs tf) (hi2:∀s H ex,PI (cCx X (loc++fr) scope s H ex) tg2 iter2 wi2) (hg2:∀s H ex,PG (cCx X (loc++fr) scope s H ex) tg2 g2) (hf2:∀s H ex,PF (cCx X (loc++fr) scope s H ex) ifs2 tf2) (he:∀s H ex,PE (cCx X (loc++fr) scope s H ex) elt te)
 (hs:∀x,foldedSetIterable iter X.env x=pure x:=by intro _;rfl) (hs2:∀s H ex x,foldedSetIterable iter2 (cCx X (loc++fr) scope s H ex).env x=pure x:=by intro _ _ _ _;rfl):
 PE X (LC2 elt tg iter ifs tg2 iter2 ifs2 scope pos) (Eg loc.length ix wi g tf wi2 g2 tf2 te):=by
 intro pins s σ H Q I h;rw[eval_ListComp];have hnames:∀y∈scope.names,y.2=.local->scope.names.lookup y.1=some .local:=λy hy e=>by
  have:=all_eq_true.mp S.loc y hy;rw[e]at this;simpa using this
 refine wpAny_comprehension_free (use:=none) rfl hs (CJ (S.clos I.ok)) S.kind hnames (thn (hi pins s σ H _ I h) λv s1 h1=>thn h1 λitv s2 h2=>?_);obtain⟨it,fp,tn,J,H2,rfl,I2,T,st2,f2,hW⟩:=h2;refine Hu (RR:=λacc C=>compPost (model X.prog X.w) X.A X.xe none (EP X pins σ Q) acc C) hc S hg hf hi2 hg2 hf2 he hs2 I2 T st2 f2 hW λs3 s6 H5 σ5 L I3 I6 f3 q=>?_;obtain⟨m,hm,_⟩:=I6.loc;exact⟨m,hm,λh'' hs'=>⟨.ref L,H5,FT I3 I6 f3 hs',rfl,q⟩⟩
end
open Classical in
def mIn(k:Nat)(n:MG)(c:MT)(m:ME)(g:Gd):List D->Ls->Hd->Option (Ls×Hd)
 |[],ls,hd=>some (ls,hd)
 |d::r,ls,hd=>(n d ls hd).bind λls1=>(c ls1 hd).bind λp=>if p.1=true then(m ls1 p.2).bind λq=>(BB (.mu k) [q.1] q.2).bind λz=>if GOk z.2 g then mIn k n c m g r ls1 z.2 else none else if GOk p.2 g then mIn k n c m g r ls1 p.2 else none
open Classical in
def EI(k:Nat)(n:MG)(c:MT)(mi:MI)(n2:MG)(c2:MT)(m:ME)(g:Gd):List D->Ls->Hd->Option Hd
 |[],ls,hd=>some hd
 |d::r,ls,hd=>(n d ls hd).bind λls1=>(c ls1 hd).bind λp=>if p.1=true then(mi ls1 p.2).bind λq=>(mIn k n2 c2 m q.1.2 q.1.1 ls1 q.2).bind λz=>if GOk z.2 g then EI k n c mi n2 c2 m g r z.1 z.2 else none else if GOk p.2 g then EI k n c mi n2 c2 m g r ls1 p.2 else none
def D2(j:Nat)(ix:List Nat)(mi:MI)(n:MG)(c:MT)(mi2:MI)(n2:MG)(c2:MT)(m:ME):ME:=λls hd=>(mi ls hd).bind λp=>(EI p.2.length n c mi2 n2 c2 m p.1.2 p.1.1 (DZ j ix ls) (p.2++[.lst []])).map λh=>(.mu p.2.length,h)
section
variable{K:PySem.W.Frag}{ρ:List Addr}{H:Hp}{hd:Hd}
def Wi{h:Hd}{g:Gd}(G:GOk h g)(r:Hd):GOk (h++r) g:=λp hp=>by
 have:=G p hp;have hl:p.1<h.length:=(List.getElem?_eq_some_iff.mp this).1;rw[List.getElem?_append_left hl];exact this
def bD{g:TG}{tf:TT}{te:TE}{n:MG}{c:MT}{m:ME}(hg:RGt K g n)(hf:RT K tf c)(he:RE K te m){J:It}{ds:List D}{gd:Gd}{k:Nat}{Da:Addr}{ls ls':Ls}{hd':Hd}{σ:St}{Q:St->Hp->Prop}
 (hR:RH K ρ H hd) (hL:RL K ρ H ls σ) (G:GOk hd gd) (Y:JQ K ρ H J ds gd) (hk:ρ[k]?=some Da) (hm:mIn k n c m gd ds ls hd=some (ls',hd'))
 (hQ:∀ρ' H' σ',Ext ρ H ρ' H'->RH K ρ' H' hd'->RL K ρ' H' ls' σ'->Q σ' H'):Pa J Da σ H g tf te Q:=by
 refine⟨λi mm σ2 H2=>mm=ds.length-i/\i<=ds.length/\∃ρ2 ls2 hd2,Ext ρ H ρ2 H2/\RH K ρ2 H2 hd2/\RL K ρ2 H2 ls2 σ2/\GOk hd2 gd/\mIn k n c m gd (ds.drop i) ls2 hd2=some (ls',hd'),
  ⟨ds.length,by simp,zero_le _,ρ,ls,hd,.refl,hR,hL,G,by simpa using hm⟩,?_⟩
 rintro i mm σ2 H2 ⟨rfl,hi,ρ2,ls2,hd2,x2,R2,L2',G2,hm2⟩;obtain⟨Y1,Y2⟩:=Y ρ2 H2 hd2 x2 R2 G2 i;have hk2:ρ2[k]?=some Da:=by
  obtain⟨r,rfl,_⟩:=x2.pre;rw[List.getElem?_append_left (List.getElem?_eq_some_iff.mp hk).1];exact hk
 by_cases hlt:i<ds.length
 .obtain⟨go,Y1⟩:=Y1 hlt;have ed:ds.drop i=ds[i]::ds.drop (i+1):=List.drop_eq_getElem_cons hlt;rw[ed]at hm2;unfold mIn at hm2;obtain⟨ls3,e3,hm2⟩:=dL hm2;obtain⟨⟨bb,hd4⟩,e4,hm2⟩:=dL hm2;refine .inr ⟨go,λσ' H'=>∃ρ2 ls2 hd2,Ext ρ H ρ2 H'/\RH K ρ2 H' hd2/\RL K ρ2 H' ls2 σ'/\GOk hd2 gd/\mIn k n c m gd (ds.drop (i+1)) ls2 hd2=some (ls',hd'),λσ' H' z=>⟨ds.length-(i+1),by omega,rfl,hlt,z⟩,λx H3 y=>?_⟩;obtain⟨ρ3,d3,x3,rfl,R3,e5,r3⟩:=Y1 x H3 y;have e6:d3=ds[i]:=by
   have:ds[i]?=some ds[i]:=by simp[hlt]
   rw[this]at e5;exact(Option.some.inj e5).symm
  subst e6;refine hg ρ3 σ2 H3 hd2 ls2 ls3 _ x _ R3 (L2'.ext R2 x3) r3 e3 λσ4 L4=>?_;refine hf ρ3 σ4 H3 hd2 ls3 _ bb hd4 R3 L4 e4 λρ5 H5 x5 R5=>?_;have y25:=x3.trans R3 x5;cases bb with
  |false=>
   rw[if_neg Bool.false_ne_true]at hm2 ⊢;split at hm2
   .next g5=>exact⟨ρ5,ls3,hd4,x2.trans R2 y25,R5,L4.ext R3 x5,g5,hm2⟩
   .cases hm2
  |true=>
   rw[if_pos rfl]at hm2 ⊢;obtain⟨⟨z,hd6⟩,e6,hm2⟩:=dL hm2;obtain⟨⟨z7,hd7⟩,e7,hm2⟩:=dL hm2;refine he ρ5 σ4 H5 hd4 ls3 _ z hd6 R5 (L4.ext R3 x5) e6 λρ6 H6 v6 x6 R6 r6=>?_;have y26:=y25.trans R5 x6;have hk6:ρ6[k]?=some Da:=by
    obtain⟨r,rfl,_⟩:=y26.pre;rw[List.getElem?_append_left (List.getElem?_eq_some_iff.mp hk2).1];exact hk2
   unfold BB at e7;dsimp only at e7 hm2;split at e7
   .next es q=>
    split at e7
    .next c7=>
     cases e7;obtain⟨xs,e1,e2⟩:=R6.lst hk6 q;obtain⟨R7,x7⟩:=R6.put hk6 (o:=.lst (es++[z])) (ho:=.lst (xs++[v6])) ⟨_,rfl,e2.app (.cons r6 .nil)⟩;refine⟨xs,e1,by rw[e2.len];exact c7,?_⟩;split at hm2
     .next g7=>exact⟨ρ6,ls3,_,(x2.trans R2 y26).trans R6 x7,R7,((L4.ext R3 x5).ext R5 x6).ext R6 x7,g7,hm2⟩
     .cases hm2
    .cases e7
   .cases e7
 .have e:i=ds.length:=by omega
  subst e;rw[drop_length]at hm2;unfold mIn at hm2;cases hm2;exact .inl ⟨Y2 rfl,hQ ρ2 H2 σ2 x2 R2 L2'⟩
def SV{j:Nat}{ix:List Nat}{wi wi2:TI}{g g2:TG}{tf tf2:TT}{te:TE}{mi mi2:MI}{n n2:MG}{c c2:MT}{m:ME}(hi:RIt K wi mi)(hg:RGt K g n)(hf:RT K tf c)(hi2:RIt K wi2 mi2)(hg2:RGt K g2 n2)(hf2:RT K tf2 c2)(he:RE K te m):RE K (Eg j ix wi g tf wi2 g2 tf2 te) (D2 j ix mi n c mi2 n2 c2 m):=by
 intro ρ σ H hd ls Q out hd' hR hL hm hQ;obtain⟨⟨⟨ds,gd⟩,h1⟩,e1,hm⟩:=dL hm;obtain⟨hd2,hm,e2⟩:=dM hm;cases e2;dsimp only at hm;refine hi ρ σ H hd ls _ ds gd h1 hR hL e1 λρ1 H1 J x1 R1 G1 Y=>?_;intro Da hDa;obtain⟨R1',x1'⟩:=R1.new (o:=.lst []) (ho:=.lst []) hDa ⟨[],rfl,.nil⟩;have hk1:(ρ1++[Da])[h1.length]?=some Da:=by rw[<- R1.len];simp
 refine⟨λi mm σ2 H2=>mm=ds.length-i/\i<=ds.length/\∃ρ2 ls2 h2,Ext (ρ1++[Da]) (upd H1 Da (.lst [])) ρ2 H2/\RH K ρ2 H2 h2/\RL K ρ2 H2 ls2 σ2/\GOk h2 gd/\EI h1.length n c mi2 n2 c2 m gd (ds.drop i) ls2 h2=some hd',
  ⟨ds.length,by simp,zero_le _,_,_,_,.refl,R1',O4 ((hL.ext hR x1).ext R1 x1'),Wi G1 _,by simpa using hm⟩,?_⟩
 rintro i mm σ2 H2 ⟨rfl,hi',ρ2,ls2,h2,x2,R2,L2',G2,hm2⟩;have x12:=x1'.trans R1' x2;obtain⟨Y1,Y2⟩:=Y ρ2 H2 h2 x12 R2 G2 i;have hk2:ρ2[h1.length]?=some Da:=by
  obtain⟨r,rfl,_⟩:=x2.pre;rw[List.getElem?_append_left (List.getElem?_eq_some_iff.mp hk1).1];exact hk1
 by_cases hlt:i<ds.length
 .obtain⟨go,Y1⟩:=Y1 hlt;have ed:ds.drop i=ds[i]::ds.drop (i+1):=List.drop_eq_getElem_cons hlt;rw[ed]at hm2;unfold EI at hm2;obtain⟨ls3,e3,hm2⟩:=dL hm2;obtain⟨⟨bb,hd4⟩,e4,hm2⟩:=dL hm2;refine .inr ⟨go,λσ' H'=>∃ρ2 ls2 h2,Ext (ρ1++[Da]) (upd H1 Da (.lst [])) ρ2 H'/\RH K ρ2 H' h2/\RL K ρ2 H' ls2 σ'/\GOk h2 gd/\EI h1.length n c mi2 n2 c2 m gd (ds.drop (i+1)) ls2 h2=some hd',λσ' H' z=>⟨ds.length-(i+1),by omega,rfl,hlt,z⟩,λx H3 y=>?_⟩;obtain⟨ρ3,d3,x3,rfl,R3,e5,r3⟩:=Y1 x H3 y;have e6:d3=ds[i]:=by
   have:ds[i]?=some ds[i]:=by simp[hlt]
   rw[this]at e5;exact(Option.some.inj e5).symm
  subst e6;refine hg ρ3 σ2 H3 h2 ls2 ls3 _ x _ R3 (L2'.ext R2 x3) r3 e3 λσ4 L4=>?_;refine hf ρ3 σ4 H3 h2 ls3 _ bb hd4 R3 L4 e4 λρ5 H5 x5 R5=>?_;have y25:=x3.trans R3 x5;cases bb with
  |false=>
   rw[if_neg Bool.false_ne_true]at hm2 ⊢;split at hm2
   .next g5=>exact⟨ρ5,ls3,hd4,x2.trans R2 y25,R5,L4.ext R3 x5,g5,hm2⟩
   .cases hm2
  |true=>
   rw[if_pos rfl]at hm2 ⊢;obtain⟨⟨⟨ds6,g6⟩,hd6⟩,e6,hm2⟩:=dL hm2;obtain⟨⟨ls7,hd7⟩,e7,hm2⟩:=dL hm2;refine hi2 ρ5 σ4 H5 hd4 ls3 _ ds6 g6 hd6 R5 (L4.ext R3 x5) e6 λρ6 H6 J6 x6 R6 G6 Y6=>?_;have y26:=y25.trans R5 x6;have hk6:ρ6[h1.length]?=some Da:=by
    obtain⟨r,rfl,_⟩:=y26.pre;rw[List.getElem?_append_left (List.getElem?_eq_some_iff.mp hk2).1];exact hk2
   refine bD hg2 hf2 he R6 ((L4.ext R3 x5).ext R5 x6) G6 Y6 hk6 e7 λρ7 H7 σ7 x7 R7 L7=>?_;dsimp only at hm2;split at hm2
   .next g7=>exact⟨ρ7,ls7,hd7,(x2.trans R2 y26).trans R6 x7,R7,L7,g7,hm2⟩
   .cases hm2
 .have e:i=ds.length:=by omega
  subst e;rw[drop_length]at hm2;unfold EI at hm2;cases hm2;refine .inl ⟨Y2 rfl,hQ ρ2 H2 _ (x1.trans R1 x12) R2 ?_⟩;simp only[RD];exact⟨Da,hk2,rfl⟩
end
def Lz(K:PySem.W.Frag){X:Cx}{elt tg iter tg2 iter2:Expr}{ifs ifs2:List Expr}{scope:Scope}{pos:Pos}{loc fr:List Str}{ix:List Nat}{wi wi2:TI}{g g2:TG}{tf tf2:TT}{te:TE}{mi mi2:MI}{n n2:MG}{mf mf2:MT}{mm:ME}(hc:X.calm=true)(S:CSc X scope fr ix)(hi:QI K X tg iter wi mi)
 (hg:∀s H ex,QG K (cCx X (loc++fr) scope s H ex) tg g n) (hf:∀s H ex,QF K (cCx X (loc++fr) scope s H ex) ifs tf mf) (hi2:∀s H ex,QI K (cCx X (loc++fr) scope s H ex) tg2 iter2 wi2 mi2) (hg2:∀s H ex,QG K (cCx X (loc++fr) scope s H ex) tg2 g2 n2) (hf2:∀s H ex,QF K (cCx X (loc++fr) scope s H ex) ifs2 tf2 mf2) (he:∀s H ex,QE K (cCx X (loc++fr) scope s H ex) elt te mm)
 (hs:∀x,foldedSetIterable iter X.env x=pure x:=by intro _;rfl) (hs2:∀s H ex x,foldedSetIterable iter2 (cCx X (loc++fr) scope s H ex).env x=pure x:=by intro _ _ _ _;rfl):
 QE K X (.ListComp elt [⟨tg,iter,ifs,0⟩,⟨tg2,iter2,ifs2,0⟩] scope pos) (Eg loc.length ix wi g tf wi2 g2 tf2 te) (D2 loc.length ix mi n mf mi2 n2 mf2 mm):=
 ⟨TB hc S hi.p (λs H ex=>(hg s H ex).p) (λs H ex=>(hf s H ex).p) (λs H ex=>(hi2 s H ex).p) (λs H ex=>(hg2 s H ex).p) (λs H ex=>(hf2 s H ex).p) (λs H ex=>(he s H ex).p) hs hs2,
  SV hi.r (hg X.s₀ X.H₀ []).r (hf X.s₀ X.H₀ []).r (hi2 X.s₀ X.H₀ []).r (hg2 X.s₀ X.H₀ []).r (hf2 X.s₀ X.H₀ []).r (he X.s₀ X.H₀ []).r⟩
@[simp] theorem Tn(j:Nat)(ix:List Nat)(mi mi2:MI)(n n2:MG)(c c2:MT)(m:ME)(ls:Ls)(hd:Hd):D2 j ix mi n c mi2 n2 c2 m ls hd=(mi ls hd).bind λp=>(EI p.2.length n c mi2 n2 c2 m p.1.2 p.1.1 (DZ j ix ls) (p.2++[.lst []])).map λh=>(.mu p.2.length,h):=rfl
end L2
namespace L2
open PySem PySem.Spec PyProof.Rows PySem.W
section
variable(r:Nat->Int)(n:Nat)
def PWp{α:Type}:KasT α->(α->Prop)->Prop
 |.ret a,Q=>Q a
 |.ask i j k,Q=>i<n/\j<n/\PWp (k (decide (r i<r j))) Q
def kv(p:Array Nat)(i:Nat):Int:=r (p.getD i 0)
def STo(p:Array Nat)(m:Nat):Prop:=∀i j,i<=j->j<m->kv r p i<=kv r p j
def DTo(p:Array Nat)(m:Nat):Prop:=∀i j,i<=j->j<m->kv r p j<=kv r p i
def EqL(p:Array Nat)(m q:Nat):Prop:=∀k,m-(q+1)<=k->k<m->kv r p k=kv r p (m-1)
def PAr(p:Array Nat):Prop:=p.Perm (List.range n).toArray
end
section
variable{r:Nat->Int}{n:Nat}
def PWp.bind{α β:Type}{f:α->KasT β}{Q:β->Prop}:∀{t:KasT α},PWp r n t (λa=>PWp r n (f a) Q)->PWp r n (t.bind f) Q
 |.ret _,h=>h
 |.ask i j k,h=>⟨h.1,h.2.1,PWp.bind h.2.2⟩
def PWp.mono{α:Type}{Q Q':α->Prop}:∀{t:KasT α},PWp r n t Q->(∀a,Q a->Q' a)->PWp r n t Q'
 |.ret _,h,q=>q _ h
 |.ask i j k,h,q=>⟨h.1,h.2.1,PWp.mono h.2.2 q⟩
def PWp.wp{α:Type}{cmp:Nat->Nat->(Bool->Shared->Prop)->Shared->Prop}{P:Shared->Prop}{Q:α->Shared->Prop}(hc:∀i j C s,i<n->j<n->P s->(∀s',P s'->C (decide (r i<r j)) s')->cmp i j C s):∀{t:KasT α} {s:Shared},PWp r n t (λa=>∀s,P s->Q a s)->P s->t.kasWp cmp Q s
 |.ret _,s,h,p=>h s p
 |.ask i j k,s,h,p=>hc i j _ s h.1 h.2.1 p λs' p'=>PWp.wp hc h.2.2 p'
def PAr.size{p:Array Nat}(h:PAr n p):p.size=n:=by have:=h.size_eq;simpa using this
def PAr.lt{p:Array Nat}(h:PAr n p){i:Nat}(hi:i<n):p.getD i 0<n:=by
 have hs:=h.size;have hi':i<p.size:=by omega
 have:p[i]∈(List.range n).toArray:=h.mem_iff.mp (Array.getElem_mem hi');have e:p.getD i 0=p[i]:=by simp[Array.getD,hi']
 rw[e];simpa using this
def JE{p:Array Nat}{i j:Nat}(hj:j<=p.size)(k:Nat):kv r (kas_rev p i j) k=if i<=k/\k<j then kv r p (i+j-1-k)else kv r p k:=by
 unfold kv kas_rev;simp only[Array.getD_eq_getD_getElem?];rw[getElem?_mirror_all hj];split<;>rfl
def PAr.rev{p:Array Nat}(h:PAr n p)(i j:Nat):PAr n (kas_rev p i j):=(mirror_perm _ _ _ _).trans h
def Np{p:Array Nat}{m q:Nat}(hj:m<=p.size)(hq:q+1<=m)(h:EqL r p m q)(k:Nat):kv r (kas_rev p (m-(q+1)) m) k=kv r p k:=by
 rw[JE hj];split
 .next c=>rw[h _ (by omega) (by omega),h k c.1 c.2]
 .rfl
def Mt{p:Array Nat}(pa:PAr n p):∀(f m:Nat),1<=m->m+f<=n->STo r p m->PWp r n (kas_asc p f m) λm'=>m<=m'/\m'<=m+f/\STo r p m'/\(m'<m+f->kv r p m'<kv r p (m'-1))
 |0,m,h1,hn,hs=>⟨le_refl _,le_refl _,hs,λh=>by omega⟩
 |f+1,m,h1,hn,hs=>by
  refine⟨pa.lt (by omega),pa.lt (by omega),?_⟩;by_cases c:r (p.getD m 0)<r (p.getD (m-1) 0)
  .rw[decide_eq_true c];exact⟨le_refl _,by omega,hs,λ_=>c⟩
  .rw[decide_eq_false c];refine(Mt pa f (m+1) (by omega) (by omega) ?_).mono λm' h=>⟨by omega,by omega,h.2.2.1,λz=>h.2.2.2 (by omega)⟩
   intro i j hij hj;by_cases e:j<m
   .exact hs i j hij e
   .have:j=m:=by omega
    subst this;by_cases e2:i=j
    .subst e2;exact Int.le_refl _
    .have:=hs i (j-1) (by omega) (by omega);have:kv r p (j-1)<=kv r p j:=by unfold kv;omega
     omega
def IS{p:Array Nat}{m:Nat}(h1:1<=m)(h:DTo r p m)(c:kv r p m<=kv r p (m-1)):DTo r p (m+1):=by
 intro i j hij hj;by_cases e:j<m
 .exact h i j hij e
 .have:j=m:=by omega
  subst this;by_cases e2:i=j
  .subst e2;exact Int.le_refl _
  .have:=h i (j-1) (by omega) (by omega);omega
def Hi:∀(f:Nat) (p:Array Nat) (m q:Nat),PAr n p->1<=m->q+1<=m->m+f<=n->DTo r p m->EqL r p m q ->
 PWp r n (kas_desc f p m q) λz=>PAr n z.1/\m<=z.2.1/\z.2.1<=m+f/\DTo r z.1 z.2.1/\EqL r z.1 z.2.1 z.2.2/\z.2.2+1<=z.2.1
 |0,p,m,q,pa,h1,hq,hn,hd,he=>⟨pa,le_refl _,le_refl _,hd,he,hq⟩
 |f+1,p,m,q,pa,h1,hq,hn,hd,he=>by
  refine⟨pa.lt (by omega),pa.lt (by omega),?_⟩;have sz:=pa.size;by_cases c:r (p.getD m 0)<r (p.getD (m-1) 0)
  .rw[decide_eq_true c];have c':kv r p m<=kv r p (m-1):=by unfold kv;omega
   dsimp only;rw[if_pos rfl];by_cases hq0:q>0
   .rw[if_pos hq0];have sm:=Np (r:=r) (p:=p) (m:=m) (q:=q) (by omega) hq he;refine(Hi f _ (m+1) 0 (pa.rev _ _) (by omega) (by omega) (by omega) ?_ ?_).mono λz h=>⟨h.1,by omega,by omega,h.2.2.2⟩
    .have:=IS h1 hd c';intro i j a b;rw[sm,sm];exact this i j a b
    .intro k a b;have:k=m:=by omega
     subst this;rfl
   .rw[if_neg hq0];refine(Hi f p (m+1) 0 pa (by omega) (by omega) (by omega) (IS h1 hd c') ?_).mono λz h=>⟨h.1,by omega,by omega,h.2.2.2⟩
    intro k a b;have:k=m:=by omega
    subst this;rfl
  .rw[decide_eq_false c];dsimp only;rw[if_neg Bool.false_ne_true];refine⟨pa.lt (by omega),pa.lt (by omega),?_⟩;by_cases d:r (p.getD (m-1) 0)<r (p.getD m 0)
   .rw[decide_eq_true d];exact⟨pa,le_refl _,by show m<=m+(f+1);omega,hd,he,hq⟩
   .rw[decide_eq_false d];dsimp only;rw[if_neg Bool.false_ne_true];have e:kv r p m=kv r p (m-1):=by unfold kv;omega
    refine(Hi f p (m+1) (q+1) pa (by omega) (by omega) (by omega) (IS h1 hd (by omega)) ?_).mono λz h=>⟨h.1,by omega,by omega,h.2.2.2⟩
    intro k a b;by_cases e2:k=m
    .subst e2;rfl
    .have:=he k (by omega) (by omega);have e3:m+1-1=m:=rfl;rw[e3];omega
def Run(z:Nat×Array Nat)(r:Nat->Int)(n:Nat):Prop:=PAr n z.2/\1<=z.1/\z.1<=n/\STo r z.2 z.1
def LW{p:Array Nat}{m:Nat}(pa:PAr n p)(h1:1<=m)(hn:m<=n)(hd:DTo r p m):PWp r n (kas_tail3 m n p) λz=>Run z r n:=by
 have sz:=pa.size;have st:STo r (kas_rev p 0 m) m:=by
  intro i j a b;rw[JE (by omega),JE (by omega),if_pos ⟨by omega,by omega⟩,if_pos ⟨by omega,by omega⟩];exact hd _ _ (by omega) (by omega)
 refine PWp.bind ((Mt (pa.rev 0 m) (n-m) m h1 (by omega) st).mono λm' h=>?_);exact⟨pa.rev 0 m,by show 1<=m';omega,by show m'<=n;omega,h.2.2.1⟩
def Hs{p:Array Nat}{m:Nat}(pa:PAr n p)(hn:m+1<=n)(hd:DTo r p (m+1)):PWp r n (kas_descPart m n p) λz=>Run z r n:=by
 refine PWp.bind ((Hi (n-(m+1)) p (m+1) 0 pa (by omega) (by omega) (by omega) hd ?_).mono λz h=>?_)
 .intro k a b;have:k=m:=by omega
  subst this;rfl
 .obtain⟨a,b,c,d,e,g⟩:=h;have sz:=a.size;by_cases hq:z.2.2>0
  .rw[if_pos hq];have sm:=Np (r:=r) (p:=z.1) (m:=z.2.1) (q:=z.2.2) (by omega) g e;exact LW (a.rev _ _) (by omega) (by omega) λi j x y=>by rw[sm,sm];exact d i j x y
  .rw[if_neg hq];exact LW a (by omega) (by omega) d
def Tt(h1:1<=n):PWp r n (kas_count n (List.toArray (List.range n))) λz=>Run z r n:=by
 have pa:PAr n (List.range n).toArray:=.refl _;have sz:=pa.size;refine PWp.bind ((Mt pa (n-1) 1 (by omega) (by omega) λi j a b=>?_).mono λm h=>?_)
 .have:i=j:=by omega
  subst this;exact Int.le_refl _
 .obtain⟨a,b,c,d⟩:=h;by_cases e:(m==n)=true
  .rw[if_pos e];have:m=n:=by simpa using e
   exact⟨pa,by show 1<=m;omega,by show m<=n;omega,c⟩
  .rw[if_neg e];have hne:m≠n:=by simpa using e
   have dd:=d (by omega);by_cases h2:m>1
   .rw[if_pos h2];refine⟨pa.lt (by omega),pa.lt (by omega),?_⟩;by_cases g:r ((List.range n).toArray.getD 0 0)<r ((List.range n).toArray.getD (m-1) 0)
    .rw[decide_eq_true g];exact⟨pa,by show 1<=m;omega,by show m<=n;omega,c⟩
    .rw[decide_eq_false g];dsimp only;rw[if_neg Bool.false_ne_true];have g':kv r (List.range n).toArray (m-1)<=kv r (List.range n).toArray 0:=by unfold kv;omega
     have eq:∀k,k<m->kv r (List.range n).toArray k=kv r (List.range n).toArray 0:=λk hk=>by
      have x1:=c 0 k (by omega) hk;have x2:=c k (m-1) (by omega) (by omega);omega
     have rv:∀k,kv r (kas_rev (List.range n).toArray 0 m) k=kv r (List.range n).toArray k:=λk=>by
      rw[JE (by omega)];split
      .next z=>rw[eq _ (by omega),eq k z.2]
      .rfl
     refine Hs (pa.rev 0 m) (by omega) λi j x y=>?_;rw[rv,rv];by_cases z:j<m
     .rw[eq i (by omega),eq j z];exact Int.le_refl _
     .have:j=m:=by omega
      subst this;by_cases z2:i=j
      .subst z2;exact Int.le_refl _
      .rw[eq i (by omega)];have:=eq (j-1) (by omega);omega
   .rw[if_neg h2];have:m=1:=by omega
    subst this;refine Hs pa (by omega) λi j x y=>?_;by_cases z:i=j
    .subst z;exact Int.le_refl _
    .have:i=0:=by omega
     have:j=1:=by omega
     subst i j;have:kv r (List.range n).toArray 1<kv r (List.range n).toArray 0:=dd;omega
def IC{p:Array Nat}{k:Nat}(pa:PAr n p)(hk:k<n)(hs:STo r p k):∀(f l q:Nat),l<=q->q<=k->q-l<=f->(∀i,i<l->kv r p i<=kv r p k)->(∀i,q<=i->i<k->kv r p k<kv r p i) ->
 PWp r n (kas_place p k f l q) λm=>m<=k/\(∀i,i<m->kv r p i<=kv r p k)/\∀i,m<=i->i<k->kv r p k<kv r p i
 |0,l,q,a,b,c,d,e=>⟨by omega,d,λi x y=>e i (by omega) y⟩
 |f+1,l,q,a,b,c,d,e=>by
  unfold kas_place;by_cases h:l>=q
  .rw[if_pos h];exact⟨by omega,d,λi x y=>e i (by omega) y⟩
  .rw[if_neg h];refine⟨pa.lt (by omega),pa.lt (by omega),?_⟩;by_cases g:r (p.getD k 0)<r (p.getD ((l+q)/2) 0)
   .rw[decide_eq_true g];dsimp only;rw[if_pos rfl];have g':kv r p k<kv r p ((l+q)/2):=g;refine IC pa hk hs f l ((l+q)/2) (by omega) (by omega) (by omega) d λi x y=>?_;have:=hs ((l+q)/2) i x y;omega
   .rw[decide_eq_false g];dsimp only;rw[if_neg Bool.false_ne_true];have g':kv r p ((l+q)/2)<=kv r p k:=by unfold kv;omega
    refine IC pa hk hs f ((l+q)/2+1) q (by omega) (by omega) (by omega) (λi x=>?_) e;have:=hs i ((l+q)/2) (by omega) (by omega);omega
def KP{p:Array Nat}{k d:Nat}(hk:k<p.size)(hd:d<=k)(i:Nat):kv r (bubble p k d) i=if i=k-d then kv r p k else if k-d<i/\i<=k then kv r p (i-1)else kv r p i:=by
 unfold kv;simp only[Array.getD_eq_getD_getElem?];rw[getElem?_bubble hk d hd];split
 .rfl
 .split<;>rfl
def RV:∀(f:Nat) (p:Array Nat) (k:Nat),PAr n p->k+f=n->STo r p k->PWp r n (kas_bin f p k) λz=>PAr n z/\STo r z n
 | 0,p,k,pa,e,hs=>⟨pa,by
  have:k=n:=by omega
  subst this;exact hs⟩
 |f+1,p,k,pa,e,hs=>by
  have sz:=pa.size;refine PWp.bind ((IC pa (by omega) hs k 0 k (by omega) (by omega) (by omega) (λi h=>by omega) (λi a b=>by omega)).mono λm h=>?_);obtain⟨a,b,c⟩:=h;refine RV f _ (k+1) ((bubble_perm _ _ _).trans pa) (by omega) λi j x y=>?_;rw[KP (by omega) (by omega),KP (by omega) (by omega)];have ek:k-(k-m)=m:=by omega
  rw[ek]
  repeat' split
  .exact Int.le_refl _
  .exact Int.le_of_lt (c _ (by omega) (by omega))
  .omega
  .exact b _ (by omega)
  .exact hs _ _ (by omega) (by omega)
  .omega
  .exact b _ (by omega)
  .exact hs _ _ (by omega) (by omega)
  .exact hs _ _ (by omega) (by omega)
def NQ(h1:1<=n):PWp r n (kas_sort n) λp=>PAr n p/\STo r p n:=by
 refine PWp.bind ((Tt h1).mono λz h=>?_);obtain⟨a,b,c,d⟩:=h;by_cases e:z.1<n
 .rw[if_pos e];have:max z.1 1=z.1:=by omega
  rw[this];exact RV _ _ _ a (by omega) d
 .rw[if_neg e];have:z.1=n:=by omega
  exact⟨a,this ▸ d⟩
end
def PairAt(h:Heap)(v:Value)(p:Int×Int):Prop:=∃(x:Addr) (o:Obj) (t u:Tok) (k:Nat),v=.ref x/\h.get? x=some o/\o.cls=.type "tuple"/\o.data=.seq #[.int p.1 t,.int p.2 u] k
def AV(p:Int×Int):Int:=p.1*4000000000+p.2
def pok(p:Int×Int):Prop:=-1000000000<=p.1/\p.1<=1000000000/\-1000000000<=p.2/\p.2<=1000000000
section
variable{prog:Program}{w:World}{A:Around}{E:Value->Shared->Prop}{s:Shared}
def Nn{x y:Value}{p q:Int×Int}{C:Bool->Shared->Prop}(hx:PairAt s.heap x p)(hy:PairAt s.heap y q)(op:pok p)(oq:pok q)(h:C (decide (AV p<AV q)) s):
 wpAny (model prog w) A (keyLt' (tuples' true) x y) C E s:=by
 obtain⟨a,o,t,u,k,rfl,ho,hc,hd⟩:=hx;obtain⟨a2,o2,t2,u2,k2,rfl,ho2,hc2,hd2⟩:=hy;obtain⟨p1,p2⟩:=p;obtain⟨q1,q2⟩:=q;unfold pok at op oq;unfold AV at h;dsimp only at op oq h;refine kat_lt ho hd ho2 hd2 ?_;refine kat_cons (wpAny_eqBool_int ?_);by_cases e1:p1=q1
 .have b1:(p1==q1)=true:=by simp[e1]
  rw[b1];refine kat_yes (kat_cons (wpAny_eqBool_int ?_));by_cases e2:p2=q2
  .have b2:(p2==q2)=true:=by simp[e2]
   rw[b2];refine kat_yes (kat_nil ?_);have:decide (p1*4000000000+p2<q1*4000000000+q2)=false:=decide_eq_false (by omega);rw[this]at h;exact h
  .have b2:(p2==q2)=false:=by simp[e2]
   rw[b2];refine kat_no (kat_one _ _ (lt_int ?_));have:decide (p1*4000000000+p2<q1*4000000000+q2)=decide (p2<q2):=decide_eq_decide.mpr (by omega);rw[this]at h;exact h
 .have b1:(p1==q1)=false:=by simp[e1]
  rw[b1];refine kat_no (oneLt_int ?_);have:decide (p1*4000000000+p2<q1*4000000000+q2)=decide (p1<q1):=decide_eq_decide.mpr (by omega);rw[this]at h;exact h
def JW{h:Heap}:∀{vs:List Value} {ps:List (Int×Int)},vs.length=ps.length->(∀(i:Nat) (v:Value) (p:Int×Int),vs[i]?=some v->ps[i]?=some p->PairAt h v p)->∃fs,KatTups h vs fs/\fs.length=vs.length/\∀f∈fs,∃i t,f=.int i t
 |[],[],_,_=>⟨[],.nil,rfl,λ_ z=>by cases z⟩
 |v::vs,p::ps,hl,hp=>by
  obtain⟨fs,a,b,c⟩:=JW (vs:=vs) (ps:=ps) (by simpa using hl) λi v q e1 e2=>hp (i+1) v q (by simpa using e1) (by simpa using e2);obtain⟨x,o,t,u,k,rfl,ho,hc,hd⟩:=hp 0 v p rfl rfl;exact⟨.int p.1 t::fs,.cons ho hc hd rfl a,by simp[b],λf hf=>by
   rcases mem_cons.mp hf with rfl|hf
   .exact⟨_,_,rfl⟩
   .exact c f hf⟩
def Ec(vs:List Value)(ps:List (Int×Int))(out:List Value):Prop:=∃zs:List (Value×(Int×Int)),zs.Perm (vs.zip ps)/\(zs.map λz=>AV z.2).Pairwise (·<=·)/\out=zs.map (·.1)
def Pq{vs:List Value}{ps:List (Int×Int)}(hl:vs.length=ps.length){p:Array Nat}(pa:PAr vs.length p)(hs:STo (λi=>AV (ps.getD i (0,0))) p vs.length):Ec vs ps (p.toList.map λi=>vs.getD i Value.none):=by
 have sz:=pa.size;refine⟨p.toList.map λi=>(vs.getD i Value.none,ps.getD i (0,0)),?_,?_,by rw[map_map];rfl⟩
 .have e:vs.zip ps=(List.range vs.length).map λi=>(vs.getD i Value.none,ps.getD i (0,0)):=by
   refine ext_getElem? λi=>?_;by_cases hi:i<vs.length
   .have hi2:i<ps.length:=by omega
    rw[(List.getElem?_zip_eq_some (z:=(vs[i],ps[i]))).mpr ⟨by simp[hi],by simp[hi2]⟩];simp[hi,hi2]
   .rw[List.getElem?_eq_none (by simp;omega),List.getElem?_eq_none (by simp;omega)]
  rw[e];have:=Array.perm_iff_toList_perm.mp pa;simpa using this.map _
 .rw[map_map,List.pairwise_iff_getElem];intro i j hi hj hij;simp only[length_map,Array.length_toList]at hi hj;have:=hs i j (by omega) (by omega);unfold kv at this;simpa [Array.getD,hi,hj]using this
def OQ{a:Addr}{vs:List Value}{ps:List (Int×Int)}{n:Nat}{P:PySem.Fin->Shared->Prop}(ho:s.heap.get? a=some (seqObj "list" vs.toArray n))(hl:vs.length=ps.length)(h64:vs.length<64)(hok:∀p∈ps,pok p)
 (hp:∀(i:Nat) (v:Value) (p:Int×Int),vs[i]?=some v->ps[i]?=some p->PairAt (s.heap.update a (Obj.mapSeq λ_=>#[])) v p)
 (h:∀out:List Value,Ec vs ps out->P (.done (.ret .none)) { s with heap:=sortedHeap s.heap a vs out.toArray }):
 wpAny (model prog w) A (Builtin.«list.sort» ⟨[.ref a],[]⟩) P E s:=by
 have ha:=Heap.lt_size ho;have line:vs.length<=sizeLine:=by rw[sizeLine_eq];omega
 obtain⟨e1,ho1⟩:∃e1,(s.heap.update a (Obj.mapSeq λ_=>#[])).get? a=some (seqObj "list" #[] e1):=⟨_,get?_update_seq ho _⟩
 rw[list_sort_plain];refine wpAny_bind (listItems_at ho rfl (wpAny_bind (listUpdate_at ho rfl (wpAny_bind (seqEpoch_at ho1 rfl (wpAny_bind (wpAny_newTuple (wpAny_bind (wpAny_newList (wpAny_holding ?_) (zero_le _))) line)))) (by rw[size_toArray];exact line) (zero_le _))));have grow:∀b o,(s.heap.update a (Obj.mapSeq λ_=>#[])).get? b=some o->(((s.heap.update a (Obj.mapSeq λ_=>#[])).push (seqObj "tuple" vs.toArray 0)).push (seqObj "list" #[] 0)).get? b=some o:=λb o e=>Heap.get?_push_of_some _ (Heap.get?_push_of_some _ e);have ho6:=grow _ _ ho1;generalize h6:((s.heap.update a (Obj.mapSeq λ_=>#[])).push (seqObj "tuple" vs.toArray 0)).push (seqObj "list" #[] 0)=hp6 at *;have done:∀out:List Value,Ec vs ps out->P (.done (.ret .none)) { s with heap:=hp6.update a (Obj.mapSeq λ_=>out.toArray) }:=λout z=>by
  have:=h out z;unfold sortedHeap at this;rw[h6]at this;exact this
 show wpAny (model prog w) A _ P E { s with heap:=hp6 };dsimp only;have pairs6:∀(i:Nat) (v:Value) (p:Int×Int),vs[i]?=some v->ps[i]?=some p->PairAt hp6 v p:=λi v p x y=>by
  obtain⟨x',o,t,u,k,e,q,c,d⟩:=hp i v p x y;exact⟨x',o,t,u,k,e,grow _ _ q,c,d⟩
 by_cases h2:vs.toArray.size<2
 .rw[if_pos h2,if_pos h2];refine wpAny_bind (wpAny_pure ?_);rw[StateT.run_pure];refine wpAny_bind (wpAny_pure ?_);dsimp only;have hout:(arrOf (SortSt.mk' general' (vs.toArray.zip vs.toArray) #[] 7 none)).map (·.2)=vs.toArray:=by
   show(vs.toArray.zip vs.toArray).map (·.2)=vs.toArray;apply Array.toList_inj.mp;simp only[Array.toList_map,Array.toList_zip];exact map_snd_zip (le_refl _)
  rw[hout];refine wpAny_bind (seqEpoch_at ho6 rfl (wpAny_bind (listUpdate_at ho6 rfl ?_ (zero_le _) (by rw[size_toArray];omega))));simp only[bne_self_eq_false,Bool.false_eq_true,if_false];refine wpAny_pure (done vs ⟨vs.zip ps,.refl _,?_,?_⟩)
  .have hz:(vs.zip ps).length<2:=by simp at h2 ⊢;omega
   cases hh:vs.zip ps with
   |nil=>exact .nil
   |cons z r=>
    cases r with
    |nil=>exact List.pairwise_singleton _ _
    |cons y t=>rw[hh]at hz;exact absurd hz (by simp)
  .rw[List.map_fst_zip (by omega)]
 .rw[if_neg h2,if_neg h2];have h2':2<=vs.length:=by simp at h2;omega
  obtain⟨fs,t1,t2,t3⟩:=JW hl pairs6;have tT:∀f∈fs,Looks (model prog w) hp6 (typeOf f) (Value.type "int"):=λf hf=>by
   obtain⟨i,t,rfl⟩:=t3 f hf;exact .of_pure rfl
  refine wpAny_bind (kat_kind (s:={ s with heap:=hp6 }) t1 (by omega) tT rfl ?_);have est:SortSt.mk' (tuples' true) (vs.toArray.zip vs.toArray) #[] 7 none=kas_st (tuples' true) (pairsOf vs) (List.toArray (List.range vs.length)):=by
   unfold kas_st;rw[<- pairsOf_size vs,kas_range];rfl
  have ask:(kas_sort vs.length).kasWp (kas_cmp prog w A (tuples' true) (pairsOf vs)) (λp s'=>s'={ s with heap:=hp6 }/\Ec vs ps (p.toList.map λi=>vs.getD i Value.none)) { s with heap:=hp6 }:=by
   rw[<- kas_ask_eq];refine PWp.wp (n:=vs.length) (r:=λi=>AV (ps.getD i (0,0))) (P:=λs'=>s'={ s with heap:=hp6 }) (λi j C s' hi hj e hC=>?_) ((NQ (by omega)).mono λp z s' e=>⟨e,Pq hl z.1 z.2⟩) rfl;subst e;have pi:ps[i]?=some (ps.getD i (0,0)):=by simp[show i<ps.length by omega]
   have pj:ps[j]?=some (ps.getD j (0,0)):=by simp[show j<ps.length by omega]
   have vi:vs[i]?=some (vs.getD i Value.none):=by simp[hi]
   have vj:vs[j]?=some (vs.getD j Value.none):=by simp[hj]
   exact Nn (s:={ s with heap:=hp6 }) (pairs6 i _ _ vi pi) (pairs6 j _ _ vj pj) (hok _ (mem_of_getElem? pi)) (hok _ (mem_of_getElem? pj)) (hC _ rfl)
  have run:=kas_runs (E:=E) (Q:=λ_ st' s'=>∃p:Array Nat,p.size=vs.length/\arrOf st'=p.map (kas_item (pairsOf vs))/\failedOf st'=none/\s'={ s with heap:=hp6 }/\Ec vs ps (p.toList.map λi=>vs.getD i Value.none)) h2' h64 (λp st' s' x1 x2 x3 x4=>⟨p,x1,x2,x3,x4⟩) ask;rw[<- est]at run;refine wpAny_bind (wpAny_mono run ?_ λ_ _ e=>e);rintro⟨⟨⟩,st'⟩ s' ⟨p,hsz,har,hf,rfl,so⟩;dsimp only;have hout:(arrOf st').map (·.2)=(p.toList.map λi=>vs.getD i Value.none).toArray:=by
   rw[har];apply Array.toList_inj.mp;simp only[Array.toList_map,map_map];exact map_congr_left λi _=>congrArg Prod.snd (kas_item_eq vs i)
  rw[hout];refine wpAny_bind (seqEpoch_at ho6 rfl (wpAny_bind (listUpdate_at ho6 rfl ?_ (zero_le _) (by simp[hsz];omega))));rw[hf];simp only[bne_self_eq_false,Bool.false_eq_true,if_false];exact wpAny_pure (done _ so)
end
def PairAt.keep{h h':Heap}{v:Value}{p:Int×Int}(k:∀b o,h.get? b=some o->h'.get? b=some o)(q:PairAt h v p):PairAt h' v p:=by
 obtain⟨x,o,t,u,n,e,ho,c,d⟩:=q;exact⟨x,o,t,u,n,e,k _ _ ho,c,d⟩
section
variable{prog:Program}{w:World}{A:Around}{E:Value->Shared->Prop}{s:Shared}
def Lb{l:Addr}{vs:List Value}{ps:List (Int×Int)}{Q:Value->Shared->Prop}(hl:s.heap.IsList l vs.toArray)(hlen:vs.length=ps.length)(h64:vs.length<64)(hok:∀p∈ps,pok p)
 (hp:∀(i:Nat) (v:Value) (p:Int×Int),vs[i]?=some v->ps[i]?=some p->PairAt s.heap v p)
 (h:∀out:List Value,Ec vs ps out->Q (.ref (s.heap.objs.size+1)) { s with heap:=sortedAll s.heap vs out.toArray }):
 wpAny (model prog w) A (call (.builtin "sorted") [.ref l]) Q E s:=by
 have line:vs.length<=sizeLine:=by rw[sizeLine_eq];omega
 refine Calls.call_function_entry kind_sorted plain_sorted entry_sorted (args_sorted1 _) ?_;unfold Builtin.«sorted»;refine wpAny_bind (m:=checkCount "sorted" 1 1 _) (wpAny_pure (wpAny_bind (collect_list hl (wpAny_bind (wpAny_newList ?_ line)) line)));have sz:((s.heap.push (seqObj "list" #[] 0)).update s.heap.objs.size (Obj.mapSeq (·++vs.toArray))).objs.size=s.heap.objs.size+1:=by rw[Heap.size_update,size_push']
 have at1:(((s.heap.push (seqObj "list" #[] 0)).update s.heap.objs.size (Obj.mapSeq (·++vs.toArray))).push (seqObj "list" vs.toArray 0)).get? (s.heap.objs.size+1)=some (seqObj "list" vs.toArray 0):=by
  have:=Heap.get?_push_size ((s.heap.push (seqObj "list" #[] 0)).update s.heap.objs.size (Obj.mapSeq (·++vs.toArray))) (o:=seqObj "list" vs.toArray 0) rfl
  rwa [sz]at this
 have old:∀b o,s.heap.get? b=some o->((((s.heap.push (seqObj "list" #[] 0)).update s.heap.objs.size (Obj.mapSeq (·++vs.toArray))).push (seqObj "list" vs.toArray 0)).update (s.heap.objs.size+1) (Obj.mapSeq λ_=>#[])).get? b=some o:=λb o e=>by
  have lt:=Heap.lt_size e;rw[Heap.get?_update_ne _ _ _ _ (ne_of_lt (lt_succ_of_lt lt)),Heap.get?_push_ne _ _ _ (by rw[sz];exact ne_of_lt (lt_succ_of_lt lt)),Heap.get?_update_ne _ _ _ _ (ne_of_lt lt),Heap.get?_push_ne _ _ _ (ne_of_lt lt)];exact e
 show wpAny _ _ _ _ _ { s with heap:=((s.heap.push (seqObj "list" #[] 0)).update s.heap.objs.size (Obj.mapSeq (·++vs.toArray))).push (seqObj "list" vs.toArray 0) };rw[sz];refine wpAny_bind (wpAny_holding (wpAny_call_entry slot_list_sort ⟨_,at1,rfl⟩ entry_list_sort (OQ at1 hlen h64 hok (λi v p a b=>(hp i v p a b).keep old) λout z=>⟨_,rfl,?_⟩) (args_list_sort _)));exact wpAny_pure ⟨_,rfl,h out z⟩
end
section
variable(K:PySem.W.Frag){X:Cx}
def IB:List V->Hp->VK->Prop:=λxs H Q=>∃(a:Addr) (us:List V) (ps:List (Int×Int)),xs=[.ref a]/\SqL K H a us/\us.length=ps.length/\us.length<64/\(∀q∈ps,pok q)/\
 (∀(i:Nat) (u:V) (q:Int×Int),us[i]?=some u->ps[i]?=some q->∃x,u=.ref x/\SqT K H x [.int q.1,.int q.2])/\
 ∀(p:Addr) (zs:List (V×(Int×Int))),H p=none->zs.Perm (us.zip ps)->(zs.map λz=>AV z.2).Pairwise (·<=·)->Q (.ref p) (upd H p (.lst (zs.map (·.1))))
def Fu:Value->V
 |.ref x=>.ref x
 |_=>.non
def Hx:∀{us:List V} {its:List Value} {i:Nat} {u:V},Vals us its->us[i]?=some u->∃v,its[i]?=some v/\RelV u v
 |_,_,_,_,.nil,h=>by simp at h
 |_::_,_::_,0,_,.cons r _,h=>by
  simp at h;subst h;exact⟨_,rfl,r⟩
 |_::_,_::_,i+1,_,.cons _ t,h=>Hx (i:=i) t (by simpa using h)
def Mn(hK:X.K=K:=by rfl):CallR X (.builtin "sorted") (IB K):=by
 subst hK;intro pins s σ H xs us0 Q I r h;obtain⟨a,us,ps,rfl,hq,hlen,h64,hok,hpr,q⟩:=h;obtain⟨u,rfl,ru⟩:=CT r;cases ru;obtain⟨its,rv,p,hz⟩:=I.list hq;have hl2:us.length=its.length:=rv.length;have point:∀(i:Nat) (v:Value) (q:Int×Int),its[i]?=some v->ps[i]?=some q->(∃x,us[i]?=some (.ref x)/\v=.ref x)/\PairAt s.heap v q:=by
  intro i v q e1 e2;have hi:i<us.length:=by rw[hl2];exact(List.getElem?_eq_some_iff.mp e1).1
  have eu:us[i]?=some us[i]:=by simp[hi]
  obtain⟨x,ex,sq⟩:=hpr i _ q eu e2;obtain⟨v',ev,rel⟩:=Hx rv eu;rw[e1]at ev;cases ev;rw[ex]at rel eu;have rel:v=Value.ref x:=rel;subst rel;refine⟨⟨x,eu,rfl⟩,?_⟩;obtain⟨jts,rj,⟨o,ho,hc,n,hd⟩,_⟩:=I.tuple sq;cases rj with
  |cons r1 t1=>
   cases t1 with
   |cons r2 t2=>
    cases t2;obtain⟨t,rfl⟩:=r1;obtain⟨t',rfl⟩:=r2;exact⟨x,o,t,t',n,rfl,ho,hc,hd⟩
 refine Lb (ps:=ps) p.isList (by omega) (by omega) hok (λi v q a b=>(point i v q a b).2) λout z=>?_;obtain⟨zs,pm,pw,rfl⟩:=z;obtain⟨e,he⟩:=sortedAll_at s.heap its (zs.map (·.1)).toArray;have mz:∀z∈zs,∃x,z.1=.ref x:=λz hz=>by
  have:=pm.mem_iff.mp hz;obtain⟨i,hi⟩:=mem_iff_getElem?.mp this;obtain⟨e1,e2⟩:=List.getElem?_zip_eq_some.mp hi;obtain⟨⟨x,_,ex⟩,_⟩:=point i _ _ e1 e2;exact⟨x,ex⟩
 have vz:∀{zs:List (Value×(Int×Int))},(∀z∈zs,∃x,z.1=.ref x)->Vals (zs.map λz=>Fu z.1) (zs.map (·.1)):=by
  intro zs
  induction zs with
  |nil=>intro _;exact .nil
  |cons z r ih=>
   intro h;obtain⟨x,ex⟩:=h z mem_cons_self;refine .cons ?_ (ih λy hy=>h y (mem_cons_of_mem _ hy));show RelV (Fu z.1) z.1;rw[ex];rfl
 have pm2:(zs.map λz=>(Fu z.1,z.2)).Perm (us.zip ps):=by
  have:=pm.map λz:Value×(Int×Int)=>(Fu z.1,z.2)
  have e:((its.zip ps).map λz:Value×(Int×Int)=>(Fu z.1,z.2))=us.zip ps:=by
   refine ext_getElem? λi=>?_;by_cases hi:i<us.length
   .have h1:i<its.length:=by omega
    have h2:i<ps.length:=by omega
    have e1:its[i]?=some its[i]:=by simp[h1]
    have e2:ps[i]?=some ps[i]:=by simp[h2]
    obtain⟨⟨x,ex,ev⟩,_⟩:=point i _ _ e1 e2;rw[List.getElem?_map,(List.getElem?_zip_eq_some (z:=(its[i],ps[i]))).mpr ⟨e1,e2⟩,(List.getElem?_zip_eq_some (z:=(V.ref x,ps[i]))).mpr ⟨ex,e2⟩,map_some,ev];rfl
   .rw[List.getElem?_eq_none (by simp;omega),List.getElem?_eq_none (by simp;omega)]
  rwa [e]at this
 have pw2:((zs.map λz=>(Fu z.1,z.2)).map λz:V×(Int×Int)=>AV z.2).Pairwise (·<=·):=by rw[map_map];exact pw
 have fin:=q (s.heap.objs.size+1) _ (I.hok.fresh (Nat.le_succ _)) pm2 pw2;have em:(zs.map λz=>(Fu z.1,z.2)).map (·.1)=zs.map λz=>Fu z.1:=by rw[map_map];rfl
 rw[em]at fin;have zl:zs.length<64:=by rw[pm.length_eq];simp;omega
 refine⟨.ref (s.heap.objs.size+1),_,I.laid (a:=s.heap.objs.size+1) (o:=.lst (zs.map λz=>Fu z.1)) (t':=s.toks) (λb o hb=>sortedAll_old hb) (Nat.le_succ _) ⟨?_,_,e,vz mz,he⟩,rfl,fin⟩;rw[length_map];exact le_of_lt (Pr (by omega))
end
def Ah(p:Int×Int):D:=.im (.tup [.int p.1,.int p.2])
def D0:List D->Option (List (Int×Int))
 |[]=>some []
 |.im (.tup [.int a,.int b])::r=>(D0 r).map ((a,b)::·)
 |_=>none
def Gs:∀{ds:List D} {ps:List (Int×Int)},D0 ds=some ps->ds=ps.map Ah:=by
 intro ds
 induction ds with
 |nil=>intro ps h;simp[D0]at h;subst h;rfl
 |cons d r ih=>
  intro ps h;unfold D0 at h;split at h
  .next e=>cases e
  .next a b r' e=>
   cases e;obtain⟨qs,e1,rfl⟩:=dM h;rw[ih e1];rfl
  .cases h
@[simp] theorem Om(ps:List (Int×Int)):D0 (ps.map Ah)=some ps:=by
 induction ps with
 |nil=>rfl
 |cons p r ih=>simp[D0,Ah]at ih ⊢;exact ih
def Aw(ps:List (Int×Int)):List (Int×Int):=ps.mergeSort λa b=>decide (AV a<=AV b)
def Fr(ps:List (Int×Int)):(Aw ps).Perm ps:=mergeSort_perm ..
def Lc(ps:List (Int×Int)):(Aw ps).Pairwise λa b=>AV a<=AV b:=by
 have:=pairwise_mergeSort (le:=λa b:Int×Int=>decide (AV a<=AV b)) (by intro a b c h1 h2;simp at *;omega) (by intro a b;simp;omega) ps;exact this.imp (by simp)
def T2{p q:Int×Int}(a:pok p)(b:pok q)(h:AV p=AV q):p=q:=by
 unfold pok at a b;unfold AV at h;exact Prod.ext (by omega) (by omega)
open Classical in
def Eo(m:MI):MA:=λls hd=>(m ls hd).bind λp=>(D0 p.1.1).bind λps=>if ps.length<64/\∀q∈ps,pok q then some ((Aw ps).map Ah,p.2)else none
section
variable{K:PySem.W.Frag}{ρ:List Addr}{H:Hp}{hd:Hd}
def NY{p:Int×Int}{v:V}(h:RD K ρ H (Ah p) v):∃x,v=.ref x/\SqT K H x [.int p.1,.int p.2]:=by
 simp only[Ah,RD,RI,RIs]at h;obtain⟨a,xs,rfl,q,x,r,rfl,rfl,y,r2,rfl,rfl,rfl⟩:=h;exact⟨a,rfl,q⟩
def Oa{t:TE}{m:MI}(h:RRw K false t m):RN K (tCB (IB K) (BD t C2)) (Eo m):=by
 and_intros;obtain⟨⟨⟨d1,g1⟩,h1⟩,e1,hm⟩:=dL hm;obtain⟨ps,e2,hm⟩:=dL hm;split at hm
 .next c=>
  cases hm;refine h ρ σ H hd ls _ d1 g1 _ hR hL e1 λρ1 H1 a x1 R1 G1 S1=>?_;obtain⟨xs,q,r⟩:=S1 ρ1 H1 _ .refl R1 G1;have e2:D0 d1=some ps:=e2;rw[Gs e2]at r;have hl:xs.length=ps.length:=by simpa using r.len
  have each:∀(i:Nat) (u:V) (q:Int×Int),xs[i]?=some u->ps[i]?=some q->RD K ρ1 H1 (Ah q) u:=λi u q a b=>by
   obtain⟨x,e,z⟩:=r.get (i:=i) (d:=Ah q) (by simp[b]);rw[a]at e;cases e;exact z
  refine⟨a,xs,ps,rfl,q,hl,by rw[hl];exact c.1,c.2,λi u q a b=>NY (each i u q a b),λp zs hp pm pw=>?_⟩;have es:zs.map (·.2)=Aw ps:=by
   have pp:(zs.map (·.2)).Perm ps:=by
    have:=pm.map (λz:V×(Int×Int)=>z.2)
    rwa [map_snd_zip (by omega)]at this
   refine(pp.trans (Fr ps).symm).eq_of_pairwise (le:=λa b=>AV a<=AV b) (λx y hx hy l1 l2=>T2 (c.2 _ (pp.mem_iff.mp hx)) (c.2 _ ((Fr ps).mem_iff.mp hy)) (Int.le_antisymm l1 l2)) ?_ (Lc ps);rw[pairwise_map]at pw ⊢;exact pw
  obtain⟨R2,x2⟩:=R1.hid (ho:=.lst (zs.map (·.1))) hp;have all:∀z∈zs,RD K ρ1 H1 (Ah z.2) z.1:=λz hz=>by
   obtain⟨i,hi⟩:=mem_iff_getElem?.mp (pm.mem_iff.mp hz);obtain⟨a1,a2⟩:=List.getElem?_zip_eq_some.mp hi;exact each i _ _ a1 a2
  have rd:∀{zs:List (V×(Int×Int))},(∀z∈zs,RD K ρ1 H1 (Ah z.2) z.1)->RDs K ρ1 H1 ((zs.map (·.2)).map Ah) (zs.map (·.1)):=by
   intro zs
   induction zs with
   |nil=>intro _;exact .nil
   |cons z r ih=>intro h;exact .cons (h z mem_cons_self) (ih λy hy=>h y (mem_cons_of_mem _ hy))
  have rz:=rd all;rw[es]at rz;exact hQ ρ1 _ p _ (x1.trans R1 x2) R2 (x1.none hR hp R1) (R1.out hp) AK (rz.ext R1 x2)
 .cases hm
open Classical in
def Fg:D->List D->Hd->Option (D×Hd)
 |.mu n,[.im (.int i)],hd=>match hd[n]? with
  |some (.lst ds)=>if Ft i then(ixN ds.length i).bind λk=>(ds[k]?).map λy=>(y,hd.set n (.lst (ds.eraseIdx k)))else none
  |_=>none
 |_,_,_=>none
def RDs.erase:∀{ds:List D} {xs:List V} (k:Nat),RDs K ρ H ds xs->RDs K ρ H (ds.eraseIdx k) (xs.eraseIdx k)
 |[],_,_,h=>by simp only[RDs]at h;subst h;simp[RDs]
 |d::ds,_,0,h=>by simp only[RDs]at h;obtain⟨x,r,rfl,_,t⟩:=h;simpa using t
 |d::ds,_,k+1,h=>by
  simp only[RDs]at h;obtain⟨x,r,rfl,a,t⟩:=h;simpa using RDs.cons a (RDs.erase k t)
end
def SO{K:PySem.W.Frag}:RM K QJ Fg:=by
 intro ρ H hd d v ds vs Q z hd' hR h1 h2 hf hQ;unfold Fg at hf;split at hf
 .split at hf
  .next q=>
   split at hf
   .next c=>
    obtain⟨k,e0,hf⟩:=dL hf;obtain⟨y,e1,e3⟩:=dM hf;cases e3;simp only[RD]at h1;obtain⟨a,hn,rfl⟩:=h1;simp only[RDs,RD,RI]at h2;obtain⟨x,r,rfl,rfl,rfl⟩:=h2;obtain⟨xs,f1,f2⟩:=hR.lst hn q;obtain⟨x,x1,x3⟩:=f2.get e1;obtain⟨R2,x2⟩:=hR.put hn (o:=.lst _) (ho:=.lst (xs.eraseIdx k)) ⟨_,rfl,f2.erase k⟩;obtain⟨s1,s2,s3,s4⟩:=Jx e0;have sz:=f2.len;unfold Ft at c;exact⟨a,xs,_,k,x,rfl,rfl,f1,by omega,by omega,by rw[sz];exact s1,x1,hQ ρ _ _ x2 R2 (x3.ext hR x2)⟩
   .cases hf
  .cases hf
 .cases hf
section
variable(K:PySem.W.Frag){X:Cx}{e:Expr}{te:TE}{p pos:Pos}
def Oh{mi:MI}(hm:X.mg "sorted"=none)(ha:QR K false X e te mi)(hg:Gl X "sorted":=by rfl)(he:starEach [e] X.env=[(false,eval e X.env)]:=by rfl)(hK:X.K=K:=by rfl):QN K X (.Call (.Name "sorted" p) [e] [] pos) (tCB (IB K) (BD te C2)) (Eo mi):=
 ⟨ID (Mn K hK) hg hm Kj (Bz ha.p D1 he) (by decide) (by decide) he rfl,Oa ha.r⟩
end
section
variable{ls:Ls}{hd:Hd}
open Classical in
@[simp] theorem Tm(k:Nat)(i:Int):Fg (.mu k) [.im (.int i)] hd=match hd[k]? with
 |some (.lst ds)=>if Ft i then(ixN ds.length i).bind λj=>(ds[j]?).map λy=>(y,hd.set k (.lst (ds.eraseIdx j)))else none
 |_=>none:=rfl
open Classical in
@[simp] theorem ae(mi:MI):Eo mi ls hd=(mi ls hd).bind λp=>(D0 p.1.1).bind λps=>if ps.length<64/\∀q∈ps,pok q then some ((Aw ps).map Ah,p.2)else none:=rfl
end
def Gu(p:Int×Int):I:=.tup [.int p.1,.int p.2]
end L2
namespace L2
open PySem PySem.Spec PyProof.Rows
def WP{α:Type}(o:Option (α×Hd))(Q:α->Hd->Prop):Prop:=∃z h,o=some (z,h)/\Q z h
abbrev WS(m:MS)(ls:Ls)(hd:Hd)(Q:Fl->Hd->Prop):Prop:=WP (m ls hd) Q
abbrev WE(m:ME)(ls:Ls)(hd:Hd)(Q:D->Hd->Prop):Prop:=WP (m ls hd) Q
abbrev WT(m:MT)(ls:Ls)(hd:Hd)(Q:Bool->Hd->Prop):Prop:=WP (m ls hd) Q
abbrev WA(m:MA)(ls:Ls)(hd:Hd)(Q:List D->Hd->Prop):Prop:=WP (m ls hd) Q
abbrev WO(m:MO1)(ls:Ls)(hd:Hd)(Q:Option Int->Hd->Prop):Prop:=WP (m ls hd) Q
abbrev WI(m:MI)(ls:Ls)(hd:Hd)(Q:List D×Gd->Hd->Prop):Prop:=WP (m ls hd) Q
abbrev WF(F:List D->Hd->Option (D×Hd))(ds:List D)(hd:Hd)(Q:D->Hd->Prop):Prop:=WP (F ds hd) Q
section
variable{α β:Type}{o:Option (α×Hd)}{Q:α->Hd->Prop}{R:β->Hd->Prop}{ls:Ls}{hd:Hd}{d e:D}
def WP.some{z:α}{h:Hd}(q:Q z h):WP (some (z,h)) Q:=⟨z,h,rfl,q⟩
def WP.mono{Q':α->Hd->Prop}(h:WP o Q)(k:∀z h,Q z h->Q' z h):WP o Q':=let ⟨z,x,e,q⟩:=h;⟨z,x,e,k z x q⟩
def WP.bind{f:α×Hd->Option (β×Hd)}(h:WP o λz x=>WP (f (z,x)) R):WP (o.bind f) R:=by
 obtain⟨z,x,e,q⟩:=h;rw[e];exact q
def WP.eq{z:α}{h:Hd}(e:o=Option.some (z,h))(q:Q z h):WP o Q:=⟨z,h,e,q⟩
end
section
variable{ls:Ls}{hd:Hd}{a b:MS}{ma mb mc:ME}{ta tb:MT}{m m1 m2:MA}{n:MG}{ns:MGs}{mi:MI}{d e:D}{i j:Nat}{QS:Fl->Hd->Prop}{QE:D->Hd->Prop}{QT:Bool->Hd->Prop}{QA:List D->Hd->Prop}{QO:Option Int->Hd->Prop}{QI:List D×Gd->Hd->Prop}
def OE(b:MS)(Q:Fl->Hd->Prop):Fl->Hd->Prop
 |.nx l,h=>WS b l h Q
 |f,h=>Q f h
def AC(h:WS a ls hd (OE b QS)):WS (AA a b) ls hd QS:=by
 obtain⟨f,x,e,q⟩:=h;show WP (AA a b ls hd) QS;rw[Me,e];cases f<;>first|exact q|exact⟨_,_,rfl,q⟩
def A6{l:Ls}{h:Hd}(q:WS b l h QS):OE b QS (.nx l) h:=q
def Ro{h:Hd}(q:QS (.rt d) h):OE b QS (.rt d) h:=q
def AY(h:QS (.nx ls) hd):WS AT ls hd QS:=⟨_,_,rfl,h⟩
def AU(h:WE ma ls hd λd x=>QS (.rt d) x):WS (AM ma) ls hd QS:=WP.bind (h.mono λ_ _ q=>WP.some q)
def AL(h:WE ma ls hd λd x=>QS (.nx (ls.set i (some d))) x):WS (AI i ma) ls hd QS:=by
 obtain⟨d,x,e,q⟩:=h;exact⟨_,_,by simp only[JL,e,bind_some,K1,map_some],q⟩
def Pe(h:WE ma ls hd λd x=>∃l,n d ls x=some l/\QS (.nx l) x):WS (IL ma n) ls hd QS:=by
 obtain⟨d,x,e,l,e2,q⟩:=h;exact⟨_,_,by simp only[JL,e,bind_some,e2,map_some],q⟩
def Bx(h:WE ma ls hd λ_ x=>QS (.nx ls) x):WS (C5 ma) ls hd QS:=WP.bind (h.mono λ_ _ q=>WP.some q)
def Zl(h:WT ta ls hd λc x=>if c=true then WS a ls x QS else WS b ls x QS):WS (Ae ta a b) ls hd QS:=by
 refine WP.bind (h.mono λc x q=>?_);dsimp only;cases c<;>simpa using q
def Am(h:WT ta ls hd λc x=>(c=true->WS a ls x QS)/\(c=false->WS b ls x QS)):WS (Ae ta a b) ls hd QS:=
 Zl (h.mono λc x q=>by cases c<;>simp_all)
def X3{ix:List Nat}(h:WA m ls hd λds x=>ds.length=ix.length/\QS (.nx ((ix.zip ds).foldl (λl q=>l.set q.1 (some q.2)) ls)) x):WS (Ov ix m) ls hd QS:=by
 obtain⟨d,x,e,q,q2⟩:=h;exact⟨_,_,by simp only[ZP,e,bind_some,q,if_true],q2⟩
def WL(n:MG)(b:MS)(g:Gd)(ds:List D)(ls:Ls)(hd:Hd)(Q:Fl->Hd->Prop):Prop:=WP (Ax n b g ds ls hd) Q
def BX(h:WI mi ls hd λp x=>WL n b p.2 p.1 ls x QS):WS (BS mi n b) ls hd QS:=WP.bind (h.mono λ_ _ q=>q)
def Zo(g:Gd)(P:Ls->Hd->Prop)(Q:Fl->Hd->Prop):Fl->Hd->Prop
 |.nx l,h=>GOk h g/\P l h
 |.ct l,h=>GOk h g/\P l h
 |.bk l,h=>Q (.nx l) h
 |.rt d,h=>Q (.rt d) h
def B9{g:Gd}(P:List D->Ls->Hd->Prop):∀{ds:List D} {ls:Ls} {hd:Hd},P ds ls hd ->
 (∀d r ls hd,P (d::r) ls hd->∃ls1,n d ls hd=some ls1/\WS b ls1 hd (Zo g (P r) QS))->(∀ls hd,P [] ls hd->QS (.nx ls) hd)->WL n b g ds ls hd QS
 |[],ls,hd,h,_,z=>⟨_,_,by unfold Ax;rfl,z _ _ h⟩
 |d::r,ls,hd,h,k,z=>by
  obtain⟨ls1,e1,f,x,e2,q⟩:=k d r ls hd h;unfold WL;unfold Ax;rw[e1,bind_some,e2,bind_some];cases f with
  |nx l=>exact(show GOk x g/\P r l x from q).1 |> λg1=>by dsimp only;rw[if_pos g1];exact B9 P q.2 k z
  |ct l=>exact(show GOk x g/\P r l x from q).1 |> λg1=>by dsimp only;rw[if_pos g1];exact B9 P q.2 k z
  |bk l=>exact⟨_,_,rfl,q⟩
  |rt l=>exact⟨_,_,rfl,q⟩
def A1(h:ls[i]?=some (some d))(q:QE d hd):WE (A0 i) ls hd QE:=⟨d,hd,by rw[JK,h],q⟩
def AG{i:I}(q:QE (.im i) hd):WE (mC i) ls hd QE:=⟨_,_,rfl,q⟩
def A7{f:D->D->Hd->Option (D×Hd)}(h:WE ma ls hd λd x=>WE mb ls x λe y=>WP (f d e y) QE):WE (mOp f ma mb) ls hd QE:=WP.bind (h.mono λ_ _ q=>WP.bind (q.mono λ_ _ q=>q))
def U5(h:WT ta ls hd λc x=>if c=true then WE ma ls x QE else WE mb ls x QE):WE (mIf ta ma mb) ls hd QE:=by
 refine WP.bind (h.mono λc x q=>?_);dsimp only;cases c<;>simpa using q
def XA(h:WT ta ls hd λc x=>(c=true->WE ma ls x QE)/\(c=false->WE mb ls x QE)):WE (mIf ta ma mb) ls hd QE:=
 U5 (h.mono λc x q=>by cases c<;>simp_all)
def Br(h:WA m ls hd λds x=>Bl ds.length/\QE (AX ds) x):WE (CO m) ls hd QE:=WP.bind (h.mono λds x q=>by dsimp only;rw[if_pos q.1];exact WP.some q.2)
def Bs(h:WA m ls hd λds x=>QE (.mu x.length) (x++[.lst ds])):WE (B8 m) ls hd QE:=WP.bind (h.mono λ_ _ q=>WP.some q)
def Cz{g:List D->Option D}(h:WA m ls hd λds x=>∃d,g ds=some d/\QE d x):WE (BN g m) ls hd QE:=by
 obtain⟨ds,x,e,d,e2,q⟩:=h;exact⟨d,x,by simp only[Qv,e,bind_some,e2,map_some],q⟩
def Ga(h:WA m ls hd λds x=>WE ma ls x λe y=>∃i d,e=.im (.int i)/\atI ds i=some d/\QE d y):WE (G5 m ma) ls hd QE:=by
 obtain⟨ds,x,e,d,y,e2,i,z,rfl,e4,q⟩:=h;exact⟨z,y,by simp only[ZT,e,bind_some,e2,e4,map_some],q⟩
def BK{f:List D->Hd->Option (D×Hd)}(h:WA m ls hd λds x=>WP (f ds x) QE):WE (mCB f m) ls hd QE:=WP.bind (h.mono λ_ _ q=>q)
def HM{f:D->List D->Hd->Option (D×Hd)}(h:WE ma ls hd λd x=>(∃l,B6 x d=some l)/\WA m ls x λds y=>WP (f d ds y) QE):WE (mMt f ma m) ls hd QE:=by
 obtain⟨d,x,e,⟨l,hl⟩,q⟩:=h;unfold WE;rw[ag,e,bind_some];dsimp only;rw[hl];exact WP.bind (q.mono λ_ _ q=>q)
def Fp{F:List D->Hd->Option (D×Hd)}(h:WA m ls hd λds x=>WF F ds x QE):WE (DS F m) ls hd QE:=WP.bind (h.mono λ_ _ q=>q)
def LU(h:WE ma ls hd λd x=>∃i,d=.im (.int i)/\QE (.im (.int (-i))) x):WE (IK ma) ls hd QE:=by
 obtain⟨d,x,e,i,rfl,q⟩:=h;exact⟨_,x,by simp only[ZS,e,bind_some],q⟩
def DG(h:WT (AE ma) ls hd λc x=>if c=true then WE mb ls x QE else QE (.im (.bl false)) x):WE (DT ma mb) ls hd QE:=by
 refine WP.bind (h.mono λc x q=>?_);dsimp only;cases c
 .exact WP.some (by simpa using q)
 .simpa using q
def X8(h:WT (AE ma) ls hd λc x=>if c=true then QE (.im (.bl true)) x else WE mb ls x QE):WE (Js ma mb) ls hd QE:=by
 refine WP.bind (h.mono λc x q=>?_);dsimp only;cases c
 .simpa using q
 .exact WP.some (by simpa using q)
def NJ(h:WT (AE ma) ls hd λc x=>QE (.im (.bl (!c))) x):WE (HY ma) ls hd QE:=WP.bind (h.mono λ_ _ q=>WP.some q)
def AQ(h:WE ma ls hd λd x=>∃b,d=.im (.bl b)/\QT b x):WT (AE ma) ls hd QT:=by
 obtain⟨d,x,e,b,rfl,q⟩:=h;exact⟨b,x,by simp only[Nx,e,bind_some],q⟩
def B3(h:WE ma ls hd λd x=>∃b,EE x d=some b/\QT b x):WT (BM ma) ls hd QT:=by
 obtain⟨d,x,e,b,e2,q⟩:=h;exact⟨b,x,by simp only[ZN,e,bind_some,e2,map_some],q⟩
def BW(h:WT ta ls hd λc x=>QT (!c) x):WT (CP ta) ls hd QT:=WP.bind (h.mono λ_ _ q=>WP.some q)
def FU(h:WT ta ls hd λc x=>if c=true then WT tb ls x QT else QT false x):WT (EJ ta tb) ls hd QT:=by
 refine WP.bind (h.mono λc x q=>?_);dsimp only;cases c
 .exact WP.some (by simpa using q)
 .simpa using q
def Ex(h:WT ta ls hd λc x=>if c=true then QT true x else WT tb ls x QT):WT (mOr ta tb) ls hd QT:=by
 refine WP.bind (h.mono λc x q=>?_);dsimp only;cases c
 .simpa using q
 .exact WP.some (by simpa using q)
def CF(h:QT true hd):WT Bt ls hd QT:=⟨_,_,rfl,h⟩
def A5(h:QA [] hd):WA A4 ls hd QA:=⟨_,_,rfl,h⟩
def A3(h:WE ma ls hd λd x=>WA m ls x λds y=>QA (d::ds) y):WA (A2 ma m) ls hd QA:=WP.bind (h.mono λ_ _ q=>WP.bind (q.mono λ_ _ q=>WP.some q))
def By(h:WA m ls hd λds x=>Bl ds.length/\QA ds x):WA (C4 m) ls hd QA:=WP.bind (h.mono λds x q=>by dsimp only;rw[if_pos q.1];exact WP.some q.2)
def Uj{k:Int}(e:m ls hd=some ([.im (.int k)],hd))(hk:LG k)(q:QA (AW 0 k.toNat) hd):WA (Gy m) ls hd QA:=⟨_,_,by simp only[ZO,e,bind_some,hk,if_true],q⟩
def Zm(h:QO none hd):WO Dk ls hd QO:=⟨_,_,rfl,h⟩
def Ug(h:WE ma ls hd λd x=>∃i,d=.im (.int i)/\QO (some i) x):WO (G4 ma) ls hd QO:=by
 obtain⟨d,x,e,i,rfl,q⟩:=h;exact⟨_,x,by simp only[Wp,e,bind_some],q⟩
def Hw(h:WA m ls hd λds x=>∃k,ds=[.im (.int k)]/\Ft k/\QI (AW 0 k.toNat,[]) x):WI (DQ m) ls hd QI:=by
 obtain⟨ds,x,e,k,rfl,c,q⟩:=h;exact⟨_,x,by simp only[ZU,e,bind_some,c,if_true],q⟩
def U4(h:WA m ls hd λds x=>∃j k,ds=[.im (.int j),.im (.int k)]/\OZ j k/\QI (AW j (k-j).toNat,[]) x):WI (Ha m) ls hd QI:=by
 obtain⟨ds,x,e,j,k,rfl,c,q⟩:=h;exact⟨_,x,by simp only[Ws,e,bind_some,c,if_true],q⟩
def BZ(h:WE ma ls hd λd x=>∃ds,AZ d=some ds/\QI (ds,[]) x):WI (Al ma) ls hd QI:=by
 obtain⟨d,x,e,ds,e2,q⟩:=h;exact⟨_,x,by simp only[Mf,e,bind_some,e2,map_some],q⟩
def b7(h:WA m ls hd λds x=>QI (ds,[]) x):WI (Z8 m) ls hd QI:=by
 obtain⟨ds,x,e,q⟩:=h;exact⟨_,x,by simp only[ZW,e,map_some],q⟩
def LS(h:WE ma ls hd λd x=>∃k ds,d=.mu k/\x[k]?=some (.lst ds)/\QI (ds,[(k,ds)]) x):WI (Dm ma) ls hd QI:=by
 obtain⟨d,x,e,k,ds,rfl,e2,q⟩:=h;exact⟨_,x,by simp only[ZV,e,bind_some,e2],q⟩
def B4{k:Nat}{ix:List Nat}(h:WI mi ls hd λp x=>Bl p.1.length/\WP (Au n ta ma p.2 p.1 (DZ k ix ls) x) QA):WA (Ao k ix mi n ta ma) ls hd QA:=WP.bind (h.mono λp x q=>by dsimp only;rw[if_pos q.1];exact q.2)
def BY{i j:Int}(q:QE (.im (.int (i+j))) hd):WP (Ap (.im (.int i)) (.im (.int j)) hd) QE:=⟨_,_,by simp,q⟩
def DJ{i j:Int}(q:QE (.im (.int (i-j))) hd):WP (Cn (.im (.int i)) (.im (.int j)) hd) QE:=⟨_,_,by simp,q⟩
def IY{i j:Int}(c:Du i j)(q:QE (.im (.int (i*j))) hd):WP (Cw (.im (.int i)) (.im (.int j)) hd) QE:=⟨_,_,by simp[c],q⟩
def X4{i j:Int}(c:CU j)(q:QE (.im (.int (i%j))) hd):WP (Ep (.im (.int i)) (.im (.int j)) hd) QE:=⟨_,_,by simp[c],q⟩
def NG{i j:Int}(c:Hh j)(q:QE (.im (.int (i/j))) hd):WP (F7 (.im (.int i)) (.im (.int j)) hd) QE:=⟨_,_,by simp[c],q⟩
def Fm{i j:Int}(q:QE (.im (.bl (decide (i<j)))) hd):WP (gLt (.im (.int i)) (.im (.int j)) hd) QE:=⟨_,_,by simp,q⟩
def HL{i j:Int}(q:QE (.im (.bl (decide (i<=j)))) hd):WP (gLe (.im (.int i)) (.im (.int j)) hd) QE:=⟨_,_,by simp,q⟩
def IZ{i j:Int}(q:QE (.im (.bl (decide (j<i)))) hd):WP (gGt (.im (.int i)) (.im (.int j)) hd) QE:=⟨_,_,by simp,q⟩
def U3{i j:Int}(q:QE (.im (.bl (decide (j<=i)))) hd):WP (gGe (.im (.int i)) (.im (.int j)) hd) QE:=⟨_,_,by simp,q⟩
def CY{i j:Int}(q:QE (.im (.bl (decide (i=j)))) hd):WP (gEq (.im (.int i)) (.im (.int j)) hd) QE:=⟨_,_,by simp,q⟩
def LQ{i j:Int}(q:QE (.im (.bl (!decide (i=j)))) hd):WP (gNe (.im (.int i)) (.im (.int j)) hd) QE:=⟨_,_,by simp,q⟩
def X6{i j:Str}(q:QE (.im (.bl (decide (i=j)))) hd):WP (gEq (.im (.str i)) (.im (.str j)) hd) QE:=⟨_,_,by simp,q⟩
def Pf{i j:Str}(q:QE (.im (.bl (!decide (i=j)))) hd):WP (gNe (.im (.str i)) (.im (.str j)) hd) QE:=⟨_,_,by simp,q⟩
def AR{i:Int}{ds:List D}(e1:Az hd d=some ds)(e2:atI ds i=some e)(q:QE e hd):WP (gIx d (.im (.int i)) hd) QE:=⟨_,_,by rw[ah,e1,bind_some,e2];rfl,q⟩
def JT{i j:Int}(q:QE (.im (.int (max i j))) hd):WP (GD [.im (.int i),.im (.int j)] hd) QE:=⟨_,_,rfl,by have:(if j>i then j else i)=max i j:=(by split<;>omega);rw[this];exact q⟩
def Ud{i j:Int}(q:QE (.im (.int (min i j))) hd):WP (UV [.im (.int i),.im (.int j)] hd) QE:=⟨_,_,rfl,by have:(if j<i then j else i)=min i j:=(by split<;>omega);rw[this];exact q⟩
def Bq{tp:Bool}{g:List D->Option D}{ds:List D}{z:D}(e1:(if tp then Az hd d else B6 hd d)=some ds)(e2:g ds=some z)(q:QE z hd):WP (f1 tp g [d] hd) QE:=⟨_,_,by rw[UW,e1,bind_some,e2];rfl,q⟩
def Ed{k:Nat}{x:D}{ds:List D}(e1:hd[k]?=some (.lst ds))(c:GC ds.length)(q:QE (.im .non) (hd.set k (.lst (ds++[x])))):WP (BB (.mu k) [x] hd) QE:=⟨_,_,by rw[Za,e1];simp only[c,if_true],q⟩
def HK(h:WE mc ls hd λp x=>WE ma ls x λq y=>WE mb ls y λr z=>∃w i j ds,q=.mu w/\r=.im (.int i)/\z[w]?=some (.lst ds)/\ixN ds.length i=some j/\QS (.nx ls) (z.set w (.lst (ds.set j p)))):WS (DP ma mb mc) ls hd QS:=by
 obtain⟨p,x,e1,q,y,e2,r,z,e3,w,i,j,ds,rfl,rfl,e5,c,qq⟩:=h;exact⟨_,_,by simp only[Wr,e1,bind_some,e2,e3,e5,c,map_some],qq⟩
def Ag{k n:Nat}{m:MS}{ds:List D}{Q:D->Hd->Prop}(hl:ds.length=k)(h:WS m (ds.map some++List.replicate (n-k) none) hd λf x=>match f with
 |.rt d=>Q d x
 |.nx _=>Q (.im .non) x
 | _=>False):WF (mkF k n m) ds hd Q:=by
 obtain⟨f,x,e,q⟩:=h;unfold WF mkF;rw[if_pos hl,e];cases f with
 |nx l=>exact⟨_,_,rfl,q⟩
 |rt l=>exact⟨_,_,rfl,q⟩
 |bk l=>exact q.elim
 |ct l=>exact q.elim
def AF{F:List D->Hd->Option (D×Hd)}(h:WA m ls hd λds x=>B2 0 ds=true/\WF F ds [] λd _=>∃i,d=.im i/\QE (.im i) x):WE (A8 0 F m) ls hd QE:=by
 obtain⟨ds,x,e,c,d,y,e2,i,rfl,q⟩:=h;exact⟨_,_,FB e c e2,q⟩
end
structure Tap(T:Nat->MO->MO->Prop)(P:List D->Hd->Option (D×Hd)):Prop where
 cl:∀{k:Nat} {a b:MO},T k a b->clO 2 a=true/\clO 2 b=true
 le:∀{j k:Nat} {a b:MO},T k a b->j<=k->T j a b
 pick:∀{k:Nat} {a b:MO} {many:Int},T (k+1) a b->0<many->many<1073741824->∃r a' b',0<=r/\r<many/\P [.mu 1,.im (.int many)] [a,b]=some (.im (.int r),[a',b'])/\T k a' b'
section
variable{T:Nat->MO->MO->Prop}{P:List D->Hd->Option (D×Hd)}{a b:MO}{rest:Hd}{ls:Ls}{m:MA}{QE:D->Hd->Prop}{n c:Nat}
def Tap.draw(t:Tap T P)(hT:T (n+1) a b){many:Int}{hd:Hd}(e:m ls hd=some ([.mu 1,.im (.int many)],a::b::rest))(h0:0<many)(h1:many<1073741824)
 (k:∀r a' b',T n a' b'->0<=r->r<many->QE (.im (.int r)) (a'::b'::rest)):WE (A8 2 P m) ls hd QE:=by
 obtain⟨r,a',b',p1,p2,e2,hT'⟩:=t.pick hT h0 h1;refine⟨_,_,Mq (w:=2) (ds:=[.mu 1,.im (.int many)]) (pre:=[a,b]) (pre':=[a',b']) (rest:=rest) (g:=[]) rfl rfl e (by simp) ?_ ?_ (by simpa using e2),k r a' b' hT' p1 p2⟩
 .simp[t.cl hT]
 .simp[t.cl hT']
end
section
variable{K:PySem.W.Frag}{ρ ρ':List Addr}{H H':Hp}{hd hd':Hd}
def aY:ME:=λ_ hd=>some (.mu hd.length,hd++[.dic []])
def Ui{ls:Ls}{Q:D->Hd->Prop}(q:Q (.mu hd.length) (hd++[.dic []])):WE aY ls hd Q:=⟨_,_,rfl,q⟩
end
mutual
def Ml{v w:Nat}(h:v<=w):∀{d:D},clD v d=true->clD w d=true
 |.im i,_=>by simp
 |.mu n,c=>by simp at c ⊢;omega
 |.tm ds,c=>by rw[clD]at c ⊢;exact HI h c
 |.ro ns,_=>by rw[clD]
def HI{v w:Nat}(h:v<=w):∀{ds:List D},B2 v ds=true->B2 w ds=true
 |[],_=>by simp
 |d::ds,c=>by
  simp only[RO,Bool.and_eq_true]at c ⊢;exact⟨Ml h c.1,HI h c.2⟩
end
def Kb{v w:Nat}(h:v<=w):∀{ds:List (Key×D)},FO v ds=true->FO w ds=true
 |[],_=>by simp[FO]
 |d::ds,c=>by
  simp only[FO,Bool.and_eq_true]at c ⊢;exact⟨Ml h c.1,Kb h c.2⟩
def Tv{v w:Nat}(h:v<=w){o:MO}(c:clO v o=true):clO w o=true:=by
 cases o with
 |lst ds=>exact HI h c
 |dic ds=>exact Kb h c
section
variable{T:Nat->MO->MO->Prop}{P:List D->Hd->Option (D×Hd)}{a b:MO}{rest:Hd}{ls:Ls}{m:MA}{QE:D->Hd->Prop}
def Tap.callX(t:Tap T P){n c:Nat}(hT:T (n+c) a b)(ex:Hd){w:Nat}{F:List D->Hd->Option (D×Hd)}{as:List D}{hd:Hd}{R:I->Prop}(e:m ls hd=some (.mu 1::as,a::b::(ex++rest)))(hw:w=ex.length+2)(ha:B2 w as=true)(hx:ex.all (clO w)=true)
 (hF:∀a b,T (n+c) a b->WF F (.mu 1::as) (a::b::ex) λd x=>∃i a' b' g,d=.im i/\R i/\T n a' b'/\x=a'::b'::(ex++g))
 (k:∀i a' b',T n a' b'->R i->QE (.im i) (a'::b'::(ex++rest))):WE (A8 w F m) ls hd QE:=by
 subst hw;have hcl:∀o,clO 2 o=true->clO (ex.length+2) o=true:=λo h=>Tv (by omega) h;obtain⟨d,x,e2,i,a',b',g,rfl,hR,hT',rfl⟩:=hF a b hT;refine⟨_,_,Mq (w:=ex.length+2) (ds:=.mu 1::as) (pre:=a::b::ex) (pre':=a'::b'::ex) (rest:=rest) (g:=g) rfl rfl e (by simp[ha]) ?_ ?_ e2,k i a' b' hT' hR⟩
 .simp[hcl _ (t.cl hT).1,hcl _ (t.cl hT).2];simpa using hx
 .simp[hcl _ (t.cl hT').1,hcl _ (t.cl hT').2];simpa using hx
def Tap.call(t:Tap T P){n c:Nat}(hT:T (n+c) a b){F:List D->Hd->Option (D×Hd)}{as:List D}{hd:Hd}{R:I->Prop}(e:m ls hd=some (.mu 1::as,a::b::rest))(ha:B2 2 as=true)
 (hF:∀a b,T (n+c) a b->WF F (.mu 1::as) [a,b] λd x=>∃i a' b' g,d=.im i/\R i/\T n a' b'/\x=a'::b'::g)
 (k:∀i a' b',T n a' b'->R i->QE (.im i) (a'::b'::rest)):WE (A8 2 F m) ls hd QE:=
 t.callX hT [] (w:=2) e rfl ha rfl hF k
end
end L2
namespace L2
open PySem PySem.Spec PyProof.Rows
section
variable{ls:Ls}{hd:Hd}{b:MS}{c:MT}{Q:Fl->Hd->Prop}{QE:D->Hd->Prop}
def Re{k j:Nat}{i:Int}{ds:List D}{z:D}(e1:hd[k]?=some (.lst ds))(hr:Ft i)(e2:ixN ds.length i=some j)(e3:ds[j]?=some z)(q:QE z (hd.set k (.lst (ds.eraseIdx j)))):WP (Fg (.mu k) [.im (.int i)] hd) QE:=⟨_,_,by rw[Tm,e1];simp[hr,e2,e3],q⟩
end
end L2
namespace Bd
open PySem L2
@[reducible] def dG:MS:=(AA (AI 2 (mC (.int 0)))
 (AA (BS (Al (A0 0)) (B0 2 (AH (AD 3) (AH (AD 4) B1)))
  (AA (Ae (AE (mOp gGt (A0 3) (A0 1)))
  (AM (A0 2))
  AT)
 (AI 2 (A0 4))))
 (AM (A0 2))))
def dC:List D->Hd->Option (D×Hd):=mkF 2 5 dG
@[reducible] def dH:MS:=(AA (AI 2 (mOp gIx (A0 0) (mC (.int 0))))
 (AA (Ae (AE (mOp gEq (A0 2) (mC (.str "steps"))))
  (AM (A8 0 dC (A2 (mOp gIx (A0 0) (mC (.int 1))) (A2 (A0 1) A4))))
  AT)
 (AA (Ae (AE (mOp gEq (A0 2) (mC (.str "ends"))))
  (AM (mOp Cw (mOp gIx (A0 0) (mC (.int 1))) (A0 1)))
  AT)
 (AA (AI 3 (mOp Cn (A0 1) (mOp gIx (A0 0) (mC (.int 1)))))
 (AA (Ae (AE (mOp gEq (A0 2) (mC (.str "late"))))
  (AM (A0 3))
  AT)
 (AA (Ae (AE (mOp gLe (A0 3) (mC (.int 0))))
  (AM (mC (.int 0)))
  AT)
 (AA (Ae (AE (mOp gEq (A0 2) (mC (.str "tardy"))))
  (AM (mOp Cw (mOp gIx (A0 0) (mC (.int 2))) (A0 3)))
  AT)
 (AM (mOp gIx (A0 0) (mC (.int 2)))))))))))
def HR:List D->Hd->Option (D×Hd):=mkF 2 4 dH
@[reducible] def dE:MS:=(AM (BN BR (Ao 2 [] (FG (Al (A0 0)) (Al (A0 1))) (B0 2 (AH (AD 0) (AH (AD 1) B1))) Bt (A8 0 HR (A2 (mOp gIx (A0 0) (mC (.int 2))) (A2 (A0 1) A4))))))
def dD:List D->Hd->Option (D×Hd):=mkF 2 2 dE
@[reducible] def dI:MS:=(AA (AI 3 (A8 0 dD (A2 (A0 0) (A2 (A0 1) A4))))
 (AA (Ae (AE (mOp gEq (A0 2) (mC (.str "greatest"))))
  (AM (mCB (f1 true IM) (A2 (A0 3) A4)))
  AT)
 (AM (mCB (f1 true FJ) (A2 (A0 3) A4)))))
def F_worth:List D->Hd->Option (D×Hd):=mkF 3 4 dI
@[reducible] def dF:MS:=(AA (AI 2 (B8 (Ao 1 [] (Al (A0 0)) (AD 0) Bt (mC (.int 0)))))
 (AA (BS (Al (A0 1)) (B0 3 (AH (AD 3) (AH (AD 4) (AH (AD 5) B1))))
  (DP (A0 2) (A0 3) (A0 5)))
 (AM (mCB (f1 true BR) (A2 (A0 2) A4)))))
def F_ends_of:List D->Hd->Option (D×Hd):=mkF 2 6 dF
structure Tp where
 cells:List Int
 nx:Int
 lf:Int
 tn:Int
def L8(t:Tp):List (Key×D):=[(.inr "cells",.mu 0),(.inr "next",.im (.int t.nx)),(.inr "left",.im (.int t.lf)),(.inr "turn",.im (.int t.tn))]
def tp(t:Tp):Hd:=[.lst (t.cells.map λi=>.im (.int i)),.dic (L8 t)]
@[simp] theorem cA(t:Tp):(tp t).length=2:=rfl
@[simp] theorem d7(t:Tp)(r:Hd):(tp t++r)[0]?=some (.lst (t.cells.map λi=>.im (.int i))):=rfl
@[simp] theorem d6(t:Tp)(r:Hd):(tp t++r)[1]?=some (.dic (L8 t)):=rfl
@[simp] theorem tp0(t:Tp):(tp t)[0]?=some (.lst (t.cells.map λi=>.im (.int i))):=rfl
@[simp] theorem tp1(t:Tp):(tp t)[1]?=some (.dic (L8 t)):=rfl
section
variable(t:Tp)(v:Int)
@[simp] theorem cB:(L8 t).length=4:=rfl
end
def Cb:∀ns:List Int,I.pys (ns.map I.int)=ns.map PyData.int
 |[]=>by simp[I.pys]
 |n::ns=>by simp[I.pys,I.py,Cb ns]
def Cr(ns:List Int):BU (ns.map λi=>D.im (.int i))=some (ns.map I.int):=by
 have:(ns.map λi=>D.im (.int i))=(ns.map I.int).map D.im:=by rw[map_map];rfl
 rw[this];exact RW _
def Wv(ns:List Int):PyData.eqv (.list (ns.map PyData.int)) (.list [])=decide (ns=[]):=by
 cases ns<;>simp[PyData.eqv,PyData.eqvAll]
def TW(ns:List Int):(PyData.list (ns.map PyData.int)).canLay0=true:=by simp[PyData.canLay0,FQ]
def Fi(ns:List Int)(hd:Hd)(neg:Bool):K2 neg (.list (ns.map PyData.int)) (.list []) hd=some (.im (.bl (if neg then !decide (ns=[])else decide (ns=[]))),hd):=by
 unfold K2;rw[if_pos,Wv];refine⟨TW ns,by simp[PyData.canLay0,PyData.canLayAll0],?_⟩;have:(PyData.list []).depth<=1:=by simp[PyData.depth,PyData.depthAll]
 omega
def EQ{x:Int}(m:Int)(h:0<m):0<=x%m/\x%m<m:=⟨Int.emod_nonneg _ (by omega),Int.emod_lt_of_pos _ h⟩
def Zd(hd:Hd)(neg:Bool):K2 neg (.list []) (.list []) hd=some (.im (.bl (if neg then false else true)),hd):=by
 have:=Fi [] hd neg;simpa using this
def aq{xs:List Int}(h:xs≠[])(n:Int):∃c,atI (xs.map λi=>D.im (.int i)) (n%(xs.length:Int))=some (.im (.int c)):=by
 have hl:0<xs.length:=DI h;obtain⟨a,b⟩:=EQ (x:=n) (xs.length:Int) (by omega);obtain⟨k,hk⟩:=Int.eq_ofNat_of_zero_le a;have hk':k<xs.length:=by omega
 exact⟨xs[k],FR hk (by simp[hk'])⟩
def po1:Oi 10 18:=by unfold Oi;decide
inductive Cost where
 |late (d:Int)|tardy (d w:Int)|miss (d w:Int)|ends (w:Int)|steps (rows:List (Int×Int))
def rowI(r:Int×Int):I:=.tup [.int r.1,.int r.2]
def Cp:Cost->I
 |.late d=>.tup [.str "late",.int d]
 |.tardy d w=>.tup [.str "tardy",.int d,.int w]
 |.miss d w=>.tup [.str "miss",.int d,.int w]
 |.ends w=>.tup [.str "ends",.int w]
 |.steps rows=>.tup [.str "steps",.tup (rows.map rowI)]
def Dh(t:Int):List (Int×Int)->Int->Int
 |[],told=>told
 |(b,a)::r,told=>if t<b then told else Dh t r a
def Cost.at:Cost->Int->Int
 |.late d,t=>t-d
 |.tardy d w,t=>if t-d<=0 then 0 else w*(t-d)
 |.miss d w,t=>if t-d<=0 then 0 else w
 |.ends w,t=>w*t
 |.steps rows,t=>Dh t rows 0
def Cost.wok:Cost->Prop
 |.tardy _ w=>0<=w/\w<=1000000
 |.miss _ w=>0<=w/\w<=1000000
 |.ends w=>0<=w/\w<=1000000
 |_=>True
def n1:¬ (("late":Str)="steps"):=by decide +kernel
def n2:¬ (("tardy":Str)="steps"):=by decide +kernel
def n3:¬ (("miss":Str)="steps"):=by decide +kernel
def n4:¬ (("ends":Str)="steps"):=by decide +kernel
def n5:¬ (("late":Str)="ends"):=by decide +kernel
def n6:¬ (("tardy":Str)="ends"):=by decide +kernel
def n7:¬ (("miss":Str)="ends"):=by decide +kernel
def n8:¬ (("tardy":Str)="late"):=by decide +kernel
def n9:¬ (("miss":Str)="late"):=by decide +kernel
def n10:¬ (("miss":Str)="tardy"):=by decide +kernel
def n12:¬ (("steps":Str)="late"):=by decide +kernel
def Ig(t:Int)(z:D)(hd:Hd):∀(rows:List (Int×Int)) (told:Int) (x y:Option D),∃fl x' y',Ax (B0 2 (AH (AD 3) (AH (AD 4) B1))) (AA (Ae (AE (mOp gGt (A0 3) (A0 1))) (AM (A0 2)) AT) (AI 2 (A0 4))) [] ((rows.map rowI).map .im)
 [some z,some (.im (.int t)),some (.im (.int told)),x,y] hd=some (fl,hd)/\(fl=.rt (.im (.int (Dh t rows told)))∨fl=.nx [some z,some (.im (.int t)),some (.im (.int (Dh t rows told))),x',y'])
 |[],told,x,y=>⟨_,x,y,MJ,.inr rfl⟩
 |(b,a)::rows,told,x,y=>by
   by_cases h:t<b
   .refine⟨_,x,y,TV (ls1:=[some z,some (.im (.int t)),some (.im (.int told)),some (.im (.int b)),some (.im (.int a))]) (by simp[rowI]) (v:=.im (.int told)) (hd2:=hd) ?_,.inl ?_⟩
    .simp[h]
    .simp[Dh,h]
   .obtain⟨fl,x',y',e,q⟩:=Ig t z hd rows a (some (.im (.int b))) (some (.im (.int a)));refine⟨fl,x',y',?_,?_⟩
    .rw[<- e];refine KN (ls1:=[some z,some (.im (.int t)),some (.im (.int told)),some (.im (.int b)),some (.im (.int a))]) (by simp[rowI]) ?_ (AJ _);simp[h]
    .simpa [Dh,h]using q
def Mz(rows:List (Int×Int))(t:Int):dC [.im (.tup (rows.map rowI)),.im (.int t)] []=some (.im (.int (Dh t rows 0)),[]):=by
 obtain⟨fl,x',y',e,q⟩:=Ig t (.im (.tup (rows.map rowI))) [] rows 0 none none;rcases q with rfl|rfl
 .simp[dC,mkF]at e ⊢;simp[e]
 .simp[dC,mkF]at e ⊢;simp[e]
def PN(c:Cost)(t:Int)(h:c.wok):HR [.im (Cp c),.im (.int t)] []=some (.im (.int (c.at t)),[]):=by
 cases c with
 |late d=>simp[HR,mkF,Cp,n1,n5,Cost.at]
 |tardy d w=>
  have b1:∀j,Du w j:=λj=>C0 (by obtain⟨a,b⟩:=h;omega) (by obtain⟨a,b⟩:=h;omega);by_cases q:t-d<=0
  .simp[HR,mkF,Cp,n2,n6,n8,Cost.at,q]
  .simp[HR,mkF,Cp,n2,n6,n8,Cost.at,q,b1]
 |miss d w=>
  by_cases q:t-d<=0
  .simp[HR,mkF,Cp,n3,n7,n9,Cost.at,q]
  .simp[HR,mkF,Cp,n3,n7,n9,n10,Cost.at,q]
 |ends w=>
  have b1:∀j,Du w j:=λj=>C0 (by obtain⟨a,b⟩:=h;omega) (by obtain⟨a,b⟩:=h;omega);simp[HR,mkF,Cp,n4,Cost.at,b1]
 |steps rows=>
  have:=FB (m:=A2 (mOp gIx (A0 0) (mC (.int 1))) (A2 (A0 1) A4)) (ls:=[some (.im (Cp (.steps rows))),some (.im (.int t)),some (.im (.str "steps")),none]) (hd:=[]) (hd1:=[]) (F:=dC) (ds:=[.im (.tup (rows.map rowI)),.im (.int t)]) (by simp[Cp]) (by simp) (Mz rows t);simp[Cp]at this;simp[HR,mkF,Cp,Cost.at,this]
@[simp high] theorem d4(t:Tp)(x:MO)(r:Hd):(tp t++(x::r))[2]?=some x:=rfl
@[simp high] theorem cz(t:Tp)(x y:MO)(r:Hd):(tp t++(x::y::r))[3]?=some y:=rfl
@[simp high] theorem cy(t:Tp)(x y z:MO)(r:Hd):(tp t++(x::y::z::r))[4]?=some z:=rfl
@[simp high] theorem cZ(t:Tp)(x y:MO)(r:Hd):(tp t++(x::r)).set 2 y=tp t++(y::r):=rfl
@[simp high] theorem cY(t:Tp)(x y z:MO)(r:Hd):(tp t++(x::y::r)).set 3 z=tp t++(x::z::r):=rfl
def FA(w:Nat)(ns:List Int):B2 w (ns.map λi=>D.im (.int i))=true:=by induction ns<;>simp_all [B2,clD]
structure Wk where
 len:Int
 com:Int
 cost:Cost
def BJ(w:Wk):I:=.tup [.int w.len,.int w.com,Cp w.cost]
abbrev BQ(ws:List Wk):I:=.tup (ws.map BJ)
end Bd
namespace L2
def Mj{α:Type}{n:MG}{c:MT}{m:ME}{g:Gd}{hd:Hd}(hg:GOk hd g)(f:α->D)(k:α->Option D):∀{xs:List α} {ls:Ls} (P:Ls->Prop),P ls ->
 (∀x∈xs,∀ls,P ls->∃ls1,n (f x) ls hd=some ls1/\P ls1/\((k x=none/\c ls1 hd=some (false,hd))∨∃z,k x=some z/\c ls1 hd=some (true,hd)/\m ls1 hd=some (z,hd)))->Au n c m g (xs.map f) ls hd=some (xs.filterMap k,hd)
 |[],ls,P,h,_=>by unfold Au;rfl
 |x::r,ls,P,h,q=>by
  obtain⟨ls1,e1,p1,q1⟩:=q x mem_cons_self ls h;have ih:=Mj hg f k (xs:=r) (ls:=ls1) P p1 λd hd ls hp=>q d (mem_cons_of_mem _ hd) ls hp;rw[map_cons];unfold Au;rcases q1 with⟨kn,c1⟩|⟨z,kz,c1,m1⟩
  .simp[e1,c1,hg,ih,kn]
  .simp[e1,c1,m1,hg,ih,kz]
def Mk{α:Type}{n:MG}{m:ME}{g:Gd}{hd:Hd}(hg:GOk hd g)(f:α->D)(k:α->D){xs:List α}{ls:Ls}(P:Ls->Prop)(h:P ls)
 (q:∀x∈xs,∀ls,P ls->∃ls1,n (f x) ls hd=some ls1/\P ls1/\m ls1 hd=some (k x,hd)):Au n Bt m g (xs.map f) ls hd=some (xs.map k,hd):=by
 have:=Mj (c:=Bt) hg f (λx=>some (k x)) (xs:=xs) P h λx hx ls hp=>by
  obtain⟨ls1,e1,p1,e2⟩:=q x hx ls hp;exact⟨ls1,e1,p1,.inr ⟨_,rfl,rfl,e2⟩⟩
 rw[this];simp
end L2
namespace Bd
open PySem L2
abbrev Ar(es:List Int):I:=.tup (es.map I.int)
def EC(ws:List Wk)(es:List Int):List Int:=List.zipWith (λw e=>w.cost.at e) ws es
def Pb(ws:List Wk)(es:List Int):List.zipWith (λx y=>AX [x,y]) ((ws.map BJ).map D.im) ((es.map I.int).map D.im)=(List.zip ws es).map λp=>D.im (.tup [BJ p.1,.int p.2]):=by
 induction ws generalizing es with
 |nil=>simp
 |cons w ws ih=>
  cases es with
  |nil=>simp
  |cons e es=>simp only[map_cons,List.zipWith_cons_cons,List.zip_cons_cons,Jm,ih]
def PM(ws:List Wk)(es:List Int):(List.zip ws es).map (λp=>p.1.cost.at p.2)=EC ws es:=by
 unfold EC;rw[List.zip_eq_zipWith,List.map_zipWith]
def Nw(ns:List Int):(ns.map λi=>D.im (.int i))=(ns.map I.int).map D.im:=by rw[map_map];rfl
def JB(ns:List Int):AX (ns.map λi=>D.im (.int i))=.im (Ar ns):=by rw[Nw];exact Be _
def NE(ws:List Wk)(es:List Int)(h:∀w∈ws,w.cost.wok)(hl:ws.length<=1000):dD [.im (BQ ws),.im (Ar es)] []=some (.im (Ar (EC ws es)),[]):=by
 have hz:Bl (List.zip ws es).length:=Ab (by simp;omega);have hc:=Mk (hd:=[]) (n:=B0 2 (AH (AD 0) (AH (AD 1) B1))) (m:=A8 0 HR (A2 (mOp gIx (A0 0) (mC (.int 2))) (A2 (A0 1) A4))) (AJ []) (λp:Wk×Int=>D.im (.tup [BJ p.1,.int p.2])) (λp=>.im (.int (p.1.cost.at p.2))) (xs:=List.zip ws es) (ls:=[none,none]) (λls=>ls.length=2) rfl λp hp ls hls=>by
  match ls,hls with
  |[a,b],_=>
   refine⟨[some (.im (BJ p.1)),some (.im (.int p.2))],by simp,rfl,?_⟩;exact FB (ds:=[.im (Cp p.1.cost),.im (.int p.2)]) (by simp[BJ]) (by simp) (PN p.1.cost p.2 (h p.1 (of_mem_zip hp).1))
 have hi:List.map (λp:Wk×Int=>D.im (.int (p.1.cost.at p.2))) (List.zip ws es)=(EC ws es).map λi=>D.im (.int i):=by rw[<- PM,map_map];rfl
 have gk:GOk [] []:=AJ [];simp only[dD,mkF,dE,Qu,Qv,Ny,FG,Mf,JK,map_cons,map_nil,length_cons,length_nil,cons_append,nil_append,List.replicate,Nat.reduceAdd,Nat.reduceSub,if_true,List.getElem?_cons_zero,List.getElem?_cons_succ,bind_some,Pn,map_some,gk,Pb,length_map,hz,DZ,append_nil];rw[hc,hi];simp[BR,JB]
def ad:¬ (("sum":Str)="greatest"):=by decide +kernel
def Ph(ws:List Wk)(es:List Int)(h:∀w∈ws,w.cost.wok)(hl:ws.length<=1000):F_worth [.im (BQ ws),.im (Ar es),.im (.str "sum")] []=some (.im (.int (EC ws es).sum),[]):=by
 have e:=FB (m:=A2 (A0 0) (A2 (A0 1) A4)) (ls:=[some (.im (BQ ws)),some (.im (Ar es)),some (.im (.str "sum")),none]) (hd:=[]) (F:=dD) (ds:=[.im (BQ ws),.im (Ar es)]) (hd1:=[]) (by simp) (by simp) (NE ws es h hl);have k:(As ((EC ws es).map I.int |>.map D.im))=some (EC ws es):=by rw[<- Nw];exact Qo _
 simp only[F_worth,mkF,dI,Me,JL,map_cons,map_nil,length_cons,length_nil,cons_append,nil_append,List.replicate,Nat.reduceAdd,Nat.reduceSub,if_true];rw[e];simp only[bind_some,K1,map_some,set_cons_succ,set_cons_zero,ZX,Nx,af,JK,List.getElem?_cons_zero,List.getElem?_cons_succ,bV,Wt,ZZ,if_true,ad,decide_false,Wq,Qu,ak,Wu,ZQ,UW,CG,FJ,k,if_false,Bool.false_eq_true]
def AS(p:Nat×Int×Int):I:=.tup [.int p.1,.int p.2.1,.int p.2.2]
abbrev Dt(ks:List Nat):I:=.tup (ks.map λk:Nat=>.int k)
def TN{α:Type}(ws:List α):ws.map (λ_=>D.im (.int 0))=(List.replicate ws.length 0).map λi=>D.im (.int i):=by induction ws<;>simp_all [replicate_succ]
def Dz(es:List Int):List (Nat×Int×Int)->List Int
 |[]=>es
 |p::r=>Dz (es.set p.1 p.2.2) r
def KZ(w o:D):∀(ps:List (Nat×Int×Int)) (es:List Int) (a b c:Option D),(∀p∈ps,p.1<es.length)->∃a' b' c',Ax (B0 3 (AH (AD 3) (AH (AD 4) (AH (AD 5) B1)))) (DP (A0 2) (A0 3) (A0 5)) [] (ps.map λp=>.im (AS p))
 [some w,some o,some (.mu 0),a,b,c] [.lst (es.map λi=>.im (.int i))]=some (.nx [some w,some o,some (.mu 0),a',b',c'],[.lst ((Dz es ps).map λi=>.im (.int i))])
 |[],es,a,b,c,_=>⟨a,b,c,MJ⟩
 |(k,x,y)::ps,es,a,b,c,h=>by
   obtain⟨a',b',c',q⟩:=KZ w o ps (es.set k y) (some (.im (.int k))) (some (.im (.int x))) (some (.im (.int y))) (λp hp=>by simpa using h p (mem_cons_of_mem _ hp));refine⟨a',b',c',?_⟩;have hk:k<es.length:=h _ mem_cons_self;have ix:ixN es.length (k:Int)=some k:=by unfold ixN;rw[if_pos (by omega),if_pos (by omega)];simp
   rw[show Dz es ((k,x,y)::ps)=Dz (es.set k y) ps from rfl,<- q,map_cons];refine KN (ls1:=[some w,some o,some (.mu 0),some (.im (.int k)),some (.im (.int x)),some (.im (.int y))]) (by simp[AS]) ?_ (AJ _);simp[ix]
def PH(ws:List Wk)(ps:List (Nat×Int×Int))(h:∀p∈ps,p.1<ws.length)(hl:ws.length<=1000):∃g,F_ends_of [.im (BQ ws),.im (.tup (ps.map AS))] []=some (.im (Ar (Dz (List.replicate ws.length 0) ps)),g):=by
 obtain⟨a',b',c',q⟩:=KZ (.im (BQ ws)) (.im (.tup (ps.map AS))) ps (List.replicate ws.length 0) none none none (λp hp=>by simpa using h p hp);have hz:Bl ws.length:=Ab (by omega);have hc:=Mk (hd:=[]) (n:=AD 0) (m:=mC (.int 0)) (AJ []) (λw:Wk=>D.im (BJ w)) (λ_=>.im (.int 0)) (xs:=ws) (ls:=[none]) (λls=>ls.length=1) rfl λw hw ls hls=>by
  match ls,hls with
  |[a],_=>exact⟨[some (.im (BJ w))],rfl,rfl,rfl⟩
 have hr:=TN ws;have w1:(ws.map BJ).map D.im=ws.map λw=>D.im (BJ w):=by rw[map_map];rfl
 have p1:(ps.map AS).map D.im=ps.map λp=>D.im (AS p):=by rw[map_map];rfl
 rw[hr]at hc;refine⟨[.lst ((Dz (List.replicate ws.length 0) ps).map λi=>.im (.int i))],?_⟩;simp only[F_ends_of,mkF,dF,Me,JL,ZR,Ny,Mf,JK,ZY,map_cons,map_nil,length_cons,length_nil,cons_append,nil_append,List.replicate,Nat.reduceAdd,Nat.reduceSub,if_true,List.getElem?_cons_zero,List.getElem?_cons_succ,bind_some,Pn,map_some,w1,p1,length_map,hz,DZ,append_nil,hc,K1,set_cons_succ,set_cons_zero];rw[q];simp[BR,JB]
def Ts(ns:List Int)(lo hi:Option Int):∃cs:List Int,Ci (ns.map λn=>.im (.int n)) lo hi=cs.map λn=>.im (.int n):=⟨(ns.drop _).take _,by unfold Ci;rw[map_take,List.map_drop]⟩
abbrev BA(ks:List Nat):List D:=ks.map λk:Nat=>D.im (.int (k:Int))
def Nt{n:Nat}{i:Int}(a:0<=i)(b:i<n):ixN n i=some i.toNat:=by unfold ixN;rw[if_pos a,if_pos b]
def J8:∀{a:List Nat} {k x:Nat},a[k]?=some x->(x::a.eraseIdx k).Perm a
 |[],k,x,h=>by simp at h
 |y::r,0,x,h=>by simp at h;subst h;exact .refl _
 |y::r,k+1,x,h=>by
  have ih:=J8 (a:=r) (k:=k) (x:=x) (by simpa using h);exact(List.Perm.swap y x _).trans (ih.cons y)
def KY{α β:Type}(f:α->β):∀(l:List α) (k:Nat),(l.map f).eraseIdx k=(l.eraseIdx k).map f
 |[],k=>rfl
 |y::r,0=>rfl
 |y::r,k+1=>by simp[KY f r k]
def QX{a b:List Nat}{k x:Nat}(h:a[k]?=some x):(b++[x]++a.eraseIdx k).Perm (b++a):=by
 rw[append_assoc];exact List.Perm.append_left b (J8 h)
def Along(seq:List Nat)(ps:List (Int×Int)):Prop:=∀p∈ps,∃i j a b:Nat,i<j/\seq[i]?=some a/\seq[j]?=some b/\p=((a:Int),(b:Int))
def M9{seq:List Nat}{i a:Nat}(h:seq[i]?=some a):atI (BA seq) (i:Int)=some (.im (.int (a:Int))):=FR rfl (by simp[h])
def Tr(xs:List D)(k:Nat):Ci xs none (some (k:Int))=xs.take k:=by
 unfold Ci;rw[HT.sIx_none,HT.sIx_nat,Nat.sub_zero,List.drop_zero];by_cases h:k<=xs.length
 .rw[Nat.min_eq_left h]
 .rw[Nat.min_eq_right (by omega),List.take_length,take_of_length_le (by omega)]
def Fv(n:Nat):AW 0 n=BA (List.range n):=by
 refine ext_getElem? λi=>?_;by_cases h:i<n
 .rw[Iz h];simp[h]
 .rw[List.getElem?_eq_none (by simp;omega),List.getElem?_eq_none (by simp;omega)]
def Along.pok{seq:List Nat}{n:Nat}(hp:seq.Perm (List.range n))(hn:n<=1000){ps:List (Int×Int)}(h:Along seq ps):∀p∈ps,pok p:=by
 intro p hp';obtain⟨i,j,a,b,_,ea,eb,rfl⟩:=h p hp';have ha:a<n:=by simpa using hp.mem_iff.mp (mem_of_getElem? ea)
 have hb:b<n:=by simpa using hp.mem_iff.mp (mem_of_getElem? eb)
 exact⟨by show -1000000000<=(a:Int);omega,by show(a:Int)<=1000000000;omega,by show -1000000000<=(b:Int);omega,by show(b:Int)<=1000000000;omega⟩
abbrev intD(xs:List Int):List D:=xs.map λx=>D.im (.int x)
def Qr(xs:List Int):Cg (intD xs)=some (xs.map V.int):=by
 induction xs with
 |nil=>rfl
 |cons x r ih=>simp[Cg,F8]at ih ⊢;exact ih
def Te(x:Int)(xs:List Int):inV (.int x) (xs.map V.int)=decide (x∈xs):=by
 unfold inV
 induction xs with
 |nil=>simp
 |cons y r ih=>
  simp only[map_cons,any_cons,ih,mem_cons];have:eqV (V.int y) (V.int x)=decide (x=y):=by
   unfold eqV;by_cases h:x=y
   .subst h;simp
   .have h':¬ y=x:=λz=>h z.symm;simp[h,h']
  rw[this,Bool.decide_or]
def in_ints{hd:Hd}{d:D}{xs:List Int}(x:Int)(neg:Bool)(h:Az hd d=some (intD xs)):gIn neg (.im (.int x)) d hd=some (.im (.bl (if neg then !decide (x∈xs)else decide (x∈xs))),hd):=by
 simp only[gIn,F8,bind_some,h,Qr,map_some,Te]
def g1(hd:Hd)(x y:MO):(hd++[x,y])[hd.length+1]?=some y:=by simp
def t1(hd:Hd)(x y z:MO):(hd++[x,y]).set (hd.length+1) z=hd++[x,z]:=by simp
end Bd
namespace L2
open PySem PySem.Spec PyProof.Rows
section
variable{ls:Ls}{hd:Hd}{QE:D->Hd->Prop}{QI:List D×Gd->Hd->Prop}{ma:ME}{n:MG}{ta:MT}{mi:MI}{m:MA}
def X5{d:D}{xs:List Int}{x:Int}{neg:Bool}(e1:Az hd d=some (Bd.intD xs))(q:QE (.im (.bl (if neg then !decide (x∈xs)else decide (x∈xs)))) hd):WP (gIn neg (.im (.int x)) d hd) QE:=WP.eq (Bd.in_ints x neg e1) q
def Ba{α:Type}{g:Gd}{QA:List D->Hd->Prop}(inj:α->D)(f:α->Option D)(L:D->Ls->Prop)(l0:Ls){xs:List α}{hd:Hd}(hg:GOk hd g)
 (k:∀x∈xs,∀ls,ls=l0∨(∃d,L d ls)->∃ls1,n (inj x) ls hd=some ls1/\L (inj x) ls1/\WT ta ls1 hd λc y=>y=hd/\if c=true then ∃z,f x=some z/\WE ma ls1 hd λe y=>y=hd/\e=z else f x=none)
 (q:QA (xs.filterMap f) hd):WP (Au n ta ma g (xs.map inj) l0 hd) QA:=by
 have go:∀(xs':List α) (ls:Ls),(∀x∈xs',x∈xs)->(ls=l0∨∃d,L d ls)->Au n ta ma g (xs'.map inj) ls hd=some (xs'.filterMap f,hd):=by
  intro xs'
  induction xs' with
  |nil=>intro ls _ _;unfold Au;rfl
  |cons x r ih=>
   intro ls hs hl;obtain⟨ls1,e1,L1,c,y,e2,rfl,q⟩:=k x (hs x mem_cons_self) ls hl;have ih:=ih ls1 (λz hz=>hs z (mem_cons_of_mem _ hz)) (.inr ⟨_,L1⟩);rw[map_cons];unfold Au;rw[e1,bind_some,e2,bind_some];cases c with
   |true=>
    rw[if_pos rfl]at q;obtain⟨z,ez,e,y,e3,rfl,rfl⟩:=q;rw[if_pos rfl,e3,bind_some];dsimp only;rw[if_pos hg,ih,filterMap_cons,ez];rfl
   |false=>
    rw[if_neg Bool.false_ne_true]at q;rw[if_neg Bool.false_ne_true];dsimp only;rw[if_pos hg,ih,filterMap_cons,q]
 exact⟨_,_,go xs l0 (λ_ h=>h) (.inl rfl),q⟩
end
section
variable{K:PySem.W.Frag}{ρ ρ':List Addr}{H H':Hp}{hd hd':Hd}
def d9(neg:Bool)(ma:ME)(ml:MA):ME:=λls hd=>(ma ls hd).bind λp=>(ml ls p.2).bind λq=>match p.1 with
 |.im i=>(F8 i).bind λx=>(Cg q.1).map λxs=>(.im (.bl (if neg then !inV x xs else inV x xs)),q.2)
 |_=>none
open Classical in
def IJ(ml:MA)(mb:ME):MA:=λls hd=>(ml ls hd).bind λp=>(mb ls p.2).bind λq=>match q.1 with
 |.im (.int k)=>if(0<=k/\k<=1000)/\Bl (p.1.length*k.toNat)then some ((List.replicate k.toNat p.1).flatten,q.2)else none
 |_=>none
def RDs.rep{ds:List D}{xs:List V}(r:RDs K ρ H ds xs):∀n,RDs K ρ H (List.replicate n ds).flatten (List.replicate n xs).flatten
 |0=>by simp[RDs]
 |n+1=>by
  simp only[replicate_succ,flatten_cons];exact r.app (r.rep n)
def XY{ta tb:TE}{ml:MA}{mb:ME}(ha:RN K ta ml)(hb:RE K tb mb):RN K (tOp SZ ta tb) (IJ ml mb):=by
 and_intros;obtain⟨⟨d1,h1⟩,e1,hm⟩:=dL hm;obtain⟨⟨d2,h2⟩,e2,hm⟩:=dL hm;dsimp only at hm;split at hm
 .next k=>
  split at hm
  .next c=>
   cases hm;refine ha ρ σ H hd ls _ d1 h1 hR hL e1 λρ1 H1 a xs x1 R1 na oa ea r1=>?_;refine hb ρ1 σ H1 h1 ls _ _ _ R1 (hL.ext hR x1) e2 λρ2 H2 v2 x2 R2 r2=>?_;simp only[RD,RI]at r2;subst r2;have ea2:=x2.keep a _ ea oa nt;refine⟨a,k,xs,rfl,rfl,ea2,by omega,by omega,by rw[r1.len];exact c.2,λp hp=>?_⟩;obtain⟨R3,x3⟩:=R2.hid (ho:=.lst (List.replicate k.toNat xs).flatten) hp;have x12:=x1.trans R1 x2;exact hQ ρ2 _ p _ (x12.trans R2 x3) R3 (x12.none hR hp R2) (R2.out hp) AK (((r1.ext R1 x2).rep k.toNat).ext R2 x3)
  .cases hm
 .cases hm
def YA(K:PySem.W.Frag){X:Cx}{a b:Expr}{ta tb:TE}{ml:MA}{mb:ME}{pos:Pos}(ha:QN K X a ta ml)(hb:QE K X b tb mb):QN K X (.BinOp a .Mult b pos) (tOp SZ ta tb) (IJ ml mb):=⟨Ol Yx ha.p hb.p,XY ha.r hb.r⟩
end
section
variable{ls:Ls}{hd:Hd}{ma:ME}{n n2:MG}{c c2:MT}{mi mi2:MI}{QE:D->Hd->Prop}
def JV{k:Nat}{g:Gd}{Q:Ls->Hd->Prop}(P:List D->Ls->Hd->Prop):∀{ds:List D} {ls:Ls} {hd:Hd},P ds ls hd ->
 (∀d r ls hd,P (d::r) ls hd->∃ls1,n2 d ls hd=some ls1/\WT c2 ls1 hd λt x=>if t=true then WE ma ls1 x λz y=>WP (BB (.mu k) [z] y) λ_ u=>GOk u g/\P r ls1 u else GOk x g/\P r ls1 x) ->
 (∀ls hd,P [] ls hd->Q ls hd)->∃l h,mIn k n2 c2 ma g ds ls hd=some (l,h)/\Q l h
 |[],ls,hd,h,_,z=>⟨_,_,by unfold mIn;rfl,z _ _ h⟩
 |d::r,ls,hd,h,s,z=>by
  obtain⟨ls1,e1,t,x,e2,q⟩:=s d r ls hd h;unfold mIn;rw[e1,bind_some,e2,bind_some];cases t with
  |true=>
   rw[if_pos rfl]at q ⊢;obtain⟨z',y,e3,w,u,e4,g4,p4⟩:=q;rw[e3,bind_some,e4,bind_some];dsimp only;rw[if_pos g4];exact JV P p4 s z
  |false=>
   rw[if_neg Bool.false_ne_true]at q ⊢;dsimp only;rw[if_pos q.1];exact JV P q.2 s z
def JU{k:Nat}{g:Gd}{Q:Hd->Prop}(P:List D->Ls->Hd->Prop):∀{ds:List D} {ls:Ls} {hd:Hd},P ds ls hd ->
 (∀d r ls hd,P (d::r) ls hd->∃ls1,n d ls hd=some ls1/\WT c ls1 hd λt x=>if t=true then WI mi2 ls1 x λp y=>∃l h,mIn k n2 c2 ma p.2 p.1 ls1 y=some (l,h)/\GOk h g/\P r l h else GOk x g/\P r ls1 x) ->
 (∀ls hd,P [] ls hd->Q hd)->∃h,EI k n c mi2 n2 c2 ma g ds ls hd=some h/\Q h
 |[],ls,hd,h,_,z=>⟨_,by unfold EI;rfl,z _ _ h⟩
 |d::r,ls,hd,h,s,z=>by
  obtain⟨ls1,e1,t,x,e2,q⟩:=s d r ls hd h;unfold EI;rw[e1,bind_some,e2,bind_some];cases t with
  |true=>
   rw[if_pos rfl]at q ⊢;obtain⟨p,y,e3,l,h,e4,g4,p4⟩:=q;rw[e3,bind_some];dsimp only;rw[e4,bind_some];dsimp only;rw[if_pos g4];exact JU P p4 s z
  |false=>
   rw[if_neg Bool.false_ne_true]at q ⊢;dsimp only;rw[if_pos q.1];exact JU P q.2 s z
def Ri{j:Nat}{ix:List Nat}(h:WI mi ls hd λp x=>∃y,EI x.length n c mi2 n2 c2 ma p.2 p.1 (DZ j ix ls) (x++[.lst []])=some y/\QE (.mu x.length) y):WE (D2 j ix mi n c mi2 n2 c2 ma) ls hd QE:=by
 obtain⟨p,x,e,y,e2,q⟩:=h;exact⟨_,_,by rw[Tn,e,bind_some];dsimp only;rw[e2];rfl,q⟩
end
abbrev blD(bs:List Bool):List D:=bs.map λb=>D.im (.bl b)
inductive Ty where
 |int|bool|str|tuple|list
 deriving DecidableEq
def Ty.nm:Ty->String
 |.int=>"int" | .bool=>"bool" | .str=>"str" | .tuple=>"tuple" | .list=>"list"
def IsT(K:PySem.W.Frag)(T:Ty)(H:Hp)(v:V)(b:Bool):Prop:=
 (v=.non/\b=false)∨(∃x,v=.bl x/\b=decide (T=.int∨T=.bool))∨(∃i,v=.int i/\b=decide (T=.int))∨(∃x,v=.str x/\b=decide (T=.str)) ∨
 (∃a xs,v=.ref a/\SqL K H a xs/\b=decide (T=.list))∨∃a xs,v=.ref a/\SqT K H a xs/\b=decide (T=.tuple)
section
variable{X:Cx}{pins:List (Addr×Obj)}{σ:St}{H:Hp}{s:Shared}{A:Around}{E:Value->Shared->Prop}{Q:Value->Shared->Prop}
def ZG{T:Ty}{v:V}{u:Value}{b:Bool}(I:Inv X pins σ H s)(r:RelV v u)(h:IsT X.K T H v b)(q:∀tk,Q (.bool b) { s with toks:=tk }):wpAny (model X.prog X.w) A (call (.builtin "isinstance") [u,.type T.nm]) Q E s:=by
 have q0:=q s.toks;have q1:=q (s.toks+1);rcases h with⟨rfl,rfl⟩|⟨x,rfl,rfl⟩|⟨i,rfl,rfl⟩|⟨x,rfl,rfl⟩|⟨a,xs,rfl,hl,rfl⟩|⟨a,xs,rfl,ht,rfl⟩
 .cases(show u=Value.none from r);cases T
  .exact IsiPair.NoneType_int q1
  .exact IsiPair.NoneType_bool q1
  .exact IsiPair.NoneType_str q1
  .exact IsiPair.NoneType_tuple q1
  .exact IsiPair.NoneType_list q1
 .cases(show u=Value.bool x from r);cases T
  .first|exact IsiPair.bool_int q0|exact IsiPair.bool_int q1
  .first|exact IsiPair.bool_bool q0|exact IsiPair.bool_bool q1
  .exact IsiPair.bool_str q1
  .exact IsiPair.bool_tuple q1
  .exact IsiPair.bool_list q1
 .obtain⟨t,rfl⟩:=(show ∃t,u=Value.int i t from r)
  cases T
  .exact IsiPair.int_int q0
  .exact IsiPair.int_bool q1
  .exact IsiPair.int_str q1
  .exact IsiPair.int_tuple q1
  .exact IsiPair.int_list q1
 .obtain⟨t,rfl⟩:=(show ∃t,u=Value.str x t from r)
  cases T
  .exact IsiPair.str_int q1
  .exact IsiPair.str_bool q1
  .exact IsiPair.str_str q0
  .exact IsiPair.str_tuple q1
  .exact IsiPair.str_list q1
 .cases(show u=Value.ref a from r);obtain⟨its,_,⟨o,n,e,c,_,_⟩,_⟩:=I.list hl;cases T
  .exact IsiPair.list_int e c q1
  .exact IsiPair.list_bool e c q1
  .exact IsiPair.list_str e c q1
  .exact IsiPair.list_tuple e c q1
  .exact IsiPair.list_list e c q0
 .cases(show u=Value.ref a from r);obtain⟨its,_,⟨o,e,c,_⟩,_⟩:=I.tuple ht;cases T
  .exact IsiPair.tuple_int e c q1
  .exact IsiPair.tuple_bool e c q1
  .exact IsiPair.tuple_str e c q1
  .exact IsiPair.tuple_tuple e c q0
  .exact IsiPair.tuple_list e c q1
end
def S3(K:PySem.W.Frag)(T:Ty)(te:TE):TE:=λσ H Q=>te σ H λv H1=>∃b,IsT K T H1 v b/\Q (.bl b) H1
def Yr(K:PySem.W.Frag){X:Cx}(T:Ty){e:Expr}{te:TE}{x:Str}{p px pos:Pos}(hm:X.mg "isinstance"=none)(hmT:X.mg x=none)(hvT:bootBuiltins x=some (.type T.nm))(he:PE X e te)
 (hv:bootBuiltins "isinstance"=some (.builtin "isinstance")) (hK:X.K=K) (hg:Gl X "isinstance") (hgT:Gl X x) (hnT:x≠"__name__") (hdT:(x==("__debug__":Str))=false)
 (hs:starEach [e,.Name x px] X.env=[(false,eval e X.env),(false,eval (.Name x px) X.env)]) (hs2:starEach [.Name x px] X.env=[(false,eval (.Name x px) X.env)]):PE X (.Call (.Name "isinstance" p) [e,.Name x px] [] pos) (S3 K T te):=by
 subst hK;intro pins s σ H Q I h;refine wpAny_Call_Name_kw (D3 I hg hm hv ?_);have go:wpAny (model X.prog X.w) X.A (spliced (backTo pos (starEach [e,.Name x px] X.env))) (λvs s₁=>wpAny (model X.prog X.w) X.A (call (.builtin "isinstance") vs) (EP X pins σ Q) X.xe s₁) X.xe s:=by
  rw[hs];show wpAny _ _ (spliced ((false,eval e X.env)::backTo pos [(false,eval (.Name x px) X.env)])) _ _ s;refine Calls.spliced_cons (thn (he pins s σ H _ I h) λu s1 ⟨v,H1,I1,r1,b,ib,q1⟩=>?_);show wpAny _ _ (spliced ((false,eval (.Name x px) X.env)::backTo pos [])) _ _ s1;refine Calls.spliced_cons (D3 I1 hgT hmT hvT ?_ hnT hdT);refine Calls.spliced_nil ?_;exact ZG I1 r1 ib λtk=>⟨.bl b,H1,I1.tok _,rfl,q1⟩
 exact PyProof.Rows.callWith_builtin1 go (by rw[hs,hs2]) (by rw[hs2];rfl)
section
variable{K:PySem.W.Frag}{ρ ρ':List Addr}{H H':Hp}{hd hd':Hd}
def isD(T:Ty)(hd:Hd):D->Option Bool
 |.im .non=>some false
 |.im (.bl _)=>some (decide (T=.int∨T=.bool))
 |.im (.int _)=>some (decide (T=.int))
 |.im (.str _)=>some (decide (T=.str))
 |.im (.tup _)=>some (decide (T=.tuple))
 |.tm _=>some (decide (T=.tuple))
 |.ro _=>some (decide (T=.list))
 |.mu n=>match hd[n]? with
  |some (.lst _)=>some (decide (T=.list))
  |_=>none
def ZH{T:Ty}{d:D}{v:V}{b:Bool}(hR:RH K ρ H hd)(h:RD K ρ H d v)(e:isD T hd d=some b):IsT K T H v b:=by
 cases d with
 |im i=>
  cases i with
  |non=>simp only[RD,RI]at h;subst h;simp only[isD,Option.some.injEq]at e;exact .inl ⟨rfl,e.symm⟩
  |bl c=>simp only[RD,RI]at h;subst h;simp only[isD,Option.some.injEq]at e;exact .inr (.inl ⟨c,rfl,e.symm⟩)
  |int c=>simp only[RD,RI]at h;subst h;simp only[isD,Option.some.injEq]at e;exact .inr (.inr (.inl ⟨c,rfl,e.symm⟩))
  |str c=>simp only[RD,RI]at h;subst h;simp only[isD,Option.some.injEq]at e;exact .inr (.inr (.inr (.inl ⟨c,rfl,e.symm⟩)))
  |tup is=>
   obtain⟨a,xs,rfl,q,r⟩:=h.tup (ds:=is.map .im) rfl;simp only[isD,Option.some.injEq]at e;exact .inr (.inr (.inr (.inr (.inr ⟨a,xs,rfl,q,e.symm⟩))))
 |tm ds=>
  obtain⟨a,xs,rfl,q,r⟩:=h.tup (ds:=ds) rfl;simp only[isD,Option.some.injEq]at e;exact .inr (.inr (.inr (.inr (.inr ⟨a,xs,rfl,q,e.symm⟩))))
 |ro ns=>
  obtain⟨a,xs,rfl,q,r⟩:=h.lst hR (hd:=hd) (ds:=ns.map λn=>.im (.int n)) rfl;simp only[isD,Option.some.injEq]at e;exact .inr (.inr (.inr (.inr (.inl ⟨a,xs,rfl,q,e.symm⟩))))
 |mu n=>
  simp only[isD]at e;split at e
  .next q=>
   cases e;simp only[RD]at h;obtain⟨a,hn,rfl⟩:=h;obtain⟨xs,e1,e2⟩:=hR.lst hn q;exact .inr (.inr (.inr (.inr (.inl ⟨a,xs,rfl,SqL.of e1,rfl⟩))))
  .cases e
def DR(T:Ty)(ma:ME):ME:=λls hd=>(ma ls hd).bind λp=>(isD T p.2 p.1).map λb=>(.im (.bl b),p.2)
def Xk{T:Ty}{te:TE}{me:ME}(h:RE K te me):RE K (S3 K T te) (DR T me):=by
 and_intros;obtain⟨⟨d1,h1⟩,e1,hm⟩:=dL hm;obtain⟨b,e2,e3⟩:=dM hm;cases e3;exact h ρ σ H hd ls _ d1 _ hR hL e1 λρ1 H1 v x1 R1 r1=>⟨b,ZH R1 r1 e2,hQ ρ1 H1 _ x1 R1 (by simp[RD,RI])⟩
def JP:∀T:Ty,bootBuiltins T.nm=some (.type T.nm)
 |.int=>by decide +kernel
 |.bool=>by decide +kernel
 |.str=>by decide +kernel
 |.tuple=>by decide +kernel
 |.list=>by decide +kernel
def Ly(K:PySem.W.Frag){X:Cx}(T:Ty){e:Expr}{te:TE}{me:ME}{x:Str}{p px pos:Pos}(hm:X.mg "isinstance"=none)(hmT:X.mg x=none)(he:QE K X e te me)(hx:bootBuiltins x=some (.type T.nm):=by first|exact JP .int|exact JP .bool|exact JP .str|exact JP .tuple|exact JP .list)(hK:X.K=K:=by rfl)(hg:Gl X "isinstance":=by rfl)(hgT:Gl X x:=by rfl)
 (hnT:x≠"__name__":=by decide) (hdT:(x==("__debug__":Str))=false:=by decide)
 (hs:starEach [e,.Name x px] X.env=[(false,eval e X.env),(false,eval (.Name x px) X.env)]:=by rfl) (hs2:starEach [.Name x px] X.env=[(false,eval (.Name x px) X.env)]:=by rfl):QE K X (.Call (.Name "isinstance" p) [e,.Name x px] [] pos) (S3 K T te) (DR T me):=
 ⟨Yr K T hm hmT hx he.p L3 hK hg hgT hnT hdT hs hs2,Xk he.r⟩
def HZ(mo mi me:ME)(f:Int->Int->Int):MS:=λls hd=>(mo ls hd).bind λp=>(mi ls p.2).bind λq=>match p.1,q.1 with
 |.mu n,.im (.int i)=>match q.2[n]? with
  |some (.lst ds)=>(ixN ds.length i).bind λj=>match ds[j]? with
   |some (.im (.int x))=>(me ls q.2).bind λr=>match r.1,r.2[n]? with
    |.im (.int y),some (.lst ds')=>if ds'.length=ds.length then some (.nx ls,r.2.set n (.lst (ds'.set j (.im (.int (f x y))))))else none
    |_,_=>none
   |_=>none
  |_=>none
 |_,_=>none
def RDs.ints:∀{ns:List Int} {xs:List V},RDs K ρ H (ns.map λx=>D.im (.int x)) xs->xs=ns.map V.int
 |[],xs,h=>by simpa only[RDs,map_nil]using h
 |n::ns,xs,h=>by
  simp only[map_cons,RDs,RD,RI]at h;obtain⟨x,r,rfl,rfl,t⟩:=h;rw[RDs.ints t];rfl
def QV(K:PySem.W.Frag){X:Cx}(hK:X.K=K:=by rfl):Zh X (Jh K):=by
 subst hK;intro pins s σ H o i ov iv Q I ro ri h;obtain⟨p,xs,k,z,rfl,rfl,hq,he,q⟩:=h;cases ro;obtain⟨t,rfl⟩:=ri;obtain⟨its,r,pl,hz⟩:=I.list hq;obtain⟨j,h1,h2,h3,h4,h5⟩:=K7 he;obtain⟨w,ew,rw'⟩:=r.get h2;have hl:=r.length;have hn:=Fd;have fin:EP X pins σ Q w s:=⟨z,H,I,rw',q⟩
 by_cases h0:0<=k
 .have hj:k.toNat=j:=by
   rw[seqIndex_of h0 h5]at h1;exact Option.some.inj h1
  exact wpAny_getItem_list pl.isList h0 (by omega) (by rw[hj];simpa using ew) fin
 .have hj:(k+(its.toArray.size:Int)).toNat=j:=by
   rw[seqIndex_neg (by omega) h4]at h1;rw[size_toArray,<- hl];exact Option.some.inj h1
  exact wpAny_getItem_list_neg pl.isList (by omega) (by rw[size_toArray]<;>omega) (by omega) (by rw[hj];simpa using ew) fin
def Wo(x:Ext ρ H ρ' H'){n:Nat}{a:Addr}(h:ρ[n]?=some a):ρ'[n]?=some a:=by
 obtain⟨r,rfl,_⟩:=x.pre;rw[List.getElem?_append_left (List.getElem?_eq_some_iff.mp h).1];exact h
def Ux{to ti te:TE}{mo mi me:ME}{f:Int->Int->Int}(ho:RE K to mo)(hi:RE K ti mi)(he:RE K te me):RS K (OM to ti te (Jh K) (ipI f) J0) (HZ mo mi me f):=by
 intro ρ σ H hd0 ls E fl hd' hR hL hm hQ;obtain⟨⟨d1,h1⟩,e1,hm⟩:=dL hm;obtain⟨⟨d2,h2⟩,e2,hm⟩:=dL hm;dsimp only at hm;split at hm
 .split at hm
  .next ds q=>
   obtain⟨j,e4,hm⟩:=dL hm;split at hm
   .next x ex=>
    obtain⟨⟨d3,h3⟩,e3,hm⟩:=dL hm;dsimp only at hm;split at hm
    .next y ds' q'=>
     split at hm
     .next el=>
      cases hm;refine ho ρ σ H hd0 ls _ _ h1 hR hL e1 λρ1 H1 v1 x1 R1 r1=>?_;refine hi ρ1 σ H1 h1 ls _ _ _ R1 (hL.ext hR x1) e2 λρ2 H2 v2 x2 R2 r2=>?_;have r1':=r1.ext R1 x2;simp only[RD]at r1';obtain⟨a,hn,rfl⟩:=r1';simp only[RD,RI]at r2;subst r2;obtain⟨xs,l1,l2⟩:=R2.lst hn q;obtain⟨w,ew,rw'⟩:=l2.get ex;simp only[RD,RI]at rw';subst rw';refine⟨a,xs,_,.int x,rfl,rfl,SqL.of l1,?_,?_⟩
      .unfold atI;rw[l2.len];rw[e4];exact ew
      refine he ρ2 σ H2 h2 ls _ _ h3 R2 (hL.ext hR (x1.trans R1 x2)) e3 λρ3 H3 v3 x3 R3 r3=>?_;simp only[RD,RI]at r3;subst r3;refine⟨x,y,rfl,rfl,?_⟩;have hn3:=Wo x3 hn;obtain⟨xs3,l3,l4⟩:=R3.lst hn3 q';obtain⟨R4,x4⟩:=R3.put hn3 (o:=.lst _) (ho:=.lst (xs3.set j (.int (f x y)))) ⟨_,rfl,l4.set j (d:=.im (.int (f x y))) (by simp[RD,RI])⟩;have x13:=(x1.trans R1 x2).trans R2 x3;exact⟨a,xs3,_,j,rfl,rfl,l3,by rw[l4.len,el];exact e4,hQ ρ3 _ (x13.trans R3 x4) R4 σ ((hL.ext hR x13).ext R3 x4)⟩
     .cases hm
    .cases hm
   .cases hm
  .cases hm
 .cases hm
def VS(K:PySem.W.Frag){X:Cx}{o i e:Expr}{to ti te:TE}{mo mi me:ME}{op:Operator}{f:Int->Int->Int}{tpos pos:Pos}(ho:QE K X o to mo)(hi:QE K X i ti mi)(he:QE K X e te me)(hp:PIp X op (ipI f))(hK:X.K=K:=by rfl)
 (ha:∀ov iv new,augStore i ov iv new=(do holding [new,ov,iv] (setItem ov iv new);release [new,ov,iv] [];pure .next):=by intros;rfl):QS K X (.AugAssign (.Subscript o i tpos) op e pos) (OM to ti te (Jh K) (ipI f) J0) (HZ mo mi me f):=
 ⟨Vs ho.p hi.p (QV K hK) he.p hp Le ha,Ux ho.r hi.r he.r⟩
end
section
variable{ls:Ls}{hd:Hd}{ma mo mi me:ME}{QE:D->Hd->Prop}{QS:Fl->Hd->Prop}
def DK{T:Ty}(h:WE ma ls hd λd x=>∃b,isD T x d=some b/\QE (.im (.bl b)) x):WE (DR T ma) ls hd QE:=by
 obtain⟨d,x,e,b,e2,q⟩:=h;exact⟨_,_,by simp only[DR,e,bind_some,e2,map_some],q⟩
end
def S4(neg b:Bool)(ta:TE):TE:=λσ H Q=>ta σ H λx H1=>∃c,x=.bl c/\Q (.bl (if neg then !decide (c=b)else decide (c=b))) H1
section
variable{X:Cx}{a:Expr}{ta:TE}
def Tc{M:Model}{A:Around}{E:Value->Shared->Prop}{s:Shared}{Q:Value->Shared->Prop}(c b:Bool)(h:Q (.bool (!decide (c=b))) s):wpAny M A (compareOp .IsNot (.bool c) (.bool b)) Q E s:=by
 cases c<;>cases b<;>exact wpAny_pure h
def W9{b:Bool}{j pos'}(ha:PE X a ta):PC X .IsNot a (.Constant (.bool b) j pos') (S4 true b ta):=by
 intro pins s σ H Q I h;refine thn (ha pins s σ H _ I h) λv s1 ⟨x,H1,I1,r1,c,ex,q1⟩=>?_;subst ex;cases(show v=Value.bool c from r1);exact Constant_bool (Tc c b ⟨.bl _,H1,I1,rfl,q1⟩)
end
def Jt(neg b:Bool)(ma:ME):ME:=λls hd=>(ma ls hd).bind λp=>match p.1 with
 |.im (.bl c)=>some (.im (.bl (if neg then !decide (c=b)else decide (c=b))),p.2)
 |_=>none
def Xl{K:PySem.W.Frag}{neg b:Bool}{ta:TE}{ma:ME}(h:RE K ta ma):RE K (S4 neg b ta) (Jt neg b ma):=by
 and_intros;obtain⟨⟨d1,h1⟩,e1,hm⟩:=dL hm;dsimp only at hm;split at hm
 .cases hm;exact h ρ σ H hd ls _ _ _ hR hL e1 λρ1 H1 v x1 R1 r1=>⟨_,by simpa only[RD,RI]using r1,hQ ρ1 H1 _ x1 R1 (by simp[RD,RI])⟩
 .cases hm
section
variable(K:PySem.W.Frag){X:Cx}{a:Expr}{ta:TE}{ma:ME}{b:Bool}{j:_}{pos pos':Pos}
def VL{j}(ha:QE K X a ta ma):QT K X (.Compare a [.IsNot] [.Constant (.bool b) j pos'] pos) (tB (S4 true b ta)) (AE (Jt true b ma)):=⟨M1 (W9 ha.p),SH (Xl ha.r)⟩
end
def X9{neg b:Bool}{ma:ME}{ls:Ls}{hd:Hd}{QE:D->Hd->Prop}(h:WE ma ls hd λd x=>∃c,d=.im (.bl c)/\QE (.im (.bl (if neg then !decide (c=b)else decide (c=b)))) x):WE (Jt neg b ma) ls hd QE:=by
 obtain⟨d,x,e,c,rfl,q⟩:=h;exact⟨_,_,by simp only[Jt,e,bind_some],q⟩
def Fk:bootBuiltins "enumerate"=some (.type "enumerate"):=by decide +kernel
section
variable{K:PySem.W.Frag}
def Dv(ma:MI):MI:=λls hd=>(ma ls hd).map λp=>((p.1.1.zipIdx.map λq=>AX [.im (.int (q.2:Int)),q.1],p.1.2),p.2)
def FV{ma:MI}{ls:Ls}{hd:Hd}{QI:List D×Gd->Hd->Prop}(h:WI ma ls hd λp x=>QI (p.1.zipIdx.map λq=>AX [.im (.int (q.2:Int)),q.1],p.2) x):WI (Dv ma) ls hd QI:=by
 obtain⟨p,x,e,q⟩:=h;exact⟨_,_,by simp only[Dv,e,map_some],q⟩
end
end L2
namespace HT
open PySem PySem.Spec PyProof.Rows
section
variable{prog:Program}{w:World}{A:Around}{E:Value->Shared->Prop}{s:Shared}
def getItem_tuple_whole{t sl:Addr}{items:Array Value}{vl vu:Value}{lo hi:Option Int}{Q:Value->Shared->Prop}(ht:IsTup s.heap t items)(hs:s.heap.IsSliceOf sl vl vu .none)(pl:IsPart vl lo)(pu:IsPart vu hi)
 (hw:sIx items.size 0 lo=0/\sIx items.size items.size hi=items.size) (h:Q (.ref t) s):wpAny (model prog w) A (getItem (.ref t) (.ref sl)) Q E s:=by
 obtain⟨os,hos,hcs,hds⟩:=id hs;have hTs:s.TypeIs (.ref sl) "slice":=⟨os,hos,hcs⟩
 unfold getItem
 try with_reducible refine wpAny_holding ?_
 first|refine wpAny_bind (wpAny_pure ?_)|skip
 refine wpAny_bind (wpAny_sequenceKey ht.typeIs (by decide) ?_);refine wpAny_bind (wpAny_callSpecial?_slot (name:=Str.ofString "__getitem__") ht.typeIs PyProof.Rows.slot_tuple_getitem
  (wpAny_call_entry PyProof.Rows.slot_tuple_getitem ht.typeIs entry_tuple_getitem ?_ (args_tuple_getitem _ _)))
 show wpAny _ _ (Builtin.Tuple.tupleItemsOf (.ref t) >>= _) _ _ s;refine wpAny_bind (tupleItemsOf_ ht ?_);refine wpAny_bind (wpAny_typeOf hTs ?_);rw[if_pos (by decide)];refine wpAny_bind (Eh hs pl pu ?_);have hno:(((sIx items.size 0 lo:Nat):Int)==0&&(1:Int)==1&&(sIx items.size items.size hi-sIx items.size 0 lo)==items.size)=true:=by
  rw[hw.1,hw.2];simp
 show wpAny _ _ (if(((sIx items.size 0 lo:Nat):Int)==0&&(1:Int)==1&&(sIx items.size items.size hi-sIx items.size 0 lo)==items.size)=true then _ else _) _ _ s;rw[if_pos hno];refine wpAny_bind ?_;unfold Builtin.Tuple.tupleIsExact;refine wpAny_bind (wpAny_typeOf ht.typeIs (wpAny_pure ?_));rw[if_pos (by decide)];exact wpAny_bind (wpAny_rule (wpAny_pure ⟨_,rfl,wpAny_pure h⟩))
end
end HT
namespace L2
open PySem PySem.Spec PyProof.Rows
section
variable{X:Cx}
def SY(K:PySem.W.Frag):V->Option Int->Option Int->Hp->VK->Prop:=λx lo hi H Q=>Xr K x lo hi H Q∨∃a xs,x=.ref a/\SqT K H a xs/\(HT.sIx xs.length 0 lo=0/\HT.sIx xs.length xs.length hi=xs.length)/\Q (.ref a) H
def Uq(K:PySem.W.Frag)(hK:X.K=K:=by rfl):SlR X (SY K):=by
 subst hK;intro pins s σ H x v vl vu lo hi sl Q I rx hs pl pu h;rcases h with h|⟨a,xs,rfl,hx,hw,q⟩
 .exact XJ pins s σ H x v vl vu lo hi sl Q I rx hs pl pu h
 cases rx;obtain⟨its,r,ht,hz⟩:=I.tuple hx;have hlen:its.toArray.size=xs.length:=by rw[size_toArray];exact r.length.symm
 refine⟨"tuple",_,PyProof.Rows.slot_tuple_getitem.lookup,ht.typeIs,?_⟩;exact HT.getItem_tuple_whole ht hs pl pu (by rw[hlen];exact hw) ⟨.ref a,H,I,rfl,q⟩
end
section
variable{K:PySem.W.Frag}{ρ ρ':List Addr}{H H':Hp}{hd hd':Hd}
def Jr(m:ME)(ml mh:MO1):ME:=λls hd=>(m ls hd).bind λp=>(ml ls p.2).bind λl=>(mh ls l.2).bind λh=>(AZ p.1).map λds=>(AX (Ci ds l.1 h.1),h.2)
def Xg{t:TE}{tl th:TO}{m:ME}{ml mh:MO1}(h:RE K t m)(hl:RO1 K tl ml)(hh:RO1 K th mh):RE K (tSl (SY K) t tl th) (Jr m ml mh):=by
 and_intros;obtain⟨⟨d1,h1⟩,e1,hm⟩:=dL hm;obtain⟨⟨d2,h2⟩,e2,hm⟩:=dL hm;obtain⟨⟨d3,h3⟩,e3,hm⟩:=dL hm;obtain⟨ds,e4,e5⟩:=dM hm;cases e5;dsimp only at e2 e3 e4;refine h ρ σ H hd ls _ d1 h1 hR hL e1 λρ1 H1 v1 x1 R1 r1=>?_;refine hl ρ1 σ H1 h1 ls _ d2 h2 R1 (hL.ext hR x1) e2 λρ2 H2 x2 R2=>?_;refine hh ρ2 σ H2 h2 ls _ d3 _ R2 (hL.ext hR (x1.trans R1 x2)) e3 λρ3 H3 x3 R3=>?_;obtain⟨a,xs,rfl,q,r⟩:=((r1.ext R1 x2).ext R2 x3).tup e4;by_cases c:HT.sIx ds.length 0 d2=0/\HT.sIx ds.length ds.length d3=ds.length
 .refine .inr ⟨a,xs,rfl,q,by rw[r.len];exact c,?_⟩;have e6:Ci ds d2 d3=ds:=by unfold Ci;rw[c.1,c.2];simp
  rw[e6]at hQ;exact hQ ρ3 _ _ ((x1.trans R1 x2).trans R2 x3) R3 (BL q r)
 .refine .inl ⟨a,xs,rfl,q,by rw[r.len];exact c,λp hp=>?_⟩;obtain⟨R4,x4⟩:=R3.hid (ho:=.tup (FN xs d2 d3)) hp;exact hQ ρ3 _ _ (((x1.trans R1 x2).trans R2 x3).trans R3 x4) R4 (BL (SqT.of AK) ((O2 r).ext R3 x4))
def YJ(K:PySem.W.Frag){X:Cx}{e:Expr}{te:TE}{me:ME}{lo hi:Option Expr}{tl th:TO}{ml mh:MO1}{p2 pos:Pos}(h:QE K X e te me)(hl:QO K X lo tl ml)(hh:QO K X hi th mh)(hK:X.K=K:=by rfl):QE K X (.Subscript e (.Slice lo hi none p2) pos) (tSl (SY K) te tl th) (Jr me ml mh):=⟨M2 (Uq K hK) h.p hl.p hh.p,Xg h.r hl.r hh.r⟩
def X7{ma:ME}{ls:Ls}{QE:D->Hd->Prop}{ml mh:MO1}(h:WE ma ls hd λd x=>WO ml ls x λl y=>WO mh ls y λu z=>∃ds,AZ d=some ds/\QE (AX (Ci ds l u)) z):WE (Jr ma ml mh) ls hd QE:=by
 obtain⟨d,x,e1,l,y,e2,u,z,e3,ds,e4,q⟩:=h;exact⟨_,_,by simp only[Jr,e1,bind_some,e2,e3,e4,map_some],q⟩
end
section
variable{X:Cx}
def Wz{prog:Program}{w:World}{A:Around}{E:Value->Shared->Prop}{s:Shared}{t b:Addr}{vs ws:List Value}{Q:Value->Shared->Prop}(ht:IsTup s.heap t vs.toArray)(hb:IsTup s.heap b ws.toArray)(hv:vs=[])
 (h1:Q (.ref b) s):wpAny (model prog w) A (binaryOp .Add (.ref t) (.ref b)) Q E s:=by
 obtain⟨⟨cls,dd,data,sl⟩,ho,hc,n,hd⟩:=id ht;obtain⟨⟨cls2,dd2,data2,sl2⟩,ho2,hc2,n2,hd2⟩:=id hb;simp only at hc hd hc2 hd2;subst hc hd hc2 hd2;exact concat_meets ⟨_,ho,rfl⟩ ⟨_,ho2,rfl⟩ noFill_tuple_add seq_tuple_add PySem.F.slot_tuple_add PySem.F.entry_tuple_add (PySem.F.args_tuple_add_2 _ _)
  (tuple_addW0 t b vs.toArray ws.toArray n n2 dd dd2 sl sl2 (by simp[hv])) ⟨ho,ho2,h1⟩
def UJ(K:PySem.W.Frag):R2:=λx y H Q=>∃a b ys,x=.ref a/\y=.ref b/\SqT K H a []/\SqT K H b ys/\Q (.ref b) H
def WH(K:PySem.W.Frag)(hK:X.K=K:=by rfl):OpR X (binaryOp .Add) (UJ K):=by
 subst hK;intro pins s σ H x y v u Q I rx ry h;obtain⟨a,b,ys,rfl,rfl,ha,hb,q⟩:=h;cases rx;cases ry;obtain⟨its,r1,p1,_⟩:=I.tuple ha;obtain⟨its2,r2,p2,_⟩:=I.tuple hb;have:its=[]:=by cases r1;rfl
 exact Wz p1 p2 this ⟨.ref b,H,I,rfl,q⟩
def Hf:D->D->Hd->Option (D×Hd):=λd e hd=>(AZ d).bind λa=>(AZ e).bind λb=>if a=[]then some (AX b,hd)else none
def VG{K:PySem.W.Frag}:RB K (UJ K) Hf:=by
 intro ρ H hd d e v u Q z hd' hR h1 h2 hf hQ;unfold Hf at hf;obtain⟨a,e1,hf⟩:=dL hf;obtain⟨b,e2,hf⟩:=dL hf;split at hf
 .next c=>
  cases hf;subst c;obtain⟨p,xs,rfl,q1,r1⟩:=h1.tup e1;obtain⟨p2,ys,rfl,q2,r2⟩:=h2.tup e2;have:xs=[]:=by simpa [RDs]using r1
  subst this;exact⟨p,p2,ys,rfl,rfl,q1,q2,hQ ρ H _ .refl hR (BL q2 r2)⟩
 .cases hf
end
section
variable{X:Cx}
def Sx{i:Nat}{y:Str}{elt tg iter tg2 iter2:Expr}{ifs ifs2:List Expr}{scope:Scope}{pos spos py:Pos}{loc fr:List Str}{ix:List Nat}{wi wi2:TI}{g g2:TG}{tf tf2:TT}{te:TE}(hN:X.N.Nodup)(hiN:X.N[i]?=some y)(hy:X.env.scope.names.lookup y=some .local)
 (hc:X.calm=true) (S:CSc X scope fr ix) (hi:PI X tg iter wi)
 (hg:∀s H ex,PG (cCx X (loc++fr) scope s H ex) tg g) (hf:∀s H ex,PF (cCx X (loc++fr) scope s H ex) ifs tf) (hi2:∀s H ex,PI (cCx X (loc++fr) scope s H ex) tg2 iter2 wi2) (hg2:∀s H ex,PG (cCx X (loc++fr) scope s H ex) tg2 g2) (hf2:∀s H ex,PF (cCx X (loc++fr) scope s H ex) ifs2 tf2) (he:∀s H ex,PE (cCx X (loc++fr) scope s H ex) elt te)
 (hsw:swapsWith (LC2 elt tg iter ifs tg2 iter2 ifs2 scope pos) (some (.Name y py)) spos.line X.env=pure true) (hs:∀x,foldedSetIterable iter X.env x=pure x) (hs2:∀s H ex x,foldedSetIterable iter2 (cCx X (loc++fr) scope s H ex).env x=pure x):
 PS X (.Assign [.Name y py] (LC2 elt tg iter ifs tg2 iter2 ifs2 scope pos) spos) (DL (Eg loc.length ix wi g tf wi2 g2 tf2 te) (Co i)):=by
 intro pins s σ H D I h;have hnames:∀y∈scope.names,y.2=.local->scope.names.lookup y.1=some .local:=λy hy e=>by
  have:=all_eq_true.mp S.loc y hy;rw[e]at this;simpa using this
 rw[exec_Assign_Name_used _ _ _ _ hsw];refine wpAny_bind (wpAny_standAt (wpAny_bind ?_));show wpAny _ _ (do let _ <- comprehension (LC2 elt tg iter ifs tg2 iter2 ifs2 scope pos) scope X.env _ (newList []) false (eval iter X.env) (some (assign (.Name y py) X.env))) _ _ s;refine wpAny_bind (wpAny_mono (wpAny_comprehension_free (use:=some (assign (.Name y py) X.env)) (Q:=λ_ s'=>SP X pins D .next s') rfl hs (CJ (S.clos I.ok)) S.kind hnames
  (thn (hi pins s σ H _ I h) λv s1 h1=>thn h1 λitv s2 h2=>?_)) (λ_ s' hq=>wpAny_pure (wpAny_pure hq)) λ_ _ e=>e)
 obtain⟨it,fp,tn,J,H2,rfl,I2,T,st2,f2,hW⟩:=h2;refine Hu (RR:=λacc C=>compPost (model X.prog X.w) X.A X.xe (some (assign (.Name y py) X.env)) (λ_ s'=>SP X pins D .next s') acc C) hc S hg hf hi2 hg2 hf2 he hs2 I2 T st2 f2 hW λs3 s6 H5 σ5 L I3 I6 f3 q=>?_;have J6:Inv X pins σ H5 s6:=FT (h'':=s6.heap) I3 I6 f3 (.refl ..);obtain⟨m,hm,_⟩:=I6.loc;have hm:s6.heap.Ns s3.heap.objs.size m:=hm;have hL:s3.heap.objs.size≠X.env.locals:=Ne.symm (ne_of_lt I3.lt);show wpAny _ _ (assign (.Name y py) X.env (.ref L)) _ _ s6;refine wpAny_assign_Name (Gf (v:=.ref L) J6 hN hiN (.inl hy) rfl (λs7 I7 ⟨a,sb,ha⟩=>?_) (.inr hy));have hca:s3.heap.objs.size≠a:=by
  rcases ha with rfl|ha
  .exact hL
  .obtain⟨v,z⟩:=I3.cell y a ha;exact Ne.symm (ne_of_lt z.lt)
 refine⟨m,hm.sameBut sb hca,λh' hs'=>?_⟩;refine⟨_,H5,I7.turned (t':=s7.toks) (it:=s3.heap.objs.size) (λb o hb e=>(hs'.2 b hb).trans e) I6.free hL (.inr I3.sz) (λx c e z=>?_) (λp hp z=>?_),q⟩
 .obtain⟨v,w⟩:=I3.cell x c e;exact absurd w.lt (by rw[z];exact lt_irrefl _)
 .exact absurd (Heap.lt_size (I3.pin p hp).1) (by rw[z];exact lt_irrefl _)
end
def Sg(K:PySem.W.Frag){X:Cx}{i:Nat}{y:Str}{elt tg iter tg2 iter2:Expr}{ifs ifs2:List Expr}{scope:Scope}{pos spos py:Pos}{loc fr:List Str}{ix:List Nat}{wi wi2:TI}{g g2:TG}{tf tf2:TT}{te:TE}{mi mi2:MI}{n n2:MG}{mf mf2:MT}{mm:ME}(hN:X.N.Nodup)(hiN:X.N[i]?=some y)(hy:X.env.scope.names.lookup y=some .local)(hc:X.calm=true)(S:CSc X scope fr ix)(hi:QI K X tg iter wi mi)
 (hg:∀s H ex,QG K (cCx X (loc++fr) scope s H ex) tg g n) (hf:∀s H ex,QF K (cCx X (loc++fr) scope s H ex) ifs tf mf) (hi2:∀s H ex,QI K (cCx X (loc++fr) scope s H ex) tg2 iter2 wi2 mi2) (hg2:∀s H ex,QG K (cCx X (loc++fr) scope s H ex) tg2 g2 n2) (hf2:∀s H ex,QF K (cCx X (loc++fr) scope s H ex) ifs2 tf2 mf2) (he:∀s H ex,QE K (cCx X (loc++fr) scope s H ex) elt te mm)
 (hsw:swapsWith (.ListComp elt [⟨tg,iter,ifs,0⟩,⟨tg2,iter2,ifs2,0⟩] scope pos) (some (.Name y py)) spos.line X.env=pure true:=by rfl) (hs:∀x,foldedSetIterable iter X.env x=pure x:=by intro _;rfl) (hs2:∀s H ex x,foldedSetIterable iter2 (cCx X (loc++fr) scope s H ex).env x=pure x:=by intro _ _ _ _;rfl):
 QS K X (.Assign [.Name y py] (.ListComp elt [⟨tg,iter,ifs,0⟩,⟨tg2,iter2,ifs2,0⟩] scope pos) spos) (DL (Eg loc.length ix wi g tf wi2 g2 tf2 te) (Co i)) (AI i (D2 loc.length ix mi n mf mi2 n2 mf2 mm)):=
 ⟨Sx hN hiN hy hc S hi.p (λs H ex=>(hg s H ex).p) (λs H ex=>(hf s H ex).p) (λs H ex=>(hi2 s H ex).p) (λs H ex=>(hg2 s H ex).p) (λs H ex=>(hf2 s H ex).p) (λs H ex=>(he s H ex).p) hsw hs hs2,Iv (Lz K (pos:=pos) hc S hi hg hf hi2 hg2 hf2 he hs hs2).r HP⟩
section
variable{prog:Program}{w:World}{A:Around}{E:Value->Shared->Prop}{s:Shared}
def NF{l:Addr}{vs:List Value}{Q:List Value->Shared->Prop}(hl:IsTup s.heap l vs.toArray)
 (h:Q vs { s with heap:=(s.heap.push (seqObj "list" #[] 0)).update s.heap.objs.size (Obj.mapSeq (·++vs.toArray)) }) (hsz:vs.length<=sizeLine:=by size_fits):
 wpAny (model prog w) A (collect (.ref l)) Q E s:=by
 obtain⟨o,ho,hc,n,hd⟩:=id hl;unfold collect;refine wpAny_bind (wpAny_runValue (codeAny_builtin entry_proto_collect' ?_));show wpAny _ _ (do again (.builtin "list.__iadd__" ⟨[<- newList [],.ref l],[]⟩)) _ _ s;refine wpAny_bind (wpAny_newList (wpAny_pure ⟨Code.quiet_builtin _ (by decide +kernel),codeAny_builtin entry_list_iadd' ?_⟩));show wpAny _ _ (Builtin.List.listExtendWith (.ref s.heap.objs.size) (.ref l) (.ref s.heap.objs.size)) _ _ { s with heap:=s.heap.push (seqObj "list" #[] 0) };unfold Builtin.List.listExtendWith;have ho':(s.heap.push (seqObj "list" #[] 0)).get? l=some o:=Heap.get?_push_of_some _ ho;refine wpAny_bind (wpAny_typeOf (T:="tuple") ⟨o,ho',hc⟩ ?_);have ht:(Value.type "tuple"==Value.type "tuple")=true:=by rfl
 rw[if_pos (by rw[ht];simp)];refine wpAny_bind (listItems_at ho' hd ?_);refine wpAny_bind (listItems_at (xs:=#[]) (n:=0) (Heap.get?_push_size _ rfl) rfl ?_);rw[if_neg (by simp)];refine wpAny_bind (listUpdate_at (xs:=#[]) (n:=0) (Heap.get?_push_size _ rfl) rfl ?_ (zero_le _) (by show(#[]++vs.toArray).size<=sizeLine+1;simp only[Array.size_append,size_toArray,length_nil];omega));refine wpAny_pure ?_;show wpAny (model prog w) A (do
  let o <- load s.heap.objs.size
  match o.data with
  |.seq xs _=>pure xs.toList
  | _=>unsupported "internal:collect") Q E { s with heap:=(s.heap.push (seqObj "list" #[] 0)).update s.heap.objs.size (Obj.mapSeq (·++vs.toArray)) }
 refine wpAny_bind (wpAny_load (get?_update_seq (Heap.get?_push_size _ rfl) _) ?_);show wpAny _ _ (pure ((#[]:Array Value)++vs.toArray).toList) Q E _;rw[show((#[]:Array Value)++vs.toArray).toList=vs by simp];exact wpAny_pure h
end
end L2
namespace L2
abbrev LO:=ES Ap Hf
end L2
namespace L2
open PySem PySem.Spec PyProof.Rows PySem.W
inductive KeysOk(h:Heap):List Value->List Int->Prop
 |kI {ks:List Value} {kz:List Int}:IntsAre ks kz->KeysOk h ks kz
 |kP {ks:List Value} {ps:List (Int×Int)}:ks.length=ps.length->(∀(i:Nat) (v:Value) (p:Int×Int),ks[i]?=some v->ps[i]?=some p->PairAt h v p)->(∀p∈ps,pok p)->KeysOk h ks (ps.map AV)
def KeysOk.len{h:Heap}{ks:List Value}{kz:List Int}(K:KeysOk h ks kz):kz.length=ks.length:=by
 cases K with
 |kI i=>have:=i.length;omega
 |kP hl _ _=>simp[hl]
def G7:∀{ks:List Value} {kz:List Int} {i:Nat},IntsAre ks kz->i<ks.length->∃t,ks.getD i .none=.int (kz.getD i 0) t
 |_,_,0,.cons ..,_=>⟨_,rfl⟩
 |_,_,i+1,.cons _ _ h,hi=>by
  obtain⟨t,e⟩:=G7 (i:=i) h (by simpa using hi);exact⟨t,by simpa using e⟩
section
variable{prog:Program}{w:World}{A:Around}{E:Value->Shared->Prop}{s:Shared}
def TZ{ks:List Value}{kz:List Int}(K:KeysOk s.heap ks kz)(h2:2<=ks.length){Q:SortKind->Shared->Prop}
 (h:∀κ,(∀(i j:Nat) (C:Bool->Shared->Prop),i<ks.length->j<ks.length->C (decide (kz.getD i 0<kz.getD j 0)) s->wpAny (model prog w) A (keyLt' κ (ks.getD i .none) (ks.getD j .none)) C (λ_ _=>False) s)->Q κ s):
 wpAny (model prog w) A (keyKind' ks.toArray) Q E s:=by
 cases K with
 |kI hk=>
  rw[ksk_kind (kz:=kz) (by simpa using hk) (by simpa using h2)];refine wpAny_pure (h _ λi j C hi hj hC=>?_);obtain⟨t,e1⟩:=G7 hk hi;obtain⟨u,e2⟩:=G7 hk hj;rw[e1,e2];exact kat_lt_int hC
 |@kP ps hl hp hok=>
  obtain⟨fs,t1,t2,t3⟩:=JW hl hp;have tT:∀f∈fs,Looks (model prog w) s.heap (typeOf f) (Value.type "int"):=λf hf=>by
   obtain⟨i,t,rfl⟩:=t3 f hf;exact .of_pure rfl
  refine kat_kind t1 (by omega) tT rfl (h _ λi j C hi hj hC=>?_);have pi:ps[i]?=some (ps.getD i (0,0)):=by simp[show i<ps.length by omega]
  have pj:ps[j]?=some (ps.getD j (0,0)):=by simp[show j<ps.length by omega]
  have vi:ks[i]?=some (ks.getD i Value.none):=by simp[hi]
  have vj:ks[j]?=some (ks.getD j Value.none):=by simp[hj]
  have ei:(ps.map AV).getD i 0=AV (ps.getD i (0,0)):=by simp[show i<ps.length by omega]
  have ej:(ps.map AV).getD j 0=AV (ps.getD j (0,0)):=by simp[show j<ps.length by omega]
  rw[ei,ej]at hC;exact Nn (hp i _ _ vi pi) (hp j _ _ vj pj) (hok _ (mem_of_getElem? pi)) (hok _ (mem_of_getElem? pj)) hC
def Wb{vs:List Value}{kz:List Int}(hl:kz.length=vs.length){p:Array Nat}(pa:PAr vs.length p)(hs:STo (λi=>kz.getD i 0) p vs.length):KskOut false kz vs (p.toList.map λi=>vs.getD i Value.none):=by
 have sz:=pa.size;refine⟨p.toList.map λi=>(kz.getD i 0,vs.getD i Value.none),?_,by rw[map_map];rfl,?_⟩
 .have e:kz.zip vs=(List.range vs.length).map λi=>(kz.getD i 0,vs.getD i Value.none):=by
   refine ext_getElem? λi=>?_;by_cases hi:i<vs.length
   .have hi2:i<kz.length:=by omega
    rw[(List.getElem?_zip_eq_some (z:=(kz[i],vs[i]))).mpr ⟨by simp[hi2],by simp[hi]⟩];simp[hi,hi2]
   .rw[List.getElem?_eq_none (by simp;omega),List.getElem?_eq_none (by simp;omega)]
  rw[e];have:=Array.perm_iff_toList_perm.mp pa;simpa using this.map _
 .rw[pairwise_map,List.pairwise_iff_getElem];intro i j hi hj hij;simp only[Array.length_toList]at hi hj;have:=hs i j (by omega) (by omega);unfold kv at this;simpa [Array.getD,hi,hj]using this
def Wc{a kS:Addr}{e e1:Nat}{ks vs:List Value}{kz:List Int}{P:PySem.Fin->Shared->Prop}(nk:s.heap.get? kS=some (seqObj "list" ks.toArray e))(na:s.heap.get? a=some (seqObj "list" #[] e1))(hka:kS≠a)(K:KeysOk s.heap ks kz)(hl:ks.length=vs.length)(h64:vs.length<64)
 (h:∀out:List Value,KskOut false kz vs out->P (.done (.ret .none)) { s with heap:=(s.heap.update kS (Obj.mapSeq λ_=>#[])).update a (Obj.mapSeq λ_=>out.toArray) }):
 wpAny (model prog w) A (ksk_end a false vs.toArray e1 (.ref kS) ks.toArray) P E s:=by
 have hz:kz.length=vs.length:=by have:=K.len;omega
 have s1:=Heap.SameBut.update s.heap kS (Obj.mapSeq λ_=>(#[]:Array Value));have na1:(s.heap.update kS (Obj.mapSeq λ_=>(#[]:Array Value))).get? a=some (seqObj "list" #[] e1):=(s1.2 a hka.symm).trans na;have tail:∀(st:SortSt) (out:List Value),(arrOf st).map (·.2)=out.toArray->out.length=vs.length->failedOf st=none->KskOut false kz vs out->wpAny (model prog w) A (ksk_tail a false e1 (.ref kS) st) P E s:=by
  intro st out ho hlo hf so;unfold ksk_tail;dsimp only;refine wpAny_bind (listUpdate_at nk rfl ?_ (by simp[sizeLine_eq];omega) (zero_le _));refine wpAny_bind (wpAny_letGo ?_);refine wpAny_bind (seqEpoch_at na1 rfl ?_);simp only[Bool.false_eq_true,if_false];rw[ho];refine wpAny_bind (listUpdate_at na1 rfl ?_ (zero_le _) (by rw[size_toArray,sizeLine_eq];omega));rw[hf];simp only[bne_self_eq_false,Bool.false_eq_true,if_false];exact wpAny_pure (h out so)
 unfold ksk_end;simp only[Bool.false_eq_true,if_false];by_cases h2:vs.toArray.size<2
 .rw[if_pos h2,if_pos h2];refine wpAny_bind (wpAny_pure ?_);rw[StateT.run_pure];refine wpAny_bind (wpAny_pure ?_);dsimp only;refine tail _ vs ?_ rfl rfl ⟨kz.zip vs,.refl _,?_,?_⟩
  .show(ks.toArray.zip vs.toArray).map (·.2)=vs.toArray;apply Array.toList_inj.mp;simp only[Array.toList_map,Array.toList_zip];exact map_snd_zip (by omega)
  .exact(map_snd_zip (by omega)).symm
  .have hzl:(kz.zip vs).length<2:=by simp at h2 ⊢;omega
   cases hh:kz.zip vs with
   |nil=>exact .nil
   |cons z r=>
    cases r with
    |nil=>exact List.pairwise_singleton _ _
    |cons y t=>rw[hh]at hzl;exact absurd hzl (by simp)
 .rw[if_neg h2,if_neg h2];have h2':2<=vs.length:=by simp at h2;omega
  refine wpAny_bind (TZ K (by omega) λκ cmp=>?_);have hsz:(ks.toArray.zip vs.toArray).size=vs.length:=by simp[hl]
  have it:∀i,i<vs.length->kas_item (ks.toArray.zip vs.toArray) i=(ks.getD i .none,vs.getD i .none):=λi hi=>by
   unfold kas_item;have h1:i<ks.length:=by omega
   have h3:i<(ks.toArray.zip vs.toArray).size:=by omega
   have e:(ks.toArray.zip vs.toArray).getD i (Value.none,Value.none)=(ks.toArray.zip vs.toArray)[i]:=by simp only[Array.getD,h3,dite_true];rfl
   have e2:(ks.toArray.zip vs.toArray)[i]=(ks[i],vs[i]):=by rw[Array.getElem_zip];simp
   rw[e,e2];simp[h1,hi]
  have est:SortSt.mk' κ (ks.toArray.zip vs.toArray) #[] 7 none=kas_st κ (ks.toArray.zip vs.toArray) (List.toArray (List.range vs.length)):=by
   unfold kas_st;rw[<- hsz,kas_range]
  have ask:(kas_sort vs.length).kasWp (kas_cmp prog w A κ (ks.toArray.zip vs.toArray)) (λp s'=>s'=s/\PAr vs.length p/\STo (λi=>kz.getD i 0) p vs.length) s:=by
   refine PWp.wp (n:=vs.length) (r:=λi=>kz.getD i 0) (P:=λs'=>s'=s) (λi j C s' hi hj e hC=>?_) ((NQ (by omega)).mono λp z s' e=>⟨e,z.1,z.2⟩) rfl;subst e;unfold kas_cmp;rw[it i hi,it j hj];exact cmp i j C (by omega) (by omega) (hC _ rfl)
  have run:=kas_runs (E:=E) (Q:=λ_ st' s'=>∃p:Array Nat,arrOf st'=p.map (kas_item (ks.toArray.zip vs.toArray))/\failedOf st'=none/\s'=s/\PAr vs.length p/\STo (λi=>kz.getD i 0) p vs.length) h2' h64 (λp st' s' x1 x2 x3 x4=>⟨p,x2,x3,x4⟩) ask;rw[<- est]at run;refine wpAny_bind (wpAny_mono run ?_ λ_ _ e=>e);rintro⟨⟨⟩,st'⟩ s' ⟨p,har,hf,rfl,pa,so⟩;dsimp only;refine tail st' (p.toList.map λi=>vs.getD i Value.none) ?_ ?_ hf (Wb hz pa so)
  .rw[har];apply Array.toList_inj.mp;simp only[Array.toList_map,map_map,List.toList_toArray];refine map_congr_left λi hi=>?_;have hi':i<vs.length:=by
    have:=(Array.perm_iff_toList_perm.mp pa).mem_iff.mp hi;simpa using this
   exact congrArg Prod.snd (it i hi')
  .simp[pa.size]
end
def He(G:Hp->Prop)(tb:TE)(cap:St):List Int->Hp->(List V->Hp->Prop)->Prop
 |[],H,Q=>Q [] H
 |n::r,H,Q=>G H/\tb (some (.int n)::cap) H λk H1=>He G tb cap r H1 λks H2=>Q (k::ks) H2
def Hj(K:PySem.W.Frag)(H:Hp)(ks:List V)(kz:List Int):Prop:=ks=kz.map V.int∨∃ps:List (Int×Int),kz=ps.map AV/\(∀p∈ps,pok p)/\ks.length=ps.length/\∀(i:Nat) (k:V) (p:Int×Int),ks[i]?=some k->ps[i]?=some p->∃x,k=.ref x/\SqT K H x [.int p.1,.int p.2]
def IU(kz ns ms:List Int):Prop:=∃zs:List (Int×Int),zs.Perm (kz.zip ns)/\zs.Pairwise (λa b=>a.1<=b.1)/\ms=zs.map (·.2)
def Dx:Value->Int
 |.int n _=>n
 |_=>0
def MW:∀{vs:List Value} {ns:List Int},IntsAre vs ns->vs.map Dx=ns
 |_,_,.nil=>rfl
 |_,_,.cons _ _ h=>by rw[map_cons,MW h];rfl
def MX:∀{vs:List Value} {ns:List Int},IntsAre vs ns->∀v∈vs,∃t,v=.int (Dx v) t
 |_,_,.nil,v,h=>by cases h
 |_,_,.cons _ _ h,v,hv=>by
  rcases mem_cons.mp hv with rfl|hv
  .exact⟨_,rfl⟩
  .exact MX h v hv
def F5:∀{xs:List V} {vs:List Value} {ns:List Int},xs=ns.map V.int->Vals xs vs->IntsAre vs ns
 |_,_,[],e,h=>by subst e;cases h;exact .nil
 |_,_,n::r,e,h=>by
  subst e;cases h with
  |cons a b=>obtain⟨t,rfl⟩:=a;exact .cons n t (F5 rfl b)
def Ia:∀{vs:List Value},(∀v∈vs,∃t,v=Value.int (Dx v) t)->Vals ((vs.map Dx).map V.int) vs
 |[],_=>.nil
 |v::r,h=>by
  refine .cons ?_ (Ia λw hw=>h w (mem_cons_of_mem _ hw));obtain⟨t,e⟩:=h v mem_cons_self;exact⟨t,e⟩
def aO{kz ns:List Int}{vs out:List Value}(hi:IntsAre vs ns)(so:KskOut false kz vs out):IU kz ns (out.map Dx)/\∀v∈out,∃t,v=Value.int (Dx v) t:=by
 obtain⟨zs,pm,rfl,pw⟩:=so;refine⟨⟨zs.map λz=>(z.1,Dx z.2),?_,?_,by rw[map_map,map_map];rfl⟩,?_⟩
 .have:=pm.map λz:Int×Value=>(z.1,Dx z.2)
  have e:((kz.zip vs).map λz:Int×Value=>(z.1,Dx z.2))=kz.zip ns:=by
   rw[<- MW hi,List.zip_map_right];rfl
  rwa [e]at this
 .rw[pairwise_map];exact pw.imp λh=>by simpa using h
 .intro v hv;obtain⟨z,hz,rfl⟩:=mem_map.mp hv;have:=pm.mem_iff.mp hz;exact MX hi _ (of_mem_zip this).2
section
variable{X:Cx}{pins:List (Addr×Obj)}{σ:St}{H:Hp}{s:Shared}{a:Addr}
def Inv.adopt{o:HO}(I:Inv X pins σ H s)(f:FpOk X pins H a)(h0:X.s₀.heap.objs.size<=a)(new:ObjOk X.prog X.w (upd H a o) s.heap a o):Inv X pins σ (upd H a o) s:=by
 obtain⟨hn,hL,hfs,_,hc,hp⟩:=f;have nb:∀b u,H b=some u->b≠a:=λb u e=>AO e hn;have n0:∀b o,X.s₀.heap.get? b=some o->b≠a:=λb o e=>ne_of_lt (lt_of_lt_of_le (Heap.lt_size e) h0);refine⟨I.ok,I.os,I.bare,⟨I.base.keep,I.base.slot,λb o e n hx=>?_,I.base.there,λb xs e=>?_,λb o u e=>?_,λb ps e=>?_⟩,I.loc,I.cell,?_,λx c e=>?_,λp hp'=>?_,λb u e=>?_,I.len⟩
 .rw[AB (n0 b o e)];exact I.base.free b o e n hx
 .have:=I.base.tups b xs e;rw[AB (nb b _ this)];exact this
 .have:=I.base.frzs b o u e;rw[AB (nb b _ this)];exact this
 .obtain⟨m,e1⟩:=I.base.tbls b ps e;exact⟨m,by rw[AB (nb b _ e1)];exact e1⟩
 .rw[AB (λz=>hL z.symm)];exact I.free
 .rw[AB (hc x c e)];exact I.freeC x c e
 .obtain⟨q1,q2,q3⟩:=I.pin p hp';exact⟨q1,by rw[AB (hp p hp')];exact q2,q3⟩
 .by_cases z:b=a
  .subst z;rw[AK]at e;cases e;exact new
  .rw[AB z]at e;exact(I.hok b u e).stay (λ_ _ _ q=>q) (λd q=>by rw[AB (nb d _ q)];exact q) λd xs q=>by rw[AB (nb d _ q)];exact q
def Wa(I:Inv X pins σ H s){ks:List V}{kz:List Int}{us:List Value}(k:Hj X.K H ks kz)(r:Vals ks us):KeysOk s.heap us kz:=by
 rcases k with rfl|⟨ps,rfl,hok,hl,hp⟩
 .exact .kI (F5 rfl r)
 .refine .kP (by rw[<- r.length];exact hl) (λi v p e1 e2=>?_) hok;have hi:i<ks.length:=by rw[hl];exact(List.getElem?_eq_some_iff.mp e2).1
  have ek:ks[i]?=some ks[i]:=by simp[hi]
  obtain⟨x,ex,sq⟩:=hp i _ p ek e2;obtain⟨v',ev,rel⟩:=Hx r ek;rw[e1]at ev;cases ev;rw[ex]at rel;have rel:v=Value.ref x:=rel;subst rel;obtain⟨jts,rj,⟨o,ho,hc,n,hd⟩,_⟩:=I.tuple sq;cases rj with
  |cons r1 t1=>
   cases t1 with
   |cons r2 t2=>
    cases t2;obtain⟨t,rfl⟩:=r1;obtain⟨t',rfl⟩:=r2;exact⟨x,o,t,t',n,rfl,ho,hc,hd⟩
end
section
variable{X:Cx}{pins:List (Addr×Obj)}{σ:St}{H:Hp}{s:Shared}
def Inv.turn1{b:Addr}{o:Obj}{h':Heap}{t':Nat}(I:Inv X ((b,o)::pins) σ H s)(f:FpOk X pins H b)(hs:Heap.SameBut b s.heap h'):Inv X pins σ H { s with heap:=h',toks:=t' }:=by
 have J:Inv X pins σ H s:=I.pins_of λp hp=>I.pin p (mem_append_right _ (mem_cons_of_mem _ hp));obtain⟨hn,hL,_,h1,h2,h3⟩:=f;exact J.turned (λc u n e=>(hs.2 c n).trans e) hn hL h1 h2 h3
def FpOk.more{b c:Addr}{o:Obj}(f:FpOk X pins H b)(h:c≠b):FpOk X ((c,o)::pins) H b:=by
 obtain⟨a1,a2,a3,a4,a5,a6⟩:=f;refine⟨a1,a2,a3,a4,a5,λp hp=>?_⟩;rcases mem_append.mp hp with q|q
 .exact a6 p (mem_append_left _ q)
 .rcases mem_cons.mp q with rfl|q
  .exact h
  .exact a6 p (mem_append_right _ q)
def Inv.repin{b:Addr}{o:Obj}(I:Inv X pins σ H s)(f:FpOk X pins H b)(e:s.heap.get? b=some o)(hd:∀v,o.data≠.cell v):Inv X ((b,o)::pins) σ H s:=
 I.pins_of λp hp=>by
  rcases mem_cons.mp hp with rfl|hp
  .exact⟨e,f.1,f.2.1,f.2.2.1,hd⟩
  .exact I.pin p (mem_append_right _ hp)
def OP{l:Value}{f:Addr}{ns:List Int}{G:Hp->Prop}{tb:TE}{cap:St}{Q:VK}{E:Value->Shared->Prop}(I:Inv X pins σ H s)(h64:ns.length<64)
 (hcol:∀(Q:List Value->Shared->Prop) (E:Value->Shared->Prop),(∀(g:Heap) (tk:Nat) (vs:List Value),(∀b o,s.heap.get? b=some o->g.get? b=some o)->IntsAre vs ns->Q vs { s with heap:=g,toks:=tk })->wpAny (model X.prog X.w) X.A.in1 (collect l) Q E s)
 (turn:∀(pins':List (Addr×Obj)) (H1:Hp) (s1:Shared) (n:Int) (u:Value) (Q1:VK),(∀p∈pins,p∈pins')->Inv X pins' σ H1 s1->RelV (.int n) u->G H1->tb (some (.int n)::cap) H1 Q1->wpAny (model X.prog X.w) X.A.in1.in1 (call (.ref f) [u]) (EP X pins' σ Q1) (λ_ _=>False) s1)
 (h:He G tb cap ns H λks H3=>∃kz,Hj X.K H3 ks kz/\∀p ms,H3 p=none->IU kz ns ms->Q (.ref p) (upd H3 p (.lst (ms.map V.int)))):
 wpAny (model X.prog X.w) X.A (call (.builtin "sorted") [l] [(Str.ofString "key",.ref f)]) (EP X pins σ Q) E s:=by
 refine call_function_entry_kw kind_sorted plain_sorted entry_sorted (ksk_s1 _ _) ?_;unfold Builtin.«sorted»;refine wpAny_bind (m:=checkCount "sorted" 1 1 _) (wpAny_pure ?_);refine wpAny_bind (hcol _ _ λg tk vs keep0 hi=>?_)
 replace I:Inv X pins σ H { s with heap:=g,toks:=tk }:=I.kept (t':=tk) keep0
 clear hcol;generalize { s with heap:=g,toks:=tk }=s at I ⊢;clear keep0 g tk;have line:vs.length<=sizeLine:=by have:=hi.length;rw[sizeLine_eq];omega
 have h64:vs.length<64:=by have:=hi.length;omega
 refine wpAny_bind (wpAny_newList ?_ line);show wpAny _ _ _ _ _ { s with heap:=s.heap.push (seqObj "list" vs.toArray 0) };have hoL:(s.heap.push (seqObj "list" vs.toArray 0)).get? s.heap.objs.size=some (seqObj "list" vs.toArray 0):=Heap.get?_push_size _ rfl;have keep1:∀b o,s.heap.get? b=some o->(s.heap.push (seqObj "list" vs.toArray 0)).get? b=some o:=λb o q=>Heap.get?_push_of_some _ q;have sz1:(s.heap.push (seqObj "list" vs.toArray 0)).objs.size=s.heap.objs.size+1:=by rw[size_push']
 generalize s.heap.push (seqObj "list" vs.toArray 0)=h1 at hoL keep1 sz1 ⊢;have fa:∀H',H' s.heap.objs.size=none->FpOk X pins H' s.heap.objs.size:=λH' hn=>I.fpOk (le_refl _) hn;have fk:∀H',H' (s.heap.objs.size+2)=none->FpOk X pins H' (s.heap.objs.size+2):=λH' hn=>I.fpOk (by omega) hn;refine wpAny_bind (wpAny_holding (wpAny_call_entry_kw slot_list_sort ⟨_,hoL,rfl⟩ entry_list_sort ?_ (ksk_l1 _ _)));show wpAny (model X.prog X.w) X.A.in1.in1 (Builtin.«list.sort» ⟨[.ref (s.heap.objs.size)],[(Str.ofString "key",.ref f)]⟩) _ _ _;rw[ksk_t1];have u1:=Heap.SameBut.update h1 (s.heap.objs.size) (Obj.mapSeq λ_=>(#[]:Array Value));obtain⟨e1,ho1⟩:∃e1,(h1.update (s.heap.objs.size) (Obj.mapSeq λ_=>(#[]:Array Value))).get? (s.heap.objs.size)=some (seqObj "list" #[] e1):=⟨_,get?_update_seq hoL λ_=>#[]⟩
 have sz2:(h1.update (s.heap.objs.size) (Obj.mapSeq λ_=>(#[]:Array Value))).objs.size=s.heap.objs.size+1:=by rw[Heap.size_update,sz1]
 have keep2:∀b o,s.heap.get? b=some o->(h1.update (s.heap.objs.size) (Obj.mapSeq λ_=>(#[]:Array Value))).get? b=some o:=λb o q=>(u1.2 b (ne_of_lt (Heap.lt_size q))).trans (keep1 b o q);unfold ksk_tree;refine wpAny_bind (listItems_at hoL rfl ?_);refine wpAny_bind (listUpdate_at hoL rfl ?_ (by rw[size_toArray,sizeLine_eq];omega) (zero_le _));refine wpAny_bind (seqEpoch_at ho1 rfl ?_);generalize h1.update (s.heap.objs.size) (Obj.mapSeq λ_=>(#[]:Array Value))=h2 at ho1 sz2 keep2 ⊢;refine wpAny_bind (wpAny_newTuple ?_ (by show vs.length<=_;exact line));refine wpAny_bind (wpAny_newList ?_ (zero_le _));have sz3:(h2.push (seqObj "tuple" vs.toArray 0)).objs.size=s.heap.objs.size+2:=by rw[size_push',sz2]
 have okS:((h2.push (seqObj "tuple" vs.toArray 0)).push (seqObj "list" #[] 0)).get? (s.heap.objs.size+2)=some (seqObj "list" #[] 0):=by rw[<- sz3];exact Heap.get?_push_size _ rfl
 have oa4:((h2.push (seqObj "tuple" vs.toArray 0)).push (seqObj "list" #[] 0)).get? (s.heap.objs.size)=some (seqObj "list" #[] e1):=Heap.get?_push_of_some _ (Heap.get?_push_of_some _ ho1);have keep4:∀b o,s.heap.get? b=some o->((h2.push (seqObj "tuple" vs.toArray 0)).push (seqObj "list" #[] 0)).get? b=some o:=λb o q=>Heap.get?_push_of_some _ (Heap.get?_push_of_some _ (keep2 b o q));have ekS:∀o:Obj,Value.ref ((({ s with heap:=h2.push o }:Shared)).heap.objs.size)=Value.ref (h2.push o).objs.size:=λ_=>rfl;refine wpAny_holding ?_;have goal:∀kS:Addr,kS=s.heap.objs.size+2->wpAny (model X.prog X.w) X.A.in1.in1 (ksk_rest (s.heap.objs.size) (.ref f) false vs.toArray e1 (.ref kS)) (λfin s'=>∃v,fin=PySem.Fin.done (.ret v)/\wpAny (model X.prog X.w) X.A.in1 (ret (.ref (s.heap.objs.size))) (λfin s'=>∃v,fin=PySem.Fin.done (.ret v)/\EP X pins σ Q v s') E s') E { s with heap:=(h2.push (seqObj "tuple" vs.toArray 0)).push (seqObj "list" #[] 0) }:=by
  intro kS ek;rw[ek];have fresh0:H (s.heap.objs.size)=none/\H (s.heap.objs.size+2)=none:=⟨I.hok.fresh (by omega),I.hok.fresh (by omega)⟩
  have I4:Inv X pins σ H { s with heap:=(h2.push (seqObj "tuple" vs.toArray 0)).push (seqObj "list" #[] 0) }:=I.kept (t':=s.toks) keep4;have nak:s.heap.objs.size≠s.heap.objs.size+2:=by omega
  have I5:=(I4.repin (fk H fresh0.2) okS (λv z=>by cases z)).repin ((fa H fresh0.1).more nak.symm) oa4 (λv z=>by cases z);unfold ksk_rest;refine wpAny_bind (wpAny_rule ?_)
  first
   |rw[List.forIn_toArray]
   |(rw[<- Array.forIn_toList];simp only[List.toList_toArray])
   |rw[<- Array.forIn_toList]
  refine wpAny_bind (ksk_fold (λi s'=>∃(H':Hp) (kA:Array Value) (e:Nat) (ks:List V),Inv X ((s.heap.objs.size,seqObj "list" #[] e1)::(s.heap.objs.size+2,seqObj "list" kA e)::pins) σ H' s'/\Vals ks kA.toList/\kA.size=i /\
   He G tb cap (ns.drop i) H' λks' H3=>∃kz,Hj X.K H3 (ks++ks') kz/\∀p ms,H3 p=none->IU kz ns ms->Q (.ref p) (upd H3 p (.lst (ms.map V.int)))) vs 0 _ ⟨H,#[],0,[],I5,.nil,rfl,h⟩ ?step ?done)
  case step=>
   rintro j x s' hx ⟨H',kA,e,ks,J,rk,hsz,hgo⟩;simp only[Nat.zero_add]at hsz hgo ⊢;have hj:j<vs.length:=(List.getElem?_eq_some_iff.mp hx).1;have hjn:j<ns.length:=by have:=hi.length;omega
   have enx:ns[j]?=some ns[j]:=by simp[hjn]
   have edr:ns.drop j=ns[j]::ns.drop (j+1):=List.drop_eq_getElem_cons hjn;rw[edr]at hgo;obtain⟨hG,hgo⟩:=hgo;have rx:RelV (.int ns[j]) x:=by
    obtain⟨t,et⟩:=G7 hi hj;have:vs.getD j .none=x:=by simp[List.getD,hx]
    rw[this]at et;have:ns.getD j 0=ns[j]:=by simp[hjn]
    rw[this]at et;exact⟨t,et⟩
   refine wpAny_bind (wpAny_attempt (wpAny_mono (turn _ H' s' ns[j] x _ (λp hp=>mem_cons_of_mem _ (mem_cons_of_mem _ hp)) J rx hG hgo) (λv s'' he=>?_) λ_ _ hF=>hF.elim));obtain⟨k,H2,J2,r2,hgo2⟩:=he;dsimp only;have pk:=J2.pin (s.heap.objs.size+2,seqObj "list" kA e) (mem_append_right _ (mem_cons_of_mem _ mem_cons_self));have pa:=J2.pin (s.heap.objs.size,seqObj "list" #[] e1) (mem_append_right _ mem_cons_self);have u2:=Heap.SameBut.update s''.heap (s.heap.objs.size+2) (Obj.mapSeq (·.push v));obtain⟨c2,hc2⟩:∃c2,(s''.heap.update (s.heap.objs.size+2) (Obj.mapSeq (·.push v))).get? (s.heap.objs.size+2)=some (seqObj "list" (kA.push v) c2):=⟨_,get?_update_seq pk.1 (·.push v)⟩
   refine wpAny_bind (listUpdate_at pk.1 rfl ?_ (by rw[sizeLine_eq];omega) (le_trans (Nat.le_of_eq (Array.size_push ..)) (by rw[sizeLine_eq];omega)));have J3:Inv X ((s.heap.objs.size+2,seqObj "list" kA e)::pins) σ H2 s'':=J2.pins_of λp hp=>J2.pin p (mem_append_right _ (mem_cons_of_mem _ hp));have J4:Inv X pins σ H2 { s'' with heap:=s''.heap.update (s.heap.objs.size+2) (Obj.mapSeq (·.push v)) }:=J3.turn1 (t':=s''.toks) (fk H2 pk.2.1) u2;have oa:(s''.heap.update (s.heap.objs.size+2) (Obj.mapSeq (·.push v))).get? (s.heap.objs.size)=some (seqObj "list" #[] e1):=(u2.2 _ nak).trans pa.1;have J5:=(J4.repin (fk H2 pk.2.1) hc2 (λv z=>by cases z)).repin ((fa H2 pa.2.1).more nak.symm) oa (λv z=>by cases z);refine wpAny_pure ⟨rfl,H2,kA.push v,c2,ks++[k],J5,?_,by simp[hsz],?_⟩
   .rw[Array.toList_push];exact rk.append (.cons r2 .nil)
   .simpa [append_assoc]using hgo2
  case done=>
   rintro s' ⟨H',kA,e,ks,J,rk,hsz,hgo⟩;have hdr:ns.drop (0+vs.length)=[]:=List.drop_of_length_le (by have:=hi.length;omega);rw[hdr]at hgo;obtain⟨kz,kv,fin⟩:∃kz,Hj X.K H' (ks++[]) kz/\∀p ms,H' p=none->IU kz ns ms->Q (.ref p) (upd H' p (.lst (ms.map V.int))):=hgo;rw[append_nil]at kv;have pk:=J.pin (s.heap.objs.size+2,seqObj "list" kA e) (mem_append_right _ (mem_cons_of_mem _ mem_cons_self));have pa:=J.pin (s.heap.objs.size,seqObj "list" #[] e1) (mem_append_right _ mem_cons_self);refine wpAny_bind (listItems_at pk.1 rfl ?_);have ekA:kA=kA.toList.toArray:=by simp
   rw[ekA]at pk ⊢;have lk:kA.toList.length=vs.length:=by rw[Array.length_toList];omega
   refine Wc pk.1 pa.1 nak.symm (Wa J kv rk) lk h64 λout so=>⟨_,rfl,wpAny_pure ⟨_,rfl,?_⟩⟩
   obtain⟨on,oi⟩:=aO hi so;have u5:=Heap.SameBut.update s'.heap (s.heap.objs.size+2) (Obj.mapSeq λ_=>(#[]:Array Value));have oa:(s'.heap.update (s.heap.objs.size+2) (Obj.mapSeq λ_=>(#[]:Array Value))).get? (s.heap.objs.size)=some (seqObj "list" #[] e1):=(u5.2 _ nak).trans pa.1;have u6:=Heap.SameBut.update (s'.heap.update (s.heap.objs.size+2) (Obj.mapSeq λ_=>(#[]:Array Value))) (s.heap.objs.size) (Obj.mapSeq λ_=>out.toArray);obtain⟨c6,hc6⟩:∃c6,((s'.heap.update (s.heap.objs.size+2) (Obj.mapSeq λ_=>(#[]:Array Value))).update (s.heap.objs.size) (Obj.mapSeq λ_=>out.toArray)).get? (s.heap.objs.size)=some (seqObj "list" out.toArray c6):=⟨_,get?_update_seq oa λ_=>out.toArray⟩
   have J3:Inv X ((s.heap.objs.size+2,seqObj "list" kA e)::pins) σ H' s':=J.pins_of λp hp=>J.pin p (mem_append_right _ (mem_cons_of_mem _ hp));have J4:Inv X pins σ H' { s' with heap:=s'.heap.update (s.heap.objs.size+2) (Obj.mapSeq λ_=>(#[]:Array Value)) }:=J3.turn1 (t':=s'.toks) (fk H' pk.2.1) u5;have J5:Inv X pins σ H' { s' with heap:=(s'.heap.update (s.heap.objs.size+2) (Obj.mapSeq λ_=>(#[]:Array Value))).update (s.heap.objs.size) (Obj.mapSeq λ_=>out.toArray) }:=(J4.repin (fa H' pa.2.1) oa (λv z=>by cases z)).turn1 (t':=s'.toks) (fa H' pa.2.1) u6;have lo:out.length<64:=by
    obtain⟨zs,pm,rfl,_⟩:=so;have:=pm.length_eq;simp at this ⊢;omega
   have J6:=J5.adopt (o:=.lst ((out.map Dx).map V.int)) (fa H' pa.2.1) (I.sz) ⟨by simp[sizeLine_eq];omega,out,c6,Ia oi,hc6⟩;exact⟨.ref _,_,J6,rfl,fin _ _ pa.2.1 on⟩
 exact goal _ sz3
end
def Src(K:PySem.W.Frag)(H:Hp)(a:Addr)(ns:List Int):Prop:=SqT K H a (ns.map V.int)∨∃n:Nat,n<64/\H a=some (.rng 0 n)/\ns=(List.range n).map λk:Nat=>(k:Int)
def Ic(K:PySem.W.Frag)(P:Addr)(q:Str)(pos:Pos)(ix:List Nat)(te tb:TE):TE:=λσ H Q=>te σ H λv H1=>∃(a:Addr) (ns:List Int) (ps:Array Value),v=.ref a/\Src K H1 a ns/\ns.length<64/\H1 P=some (.tbl ps)/\JR H1 q pos ps /\
 ∀H2 c,TabStep P q pos H1 H2->H2 c=some (.ext (cdF c q))->He (λH=>H c=some (.ext (cdF c q))) tb (ix.map λi=>(σ[i]?).join) ns H2 λks H3=>∃kz,Hj K H3 ks kz/\∀p ms,H3 p=none->IU kz ns ms->Q (.ref p) (upd H3 p (.lst (ms.map V.int)))
def TabStep.rd{P:Addr}{q:Str}{pos:Pos}{H H':Hp}{ps:Array Value}(t:TabStep P q pos H H')(hP:H P=some (.tbl ps)){a:Addr}{xs:List V}(r:Rd H a (.tup xs)):Rd H' a (.tup xs):=by
 rcases t with rfl|⟨c,hc,_,rfl⟩
 .exact r
 .have ne:∀u,H a=some u->(∀ps,u≠.tbl ps)->upd (upd H P (.tbl #[rawInt pos.line,rawInt pos.col,.ref c])) c (.ext (cdF c q)) a=some u:=λu e n=>by
   rw[AB (AO e hc),AB (λz=>by subst z;rw[hP]at e;cases e;exact n _ rfl)];exact e
  rcases r with r|⟨o,r⟩
  .exact .inl (ne _ r λps z=>by cases z)
  .exact .inr ⟨o,ne _ r λps z=>by cases z⟩
def TabStep.sqt{K:PySem.W.Frag}{P:Addr}{q:Str}{pos:Pos}{H H':Hp}{ps:Array Value}(t:TabStep P q pos H H')(hP:H P=some (.tbl ps)){a:Addr}{xs:List V}(r:SqT K H a xs):SqT K H' a xs:=by
 rcases r with r|r
 .exact .inl (t.rd hP r)
 .exact .inr r
def TabStep.src{K:PySem.W.Frag}{P:Addr}{q:Str}{pos:Pos}{H H':Hp}{ps:Array Value}(t:TabStep P q pos H H')(hP:H P=some (.tbl ps)){a:Addr}{ns:List Int}(r:Src K H a ns):Src K H' a ns:=by
 rcases r with r|⟨n,h,e,z⟩
 .exact .inl (t.sqt hP r)
 .refine .inr ⟨n,h,?_,z⟩;rcases t with rfl|⟨c,hc,_,rfl⟩
  .exact e
  .rw[AB (AO e hc),AB (λz=>by subst z;rw[hP]at e;cases e)];exact e
def P1{n:Nat}{acc:Array Value}(it:ItemsOf (λi v=>∃t,v=.int (0+i*1) t) acc n):IntsAre acc.toList ((List.range n).map λk:Nat=>(k:Int)):=by
 have:=JF (lo:=0) it;have e:Bc 0 n=((List.range n).map λk:Nat=>(k:Int)).map V.int:=by
  have:∀(lo:Nat) (n:Nat),Bc (lo:Int) n=((List.range' lo n).map λk:Nat=>(k:Int)).map V.int:=by
   intro lo n
   induction n generalizing lo with
   |zero=>rfl
   |succ n ih=>rw[Bc,List.range'_succ];simp only[map_cons];rw[<- ih (lo+1)];rfl
  rw[List.range_eq_range'];exact this 0 n
 rw[e]at this;exact F5 rfl this
section
variable{X:Cx}{c P:Addr}{scope:Scope}{fr:List Str}{ix:List Nat}{prm:Str}{params:Arguments}{body e:Expr}{p pos lpos kpos:Pos}{te tb:TE}
def T8(LA:LamAt X c P)(S:CSc X scope fr ix)(L:LSc scope prm)(hr:Room 3 X.A)(hcm:X.calm=true)(hg:Gl X "sorted")(hm:X.mg "sorted"=none)
 (hbind:∀(cl:List (Str×Addr)) (pm cd ctv us:Value),bindArgs (kla_fn "<lambda>" (X.env.qual++"<lambda>") params body scope cl pm cd ctv) ⟨[us],[]⟩=pure [(prm,us)])
 (he:PE X e te) (hb:∀(f:Addr) (cd:Value) (s:Shared) (H:Hp),PE (lCx X X.A.in1.in1 (prm::fr) (X.env.qual++"<lambda>") scope f cd (Aa X.env.cells scope.names []) s H) body tb)
 (hdef:defaultsOf params X.env=([],[]):=by rfl) (hs:starEach [e] X.env=[(false,eval e X.env)]:=by rfl):
 PE X (.Call (.Name "sorted" p) [e] [⟨some "key",.Lambda params body scope lpos,kpos⟩] pos) (Ic X.K P (X.env.qual++"<lambda>") lpos ix te tb):=by
 intro pins s σ H Q I h;have PAe:PA X [e] (BD te C2):=Bz he D1 hs;refine wpAny_Call_Name_kw (D3 (u:=.builtin "sorted") I hg hm Kj ?_);have pl:(backTo pos (starEach [e] X.env)).any (·.1)=false:=by rw[hs];rfl
 refine callWith_builtin_kwB pl rfl (evalArgs_kw2 (env:=X.env) (e:=e) (rest:=[]) (kws:=[⟨some "key",.Lambda params body scope lpos,kpos⟩]) rfl (thn (PAe pos pins s σ H (λvs H1=>match vs with
  |[v]=>∃(a:Addr) (ns:List Int) (ps:Array Value),v=.ref a/\Src X.K H1 a ns/\ns.length<64/\H1 P=some (.tbl ps)/\JR H1 (X.env.qual++"<lambda>") lpos ps /\
   ∀H2 c,TabStep P (X.env.qual++"<lambda>") lpos H1 H2->H2 c=some (.ext (cdF c (X.env.qual++"<lambda>")))->He (λH=>H c=some (.ext (cdF c (X.env.qual++"<lambda>")))) tb (ix.map λi=>(σ[i]?).join) ns H2 λks H3=>∃kz,Hj X.K H3 ks kz/\∀p ms,H3 p=none->IU kz ns ms->Q (.ref p) (upd H3 p (.lst (ms.map V.int)))
  | _=>False) I h) λus s1 hq=>?_) hs)
 obtain⟨vs,H1,I1,r,q⟩:=hq
 match vs,q with
 |[v],q=>
 obtain⟨a,ns,ps,rfl,sq,h64,hP,hg1,go⟩:=q;obtain⟨u,rfl,ru⟩:=CT r;cases ru;show wpAny _ _ (evalAll [(do let v <- eval (.Lambda params body scope lpos) X.env;standAt pos;pure v)]) _ _ s1;refine wpAny_evalAll_cons (wpAny_bind (TX S LA I1 hdef hP hg1 λf cd ctv H2 s2 I2 M=>wpAny_bind (wpAny_standAt (wpAny_pure (wpAny_evalAll_nil ?_)))));show wpAny _ _ (call (.builtin "sorted") [.ref a] [(Str.ofString "key",.ref f)]) _ _ s2;have sq2:=M.step.src hP sq;obtain⟨c',rfl,hc'⟩:=M.cdc;have ff:FpOk X pins H2 f:=I1.fpOk M.new M.fre;have I3:=I2.repin ff M.fn (λv z=>by cases z);refine wpAny_mono (OP (pins:=(f,_)::pins) I3 h64 (λQ E hq=>?_) (λpins' H' s' n u Q1 sub J ru hG hq=>?_) (go H2 c' M.step hc')) (λv s' hv=>?_) λ_ _ z=>z
 .rcases sq2 with sq2|⟨n,hn,er,rfl⟩
  .obtain⟨its,rv,tp,_⟩:=I2.tuple sq2;have hi:IntsAre its ns:=F5 rfl rv;have hlen:its.length<=sizeLine:=by have:=hi.length;rw[sizeLine_eq];omega
   refine NF tp (hq _ s2.toks its (λb o q=>?_) hi) hlen;have hlt:b<s2.heap.objs.size:=Heap.lt_size q;rw[Heap.get?_update_ne _ _ _ _ (ne_of_lt hlt),Heap.get?_push_ne _ _ _ (ne_of_lt hlt)];exact q
  .obtain⟨t,u,v,hr'⟩:∃t u v,s2.heap.get? a=some { cls:=.type "range",data:=.fields #[.int 0 t,.int n u,.int 1 v] }:=I2.hok a _ er;refine N6 (n:=n) (I2.ok.hd hcm) hr' (small_one (by omega) (by omega) (by omega) (by omega)) (by rw[U7];omega) (by omega) λg tk acc kp it=>hq g tk _ kp (P1 it)
 .have pf:=J.pin (f,_) (mem_append_right _ (sub _ mem_cons_self));exact TY (A:=X.A.in1.in1) (f:=f) S L J rfl hr.in1.in1 pf.1 (J.hok c' _ hG).1 (λus=>hbind _ _ _ _ us) (λs H=>hb f _ s H) ru hq
 .obtain⟨y,H',J,ry,qy⟩:=hv;exact⟨y,H',J.pins_of λp hp=>J.pin p (mem_append_right _ (mem_cons_of_mem _ hp)),ry,qy⟩
end
def LP(K:PySem.W.Frag)(P:Addr)(q:Str)(pos:Pos):Prop:=∃p':Pos,(P,q,p')∈Ca K/\((Ca K).map (·.1)).Nodup/\p'.line=pos.line/\p'.col=pos.col
open Classical in
def E8(ds:List D):Option (List Int):=match As ds with
 |some ns=>some ns
 |none=>match D0 ds with
  |some ps=>if ∀p∈ps,pok p then some (ps.map AV)else none
  |none=>none
open Classical in
def ER(mb:ME)(cap:Ls)(hd:Hd):List Int->Option (List D)
 |[]=>some []
 |n::r=>match mb (some (.im (.int n))::cap) hd with
  |some (k,h)=>match ER mb cap hd r with
   |some ks=>if h=hd then some (k::ks)else none
   |none=>none
  |none=>none
def KR{mb:ME}{cap:Ls}{hd:Hd}:∀{ns:List Int} {ks:List D},ER mb cap hd ns=some ks->ks.length=ns.length
 |[],ks,e=>by cases e;rfl
 |n::r,ks,e=>by
  unfold ER at e;split at e
  .split at e
   .next ks' e2=>
    split at e
    .cases e;simp[KR e2]
    .cases e
   .cases e
  .cases e
def Oz{ds:List D}{kz:List Int}(e:E8 ds=some kz):kz.length=ds.length:=by
 unfold E8 at e;split at e
 .next ns e6=>cases e;rw[Dq e6];simp
 .split at e
  .next ps e6=>
   split at e
   .cases e;rw[Gs e6];simp
   .cases e
  .cases e
def Ez(kz ns:List Int):List Int:=((kz.zip ns).mergeSort λa b=>decide (a.1<=b.1)).map (·.2)
def TC{kz ns ms:List Int}(nd:kz.Nodup)(hl:kz.length=ns.length)(o:IU kz ns ms):ms=Ez kz ns:=by
 obtain⟨zs,pm,pw,rfl⟩:=o;have pm2:((kz.zip ns).mergeSort λa b=>decide (a.1<=b.1)).Perm (kz.zip ns):=mergeSort_perm ..;have pw2:((kz.zip ns).mergeSort λa b=>decide (a.1<=b.1)).Pairwise λa b=>a.1<=b.1:=by
  have:=pairwise_mergeSort (le:=λa b:Int×Int=>decide (a.1<=b.1)) (by intro a b c h1 h2;simp at *;omega) (by intro a b;simp;omega) (kz.zip ns);exact this.imp (by simp)
 have inj:∀a∈kz.zip ns,∀b∈kz.zip ns,a.1=b.1->a=b:=by
  intro a ha b hb e;obtain⟨i,hi⟩:=mem_iff_getElem?.mp ha;obtain⟨j,hj⟩:=mem_iff_getElem?.mp hb;obtain⟨i1,i2⟩:=List.getElem?_zip_eq_some.mp hi;obtain⟨j1,j2⟩:=List.getElem?_zip_eq_some.mp hj;rw[e]at i1;have:i=j:=(List.getElem?_inj (List.getElem?_eq_some_iff.mp i1).1 nd).mp (i1.trans j1.symm);subst this;rw[i2]at j2;exact Prod.ext e (Option.some.inj j2)
 have:zs=(kz.zip ns).mergeSort λa b=>decide (a.1<=b.1):=
  (pm.trans pm2.symm).eq_of_pairwise (le:=λa b=>a.1<=b.1) (λa b ha hb h1 h2=>inj a (pm.mem_iff.mp ha) b (pm2.mem_iff.mp hb) (Int.le_antisymm h1 h2)) pw pw2
 rw[this];rfl
def LM(m:MA):Ls->Hd->Option (List Int×Hd):=λls hd=>(m ls hd).bind λp=>match p.1 with
 |[.im (.int j)]=>if 0<=j/\j<64 then some ((List.range j.toNat).map λk:Nat=>(k:Int),p.2)else none
 |_=>none
open Classical in
def E6(src:Ls->Hd->Option (List Int×Hd))(ix:List Nat)(mb:ME):MA:=λls hd=>(src ls hd).bind λp=>(ER mb (ix.map λi=>(ls[i]?).join) p.2 p.1).bind λks=>(E8 ks).bind λkz=>
 if p.1.length<64/\kz.Nodup then some ((Ez kz p.1).map λi=>.im (.int i),p.2)else none
abbrev Nm(m:MA)(ix:List Nat)(mb:ME):MA:=E6 (LM m) ix mb
def Tx(K:PySem.W.Frag)(te:TE)(src:Ls->Hd->Option (List Int×Hd)):Prop:=∀(ρ:List Addr) (σ:St) (H:Hp) (hd:Hd) (ls:Ls) (Q:VK) (ns:List Int) (hd':Hd),RH K ρ H hd->RL K ρ H ls σ->src ls hd=some (ns,hd') ->
 (∀ρ1 H1 a,Ext ρ H ρ1 H1->RH K ρ1 H1 hd'->Src K H1 a ns->Q (.ref a) H1)->te σ H Q
section
variable{K:PySem.W.Frag}{ρ:List Addr}{H:Hp}{hd:Hd}
def Rp{P:Addr}{q:Str}{pos:Pos}{H2:Hp}{ps:Array Value}(R:RH K ρ H hd)(hP:H P=some (.tbl ps))(t:TabStep P q pos H H2)(TI:LP K P q pos):RH K ρ H2 hd/\Ext ρ H ρ H2:=by
 rcases t with rfl|⟨c,hc,ncP,rfl⟩
 .exact⟨R,.refl⟩
 .obtain⟨p',et,nd,e1,e2⟩:=TI;have nP:∀b,b∈ρ->b≠P:=λb hb z=>by
   subst z;rcases R.mut hb with⟨y,w⟩|⟨y,w⟩<;>(rw[hP]at w;cases w)
  have nc:∀b u,H b=some u->b≠c:=λb u e=>AO e hc;have ex:Ext ρ H ρ (upd (upd H P (.tbl #[rawInt pos.line,rawInt pos.col,.ref c])) c (.ext (cdF c q))):=by
   refine⟨⟨[],by simp,by simp⟩,λb o e nb nt'=>?_,λb ps e=>?_⟩
   .rw[AB (nc b _ e),AB (λz=>by subst z;rw[hP]at e;cases e;exact nt' _ rfl)];exact e
   .by_cases z:b=P
    .subst z;exact⟨_,by rw[AB (nc _ _ hP),AK]⟩
    .exact⟨ps,by rw[AB (nc b _ e),AB z];exact e⟩
  refine⟨⟨R.len,R.nd,λx hx=>?_,λn o a h1 h2=>?_⟩,ex⟩
  .by_cases hxP:x.1=P
   .have ex:x=(P,q,p'):=by
     obtain⟨i,hi⟩:=mem_iff_getElem?.mp hx;obtain⟨j,hj⟩:=mem_iff_getElem?.mp et;have i1:((Ca K).map (·.1))[i]?=some P:=by rw[List.getElem?_map,hi];simp[hxP]
     have j1:((Ca K).map (·.1))[j]?=some P:=by rw[List.getElem?_map,hj];rfl
     have:i=j:=(List.getElem?_inj (List.getElem?_eq_some_iff.mp i1).1 nd).mp (i1.trans j1.symm);subst this;exact Option.some.inj (hi.symm.trans hj)
    subst ex;refine⟨#[rawInt pos.line,rawInt pos.col,.ref c],by rw[AB (nc _ _ hP),AK],.inr ⟨c,?_,AK⟩⟩;show #[rawInt pos.line,rawInt pos.col,Value.ref c]=#[rawInt p'.line,rawInt p'.col,Value.ref c];rw[e1,e2]
   .obtain⟨ps',hx1,hG⟩:=R.tabs x hx;refine⟨ps',by rw[AB (nc _ _ hx1),AB hxP];exact hx1,?_⟩;rcases hG with g|⟨c',g1,g2⟩
    .exact .inl g
    .exact .inr ⟨c',g1,by rw[AB (nc _ _ g2),AB (λz=>by subst z;rw[hP]at g2;cases g2)];exact g2⟩
  .obtain⟨ho,q1,q2⟩:=R.ob n o a h1 h2;exact⟨ho,by rw[AB (nc a _ q1),AB (nP a (mem_of_getElem? h2))];exact q1,by simpa using q2.mono (ex.grow R) []⟩
def Nq{tb:TE}{mb:ME}{ix:List Nat}{q:Str}{c:Addr}(hb:RE K tb mb){ls:Ls}{σ:St}:∀{ns:List Int} {kds:List D} {ρ:List Addr} {H:Hp} {Q:List V->Hp->Prop},RH K ρ H hd->RL K ρ H ls σ->H c=some (.ext (cdF c q)) ->
 ER mb (ix.map λi=>(ls[i]?).join) hd ns=some kds->(∀ρ' H' ks,Ext ρ H ρ' H'->RH K ρ' H' hd->RDs K ρ' H' kds ks->Q ks H')->He (λH=>H c=some (.ext (cdF c q))) tb (ix.map λi=>(σ[i]?).join) ns H Q
 |[],kds,ρ,H,Q,R,L,hc,e,k=>by
  cases e;exact k ρ H [] .refl R (by simp[RDs])
 |n::r,kds,ρ,H,Q,R,L,hc,e,k=>by
  unfold ER at e;split at e
  .next kd h e1=>
   split at e
   .next ks e2=>
    split at e
    .next eh=>
     cases e;rw[eh]at e1;refine⟨hc,hb ρ _ H _ (some (.im (.int n))::ix.map λi=>(ls[i]?).join) _ kd _ R ⟨by simp,λi d ei=>?_⟩ e1 λρ1 H1 v1 x1 R1 r1=>?_⟩
     .cases i with
      |zero=>cases ei;exact⟨.int n,rfl,by simp[RD,RI]⟩
      |succ j=>
       have ei:(ix.map λi=>(ls[i]?).join)[j]?=some (some d):=ei;rw[List.getElem?_map]at ei;cases qj:ix[j]? with
       |none=>rw[qj]at ei;cases ei
       |some m=>
        rw[qj]at ei;have ei:(ls[m]?).join=some d:=Option.some.inj ei;have em:ls[m]?=some (some d):=by
         cases w:ls[m]? with
         |none=>rw[w]at ei;cases ei
         |some z=>rw[w]at ei;simpa using ei
        obtain⟨v,ev,rv⟩:=L.ob m d em;refine⟨v,?_,rv⟩;show(ix.map λi=>(σ[i]?).join)[j]?=some (some v);rw[List.getElem?_map,qj];simp[ev]
     .have oc:c∉ρ:=λm=>by rcases R.mut m with⟨y,w⟩|⟨y,w⟩<;>(rw[hc]at w;cases w)
      refine Nq hb R1 (L.ext R x1) (x1.keep c _ hc oc nt) e2 λρ2 H2 ks2 x2 R2 r2=>?_;exact k ρ2 H2 (v1::ks2) (x1.trans R1 x2) R2 (.cons (r1.ext R1 x2) r2)
    .cases e
   .cases e
  .cases e
def Up{t:TA}{m:MA}(h:RA K t m):Tx K (tCB J1 t) (LM m):=by
 intro ρ σ H hd ls Q ns hd' hR hL hm k;obtain⟨⟨d1,h1⟩,e1,hm⟩:=dL hm;dsimp only at hm;refine h ρ σ H hd ls _ d1 h1 hR hL e1 λρ1 H1 v x1 R1 r1=>?_;split at hm
 .next j=>
  split at hm
  .next c=>
   cases hm;simp only[RDs,RD,RI]at r1;obtain⟨x,r,rfl,rfl,rfl⟩:=r1;refine .inl ⟨j,rfl,λp hp=>?_⟩;obtain⟨R2,x2⟩:=R1.hid (ho:=.rng 0 j) hp;refine k ρ1 _ p (x1.trans R1 x2) R2 (.inr ⟨j.toNat,by omega,?_,rfl⟩);rw[AK,Int.toNat_of_nonneg c.1]
  .cases hm
 .cases hm
def SL{te tb:TE}{src:Ls->Hd->Option (List Int×Hd)}{mb:ME}{P:Addr}{q:Str}{pos:Pos}{ix:List Nat}(hi:Tx K te src)(hb:RE K tb mb)(TI:LP K P q pos):RN K (Ic K P q pos ix te tb) (E6 src ix mb):=by
 and_intros;obtain⟨⟨ns,h1⟩,e1,hm⟩:=dL hm;obtain⟨kds,e4,hm⟩:=dL hm;obtain⟨kz,e5,hm⟩:=dL hm;dsimp only at hm e4;split at hm
 .next cc=>
  cases hm;refine hi ρ σ H hd ls _ ns _ hR hL e1 λρ1 H1 a x1 R1 sq=>?_;obtain⟨p',et,_,l1,l2⟩:=id TI;obtain⟨ps,hP,hG⟩:=R1.tabs (P,q,p') et;have hG':JR H1 q pos ps:=by
   rcases hG with g|⟨c,g1,g2⟩
   .exact .inl g
   .refine .inr ⟨c,?_,g2⟩;rw[g1];show #[rawInt p'.line,rawInt p'.col,Value.ref c]=_;rw[l1,l2]
  refine⟨a,ns,ps,rfl,sq,cc.1,hP,hG',λH2 c step hc=>?_⟩;obtain⟨R2,x2⟩:=Rp R1 hP step TI;have x12:=x1.trans R1 x2;refine Nq hb R2 (hL.ext hR x12) hc e4 λρ3 H3 ks x3 R3 r3=>?_;have x13:=x12.trans R2 x3;refine⟨kz,?_,λp ms hp out=>?_⟩
  .unfold E8 at e5;split at e5
   .next ns' e6=>
    cases e5;rw[Dq e6]at r3;exact .inl r3.ints
   .split at e5
    .next ps' e6=>
     split at e5
     .next ok=>
      cases e5;rw[Gs e6]at r3;refine .inr ⟨ps',rfl,ok,by have:=r3.len;simp at this;omega,λi k p ek ep=>?_⟩;obtain⟨w,ew,rw_⟩:=r3.get (i:=i) (d:=Ah p) (by rw[List.getElem?_map,ep];rfl);rw[ek]at ew;cases ew;exact NY rw_
     .cases e5
    .cases e5
  .have lz:kz.length=ns.length:=by
    rw[Oz e5,KR e4]
   have:=TC cc.2 lz out;subst this;obtain⟨R4,x4⟩:=R3.hid (ho:=.lst ((Ez kz ns).map V.int)) hp;exact hQ ρ3 _ p _ (x13.trans R3 x4) R4 (x13.none hR hp R3) (R3.out hp) AK Ff
 .cases hm
end
structure LamC(K:PySem.W.Frag)(mg:Str->Option Value)(base:Heap)(fd:FuncData)(c P:Addr)(q:Str)(pos:Pos):Prop where
 code:fd.code=.ref c
 hd:CodeHd base c P
 bl:base.BuiltinsAt mg P
 ti:LP K P q pos
structure QSrc(K:PySem.W.Frag)(X:Cx)(e:Expr)(te:TE)(src:Ls->Hd->Option (List Int×Hd)):Prop where
 p:PE X e te
 r:Tx K te src
def Sf(K:PySem.W.Frag){X:Cx}{a:Expr}{t:TA}{m:MA}{p2 pos2:Pos}(hm2:X.mg "range"=none)(ha:QA K X [a] t m)(hg2:Gl X "range":=by rfl)(he2:starEach [a] X.env=[(false,eval a X.env)]:=by rfl):QSrc K X (.Call (.Name "range" p2) [a] [] pos2) (tCB J1 t) (LM m):=
 ⟨DH (call_rng1.or Kd) hg2 hm2 boot_range ha.p (by decide) (by decide) he2 rfl,Up ha.r⟩
def Sj(K:PySem.W.Frag){src:Ls->Hd->Option (List Int×Hd)}{X:Cx}{c P:Addr}{scope:Scope}{fr:List Str}{ix:List Nat}{prm:Str}{params:Arguments}{body e:Expr}{p pos lpos kpos:Pos}{te tb:TE}{mb:ME}{k:Nat}(LA:LamAt X c P)(TI:LP K P (X.env.qual++"<lambda>") lpos)(S:CSc X scope fr ix)(L:LSc scope prm)(hr:Room k X.A)(h3:3<=k)(hm:X.mg "sorted"=none)
 (he:QSrc K X e te src) (hb:∀(f:Addr) (cd:Value) (s:Shared) (H:Hp),QE K (lCx X X.A.in1.in1 (prm::fr) (X.env.qual++"<lambda>") scope f cd (Aa X.env.cells scope.names []) s H) body tb mb)
 (hbind:∀(cl:List (Str×Addr)) (pm cd ctv us:Value),bindArgs (kla_fn "<lambda>" (X.env.qual++"<lambda>") params body scope cl pm cd ctv) ⟨[us],[]⟩=pure [(prm,us)])
 (hcm:X.calm=true:=by rfl) (hg:Gl X "sorted":=by rfl) (hdef:defaultsOf params X.env=([],[]):=by rfl) (hs:starEach [e] X.env=[(false,eval e X.env)]:=by rfl) (hK:X.K=K:=by rfl):
 QN K X (.Call (.Name "sorted" p) [e] [⟨some "key",.Lambda params body scope lpos,kpos⟩] pos) (Ic K P (X.env.qual++"<lambda>") lpos ix te tb) (E6 src ix mb):=by
 subst hK;exact⟨T8 LA S L (hr.mono h3) hcm hg hm hbind he.p (λf cd s H=>(hb f cd s H).p) hdef hs,SL he.r (hb 0 .none X.s₀ X.H₀).r TI⟩
def TJ{P:Program}{w:World}{K:PySem.W.Frag}{mg:Str->Option Value}{base:Heap}{x:Str}{st:Stmt}{f:Addr}{fd:FuncData}{N ps:List Str}{j:Nat}{m:MS}(DA:DefAt K mg x st f fd ps)(S:FnScope N ps (A9 st))
 (h:∀(cdv:Value) (A:Around) (outer:List Env) (s:Shared) (H:Hp) (E:XK),fd.code=cdv->Room j (A.deeper (envOfC x (A9 st) s.heap.objs.size f cdv))->∃t,QSs K (FM CX0 P w K mg base N x (A9 st) f cdv A outer s H E).nox (BC st) t m):
 FnOk P w K mg base CX0 (j+1) f fd ps (spF K ps.length (mkF ps.length N.length m)):=by
 obtain⟨F,hmg,bd⟩:=DA;obtain⟨⟨oc,od,kV,doc,pm,an,cdv,ct,osl,rfl,lk,hcd⟩,kp⟩:=F;refine UU lk hcd S (λvs H Q E h=>h.1) λA outer s H vs Q E hr hs=>?_;obtain⟨t,q⟩:=h cdv A outer s H E rfl hr;exact⟨t,q.p.nox,NP q.r hs⟩
def OR(g:Int->Int)(ns:List Int):(Ez (ns.map g) ns).Perm ns/\(Ez (ns.map g) ns).Pairwise λa b=>g a<=g b:=by
 have pm:(((ns.map g).zip ns).mergeSort λa b=>decide (a.1<=b.1)).Perm ((ns.map g).zip ns):=mergeSort_perm ..;have pw:(((ns.map g).zip ns).mergeSort λa b=>decide (a.1<=b.1)).Pairwise λa b=>a.1<=b.1:=by
  have:=pairwise_mergeSort (le:=λa b:Int×Int=>decide (a.1<=b.1)) (by intro a b c h1 h2;simp at *;omega) (by intro a b;simp;omega) ((ns.map g).zip ns);exact this.imp (by simp)
 have ez:(ns.map g).zip ns=ns.map λn=>(g n,n):=by
  clear pm pw
  induction ns with
  |nil=>rfl
  |cons n r ih=>simp[ih]
 have el:∀a∈(((ns.map g).zip ns).mergeSort λa b=>decide (a.1<=b.1)),a.1=g a.2:=λa ha=>by
  have:=pm.mem_iff.mp ha;rw[ez]at this;obtain⟨n,_,rfl⟩:=mem_map.mp this;rfl
 refine⟨?_,?_⟩
 .have:=pm.map (·.2);unfold Ez;refine this.trans ?_;rw[ez,map_map];have:((λx:Int×Int=>x.2) ∘ λn=>(g n,n))=id:=rfl;rw[this,map_id]
 .unfold Ez;rw[pairwise_map];exact pw.imp_of_mem λ{a b} ha hb h=>by rw[<- el a ha,<- el b hb];exact h
def KQ{mb:ME}{cap:Ls}{hd:Hd}(kf:Int->D):∀{ns:List Int},(∀n∈ns,mb (some (.im (.int n))::cap) hd=some (kf n,hd))->ER mb cap hd ns=some (ns.map kf)
 |[],_=>rfl
 |n::r,h=>by
  unfold ER;rw[h n mem_cons_self,KQ kf λm hm=>h m (mem_cons_of_mem _ hm)];simp
def MQ{ps:List (Int×Int)}(hne:ps≠[])(hok:∀p∈ps,pok p):E8 (ps.map Ah)=some (ps.map AV):=by
 unfold E8;have:As (ps.map Ah)=none:=by
  cases ps with
  |nil=>exact absurd rfl hne
  |cons p r=>rfl
 rw[this,Om];simp only[if_pos hok]
def Qd{g:Int->Int}{ns:List Int}(nd:ns.Nodup)(h:∀a∈ns,∀b∈ns,g a=g b->a=b):(ns.map g).Nodup:=by
 rw[List.nodup_iff_pairwise_ne,pairwise_map];exact(List.nodup_iff_pairwise_ne.mp nd).imp_of_mem λ{a b} ha hb hne e=>hne (h a ha b hb e)
def Rk{src:Ls->Hd->Option (List Int×Hd)}{mb:ME}{ix:List Nat}{ls:Ls}{hd:Hd}{QA:List D->Hd->Prop}(h:∃ns x,src ls hd=some (ns,x)/\∃(kf:Int->Int×Int),ns.length<64/\ns.Nodup/\(∀n∈ns,pok (kf n))/\(∀a∈ns,∀b∈ns,AV (kf a)=AV (kf b)->a=b)/\
 (∀n∈ns,mb (some (.im (.int n))::ix.map λi=>(ls[i]?).join) x=some (Ah (kf n),x))/\∀ms:List Int,ms.Perm ns->ms.Pairwise (λa b=>AV (kf a)<=AV (kf b))->QA (ms.map λn=>.im (.int n)) x):WA (E6 src ix mb) ls hd QA:=by
 obtain⟨ns,x,e,kf,h64,nd,ok,inj,ek,q⟩:=h;have e2:=KQ (λn=>Ah (kf n)) ek;by_cases hne:ns=[]
 .subst hne;refine⟨[],x,?_,q [] (.refl _) .nil⟩;simp[E6,e,As,ER,E8,Ez]
 .have e3:E8 (ns.map λn=>Ah (kf n))=some (ns.map λn=>AV (kf n)):=by
   have:=MQ (ps:=ns.map kf) (by simpa using hne) (by simpa using ok);rw[map_map,map_map]at this;exact this
  have sp:=OR (λn=>AV (kf n)) ns;refine⟨_,x,?_,q _ sp.1 sp.2⟩;simp only[E6,e,bind_some,e2,e3,h64,Qd nd inj,and_self,if_true]
def Pk{m:MA}{mb:ME}{ix:List Nat}{ls:Ls}{hd:Hd}{QA:List D->Hd->Prop}(h:WA m ls hd λds x=>∃n:Nat,ds=[.im (.int (n:Int))]/\n<64/\∃(kf:Int->Int×Int),(∀k,k<n->pok (kf k))/\(∀a,a<n->∀b,b<n->AV (kf a)=AV (kf b)->a=b)/\
 (∀k:Nat,k<n->mb (some (.im (.int k))::ix.map λi=>(ls[i]?).join) x=some (Ah (kf k),x))/\∀ms:List Int,ms.Perm ((List.range n).map λk:Nat=>(k:Int))->ms.Pairwise (λa b=>AV (kf a)<=AV (kf b))->QA (ms.map λn=>.im (.int n)) x):WA (Nm m ix mb) ls hd QA:=by
 obtain⟨ds,x,e,n,rfl,hn,kf,ok,inj,ek,q⟩:=h;have mem:∀z∈(List.range n).map λk:Nat=>(k:Int),∃k:Nat,k<n/\z=k:=λz hz=>by
  obtain⟨k,hk,rfl⟩:=mem_map.mp hz;exact⟨k,by simpa using hk,rfl⟩
 refine Rk ⟨(List.range n).map λk:Nat=>(k:Int),x,?_,kf,by simpa using hn,?_,λz hz=>?_,λy hy z hz=>?_,λz hz=>?_,q⟩
 .have c:(0:Int)<=n/\(n:Int)<64:=by omega
  simp only[LM,e,bind_some,if_pos c,toNat_natCast]
 .rw[List.nodup_iff_pairwise_ne,pairwise_map];exact(List.nodup_iff_pairwise_ne.mp nodup_range).imp λh=>by omega
 .obtain⟨k,hk,rfl⟩:=mem z hz;exact ok k hk
 .obtain⟨k,hk,rfl⟩:=mem y hy;obtain⟨l,hl,rfl⟩:=mem z hz;intro e;rw[inj k hk l hl e]
 .obtain⟨k,hk,rfl⟩:=mem z hz;exact ek k hk
end L2
namespace HT
open PySem PyProof.Rows
def noFill_tuple_mul:fillsNumberSlot (.type "tuple") "mul"=pure false:=
 PySem.fillsNumberSlot_seq (id:="tuple.__mul__") (r:=some (.builtin "tuple.__rmul__")) F.slot_tuple_mul.lookup (by decide +kernel) F.slot_tuple_rmul.lookup (by decide +kernel)
def repeat_tuple:seqRepeat? (.type "tuple")=pure (some (.builtin "tuple.__mul__")):=by
 unfold seqRepeat?;rw[PySem.seqSlot_of (T:="tuple") (name:="__mul__") (id:="tuple.__mul__") F.slot_tuple_mul.lookup (by decide +kernel),PySem.seqSlot_of (T:="tuple") (name:="__rmul__") (id:="tuple.__rmul__") F.slot_tuple_rmul.lookup (by decide +kernel)];rfl
def int_rmul_tuple(a:Int)(t:Tok)(l:Addr)(items:Array Value)(n:Nat)(dd:Option Addr)(sl:Array (Option Value)):
 Meets (Builtin.«int.__rmul__» ⟨[.int a t,.ref l],[]⟩) (λ_ R s=>s.heap.get? l=some { cls:=.type "tuple",dict:=dd,data:=.seq items n,slots:=sl }/\R (.ok (.ret Value.notImplemented)) s):=
 .of_wp λprog w A R s h=>by obtain⟨hp,g,d,tk,os⟩:=s;obtain⟨hl,h⟩:=h;wp_walk;exact⟨_,rfl,h⟩
def tuple_mul(l:Addr)(items:Array Value)(n:Nat)(dd:Option Addr)(sl:Array (Option Value))(k:Int)(t:Tok)(h0:items.isEmpty=false)(hk:0<=k/\k<=1000)(hs:items.size*k.toNat<=100000):
 Meets (Builtin.«tuple.__mul__» ⟨[.ref l,.int k t],[]⟩) (λ_ R s=>s.heap.get? l=some { cls:=.type "tuple",dict:=dd,data:=.seq items n,slots:=sl }/\(k=1->R (.ok (.ret (.ref l))) s)/\(k≠1->R (.ok (.ret (.ref s.heap.objs.size))) { s with heap:=s.heap.push { cls:=.type "tuple",data:=.seq ((List.replicate k.toNat items).foldl (·++·) #[]) } })):=
 .of_wp λprog w A R s h=>by
  obtain⟨hp,g,d,tk,os⟩:=s;obtain⟨hl,h1,h2⟩:=h;have f1:=AutoSeq1.idx_int;have f2:=AutoSeq1.sub_tuple_tuple
  wp_walk using wpAny_loadPart' hl
  have c1:¬ (decide (k < -2^63)||decide (k>=2^63))=true:=by simp;omega
  rw[if_neg c1]
  wp_walk using wpAny_loadPart' hl
  by_cases k1:k=1
  .rw[if_pos (by simp[k1])]
   wp_walk using wpAny_loadPart' hl
   exact⟨_,rfl,h1 k1⟩
  .rw[if_neg (by simp[h0,k1])];have h2:=h2 k1;by_cases k0:k=0
   .rw[if_pos (by simp[k0])]
    wp_walk using wpAny_loadPart' hl
    subst k0;exact⟨_,rfl,h2⟩
   .have c2:¬ ((items.size:Int)*k>(2^63-1)/8):=by
     have e:(items.size:Int)*k=((items.size*k.toNat:Nat):Int):=by rw[Int.natCast_mul,Int.toNat_of_nonneg hk.1]
     rw[e];omega
    have c3:¬ Builtin.Tuple.tupleTooMany ((items.size:Int)*k)=true:=by
     have e:(items.size:Int)*k=((items.size*k.toNat:Nat):Int):=by rw[Int.natCast_mul,Int.toNat_of_nonneg hk.1]
     unfold Builtin.Tuple.tupleTooMany;rw[e,sizeLine_eq,decide_eq_true_eq];omega
    rw[if_neg (by simp[h0];omega)];dsimp only;rw[if_neg c2,if_neg c3];have hz:(List.foldl (λx1 x2=>x1++x2) #[] (List.replicate k.toNat items)).size<=sizeLine:=by
     have:∀(m:Nat) (a:Array Value),(List.foldl (λx1 x2=>x1++x2) a (List.replicate m items)).size=a.size+items.size*m:=by
      intro m
      induction m with
      |zero=>intro a;simp
      |succ m ih=>intro a;rw[replicate_succ,List.foldl_cons,ih,Array.size_append,Nat.mul_succ];omega
     rw[this,sizeLine_eq];simp;omega
    unfold Builtin.Tuple.tupleExact;refine wpAny_bind (wpAny_newObj_type ?_ hz);exact wpAny_pure ⟨_,rfl,h2⟩
end HT
namespace L2
open PySem PySem.Spec PyProof.Rows
section
variable{X:Cx}
def Of(K:PySem.W.Frag):R2:=λx y H Q=>∃l k xs,x=.ref l/\y=.int k/\SqT K H l xs/\xs≠[]/\(0<=k/\k<=1000)/\xs.length*k.toNat<=100000/\(k=1->Q (.ref l) H)/\
 (k≠1->∀p,H p=none->Q (.ref p) (upd H p (.tup (List.replicate k.toNat xs).flatten)))
def WC(K:PySem.W.Frag)(hK:X.K=K:=by rfl):OpR X (binaryOp .Mult) (Of K):=by
 subst hK;intro pins s σ H x y v u Q I rx ry h;obtain⟨l,k,xs,rfl,rfl,hH,hne,hk,hz,q1,q2⟩:=h;cases rx;obtain⟨t,rfl⟩:=ry;obtain⟨its,r,p,_⟩:=I.tuple hH;obtain⟨⟨cls,dd,data,sl⟩,ho,hc,n,hd⟩:=id p;simp only at hc hd;subst hc hd;have ht:s.TypeIs (.ref l) "tuple":=⟨_,ho,rfl⟩
 have hn:its≠[]:=λz=>hne (r.nil_iff.mp z);have hl:its.length=xs.length:=r.length.symm;refine wpAny_binaryOp_repeat_ref (T:="tuple") (U:="int") (by decide) ht (λs'=>typeIs_int s' k t) HT.noFill_tuple_mul F.fills_int_mul F.slot_int_rmul HT.repeat_tuple F.slot_int_index.lookup
  (call_meets F.slot_int_rmul (typeIs_int s k t) F.entry_int_rmul (F.args_int_rmul_2 _ _) (HT.int_rmul_tuple k t l its.toArray n dd sl)
   ⟨ho,rfl,ht,call_meets F.slot_tuple_mul ht F.entry_tuple_mul (F.args_tuple_mul_2 _ _) (HT.tuple_mul l its.toArray n dd sl k t (by cases its with|nil=>exact absurd rfl hn|cons a r=>rfl) hk (by rw[size_toArray,hl];exact hz)) ⟨ho,λe=>?_,λe=>?_⟩⟩)
 .exact⟨.ref l,H,I,rfl,q1 e⟩
 .have f0:=HC its k.toNat []
  rw[nil_append]at f0;rw[f0];refine⟨.ref s.heap.objs.size,_,I.laid (t':=s.toks) (o:=.tup (List.replicate k.toNat xs).flatten) (λb ob q=>Heap.get?_push_of_some _ q) (le_refl _) ?_,rfl,q2 e _ (I.hok.fresh (le_refl _))⟩;exact⟨by rw[No,sizeLine_eq,Nat.mul_comm];omega,_,r.rep k.toNat,IsTupD.new _ _⟩
end
section
variable{K:PySem.W.Frag}
def HW(ma mb:ME):ME:=λls hd=>(ma ls hd).bind λp=>(mb ls p.2).bind λq=>match p.1,q.1 with
 |.im (.tup is),.im (.int k)=>if is≠[]/\(0<=k/\k<=1000)/\is.length*k.toNat<=100000 then some (.im (.tup (List.replicate k.toNat is).flatten),q.2)else none
 |_,_=>none
def V9{ta tb:TE}{ma mb:ME}(ha:RE K ta ma)(hb:RE K tb mb):RE K (tOp (Of K) ta tb) (HW ma mb):=by
 and_intros;obtain⟨⟨d1,h1⟩,e1,hm⟩:=dL hm;obtain⟨⟨d2,h2⟩,e2,hm⟩:=dL hm;dsimp only at hm;split at hm
 .next is k _=>
  split at hm
  .next c=>
   cases hm;refine ha ρ σ H hd ls _ _ h1 hR hL e1 λρ1 H1 v1 x1 R1 r1=>?_;refine hb ρ1 σ H1 h1 ls _ _ _ R1 (hL.ext hR x1) e2 λρ2 H2 v2 x2 R2 r2=>?_;simp only[RD,RI]at r2;subst r2;have r1:=r1.ext R1 x2;obtain⟨a,xs,rfl,sq,rs⟩:=r1.tup (ds:=is.map D.im) rfl;have hl:xs.length=is.length:=by have:=rs.len;simpa using this
   refine⟨a,k,xs,rfl,rfl,sq,λz=>c.1 (length_eq_zero_iff.mp (by rw[<- hl,z];rfl)),c.2.1,by rw[hl];exact c.2.2,λe=>?_,λe p hp=>?_⟩
   .subst e;refine hQ ρ2 H2 _ (x1.trans R1 x2) R2 ?_;simpa using r1
   .obtain⟨R3,x3⟩:=R2.hid (ho:=.tup (List.replicate k.toNat xs).flatten) hp;refine hQ ρ2 _ _ ((x1.trans R1 x2).trans R2 x3) R3 ?_;have e3:D.im (.tup (List.replicate k.toNat is).flatten)=AX ((List.replicate k.toNat is).flatten.map D.im):=(Be _).symm;rw[e3];refine BL (SqT.of AK) ?_;have:=((rs.rep k.toNat).ext R2 x3)
    have e4:(List.replicate k.toNat is).flatten.map D.im=(List.replicate k.toNat (is.map D.im)).flatten:=by rw[List.map_flatten,List.map_replicate]
    rw[e4];exact this
  .cases hm
 .cases hm
def Vg(K:PySem.W.Frag){X:Cx}{a b:Expr}{ta tb:TE}{ma mb:ME}{pos:Pos}(ha:QE K X a ta ma)(hb:QE K X b tb mb)(hK:X.K=K:=by rfl):QE K X (.BinOp a .Mult b pos) (tOp (Of K) ta tb) (HW ma mb):=⟨Ol (WC K hK) ha.p hb.p,V9 ha.r hb.r⟩
def Uh{ma mb:ME}{ls:Ls}{hd:Hd}{QE:D->Hd->Prop}(h:WE ma ls hd λd x=>WE mb ls x λe y=>∃is k,d=.im (.tup is)/\e=.im (.int k)/\is≠[]/\(0<=k/\k<=1000)/\is.length*k.toNat<=100000/\QE (.im (.tup (List.replicate k.toNat is).flatten)) y):WE (HW ma mb) ls hd QE:=by
 obtain⟨d,x,e1,e,y,e2,is,k,rfl,rfl,c1,c2,c3,q⟩:=h;exact⟨_,_,by simp only[HW,e1,bind_some,e2];rw[if_pos ⟨c1,c2,c3⟩],q⟩
end
end L2
namespace HT
open PySem PyProof.Rows
open PySem.AutoSeq1 (wpAny_loadPart')
section
variable{prog:Program}{w:World}{A:Around}{E:Value->Shared->Prop}{s:Shared}
def JA{it t:Addr}{i:Nat}{items:Array Value}{x:Value}{Q:Value->Shared->Prop}(hit:s.heap.IsTupleIter it t i)(ht:s.heap.IsTuple t items)(hx:items[i]?=some x)
 (hQ:∀h',h'.IsTupleIter it t (i+1)->Heap.SameBut it s.heap h'->Q x { s with heap:=h' }):wpAny (model prog w) A (Builtin.SmallTypes.nextOf (.ref it)) Q E s:=by
 obtain⟨o,ho,hc,hd⟩:=id hit;obtain⟨ol,hol,_,nl,hdl⟩:=ht;unfold Builtin.SmallTypes.nextOf;refine wpAny_bind (wpAny_callSpecial?_slot (name:=Str.ofString "__next__") hit.typeIs F.slot_tuple_iterator_next
  (wpAny_call_entry F.slot_tuple_iterator_next hit.typeIs F.entry_tuple_iterator_next ?_ (F.args_tuple_iterator_next_1 _)))
 show wpAny _ _ (field (.ref it) 0 >>= _) _ _ s;refine wpAny_bind (wpAny_field ho hd (x:=.ref t) rfl ?_);show wpAny _ _ (if(Value.ref t==Value.none)=true then _ else _) _ _ s;rw[if_neg (show ¬ ((Value.ref t==Value.none)=true)from Bool.false_ne_true)];show wpAny _ _ (field (.ref it) 1 >>= _) _ _ s;refine wpAny_bind (wpAny_field ho hd (x:=.int i 0) rfl ?_);show wpAny _ _ (seqItems? (.ref t) >>= _) _ _ s;refine wpAny_bind (wpAny_seqItems hol hdl ?_);simp only[toNat_natCast,hx];refine wpAny_bind (wpAny_setField ho hd (by simp) (wpAny_pure ⟨x,rfl,wpAny_pure (hQ _ ?_ (Heap.SameBut.update ..))⟩));exact⟨_,Heap.get?_update_self _ ho (Obj.isFreed_of_fields (Obj.data_mapFields hd _)),(Obj.cls_mapFields ..).trans hc,by rw[Obj.data_mapFields hd];simp[rawInt]⟩
def Jk{it t:Addr}{i:Nat}{items:Array Value}{Q:Value->Shared->Prop}(hh:A.handled=none)(hit:s.heap.IsTupleIter it t i)(ht:s.heap.IsTuple t items)(hx:items[i]?=none)
 (hE:∀h' e,Heap.ExtBut it s.heap h'->(∃o,h'.get? e=some o/\o.cls=.type "StopIteration")->E (.ref e) { s with heap:=h' }):wpAny (model prog w) A (Builtin.SmallTypes.nextOf (.ref it)) Q E s:=by
 obtain⟨o,ho,hc,hd⟩:=id hit;obtain⟨ol,hol,_,nl,hdl⟩:=ht;unfold Builtin.SmallTypes.nextOf;refine wpAny_bind (wpAny_callSpecial?_slot (name:=Str.ofString "__next__") hit.typeIs F.slot_tuple_iterator_next
  (wpAny_call_entry F.slot_tuple_iterator_next hit.typeIs F.entry_tuple_iterator_next ?_ (F.args_tuple_iterator_next_1 _)))
 show wpAny _ _ (field (.ref it) 0 >>= _) _ _ s;refine wpAny_bind (wpAny_field ho hd (x:=.ref t) rfl ?_);show wpAny _ _ (if(Value.ref t==Value.none)=true then _ else _) _ _ s;rw[if_neg (show ¬ ((Value.ref t==Value.none)=true)from Bool.false_ne_true)];show wpAny _ _ (field (.ref it) 1 >>= _) _ _ s;refine wpAny_bind (wpAny_field ho hd (x:=.int i 0) rfl ?_);show wpAny _ _ (seqItems? (.ref t) >>= _) _ _ s;refine wpAny_bind (wpAny_seqItems hol hdl ?_);simp only[toNat_natCast,hx];refine wpAny_bind (wpAny_rule (wpAny_bind (wpAny_setField ho hd (by simp) ?_)));show wpAny _ _ (newExc (.type "StopIteration") [] >>= _) _ _ _;refine wpAny_bind ?_;simp only[newExc,newTuple];refine wpAny_bind (wpAny_newObj_type ?_ (by size_fits));refine wpAny_bind (m:=firstArgMember _ _) (wpAny_of_eq (a:=Value.none) (by first|rfl|(simp only[firstArgMember];rfl)) ?_);refine wpAny_newObj_type ?_ (by size_fits);simp only[raiseNew];refine wpAny_bind (wpAny_handled ?_)
 first|rw[show A.in1.handled=none from hh]|rw[hh]
 refine wpAny_bind (wpAny_pure (wpAny_throw ?_));exact hE _ _ (((Heap.SameBut.update ..).extBut.push _).push _) ⟨_,Heap.get?_push_size _ rfl,rfl⟩
def drawsT(hh:A.handled=none)(it t:Addr)(hne:t≠it)(items:Array Value):
 Draws prog w A it [it,t] items.size (λi v=>items[i]?=some v) (λi h=>h.IsTupleIter it t i/\h.IsTuple t items) where
 live:=λ_ _ st=>let ⟨o,ho,_⟩:=st.1;⟨o,ho⟩
 frame:=λ_ _ _ st hk=>⟨let ⟨o,ho,r⟩:=st.1;⟨o,hk it (by simp) o ho,r⟩,let ⟨o,ho,r⟩:=st.2;⟨o,hk t (by simp) o ho,r⟩⟩
 item:=λi s Q E hi st hQ=>by
  refine JA st.1 st.2 (x:=items[i]) (by simp[hi]) λh' hit' hs'=>?_;exact hQ _ h' s.toks (by simp[hi]) ⟨hit',st.2.extBut hs'.extBut hne⟩ hs'
 done:=λs Q E st hE=>Jk hh st.1 st.2 (by simp) hE
end
def Qx(l:Addr)(items:Array Value)(n:Nat)(dct:Option Addr)(sl:Array (Option Value)):
 Meets (Builtin.«enumerate.__new__» ⟨[.type "enumerate",.ref l],[]⟩) (λ_ R s=>s.heap.get? l=some { cls:=.type "tuple",dict:=dct,data:=.seq items n,slots:=sl } /\
  R (.ok (.ret (.ref (s.heap.push { cls:=.type "tuple_iterator",data:=.fields #[.ref l,.int 0 0] }).objs.size)))
   { s with heap:=(s.heap.push { cls:=.type "tuple_iterator",data:=.fields #[.ref l,.int 0 0] }).push { cls:=.type "enumerate",data:=.fields #[.none,.bool false,.ref s.heap.objs.size,rawInt 0,.none,.none] } }):=
 .of_wp λprog w A R s h=>by
  obtain⟨hp,g,d,tk,os⟩:=s;obtain⟨hl,h⟩:=h;have hsub:=sub_enumerate;have hL:Heap.IsTuple (Shared.heap ⟨hp,g,d,tk,os⟩) l items:=⟨_,hl,rfl,n,rfl⟩
  wp_walk using wpAny_loadPart' hl
  refine wpAny_stack_any λst=>wpAny_pure ?_;split
  .rename_i c _ _ _ _ _
   cases(c==Value.type "enumerate")
   .wp_walk using wpAny_loadPart' hl,wpAny_pyIter_tuple hL
    exact⟨_,rfl,h⟩
   .wp_walk using wpAny_loadPart' hl,wpAny_pyIter_tuple hL
    exact⟨_,rfl,h⟩
  .wp_walk using wpAny_loadPart' hl,wpAny_pyIter_tuple hL
   exact⟨_,rfl,h⟩
def call_enumT{prog:Program}{w:World}{A:Around}{E:Value->Shared->Prop}{s:Shared}{l:Addr}{items:Array Value}{Q:Value->Shared->Prop}(hL:IsTup s.heap l items)
 (h:∀h',IsEnum h' (s.heap.objs.size+1) s.heap.objs.size 0 .none->h'.IsTupleIter s.heap.objs.size l 0->h'.objs.size=s.heap.objs.size+2 ->
  (∀b o,s.heap.get? b=some o->h'.get? b=some o)->Q (.ref (s.heap.objs.size+1)) { s with heap:=h' }):
 wpAny (model prog w) A (call (.type "enumerate") [.ref l]) Q E s:=by
 obtain⟨⟨c,dct,dt,sl⟩,hl,hc,n,hd⟩:=hL
 replace hc:c=.type "tuple":=hc
 replace hd:dt=.seq items n:=hd
 subst hc hd;refine callType_new F.called_enumerate (by decide) (F.typeCall_enumerate_1 _) (F.newCall_enumerate_1 _) (λobj=>F.args_object_init_2 obj _) F.entry_enumerate_new
  (Qx l items n dct sl) ⟨hl,?_⟩
 have hz:(s.heap.push { cls:=.type "tuple_iterator",data:=.fields #[.ref l,.int 0 0] }).objs.size=s.heap.objs.size+1:=Heap.size_push ..;show _/\_;rw[hz];have he:IsEnum ((s.heap.push { cls:=.type "tuple_iterator",data:=.fields #[.ref l,.int 0 0] }).push
  { cls:=.type "enumerate",data:=.fields #[.none,.bool false,.ref s.heap.objs.size,rawInt 0,.none,.none] }) (s.heap.objs.size+1) s.heap.objs.size 0 .none:=by
  have:=Heap.get?_push_size (s.heap.push { cls:=.type "tuple_iterator",data:=.fields #[.ref l,.int 0 0] })
   (o:={ cls:=.type "enumerate",data:=.fields #[.none,.bool false,.ref s.heap.objs.size,rawInt 0,.none,.none] }) rfl
  rw[hz]at this;exact this
 refine⟨⟨_,he,rfl⟩,h _ he ⟨_,Heap.get?_push_of_some _ (Heap.get?_push_size _ rfl),rfl,rfl⟩ (by rw[Heap.size_push,hz]) λb o x=>Heap.get?_push_of_some _ (Heap.get?_push_of_some _ x)⟩
end HT
namespace L2
open PySem PySem.Spec PyProof.Rows
structure ETt(h:Heap)(e it l:Addr)(i:Nat):Prop where
 e:∃old,IsEnum h e it i old
 r:h.IsTupleIter it l i
def ItT(K:PySem.W.Frag)(a:Addr):It:=
 ⟨λi H=>∃xs x,SqT K H a xs/\xs[i]?=some x,
  λi H x H'=>∃p v,H p=none/\H'=upd H p (.tup [.int (i:Int),v])/\x=.ref p/\∀xs,SqT K H a xs->xs[i]?=some v,
  λi H=>∃xs,SqT K H a xs/\xs.length=i⟩
def OC{P:Program}{w:World}{K:PySem.W.Frag}{elts:List Expr}{kk:Nat}{tpos:Pos}{e it l:Addr}(ne:e≠it)(nl:l≠it)(nle:e≠l):Turn P w K (.Tuple elts kk tpos) (ItT K l) [e,it] e (λi h=>ETt h e it l i) where
 mem:=by simp
 obj:=λi h st c hc=>by
  obtain⟨⟨old,he⟩,hr⟩:=st;simp only[mem_cons,not_mem_nil,or_false]at hc;rcases hc with rfl|rfl
  .exact⟨_,he,λv z=>by cases(show Data.fields _=Data.cell v from z)⟩
  .obtain⟨o,q,_,d⟩:=hr;exact⟨o,q,λv z=>by rw[d]at z;cases z⟩
 keep:=λi h h' st k=>by
  obtain⟨⟨old,he⟩,o,q,r⟩:=st;exact⟨⟨old,k e (by simp) _ he⟩,o,k it (by simp) _ q,r⟩
 item:=by
  intro X hP hw hK hc i pins s σ H E I hf st hg;subst hP hw hK;obtain⟨xs,x,h1,hx⟩:=hg;obtain⟨its,r,pl,hz⟩:=I.tuple h1;obtain⟨u,hu,ru⟩:=r.get hx;obtain⟨⟨old,he⟩,hr⟩:=st;have hlt:i<its.toArray.size:=by
   have:=(List.getElem?_eq_some_iff.mp hu).1;simpa using this
  have hd:X.A.in1.handled=none:=I.ok.hd hc;refine wpAny_pyNext_enum_itemD (HT.drawsT hd it l nl its.toArray) he ⟨hr,pl⟩ hlt ne (by simp;exact⟨ne,nle⟩) λx' g tk hx' ho hr' ht hsz kp=>⟨_,rfl,?_⟩
  have ex:x'=u:=by
   have hx':its.toArray[i]?=some x':=hx';rw[List.getElem?_toArray,hu]at hx';exact(Option.some.inj hx').symm
  subst ex;refine wpAny_letOwnedTupleGo_enum ho λg' e' sb=>?_;have hle:e<s.heap.objs.size:=Heap.lt_size he;have kp2:∀c o,c∉[e,it]->s.heap.get? c=some o->g'.get? c=some o:=λc o nc q=>by
   simp only[mem_cons,not_mem_nil,or_false,not_or]at nc;exact sb.extBut _ _ nc.1 (kp c o nc.1 nc.2 q)
  have hT:s.heap.objs.size≠e:=ne_of_gt hle;have hpair:g'.get? s.heap.objs.size=some { cls:=.type "tuple",data:=.seq #[.int i tk,x'] }:=sb.extBut _ _ hT ht;have fresh:H s.heap.objs.size=none:=I.hok.fresh (le_refl _);have I2:Inv X pins σ (upd H s.heap.objs.size (.tup [.int (i:Int),x])) { s with heap:=g',toks:=tk+1 }:=I.turnsL (tk:=tk+1) (o:=.tup [.int (i:Int),x]) kp2 hf (le_refl _)
   (show ObjOk X.prog X.w _ g' _ (.tup [.int (i:Int),x])from⟨by show 2<=sizeLine;decide,[.int i tk,x'],.cons ⟨_,rfl⟩ (.cons ru .nil),⟨_,hpair,rfl,⟨_,rfl⟩,rfl⟩⟩)
  refine⟨.ref s.heap.objs.size,_,I2,rfl,⟨s.heap.objs.size,x,fresh,rfl,rfl,λxs' q=>by rw[I.tuple_inj q h1];exact hx⟩,⟨⟨x',?_⟩,?_⟩,λc hc=>?_⟩
  .have:=e';rw[show((i:Int)+1)=((i+1:Nat):Int) by omega]at this;exact this
  .exact hr'.1.extBut sb.extBut (Ne.symm ne)
  .have lt:c<s.heap.objs.size:=by
    simp only[mem_cons,not_mem_nil,or_false]at hc;rcases hc with rfl|rfl
    .exact hle
    .obtain⟨o,q,_⟩:=hr;exact Heap.lt_size q
   rw[AB (ne_of_lt lt)];exact(hf c hc).1
 done:=by
  intro X hP hw hK hc i pins s σ H E I hf st hg;subst hP hw hK;obtain⟨xs,h1,hend⟩:=hg;obtain⟨its,r,pl,hz⟩:=I.tuple h1;have l1':=r.length;obtain⟨⟨old,he⟩,hr⟩:=st;have hd:X.A.in1.handled=none:=I.ok.hd hc;have en:i=its.toArray.size:=by simp;omega
  subst en;refine wpAny_pyNext_enum_endD (HT.drawsT hd it l nl its.toArray) he ⟨hr,pl⟩ λg x=>⟨rfl,?_⟩
  exact I.turns (tk:=s.toks) (λc o nc q=>by
   simp only[mem_cons,not_mem_nil,or_false,not_or]at nc;exact x c o nc.2 q) hf
 self:=λ_ _ _ _ _ st h=>by
  obtain⟨⟨old,he⟩,hr⟩:=st;exact wpAny_pyIter_enum he h
def MZ(K:PySem.W.Frag)(ta:TA):TI:=λσ H R=>ta σ H λvs H1=>∃a xs,vs=[.ref a]/\SqT K H1 a xs/\R (ItT K a) H1
def T5(K:PySem.W.Frag){X:Cx}{a:Expr}{ta:TA}{elts:List Expr}{kk:Nat}{tpos p pos:Pos}(hg:Gl X "enumerate")(hm:X.mg "enumerate"=none)(ha:PA X [a] ta)(hK:X.K=K:=by rfl)(hs:starEach [a] X.env=[(false,eval a X.env)]:=by rfl):
 PI X (.Tuple elts kk tpos) (.Call (.Name "enumerate" p) [a] [] pos) (MZ K ta):=by
 subst hK;intro pins s σ H R I h;refine Call_ (D3 I hg hm Fk (PyProof.Rows.callWith_type1 (thn (ha pos pins s σ H _ I h) λus s1 ⟨vs,H1,I1,r1,q1⟩=>?_) hs rfl));obtain⟨l,xs,e,c,q⟩:=q1;subst e;obtain⟨u,rfl,ru⟩:=r1.one;cases ru;obtain⟨its,r,pl,hz⟩:=I1.tuple c;have ll:l<s1.heap.objs.size:=by obtain⟨o,ho,_⟩:=pl;exact Heap.lt_size ho
 refine HT.call_enumT pl λg he hr hsz kp=>wpAny_pyIter_enum he ?_;refine⟨_,_,_,_,H1,rfl,I1.kept (t':=s1.toks) kp,OC (ne_of_gt (Nat.lt_succ_self _)) (ne_of_lt ll) (ne_of_gt (lt_succ_of_lt ll)),⟨⟨_,he⟩,hr⟩,λc hc=>?_,q⟩;simp only[mem_cons,not_mem_nil,or_false]at hc;have le:s1.heap.objs.size<=c:=by
  rcases hc with rfl|rfl
  .exact le_add_right _ _
  .exact le_refl _
 exact I1.fpOk le (I1.hok.fresh le)
def SQ{K:PySem.W.Frag}{ta:TE}{ma:MI}(ha:RRw K true ta ma):RIt K (MZ K (BD ta C2)) (Dv ma):=by
 intro ρ σ H hd ls Q d g hd' hR hL hm hQ;obtain⟨⟨⟨d1,g1⟩,h1⟩,e1,e2⟩:=dM hm;cases e2;refine ha ρ σ H hd ls _ d1 g1 h1 hR hL e1 λρ1 H1 a x1 R1 G1 S1=>?_;obtain⟨xs,c1,r1⟩:=S1 ρ1 H1 _ .refl R1 G1;refine⟨a,xs,rfl,c1,hQ ρ1 H1 _ x1 R1 G1 ?_⟩;intro ρ3 H3 hd3 x3 R3 G3 i;obtain⟨xs,c1,r1⟩:=S1 ρ3 H3 _ x3 R3 G3;have l1:=r1.len;refine⟨λhi=>?_,λhi=>⟨xs,c1,?_⟩⟩
 .have hi:i<d1.length:=by simpa using hi
  have i1:d1[i]?=some (d1[i]'hi):=List.getElem?_eq_getElem _;obtain⟨x,x4,x5⟩:=r1.get i1;refine⟨⟨xs,x,c1,x4⟩,λz H4 hz=>?_⟩;obtain⟨p,v,fp,rfl,rfl,hv⟩:=hz;have ev:=hv xs c1;rw[x4]at ev;cases ev;obtain⟨R4,x6⟩:=R3.hid (ho:=.tup [.int (i:Int),x]) fp;refine⟨ρ3,AX [.im (.int (i:Int)),d1[i]'hi],x6,rfl,R4,?_,BL (SqT.of AK) (.cons (by simp[RD,RI]) (.cons (x5.ext R3 x6) .nil))⟩;simp[i1]
 .have hi:i=d1.length:=by simpa using hi
  omega
def Sm(K:PySem.W.Frag){X:Cx}{a:Expr}{ta:TE}{ma:MI}{elts:List Expr}{kk:Nat}{tpos p pos:Pos}(hm:X.mg "enumerate"=none)(ha:QR K true X a ta ma)(hg:Gl X "enumerate":=by rfl)(hK:X.K=K:=by rfl)(hs:starEach [a] X.env=[(false,eval a X.env)]:=by rfl):
 QI K X (.Tuple elts kk tpos) (.Call (.Name "enumerate" p) [a] [] pos) (MZ K (BD ta C2)) (Dv ma):=⟨T5 K hg hm (Bz ha.p D1 hs) hK hs,SQ ha.r⟩
end L2
namespace HS
open PySem PyProof.Rows
open PySem.AutoSeq1 (wpAny_loadPart')
open Sem (wp)
abbrev st(t:Tok):List (Str×Value):=[(Str.ofString "start",.int 1 t)]
section
variable{prog:Program}{w:World}{A:Around}{E:Value->Shared->Prop}{s:Shared}
def tcS(a b:Value):checkTypeCall "enumerate" ⟨[a],[(Str.ofString "start",b)]⟩=pure ():=by kernel_rfl
def ncS(a b:Value):checkBuiltinCall "enumerate.__new__" ⟨[.type "enumerate",a],[(Str.ofString "start",b)]⟩=pure ():=by kernel_rfl
def aiS(a b c:Value):argsOk "object.__init__" ⟨[a,b],[(Str.ofString "start",c)]⟩:=by
 unfold argsOk;rw[signature?_of (id:="object.__init__") (n:=['_','_','t','i','n','i','_','_']) (o:=['t','c','e','j','b','o']) (by kernel_rfl) F.owner_object];kernel_rfl
def Qy(l:Addr)(items:Array Value)(n:Nat)(t:Tok)(dct:Option Addr)(sl:Array (Option Value)):
 Meets (Builtin.«enumerate.__new__» ⟨[.type "enumerate",.ref l],st t⟩) (λ_ R s=>s.heap.get? l=some { cls:=.type "list",dict:=dct,data:=.seq items n,slots:=sl } /\
  R (.ok (.ret (.ref (s.heap.push { cls:=.type "list_iterator",data:=.fields #[.ref l,.int 0 0] }).objs.size)))
   { s with heap:=(s.heap.push { cls:=.type "list_iterator",data:=.fields #[.ref l,.int 0 0] }).push { cls:=.type "enumerate",data:=.fields #[.none,.bool false,.ref s.heap.objs.size,rawInt 1,.none,.none] } }):=
 .of_wp λprog w A R s h=>by
  obtain⟨hp,g,d,tk,os⟩:=s;obtain⟨hl,h⟩:=h;have hsub:=sub_enumerate;have hL:Heap.IsList (Shared.heap ⟨hp,g,d,tk,os⟩) l items:=⟨_,hl,rfl,n,rfl⟩
  wp_walk using wpAny_loadPart' hl
  refine wpAny_stack_any λst=>wpAny_pure ?_;split
  .rename_i c _ _ _ _ _
   cases(c==Value.type "enumerate")
   .wp_walk using wpAny_loadPart' hl,wpAny_pyIter_list hL
    exact⟨_,rfl,h⟩
   .wp_walk using wpAny_loadPart' hl,wpAny_pyIter_list hL
    exact⟨_,rfl,h⟩
  .wp_walk using wpAny_loadPart' hl,wpAny_pyIter_list hL
   exact⟨_,rfl,h⟩
def bI{T id:String}{x a b:Value}(hl:typeLookup (.type T) "__init__"=pure (some (.builtin "object.__init__")))(hm:Bind.madeBy (.type T)=pure (some id))(hne:(some id != some "object.__new__")=true):
 Meets (Builtin.«object.__init__» ⟨[x,a],[(Str.ofString "start",b)]⟩) (λ_ R s=>s.TypeIs x T/\R (.ok (.ret .none)) s):=by
 refine Meets.of_wp λprog w A R s hs=>?_;obtain⟨hT,hq⟩:=hs
 repeat (any_goals (first|assumption|wp_step))
 exact⟨_,rfl,hq⟩
def call_enumS{l:Addr}{items:Array Value}{t:Tok}{Q:Value->Shared->Prop}(hL:s.heap.IsList l items)
 (h:∀h',IsEnum h' (s.heap.objs.size+1) s.heap.objs.size 1 .none->h'.IsListIter s.heap.objs.size l 0->h'.objs.size=s.heap.objs.size+2->(∀b o,s.heap.get? b=some o->h'.get? b=some o)->Q (.ref (s.heap.objs.size+1)) { s with heap:=h' }):
 wpAny (model prog w) A (call (.type "enumerate") [.ref l] (st t)) Q E s:=by
 obtain⟨⟨c,dct,dt,sl⟩,hl,hc,n,hd⟩:=hL
 replace hc:c=.type "list":=hc
 replace hd:dt=.seq items n:=hd
 subst hc hd;have ft:=F.called_enumerate;obtain⟨c,tl,hmro⟩:=ft.mro;have hmade:=ft.made;have hsub:=ft.sub;refine wpAny_call (codeAny_of_tree ?_);show wpAny _ _ (callAny (.type "enumerate") _) _ _ _;refine wpAny_pure ⟨Code.quiet_builtin _ (by decide +kernel),codeAny_builtin F.entry_type_call ?_⟩;rw[Around.under_plain (weight_type_call_type "enumerate" [.ref l] (st t)) (units_type_call_type "enumerate" [.ref l] (st t))];have h1:=ft.notType;have h2:=ft.canCreate;have hct:=tcS (.ref l) (.int 1 t);have hcn:=ncS (.ref l) (.int 1 t)
 repeat (any_goals (first|assumption|wp_step))
 refine codeAny_mono (codeAny_call_builtin ft.plain F.entry_enumerate_new (wpAny_of_eq hcn (Qy l items n t dct sl prog w A.in1 (wants (λobj s₁=>s₁.TypeIs obj "enumerate"/\Q obj s₁) E) s ⟨hl,?_⟩))) λr s₁ hr=>?_
 .have hz:(s.heap.push { cls:=.type "list_iterator",data:=.fields #[.ref l,.int 0 0] }).objs.size=s.heap.objs.size+1:=Heap.size_push ..;show _/\_;rw[hz];have he:IsEnum ((s.heap.push { cls:=.type "list_iterator",data:=.fields #[.ref l,.int 0 0] }).push { cls:=.type "enumerate",data:=.fields #[.none,.bool false,.ref s.heap.objs.size,rawInt 1,.none,.none] }) (s.heap.objs.size+1) s.heap.objs.size 1 .none:=by
   have:=Heap.get?_push_size (s.heap.push { cls:=.type "list_iterator",data:=.fields #[.ref l,.int 0 0] }) (o:={ cls:=.type "enumerate",data:=.fields #[.none,.bool false,.ref s.heap.objs.size,rawInt 1,.none,.none] }) rfl;rw[hz]at this;exact this
  exact⟨⟨_,he,rfl⟩,h _ he ⟨_,Heap.get?_push_of_some _ (Heap.get?_push_size _ rfl),rfl,rfl⟩ (by rw[Heap.size_push,hz]) λb o x=>Heap.get?_push_of_some _ (Heap.get?_push_of_some _ x)⟩
 .cases r with
  |error e=>exact hr
  |ok fl=>
   cases fl with
   |ret obj=>
    obtain⟨hT,hq0⟩:=hr;have hli:=ft.init.lookup;have hbi:=ft.init.bind obj
    repeat (any_goals (first|assumption|wp_step))
    refine codeAny_mono (codeAny_call_builtin ft.init.plain F.entry_object_init (ft.init.check _ _ _ _ _ _ _ _ hT (aiS obj (.ref l) (.int 1 t)) (bI (x:=obj) (a:=.ref l) (b:=.int 1 t) hli hmade (by decide) prog w A.in1 (wants (λr s₂=>r=.none/\Q obj s₂) E) s₁ ⟨hT,rfl,hq0⟩))) λr₂ s₂ hr₂=>?_;cases r₂ with
    |error e=>exact hr₂
    |ok fl₂=>
     cases fl₂ with
     |ret r=>
      obtain⟨rfl,hq⟩:=hr₂
      repeat (any_goals (first|assumption|wp_step))
     |_=>exact hr₂.elim
   |_=>exact hr.elim
def shift{it:Addr}{fp:List Addr}{n:Nat}{P:Nat->Value->Prop}{St:Nat->Heap->Prop}(D:Draws prog w A it fp n P St):Draws prog w A it fp (n+1) (λj v=>P (j-1) v) (λj h=>1<=j/\St (j-1) h) where
 live:=λ_ _ z=>D.live _ _ z.2
 frame:=λ_ _ _ z hk=>⟨z.1,D.frame _ _ _ z.2 hk⟩
 item:=λi s Q E hi z hQ=>D.item (i-1) s Q E (by omega) z.2 λx h' tk p q b=>hQ x h' tk p ⟨by omega,by rw[show i+1-1=i-1+1 by have:=z.1;omega];exact q⟩ b
 done:=λs Q E z hE=>D.done s Q E z.2 hE
end
def callWith_typeK{M:Model}{A:Around}{E:Value->Shared->Prop}{s:Shared}{pos:Pos}{T:String}{args:List (Bool×Sem Value)}{kws:List (Option Str×Sem Value)}{Q:Value->Shared->Prop}(hp:args.any (·.1)=false)(hk:kws.any (·.1.isNone)=false)
 (h:wpAny M A (evalArgs (.type T) true args kws) (λa s₁=>wpAny M A (call (.type T) a.pos a.kw) Q E s₁) E s):wpAny M A (callWith pos (.type T) [] args kws) Q E s:=by
 unfold callWith;refine wpAny_bind (wpAny_holding (wpAny_mono h (λa s₁ h₁=>wpAny_bind (wpAny_standAt ?_)) λ_ _ x=>x));simp only[hp,hk,Bool.or_false];exact wpAny_bind (wpAny_pure (wpAny_bind (wpAny_mono h₁ (λr s₂ hr=>wpAny_bind (wpAny_holding (wpAny_point (wpAny_pure hr)))) λ_ _ x=>x)))
end HS
namespace L2
open PySem PySem.Spec PyProof.Rows
structure ESt(h:Heap)(e it l:Addr)(i:Nat):Prop where
 e:∃old,IsEnum h e it ((i+1:Nat):Int) old
 r:h.IsListIter it l i
def ItS(K:PySem.W.Frag)(a:Addr):It:=
 ⟨λi H=>∃xs x,SqL K H a xs/\xs[i]?=some x,
  λi H x H'=>∃p v,H p=none/\H'=upd H p (.tup [.int ((i:Int)+1),v])/\x=.ref p/\∀xs,SqL K H a xs->xs[i]?=some v,
  λi H=>∃xs,SqL K H a xs/\xs.length=i⟩
def OD{P:Program}{w:World}{K:PySem.W.Frag}{elts:List Expr}{kk:Nat}{tpos:Pos}{e it l:Addr}(ne:e≠it)(nl:l≠it)(nle:e≠l):Turn P w K (.Tuple elts kk tpos) (ItS K l) [e,it] e (λi h=>ESt h e it l i) where
 mem:=by simp
 obj:=λi h st c hc=>by
  obtain⟨⟨old,he⟩,hr⟩:=st;simp only[mem_cons,not_mem_nil,or_false]at hc;rcases hc with rfl|rfl
  .exact⟨_,he,λv z=>by cases(show Data.fields _=Data.cell v from z)⟩
  .obtain⟨o,q,_,d⟩:=hr;exact⟨o,q,λv z=>by rw[d]at z;cases z⟩
 keep:=λi h h' st k=>by
  obtain⟨⟨old,he⟩,o,q,r⟩:=st;exact⟨⟨old,k e (by simp) _ he⟩,o,k it (by simp) _ q,r⟩
 item:=by
  intro X hP hw hK hc i pins s σ H E I hf st hg;subst hP hw hK;obtain⟨xs,x,h1,hx⟩:=hg;obtain⟨its,r,pl,hz⟩:=I.list h1;obtain⟨u,hu,ru⟩:=r.get hx;obtain⟨⟨old,he⟩,hr⟩:=st;have hd:X.A.in1.handled=none:=I.ok.hd hc;have hlt:i<its.toArray.size:=by
   have:=(List.getElem?_eq_some_iff.mp hu).1;simpa using this
  refine wpAny_pyNext_enum_itemD (HS.shift (Draws.list hd it l nl its.toArray)) he ⟨by omega,by simpa using hr,pl.isList⟩ (by omega) ne (by simp;exact⟨ne,nle⟩) λx' g tk hx' ho hr' ht hsz kp=>⟨_,rfl,?_⟩
  have ex:x'=u:=by
   have hx':its.toArray[i]?=some x':=hx';rw[List.getElem?_toArray,hu]at hx';exact(Option.some.inj hx').symm
  subst ex;refine wpAny_letOwnedTupleGo_enum ho λg' e' sb=>?_;have hle:e<s.heap.objs.size:=Heap.lt_size he;have kp2:∀c o,c∉[e,it]->s.heap.get? c=some o->g'.get? c=some o:=λc o nc q=>by
   simp only[mem_cons,not_mem_nil,or_false,not_or]at nc;exact sb.extBut _ _ nc.1 (kp c o nc.1 nc.2 q)
  have hT:s.heap.objs.size≠e:=ne_of_gt hle;have hpair:g'.get? s.heap.objs.size=some { cls:=.type "tuple",data:=.seq #[.int ((i+1:Nat):Int) tk,x'] }:=sb.extBut _ _ hT ht;have fresh:H s.heap.objs.size=none:=I.hok.fresh (le_refl _);have I2:Inv X pins σ (upd H s.heap.objs.size (.tup [.int ((i:Int)+1),x])) { s with heap:=g',toks:=tk+1 }:=I.turnsL (tk:=tk+1) (o:=.tup [.int ((i:Int)+1),x]) kp2 hf (le_refl _)
   (show ObjOk X.prog X.w _ g' _ (.tup [.int ((i:Int)+1),x])from⟨by show 2<=sizeLine;decide,[.int ((i+1:Nat):Int) tk,x'],.cons ⟨_,rfl⟩ (.cons ru .nil),⟨_,hpair,rfl,⟨_,rfl⟩,rfl⟩⟩)
  refine⟨.ref s.heap.objs.size,_,I2,rfl,⟨s.heap.objs.size,x,fresh,rfl,rfl,λxs' q=>by rw[I.list_inj q h1];exact hx⟩,⟨⟨x',?_⟩,?_⟩,λc hc=>?_⟩
  .have:=e';rw[show(((i+1:Nat):Int)+1)=((i+1+1:Nat):Int) by omega]at this;exact this
  .have q:=hr'.2.1;exact q.extBut sb.extBut (Ne.symm ne)
  .have lt:c<s.heap.objs.size:=by
    simp only[mem_cons,not_mem_nil,or_false]at hc;rcases hc with rfl|rfl
    .exact hle
    .obtain⟨o,q,_⟩:=hr;exact Heap.lt_size q
   rw[AB (ne_of_lt lt)];exact(hf c hc).1
 done:=by
  intro X hP hw hK hc i pins s σ H E I hf st hg;subst hP hw hK;obtain⟨xs,h1,hend⟩:=hg;obtain⟨its,r,pl,hz⟩:=I.list h1;have l1':=r.length;obtain⟨⟨old,he⟩,hr⟩:=st;have hd:X.A.in1.handled=none:=I.ok.hd hc;have en:i=its.toArray.size:=by simp;omega
  subst en;refine wpAny_pyNext_enum_endD (HS.shift (Draws.list hd it l nl its.toArray)) he ⟨by omega,by simpa using hr,pl.isList⟩ λg x=>⟨rfl,?_⟩
  exact I.turns (tk:=s.toks) (λc o nc q=>by
   simp only[mem_cons,not_mem_nil,or_false,not_or]at nc;exact x c o nc.2 q) hf
 self:=λ_ _ _ _ _ st h=>by
  obtain⟨⟨old,he⟩,hr⟩:=st;exact wpAny_pyIter_enum he h
def Ma(K:PySem.W.Frag)(ta:TA):TI:=λσ H R=>ta σ H λvs H1=>∃a xs,vs=[.ref a]/\SqL K H1 a xs/\R (ItS K a) H1
def T6(K:PySem.W.Frag){X:Cx}{a:Expr}{ta:TA}{elts:List Expr}{kk:Nat}{j}{tpos p pos cp kp:Pos}(hg:Gl X "enumerate")(hm:X.mg "enumerate"=none)(ha:PA X [a] ta)(hK:X.K=K:=by rfl)(hs:starEach [a] X.env=[(false,eval a X.env)]:=by rfl):
 PI X (.Tuple elts kk tpos) (.Call (.Name "enumerate" p) [a] [⟨some "start",.Constant (.int 1) j cp,kp⟩] pos) (Ma K ta):=by
 subst hK;intro pins s σ H R I h;refine wpAny_Call_Name_kw (D3 I hg hm Fk ?_);have pl:(backTo pos (starEach [a] X.env)).any (·.1)=false:=by rw[hs];rfl
 refine HS.callWith_typeK pl rfl (evalArgs_kw2 (env:=X.env) (e:=a) (rest:=[]) (kws:=[⟨some "start",.Constant (.int 1) j cp,kp⟩]) rfl (thn (ha pos pins s σ H _ I h) λus s1 ⟨vs,H1,I1,r1,q1⟩=>?_) hs);obtain⟨l,xs,e,c,q⟩:=q1;subst e;obtain⟨u,rfl,ru⟩:=r1.one;cases ru;show wpAny _ _ (evalAll [(do let v <- eval (.Constant (.int 1) j cp) X.env;standAt pos;pure v)]) _ _ s1;refine wpAny_evalAll_cons (wpAny_bind (wpAny_Constant_int (wpAny_bind (wpAny_standAt (wpAny_pure (wpAny_evalAll_nil ?_))))));have I2:=I1.tok (s1.toks+1);obtain⟨its,r,pl,hz⟩:=I2.list c;have ll:l<s1.heap.objs.size:=by obtain⟨o,ho,_⟩:=pl.isList;exact Heap.lt_size ho
 refine HS.call_enumS pl.isList λg he hr hsz kp=>wpAny_pyIter_enum he ?_;refine⟨_,_,_,_,H1,rfl,I2.kept (t':=s1.toks+1) kp,OD (ne_of_gt (Nat.lt_succ_self _)) (ne_of_lt ll) (ne_of_gt (lt_succ_of_lt ll)),⟨⟨_,he⟩,hr⟩,λc hc=>?_,q⟩;simp only[mem_cons,not_mem_nil,or_false]at hc;have le:s1.heap.objs.size<=c:=by
  rcases hc with rfl|rfl
  .exact le_add_right _ _
  .exact le_refl _
 exact I2.fpOk le (I2.hok.fresh le)
section
variable{K:PySem.W.Frag}
def Fc(ma:MI):MI:=λls hd=>(ma ls hd).map λp=>((p.1.1.zipIdx.map λq=>AX [.im (.int ((q.2:Int)+1)),q.1],p.1.2),p.2)
def SR{ta:TE}{ma:MI}(ha:RRw K false ta ma):RIt K (Ma K (BD ta C2)) (Fc ma):=by
 intro ρ σ H hd ls Q d g hd' hR hL hm hQ;obtain⟨⟨⟨d1,g1⟩,h1⟩,e1,e2⟩:=dM hm;cases e2;refine ha ρ σ H hd ls _ d1 g1 h1 hR hL e1 λρ1 H1 a x1 R1 G1 S1=>?_;obtain⟨xs,c1,r1⟩:=S1 ρ1 H1 _ .refl R1 G1;refine⟨a,xs,rfl,c1,hQ ρ1 H1 _ x1 R1 G1 ?_⟩;intro ρ3 H3 hd3 x3 R3 G3 i;obtain⟨xs,c1,r1⟩:=S1 ρ3 H3 _ x3 R3 G3;have l1:=r1.len;refine⟨λhi=>?_,λhi=>⟨xs,c1,?_⟩⟩
 .have hi:i<d1.length:=by simpa using hi
  have i1:d1[i]?=some (d1[i]'hi):=List.getElem?_eq_getElem _;obtain⟨x,x4,x5⟩:=r1.get i1;refine⟨⟨xs,x,c1,x4⟩,λz H4 hz=>?_⟩;obtain⟨p,v,fp,rfl,rfl,hv⟩:=hz;have ev:=hv xs c1;rw[x4]at ev;cases ev;obtain⟨R4,x6⟩:=R3.hid (ho:=.tup [.int ((i:Int)+1),x]) fp;refine⟨ρ3,AX [.im (.int ((i:Int)+1)),d1[i]'hi],x6,rfl,R4,?_,BL (SqT.of AK) (.cons (by simp[RD,RI]) (.cons (x5.ext R3 x6) .nil))⟩;simp[i1]
 .have hi:i=d1.length:=by simpa using hi
  omega
def Sn(K:PySem.W.Frag){X:Cx}{a:Expr}{ta:TE}{ma:MI}{elts:List Expr}{kk:Nat}{j}{tpos p pos cp kp:Pos}(hm:X.mg "enumerate"=none)(ha:QR K false X a ta ma)(hg:Gl X "enumerate":=by rfl)(hK:X.K=K:=by rfl)(hs:starEach [a] X.env=[(false,eval a X.env)]:=by rfl):
 QI K X (.Tuple elts kk tpos) (.Call (.Name "enumerate" p) [a] [⟨some "start",.Constant (.int 1) j cp,kp⟩] pos) (Ma K (BD ta C2)) (Fc ma):=⟨T6 K hg hm (Bz ha.p D1 hs) hK hs,SR ha.r⟩
def Rg{ma:MI}{ls:Ls}{hd:Hd}{QI:List D×Gd->Hd->Prop}(h:WI ma ls hd λp x=>QI (p.1.zipIdx.map λq=>AX [.im (.int ((q.2:Int)+1)),q.1],p.2) x):WI (Fc ma) ls hd QI:=by
 obtain⟨p,x,e,q⟩:=h;exact⟨_,_,by simp only[Fc,e,map_some],q⟩
end
end L2
namespace L2
open PySem PySem.W
def tg1:Expr->List Str
 |.Name x _=>[x]
 |_=>[]
def tg2:Expr->List Str
 |.Tuple es _ _=>es.flatMap tg1
 |e=>tg1 e
def tgN:Expr->List Str
 |.Tuple es _ _=>es.flatMap tg2
 |e=>tg1 e
def frN(X:Cx)(ix:List Nat):List Str:=ix.filterMap λi=>X.N[i]?
def ndB:List Str->Bool
 |[]=>true
 |x::xs=>!xs.elem x&&ndB xs
def Fa:∀{l:List Str},ndB l=true->l.Nodup
 |[],_=>List.nodup_nil
 |x::xs,h=>by
  obtain⟨h1,h2⟩:=Bool.and_eq_true_iff.mp h;refine nodup_cons.mpr ⟨λhm=>?_,Fa h2⟩;rw[List.elem_eq_true_of_mem hm]at h1;cases h1
section
variable{K:PySem.W.Frag}{X:Cx}{elt tg iter tg' iter' e:Expr}{ifs ifs':List Expr}{scope:Scope}{pos spos py:Pos}{ix:List Nat}{wi wi':TI}{g g':TG}{tf tf':TT}{te tk tv:TE}{mi mi':MI}{n n':MG}{mf mf':MT}{me mk mv:ME}{k i:Nat}{x y:Str}
def qgA(hN:ndB X.N=true:=by kernel_rfl)(hi:X.N[i]?=some x:=by rfl)(hx:Loc X.env.scope x:=by first|exact Or.inl rfl|exact Or.inr rfl)(hf:X.fn x=true∨X.env.scope.names.lookup x=some .local:=by first|exact .inl rfl|exact .inr rfl):QG K X (.Name x pos) (Co i) (AD i):=Vf K (Fa hN) hi hx hf
def qnA(hi:QI K X tg iter wi mi)(hg:∀s H ex,QG K (cCx X (tgN tg++frN X ix) scope s H ex) tg g n)(hf:∀s H ex,QF K (cCx X (tgN tg++frN X ix) scope s H ex) ifs tf mf)(he:∀s H ex,QE K (cCx X (tgN tg++frN X ix) scope s H ex) elt te me)
 (hc:X.calm=true:=by rfl) (S:CSc X scope (frN X ix) ix:=by exact⟨rfl,by decide +kernel,rfl,rfl,rfl,by decide +kernel⟩) (hs:∀x,foldedSetIterable iter X.env x=pure x:=by intro _;rfl) (hk:(tgN tg).length=k:=by rfl):
 QN K X (.ListComp elt [⟨tg,iter,ifs,0⟩] scope pos) (Fq k ix wi g tf te) (Ao k ix mi n mf me):=by
 subst hk;exact Va K hc S hi hg hf he hs
def bG(hi:QI K X tg iter wi mi)(hg:∀s H ex,QG K (cCx X (tgN tg++frN X ix) scope s H ex) tg g n)(hf:∀s H ex,QF K (cCx X (tgN tg++frN X ix) scope s H ex) ifs tf mf)(he:∀s H ex,QE K (cCx X (tgN tg++frN X ix) scope s H ex) elt te me)
 (hsw:swapsWith (.ListComp elt [⟨tg,iter,ifs,0⟩] scope pos) (some (.Name y py)) spos.line X.env=pure true:=by rfl) (hN:ndB X.N=true:=by kernel_rfl) (hiN:X.N[i]?=some y:=by rfl) (hy:X.env.scope.names.lookup y=some .local:=by rfl)
 (hc:X.calm=true:=by rfl) (S:CSc X scope (frN X ix) ix:=by exact⟨rfl,by decide +kernel,rfl,rfl,rfl,by decide +kernel⟩) (hs:∀x,foldedSetIterable iter X.env x=pure x:=by intro _;rfl) (hk:(tgN tg).length=k:=by rfl):
 QS K X (.Assign [.Name y py] (.ListComp elt [⟨tg,iter,ifs,0⟩] scope pos) spos) (DL (Fq k ix wi g tf te) (Co i)) (AI i (B8 (Ao k ix mi n mf me))):=by
 subst hk;exact VP K (Fa hN) hiN hy hc S hi hg hf he hsw hs
def bH(hi:QI K X tg iter wi mi)(hg:∀s H ex,QG K (cCx X ((tgN tg++tgN tg')++frN X ix) scope s H ex) tg g n)(hf:∀s H ex,QF K (cCx X ((tgN tg++tgN tg')++frN X ix) scope s H ex) ifs tf mf)(hi2:∀s H ex,QI K (cCx X ((tgN tg++tgN tg')++frN X ix) scope s H ex) tg' iter' wi' mi')(hg2:∀s H ex,QG K (cCx X ((tgN tg++tgN tg')++frN X ix) scope s H ex) tg' g' n')(hf2:∀s H ex,QF K (cCx X ((tgN tg++tgN tg')++frN X ix) scope s H ex) ifs' tf' mf')(he:∀s H ex,QE K (cCx X ((tgN tg++tgN tg')++frN X ix) scope s H ex) elt te me)
 (hc:X.calm=true:=by rfl) (S:CSc X scope (frN X ix) ix:=by exact⟨rfl,by decide +kernel,rfl,rfl,rfl,by decide +kernel⟩) (hs:∀x,foldedSetIterable iter X.env x=pure x:=by intro _;rfl) (hs2:∀s H ex x,foldedSetIterable iter' (cCx X ((tgN tg++tgN tg')++frN X ix) scope s H ex).env x=pure x:=by intro _ _ _ _;rfl) (hk:(tgN tg++tgN tg').length=k:=by rfl):
 QE K X (.ListComp elt [⟨tg,iter,ifs,0⟩,⟨tg',iter',ifs',0⟩] scope pos) (Eg k ix wi g tf wi' g' tf' te) (D2 k ix mi n mf mi' n' mf' me):=by
 subst hk;exact Lz K hc S hi hg hf hi2 hg2 hf2 he hs hs2
def a8(hi:QI K X tg iter wi mi)(hg:∀s H ex,QG K (cCx X ((tgN tg++tgN tg')++frN X ix) scope s H ex) tg g n)(hf:∀s H ex,QF K (cCx X ((tgN tg++tgN tg')++frN X ix) scope s H ex) ifs tf mf)(hi2:∀s H ex,QI K (cCx X ((tgN tg++tgN tg')++frN X ix) scope s H ex) tg' iter' wi' mi')(hg2:∀s H ex,QG K (cCx X ((tgN tg++tgN tg')++frN X ix) scope s H ex) tg' g' n')(hf2:∀s H ex,QF K (cCx X ((tgN tg++tgN tg')++frN X ix) scope s H ex) ifs' tf' mf')(he:∀s H ex,QE K (cCx X ((tgN tg++tgN tg')++frN X ix) scope s H ex) elt te me)
 (hsw:swapsWith (.ListComp elt [⟨tg,iter,ifs,0⟩,⟨tg',iter',ifs',0⟩] scope pos) (some (.Name y py)) spos.line X.env=pure true:=by rfl) (hN:ndB X.N=true:=by kernel_rfl) (hiN:X.N[i]?=some y:=by rfl) (hy:X.env.scope.names.lookup y=some .local:=by rfl)
 (hc:X.calm=true:=by rfl) (S:CSc X scope (frN X ix) ix:=by exact⟨rfl,by decide +kernel,rfl,rfl,rfl,by decide +kernel⟩) (hs:∀x,foldedSetIterable iter X.env x=pure x:=by intro _;rfl) (hs2:∀s H ex x,foldedSetIterable iter' (cCx X ((tgN tg++tgN tg')++frN X ix) scope s H ex).env x=pure x:=by intro _ _ _ _;rfl) (hk:(tgN tg++tgN tg').length=k:=by rfl):
 QS K X (.Assign [.Name y py] (.ListComp elt [⟨tg,iter,ifs,0⟩,⟨tg',iter',ifs',0⟩] scope pos) spos) (DL (Eg k ix wi g tf wi' g' tf' te) (Co i)) (AI i (D2 k ix mi n mf mi' n' mf' me)):=by
 subst hk;exact Sg K (Fa hN) hiN hy hc S hi hg hf hi2 hg2 hf2 he hsw hs hs2
def qsA{pos':Pos}(he:QE K X e te me)(hs:swapsWith e (some (.Name x pos')) pos.line X.env=pure false:=by rfl)(hN:ndB X.N=true:=by kernel_rfl)(hi:X.N[i]?=some x:=by rfl)(hx:Loc X.env.scope x:=by first|exact Or.inl rfl|exact Or.inr rfl)(hf:X.fn x=true∨X.env.scope.names.lookup x=some .local:=by first|exact .inl rfl|exact .inr rfl):
 QS K X (.Assign [.Name x pos'] e pos) (DL te (Co i)) (AI i me):=Y4 K (Fa hN) hi hx he hs hf
end
end L2
namespace L2
open PySem PySem.Spec PyProof.Rows PySem.W
abbrev Tb:=Addr×Str×Nat×Nat
def WU(ts:List Tb):Obj:={ cls:=.str "tables" 0,data:=.fields (ts.flatMap λt=>[.ref t.1,.str t.2.1 0,.int t.2.2.1 0,.int t.2.2.2 0]).toArray }
def BF(K:PySem.W.Frag)(ts:List Tb):PySem.W.Frag:=(K.filter λp=>!(ts.map (·.1)).contains p.1)++[(mainGlobals,WU ts)]
def Pp:∀ts:List Tb,L9 (ts.flatMap λt=>[Value.ref t.1,.str t.2.1 0,.int t.2.2.1 0,.int t.2.2.2 0])=ts.map λt=>(t.1,t.2.1,⟨t.2.2.1,t.2.2.2,0,0⟩)
 |[]=>rfl
 |t::r=>by
  rw[flatMap_cons,map_cons,<- Pp r];rfl
def Gc(K:PySem.W.Frag)(ts:List Tb):Ca (BF K ts)=ts.map λt=>(t.1,t.2.1,⟨t.2.2.1,t.2.2.2,0,0⟩):=by
 unfold Ca BF;rw[List.getLast?_concat];show L9 _=_;rw[<- Pp ts]
def FH{L:List Addr}{a:Addr}(ha:a∉L):∀K:PySem.W.Frag,(K.filter λp=>!L.contains p.1).lookup a=K.lookup a
 |[]=>rfl
 |(b,o)::r=>by
   have ih:=FH ha r;rw[filter_cons];by_cases hb:b∈L
   .have h1:(!L.contains (b,o).1)=false:=by simp[hb]
    have h2:(a==b)=false:=beq_eq_false_iff_ne.mpr λz=>ha (z ▸ hb);rw[if_neg (by rw[h1];decide),lookup_cons,h2,ih]
   .have h1:(!L.contains (b,o).1)=true:=by simp[hb]
    rw[if_pos h1,lookup_cons,lookup_cons,ih]
def HA{L:List Addr}{P:Addr}(hP:P∈L):∀K:PySem.W.Frag,(K.filter λp=>!L.contains p.1).lookup P=none
 |[]=>rfl
 |(b,o)::r=>by
   have ih:=HA hP r;rw[filter_cons];by_cases hb:b∈L
   .rw[if_neg (by simp[hb])];exact ih
   .have h2:(P==b)=false:=beq_eq_false_iff_ne.mpr λz=>hb (z ▸ hP);rw[if_pos (by simp[hb]),lookup_cons,h2];exact ih
section
variable{K:PySem.W.Frag}{ts:List Tb}
def Gx{a:Addr}{o:Obj}(ha:a∉ts.map (·.1))(e:K.lookup a=some o):(BF K ts).lookup a=some o:=by
 unfold BF;rw[lookup_append,FH ha,e];rfl
def WR{h:Heap}(X:K.In h){g:Obj}(hg:K.lookup mainGlobals=some g)(hP:mainGlobals∉ts.map (·.1)):(BF K ts).In h:=λa o e=>by
 unfold BF at e;rw[lookup_append]at e;by_cases ha:a∈ts.map (·.1)
 .rw[HA ha,none_or]at e;have h2:(a==mainGlobals)=false:=beq_eq_false_iff_ne.mpr λz=>hP (z ▸ ha);rw[lookup_cons,h2]at e;cases e
 .rw[FH ha]at e;cases k:K.lookup a with
  |some o'=>rw[k]at e;cases e;exact X _ _ k
  |none=>
   rw[k,none_or,lookup_cons]at e;by_cases hm:a=mainGlobals
   .subst hm;rw[hg]at k;cases k
   .rw[beq_eq_false_iff_ne.mpr hm]at e;cases e
def WQ(hM:mainGlobals∉ts.map (·.1)){P:Addr}(hP:P∈ts.map (·.1)):(BF K ts).lookup P=none:=by
 unfold BF;have h2:(P==mainGlobals)=false:=beq_eq_false_iff_ne.mpr λz=>hM (z ▸ hP);rw[lookup_append,HA hP,none_or,lookup_cons,h2];rfl
def Fun.mark{x qual:Str}{st:Stmt}{f:Addr}{fd:FuncData}(D:Fun K x qual st f fd){h:Heap}(X:K.In h)(hP:∀P∈ts.map (·.1),h.get? P=some (tabObj #[])):Fun (BF K ts) x qual st f fd:=by
 have neP:∀a o,K.lookup a=some o->o≠tabObj #[]->a∉ts.map (·.1):=λa o e n z=>by
  have:=X _ _ e;rw[hP a z]at this;exact n (Option.some.inj this).symm
 obtain⟨⟨oc,od,kV,doc,pm,an,cdv,ct,osl,rfl,lk,hcd⟩,kp⟩:=D;have hf:f∉ts.map (·.1):=neP f _ lk (λz=>by cases z);refine⟨⟨oc,od,kV,doc,pm,an,cdv,ct,osl,rfl,Gx hf lk,?_⟩,?_⟩
 .unfold codeIn at hcd ⊢;split at hcd
  .next c0=>
   split at hcd
   .next vs sl k=>
    have hc:c0∉ts.map (·.1):=neP c0 _ k (λz=>by
     have:vs=#[]:=by injection z with _ _ z _;injection z
     rw[this]at hcd;cases hcd)
    simp only[Gx hc k];exact hcd
   .cases hcd
  .cases hcd
 .unfold keepIn;simp only[Gx hf lk]
end
def Zu{K:PySem.W.Frag}{H:Hp}{a:Addr}{xs:List V}(hS:SqL K H a xs)(hO:∀ys,H a≠some (.lst ys)):RoL K H a xs:=by
 rcases hS with(h|h)|h
 .exact absurd h (hO xs)
 .exact .inl h
 .exact .inr h
def Qj{Pg:Program}{w:World}{K:PySem.W.Frag}{mg mb:Str->Option Value}{k:Nat}{fa a:Addr}{fd:FuncData}{x:Str}{ts:List Tb}{s₁:Shared}{vs:List Value}{ns:List Int}{F:List D->Hd->Option (D×Hd)}
 (KX:K.In s₁.heap) (hns:s₁.heap.Ns mainGlobals mg) (hb:s₁.heap.Ns builtinsNs mb) (hbb:∀x:Str,x≠"__name__"->mb x=bootBuiltins x) (hlim:s₁.heap.NoLimit) (hg:s₁.gens=#[])
 (ha:s₁.heap.get? a=some { cls:=.type "list",data:=.seq vs.toArray }) (hi:IntsAre vs ns) (hl:ns.length<=sizeLine) (hr:Room k callerA)
 (hT:∀P∈ts.map (·.1),∃cc,s₁.heap.TableAt cc P #[]) (hPK:∀P∈ts.map (·.1),K.lookup P=none) (htab:Ca K=ts.map λt=>(t.1,t.2.1,⟨t.2.2.1,t.2.2.2,0,0⟩))
 (Fn:∀base:Heap,K.In base->base.Ns mainGlobals mg->(∀b o,b∉ts.map (·.1)->b≠a->s₁.heap.get? b=some o->base.get? b=some o)->FnOk Pg w K mg base CX0 k fa fd [x] (spF K 1 F)) (hbind:∀(s:Shared) (u:Value),BindsTo s fd ⟨[u],[]⟩ [(x,u)])
 (hF:∃hd',F [.ro ns] []=some (.im (.bl true),hd')):
 codeAny (model Pg w) callerA (.call (.ref fa) ⟨[.ref a],[]⟩) (λr s'=>r=.ok (.ret (.bool true))/\OldK s₁.heap s'.heap/\s'.os=s₁.os/\AllBare s'.gens) s₁:=by
 have rv:=KC hi;have lenV:=hi.length;have hP:∀P∈ts.map (·.1),s₁.heap.get? P=some (tabObj #[]):=λP h=>let ⟨cc,t⟩:=hT P h;t.2
 have haP:a∉ts.map (·.1):=λz=>by rw[hP a z]at ha;cases ha
 have core:∀H:Hp,(∀b,b∉ts.map (·.1)->H b=none∨∃o xs,H b=some (.frz o (.lst xs)))->(∀P∈ts.map (·.1),H P=some (.tbl #[]))->SqL K H a (ns.map V.int)->HOk Pg w H s₁.heap->(∀b,H b≠none->b=a∨b∈ts.map (·.1))->(H a≠none->K.lookup a=none) ->
  codeAny (model Pg w) callerA (.call (.ref fa) ⟨[.ref a],[]⟩) (λr s'=>r=.ok (.ret (.bool true))/\OldK s₁.heap s'.heap/\s'.os=s₁.os/\AllBare s'.gens) s₁:=by
  intro H hO hHP hS hok hA hK;have base_of:∀{b:Addr} {o:Obj},s₁.heap.get? b=some o->H b=none->(G8 s₁.heap H).get? b=some o:=λe n=>Tf e n;have noA:∀{b:Addr} {o:Obj} {es:Array DictEntry} {ep:Nat},s₁.heap.get? b=some o->o.data=.dict es ep->H b=none:=λ{b o es ep} e d=>by
   cases q:H b with
   |none=>rfl
   |some u=>
    rcases hA b (by rw[q];simp)with e'|e'
    .subst e';rw[ha]at e;cases e;have d':Data.seq vs.toArray _=Data.dict es ep:=d;cases d'
    .rw[hP b e']at e;cases e;cases d
  have nsK:∀{b:Addr} {m:Str->Option Value},s₁.heap.Ns b m->(G8 s₁.heap H).Ns b m:=λ{b m} ⟨o,es,ep,e,d,r⟩=>⟨o,es,ep,base_of e (noA e d),d,r⟩
  have hKb:K.In (G8 s₁.heap H):=λb o e=>base_of (KX b o e) (by
   cases q:H b with
   |none=>rfl
   |some u=>
    rcases hA b (by rw[q];simp)with e'|e'
    .subst e';rw[hK (by rw[q];simp)]at e;cases e
    .rw[hPK b e']at e;cases e)
  have hM:Mod K mg (G8 s₁.heap H):=⟨hKb,nsK hns,⟨mb,nsK hb,hbb⟩,let ⟨mc,h1,h2⟩:=hlim;⟨mc,nsK h1,h2⟩⟩
  have e0:Env0 Pg w K mg (G8 s₁.heap H) callerA [] s₁ H:=⟨rfl,hM,λb o e=>WK e,Nat.le_of_eq (Qq _ _),trivial,λb hb=>absurd (show b∈([]:List Addr)from hb) (by simp),hok,.of_eq hg⟩
  have hsp:spF K 1 F [.ref a] H (λv _=>v=.bl true) λ_ _ _=>False:=by
   obtain⟨hd',e⟩:=hF;refine⟨rfl,[],[],[.ro ns],.im (.bl true),hd',⟨rfl,List.nodup_nil,λy hy=>?_,λn o a h=>by simp at h⟩,?_,e,λρ' H' v _ _ r=>?_⟩
   .rw[htab]at hy;obtain⟨t,ht,rfl⟩:=mem_map.mp hy;exact⟨#[],hHP t.1 (mem_map.mpr ⟨t,ht,rfl⟩),.inl rfl⟩
   .simp only[RDs,RD];refine⟨_,_,rfl,⟨a,rfl,Zu hS λys z=>?_⟩,rfl⟩;rcases hO a haP with q|⟨o,ys,q⟩<;>(rw[q]at z;cases z)
   .simpa only[RD,RI]using r
  refine codeAny_mono ((Fn _ hKb (nsK hns) λb o n1 n2 e=>base_of e (by
   cases q:H b with
   |none=>rfl
   |some u=>
    rcases hA b (by rw[q];simp)with e'|e'
    .exact absurd e' n2
    .exact absurd e' n1)).run callerA [] s₁ H ⟨[.ref a],[]⟩ [.ref a] [.ref a] _ _ hr e0 (hbind s₁ (.ref a)) (.cons rfl .nil) hsp) λr s' h=>?_
  cases r with
  |error e=>exact h.elim
  |ok fl=>
   cases fl with
   |next=>exact False.elim h
   |brk=>exact False.elim h
   |cont=>exact False.elim h
   |ret u=>
    obtain⟨v,H',os,bare,un,hok',r',q⟩:=h;have q':v=.bl true:=q;subst q';obtain rfl:u=Value.bool true:=r';have keep:∀b o,b∉ts.map (·.1)->s₁.heap.get? b=some o->s'.heap.get? b=some o:=λb o nb e=>by
     cases q:H b with
     |none=>exact un.keep b o e q (by intro z;exact absurd (show b∈([]:List Addr)from z) (by simp)) (by simp)
     |some u=>
      rcases hO b nb with z|⟨ob,xs,z⟩
      .rw[q]at z;cases z
      .have z2:=un.frzs b ob _ z;obtain⟨e1,_⟩:=hok b _ z;obtain⟨e2,_⟩:=hok' b _ z2;rw[e]at e1;cases e1;exact e2
    refine⟨rfl,⟨λb o e=>?_,λb o e=>?_⟩,os,bare⟩
    .by_cases nb:b∈ts.map (·.1)
     .obtain⟨cc,tb⟩:=hT b nb;obtain⟨more,hm⟩:=un.tbls b #[] (hHP b nb);have hb':s'.heap.get? b=some (tabObj (#[]++more)):=hok' b _ hm;rw[hP b nb]at e;cases e;exact .inr (.inl ⟨tb.isCodeTable,rfl,#[],more,rfl,hb'⟩)
     .exact .inl (keep b o nb e)
    .by_cases nb:b∈ts.map (·.1)
     .obtain⟨more,hm⟩:=un.tbls b #[] (hHP b nb);exact⟨_,hok' b _ hm⟩
     .exact⟨o,keep b o nb e⟩
 cases hk:K.lookup a with
 |some o=>
  have e:=KX a o hk;rw[ha]at e;cases e;refine core (λb=>if b∈ts.map (·.1)then some (.tbl #[])else none) (λb nb=>.inl (if_neg nb)) (λP hp=>if_pos hp) (.inr ⟨_,vs.toArray,_,hk,rfl,rfl,rfl,by rw[size_toArray,lenV];exact hl,by simpa using rv⟩) (λb u z=>?_) (λb z=>?_) λz=>absurd (if_neg haP) z
  .by_cases hb:b∈ts.map (·.1)
   .have z':=(if_pos hb).symm.trans z;cases z';exact hP b hb
   .have z':=(if_neg hb).symm.trans z;cases z'
  .by_cases hb:b∈ts.map (·.1)
   .exact .inr hb
   .exact absurd (if_neg hb) z
 |none=>
  refine core (λb=>if b∈ts.map (·.1)then some (.tbl #[])else if b=a then some (.frz { cls:=.type "list",data:=.seq vs.toArray } (.lst (ns.map V.int)))else none) (λb nb=>?_) (λP hp=>if_pos hp) (.inl (.inr ⟨{ cls:=.type "list",data:=.seq vs.toArray },(if_neg haP).trans (if_pos rfl)⟩)) (λb u z=>?_) (λb z=>?_) λ_=>hk
  .rw[if_neg nb];by_cases hb:b=a
   .exact .inr ⟨_,_,if_pos hb⟩
   .exact .inl (if_neg hb)
  .by_cases hp:b∈ts.map (·.1)
   .have z':=(if_pos hp).symm.trans z;cases z';exact hP b hp
   .have z:=(if_neg hp).symm.trans z;by_cases hb:b=a
    .have z':=(if_pos hb).symm.trans z;cases z';subst hb;exact⟨ha,by rw[length_map];exact hl,vs,_,rv,ha⟩
    .have z':=(if_neg hb).symm.trans z;cases z'
  .by_cases hp:b∈ts.map (·.1)
   .exact .inr hp
   .by_cases hb:b=a
    .exact .inl hb
    .exact absurd ((if_neg hp).trans (if_neg hb)) z
def walkL{l:PySem.W.OpenLaw}{n k:Nat}{q:Program}{loose:List Str}{XP:(Str->Option Value)->Heap->Prop}{YP:World->Heap->Prop}{d:DefRec}{K:Params->PySem.W.Frag}{F:List D->Hd->Option (D×Hd)}(xs:List (Str×Str×Nat×Nat))
 (hn:l.most=some n) (hn2:n<=sizeLine) (hdf:d.params.defaults=[]) (hr:Room k callerA) (hdr:∀x∈xs,∃dr,(recsOf q).find? (λe=>e.name==x.1)=some dr)
 (hF:∀ns:List Int,∃hd',F [.ro ns] []=some (.im (.bl true),hd'))
 (hY:∀(w:World) (h:Heap),YP w h->(K w.params).In h)
 (G:∀(w:World) (mg:Str->Option Value) (fa:Addr) (h:Heap) (c P:Str->Addr),(K w.params).In h->h.Ns mainGlobals mg->mg d.name=some (.ref fa) ->
  (∀x∈xs,h.get? (P x.1)=some (tabObj #[])/\CodeHd h (c x.1) (P x.1)/\∃a o fd,mg x.1=some (.ref a)/\h.get? a=some o/\o.data=.func fd/\fd.code=.ref (c x.1)) ->
  (∃g,(K w.params).lookup mainGlobals=some g)/\∃fd:FuncData,(∀(s:Shared) (u:Value),BindsTo s fd ⟨[u],[]⟩ [("_law_script",u)])/\
   ∀base:Heap,(BF (K w.params) (xs.map λx=>(P x.1,x.2))).In base->base.Ns mainGlobals mg->(∀x∈xs,CodeHd base (c x.1) (P x.1))->(∀x∈xs,base.BuiltinsAt mg (P x.1))->FnOk l.prog w (BF (K w.params) (xs.map λx=>(P x.1,x.2))) mg base CX0 k fa fd ["_law_script"] (spF (BF (K w.params) (xs.map λx=>(P x.1,x.2))) 1 F)):
 PySem.W.WalkO q loose XP YP l.row.toRowW d [] (λf vs=>PySem.call f vs):=by
 refine Att.attach_call hn hdf λw s₀ s₁ mg mb fa o pm cd doc a vs ns Gr Y ho hd hcd hmg hobj hints hlen hg=>?_;have KX:=hY w _ Y;have each:∀x:Str,∃cp:Addr×Addr,(∃y∈xs,y.1=x)->(∃cc,s₁.heap.TableAt cc cp.2 #[])/\CodeHd s₁.heap cp.1 cp.2/\∃a o fd,mg x=some (.ref a)/\s₁.heap.get? a=some o/\o.data=.func fd/\fd.code=.ref cp.1:=by
  intro x;by_cases hx:∃y∈xs,y.1=x
  .obtain⟨y,hy,rfl⟩:=hx;obtain⟨dr,hdr⟩:=hdr y hy;have hnm:dr.name=y.1:=beq_iff_eq.mp (List.find?_some (p:=λe:DefRec=>e.name==y.1) hdr);obtain⟨a',o',fd',c,P,h1,h2,h3,h4,h5,h6⟩:=Gr.T.tab dr (List.mem_of_find?_eq_some hdr);rw[hnm]at h1;exact⟨(c,P),λ_=>⟨⟨_,h6⟩,CodeHd.of h5 h6,a',o',fd',h1,h2,h3,h4⟩⟩
  .exact⟨(0,0),λh=>absurd h hx⟩
 obtain⟨cp,hcp⟩:=Classical.skolem.mp each;have hcp:∀x∈xs,(∃cc,s₁.heap.TableAt cc (cp x.1).2 #[])/\CodeHd s₁.heap (cp x.1).1 (cp x.1).2/\∃a o fd,mg x.1=some (.ref a)/\s₁.heap.get? a=some o/\o.data=.func fd/\fd.code=.ref (cp x.1).1:=λx hx=>hcp x.1 ⟨x,hx,rfl⟩;have hts:∀P∈(xs.map λx=>((cp x.1).2,x.2)).map (·.1),∃x∈xs,P=(cp x.1).2:=λP hP=>by
  obtain⟨t,ht,rfl⟩:=mem_map.mp hP;obtain⟨x,hx,rfl⟩:=mem_map.mp ht;exact⟨x,hx,rfl⟩
 have hP:∀x∈xs,s₁.heap.get? (cp x.1).2=some (tabObj #[]):=λx hx=>by
  obtain⟨⟨cc,t⟩,_⟩:=hcp x hx;exact t.2
 have hmP:mainGlobals∉(xs.map λx=>((cp x.1).2,x.2)).map (·.1):=λz=>by
  obtain⟨x,hx,ez⟩:=hts _ z;obtain⟨o,es,ep,e,dd,_⟩:=Gr.T.g;rw[ez,hP x hx]at e;cases e;cases dd
 obtain⟨⟨g,hgl⟩,fd,hb,hFn⟩:=G w mg fa _ (λx=>(cp x).1) (λx=>(cp x).2) KX Gr.T.g hmg λx hx=>⟨hP x hx,(hcp x hx).2⟩
 refine Qj (ts:=xs.map λx=>((cp x.1).2,x.2)) (K:=BF (K w.params) (xs.map λx=>((cp x.1).2,x.2))) (WR KX hgl hmP) Gr.T.g Gr.T.b Gr.T.builtins Gr.T.nolimit hg hobj hints (le_trans hlen hn2) hr (λP hp=>by obtain⟨x,hx,rfl⟩:=hts P hp;exact(hcp x hx).1) (λP hp=>WQ hmP hp) (Gc _ _) (λbase kb nb keep=>hFn base kb nb (λx hx=>?_) λx hx=>?_) hb (hF ns)
 .obtain⟨oc,vs',file,tf,flags,tg,inF,text,tt,e1,r1,r2,r3,r4,r5,r6,r7,r8,hne⟩:=(hcp x hx).2.1;have hn:(cp x.1).1∉(xs.map λx=>((cp x.1).2,x.2)).map (·.1):=λz=>by
   obtain⟨y,hy,ez⟩:=hts _ z;rw[ez,hP y hy]at e1;cases e1;cases r1
  exact⟨oc,vs',file,tf,flags,tg,inF,text,tt,keep (cp x.1).1 oc hn (λz=>by rw[z,hobj]at e1;cases e1;exact absurd (show Value.type "list"=Value.type "code" from r1) (by decide)) e1,r1,r2,r3,r4,r5,r6,r7,r8,hne⟩
 .obtain⟨bm,ob,b1,b2,b3,b4,b5,b6⟩:=Gr.T.bmain;have nP:∀y∈xs,bm≠(cp y.1).2:=λy hy z=>by rw[z,hP y hy]at b3;cases b3;cases b4
  have hn:bm∉(xs.map λx=>((cp x.1).2,x.2)).map (·.1):=λz=>by
   obtain⟨y,hy,ez⟩:=hts _ z;exact nP y hy ez
  refine⟨bm,ob,b1,b2,λz=>?_,nP x hx,keep bm ob hn (λz=>by rw[z,hobj]at b3;cases b3;exact absurd (show Value.type "list"=Value.type "module" from b4) (by decide)) b3,b4,b5,b6⟩;obtain⟨o,es,ep,e,dd,_⟩:=Gr.T.g;rw[<- z,b3]at e;cases e;rw[b6]at dd;cases dd
def Rq(o:Obj):Option Addr:=match o.data with
 | .fields vs=>(match (vs[11]?:Option Value)with
  |some (Value.ref P)=>some P
  | _=>none)
 |_=>none
def XH{K:PySem.W.Frag}{h:Heap}{c P p:Addr}{o:Obj}(X:K.In h)(hc:CodeHd h c P)(k:K.lookup c=some o)(e:Rq o=some p):P=p:=by
 obtain⟨o',vs,file,tf,flags,tg,inF,text,tt,e1,e2,e3,e4,_⟩:=hc;have:=X _ _ k;rw[e1]at this;cases this;simp only[Rq,e3,e4]at e;exact Option.some.inj e
end L2
namespace L2
open PySem PySem.W PyProof.Rows
abbrev FD:=List D->Hd->Option (D×Hd)
structure En where
 P:Program
 w:World
 K:PySem.W.Frag
 mg:Str->Option Value
 base:Heap
structure Df where
 x:Str
 st:Stmt
 ps:List Str
 k:Nat
 F:FD
def Dn(E:En)(e:Df):Prop:=∃f fd,DefAt E.K E.mg e.x e.st f fd e.ps
def Dl(E:En)(e:Df)(ps:Pos):Prop:=∃f fd c P,DefAt E.K E.mg e.x e.st f fd e.ps/\LamC E.K E.mg E.base fd c P ((e.x++".<locals>.")++"<lambda>") ps
def Kn(E:En)(e:Df):Prop:=∃f fd,DefAt E.K E.mg e.x e.st f fd e.ps/\FnOk E.P E.w E.K E.mg E.base CX0 e.k f fd e.ps (spF E.K e.ps.length e.F)/\∀ds hd z,e.F ds hd=some z->ds.length=e.ps.length
def okK{E:En}{x:Str}{st:Stmt}{ps N:List Str}{j k:Nat}{m:MS}{F:FD}(D:Dn E ⟨x,st,ps,k,F⟩)(S:FnScope N ps (A9 st))(hF:F=mkF ps.length N.length m)(hk:k=j+1)
 (h:∀(f:Addr) (cdv:Value) (A:Around) (outer:List Env) (s:Shared) (H:Hp) (Ek:XK),Room j (A.deeper (envOfC x (A9 st) s.heap.objs.size f cdv))->∃t,QSs E.K (FM CX0 E.P E.w E.K E.mg E.base N x (A9 st) f cdv A outer s H Ek).nox (BC st) t m):Kn E ⟨x,st,ps,k,F⟩:=by
 obtain⟨f,fd,D⟩:=D;subst hF;subst hk;exact⟨f,fd,D,WJ D S (h f),Nl⟩
def okL{E:En}{x:Str}{st:Stmt}{ps N:List Str}{j k:Nat}{m:MS}{F:FD}{pos:Pos}(D:Dl E ⟨x,st,ps,k,F⟩ pos)(S:FnScope N ps (A9 st))(hF:F=mkF ps.length N.length m)(hk:k=j+1)
 (h:∀(f c P:Addr) (fd:FuncData) (LC:LamC E.K E.mg E.base fd c P ((x++".<locals>.")++"<lambda>") pos) (cdv:Value) (A:Around) (outer:List Env) (s:Shared) (H:Hp) (Ek:XK),fd.code=cdv->Room j (A.deeper (envOfC x (A9 st) s.heap.objs.size f cdv))->∃t,QSs E.K (FM CX0 E.P E.w E.K E.mg E.base N x (A9 st) f cdv A outer s H Ek).nox (BC st) t m):Kn E ⟨x,st,ps,k,F⟩:=by
 obtain⟨f,fd,c,P,D,LC⟩:=D;subst hF;subst hk;exact⟨f,fd,D,TJ D S (h f c P fd LC),Nl⟩
section
variable{K:PySem.W.Frag}{X:Cx}{e:Expr}{es:List Expr}{t:TA}{m:MA}{x:Str}{j k:Nat}{ps:List Str}{F:FD}{st:Stmt}{p pos:Pos}
def qcW(w:Nat)(G:Kn ⟨X.prog,X.w,X.K,X.mg,X.base⟩ ⟨x,st,ps,j,F⟩)(hr:Room k X.A)(ha:QA K X (e::es) t m)
 (hjk:j<=k:=by first|decide|omega) (hg:Gl X x:=by rfl) (hdb:(x==("__debug__":Str))=false:=by decide) (he:starEach (e::es) X.env=(false,eval e X.env)::starEach es X.env:=by rfl) (hpl:(backTo pos (starEach es X.env)).any (·.1)=false:=by rfl) (hK:X.K=K:=by rfl):
 QE K X (.Call (.Name x p) (e::es) [] pos) (Ey (spF K ps.length F) [] E0 t) (A8 w F m):=by
 subst hK;obtain⟨f,fd,D,G,l⟩:=G;exact Sr _ w G hr D ha l hjk hg hdb he hpl
def qcG(G:Kn ⟨X.prog,X.w,X.K,X.mg,X.base⟩ ⟨x,st,ps,j,F⟩)(hr:Room k X.A)(ha:QA K X (e::es) t m)
 (hjk:j<=k:=by first|decide|omega) (hg:Gl X x:=by rfl) (hdb:(x==("__debug__":Str))=false:=by decide) (he:starEach (e::es) X.env=(false,eval e X.env)::starEach es X.env:=by rfl) (hpl:(backTo pos (starEach es X.env)).any (·.1)=false:=by rfl) (hK:X.K=K:=by rfl):
 QE K X (.Call (.Name x p) (e::es) [] pos) (Ey (spF K ps.length F) [] E0 t) (DS F m):=by
 subst hK;obtain⟨f,fd,D,G,l⟩:=G;exact Ss _ G hr D ha l hjk hg hdb he hpl
variable{c P:Addr}{scope:Scope}{ix:List Nat}{params:Arguments}{body:Expr}{lpos kpos:Pos}{te tb:TE}{mi mb:ME}{fd:FuncData}{cdv:Value}{q:Str}
def Sz(a:Arguments):Str:=match a.args with
 |x::_=>x.arg
 |[]=>""
def Y3{src:Ls->Hd->Option (List Int×Hd)}(LC:LamC X.K X.mg X.base fd c P q lpos)(hcd:fd.code=cdv)(hr:Room k X.A)(hm:X.mg "sorted"=none)(he:QSrc K X e te src)
 (hb:∀(f:Addr) (cd:Value) (s:Shared) (H:Hp),QE K (lCx X X.A.in1.in1 (Sz params::frN X ix) (X.env.qual++"<lambda>") scope f cd (Aa X.env.cells scope.names []) s H) body tb mb)
 (hcv:X.env.code=cdv:=by rfl) (hq:q=X.env.qual++"<lambda>":=by rfl) (S:CSc X scope (frN X ix) ix:=by exact⟨rfl,by decide +kernel,rfl,rfl,rfl,by decide +kernel⟩) (L:LSc scope (Sz params):=by exact⟨rfl,rfl,rfl,rfl⟩) (h3:3<=k:=by decide)
 (hbind:∀(cl:List (Str×Addr)) (pm cd ctv us:Value),bindArgs (kla_fn "<lambda>" (X.env.qual++"<lambda>") params body scope cl pm cd ctv) ⟨[us],[]⟩=pure [(Sz params,us)]:=by exact λ_ _ _ _ _=>rfl)
 (hcm:X.calm=true:=by rfl) (hg:Gl X "sorted":=by rfl) (hdef:defaultsOf params X.env=([],[]):=by rfl) (hs:starEach [e] X.env=[(false,eval e X.env)]:=by rfl) (hK:X.K=K:=by rfl):
 QN K X (.Call (.Name "sorted" p) [e] [⟨some "key",.Lambda params body scope lpos,kpos⟩] pos) (Ic K P (X.env.qual++"<lambda>") lpos ix te tb) (E6 src ix mb):=by
 subst hq;exact Sj K ⟨hcv.trans (hcd.symm.trans LC.code),LC.hd,LC.bl⟩ (hK ▸ LC.ti) S L hr h3 hm he hb hbind hcm hg hdef hs hK
end
def FnAt(K:PySem.W.Frag)(n:Str)(s:Stmt)(f:Addr)(cd:Value):Prop:=∃oc kV dc pm ct od an sl,PySem.W.nsIn K mainGlobals n=some (some (.ref f))/\K.lookup f=some ⟨oc,od,.func (PySem.W.fnOf n n (CM s) (BC s) (A9 s) .none kV dc pm an cd ct),sl⟩/\PySem.W.codeIn K cd n=true/\PySem.W.keepIn K (.ref f)=true
def Fe(K:PySem.W.Frag)(e:Df):Prop:=∃f cd,FnAt K e.x e.st f cd
def Fla(K:PySem.W.Frag)(e:Df)(p:Addr):Prop:=∃f ca ob,FnAt K e.x e.st f (.ref ca)/\K.lookup ca=some ob/\Rq ob=some p
abbrev Xs:=List (Str×Str×Nat×Nat)
def HX(xs:Xs)(mg:Str->Option Value)(h:Heap)(c P:Str->Addr):Prop:=∀x∈xs,h.get? (P x.1)=some (tabObj #[])/\CodeHd h (c x.1) (P x.1)/\∃a o fd,mg x.1=some (.ref a)/\h.get? a=some o/\o.data=.func fd/\fd.code=.ref (c x.1)
abbrev tbs(xs:Xs)(P:Str->Addr):List Tb:=xs.map λx=>(P x.1,x.2)
abbrev enM(l:PySem.W.OpenLaw)(w:World)(K:PySem.W.Frag)(xs:Xs)(P:Str->Addr)(mg:Str->Option Value)(base:Heap):En:=⟨l.prog,w,BF K (tbs xs P),mg,base⟩
def Bd(e:Df):Prop:=∀(kV doc pm:Value) (an:Option Addr) (cdv ct:Value) (us:List Value),us.length=e.ps.length->bindArgs (PySem.W.fnOf e.x e.x (CM e.st) (BC e.st) (A9 e.st) .none kV doc pm an cdv ct) ⟨us,[]⟩=pure (e.ps.zip us)
section
variable{K:PySem.W.Frag}{h:Heap}{mg:Str->Option Value}{xs:Xs}{c P:Str->Addr}(X:K.In h)(G:h.Ns mainGlobals mg)(hx:HX xs mg h c P)
include hx in
theorem bO:∀P'∈(tbs xs P).map (·.1),h.get? P'=some (tabObj #[]):=λP' hp=>by
 obtain⟨t,ht,rfl⟩:=mem_map.mp hp;obtain⟨x,hxx,rfl⟩:=mem_map.mp ht;exact(hx x hxx).1
include X G hx in
theorem FnAt.def{e:Df}{f:Addr}{cd:Value}(H:FnAt K e.x e.st f cd)(b:Bd e):∃fd,DefAt (BF K (tbs xs P)) mg e.x e.st f fd e.ps/\fd.code=cd:=by
 obtain⟨oc,kV,dc,pm,ct,od,an,sl,a,l,cc,k⟩:=H;have F:=Fun.mark (ts:=tbs xs P) (ZJ (st:=e.st) l cc k) X (bO hx);exact⟨_,⟨F,PySem.W.mg_of X G a,F.binds b⟩,rfl⟩
include X G hx in
theorem Fe.dn{e:Df}(H:Fe K e)(b:Bd e)(l:PySem.W.OpenLaw)(w:World)(base:Heap):Dn (enM l w K xs P mg base) e:=by
 obtain⟨f,cd,H⟩:=H;obtain⟨fd,D,_⟩:=H.def X G hx b;exact⟨f,fd,D⟩
include X G hx in
theorem Fla.code{e:Df}{p:Addr}(H:Fla K e p){q:Str}{i j:Nat}(hm:(e.x,q,i,j)∈xs):P e.x=p/\∃f,FnAt K e.x e.st f (.ref (c e.x)):=by
 obtain⟨f,ca,ob,⟨oc,kV,dc,pm,ct,od,an,sl,a,l,cc,k⟩,t,v⟩:=H;obtain⟨_,hh,a',ob',fd,h1,h2,h3,h4⟩:=hx _ hm;have e1:=h1.symm.trans (PySem.W.mg_of X G a);cases e1;have e2:=h2.symm.trans (X _ _ l);cases e2;cases h3;have e3:Value.ref ca=.ref (c e.x):=h4;cases e3;exact⟨XH X hh t v,f,⟨_,_,_,_,_,_,_,_,a,l,cc,k⟩⟩
include X G hx in
theorem Fla.dl{e:Df}{p:Addr}(H:Fla K e p)(b:Bd e){q:Str}{i j:Nat}(hm:(e.x,q,i,j)∈xs){i' j':Nat}(l:PySem.W.OpenLaw)(w:World){base:Heap}(hd:∀x∈xs,CodeHd base (c x.1) (P x.1))(bl:∀x∈xs,base.BuiltinsAt mg (P x.1))(nd:((Ca (BF K (tbs xs P))).map (·.1)).Nodup)(hq:q=(e.x++".<locals>.")++"<lambda>"):
 Dl (enM l w K xs P mg base) e ⟨i,j,i',j'⟩:=by
 obtain⟨_,f,H⟩:=H.code X G hx hm;obtain⟨fd,D,e1⟩:=H.def X G hx b;subst hq;exact⟨f,fd,_,_,D,⟨e1,hd _ hm,bl _ hm,⟨i,j,0,0⟩,by rw[Gc];exact mem_map.mpr ⟨(P e.x,_,i,j),mem_map.mpr ⟨_,hm,rfl⟩,rfl⟩,nd,rfl,rfl⟩⟩
def aS{ps:List Addr}(h:(xs.map λx=>P x.1)=ps)(n:ps.Nodup):((Ca (BF K (tbs xs P))).map (·.1)).Nodup:=by
 rw[Gc,map_map,map_map];subst h;exact n
end
def Zs(K:PySem.W.Frag):Prop:=∀n∈(["list","tuple","len","range","repr","sum","min","max","abs","all","any","sorted","zip","isinstance","int","bool","str","set","enumerate","reversed","dict"]:List Str),PySem.W.nsIn K mainGlobals n=some none
def Zs.blt{K:PySem.W.Frag}(Z:Zs K){h:Heap}{mg:Str->Option Value}(X:K.In h)(G:h.Ns mainGlobals mg):BltA mg:=by
 constructor<;>exact PySem.W.mg_none_of X G (Z _ (by simp))
def bd1{e:Df}(hl:e.ps.length=1:=by rfl)(h:∀(kV doc pm:Value) (an:Option Addr) (cdv ct:Value) a,bindArgs (PySem.W.fnOf e.x e.x (CM e.st) (BC e.st) (A9 e.st) .none kV doc pm an cdv ct) ⟨[a],[]⟩=pure (e.ps.zip [a]):=by intros;rfl):Bd e:=λ_ _ _ _ _ _ us hu=>match us,hu.trans hl with|[_],_=>h ..
def bd2{e:Df}(hl:e.ps.length=2:=by rfl)(h:∀(kV doc pm:Value) (an:Option Addr) (cdv ct:Value) a b,bindArgs (PySem.W.fnOf e.x e.x (CM e.st) (BC e.st) (A9 e.st) .none kV doc pm an cdv ct) ⟨[a,b],[]⟩=pure (e.ps.zip [a,b]):=by intros;rfl):Bd e:=λ_ _ _ _ _ _ us hu=>match us,hu.trans hl with|[_,_],_=>h ..
def bd3{e:Df}(hl:e.ps.length=3:=by rfl)(h:∀(kV doc pm:Value) (an:Option Addr) (cdv ct:Value) a b c,bindArgs (PySem.W.fnOf e.x e.x (CM e.st) (BC e.st) (A9 e.st) .none kV doc pm an cdv ct) ⟨[a,b,c],[]⟩=pure (e.ps.zip [a,b,c]):=by intros;rfl):Bd e:=λ_ _ _ _ _ _ us hu=>match us,hu.trans hl with|[_,_,_],_=>h ..
def bd4{e:Df}(hl:e.ps.length=4:=by rfl)(h:∀(kV doc pm:Value) (an:Option Addr) (cdv ct:Value) a b c d,bindArgs (PySem.W.fnOf e.x e.x (CM e.st) (BC e.st) (A9 e.st) .none kV doc pm an cdv ct) ⟨[a,b,c,d],[]⟩=pure (e.ps.zip [a,b,c,d]):=by intros;rfl):Bd e:=λ_ _ _ _ _ _ us hu=>match us,hu.trans hl with|[_,_,_,_],_=>h ..
def Ak{N ps:List Str}{sc:Scope}(h:(decide (sc.kind=.function)&&!sc.isCoroutine&&!sc.isGenerator&&ndB N&&(N.take ps.length==ps)&&(ps.all λx=>sc.names.lookup x==some .local||sc.names.lookup x==some .cell)&&sc.names.all λy=>y.2 != .free)=true):FnScope N ps sc:=by
 simp only[Bool.and_eq_true,all_eq_true,Bool.or_eq_true,beq_iff_eq,decide_eq_true_eq,Bool.not_eq_true',bne_iff_ne]at h;obtain⟨⟨⟨⟨⟨⟨h1,h2⟩,h3⟩,h4⟩,h5⟩,h6⟩,h7⟩:=h;exact⟨h1,h2,h3,Fa h4,h5,h6,h7⟩
abbrev HG(l:PySem.W.OpenLaw)(w:World)(K:PySem.W.Frag)(xs:Xs)(mg:Str->Option Value)(c P:Str->Addr)(fa:Addr)(e:Df):Prop:=(∃g,K.lookup mainGlobals=some g)/\∃fd:FuncData,(∀(s:Shared) (v:Value),BindsTo s fd ⟨[v],[]⟩ [("_law_script",v)])/\∀base:Heap,(BF K (tbs xs P)).In base->base.Ns mainGlobals mg->(∀x∈xs,CodeHd base (c x.1) (P x.1))->(∀x∈xs,base.BuiltinsAt mg (P x.1))->FnOk l.prog w (BF K (tbs xs P)) mg base CX0 e.k fa fd ["_law_script"] (spF (BF K (tbs xs P)) 1 e.F)
def Tg{l:PySem.W.OpenLaw}{w:World}{K:PySem.W.Frag}{h:Heap}{mg:Str->Option Value}{fa:Addr}{xs:Xs}{c P:Str->Addr}{e:Df}(X:K.In h)(G:h.Ns mainGlobals mg)(hfa:mg e.x=some (.ref fa))(hx:HX xs mg h c P)(H:Fe K e)(b:Bd e)(hps:e.ps=(["_law_script"]:List Str))
 (ok:∀base:Heap,(∀x∈xs,CodeHd base (c x.1) (P x.1))->(∀x∈xs,base.BuiltinsAt mg (P x.1))->Kn (enM l w K xs P mg base) e):
 HG l w K xs mg c P fa e:=by
 obtain⟨f,cd,H⟩:=H;obtain⟨fd,D,_⟩:=H.def X G hx b;obtain⟨oc,kV,dc,pm,ct,od,an,sl,a,lk,cc,k⟩:=H;have hg:∃g,K.lookup mainGlobals=some g:=by
  cases e:K.lookup mainGlobals with
  |some g=>exact⟨g,rfl⟩
  |none=>unfold PySem.W.nsIn at a;rw[e]at a;cases a
 have e1:=hfa.symm.trans D.mg;cases e1;refine⟨hg,fd,λs v=>?_,λbase _ _ hd bl=>?_⟩
 .obtain⟨⟨oc',od',kV',dc',pm',an',cd',ct',sl',rfl,_,_⟩,_⟩:=D.fn;have:=b kV' dc' pm' an' cd' ct' [v] (by rw[hps];rfl);rw[hps]at this;exact .of_eq this
 .obtain⟨f',fd',D',F',_⟩:=ok base hd bl;have e2:=D.mg.symm.trans D'.mg;cases e2;obtain⟨⟨oc',od',kV',dc',pm',an',cd',ct',sl',h1,h2,_⟩,_⟩:=D.fn;obtain⟨⟨oc2,od2,kV2,dc2,pm2,an2,cd2,ct2,sl2,h3,h4,_⟩,_⟩:=D'.fn;have e3:=h2.symm.trans h4;cases e3;rw[hps]at F';exact F'
end L2
namespace Rw
open PySem L2 Bd
def pairs_im(ps:List (Int×Int)):(ps.map Gu).map D.im=ps.map Ah:=by rw[map_map];rfl
end Rw
namespace Ru
def Sv{L M:List Int}(h:L.Perm M):L.sum=M.sum:=by
 induction h with
 |nil=>rfl
 |cons x _ ih=>simp[ih]
 |swap x y l=>simp;omega
 |trans _ _ ih1 ih2=>exact ih1.trans ih2
section
variable{α:Type}[DecidableEq α]
def DN(ln:α->Int):Int->List α->α->Int
 |_,[],_=>0
 |t,x::r,i=>if i=x then t+ln x else DN ln (t+ln x) r i
def Jf{ln:α->Int}:∀{dn:List α} {t:Int} {x:α} {rest:List α},x∉dn->DN ln t (dn++x::rest) x=t+(dn.map ln).sum+ln x
 |[],t,x,rest,_=>by simp[DN]
 |y::r,t,x,rest,h=>by
  have h1:x≠y:=λe=>h (by simp[e]);rw[cons_append,DN,if_neg h1,Jf (λq=>h (mem_cons_of_mem _ q)),map_cons,sum_cons];omega
def edd{ln:α->Int}(h0:∀i,0<=ln i){d:Int}:∀{L:List α} {t:Int} {P:List α},P.Nodup->(∀i∈P,i∈L)->P≠[]->(∀i∈P,DN ln t L i<=d)->t+(P.map ln).sum<=d
 |[],t,P,_,hs,hne,_=>by
  cases P with
  |nil=>exact absurd rfl hne
  |cons p r=>exact absurd (hs p (by simp)) (by simp)
 |x::r,t,P,nd,hs,hne,he=>by
  by_cases hx:x∈P
  .have es:(P.map ln).sum=ln x+((P.erase x).map ln).sum:=by
    have:=Sv ((List.perm_cons_erase hx).map ln);simpa using this
   by_cases hP:P.erase x=[]
   .have:=he x hx;rw[DN,if_pos rfl]at this;rw[es,hP];simpa using this
   .have:=edd h0 (L:=r) (t:=t+ln x) (P:=P.erase x) (nd.erase x) (λi hi=>by
     have h1:=(nd.mem_erase_iff).mp hi;rcases mem_cons.mp (hs i h1.2)with q|q
     .exact absurd q h1.1
     .exact q) hP (λi hi=>by
     have h1:=(nd.mem_erase_iff).mp hi;have:=he i h1.2;rw[DN,if_neg h1.1]at this;exact this)
    rw[es];omega
  .have ne:∀i∈P,i≠x:=λi hi e=>hx (e ▸ hi);have:=edd h0 (L:=r) (t:=t+ln x) (P:=P) nd (λi hi=>by
    rcases mem_cons.mp (hs i hi)with q|q
    .exact absurd q (ne i hi)
    .exact q) hne (λi hi=>by
    have:=he i hi;rw[DN,if_neg (ne i hi)]at this;exact this)
   have:=h0 x;omega
end
def Gm{ln:Int->Int}{lN:Nat->Int}(h:∀k:Nat,ln k=lN k)(k:Nat):∀(o:List Nat) (t:Int),DN ln t (o.map λj:Nat=>(j:Int)) (k:Int)=DN lN t o k
 |[],t=>rfl
 |x::r,t=>by
  rw[map_cons,DN,DN,h,Gm h k r];by_cases e:k=x
  .simp[e]
  .rw[if_neg (by omega),if_neg e]
def NM{f:Int->Int}(h0:∀i,0<=f i){S L:List Int}(h:S.Sublist L):(S.map f).sum<=(L.map f).sum:=by
 induction h with
 |slnil=>simp
 |cons a _ ih=>have:=h0 a;simp;omega
 |cons_cons a _ ih=>simp;omega
def KD{f:Int->Int}{p:Int->Prop}[DecidablePred p]:∀L:List Int,(L.map λi=>if p i then 0 else f i).sum=(L.map f).sum-((L.filter λi=>decide (p i)).map f).sum
 |[]=>rfl
 |x::r=>by
  have ih:=KD (f:=f) (p:=p) r;by_cases h:p x
  .simp[h]at ih ⊢;omega
  .simp[h]at ih ⊢;omega
end Ru
namespace Pl
open PySem L2 Bd
abbrev Pc:=Nat×Int×Int
def last:List Pc->Nat->Int->Int
 |[],_,v=>v
 |p::r,k,v=>last r k (if p.1=k then p.2.2 else v)
def dn:List Pc->Nat->Int
 |[],_=>0
 |p::r,k=>(if p.1=k then p.2.2-p.2.1 else 0)+dn r k
def Ka:∀(ps:List Pc) (es:List Int) (k:Nat),(Dz es ps)[k]?=(es[k]?).map (last ps k)
 |[],es,k=>by
  show es[k]?=(es[k]?).map id;rw[Option.map_id_fun];rfl
 |p::r,es,k=>by
  rw[Dz,Ka r,List.getElem?_set];by_cases h:p.1=k
  .subst h;by_cases hk:p.1<es.length
   .simp[hk,last]
   .simp[hk]
  .simp only[h,if_false,last]
def ends_map{n:Nat}(ps:List Pc):Dz (List.replicate n 0) ps=(List.range n).map λk=>last ps k 0:=by
 refine ext_getElem? λi=>?_;rw[Ka];by_cases hi:i<n
 .simp[hi]
 .simp[hi]
def last_no{k:Nat}{v:Int}:∀{ps:List Pc},(∀p∈ps,p.1≠k)->last ps k v=v
 |[],_=>rfl
 |p::r,h=>by
  rw[last,if_neg (h p mem_cons_self)];exact last_no λq hq=>h q (mem_cons_of_mem _ hq)
def last_in{k:Nat}:∀{ps:List Pc} {v:Int},(∃p∈ps,p.1=k)->∃p∈ps,p.1=k/\last ps k v=p.2.2
 |[],v,h=>by obtain⟨p,hp,_⟩:=h;cases hp
 |p::r,v,h=>by
  rw[last];by_cases q:∃p∈r,p.1=k
  .obtain⟨z,h1,h2,h3⟩:=last_in (v:=if p.1=k then p.2.2 else v) q;exact⟨z,mem_cons_of_mem _ h1,h2,h3⟩
  .have hp:p.1=k:=by
    obtain⟨z,hz,e⟩:=h;rcases mem_cons.mp hz with rfl|hz
    .exact e
    .exact absurd ⟨z,hz,e⟩ q
   refine⟨p,mem_cons_self,hp,?_⟩;rw[if_pos hp];exact last_no λz hz e=>q ⟨z,hz,e⟩
structure Ok(n:Nat)(c:Int)(ps:List Pc):Prop where
 ch:ps.Pairwise λp q=>p.2.2<=q.2.1
 ea:∀p∈ps,p.1<n/\c<=p.2.1/\p.2.1<p.2.2
def Ok.tail{n:Nat}{c:Int}{p:Pc}{r:List Pc}(h:Ok n c (p::r)):Ok n c r:=⟨(pairwise_cons.mp h.ch).2,λq hq=>h.ea q (mem_cons_of_mem _ hq)⟩
def last_ge{n:Nat}{c:Int}{k:Nat}:∀{ps:List Pc} {v:Int},Ok n c ps->∀p∈ps,p.1=k->p.2.2<=last ps k v
 |[],_,_,p,hp,_=>by cases hp
 |q::r,v,O,p,hp,e=>by
  rw[last];rcases mem_cons.mp hp with rfl|hp
  .rw[if_pos e];by_cases z:∃p∈r,p.1=k
   .obtain⟨y,h1,h2,h3⟩:=last_in (v:=p.2.2) z;rw[h3];have a:=(pairwise_cons.mp O.ch).1 y h1;have b:=(O.ea y (mem_cons_of_mem _ h1)).2.2;omega
   .rw[last_no λy hy e=>z ⟨y,hy,e⟩];exact Int.le_refl _
  .exact last_ge O.tail p hp e
def dn_no{k:Nat}:∀{ps:List Pc},(∀p∈ps,p.1≠k)->dn ps k=0
 |[],_=>rfl
 |p::r,h=>by
  rw[dn,if_neg (h p mem_cons_self),dn_no λq hq=>h q (mem_cons_of_mem _ hq)];rfl
section
variable{n:Nat}{c:Int}{l:Nat->Int}{ps:List Pc}
abbrev E(ps:List Pc)(k:Nat):Int:=last ps k 0
def tot_le(P:Pc->Bool):∀{ps:List Pc} {c T:Int},ps.Pairwise (λp q=>p.2.2<=q.2.1)->(∀p∈ps,P p=true->c<=p.2.1/\p.2.1<p.2.2/\p.2.2<=T)->c<=T->((ps.filter P).map λp=>p.2.2-p.2.1).sum<=T-c
 |[],c,T,_,_,h=>by simp;omega
 |p::r,c,T,ch,ea,h=>by
  obtain⟨c1,c2⟩:=pairwise_cons.mp ch;rw[filter_cons];by_cases q:P p=true
  .rw[if_pos q,map_cons,sum_cons];obtain⟨a1,a2,a3⟩:=ea p mem_cons_self q;have:=tot_le P (c:=p.2.2) (T:=T) c2 (λz hz hp=>by
    obtain⟨b1,b2,b3⟩:=ea z (mem_cons_of_mem _ hz) hp;exact⟨c1 z hz,b2,b3⟩) a3
   omega
  .rw[if_neg q];exact tot_le P c2 (λz hz hp=>ea z (mem_cons_of_mem _ hz) hp) h
def NN(a:Nat)(x:Int):∀{S:List Nat},S.Nodup->(S.map λj=>if a=j then x else 0).sum=if a∈S then x else 0
 |[],_=>by simp
 |y::r,nd=>by
  obtain⟨h1,h2⟩:=nodup_cons.mp nd;rw[map_cons,sum_cons,NN a x h2];by_cases e:a=y
  .subst e;simp[h1]
  .simp[e]
def NO(f g:Nat->Int):∀S:List Nat,(S.map λj=>f j+g j).sum=(S.map f).sum+(S.map g).sum
 |[]=>by simp
 |y::r=>by simp only[map_cons,sum_cons,NO f g r];omega
def sum_dn{S:List Nat}(nd:S.Nodup):∀ps:List Pc,(S.map (dn ps)).sum=((ps.filter λp=>decide (p.1∈S)).map λp=>p.2.2-p.2.1).sum
 |[]=>by
  have:S.map (dn [])=S.map λ_=>0:=rfl;rw[this];have h:∀S:List Nat,(S.map λ_=>(0:Int)).sum=0:=λS=>by induction S<;>simp_all
  simp[h]
 |p::r=>by
  have:S.map (dn (p::r))=S.map λj=>(if p.1=j then p.2.2-p.2.1 else 0)+dn r j:=rfl;rw[this,NO,NN _ _ nd,sum_dn nd r,filter_cons];by_cases h:p.1∈S
  .simp[h]
  .simp[h]
end
end Pl
namespace L2
open PySem PySem.W PyProof.Rows
def feE{K:PySem.W.Frag}{e:Df}{n:Str}{s:Stmt}(h:Ea.Fe K n s)(hn:e.x=n:=by rfl)(hs:e.st=s:=by rfl):Fe K e:=by subst hn;subst hs;exact h
def flE{K:PySem.W.Frag}{e:Df}{n:Str}{s:Stmt}{p:Addr}(h:Ea.Fl K n s p)(hn:e.x=n:=by rfl)(hs:e.st=s:=by rfl):Fla K e p:=by subst hn;subst hs;exact h
def zsE{K:PySem.W.Frag}(h:Ea.Zs K):Zs K:=h
end L2
namespace T42
open PySem L2
abbrev Hr:Stmt:=top 5
def Li:FnScope ["thing"] ["thing"] (A9 Hr):=Ak (by kernel_rfl)
@[reducible] def NC:MS:=(AM (DT (DR .int (A0 0)) (HY (DR .bool (A0 0)))))
def BH:FD:=mkF 1 1 NC
abbrev D5:Df:=⟨"is_number",Hr,["thing"],1,BH⟩
abbrev Ej:Stmt:=top 6
def Hm:FnScope ["least","thing"] ["least","thing"] (A9 Ej):=Ak (by kernel_rfl)
@[reducible] def II:MS:=(AM (DT (A8 0 BH (A2 (A0 1) A4)) (mOp gGe (A0 1) (A0 0))))
def CD:FD:=mkF 2 2 II
abbrev DF:Df:=⟨"is_number_from",Ej,["least","thing"],2,CD⟩
abbrev De:Stmt:=top 7
def Fs:FnScope ["many","thing"] ["many","thing"] (A9 De):=Ak (by kernel_rfl)
@[reducible] def GZ:MS:=(AM (DT (A8 0 CD (A2 (mC (.int 0)) (A2 (A0 1) A4))) (mOp gLt (A0 1) (A0 0))))
def Bk:FD:=mkF 2 2 GZ
abbrev CS:Df:=⟨"is_number_of_work",De,["many","thing"],3,Bk⟩
abbrev GT:Stmt:=top 8
def Jd:FnScope ["many","thing"] ["many","thing"] (A9 GT):=Ak (by kernel_rfl)
@[reducible] def Ky:MS:=(AM (DT (DR .tuple (A0 1)) (mOp gEq (mCB (f1 true BT) (A2 (A0 1) A4)) (A0 0))))
def B7:FD:=mkF 2 2 Ky
abbrev D9:Df:=⟨"is_tuple_of",GT,["many","thing"],1,B7⟩
abbrev Io:Stmt:=top 10
def N1:FnScope ["rows","t","told","begin","amount"] ["rows","t"] (A9 Io):=Ak (by kernel_rfl)
@[reducible] def dG:MS:=(AA (AI 2 (mC (.int 0)))
 (AA (BS (Al (A0 0)) (B0 2 (AH (AD 3) (AH (AD 4) B1)))
  (AA (Ae (AE (mOp gGt (A0 3) (A0 1)))
  (AM (A0 2))
  AT)
 (AI 2 (A0 4))))
 (AM (A0 2))))
def dC:FD:=mkF 2 5 dG
abbrev GF:Df:=⟨"steps_at",Io,["rows","t"],1,dC⟩
abbrev KI:Stmt:=top 11
def OV:FnScope ["cost","t","word","above"] ["cost","t"] (A9 KI):=Ak (by kernel_rfl)
@[reducible] def dH:MS:=(AA (AI 2 (mOp gIx (A0 0) (mC (.int 0))))
 (AA (Ae (AE (mOp gEq (A0 2) (mC (.str "steps"))))
  (AM (A8 0 dC (A2 (mOp gIx (A0 0) (mC (.int 1))) (A2 (A0 1) A4))))
  AT)
 (AA (Ae (AE (mOp gEq (A0 2) (mC (.str "ends"))))
  (AM (mOp Cw (mOp gIx (A0 0) (mC (.int 1))) (A0 1)))
  AT)
 (AA (AI 3 (mOp Cn (A0 1) (mOp gIx (A0 0) (mC (.int 1)))))
 (AA (Ae (AE (mOp gEq (A0 2) (mC (.str "late"))))
  (AM (A0 3))
  AT)
 (AA (Ae (AE (mOp gLe (A0 3) (mC (.int 0))))
  (AM (mC (.int 0)))
  AT)
 (AA (Ae (AE (mOp gEq (A0 2) (mC (.str "tardy"))))
  (AM (mOp Cw (mOp gIx (A0 0) (mC (.int 2))) (A0 3)))
  AT)
 (AM (mOp gIx (A0 0) (mC (.int 2)))))))))))
def HR:FD:=mkF 2 4 dH
abbrev HE:Df:=⟨"cost_at",KI,["cost","t"],2,HR⟩
abbrev GP:Stmt:=top 13
def JY:FnScope ["works","coming"] ["works"] (A9 GP):=Ak (by kernel_rfl)
@[reducible] def Ku:MS:=(AA (AI 1 (mOp gIx (mOp gIx (A0 0) (mC (.int 0))) (mC (.int 1))))
 (AA (Ae (BM (BN Dp (Ao 1 [1] (Al (A0 0)) (AD 0) Bt (mOp gEq (mOp gIx (A0 0) (mC (.int 1))) (A0 1)))))
  (AM (A0 1))
  AT)
 (AM (mC .non))))
def DB:FD:=mkF 1 2 Ku
abbrev EL:Df:=⟨"same_coming",GP,["works"],1,DB⟩
abbrev Gi:Stmt:=top 14
def Kr:FnScope ["works","coming"] ["works"] (A9 Gi):=Ak (by kernel_rfl)
@[reducible] def MD:MS:=(AA (AI 1 (A8 0 DB (A2 (A0 0) A4)))
 (AA (Ae (AE (CQ false (A0 1)))
  Cd
  AT)
 (AM (A0 1))))
def Db:FD:=mkF 1 2 MD
abbrev Eu:Df:=⟨"one_coming",Gi,["works"],2,Db⟩
abbrev DM:Stmt:=top 15
def FW:FnScope ["works","word"] ["works","word"] (A9 DM):=Ak (by kernel_rfl)
@[reducible] def G0:MS:=(Ae (BM (BN MU (Ao 1 [1] (Al (A0 0)) (AD 0) Bt (mOp gNe (mOp gIx (mOp gIx (A0 0) (mC (.int 2))) (mC (.int 0))) (A0 1)))))
 Cd
 AT)
def BV:FD:=mkF 2 2 G0
abbrev CB:Df:=⟨"refuse_other_costs",DM,["works","word"],1,BV⟩
abbrev Ho:Stmt:=top 16
def Lg:FnScope ["work"] ["work"] (A9 Ho):=Ak (by kernel_rfl)
@[reducible] def NA:MS:=(AM (mOp gIx (mOp gIx (A0 0) (mC (.int 2))) (IK (mC (.int 1)))))
def E1:FD:=mkF 1 1 NA
abbrev FK:Df:=⟨"weight_of",Ho,["work"],1,E1⟩
abbrev GS:Stmt:=top 18
def Jc:FnScope ["works","coming"] ["works"] (A9 GS):=Ak (by kernel_rfl)
@[reducible] def Kx:MS:=(AA (AI 1 (A8 0 Db (A2 (A0 0) A4)))
 (AA (C5 (A8 0 BV (A2 (A0 0) (A2 (mC (.str "miss")) A4))))
 (AM (A0 1))))
def Bo:FD:=mkF 1 2 Kx
abbrev CH:Df:=⟨"late_coming",GS,["works"],3,Bo⟩
abbrev KJ:Stmt:=top 19
def OW:FnScope ["works"] ["works"] (A9 KJ):=Ak (by kernel_rfl)
@[reducible] def Qi:MS:=(AM (B8 (Nm (A2 (mCB (f1 true BT) (A2 (A0 0) A4)) A4) [0] (CO (A2 (mOp gIx (mOp gIx (mOp gIx (A0 1) (A0 0)) (mC (.int 2))) (mC (.int 1))) (A2 (A0 0) A4))))))
def ED:FD:=mkF 1 1 Qi
abbrev EB:Df:=⟨"by_dues",KJ,["works"],4,ED⟩
abbrev GU:Stmt:=top 20
def Je:FnScope ["works"] ["works"] (A9 GU):=Ak (by kernel_rfl)
@[reducible] def Kz:MS:=(AM (BN FJ (Ao 1 [] (Al (A0 0)) (AD 0) Bt (A8 0 E1 (A2 (A0 0) A4)))))
def Bp:FD:=mkF 1 1 Kz
abbrev CI:Df:=⟨"full_weight",GU,["works"],2,Bp⟩
abbrev KF:Stmt:=top 21
def OS:FnScope ["one","other"] ["one","other"] (A9 KF):=Ak (by kernel_rfl)
@[reducible] def Qg:MS:=(AM (Js (CQ false (A0 1)) (DT (CQ true (A0 0)) (mOp gLe (A0 0) (A0 1)))))
def Ck:FD:=mkF 2 2 Qg
abbrev EA:Df:=⟨"no_more",KF,["one","other"],1,Ck⟩
abbrev Gh:Stmt:=top 22
def Kq:FnScope ["row","work","w","length","coming","word","due","weight","end"] ["row","work","w"] (A9 Gh):=Ak (by kernel_rfl)
@[reducible] def MC:MS:=(AA (IL (A0 1) (B0 3 (AH (AD 3) (AH (AD 4) (AH (B0 3 (AH (AD 5) (AH (AD 6) (AH (AD 7) B1)))) B1)))))
 (AA (Ae (mOr (AE (mOp gLt (A0 2) (A0 7))) (AE (CQ false (mOp gIx (A0 0) (mOp Cn (A0 2) (A0 7))))))
  (AM (mC .non))
  AT)
 (AA (AI 8 (mOp Ap (mOp gIx (A0 0) (mOp Cn (A0 2) (A0 7))) (A0 3)))
 (AM (mIf (AE (mOp gLe (A0 8) (A0 6))) (A0 8) (mC .non))))))
def Cj:FD:=mkF 3 9 MC
abbrev DV:Df:=⟨"put_behind",Gh,["row","work","w"],1,Cj⟩
abbrev EO:Stmt:=top 23
def Gg:FnScope ["table"] ["table"] (A9 EO):=Ak (by kernel_rfl)
@[reducible] def Hn:MS:=(AM (BN IM (Ao 2 [] (Dv (Al (mOp gIx (A0 0) (IK (mC (.int 1)))))) (B0 2 (AH (AD 0) (AH (AD 1) B1))) (AE (CQ true (A0 1))) (A0 0))))
def Bw:FD:=mkF 1 1 Hn
abbrev Cy:Df:=⟨"greatest_weight",EO,["table"],1,Bw⟩
abbrev F1:Stmt:=top 24
def Hz:FnScope ["works","thing","path","many","k","row","w","entry"] ["works","thing","path"] (A9 F1):=Ak (by kernel_rfl)
@[reducible] def JD:MS:=(AA (Ae (CP (BM (A8 0 B7 (A2 (mOp Ap (mCB (f1 true BT) (A2 (A0 0) A4)) (mC (.int 1))) (A2 (A0 1) A4)))))
 Cd
 AT)
 (AA (AI 3 (mOp Ap (A8 0 Bp (A2 (A0 0) A4)) (mC (.int 1))))
 (BS (Dv (Al (A0 1))) (B0 2 (AH (AD 4) (AH (AD 5) B1)))
  (AA (Ae (CP (BM (A8 0 B7 (A2 (A0 3) (A2 (A0 5) A4)))))
  Cd
  AT)
 (BS (Dv (Al (A0 5))) (B0 2 (AH (AD 6) (AH (AD 7) B1)))
  (Ae (EJ (AE (CQ true (A0 7))) (CP (BM (A8 0 BH (A2 (A0 7) A4)))))
  Cd
  AT))))))
def CW:FD:=mkF 3 8 JD
abbrev DX:Df:=⟨"look_at_shape",F1,["works","thing","path"],3,CW⟩
abbrev GQ:Stmt:=top 25
def JZ:FnScope ["work","above","row","path","w","entry"] ["work","above","row","path"] (A9 GQ):=Ak (by kernel_rfl)
@[reducible] def Kv:MS:=(BS (Dv (Al (A0 2))) (B0 2 (AH (AD 4) (AH (AD 5) B1)))
 (AA (Ae (CP (BM (A8 0 Ck (A2 (A0 5) (A2 (mOp gIx (A0 1) (A0 4)) A4)))))
 Cd
 AT)
 (Ae (CP (BM (A8 0 Ck (A2 (A0 5) (A2 (A8 0 Cj (A2 (A0 1) (A2 (A0 0) (A2 (A0 4) A4)))) A4)))))
  Cd
  AT)))
def DC:FD:=mkF 4 6 Kv
abbrev EM:Df:=⟨"look_at_row",GQ,["work","above","row","path"],2,DC⟩
abbrev Ei:Stmt:=top 26
def Hl:FnScope ["works","table","path","k","j"] ["works","table","path"] (A9 Ei):=Ak (by kernel_rfl)
@[reducible] def IH:MS:=(AA (Ae (CP (BM (A8 0 Ck (A2 (mOp gIx (mOp gIx (A0 1) (mC (.int 0))) (mC (.int 0))) (A2 (A8 0 Bo (A2 (A0 0) A4)) A4)))))
 Cd
 AT)
 (BS (Fc (Dm (A8 0 ED (A2 (A0 0) A4)))) (B0 2 (AH (AD 3) (AH (AD 4) B1)))
  (C5 (A8 0 DC (A2 (mOp gIx (A0 0) (A0 4)) (A2 (mOp gIx (A0 1) (mOp Cn (A0 3) (mC (.int 1)))) (A2 (mOp gIx (A0 1) (A0 3)) (A2 (mOp LO (A0 2) (CO (A2 (A0 3) A4))) A4))))))))
def CC:FD:=mkF 3 5 IH
abbrev DE:Df:=⟨"look_at_places",Ei,["works","table","path"],5,CC⟩
abbrev Gj:Stmt:=top 27
def Ks:FnScope ["works","thing"] ["works","thing"] (A9 Gj):=Ak (by kernel_rfl)
@[reducible] def MF:MS:=(AA (C5 (A8 0 Bo (A2 (A0 0) A4)))
 (AA (C5 (A8 0 CW (A2 (A0 0) (A2 (A0 1) (A2 (CO A4) A4)))))
 (AA (C5 (A8 0 CC (A2 (A0 0) (A2 (A0 1) (A2 (CO A4) A4)))))
 (AM (mOp Cn (A8 0 Bp (A2 (A0 0) A4)) (A8 0 Bw (A2 (A0 1) A4)))))))
def Dc:FD:=mkF 2 2 MF
abbrev Ev:Df:=⟨"lets_table",Gj,["works","thing"],6,Dc⟩
abbrev Ir:Stmt:=top 29
def N4:FnScope ["works","thing","work","begin","end"] ["works","thing"] (A9 Ir):=Ak (by kernel_rfl)
@[reducible] def Ou:MS:=(AA (Ae (CP (BM (A8 0 B7 (A2 (mC (.int 3)) (A2 (A0 1) A4)))))
 (AM (mC (.bl false)))
 AT)
 (AA (IL (A0 1) (B0 3 (AH (AD 2) (AH (AD 3) (AH (AD 4) B1)))))
 (AA (Ae (mOr (CP (BM (A8 0 Bk (A2 (mCB (f1 true BT) (A2 (A0 0) A4)) (A2 (A0 2) A4))))) (mOr (CP (BM (A8 0 BH (A2 (A0 3) A4)))) (CP (BM (A8 0 BH (A2 (A0 4) A4))))))
  (AM (mC (.bl false)))
  AT)
 (AM (DT (mOp gLe (mOp gIx (mOp gIx (A0 0) (A0 2)) (mC (.int 1))) (A0 3)) (mOp gLt (A0 3) (A0 4)))))))
def EX:FD:=mkF 2 5 Ou
abbrev GI:Df:=⟨"is_piece",Ir,["works","thing"],4,EX⟩
abbrev F0:Stmt:=top 30
def Hy:FnScope ["pieces"] ["pieces"] (A9 F0):=Ak (by kernel_rfl)
@[reducible] def JC:MS:=(AM (BN Dp (Ao 2 [] (FG (Al (A0 0)) (Al (Jr (A0 0) (G4 (mC (.int 1))) Dk))) (B0 2 (AH (AD 0) (AH (AD 1) B1))) Bt (mOp gLe (mOp gIx (A0 0) (mC (.int 2))) (mOp gIx (A0 1) (mC (.int 1)))))))
def CV:FD:=mkF 1 1 JC
abbrev DW:Df:=⟨"one_at_a_time",F0,["pieces"],1,CV⟩
abbrev FX:Stmt:=top 31
def Ij:FnScope ["works","pieces","done","work","begin","end"] ["works","pieces"] (A9 FX):=Ak (by kernel_rfl)
@[reducible] def Jo:MS:=(AA (AI 2 (B8 (Ao 1 [] (Al (A0 0)) (AD 0) Bt (mC (.int 0)))))
 (AA (BS (Al (A0 1)) (B0 3 (AH (AD 3) (AH (AD 4) (AH (AD 5) B1))))
  (HZ (A0 2) (A0 3) (mOp Cn (A0 5) (A0 4)) (λi j=>i+j)))
 (AM (A0 2))))
def Cs:FD:=mkF 2 6 Jo
abbrev Dr:Df:=⟨"lengths_done",FX,["works","pieces"],1,Cs⟩
abbrev FY:Stmt:=top 32
def Ik:FnScope ["wishes","pieces","ends"] ["wishes","pieces","ends"] (A9 FY):=Ak (by kernel_rfl)
@[reducible] def Jp:MS:=(AM (mCB (f1 false Dp) (A2 (D2 5 [1,2] (Al (A0 0)) (B0 2 (AH (AD 0) (AH (AD 1) B1))) Bt (Al (A0 5)) (B0 3 (AH (AD 2) (AH (AD 3) (AH (AD 4) B1)))) (AE (mOp gEq (A0 2) (A0 1))) (mOp gLe (mOp gIx (A0 6) (A0 0)) (A0 3))) A4)))
def Ct:FD:=mkF 3 3 Jp
abbrev Ds:Df:=⟨"keeps_wishes",FY,["wishes","pieces","ends"],1,Ct⟩
abbrev KH:Stmt:=top 34
def OU:FnScope ["works","plan","ends","work","begin","end"] ["works","plan"] (A9 KH):=Ak (by kernel_rfl)
@[reducible] def dF:MS:=(AA (AI 2 (B8 (Ao 1 [] (Al (A0 0)) (AD 0) Bt (mC (.int 0)))))
 (AA (BS (Al (A0 1)) (B0 3 (AH (AD 3) (AH (AD 4) (AH (AD 5) B1))))
  (DP (A0 2) (A0 3) (A0 5)))
 (AM (mCB (f1 true BR) (A2 (A0 2) A4)))))
def F_ends_of:FD:=mkF 2 6 dF
abbrev F9:Df:=⟨"ends_of",KH,["works","plan"],1,F_ends_of⟩
abbrev KG:Stmt:=top 33
def OT:FnScope ["works","wishes","thing"] ["works","wishes","thing"] (A9 KG):=Ak (by kernel_rfl)
@[reducible] def Qh:MS:=(AA (Ae (mOr (CP (BM (DR .tuple (A0 2)))) (CP (BM (BN Dp (Ao 1 [0] (Al (A0 2)) (AD 0) Bt (A8 0 EX (A2 (A0 1) (A2 (A0 0) A4))))))))
 (AM (mC (.bl false)))
 AT)
 (AA (Ae (CP (BM (A8 0 CV (A2 (A0 2) A4))))
  (AM (mC (.bl false)))
  AT)
 (AA (Ae (AE (D8 true (A8 0 Cs (A2 (A0 0) (A2 (A0 2) A4))) (Ao 1 [] (Al (A0 0)) (AD 0) Bt (mOp gIx (A0 0) (mC (.int 0))))))
  (AM (mC (.bl false)))
  AT)
 (AM (A8 0 Ct (A2 (A0 1) (A2 (A0 2) (A2 (A8 0 F_ends_of (A2 (A0 0) (A2 (A0 2) A4))) A4))))))))
def FC:FD:=mkF 3 3 Qh
abbrev HD:Df:=⟨"is_plan",KG,["works","wishes","thing"],5,FC⟩
abbrev Iu:Stmt:=top 36
def N5:FnScope ["works","ends"] ["works","ends"] (A9 Iu):=Ak (by kernel_rfl)
@[reducible] def dE:MS:=(AM (BN BR (Ao 2 [] (FG (Al (A0 0)) (Al (A0 1))) (B0 2 (AH (AD 0) (AH (AD 1) B1))) Bt (A8 0 HR (A2 (mOp gIx (A0 0) (mC (.int 2))) (A2 (A0 1) A4))))))
def dD:FD:=mkF 2 2 dE
abbrev GJ:Df:=⟨"costs_of",Iu,["works","ends"],3,dD⟩
abbrev NS:Stmt:=top 37
def SE:FnScope ["works","ends","question","costs"] ["works","ends","question"] (A9 NS):=Ak (by kernel_rfl)
@[reducible] def dI:MS:=(AA (AI 3 (A8 0 dD (A2 (A0 0) (A2 (A0 1) A4))))
 (AA (Ae (AE (mOp gEq (A0 2) (mC (.str "greatest"))))
  (AM (mCB (f1 true IM) (A2 (A0 3) A4)))
  AT)
 (AM (mCB (f1 true FJ) (A2 (A0 3) A4)))))
def F_worth:FD:=mkF 3 4 dI
abbrev K3:Df:=⟨"worth",NS,["works","ends","question"],4,F_worth⟩
abbrev Iq:Stmt:=top 39
def N3:FnScope ["above","work","row","w","kept","more"] ["above","work"] (A9 Iq):=Ak (by kernel_rfl)
@[reducible] def Ot:MS:=(AA (AI 2 (B8 (C4 A4)))
 (AA (BS (Dv (Al (A0 0))) (B0 2 (AH (AD 3) (AH (AD 4) B1)))
  (AA (AI 5 (A8 0 Cj (A2 (A0 0) (A2 (A0 1) (A2 (A0 3) A4)))))
 (C5 (mMt BB (A0 2) (A2 (mIf (BM (A8 0 Ck (A2 (A0 4) (A2 (A0 5) A4)))) (A0 4) (A0 5)) A4)))))
 (AM (mCB (f1 true BR) (A2 (A0 2) A4)))))
def EW:FD:=mkF 2 6 Ot
abbrev GH:Df:=⟨"next_row",Iq,["above","work"],2,EW⟩
abbrev Im:Stmt:=top 40
def N0:FnScope ["works","coming","rows","j"] ["works"] (A9 Im):=Ak (by kernel_rfl)
@[reducible] def Oq:MS:=(AA (AI 1 (A8 0 Bo (A2 (A0 0) A4)))
 (AA (AI 2 (B8 (C4 (A2 (mOp Ap (CO (A2 (A0 1) A4)) (HW (CO (A2 (mC .non) A4)) (A8 0 Bp (A2 (A0 0) A4)))) A4))))
 (AA (BS (Dm (A8 0 ED (A2 (A0 0) A4))) (AD 3)
  (C5 (mMt BB (A0 2) (A2 (A8 0 EW (A2 (mOp gIx (A0 2) (IK (mC (.int 1)))) (A2 (mOp gIx (A0 0) (A0 3)) A4))) A4))))
 (AM (mCB (f1 true BR) (A2 (A0 2) A4))))))
def EU:FD:=mkF 1 4 Oq
abbrev GE:Df:=⟨"table_of",Im,["works"],5,EU⟩
abbrev Lk:Stmt:=top 42
def Pu:FnScope ["_law_script"] ["_law_script"] (A9 Lk):=Ak (by kernel_rfl)
@[reducible] def TR:MS:=(AM (LJ [((mC (.str "cells")),(B8 (Gz (Jq (A0 0) Dk (G4 (mC (.int 63))))))),((mC (.str "at")),(mC (.int 0))),((mC (.str "rest")),(mC (.int 0))),((mC (.str "count")),(mC (.int 0)))]))
def GN:FD:=mkF 1 1 TR
abbrev IQ:Df:=⟨"_law_source",Lk,["_law_script"],1,GN⟩
abbrev Px:Stmt:=top 43
def Uu:FnScope ["_law_source_here","_law_many","_law_found","_law_cells","_law_cell","_law_mixed"] ["_law_source_here","_law_many"] (A9 Px):=Ak (by kernel_rfl)
@[reducible] def Z7:MS:=(AA (F4 (A0 0) (mC (.str "count")) (mOp Ap (mOp CA (A0 0) (mC (.str "count"))) (mC (.int 1))))
 (AA (Ae (AE (mOp gGt (mOp CA (A0 0) (mC (.str "rest"))) (mC (.int 0))))
  (AA (AI 2 (mOp Ep (mOp CA (A0 0) (mC (.str "rest"))) (A0 1)))
 (AA (F4 (A0 0) (mC (.str "rest")) (mOp F7 (mOp CA (A0 0) (mC (.str "rest"))) (A0 1)))
 (AM (A0 2))))
  AT)
 (AA (AI 3 (mOp CA (A0 0) (mC (.str "cells"))))
 (AA (AI 4 (mIf (AE (D8 true (A0 3) (C4 A4))) (mOp gIx (A0 3) (mOp Ep (mOp CA (A0 0) (mC (.str "at"))) (mCB (f1 true BT) (A2 (A0 3) A4)))) (mC (.int 11))))
 (AA (F4 (A0 0) (mC (.str "at")) (mOp Ap (mOp CA (A0 0) (mC (.str "at"))) (mC (.int 1))))
 (AA (Ae (EJ (AE (mOp gGe (A0 4) (mOp Ti (mC (.int 10)) (mC (.int 18))))) (AE (mOp gLe (mOp CA (A0 0) (mC (.str "at"))) (mCB (f1 true BT) (A2 (A0 3) A4)))))
  (AA (F4 (A0 0) (mC (.str "rest")) (mOp F7 (A0 4) (A0 1)))
 (AM (mOp Ep (A0 4) (A0 1))))
  AT)
 (AA (AI 5 (mOp Ap (mOp Ep (A0 4) (mC (.int 1073741827))) (mOp Cw (mC (.int 611953)) (mOp CA (A0 0) (mC (.str "count"))))))
 (AA (AI 5 (mOp Ep (mOp Ap (mOp Ap (mOp Cw (A0 5) (A0 5)) (mOp Cw (mC (.int 3)) (mOp CA (A0 0) (mC (.str "count"))))) (mC (.int 7))) (mC (.int 2147483543))))
 (AA (AI 5 (mOp Ep (mOp Ap (mOp Ap (mOp Cw (A0 5) (A0 5)) (mOp Cw (mC (.int 69069)) (mOp CA (A0 0) (mC (.str "count"))))) (mC (.int 1))) (mC (.int 2147483497))))
 (AM (mOp Ep (mOp F7 (A0 5) (mC (.int 256))) (A0 1))))))))))))
def Ai:FD:=mkF 2 6 Z7
abbrev Fh:Df:=⟨"_law_pick",Px,["_law_source_here","_law_many"],1,Ai⟩
abbrev Gk:Stmt:=top 44
def Kt:FnScope ["_law_source_here","_law_most","_law_many","_law_coming","_law_longest","_law_heaviest","_law_span","_law_works","_law_k","_law_way","_law_length","_law_due","_law_weight","_law_work"] ["_law_source_here","_law_most"] (A9 Gk):=Ak (by kernel_rfl)
@[reducible] def MH:MS:=(AA (AI 2 (mOp Ap (mC (.int 1)) (A8 2 Ai (A2 (A0 0) (A2 (A0 1) A4)))))
 (AA (AI 3 (A8 2 Ai (A2 (A0 0) (A2 (mC (.int 61)) A4))))
 (AA (AI 4 (G5 (C4 (A2 (mC (.int 20)) (A2 (mC (.int 5)) (A2 (mC (.int 2)) A4)))) (A8 2 Ai (A2 (A0 0) (A2 (mC (.int 3)) A4)))))
 (AA (AI 5 (G5 (C4 (A2 (mC (.int 9)) (A2 (mC (.int 3)) (A2 (mC (.int 1)) A4)))) (A8 2 Ai (A2 (A0 0) (A2 (mC (.int 3)) A4)))))
 (AA (AI 6 (mOp Ap (mC (.int 2)) (mOp F7 (mOp Cw (A0 2) (A0 4)) (mOp Ap (mC (.int 1)) (A8 2 Ai (A2 (A0 0) (A2 (mC (.int 2)) A4)))))))
 (AA (AI 7 (B8 (C4 A4)))
 (AA (BS (DQ (A2 (A0 2) A4)) (AD 8)
  (AA (AI 9 (A8 2 Ai (A2 (A0 0) (A2 (mC (.int 6)) A4))))
 (AA (AI 10 (mOp Ap (mC (.int 1)) (A8 2 Ai (A2 (A0 0) (A2 (A0 4) A4)))))
 (AA (AI 11 (mOp Ap (mOp Cn (A0 3) (mC (.int 1))) (A8 2 Ai (A2 (A0 0) (A2 (A0 6) A4)))))
 (AA (AI 12 (A8 2 Ai (A2 (A0 0) (A2 (mOp Ap (A0 5) (mC (.int 1))) A4))))
 (AA (Ae (AE (mOp gEq (A0 9) (mC (.int 0))))
  (AI 11 (mOp Cn (A8 2 Ai (A2 (A0 0) (A2 (mC (.int 500)) A4))) (mC (.int 99))))
  AT)
 (AA (Ae (EJ (AE (mOp gEq (A0 9) (mC (.int 1)))) (AE (mOp gGt (A0 8) (mC (.int 0)))))
  (AI 11 (mOp gIx (mOp gIx (mOp gIx (A0 7) (A8 2 Ai (A2 (A0 0) (A2 (A0 8) A4)))) (mC (.int 2))) (mC (.int 1))))
  AT)
 (AA (AI 13 (CO (A2 (A0 10) (A2 (A0 3) (A2 (CO (A2 (mC (.str "miss")) (A2 (A0 11) (A2 (A0 12) A4)))) A4)))))
 (AA (Ae (EJ (AE (mOp gEq (A0 9) (mC (.int 2)))) (AE (mOp gGt (A0 8) (mC (.int 0)))))
  (AI 13 (mOp gIx (A0 7) (A8 2 Ai (A2 (A0 0) (A2 (A0 8) A4)))))
  AT)
 (C5 (mMt BB (A0 7) (A2 (A0 13) A4))))))))))))
 (AM (mCB (f1 true BR) (A2 (A0 7) A4))))))))))
def Dd:FD:=mkF 2 14 MH
abbrev Ew:Df:=⟨"_law_late_works",Gk,["_law_source_here","_law_most"],2,Dd⟩
abbrev GR:Stmt:=top 45
def Ja:FnScope ["_law_works","_law_ends"] ["_law_works","_law_ends"] (A9 GR):=Ak (by kernel_rfl)
@[reducible] def Kw:MS:=(AM (BN FJ (Ao 2 [] (FG (Al (A0 0)) (Al (A0 1))) (B0 2 (AH (AD 0) (AH (AD 1) B1))) (AE (mOp gGt (A0 1) (mOp gIx (mOp gIx (A0 0) (mC (.int 2))) (mC (.int 1))))) (mOp gIx (mOp gIx (A0 0) (mC (.int 2))) (mC (.int 2))))))
def CL:FD:=mkF 2 2 Kw
abbrev EN:Df:=⟨"_law_late_weight",GR,["_law_works","_law_ends"],1,CL⟩
abbrev Ip:Stmt:=top 46
def N2:FnScope ["_law_works","_law_order","_law_ends","_law_now","_law_k"] ["_law_works","_law_order"] (A9 Ip):=Ak (by kernel_rfl)
@[reducible] def Os:MS:=(AA (AI 2 (B8 (IJ (C4 (A2 (mC (.int 0)) A4)) (mCB (f1 true BT) (A2 (A0 0) A4)))))
 (AA (AI 3 (mC (.int 0)))
 (AA (BS (Al (A0 1)) (AD 4)
  (AA (AI 3 (mOp Ap (mCB GD (A2 (A0 3) (A2 (mOp gIx (mOp gIx (A0 0) (A0 4)) (mC (.int 1))) A4))) (mOp gIx (mOp gIx (A0 0) (A0 4)) (mC (.int 0)))))
 (DP (A0 2) (A0 4) (A0 3))))
 (AM (mCB (f1 true BR) (A2 (A0 2) A4))))))
def EV:FD:=mkF 2 5 Os
abbrev GG:Df:=⟨"_law_run_ends",Ip,["_law_works","_law_order"],1,EV⟩
abbrev Lj:Stmt:=top 47
def Pt:FnScope ["_law_source_here","_law_many","_law_pool","_law_drawn","_law_k","_law_share","_law_found","_law_i","_law_j"] ["_law_source_here","_law_many"] (A9 Lj):=Ak (by kernel_rfl)
@[reducible] def TQ:MS:=(AA (AI 2 (B8 (Gy (A2 (A0 1) A4))))
 (AA (AI 3 (B8 (C4 A4)))
 (AA (BS (DQ (A2 (A0 1) A4)) (AD 4)
  (C5 (mMt BB (A0 3) (A2 (mMt Fg (A0 2) (A2 (A8 2 Ai (A2 (A0 0) (A2 (mCB (f1 true BT) (A2 (A0 2) A4)) A4))) A4)) A4))))
 (AA (AI 5 (A8 2 Ai (A2 (A0 0) (A2 (mC (.int 4)) A4))))
 (AA (AI 6 (B8 (C4 A4)))
 (AA (BS (DQ (A2 (A0 1) A4)) (AD 7)
  (BS (Ha (A2 (mOp Ap (A0 7) (mC (.int 1))) (A2 (A0 1) A4))) (AD 8)
  (Ae (AE (mOp gLt (A8 2 Ai (A2 (A0 0) (A2 (mC (.int 4)) A4))) (A0 5)))
  (C5 (mMt BB (A0 6) (A2 (CO (A2 (mOp gIx (A0 3) (A0 7)) (A2 (mOp gIx (A0 3) (A0 8)) A4))) A4)))
  AT)))
 (AM (BN BR (Jq (B8 (Eo (Dm (A0 6)))) Dk (G4 (mC (.int 16))))))))))))
def GM:FD:=mkF 2 9 TQ
abbrev IP:Df:=⟨"_law_wishes",Lj,["_law_source_here","_law_many"],2,GM⟩
abbrev Pw:Stmt:=top 48
def Ut:FnScope ["_law_source_here","_law_works","_law_wishes_here","_law_many","_law_left","_law_pieces","_law_now","_law_turn","_law_open_ones","_law_k","_law_part"] ["_law_source_here","_law_works","_law_wishes_here"] (A9 Pw):=Ak (by kernel_rfl)
@[reducible] def Z6:MS:=(AA (AI 3 (mCB (f1 true BT) (A2 (A0 1) A4)))
 (AA (AI 4 (B8 (Ao 1 [] (Al (A0 1)) (AD 0) Bt (mOp gIx (A0 0) (mC (.int 0))))))
 (AA (AI 5 (B8 (C4 A4)))
 (AA (AI 6 (mC (.int 0)))
 (AA (BS (DQ (A2 (mOp Cw (mC (.int 3)) (A0 3)) A4)) (AD 7)
  (AA (AI 8 (B8 (Ao 1 [4,2] (DQ (A2 (A0 3) A4)) (AD 0) (EJ (AE (mOp gGt (mOp gIx (A0 1) (A0 0)) (mC (.int 0)))) (BM (BN Dp (Ao 2 [0,1] (Al (A0 2)) (B0 2 (AH (AD 0) (AH (AD 1) B1))) (AE (mOp gEq (A0 1) (A0 2))) (mOp gEq (mOp gIx (A0 3) (A0 0)) (mC (.int 0))))))) (A0 0))))
 (Ae (AE (D8 true (A0 8) (C4 A4)))
  (AA (AI 9 (mOp gIx (A0 8) (A8 2 Ai (A2 (A0 0) (A2 (mCB (f1 true BT) (A2 (A0 8) A4)) A4)))))
 (AA (AI 6 (mOp Ap (mCB GD (A2 (A0 6) (A2 (mOp gIx (mOp gIx (A0 1) (A0 9)) (mC (.int 1))) A4))) (G5 (C4 (A2 (mC (.int 0)) (A2 (mC (.int 0)) (A2 (mC (.int 0)) (A2 (mC (.int 1)) (A2 (mC (.int 4)) A4)))))) (A8 2 Ai (A2 (A0 0) (A2 (mC (.int 5)) A4))))))
 (AA (AI 10 (mOp gIx (A0 4) (A0 9)))
 (AA (Ae (EJ (AE (mOp gLt (A0 7) (mOp Cw (mC (.int 2)) (A0 3)))) (AE (mOp gEq (A8 2 Ai (A2 (A0 0) (A2 (mC (.int 2)) A4))) (mC (.int 1)))))
  (AI 10 (mOp Ap (mC (.int 1)) (A8 2 Ai (A2 (A0 0) (A2 (mOp gIx (A0 4) (A0 9)) A4)))))
  AT)
 (AA (C5 (mMt BB (A0 5) (A2 (CO (A2 (A0 9) (A2 (A0 6) (A2 (mOp Ap (A0 6) (A0 10)) A4)))) A4)))
 (AA (DP (A0 4) (A0 9) (mOp Cn (mOp gIx (A0 4) (A0 9)) (A0 10)))
 (AI 6 (mOp Ap (A0 6) (A0 10)))))))))
  AT)))
 (AM (mCB (f1 true BR) (A2 (A0 5) A4))))))))
def JS:FD:=mkF 3 11 Z6
abbrev Mh:Df:=⟨"_law_plan",Pw,["_law_source_here","_law_works","_law_wishes_here"],2,JS⟩
abbrev Hq:Stmt:=top 49
def Lh:FnScope ["_law_works","_law_plan_here","_law_ends","_law_k","_law_begin","_law_end"] ["_law_works","_law_plan_here"] (A9 Hq):=Ak (by kernel_rfl)
@[reducible] def NB:MS:=(AA (AI 2 (B8 (IJ (C4 (A2 (mC (.int 0)) A4)) (mCB (f1 true BT) (A2 (A0 0) A4)))))
 (AA (BS (Al (A0 1)) (B0 3 (AH (AD 3) (AH (AD 4) (AH (AD 5) B1))))
  (DP (A0 2) (A0 3) (A0 5)))
 (AM (mCB (f1 true BR) (A2 (A0 2) A4)))))
def E2:FD:=mkF 2 6 NB
abbrev FL:Df:=⟨"_law_plan_ends",Hq,["_law_works","_law_plan_here"],1,E2⟩
abbrev NT:Stmt:=top 51
def SF:FnScope ["_law_many","_law_some"] ["_law_many","_law_some"] (A9 NT):=Ak (by kernel_rfl)
@[reducible] def WV:MS:=(AM (B8 (Ao 1 [0,1] (DQ (A2 (mOp Cw (A0 0) (mCB (f1 true BT) (A2 (A0 1) A4))) A4)) (AD 0) Bt (CO (A2 (mOp Ep (A0 0) (A0 1)) (A2 (mOp gIx (A0 2) (mOp F7 (A0 0) (A0 1))) A4))))))
def Hk:FD:=mkF 2 2 WV
abbrev K4:Df:=⟨"_law_pairs",NT,["_law_many","_law_some"],1,Hk⟩
abbrev Ll:Stmt:=top 50
def Pv:FnScope ["_law_many","_law_found","_law_turn"] ["_law_many"] (A9 Ll):=Ak (by kernel_rfl)
@[reducible] def TU:MS:=(AA (AI 1 (B8 (C4 (A2 (CO A4) A4))))
 (AA (BS (DQ (A2 (A0 0) A4)) (AD 2)
  (AI 1 (B8 (Ao 2 [] (Dm (DS Hk (A2 (A0 0) (A2 (A0 1) A4)))) (B0 2 (AH (AD 0) (AH (AD 1) B1))) (AE (mOp (gIn true) (A0 0) (A0 1))) (mOp LO (A0 1) (CO (A2 (A0 0) A4)))))))
 (AM (A0 1))))
def GO:FD:=mkF 1 3 TU
abbrev IR:Df:=⟨"_law_orders",Ll,["_law_many"],2,GO⟩
abbrev U6:Stmt:=top 52
def XM:FnScope ["_law_script","_law_source_here","_law_most","_law_works","_law_tells","_law_orders_here","_law_turn","_law_wishes_here","_law_plan_here","_law_ends","_law_cost"] ["_law_script"] (A9 U6):=Ak (by kernel_rfl)
@[reducible] def aT:MS:=(AA (AI 1 (DS GN (A2 (A0 0) A4)))
 (AA (AI 2 (G5 (C4 (A2 (mC (.int 3)) (A2 (mC (.int 5)) (A2 (mC (.int 6)) A4)))) (A8 2 Ai (A2 (A0 1) (A2 (mC (.int 3)) A4)))))
 (AA (AI 3 (A8 2 Dd (A2 (A0 1) (A2 (A0 2) A4))))
 (AA (AI 4 (A8 0 Dc (A2 (A0 3) (A2 (A8 0 EU (A2 (A0 3) A4)) A4))))
 (AA (Ae (mOr (CP (BM (DR .int (A0 4)))) (BM (DR .bool (A0 4))))
  (AM (mC (.bl false)))
  AT)
 (AA (AI 5 (DS GO (A2 (mCB (f1 true BT) (A2 (A0 3) A4)) A4)))
 (AA (Ae (AE (mOp gNe (A0 4) (BN MR (Ao 1 [3] (Dm (A0 5)) (AD 0) Bt (A8 0 CL (A2 (A0 1) (A2 (A8 0 EV (A2 (A0 1) (A2 (A0 0) A4))) A4)))))))
  (AM (mC (.bl false)))
  AT)
 (AA (BS (DQ (A2 (mC (.int 3)) A4)) (AD 6)
  (AA (AI 7 (A8 2 GM (A2 (A0 1) (A2 (mCB (f1 true BT) (A2 (A0 3) A4)) A4))))
 (AA (AI 8 (A8 2 JS (A2 (A0 1) (A2 (A0 3) (A2 (A0 7) A4)))))
 (AA (AI 9 (A8 0 E2 (A2 (A0 3) (A2 (A0 8) A4))))
 (AA (AI 10 (A8 0 CL (A2 (A0 3) (A2 (A0 9) A4))))
 (AA (Ae (mOr (AE (Jt true true (A8 0 FC (A2 (A0 3) (A2 (A0 7) (A2 (A0 8) A4)))))) (AE (mOp gNe (A8 0 F_ends_of (A2 (A0 3) (A2 (A0 8) A4))) (A0 9))))
  (AM (mC (.bl false)))
  AT)
 (Ae (mOr (AE (mOp gNe (A8 0 F_worth (A2 (A0 3) (A2 (A0 9) (A2 (mC (.str "sum")) A4)))) (A0 10))) (AE (mOp gLt (A0 10) (A0 4))))
  (AM (mC (.bl false)))
  AT)))))))
 (AM (mC (.bl true)))))))))))
def dJ:FD:=mkF 1 11 aT
abbrev PJ:Df:=⟨"law",U6,["_law_script"],7,dJ⟩
set_option maxHeartbeats 0 in
def oks{E:En}(B:BltA E.mg):(Dn E D5->Kn E D5)/\
 (Dn E DF->Kn E D5->Kn E DF)/\
 (Dn E CS->Kn E DF->Kn E CS)/\
 (Dn E D9->Kn E D9)/\
 (Dn E GF->Kn E GF)/\
 (Dn E HE->Kn E GF->Kn E HE)/\
 (Dn E EL->Kn E EL)/\
 (Dn E Eu->Kn E EL->Kn E Eu)/\
 (Dn E CB->Kn E CB)/\
 (Dn E FK->Kn E FK)/\
 (Dn E CH->Kn E Eu->Kn E CB->Kn E CH)/\
 (Dl E EB ⟨66,41,66,70⟩->Kn E EB)/\
 (Dn E CI->Kn E FK->Kn E CI)/\
 (Dn E EA->Kn E EA)/\
 (Dn E DV->Kn E DV)/\
 (Dn E Cy->Kn E Cy)/\
 (Dn E DX->Kn E D5->Kn E D9->Kn E CI->Kn E DX)/\
 (Dn E EM->Kn E EA->Kn E DV->Kn E EM)/\
 (Dn E DE->Kn E CH->Kn E EB->Kn E EA->Kn E EM->Kn E DE)/\
 (Dn E Ev->Kn E CH->Kn E CI->Kn E Cy->Kn E DX->Kn E DE->Kn E Ev)/\
 (Dn E GI->Kn E D5->Kn E CS->Kn E D9->Kn E GI)/\
 (Dn E DW->Kn E DW)/\
 (Dn E Dr->Kn E Dr)/\
 (Dn E Ds->Kn E Ds)/\
 (Dn E F9->Kn E F9)/\
 (Dn E HD->Kn E GI->Kn E DW->Kn E Dr->Kn E Ds->Kn E F9->Kn E HD)/\
 (Dn E GJ->Kn E HE->Kn E GJ)/\
 (Dn E K3->Kn E GJ->Kn E K3)/\
 (Dn E GH->Kn E EA->Kn E DV->Kn E GH)/\
 (Dn E GE->Kn E CH->Kn E EB->Kn E CI->Kn E GH->Kn E GE)/\
 (Dn E IQ->Kn E IQ)/\
 (Dn E Fh->Kn E Fh)/\
 (Dn E Ew->Kn E Fh->Kn E Ew)/\
 (Dn E EN->Kn E EN)/\
 (Dn E GG->Kn E GG)/\
 (Dn E IP->Kn E Fh->Kn E IP)/\
 (Dn E Mh->Kn E Fh->Kn E Mh)/\
 (Dn E FL->Kn E FL)/\
 (Dn E K4->Kn E K4)/\
 (Dn E IR->Kn E K4->Kn E IR)/\
 (Dn E PJ->Kn E Ev->Kn E HD->Kn E F9->Kn E K3->Kn E GE->Kn E IQ->Kn E Fh->Kn E Ew->Kn E EN->Kn E GG->Kn E IP->Kn E Mh->Kn E FL->Kn E IR->Kn E PJ):=by
 refine⟨λD=>okK D Li rfl rfl λ_ _ _ _ _ _ _ hr=>?_,
  λD _=>okK D Hm rfl rfl λ_ _ _ _ _ _ _ hr=>?_,
  λD _=>okK D Fs rfl rfl λ_ _ _ _ _ _ _ hr=>?_,
  λD=>okK D Jd rfl rfl λ_ _ _ _ _ _ _ hr=>?_,
  λD=>okK D N1 rfl rfl λ_ _ _ _ _ _ _ hr=>?_,
  λD _=>okK D OV rfl rfl λ_ _ _ _ _ _ _ hr=>?_,
  λD=>okK D JY rfl rfl λ_ _ _ _ _ _ _ hr=>?_,
  λD _=>okK D Kr rfl rfl λ_ _ _ _ _ _ _ hr=>?_,
  λD=>okK D FW rfl rfl λ_ _ _ _ _ _ _ hr=>?_,
  λD=>okK D Lg rfl rfl λ_ _ _ _ _ _ _ hr=>?_,
  λD _ _=>okK D Jc rfl rfl λ_ _ _ _ _ _ _ hr=>?_,
  λD=>okL D OW rfl rfl λ_ _ _ _ LC _ _ _ _ _ _ hcd hr=>?_,
  λD _=>okK D Je rfl rfl λ_ _ _ _ _ _ _ hr=>?_,
  λD=>okK D OS rfl rfl λ_ _ _ _ _ _ _ hr=>?_,
  λD=>okK D Kq rfl rfl λ_ _ _ _ _ _ _ hr=>?_,
  λD=>okK D Gg rfl rfl λ_ _ _ _ _ _ _ hr=>?_,
  λD _ _ _=>okK D Hz rfl rfl λ_ _ _ _ _ _ _ hr=>?_,
  λD _ _=>okK D JZ rfl rfl λ_ _ _ _ _ _ _ hr=>?_,
  λD _ _ _ _=>okK D Hl rfl rfl λ_ _ _ _ _ _ _ hr=>?_,
  λD _ _ _ _ _=>okK D Ks rfl rfl λ_ _ _ _ _ _ _ hr=>?_,
  λD _ _ _=>okK D N4 rfl rfl λ_ _ _ _ _ _ _ hr=>?_,
  λD=>okK D Hy rfl rfl λ_ _ _ _ _ _ _ hr=>?_,
  λD=>okK D Ij rfl rfl λ_ _ _ _ _ _ _ hr=>?_,
  λD=>okK D Ik rfl rfl λ_ _ _ _ _ _ _ hr=>?_,
  λD=>okK D OU rfl rfl λ_ _ _ _ _ _ _ hr=>?_,
  λD _ _ _ _ _=>okK D OT rfl rfl λ_ _ _ _ _ _ _ hr=>?_,
  λD _=>okK D N5 rfl rfl λ_ _ _ _ _ _ _ hr=>?_,
  λD _=>okK D SE rfl rfl λ_ _ _ _ _ _ _ hr=>?_,
  λD _ _=>okK D N3 rfl rfl λ_ _ _ _ _ _ _ hr=>?_,
  λD _ _ _ _=>okK D N0 rfl rfl λ_ _ _ _ _ _ _ hr=>?_,
  λD=>okK D Pu rfl rfl λ_ _ _ _ _ _ _ hr=>?_,
  λD=>okK D Uu rfl rfl λ_ _ _ _ _ _ _ hr=>?_,
  λD _=>okK D Kt rfl rfl λ_ _ _ _ _ _ _ hr=>?_,
  λD=>okK D Ja rfl rfl λ_ _ _ _ _ _ _ hr=>?_,
  λD=>okK D N2 rfl rfl λ_ _ _ _ _ _ _ hr=>?_,
  λD _=>okK D Pt rfl rfl λ_ _ _ _ _ _ _ hr=>?_,
  λD _=>okK D Ut rfl rfl λ_ _ _ _ _ _ _ hr=>?_,
  λD=>okK D Lh rfl rfl λ_ _ _ _ _ _ _ hr=>?_,
  λD=>okK D SF rfl rfl λ_ _ _ _ _ _ _ hr=>?_,
  λD _=>okK D Pv rfl rfl λ_ _ _ _ _ _ _ hr=>?_,
  λD _ _ _ _ _ _ _ _ _ _ _ _ _ _=>okK D XM rfl rfl λ_ _ _ _ _ _ _ hr=>?_⟩
 all_goals (refine' ⟨_,_⟩;rotate_left;repeat' (first
  |((with_reducible show QE _ _ _ _ _);first|exact qv _ _|(first|exact YS _|exact YI _|exact aD _|exact YM _)|((with_reducible show QE _ _ _ _ (mOp _ _ _));first|((with_reducible show QE _ _ _ _ (mOp gIx _ _));refine' aA _ _ _)|((with_reducible show QE _ _ _ _ (mOp CA _ _));refine' Vj _ (UT hr) _ _)|((with_reducible show QE _ _ _ _ (mOp Ap _ _));refine' Fw _ ((Qb).or (M5 _)) (Dj QH NZ) _ _)|((with_reducible show QE _ _ _ _ (mOp Cn _ _));refine' Fw _ Yw Xm _ _)|((with_reducible show QE _ _ _ _ (mOp Cw _ _));refine' Fw _ Z1 Xo _ _)|((with_reducible show QE _ _ _ _ (mOp Ep _ _));refine' Fw _ Z2 Xp _ _)|((with_reducible show QE _ _ _ _ (mOp F7 _ _));refine' Fw _ WD VF _ _)|((with_reducible show QE _ _ _ _ (mOp Ti _ _));refine' Fw _ Yy Xn _ _)|((with_reducible show QE _ _ _ _ (mOp LO _ _));refine' Fw _ (((Qb).or (M5 _)).or (WH _)) (Dj (Dj QH NZ) VG) _ _)|((with_reducible show QE _ _ _ _ (mOp gLt _ _));refine' Go _ UP UB _ _)|((with_reducible show QE _ _ _ _ (mOp gLe _ _));refine' Go _ UQ UC _ _)|((with_reducible show QE _ _ _ _ (mOp gGe _ _));refine' Go _ UR UD _ _)|((with_reducible show QE _ _ _ _ (mOp gEq _ _));refine' Go _ ((US).or (Nh _ hr.units)) (Dj QC QD) _ _)|((with_reducible show QE _ _ _ _ (mOp gNe _ _));refine' Go _ ((UO).or (Jj _ hr.units)) (Dj Q9 QB) _ _))|refine' YH _ _|((with_reducible show QE _ _ _ _ (B8 _));refine' YN _ _)|refine' YO _ _|((with_reducible show QE _ _ _ _ (A8 _ _ _));first|refine' qcW _ (by assumption) hr _|refine' qcW _ (by assumption) (hr.in1.deeper _) _)|((with_reducible show QE _ _ _ _ (DS _ _));refine' qcG (by assumption) hr _)|((with_reducible show QE _ _ _ _ (BN _ _));first|((with_reducible show QE _ _ _ _ (BN Dp _));refine' J7 _ (Kh _ rfl) Q5 B.all L2.bt_all _)|((with_reducible show QE _ _ _ _ (BN MU _));refine' J7 _ (Kg _ rfl) Q4 B.any L2.bt_any _)|((with_reducible show QE _ _ _ _ (BN FJ _));refine' J7 _ ((Kc _ rfl).or (JN _ rfl)) Q0 B.sum L2.bt_sum _)|((with_reducible show QE _ _ _ _ (BN MR _));refine' J7 _ (Ke _ rfl) Q2 B.min L2.bt_min _)|((with_reducible show QE _ _ _ _ (BN IM _));refine' J7 _ ((Kf _ rfl).or (JO _ rfl)) Q3 B.max L2.bt_max _)|((with_reducible show QE _ _ _ _ (BN BR _));refine' aB _ (Hv _) Lo B.tuple L2.bt_tuple _))|((with_reducible show QE _ _ _ _ (mCB _ _));first|((with_reducible show QE _ _ _ _ (mCB (f1 _ Dp) _));refine' Fx _ (Kh _ rfl) (IA Q5) B.all L2.bt_all _)|((with_reducible show QE _ _ _ _ (mCB (f1 _ MU) _));refine' Fx _ (Kg _ rfl) (IA Q4) B.any L2.bt_any _)|((with_reducible show QE _ _ _ _ (mCB (f1 _ FJ) _));refine' Fx _ ((Kc _ rfl).or (JN _ rfl)) (IA Q0) B.sum L2.bt_sum _)|((with_reducible show QE _ _ _ _ (mCB (f1 _ BT) _));refine' Fx _ (RU _) (IA Xd) B.len L2.bt_len _)|((with_reducible show QE _ _ _ _ (mCB (f1 _ MR) _));refine' Fx _ (Ke _ rfl) (IA Q2) B.min L2.bt_min _)|((with_reducible show QE _ _ _ _ (mCB (f1 _ IM) _));refine' Fx _ ((Kf _ rfl).or (JO _ rfl)) (IA Q3) B.max L2.bt_max _)|((with_reducible show QE _ _ _ _ (mCB GD _));refine' Fx _ (RQ rfl) V7 B.max L2.bt_max _)|((with_reducible show QE _ _ _ _ (mCB (f1 _ BR) _));refine' aC _ (Hv _) (IA Lo) B.tuple L2.bt_tuple _))|((with_reducible show QE _ _ _ _ (G5 _ _));refine' YQ _ _ _)|((with_reducible show QE _ _ _ _ (Jr _ _ _));refine' YJ _ _ _ _)|((with_reducible show QE _ _ _ _ (HW _ _));refine' Vg _ _ _)|refine' Sq _ _ _ _|((with_reducible show QE _ _ _ _ (mMt _ _ _));first|((with_reducible show QE _ _ _ _ (mMt BB _ _));refine' UK _ PySem.F.slot_list_append PySem.F.type_list_append KM Pz _ _)|((with_reducible show QE _ _ _ _ (mMt Fg _ _));refine' UK _ PySem.F.slot_list_pop PySem.F.type_list_pop TM SO _ _))|((with_reducible show QE _ _ _ _ (D2 _ _ _ _ _ _ _ _ _));refine' bH _ (λ_ _ _=>_) (λ_ _ _=>_) (λ_ _ _=>_) (λ_ _ _=>_) (λ_ _ _=>_) (λ_ _ _=>_))|refine' Vi _ _|((with_reducible show QE _ _ _ _ (DR _ _));first|((with_reducible show QE _ _ _ _ (DR .int _));refine' Ly _ .int B.isinstance B.int _)|((with_reducible show QE _ _ _ _ (DR .bool _));refine' Ly _ .bool B.isinstance B.bool _)|((with_reducible show QE _ _ _ _ (DR .tuple _));refine' Ly _ .tuple B.isinstance B.tuple _))|((with_reducible show QE _ _ _ _ (CQ _ _));first|refine' YR _ _|refine' Vh _ _)|((with_reducible show QE _ _ _ _ (DT _ _));refine' YT _ _ _)|((with_reducible show QE _ _ _ _ (Js _ _));refine' a9 _ _ _)|((with_reducible show QE _ _ _ _ (HY _));refine' YL _ _)|refine' YK _ _)
  |refine' Vk _ _ _|exact YU _
  |((with_reducible show QT _ _ _ _ _);first|((with_reducible show QT _ _ _ _ (AE (mOp _ _ _)));first|((with_reducible show QT _ _ _ _ (AE (mOp gLt _ _)));refine' Em _ UP UB _ _)|((with_reducible show QT _ _ _ _ (AE (mOp gLe _ _)));refine' Em _ UQ UC _ _)|((with_reducible show QT _ _ _ _ (AE (mOp gGt _ _)));refine' Em _ aP Zz _ _)|((with_reducible show QT _ _ _ _ (AE (mOp gGe _ _)));refine' Em _ UR UD _ _)|((with_reducible show QT _ _ _ _ (AE (mOp gEq _ _)));refine' Em _ ((US).or (Nh _ hr.units)) (Dj QC QD) _ _)|((with_reducible show QT _ _ _ _ (AE (mOp gNe _ _)));refine' Em _ ((UO).or (Jj _ hr.units)) (Dj Q9 QB) _ _)|((with_reducible show QT _ _ _ _ (AE (mOp (gIn true) _ _)));refine' Em _ (Qa _) Zy _ _))|refine' Xz _ _|((with_reducible show QT _ _ _ _ (BM _));refine' Sd _ _)|((with_reducible show QT _ _ _ _ (EJ _ _));refine' QW.toT _)|((with_reducible show QT _ _ _ _ (mOr _ _));refine' QW.toT _)|((with_reducible show QT _ _ _ _ (AE (Jt _ _ _)));refine' VL _ _)|((with_reducible show QT _ _ _ _ (AE (CQ _ _)));first|refine' Y0 _ _|refine' VJ _ _)|((with_reducible show QT _ _ _ _ (AE (D8 _ _ _)));refine' VM _ (Yz _ hr.units) _ _))
  |refine' VI _ _|refine' Xx _ _|refine' Xy _ _ _|refine' a0 _ _ _
  |((with_reducible show QN _ _ _ _ _);first|((with_reducible show QN _ _ _ _ (E6 _ _ _));refine' Y3 LC hcd hr B.sorted _ (λ_ _ _ _=>_))|refine' YB _ _|((with_reducible show QN _ _ _ _ (Ao _ _ _ _ _ _));refine' qnA _ (λ_ _ _=>_) (λ_ _ _=>_) (λ_ _ _=>_))|((with_reducible show QN _ _ _ _ (IJ _ _));refine' YA _ _ _)|((with_reducible show QN _ _ _ _ (Jq _ _ _));refine' Y9 _ _ _ _)|((with_reducible show QN _ _ _ _ (Eo _));refine' Oh _ B.sorted _)|((with_reducible show QN _ _ _ _ (Gy _));refine' Sk _ B.list B.range _)|((with_reducible show QN _ _ _ _ (Gz _));refine' Sl _ B.list _))
  |((with_reducible show QI _ _ _ _ _ _);first|((with_reducible show QI _ _ _ _ _ (DQ _));refine' Vc _ B.range _)|((with_reducible show QI _ _ _ _ _ (Ha _));refine' Vb _ B.range _)|((with_reducible show QI _ _ _ _ _ (Al _));refine' YD _ _)|((with_reducible show QI _ _ _ _ _ (Dm _));refine' Vd _ _)|((with_reducible show QI _ _ _ _ _ (Dv _));refine' Sm _ B.enumerate (QK _ _))|((with_reducible show QI _ _ _ _ _ (Fc _));refine' Sn _ B.enumerate _)|((with_reducible show QI _ _ _ _ _ (FG _ _));refine' YC _ B.zip _ _))
  |refine' Sf _ B.range _
  |((with_reducible show QR _ _ _ _ _ _);first|((with_reducible show QR _ _ _ _ _ (Dm _));refine' VW _ _)|((with_reducible show QR _ _ _ _ _ (Al _));refine' QK _ _))
  |exact qgA
  |refine' YE _ rfl _
  |exact Ve _|refine' So _ _ _
  |exact YG _|refine' YF _ _
  |exact VZ _|refine' VY _ _
  |exact VX _|refine' Si _ _ _ _
  |((with_reducible show QSs _ _ _ _ _);first|((with_reducible show QSs _ _ _ _ (AA _ _));refine' Se _ _ _)|(first|exact VO _|refine' VN _ _))
  | ((with_reducible show QS _ _ _ _ _);first|((with_reducible show QS _ _ _ _ (AI _ (B8 (Ao _ _ _ _ _ _))));first|refine' bG _ (λ_ _ _=>_) (λ_ _ _=>_) (λ_ _ _=>_)|refine' qsA _)|((with_reducible show QS _ _ _ _ (AI _ (D2 _ _ _ _ _ _ _ _ _)));first|refine' a8 _ (λ_ _ _=>_) (λ_ _ _=>_) (λ_ _ _=>_) (λ_ _ _=>_) (λ_ _ _=>_) (λ_ _ _=>_)|refine' qsA _)|((with_reducible show QS _ _ _ _ (AI _ _));refine' qsA _)|refine' a7 _ _ _ _|refine' Y5 _ _|refine' Y7 _ rfl _ _ _|refine' VT _ _|((with_reducible show QS _ _ _ _ (F4 _ _ _));refine' VU _ (UT hr) _ _ _)|((with_reducible show QS _ _ _ _ (DP _ _ _));refine' VR _ _ _ _)|refine' Y8 _ _ _|exact VQ _|((with_reducible show QS _ _ _ _ Cd);exact Sh _)|((with_reducible show QS _ _ _ _ (HZ _ _ _ _));refine' VS _ _ _ _ ZI))))
open Bd
structure Sp where
 cells:List Int
 a:Int
 rs:Int
 cn:Int
def Bb(t:Sp):List (Key×D):=[(.inr "cells",.mu 0),(.inr "at",.im (.int t.a)),(.inr "rest",.im (.int t.rs)),(.inr "count",.im (.int t.cn))]
def sp(t:Sp):Hd:=[.lst (t.cells.map λi=>.im (.int i)),.dic (Bb t)]
@[simp] theorem sp0(t:Sp):(sp t)[0]?=some (.lst (t.cells.map λi=>.im (.int i))):=rfl
@[simp] theorem sp1(t:Sp):(sp t)[1]?=some (.dic (Bb t)):=rfl
@[simp] theorem cf(t t':Sp)(h:t'.cells=t.cells):(sp t).set 1 (.dic (Bb t'))=sp t':=by unfold sp;rw[h];rfl
def C7:(("cells":Str)="at")=False:=by simp[eq_iff_iff];decide
def Bi:(("cells":Str)="rest")=False:=by simp[eq_iff_iff];decide
def BP:(("cells":Str)="count")=False:=by simp[eq_iff_iff];decide
def C9:(("at":Str)="cells")=False:=by simp[eq_iff_iff];decide
def Cf:(("at":Str)="rest")=False:=by simp[eq_iff_iff];decide
def C8:(("at":Str)="count")=False:=by simp[eq_iff_iff];decide
def Bg:(("rest":Str)="cells")=False:=by simp[eq_iff_iff];decide
def Ce:(("rest":Str)="at")=False:=by simp[eq_iff_iff];decide
def Bf:(("rest":Str)="count")=False:=by simp[eq_iff_iff];decide
def BO:(("count":Str)="cells")=False:=by simp[eq_iff_iff];decide
def C6:(("count":Str)="at")=False:=by simp[eq_iff_iff];decide
def Bh:(("count":Str)="rest")=False:=by simp[eq_iff_iff];decide
section
variable(t:Sp)(v:Int)
@[simp] theorem bB:CZ (Bb t) (.inr "cells")=some (.mu 0):=by simp[CZ,Bb]
@[simp] theorem cg:CZ (Bb t) (.inr "at")=some (.im (.int t.a)):=by simp[CZ,Bb,C7,Bi,BP,C9,Cf,C8,Bg,Ce,Bf,BO,C6,Bh]
@[simp] theorem bc:CZ (Bb t) (.inr "rest")=some (.im (.int t.rs)):=by simp[CZ,Bb,C7,Bi,BP,C9,Cf,C8,Bg,Ce,Bf,BO,C6,Bh]
@[simp] theorem bA:CZ (Bb t) (.inr "count")=some (.im (.int t.cn)):=by simp[CZ,Bb,C7,Bi,BP,C9,Cf,C8,Bg,Ce,Bf,BO,C6,Bh]
@[simp] theorem cC:DO (Bb t) (.inr "at") (.im (.int v))=Bb { t with a:=v }:=by simp[DO,Bb,C7,Bi,BP,C9,Cf,C8,Bg,Ce,Bf,BO,C6,Bh]
@[simp] theorem b9:DO (Bb t) (.inr "rest") (.im (.int v))=Bb { t with rs:=v }:=by simp[DO,Bb,C7,Bi,BP,C9,Cf,C8,Bg,Ce,Bf,BO,C6,Bh]
@[simp] theorem av:DO (Bb t) (.inr "count") (.im (.int v))=Bb { t with cn:=v }:=by simp[DO,Bb,C7,Bi,BP,C9,Cf,C8,Bg,Ce,Bf,BO,C6,Bh]
@[simp] theorem cD:(Bb t).length=4:=rfl
end
def o1:CU 1073741827:=by unfold CU;decide
def o2:CU 2147483543:=by unfold CU;decide
def o3:CU 2147483497:=by unfold CU;decide
def o4:Hh 256:=by unfold Hh;decide
def o5(j:Int):Du 611953 j:=C0 (by decide) (by decide)
def o6(j:Int):Du 3 j:=C0 (by decide) (by decide)
def o7(j:Int):Du 69069 j:=C0 (by decide) (by decide)
def mx1(c n:Int):Int:=c%1073741827+611953*n
def mx2(x n:Int):Int:=(x*x+3*n+7)%2147483543
def mx3(x n:Int):Int:=(x*x+69069*n+1)%2147483497
def Vx(τ:Sp)(many:Int)(h0:0<many)(h1:many<1073741824)(n0:0<=τ.cn)(n1:τ.cn<=100000):∃r τ',Ai [.mu 1,.im (.int many)] (sp τ)=some (.im (.int r),sp τ')/\0<=r/\r<many/\τ'.cn=τ.cn+1:=by
 have hm:CU many:=h0;have hv:Hh many:=⟨h0,h1⟩
 by_cases hl:τ.rs>0
 .refine⟨τ.rs%many,{ τ with cn:=τ.cn+1,rs:=τ.rs/many },?_,(EQ many h0).1,(EQ many h0).2,rfl⟩;simp[Ai,mkF,hl,hm,hv]
 .have key:∀cell:Int,(if τ.cells=[]then cell=11 else atI (τ.cells.map λi=>D.im (.int i)) (τ.a%(τ.cells.length:Int))=some (.im (.int cell))) ->
   ∃r τ',Ai [.mu 1,.im (.int many)] (sp τ)=some (.im (.int r),sp τ')/\0<=r/\r<many/\τ'.cn=τ.cn+1:=by
   intro cell hcell;have b1:=EQ (x:=cell) 1073741827 (by decide);have b2:=EQ (x:=mx1 cell (τ.cn+1)*mx1 cell (τ.cn+1)+3*(τ.cn+1)+7) 2147483543 (by decide);have c1:∀j,Du (mx1 cell (τ.cn+1)) j:=λj=>C0 (by unfold mx1;omega) (by unfold mx1;omega);have c2:∀j,Du (mx2 (mx1 cell (τ.cn+1)) (τ.cn+1)) j:=λj=>C0 (by unfold mx2;omega) (by unfold mx2;omega);by_cases hb:cell>=1000000000000000000/\τ.a+1<=(τ.cells.length:Int)
   .refine⟨cell%many,{ τ with cn:=τ.cn+1,a:=τ.a+1,rs:=cell/many },?_,(EQ many h0).1,(EQ many h0).2,rfl⟩;by_cases hc:τ.cells=[]
    .rw[if_pos hc]at hcell;subst hcell;omega
    .rw[if_neg hc]at hcell;have hl0:0<τ.cells.length:=DI hc;have hl0':CU (τ.cells.length:Int):=by unfold CU;omega
     simp[Ai,mkF,hl,hm,hv,o1,o2,o3,o4,o5,o6,o7,po1,D8,pyD,Cr,Cb,I.pys,Fi,hc,hcell,hl0',hb.1,hb.2,BT]
   .refine⟨mx3 (mx2 (mx1 cell (τ.cn+1)) (τ.cn+1)) (τ.cn+1)/256%many,{ τ with cn:=τ.cn+1,a:=τ.a+1 },?_,(EQ many h0).1,(EQ many h0).2,rfl⟩;have hb':1000000000000000000<=cell->¬ τ.a+1<=(τ.cells.length:Int):=λa b=>hb ⟨a,b⟩;unfold mx1 at c1 c2;unfold mx2 at c2;unfold mx3 mx2 mx1;by_cases hc:τ.cells=[]
    .rw[if_pos hc]at hcell;subst hcell;simp only[Int.reduceMod]at c1 c2;simp[Ai,mkF,hl,hm,hv,o1,o2,o3,o4,o5,o6,o7,po1,D8,pyD,Cr,Cb,I.pys,Fi,Zd,hc,BT,c1,c2]
    .rw[if_neg hc]at hcell;have hl0:0<τ.cells.length:=DI hc;have hl0':CU (τ.cells.length:Int):=by unfold CU;omega
     by_cases hd:1000000000000000000<=cell
     .simp[Ai,mkF,hl,hm,hv,o1,o2,o3,o4,o5,o6,o7,po1,D8,pyD,Cr,Cb,I.pys,Fi,hc,hcell,hl0',BT,c1,c2,hd,hb' hd]
     .simp[Ai,mkF,hl,hm,hv,o1,o2,o3,o4,o5,o6,o7,po1,D8,pyD,Cr,Cb,I.pys,Fi,hc,hcell,hl0',BT,c1,c2,hd]
  by_cases hc:τ.cells=[]
  .exact key 11 (by rw[if_pos hc])
  .obtain⟨c,e⟩:=aq hc τ.a;exact key c (by rw[if_neg hc];exact e)
def T(k:Nat)(a b:MO):Prop:=∃τ:Sp,0<=τ.cn/\τ.cn+k<=100000/\sp τ=[a,b]
def tap:Tap T Ai where
 cl:=by
  rintro k a b ⟨τ,_,_,e⟩;cases e;simp[clO,FA,Bb,FO,clD]
 le:=by
  rintro j k a b ⟨τ,h1,h2,e⟩ h;exact⟨τ,h1,by omega,e⟩
 pick:=by
  rintro k a b many ⟨τ,n0,n1,e⟩ h0 h1;obtain⟨r,τ',eq,p1,p2,c⟩:=Vx τ many h0 h1 n0 (by push_cast at n1;omega);refine⟨r,.lst (τ'.cells.map λi=>.im (.int i)),.dic (Bb τ'),p1,p2,?_,τ',by omega,by push_cast at n1;omega,rfl⟩;rw[<- e];exact eq
def SB(ns:List Int):WF GN [.ro ns] [] λd x=>d=.mu 1/\∃a b,T 90000 a b/\x=[a,b]:=by
 obtain⟨cs,e⟩:=Ts ns none (some 63);exact⟨.mu 1,_,by simp[GN,mkF,e,Fb,DO,C7,Bi,BP,C9,Cf,C8,Bg,Ce,Bf,BO,C6,Bh];rfl,rfl,_,_,⟨⟨cs,0,0,0⟩,(show(0:Int)<=0 by decide),(show(0:Int)+(90000:Nat)<=100000 by decide),rfl⟩,rfl⟩
structure Wm where
 len:Int
 com:Int
 due:Int
 wt:Int
def wmI(w:Wm):I:=.tup [.int w.len,.int w.com,.tup [.str "miss",.int w.due,.int w.wt]]
abbrev wmD(w:Wm):D:=.im (wmI w)
abbrev Aj(ws:List Wm):I:=.tup (ws.map wmI)
def Bj(ws:List Wm):(ws.map wmI).map D.im=ws.map wmD:=by rw[map_map];rfl
def okM(B c:Int)(w:Wm):Prop:=(1<=w.len/\w.len<=20)/\w.com=c/\(-B<=w.due/\w.due<=B)/\0<=w.wt/\w.wt<=9
def Av(B c:Int)(ws:List Wm):Prop:=ws≠[]/\ws.length<=8/\(0<=c/\c<=60)/\∀w∈ws,okM B c w
def at3{r:Int}(h0:0<=r)(h1:r<3)(x y z:D):∃d,(d=x∨d=y∨d=z)/\atI [x,y,z] r=some d:=by
 have:r=0∨r=1∨r=2:=by omega
 rcases this with rfl|rfl|rfl
 .exact⟨x,.inl rfl,Bn (j:=0) rfl⟩
 .exact⟨y,.inr (.inl rfl),Bn (j:=1) rfl⟩
 .exact⟨z,.inr (.inr rfl),Bn (j:=2) rfl⟩
abbrev Lw(mo c lo hv sp:Int)(m:Int)(z8 z9 z10 z11 z12 z13:Option D):Ls:=[some (.mu 1),some (.im (.int mo)),some (.im (.int m)),some (.im (.int c)),some (.im (.int lo)),some (.im (.int hv)),some (.im (.int sp)),some (.mu 2),z8,z9,z10,z11,z12,z13]
inductive I_late_works_w(n k:Nat)(mo c lo hv sn:Int)(r:List D)(ls:Ls)(hd:Hd):Prop
 |mk (j:Nat) (ws:List Wm) (a b:MO) (z8 z9 z10 z11 z12 z13:Option D) (h0:r=AW (j:Int) (k-j)) (h1:j<=k) (h2:ws.length=j) (h3:(∀w∈ws,okM 500 c w)) (h4:ls=Lw mo c lo hv sn (k:Int) z8 z9 z10 z11 z12 z13) (h5:hd=[a,b,.lst (ws.map wmD)]) (h6:T (n+10*(k-j)) a b):I_late_works_w n k mo c lo hv sn r ls hd
inductive J_d1(mo c lo hv sn:Int)(k j n:Nat)(way ln wt:Int)(z13:Option D)(ws:List Wm)(f:Fl)(x:Hd):Prop
 |mk (due:Int) (a b:MO) (h0:f=Fl.nx (Lw mo c lo hv sn (k:Int) (some (.im (.int (j:Int)))) (some (.im (.int way))) (some (.im (.int (1+ln)))) (some (.im (.int due))) (some (.im (.int wt))) z13)) (h1:x=[a,b,.lst (ws.map wmD)]) (h2:(-500<=due/\due<=500)) (h3:T (n+10*(k-(j+1))+5) a b):J_d1 mo c lo hv sn k j n way ln wt z13 ws f x
inductive J_d2(mo c lo hv sn:Int)(k j n:Nat)(way ln wt:Int)(z13:Option D)(ws:List Wm)(f:Fl)(x:Hd):Prop
 |mk (due:Int) (a b:MO) (h0:f=Fl.nx (Lw mo c lo hv sn (k:Int) (some (.im (.int (j:Int)))) (some (.im (.int way))) (some (.im (.int (1+ln)))) (some (.im (.int due))) (some (.im (.int wt))) z13)) (h1:x=[a,b,.lst (ws.map wmD)]) (h2:(-500<=due/\due<=500)) (h3:T (n+10*(k-(j+1))+4) a b):J_d2 mo c lo hv sn k j n way ln wt z13 ws f x
inductive J_d3(mo c lo hv sn:Int)(k j n:Nat)(way ln due wt:Int)(ws:List Wm)(f:Fl)(x:Hd):Prop
 |mk (w:Wm) (a b:MO) (h0:f=Fl.nx (Lw mo c lo hv sn (k:Int) (some (.im (.int (j:Int)))) (some (.im (.int way))) (some (.im (.int (1+ln)))) (some (.im (.int due))) (some (.im (.int wt))) (some (wmD w)))) (h1:x=[a,b,.lst (ws.map wmD)]) (h2:okM 500 c w) (h3:T (n+10*(k-(j+1))+3) a b):J_d3 mo c lo hv sn k j n way ln due wt ws f x
def ML(n:Nat){mo:Int}(m1:1<=mo)(m2:mo<=8):∀a b,T (n+100) a b->WF Dd [.mu 1,.im (.int mo)] [a,b] λd x=>∃i a' b' g,d=.im i/\(∃ws c,i=Aj ws/\Av 500 c ws/\(ws.length:Int)<=mo)/\T n a' b'/\x=a'::b'::g:=by
 intro a b hT;unfold Dd;refine Ag rfl ?_;refine AC (AL (A7 (AG ?_)));refine tap.draw hT rfl (by first|decide|omega) (by first|decide|omega) λm a b hT pm qm=>?_;refine BY (A6 (AC (AL ?_)));refine tap.draw hT rfl (by first|decide|omega) (by first|decide|omega) λc a b hT pc qc=>?_;refine A6 (AC (AL (Ga (By (A3 (AG (A3 (AG (A3 (AG (A5 ⟨Es,?_⟩)))))))))));refine tap.draw hT rfl (by first|decide|omega) (by first|decide|omega) λr2 a b hT pr2 qr2=>?_;obtain⟨d2,hd2,ed2⟩:=at3 pr2 qr2 (.im (.int 20)) (.im (.int 5)) (.im (.int 2));refine⟨_,_,rfl,ed2,?_⟩;obtain⟨lo,rfl,hlo⟩:∃t,d2=.im (.int t)/\(2<=t/\t<=20):=by
  rcases hd2 with rfl|rfl|rfl<;>exact⟨_,rfl,by omega,by omega⟩
 refine A6 (AC (AL (Ga (By (A3 (AG (A3 (AG (A3 (AG (A5 ⟨Es,?_⟩)))))))))));refine tap.draw hT rfl (by first|decide|omega) (by first|decide|omega) λr3 a b hT pr3 qr3=>?_;obtain⟨d3,hd3,ed3⟩:=at3 pr3 qr3 (.im (.int 9)) (.im (.int 3)) (.im (.int 1));refine⟨_,_,rfl,ed3,?_⟩;obtain⟨hv,rfl,hhv⟩:∃t,d3=.im (.int t)/\(1<=t/\t<=9):=by
  rcases hd3 with rfl|rfl|rfl<;>exact⟨_,rfl,by omega,by omega⟩
 refine A6 (AC (AL (A7 (AG (A7 (A7 (A1 rfl (A1 rfl ?_))))))));refine IY (C0 (by omega) (by omega)) ?_;refine A7 (AG ?_);refine tap.draw hT rfl (by first|decide|omega) (by first|decide|omega) λr4 a b hT pr4 qr4=>?_;refine BY ?_;refine NG ⟨by omega,by omega⟩ ?_;refine BY (A6 (AC (AL (Bs (By (A5 ⟨E9,A6 (AC (BX (Hw (A3 (A1 rfl (A5 ⟨_,rfl,?_⟩))))))⟩))))));have hsp:0<=(1+m)*lo/(1+r4)/\(1+m)*lo/(1+r4)<=160:=by
  have h1:0<=(1+m)*lo:=Int.mul_nonneg (by omega) (by omega);have h2:(1+m)*lo<=8*lo:=Int.mul_le_mul_of_nonneg_right (by omega) (by omega);refine⟨Int.ediv_nonneg h1 (by omega),?_⟩;have:(1+m)*lo/(1+r4)<=(1+m)*lo:=Int.ediv_le_self _ h1;omega
 generalize hS:2+(1+m)*lo/(1+r4)=sn at *;refine⟨Di (by omega) (by omega),?_⟩;obtain⟨k,hk⟩:=Int.eq_ofNat_of_zero_le (show 0<=1+m by omega);rw[hk,toNat_natCast];change WP (Ax _ _ _ _ (Lw mo c lo hv sn (k:Int) none none none none none none) [a,b,.lst []]) _;have hT:T (n+10*(k-0)) a b:=tap.le hT (by omega);refine B9 (I_late_works_w n k mo c lo hv sn) ⟨0,[],a,b,none,none,none,none,none,none,rfl,by omega,rfl,by simp,rfl,rfl,hT⟩ ?_ ?_
 .rintro d r ls hd ⟨j,ws,a,b,z8,z9,z10,z11,z12,z13,er,hj,hl,hws,rfl,rfl,hT⟩;obtain⟨m',hm⟩:∃m,k-j=m+1:=by
   cases q:k-j with
   |zero=>rw[q]at er;cases er
   |succ m=>exact⟨m,rfl⟩
  rw[hm,AW]at er;obtain⟨rfl,rfl⟩:=List.cons.inj er;have hT:T (n+10*(k-(j+1))+10) a b:=tap.le hT (by omega);refine⟨Lw mo c lo hv sn (k:Int) (some (.im (.int (j:Int)))) z9 z10 z11 z12 z13,rfl,?_⟩;have atw:∀r:Int,0<=r->r<j->∃w∈ws,atI (ws.map wmD) r=some (wmD w):=by
   intro r h0 h1;obtain⟨i,hi⟩:=Int.eq_ofNat_of_zero_le h0;have hi':i<ws.length:=by omega
   exact⟨ws[i],List.getElem_mem hi',FR hi (by simp[hi'])⟩
  refine AC (AL ?_);refine tap.draw hT rfl (by first|decide|omega) (by first|decide|omega) λway a b hT pway qway=>?_;refine A6 (AC (AL (A7 (AG ?_))));refine tap.draw hT rfl (by first|decide|omega) (by first|decide|omega) λln a b hT pln qln=>?_;refine BY (A6 (AC (AL (A7 (A7 (A1 rfl (AG (DJ ?_))))))));refine tap.draw hT rfl (by first|decide|omega) (by first|decide|omega) λdu a b hT pdu qdu=>?_;refine BY (A6 (AC (AL ?_)));refine tap.draw hT (many:=hv+1) (rest:=[.lst (ws.map wmD)]) (by simp) (by omega) (by omega) λwt a b hT pwt qwt=>A6 ?_;change WS _ (Lw mo c lo hv sn (k:Int) (some (.im (.int (j:Int)))) (some (.im (.int way))) (some (.im (.int (1+ln)))) (some (.im (.int (c-1+du)))) (some (.im (.int wt))) z13) [a,b,.lst (ws.map wmD)] _
  -- the due
  refine AC (WP.mono (Q:=J_d1 mo c lo hv sn k j n way ln wt z13 ws) (Am (AQ (A7 (A1 rfl (AG (CY ⟨_,rfl,λhc=>?_,λhc=>AY ⟨_,a,b,rfl,rfl,by omega,tap.le hT (by omega)⟩⟩)))))) ?_)
  .refine AL (A7 ?_);refine tap.draw hT rfl (by first|decide|omega) (by first|decide|omega) λr5 a b hT pr5 qr5=>?_;exact AG (DJ ⟨r5-99,a,b,rfl,rfl,by omega,tap.le hT (by omega)⟩)
  rintro f x ⟨due,a,b,rfl,rfl,hdu,hT⟩;refine A6 ?_;refine AC (WP.mono (Q:=J_d2 mo c lo hv sn k j n way ln wt z13 ws) (Am (FU (AQ (A7 (A1 rfl (AG (CY ⟨_,rfl,?_⟩))))))) ?_)
  .by_cases h1:way=1
   .rw[if_pos (by simpa using h1)];refine AQ (A7 (A1 rfl (AG (IZ ⟨_,rfl,λhc=>?_,λhc=>AY ⟨due,a,b,rfl,rfl,hdu,tap.le hT (by omega)⟩⟩))));have hc:0<(j:Int):=by simpa using hc
    refine AL (A7 (A7 (A7 (A1 rfl ?_))));refine tap.draw hT (many:=(j:Int)) (rest:=[.lst (ws.map wmD)]) (by simp) (by omega) (by omega) λr a b hT pr qr=>?_;obtain⟨w,hw,ew⟩:=atw r pr qr;have okw:=hws w hw;refine AR rfl ew (AG (AR (ds:=[.im (.int w.len),.im (.int w.com),.im (.tup [.str "miss",.int w.due,.int w.wt])]) rfl (GK _ _ _ _) (AG (AR (ds:=[.im (.str "miss"),.im (.int w.due),.im (.int w.wt)]) rfl (FS _ _ _) ⟨w.due,a,b,rfl,rfl,okw.2.2.1,hT⟩))))
   .rw[if_neg (by simpa using h1)];exact⟨(λh=>by cases h),λ_=>AY ⟨due,a,b,rfl,rfl,hdu,tap.le hT (by omega)⟩⟩
  rintro f x ⟨due,a,b,rfl,rfl,hdu,hT⟩;refine A6 ?_;refine AC (AL (Br (A3 (A1 rfl (A3 (A1 rfl (A3 (Br (A3 (AG (A3 (A1 rfl (A3 (A1 rfl (A5 ⟨Es,A5 ⟨Es,A6 ?_⟩⟩)))))))))))))));have okn:okM 500 c ⟨1+ln,c,due,wt⟩:=⟨by dsimp only;omega,rfl,hdu,by dsimp only;omega⟩
  have e0:AX [.im (.int (1+ln)),.im (.int c),AX [.im (.str "miss"),.im (.int due),.im (.int wt)]]=wmD ⟨1+ln,c,due,wt⟩:=rfl;rw[e0];change WS _ (Lw mo c lo hv sn (k:Int) (some (.im (.int (j:Int)))) (some (.im (.int way))) (some (.im (.int (1+ln)))) (some (.im (.int due))) (some (.im (.int wt))) (some (wmD ⟨1+ln,c,due,wt⟩))) [a,b,.lst (ws.map wmD)] _;refine AC (WP.mono (Q:=J_d3 mo c lo hv sn k j n way ln due wt ws) (Am (FU (AQ (A7 (A1 rfl (AG (CY ⟨_,rfl,?_⟩))))))) ?_)
  .by_cases h1:way=2
   .rw[if_pos (by simpa using h1)];refine AQ (A7 (A1 rfl (AG (IZ ⟨_,rfl,λhc=>?_,λhc=>AY ⟨_,a,b,rfl,rfl,okn,tap.le hT (by omega)⟩⟩))));have hc:0<(j:Int):=by simpa using hc
    refine AL (A7 (A1 rfl ?_));refine tap.draw hT (many:=(j:Int)) (rest:=[.lst (ws.map wmD)]) (by simp) (by omega) (by omega) λr a b hT pr qr=>?_;obtain⟨w,hw,ew⟩:=atw r pr qr;exact AR rfl ew ⟨w,a,b,rfl,rfl,hws w hw,hT⟩
   .rw[if_neg (by simpa using h1)];exact⟨(λh=>by cases h),λ_=>AY ⟨_,a,b,rfl,rfl,okn,tap.le hT (by omega)⟩⟩
  rintro f x ⟨w,a,b,rfl,rfl,okw,hT⟩;refine A6 (Bx (HM (A1 rfl ⟨⟨_,rfl⟩,A3 (A1 rfl (A5 (Ed rfl (Ch (by simp;omega)) ?_)))⟩)));exact⟨AJ _,j+1,ws++[w],a,b,_,_,_,_,_,_,by rw[show((j:Int)+1)=((j+1:Nat):Int) by omega,show m'=k-(j+1) by omega],by omega,by simp[hl],λz hz=>by rcases mem_append.mp hz with q|q;exact hws z q;rw[mem_singleton]at q;subst q;exact okw,rfl,by simp,tap.le hT (by omega)⟩
 .rintro ls hd ⟨j,ws,a,b,z8,z9,z10,z11,z12,z13,er,hj,hl,hws,rfl,rfl,hT⟩;have:j=k:=by
   cases q:k-j with
   |zero=>omega
   |succ m=>rw[q]at er;cases er
  subst this;refine A6 (AU (BK (A3 (A1 rfl (A5 (Bq rfl rfl ?_))))));rw[<- Bj,Be];exact⟨_,a,b,_,rfl,⟨ws,c,rfl,⟨λz=>by rw[z]at hl;simp at hl;omega,by omega,by omega,hws⟩,by omega⟩,tap.le hT (by omega),rfl⟩
def F6(ns:List Int):As (intD ns)=some ns:=by
 induction ns with
 |nil=>rfl
 |cons n r ih=>simp[intD]at ih ⊢
def Fo{ws:List Wm}{k:Nat}(hk:k<ws.length):atI (ws.map wmD) (k:Int)=some (wmD ws[k]):=FR rfl (by simp[hk])
def Tu{B c:Int}{ws:List Wm}(ok:Av B c ws):WF Db [.im (Aj ws)] [] λd x=>d=.im (.int c):=by
 obtain⟨hne,hl8,hc,hws⟩:=ok;have hl0:0<ws.length:=DI hne;unfold Db;refine Ag rfl ?_;refine AC (AL (AF (A3 (A1 rfl (A5 ⟨by simp,?_⟩)))));have e0:(ws[0]).com=c:=(hws _ (List.getElem_mem hl0)).2.1;have S:WF DB [.im (Aj ws)] [] λd x=>d=.im (.int c):=by
  unfold DB;refine Ag rfl ?_;refine AC (AL (A7 (A7 (A1 rfl (AG (AR (by rw[CG,Bj]) (Fo (k:=0) hl0) ?_))))));refine AG (AR (ds:=[.im (.int (ws[0]).len),.im (.int (ws[0]).com),.im (.tup [.str "miss",.int (ws[0]).due,.int (ws[0]).wt])]) rfl (FS _ _ _) (A6 ?_));rw[e0];refine AC (Am (B3 (Cz (B4 (BZ (A1 rfl ⟨_,rfl,?_⟩))))));rw[Bj];refine⟨Ab (by simp;omega),?_⟩;refine Ba wmD (λ_=>some (.im (.bl true))) (λ_ ls=>∃x,ls=[some x,some (.im (.int c))]) _ (AJ _) ?_ ?_
  .rintro p hp ls hls;refine⟨[some (wmD p),some (.im (.int c))],by rcases hls with rfl|⟨_,x,rfl⟩<;>rfl,⟨_,rfl⟩,CF ⟨rfl,?_⟩⟩;rw[if_pos rfl];refine⟨_,rfl,A7 (A7 (A1 rfl (AG (AR (ds:=[.im (.int p.len),.im (.int p.com),.im (.tup [.str "miss",.int p.due,.int p.wt])]) rfl (FS _ _ _) (A1 rfl (CY ⟨rfl,?_⟩))))))⟩;simp[(hws p hp).2.1]
  have e:(ws.filterMap λ_=>some (D.im (.bl true)))=blD (ws.map λ_=>true):=by simp[blD]
  rw[e];refine⟨_,by rw[Dp,blsD_map];rfl,_,rfl,?_⟩;refine⟨λ_=>?_,(λh=>by simp at h)⟩;exact AU (A1 rfl rfl)
 refine S.mono ?_;rintro d x rfl;refine⟨_,rfl,A6 ?_⟩;refine AC (Am (AQ ?_));refine WP.eq (z:=.im (.bl false)) (h:=[]) (by simp[CQ]) ⟨_,rfl,(λh=>by cases h),λ_=>AY (A6 ?_)⟩;exact AU (A1 rfl rfl)
def SU{B c:Int}{ws:List Wm}(ok:Av B c ws):WF BV [.im (Aj ws),.im (.str "miss")] [] λd x=>d=.im .non:=by
 have hl8:=ok.2.1;unfold BV;refine Ag rfl ?_;refine Am (B3 (Cz (B4 (BZ (A1 rfl ⟨_,rfl,?_⟩)))));rw[Bj];refine⟨Ab (by simp;omega),?_⟩;refine Ba wmD (λ_=>some (.im (.bl false))) (λ_ ls=>∃x,ls=[some x,some (.im (.str "miss"))]) _ (AJ _) ?_ ?_
 .rintro p hp ls hls;refine⟨[some (wmD p),some (.im (.str "miss"))],by rcases hls with rfl|⟨_,x,rfl⟩<;>rfl,⟨_,rfl⟩,CF ⟨rfl,?_⟩⟩;rw[if_pos rfl];refine⟨_,rfl,A7 (A7 (A7 (A1 rfl (AG (AR (ds:=[.im (.int p.len),.im (.int p.com),.im (.tup [.str "miss",.int p.due,.int p.wt])]) rfl (GK _ _ _ _) (AG (AR (ds:=[.im (.str "miss"),.im (.int p.due),.im (.int p.wt)]) rfl (Mr _ _) (A1 rfl (Pf ⟨rfl,?_⟩)))))))))⟩;simp
 have e:(ws.filterMap λ_=>some (D.im (.bl false)))=blD (ws.map λ_=>false):=by simp[blD]
 rw[e];refine⟨_,by rw[MU,blsD_map];rfl,_,rfl,?_⟩;exact⟨(λh=>by simp at h),λ_=>AY rfl⟩
def MM{B c:Int}{ws:List Wm}(ok:Av B c ws):WF Bo [.im (Aj ws)] [] λd x=>d=.im (.int c):=by
 unfold Bo;refine Ag rfl ?_;refine AC (AL (AF (A3 (A1 rfl (A5 ⟨by simp,(Tu ok).mono ?_⟩)))));rintro d x rfl;refine⟨_,rfl,A6 ?_⟩;refine AC (Bx (AF (A3 (A1 rfl (A3 (AG (A5 ⟨by simp,(SU ok).mono ?_⟩)))))));rintro d x rfl;exact⟨_,rfl,A6 (AU (A1 rfl rfl))⟩
def Rh(p:Wm):WF E1 [wmD p] [] λd x=>d=.im (.int p.wt):=by
 unfold E1;refine Ag rfl ?_;refine AU (A7 (A7 (A1 rfl (AG (AR (ds:=[.im (.int p.len),.im (.int p.com),.im (.tup [.str "miss",.int p.due,.int p.wt])]) rfl (GK _ _ _ _) ?_)))));refine LU (AG ⟨_,rfl,?_⟩);refine AR (ds:=[.im (.str "miss"),.im (.int p.due),.im (.int p.wt)]) (e:=.im (.int p.wt)) rfl ?_ rfl;rfl
abbrev Ad(ws:List Wm):Int:=(ws.map Wm.wt).sum
def Mb{B c:Int}{ws:List Wm}(ok:Av B c ws):WF Bp [.im (Aj ws)] [] λd x=>d=.im (.int (Ad ws)):=by
 have hl8:=ok.2.1;unfold Bp;refine Ag rfl ?_;refine AU (Cz (B4 (BZ (A1 rfl ⟨_,rfl,?_⟩))));rw[Bj];refine⟨Ab (by simp;omega),?_⟩;refine Ba wmD (λw=>some (.im (.int w.wt))) (λ_ ls=>∃x,ls=[some x]) _ (AJ _) ?_ ?_
 .rintro p hp ls hls;refine⟨[some (wmD p)],by rcases hls with rfl|⟨_,x,rfl⟩<;>rfl,⟨_,rfl⟩,CF ⟨rfl,?_⟩⟩;rw[if_pos rfl];refine⟨_,rfl,AF (A3 (A1 rfl (A5 ⟨by simp[wmI],(Rh p).mono ?_⟩)))⟩;rintro d y rfl;exact⟨_,rfl,rfl,rfl⟩
 have e:(ws.filterMap λw=>some (D.im (.int w.wt)))=intD (ws.map Wm.wt):=by simp[intD]
 rw[e];exact⟨_,by unfold FJ;rw[F6];rfl,rfl⟩
def Ac(ws:List Wm)(k:Nat):Int:=(ws[k]?.map Wm.due).getD 0
def Bv(ws:List Wm):List (Int×Int):=(List.range ws.length).map λk:Nat=>(Ac ws k,(k:Int))
def Aq(ws:List Wm):List Int:=(Aw (Bv ws)).map (·.2)
def Mi{ws:List Wm}{k:Nat}(hk:k<ws.length):(ws[k]).due=Ac ws k:=by simp[Ac,hk]
def HF{B c:Int}{ws:List Wm}(ok:Av B c ws)(hB:B<=2000){k:Nat}(hk:k<ws.length):pok (Ac ws k,(k:Int)):=by
 have:=(ok.2.2.2 _ (List.getElem_mem hk)).2.2.1;rw[Mi hk]at this;have:=ok.2.1;unfold pok;dsimp only;omega
def QP{p q:Int×Int}(hp:pok p)(hq:pok q)(h:AV p=AV q):p=q:=by
 unfold pok at hp hq;unfold AV at h;have:p.1=q.1:=by omega
 have:p.2=q.2:=by omega
 exact Prod.ext (by assumption) (by assumption)
def Yu{B c:Int}{ws:List Wm}(ok:Av B c ws)(hB:B<=2000){ms:List Int}(pm:ms.Perm ((List.range ws.length).map λk:Nat=>(k:Int)))(pw:ms.Pairwise λa b=>AV (Ac ws a.toNat,a)<=AV (Ac ws b.toNat,b)):ms=Aq ws:=by
 have p1:(ms.map λn:Int=>(Ac ws n.toNat,n)).Perm (Bv ws):=by
  have:=pm.map λn:Int=>(Ac ws n.toNat,n)
  rw[map_map]at this;exact this
 have p2:(Aw (Bv ws)).Perm (Bv ws):=mergeSort_perm ..;have w2:(Aw (Bv ws)).Pairwise λa b=>AV a<=AV b:=by
  have:=pairwise_mergeSort (le:=λa b:Int×Int=>decide (AV a<=AV b)) (by intro a b c h1 h2;simp at *;omega) (by intro a b;simp;omega) (Bv ws);exact this.imp (by simp)
 have w1:(ms.map λn:Int=>(Ac ws n.toNat,n)).Pairwise λa b=>AV a<=AV b:=pairwise_map.mpr pw;have okd:∀a∈Bv ws,pok a:=λa ha=>by
  obtain⟨k,hk,rfl⟩:=mem_map.mp ha;exact HF ok hB (by simpa using hk)
 have e:(ms.map λn:Int=>(Ac ws n.toNat,n))=Aw (Bv ws):=(p1.trans p2.symm).eq_of_pairwise (le:=λa b=>AV a<=AV b) (λa b ha hb h1 h2=>QP (okd a (p1.mem_iff.mp ha)) (okd b (p2.mem_iff.mp hb)) (Int.le_antisymm h1 h2)) w1 w2;unfold Aq;rw[<- e,map_map];have:((λx:Int×Int=>x.2) ∘ λn:Int=>(Ac ws n.toNat,n))=id:=rfl;rw[this,map_id]
def Ki{B c:Int}{ws:List Wm}(ok:Av B c ws)(hB:B<=2000):WF ED [.im (Aj ws)] [] λd x=>d=.mu 0/\x=[.lst (intD (Aq ws))]:=by
 have hl8:=ok.2.1;unfold ED;refine Ag rfl ?_;refine AU (Bs (Pk (A3 (BK (A3 (A1 rfl (A5 (Bq rfl rfl (A5 ⟨ws.length,by simp,by omega,λn=>(Ac ws n.toNat,n),λk hk=>HF ok hB hk,λa ha b hb e=>?_,λk hk=>?_,λms pm pw=>?_⟩)))))))))
 .have:=QP (p:=(Ac ws ((a:Int)).toNat,(a:Int))) (q:=(Ac ws ((b:Int)).toNat,(b:Int))) (HF ok hB ha) (HF ok hB hb) e;have:=congrArg Prod.snd this;dsimp only at this;omega
 .have w:WE (CO (A2 (mOp gIx (mOp gIx (mOp gIx (A0 1) (A0 0)) (mC (.int 2))) (mC (.int 1))) (A2 (A0 0) A4))) [some (.im (.int (k:Int))),some (.im (Aj ws))] [] λd x=>d=Ah (Ac ws k,(k:Int))/\x=[]:=by
   refine Br (A3 (A7 (A7 (A7 (A1 rfl (A1 rfl (AR (by rw[CG,Bj]) (Fo hk) (AG (AR (ds:=[.im (.int (ws[k]).len),.im (.int (ws[k]).com),.im (.tup [.str "miss",.int (ws[k]).due,.int (ws[k]).wt])]) rfl (GK _ _ _ _) (AG (AR (ds:=[.im (.str "miss"),.im (.int (ws[k]).due),.im (.int (ws[k]).wt)]) rfl (FS _ _ _) (A3 (A1 rfl (A5 ⟨JJ,?_,rfl⟩))))))))))))));rw[Mi hk];rfl
  obtain⟨d,x,e,rfl,rfl⟩:=w;exact e
 .rw[Yu ok hB pm pw];exact⟨rfl,rfl⟩
end T42
namespace Lt
def IsMin(E:List Int)(o:Option Int):Prop:=(o=none/\E=[])∨∃m,o=some m/\m∈E/\∀e∈E,m<=e
def KU:IsMin [] none:=.inl ⟨rfl,rfl⟩
def d8(o:Option Int)(e:Int):Option Int:=match o with|none=>some e|some x=>if e<x then some e else some x
def comb(kept more:Option Int):Option Int:=match more with|none=>kept|some y=>match kept with|some x=>if x<=y then some x else some y|none=>some y
def IsMin.comb{A B:List Int}{o o':Option Int}(h:IsMin A o)(h':IsMin B o'):IsMin (A++B) (comb o o'):=by
 rcases h' with⟨rfl,rfl⟩|⟨y,rfl,hy,ly⟩
 .rw[append_nil];exact h
 .rcases h with⟨rfl,rfl⟩|⟨x,rfl,hx,lx⟩
  .exact .inr ⟨y,rfl,by simpa using hy,by simpa using ly⟩
  .unfold Lt.comb;dsimp only;split
   .exact .inr ⟨x,rfl,by simp[hx],λe he=>by rcases mem_append.mp he with q|q;exact lx e q;have:=ly e q;omega⟩
   .exact .inr ⟨y,rfl,by simp[hy],λe he=>by rcases mem_append.mp he with q|q;have:=lx e q;omega;exact ly e q⟩
def behind(l d:Int)(o:Option Int):Option Int:=match o with|none=>none|some x=>if x+l<=d then some (x+l)else none
def IsMin.behind{A:List Int}{o:Option Int}(l d:Int)(h:IsMin A o):IsMin ((A.map (·+l)).filter λe=>decide (e<=d)) (behind l d o):=by
 rcases h with⟨rfl,rfl⟩|⟨x,rfl,hx,lx⟩
 .exact KU
 .unfold Lt.behind;dsimp only;split
  .next q=>
   refine .inr ⟨x+l,rfl,mem_filter.mpr ⟨mem_map.mpr ⟨x,hx,rfl⟩,by simpa using q⟩,λe he=>?_⟩;obtain⟨z,hz,rfl⟩:=mem_map.mp (mem_filter.mp he).1;have:=lx z hz;omega
  .next q=>
   refine .inl ⟨rfl,List.filter_eq_nil_iff.mpr λe he=>?_⟩;obtain⟨z,hz,rfl⟩:=mem_map.mp he;have:=lx z hz;simp;omega
abbrev En:=Nat×Nat×Int
abbrev Wx:=Int×Int×Nat
def more(i:Nat)(w:Wx)(E:List En):List En:=(E.filter λe=>decide (e.2.2+w.1<=w.2.1)).map λe=>(i+1,e.2.1+w.2.2,e.2.2+w.1)
def AN(c:Int):List Wx->Nat->List En
 |_,0=>[(0,0,c)]
 |L,i+1=>AN c L i++(match L[i]? with|some w=>more i w (AN c L i)|none=>[])
def sel(w:Nat)(E:List En):List Int:=(E.filter λe=>decide (e.2.1=w)).map λe=>e.2.2
def NR(w:Nat)(E F:List En):sel w (E++F)=sel w E++sel w F:=by simp[sel]
def SD(i:Nat)(x:Wx)(w:Nat)(E:List En):sel w (more i x E)=if w<x.2.2 then []else((sel (w-x.2.2) E).map (·+x.1)).filter λe=>decide (e<=x.2.1):=by
 induction E with
 |nil=>simp[more,sel]
 |cons e r ih=>
  have em:more i x (e::r)=(if e.2.2+x.1<=x.2.1 then [(i+1,e.2.1+x.2.2,e.2.2+x.1)]else [])++more i x r:=by
   unfold more;rw[filter_cons];by_cases q:e.2.2+x.1<=x.2.1<;>simp[q]
  rw[em,NR,ih];by_cases hw:w<x.2.2
  .rw[if_pos hw,if_pos hw,append_nil];by_cases q:e.2.2+x.1<=x.2.1
   .have:¬ e.2.1+x.2.2=w:=by omega
    simp[q,sel,this]
   .simp[q,sel]
  .rw[if_neg hw,if_neg hw];have ec:sel (w-x.2.2) (e::r)=(if e.2.1=w-x.2.2 then [e.2.2]else [])++sel (w-x.2.2) r:=by
    unfold sel;rw[filter_cons];by_cases q:e.2.1=w-x.2.2<;>simp[q]
   rw[ec,map_append,List.filter_append]
   congr 1
   by_cases q1:e.2.2+x.1<=x.2.1
   .by_cases q2:e.2.1=w-x.2.2
    .have e3:w-x.2.2+x.2.2=w:=Nat.sub_add_cancel (Nat.le_of_not_lt hw);simp[q1,q2,sel,e3]
    .have:¬ e.2.1+x.2.2=w:=by omega
     simp[q1,q2,sel,this]
   .by_cases q2:e.2.1=w-x.2.2<;>simp[q1,q2,sel]
def An(x:Wx)(f:Nat->Option Int)(w:Nat):Option Int:=comb (f w) (if w<x.2.2 then none else behind x.1 x.2.1 (f (w-x.2.2)))
def next_min{c:Int}{L:List Wx}{i:Nat}{x:Wx}(hx:L[i]?=some x){f:Nat->Option Int}{w:Nat}(h:IsMin (sel w (AN c L i)) (f w))(h':¬ w<x.2.2->IsMin (sel (w-x.2.2) (AN c L i)) (f (w-x.2.2))):IsMin (sel w (AN c L (i+1))) (An x f w):=by
 have e:AN c L (i+1)=AN c L i++more i x (AN c L i):=by rw[AN,hx]
 rw[e,NR,SD];unfold An;refine h.comb ?_;by_cases q:w<x.2.2
 .rw[if_pos q,if_pos q];exact KU
 .rw[if_neg q,if_neg q];exact(h' q).behind _ _
end Lt
namespace T42
open PySem L2 Bd
abbrev enD(q:D×Nat):D:=AX [.im (.int (q.2:Int)),q.1]
open Lt (IsMin comb behind An sel AN Wx)
def NI{is js:List I}{hd:Hd}{QE:D->Hd->Prop}(h0:is≠[])(h1:is.length+js.length<=100)(q:QE (.im (.tup (is++js))) hd):WP (Ap (.im (.tup is)) (.im (.tup js)) hd) QE:=by
 have cat:UZ (is.map D.im) (js.map D.im):=⟨by simpa using h0,Ab (by simp;omega)⟩
 refine WP.eq (z:=.im (.tup (is++js))) (h:=hd) ?_ q;show(match Jz (.im (.tup is)) (.im (.tup js)) hd with|some z=>some z|none=>GA (.im (.tup is)) (.im (.tup js)) hd)=_;rw[show Jz (.im (.tup is)) (.im (.tup js)) hd=none from rfl];unfold GA;rw[show AZ (.im (.tup is))=some (is.map D.im)from rfl,show AZ (.im (.tup js))=some (js.map D.im)from rfl,bind_some,bind_some,if_pos cat,<- map_append,Be]
def Rj{w:Nat}{F:List D->Hd->Option (D×Hd)}{m:MA}{ls:Ls}{hd pre rest:Hd}{ds:List D}{QE:D->Hd->Prop}(e:m ls hd=some (ds,pre++rest))(hw:pre.length=w)(hc:B2 w ds=true)(hp:pre.all (clO w)=true)
 (hF:WF F ds pre λd x=>∃k es pre' g,d=.mu k/\w<=k/\x=pre'++g/\pre'.length=w/\pre'.all (clO w)=true/\x[k]?=some (.lst es)/\B2 w es=true/\QE (.mu (w+rest.length)) (pre'++rest++[.lst es])):WE (A8 w F m) ls hd QE:=by
 subst hw;obtain⟨d,x,e2,k,es,pre',g,rfl,hk,rfl,lp,cp,e3,c3,q⟩:=hF;refine⟨_,_,?_,q⟩;have t1:(pre++rest).take pre.length=pre:=by simp
 have t2:(pre'++g).take pre.length=pre':=by rw[<- lp];simp
 have t3:¬ k<pre.length:=by omega
 simp only[A8,e,bind_some,t1,hc,hp,e2,fin,t2,cp,if_neg t3,e3,c3,if_true];simp
def KB{w:Nat}{F:List D->Hd->Option (D×Hd)}{m:MA}{ls:Ls}{hd:Hd}{QE:D->Hd->Prop}(h:WA m ls hd λds x=>∃pre rest,x=pre++rest/\pre.length=w/\B2 w ds=true/\pre.all (clO w)=true/\WF F ds pre λd x=>∃k es pre' g,d=.mu k/\w<=k/\x=pre'++g/\pre'.length=w/\pre'.all (clO w)=true/\x[k]?=some (.lst es)/\B2 w es=true/\QE (.mu (w+rest.length)) (pre'++rest++[.lst es])):WE (A8 w F m) ls hd QE:=by
 obtain⟨ds,x,e,pre,rest,rfl,hw,hc,hp,hF⟩:=h;exact Rj e hw hc hp hF
def EH:Option Int->I|none=>.non|some x=>.int x
abbrev Ay(o:Option Int):D:=.im (EH o)
def Gb{neg:Bool}{ma:ME}{ls:Ls}{hd:Hd}{QE:D->Hd->Prop}(h:WE ma ls hd λd x=>∃o:Option Int,d=Ay o/\QE (.im (.bl (if o.isNone then !neg else neg))) x):WE (CQ neg ma) ls hd QE:=by
 obtain⟨d,x,e,o,rfl,q⟩:=h;refine⟨_,x,?_,q⟩;simp only[CQ,e,bind_some];cases o<;>rfl
def rowI(N:Nat)(f:Nat->Option Int):I:=.tup ((List.range N).map λw=>EH (f w))
def Iw{N:Nat}{f:Nat->Option Int}{w:Nat}(hw:w<N):atI (((List.range N).map λw=>EH (f w)).map D.im) (w:Int)=some (Ay (f w)):=FR rfl (by simp[hw])
def wx(p:Wm):Wx:=(p.len,p.due,p.wt.toNat)
def UL{B c:Int}{p:Wm}(ok:okM B c p){N:Nat}(f:Nat->Option Int){w:Nat}(hw:w<N):WF Cj [.im (rowI N f),wmD p,.im (.int (w:Int))] [] λd x=>d=Ay (if w<(wx p).2.2 then none else behind (wx p).1 (wx p).2.1 (f (w-(wx p).2.2))):=by
 have h0:=ok.2.2.2;unfold Cj;refine Ag rfl ?_;refine AC (Pe (A1 rfl ⟨[some (.im (rowI N f)),some (wmD p),some (.im (.int (w:Int))),some (.im (.int p.len)),some (.im (.int p.com)),some (.im (.str "miss")),some (.im (.int p.due)),some (.im (.int p.wt)),none],rfl,A6 ?_⟩));refine AC (Am (Ex (AQ (A7 (A1 rfl (A1 rfl (Fm ⟨_,rfl,?_⟩)))))));by_cases q:w<(wx p).2.2
 .have q':(w:Int)<p.wt:=by unfold wx at q;dsimp only at q;omega
  rw[if_pos (by simpa using q'),if_pos q];exact⟨λ_=>AU (AG rfl),λh=>by cases h⟩
 .have q':¬ (w:Int)<p.wt:=by unfold wx at q;dsimp only at q;omega
  rw[if_neg (by simpa using q'),if_neg q];have ek:(w:Int)-p.wt=((w-(wx p).2.2:Nat):Int):=by unfold wx at q ⊢;dsimp only at q ⊢;omega
  have hk:w-(wx p).2.2<N:=by omega
  refine AQ (Gb (A7 (A1 rfl (A7 (A1 rfl (A1 rfl (DJ ?_)))))));rw[ek];refine AR rfl (Iw hk) ⟨_,rfl,_,rfl,λh=>?_,λh=>AY (A6 ?_)⟩
  .have e:f (w-(wx p).2.2)=none:=by
    cases e:f (w-(wx p).2.2)with
    |none=>rfl
    |some x=>rw[e]at h;simp at h
   refine AU (AG ?_);rw[e];rfl
  .obtain⟨x,e⟩:∃x,f (w-(wx p).2.2)=some x:=by
    cases e:f (w-(wx p).2.2)with
    |none=>rw[e]at h;simp at h
    |some x=>exact⟨x,rfl⟩
   refine AC (AL (A7 (A7 (A1 rfl (A7 (A1 rfl (A1 rfl (DJ ?_))))))));rw[ek];refine AR rfl (Iw hk) ?_;rw[e];refine A1 rfl (BY (A6 (AU (XA (AQ (A7 (A1 rfl (A1 rfl (HL ⟨_,rfl,λh=>?_,λh=>?_⟩)))))))))
   .have h:x+p.len<=p.due:=by simpa using h
    refine A1 rfl ?_;unfold behind wx;dsimp only;rw[if_pos h];rfl
   .have h:¬ x+p.len<=p.due:=by simpa using h
    refine AG ?_;unfold behind wx;dsimp only;rw[if_neg h];rfl
def nm(one other:Option Int):Bool:=match other with|none=>true|some y=>match one with|some x=>decide (x<=y)|none=>false
def Wy(a b:Option Int):comb a b=if nm a b=true then a else b:=by
 cases b with
 |none=>simp[comb,nm]
 |some y=>
  cases a with
  |none=>simp[comb,nm]
  |some x=>simp[comb,nm]
def F2(a b:Option Int):WF Ck [Ay a,Ay b] [] λd x=>d=.im (.bl (nm a b)):=by
 unfold Ck;refine Ag rfl ?_;refine AU (X8 (AQ (Gb (A1 rfl ⟨b,rfl,_,rfl,?_⟩))));cases b with
 |none=>rfl
 |some y=>
  rw[if_neg (by simp)];refine DG (AQ (Gb (A1 rfl ⟨a,rfl,_,rfl,?_⟩)));cases a with
  |none=>rfl
  |some x=>
   rw[if_pos (by simp)];exact A7 (A1 rfl (A1 rfl (HL rfl)))
inductive I_next_row_w(p:Wm)(N:Nat)(f:Nat->Option Int)(r:List D)(ls:Ls)(hd:Hd):Prop
 |mk (j:Nat) (z3 z4 z5:Option D) (h0:j<=N) (h1:r=(((List.range' j (N-j)).map λw=>Ay (f w)).zipIdx j).map enD) (h2:ls=[some (.im (rowI N f)),some (wmD p),some (.mu 0),z3,z4,z5]) (h3:hd=[.lst ((List.range j).map λw=>Ay (An (wx p) f w))]):I_next_row_w p N f r ls hd
def Oo{B c:Int}{p:Wm}(ok:okM B c p){N:Nat}(hN:N<=100)(f:Nat->Option Int):WF EW [.im (rowI N f),wmD p] [] λd x=>d=.im (rowI N (An (wx p) f)):=by
 unfold EW;refine Ag rfl ?_;refine AC (AL (Bs (By (A5 ⟨E9,A6 ?_⟩))));refine AC (BX (FV (BZ (A1 rfl ⟨((List.range N).map λw=>EH (f w)).map D.im,rfl,?_⟩))));change WP (Ax _ _ _ (((((List.range N).map λw=>EH (f w)).map D.im).zipIdx 0).map enD) [some (.im (rowI N f)),some (wmD p),some (.mu 0),none,none,none] [.lst []]) _;have e0:((List.range N).map λw=>EH (f w)).map D.im=(List.range' 0 (N-0)).map λw=>Ay (f w):=by rw[map_map,List.range_eq_range',Nat.sub_zero];rfl
 rw[e0];refine B9 (I_next_row_w p N f) ⟨0,none,none,none,by omega,rfl,rfl,rfl⟩ ?_ ?_
 .rintro d r ls hd ⟨j,z3,z4,z5,hj,er,rfl,rfl⟩;obtain⟨m,hm⟩:∃m,N-j=m+1:=by
   cases q:N-j with
   |zero=>rw[q]at er;cases er
   |succ m=>exact⟨m,rfl⟩
  rw[hm,List.range'_succ,map_cons,zipIdx_cons,map_cons]at er;obtain⟨rfl,rfl⟩:=List.cons.inj er;refine⟨[some (.im (rowI N f)),some (wmD p),some (.mu 0),some (.im (.int (j:Int))),some (Ay (f j)),z5],rfl,?_⟩;refine AC (AL (AF (A3 (A1 rfl (A3 (A1 rfl (A3 (A1 rfl (A5 ⟨by simp[wmI,rowI],(UL ok f (by omega)).mono ?_⟩)))))))));rintro d x rfl;refine⟨_,rfl,A6 ?_⟩;refine Bx (HM (A1 rfl ⟨⟨_,rfl⟩,A3 (U5 (B3 (AF (A3 (A1 rfl (A3 (A1 rfl (A5 ⟨by simp,(F2 _ _).mono ?_⟩))))))))⟩));rintro d x rfl;refine⟨_,rfl,_,rfl,?_⟩;have fin:∀o:Option Int,o=An (wx p) f j->WA A4 [some (.im (rowI N f)),some (wmD p),some (.mu 0),some (.im (.int (j:Int))),some (Ay (f j)),some (Ay (if j<(wx p).2.2 then none else behind (wx p).1 (wx p).2.1 (f (j-(wx p).2.2))))] [.lst ((List.range j).map λw=>Ay (An (wx p) f w))] λds y=>WP (BB (.mu 0) (Ay o::ds) y) λ_ x=>GOk x []/\I_next_row_w p N f ((((List.range' (j+1) m).map λw=>Ay (f w)).zipIdx (j+1)).map enD) [some (D.im (rowI N f)),some (wmD p),some (.mu 0),some (.im (.int (j:Int))),some (Ay (f j)),some (Ay (if j<(wx p).2.2 then none else behind (wx p).1 (wx p).2.1 (f (j-(wx p).2.2))))] x:=by
   rintro o rfl;refine A5 (Ed rfl (Ch (by simp;omega)) ⟨AJ _,j+1,_,_,_,by omega,by rw[show N-(j+1)=m by omega],rfl,?_⟩);rw[range_succ];simp
  have ec:An (wx p) f j=if nm (f j) (if j<(wx p).2.2 then none else behind (wx p).1 (wx p).2.1 (f (j-(wx p).2.2)))=true then f j else(if j<(wx p).2.2 then none else behind (wx p).1 (wx p).2.1 (f (j-(wx p).2.2))):=by
   unfold An;rw[Wy]
  by_cases q:nm (f j) (if j<(wx p).2.2 then none else behind (wx p).1 (wx p).2.1 (f (j-(wx p).2.2)))=true
  .rw[if_pos q]at ec ⊢;exact A1 rfl (fin _ ec.symm)
  .rw[if_neg q]at ec ⊢;exact A1 rfl (fin _ ec.symm)
 .rintro ls hd ⟨j,z3,z4,z5,hj,er,rfl,rfl⟩;have:j=N:=by
   cases q:N-j with
   |zero=>omega
   |succ m=>rw[q]at er;cases er
  subst this;refine A6 (AU (BK (A3 (A1 rfl (A5 (Bq rfl rfl ?_))))));have e2:((List.range j).map λw=>Ay (An (wx p) f w))=((List.range j).map λw=>EH (An (wx p) f w)).map D.im:=by rw[map_map];rfl
  rw[e2,Be];rfl
open Lt (IsMin comb behind An sel AN Wx)
def Cv(n N:Nat)(f:Nat->Nat->Option Int):I:=.tup ((List.range (n+1)).map λk=>rowI N (f k))
def wxs(ws:List Wm):List Wx:=(Aq ws).map λi=>(ws[i.toNat]?.map wx).getD (0,0,0)
def Cc(ws:List Wm):(Aq ws).Perm ((List.range ws.length).map λk:Nat=>(k:Int)):=by
 have p2:(Aw (Bv ws)).Perm (Bv ws):=mergeSort_perm ..;have:=p2.map (·.2);unfold Aq;refine this.trans ?_;unfold Bv;rw[map_map];exact .refl _
def Cl{ws:List Wm}{i:Int}(h:i∈Aq ws):∃k:Nat,k<ws.length/\i=k:=by
 obtain⟨k,hk,rfl⟩:=mem_map.mp ((Cc ws).mem_iff.mp h);exact⟨k,by simpa using hk,rfl⟩
def HV(ws:List Wm):(Aq ws).length=ws.length:=by simpa using (Cc ws).length_eq
def fT(c:Int)(L:List Wx):Nat->Nat->Option Int
 |0,w=>if w=0 then some c else none
 |k+1,w=>match L[k]? with|some x=>An x (fT c L k) w|none=>none
def Qt(c:Int)(L:List Wx):∀k,k<=L.length->∀w,IsMin (sel w (AN c L k)) (fT c L k w)
 |0,_,w=>by
  unfold fT AN sel;by_cases h:w=0
  .subst h;exact .inr ⟨c,by simp,by simp,by simp⟩
  .have:¬ (0=w):=λz=>h z.symm;simp only[if_neg h];exact .inl ⟨rfl,by simp[this]⟩
 |k+1,hk,w=>by
  have hx:L[k]?=some L[k]:=by simp[Nat.lt_of_succ_le hk]
  have ih:=Qt c L k (by omega);have e:fT c L (k+1) w=An L[k] (fT c L k) w:=by rw[fT,hx]
  rw[e];exact Lt.next_min hx (ih w) λ_=>ih _
def bC(c:Int)(m:Nat)(L:List Wx):[I.int c]++(List.replicate m [I.non]).flatten=(List.range (m+1)).map λw=>EH (fT c L 0 w):=by
 have e1:(List.replicate m [I.non]).flatten=List.replicate m I.non:=by
  induction m with
  |zero=>rfl
  |succ m ih=>rw[replicate_succ,flatten_cons,ih,replicate_succ];rfl
 rw[e1];refine ext_getElem (by simp) λi h1 h2=>?_;simp only[List.getElem_map,List.getElem_range];cases i with
 |zero=>rfl
 |succ i=>
  simp[fT,EH]
def K0{B c:Int}{ws:List Wm}(ok:Av B c ws):0<=Ad ws/\Ad ws<=72:=by
 have:∀vs:List Wm,(∀w∈vs,okM B c w)->0<=Ad vs/\Ad vs<=9*vs.length:=by
  intro vs
  induction vs with
  |nil=>intro _;simp[Ad]
  |cons v r ih=>
   intro h;have:=ih λw hw=>h w (by simp[hw]);have:=(h v (by simp)).2.2.2;simp only[Ad,map_cons,sum_cons,length_cons]at *;omega
 have:=this ws ok.2.2.2;have:=ok.2.1;omega
inductive I_table_of_w(c:Int)(ws:List Wm)(r:List D)(ls:Ls)(hd:Hd):Prop
 |mk (dn rest:List Int) (z3:Option D) (h0:Aq ws=dn++rest) (h1:r=intD rest) (h2:ls=[some (.im (Aj ws)),some (.im (.int c)),some (.mu 0),z3]) (h3:hd=[.lst ((List.range (dn.length+1)).map λk=>D.im (rowI ((Ad ws).toNat+1) (fT c (wxs ws) k))),.lst (intD (Aq ws))]):I_table_of_w c ws r ls hd
def OF{B c:Int}{ws:List Wm}(ok:Av B c ws)(hB:B<=2000):WF EU [.im (Aj ws)] [] λd x=>d=.im (Cv ws.length ((Ad ws).toNat+1) (fT c (wxs ws))):=by
 have hl8:=ok.2.1;have hf:=K0 ok;unfold EU;refine Ag rfl ?_;refine AC (AL (AF (A3 (A1 rfl (A5 ⟨by simp,(MM ok).mono ?_⟩)))));rintro d x rfl;refine⟨_,rfl,A6 ?_⟩;refine AC (AL (Bs (By (A3 (A7 (Br (A3 (A1 rfl (A5 ⟨Et,?_⟩)))))))));refine Uh (Br (A3 (AG (A5 ⟨Et,AF (A3 (A1 rfl (A5 ⟨by simp,(Mb ok).mono ?_⟩)))⟩))));rintro d x rfl;refine⟨_,rfl,[.non],Ad ws,rfl,rfl,by simp,by omega,by simp;omega,?_⟩;rw[Jn];refine NI (by simp) (by simp;omega) ?_;rw[bC c _ (wxs ws)];refine A5 ⟨Et,A6 ?_⟩;change WS _ [some (.im (Aj ws)),some (.im (.int c)),some (.mu 0),none] [.lst [.im (rowI ((Ad ws).toNat+1) (fT c (wxs ws) 0))]] _;refine AC (BX (LS (KB (A3 (A1 rfl (A5 ⟨[],[.lst [.im (rowI ((Ad ws).toNat+1) (fT c (wxs ws) 0))]],rfl,rfl,by simp,rfl,(Ki ok hB).mono ?_⟩))))));rintro d x ⟨rfl,rfl⟩;refine⟨0,_,[],_,rfl,le_refl _,rfl,rfl,rfl,rfl,FA _ _,1,intD (Aq ws),rfl,rfl,?_⟩;refine B9 (I_table_of_w c ws) ⟨[],Aq ws,none,rfl,rfl,rfl,rfl⟩ ?_ ?_
 .rintro d r ls hd ⟨dn,rest,z3,e1,er,rfl,rfl⟩;cases rest with
  |nil=>cases er
  |cons i rest=>
   obtain⟨rfl,rfl⟩:=List.cons.inj er;obtain⟨k,hk,rfl⟩:=Cl (ws:=ws) (i:=i) (by rw[e1];simp);have hle:dn.length<ws.length:=by have:=HV ws;rw[e1]at this;simp at this;omega
   have ex:(wxs ws)[dn.length]?=some (wx ws[k]):=by
    unfold wxs;rw[e1,List.getElem?_map,List.getElem?_append_right (le_refl _)];simp[hk]
   refine⟨[some (.im (Aj ws)),some (.im (.int c)),some (.mu 0),some (.im (.int (k:Int)))],rfl,?_⟩;refine Bx (HM (A1 rfl ⟨⟨_,rfl⟩,A3 (AF (A3 (A7 (A1 rfl (LU (AG ⟨_,rfl,AR rfl (e:=.im (rowI ((Ad ws).toNat+1) (fT c (wxs ws) dn.length))) ?_ (A3 (A7 (A1 rfl (A1 rfl (AR (by rw[CG,Bj]) (Fo hk) (A5 ⟨by simp[wmI,rowI],(Oo (ok.2.2.2 _ (List.getElem_mem hk)) (by omega) _).mono ?_⟩))))))⟩))))))⟩))
   .rw[range_succ,map_append];exact Ms _ _
   rintro d x rfl;refine⟨_,rfl,A5 (Ed rfl (Ch (by simp;omega)) ?_)⟩;refine⟨by intro q hq;rw[mem_singleton]at hq;subst hq;rfl,dn++[(k:Int)],rest,_,by rw[e1];simp,rfl,rfl,?_⟩;have e2:An (wx ws[k]) (fT c (wxs ws) dn.length)=fT c (wxs ws) (dn.length+1):=by
    funext w
    rw[fT,ex]
   rw[e2];simp only[length_append,length_cons,length_nil,Nat.zero_add];rw[range_succ (n:=dn.length+1),map_append];rfl
 .rintro ls hd ⟨dn,rest,z3,e1,er,rfl,rfl⟩;have:rest=[]:=by cases rest with
   |nil=>rfl
   |cons t r=>cases er
  subst this;rw[append_nil]at e1;have hle:dn.length=ws.length:=by rw[<- e1];exact HV ws
  refine A6 (AU (BK (A3 (A1 rfl (A5 (Bq rfl rfl ?_))))));have e2:((List.range (dn.length+1)).map λk=>D.im (rowI ((Ad ws).toNat+1) (fT c (wxs ws) k)))=((List.range (dn.length+1)).map λk=>rowI ((Ad ws).toNat+1) (fT c (wxs ws) k)).map D.im:=by rw[map_map];rfl
  rw[e2,Be,hle];rfl
open Lt (IsMin comb behind An sel AN Wx)
def TK(x:Int):WF BH [.im (.int x)] [] λd _=>d=.im (.bl true):=by
 unfold BH;refine Ag rfl ?_;refine AU (DG (AQ (DK (A1 rfl ⟨true,rfl,_,rfl,?_⟩))));rw[if_pos rfl];exact NJ (AQ (DK (A1 rfl ⟨false,rfl,_,rfl,rfl⟩)))
def NL{n:Int}{is:List I}(h:(is.length:Int)=n):WF B7 [.im (.int n),.im (.tup is)] [] λd _=>d=.im (.bl true):=by
 unfold B7;refine Ag rfl ?_;refine AU (DG (AQ (DK (A1 rfl ⟨true,rfl,_,rfl,?_⟩))));rw[if_pos rfl];refine A7 (BK (A3 (A1 rfl (A5 (Bq rfl rfl (A1 rfl (CY ?_)))))));simp[h]
inductive I_shape_w(ws:List Wm)(n N:Nat)(f:Nat->Nat->Option Int)(r:List D)(ls:Ls)(hd:Hd):Prop
 |mk (dn rest:List Nat) (z4 z5 z6 z7:Option D) (h0:List.range (n+1)=dn++rest) (h1:r=((rest.map λk=>D.im (rowI N (f k))).zipIdx dn.length).map enD) (h2:ls=[some (.im (Aj ws)),some (.im (Cv n N f)),some (.im (.tup [])),some (.im (.int (N:Int))),z4,z5,z6,z7]) (h3:hd=[]):I_shape_w ws n N f r ls hd
def Us{B c:Int}{ws:List Wm}(ok:Av B c ws){n N:Nat}(hn:n=ws.length)(hN:(N:Int)=Ad ws+1)(f:Nat->Nat->Option Int):WF CW [.im (Aj ws),.im (Cv n N f),.im (.tup [])] [] λd x=>d=.im .non:=by
 unfold CW;refine Ag rfl ?_;refine AC (Am (BW (B3 (AF (A3 (A7 (BK (A3 (A1 rfl (A5 (Bq rfl rfl (AG (BY (A3 (A1 rfl (A5 ⟨by simp,(NL (by simp[hn])).mono ?_⟩))))))))))))))) );rintro d x rfl;refine⟨_,rfl,_,rfl,(λh=>by cases h),λ_=>AY (A6 ?_)⟩;refine AC (AL (A7 (AF (A3 (A1 rfl (A5 ⟨by simp,(Mb ok).mono ?_⟩))))));rintro d x rfl;refine⟨_,rfl,AG (BY (A6 ?_))⟩;rw[<- hN];refine BX (FV (BZ (A1 rfl ⟨(List.range (n+1)).map λk=>D.im (rowI N (f k)),by simp[Cv],?_⟩)));change WP (Ax _ _ _ ((((List.range (n+1)).map λk=>D.im (rowI N (f k))).zipIdx 0).map enD) [some (.im (Aj ws)),some (.im (Cv n N f)),some (.im (.tup [])),some (.im (.int (N:Int))),none,none,none,none] []) _;refine B9 (I_shape_w ws n N f) ⟨[],_,none,none,none,none,rfl,rfl,rfl,rfl⟩ ?_ ?_
 .rintro d r ls hd ⟨dn,rest,z4,z5,z6,z7,e1,er,rfl,rfl⟩;cases rest with
  |nil=>cases er
  |cons k rest=>
   rw[map_cons,zipIdx_cons,map_cons]at er;obtain⟨rfl,rfl⟩:=List.cons.inj er;refine⟨[some (.im (Aj ws)),some (.im (Cv n N f)),some (.im (.tup [])),some (.im (.int (N:Int))),some (.im (.int (dn.length:Int))),some (.im (rowI N (f k))),z6,z7],rfl,?_⟩;refine AC (Am (BW (B3 (AF (A3 (A1 rfl (A3 (A1 rfl (A5 ⟨by simp[rowI],(NL (by simp)).mono ?_⟩)))))))));rintro d x rfl;refine⟨_,rfl,_,rfl,(λh=>by cases h),λ_=>AY (A6 ?_)⟩;refine BX (FV (BZ (A1 rfl ⟨(List.range N).map λw=>Ay (f k w),by simp[rowI],?_⟩)));change WP (Ax _ _ _ ((((List.range N).map λw=>Ay (f k w)).zipIdx 0).map enD) _ []) _;refine B9 (λr ls hd=>∃(dn' rest':List Nat) (z6 z7:Option D),r=((rest'.map λw=>Ay (f k w)).zipIdx dn'.length).map enD/\ls=[some (.im (Aj ws)),some (.im (Cv n N f)),some (.im (.tup [])),some (.im (.int (N:Int))),some (.im (.int (dn.length:Int))),some (.im (rowI N (f k))),z6,z7]/\hd=[]) ⟨[],_,z6,z7,rfl,rfl,rfl⟩ ?_ ?_
   .rintro d r ls hd ⟨dn',rest',z6,z7,er,rfl,rfl⟩;cases rest' with
    |nil=>cases er
    |cons w rest'=>
     rw[map_cons,zipIdx_cons,map_cons]at er;obtain⟨rfl,rfl⟩:=List.cons.inj er;have fin:∀r',r'=((rest'.map λw=>Ay (f k w)).zipIdx (dn'.length+1)).map enD->∃(dn'' rest'':List Nat) (y6 y7:Option D),r'=((rest''.map λw=>Ay (f k w)).zipIdx dn''.length).map enD/\[some (D.im (Aj ws)),some (.im (Cv n N f)),some (.im (.tup [])),some (.im (.int (N:Int))),some (.im (.int (dn.length:Int))),some (.im (rowI N (f k))),some (.im (.int (dn'.length:Int))),some (Ay (f k w))]=[some (.im (Aj ws)),some (.im (Cv n N f)),some (.im (.tup [])),some (.im (.int (N:Int))),some (.im (.int (dn.length:Int))),some (.im (rowI N (f k))),y6,y7]/\([]:Hd)=[]:=λr' e=>⟨dn'++[w],rest',_,_,by rw[e];simp,rfl,rfl⟩
     refine⟨[some (.im (Aj ws)),some (.im (Cv n N f)),some (.im (.tup [])),some (.im (.int (N:Int))),some (.im (.int (dn.length:Int))),some (.im (rowI N (f k))),some (.im (.int (dn'.length:Int))),some (Ay (f k w))],rfl,?_⟩;refine Am (FU (AQ (Gb (A1 rfl ⟨f k w,rfl,_,rfl,?_⟩))));cases hx:f k w with
     |none=>
      rw[if_neg (by simp)];rw[hx]at fin;exact⟨(λh=>by cases h),λ_=>AY ⟨AJ _,fin _ rfl⟩⟩
     |some x=>
      rw[if_pos (by simp)];rw[hx]at fin;refine BW (B3 (AF (A3 (A1 rfl (A5 ⟨by simp[EH],(TK x).mono ?_⟩)))));rintro d x rfl;exact⟨_,rfl,_,rfl,(λh=>by cases h),λ_=>AY ⟨AJ _,fin _ rfl⟩⟩
   .rintro ls hd ⟨dn',rest',z6,z7,er,rfl,rfl⟩;exact⟨AJ _,dn++[k],rest,_,_,_,_,by rw[e1];simp,by simp,rfl,rfl⟩
 .rintro ls hd ⟨dn,rest,z4,z5,z6,z7,e1,er,rfl,rfl⟩;rfl
def bK(a b:Option Int):nm (comb a b) a=true:=by
 cases a with
 |none=>cases b<;>rfl
 |some x=>cases b with
  |none=>simp[comb,nm]
  |some y=>
   by_cases h:x<=y
   .simp[comb,h,nm]
   .simp[comb,h,nm];omega
def bJ(a b:Option Int):nm (comb a b) b=true:=by
 cases b with
 |none=>cases a<;>rfl
 |some y=>cases a with
  |none=>simp[comb,nm]
  |some x=>
   by_cases h:x<=y
   .simp[comb,h,nm]
   .simp[comb,h,nm]
inductive I_look_row_w(p:Wm)(N:Nat)(f:Nat->Option Int)(i:I)(r:List D)(ls:Ls)(hd:Hd):Prop
 |mk (j:Nat) (z4 z5:Option D) (h0:j<=N) (h1:r=(((List.range' j (N-j)).map λw=>Ay (An (wx p) f w)).zipIdx j).map enD) (h2:ls=[some (wmD p),some (.im (rowI N f)),some (.im (rowI N (An (wx p) f))),some (.im i),z4,z5]) (h3:hd=[]):I_look_row_w p N f i r ls hd
def Ox{B c:Int}{p:Wm}(ok:okM B c p){N:Nat}(hN:N<=100)(f:Nat->Option Int){i:I}:WF DC [wmD p,.im (rowI N f),.im (rowI N (An (wx p) f)),.im i] [] λd x=>d=.im .non:=by
 unfold DC;refine Ag rfl ?_;refine BX (FV (BZ (A1 rfl ⟨(List.range' 0 (N-0)).map λw=>Ay (An (wx p) f w),by rw[Nat.sub_zero,<- List.range_eq_range'];simp[rowI],?_⟩)));change WP (Ax _ _ _ ((((List.range' 0 (N-0)).map λw=>Ay (An (wx p) f w)).zipIdx 0).map enD) [some (wmD p),some (.im (rowI N f)),some (.im (rowI N (An (wx p) f))),some (.im i),none,none] []) _;refine B9 (I_look_row_w p N f i) ⟨0,none,none,by omega,rfl,rfl,rfl⟩ ?_ ?_
 .rintro d r ls hd ⟨j,z4,z5,hj,er,rfl,rfl⟩;obtain⟨m,hm⟩:∃m,N-j=m+1:=by
   cases q:N-j with
   |zero=>rw[q]at er;cases er
   |succ m=>exact⟨m,rfl⟩
  rw[hm,List.range'_succ,map_cons,zipIdx_cons,map_cons]at er;obtain⟨rfl,rfl⟩:=List.cons.inj er;refine⟨[some (wmD p),some (.im (rowI N f)),some (.im (rowI N (An (wx p) f))),some (.im i),some (.im (.int (j:Int))),some (Ay (An (wx p) f j))],rfl,?_⟩;refine AC (Am (BW (B3 (AF (A3 (A1 rfl (A3 (A7 (A1 rfl (A1 rfl (AR rfl (Iw (by omega)) (A5 ⟨by simp,(F2 _ _).mono ?_⟩))))))))))));rintro d x rfl;refine⟨_,rfl,_,rfl,(λh=>?_),λ_=>AY (A6 ?_)⟩
  .rw[An,bK]at h;cases h
  refine Am (BW (B3 (AF (A3 (A1 rfl (A3 (AF (A3 (A1 rfl (A3 (A1 rfl (A3 (A1 rfl (A5 ⟨by simp[wmI,rowI],(UL ok f (by omega)).mono ?_⟩))))))))))))));rintro d x rfl;refine⟨_,rfl,A5 ⟨by simp,(F2 _ _).mono ?_⟩⟩;rintro d x rfl;refine⟨_,rfl,_,rfl,(λh=>?_),λ_=>AY ⟨AJ _,j+1,_,_,by omega,by rw[show N-(j+1)=m by omega],rfl,rfl⟩⟩;rw[An,bJ]at h;cases h
 .rintro ls hd ⟨j,z4,z5,hj,er,rfl,rfl⟩;rfl
def NH{is js:List I}{hd:Hd}{QE:D->Hd->Prop}(h1:is.length+js.length<=100)(q:QE (.im (.tup (is++js))) hd):WP (LO (.im (.tup is)) (.im (.tup js)) hd) QE:=by
 by_cases h0:is=[]
 .subst h0;refine WP.eq (z:=.im (.tup js)) (h:=hd) ?_ q;show(match Ap (.im (.tup [])) (.im (.tup js)) hd with|some z=>some z|none=>Hf (.im (.tup [])) (.im (.tup js)) hd)=_;have e:Ap (.im (.tup [])) (.im (.tup js)) hd=none:=by
   show(match Jz (.im (.tup [])) (.im (.tup js)) hd with|some z=>some z|none=>GA (.im (.tup [])) (.im (.tup js)) hd)=_;rw[show Jz (.im (.tup [])) (.im (.tup js)) hd=none from rfl];unfold GA;rw[show AZ (.im (.tup []))=some []from rfl,show AZ (.im (.tup js))=some (js.map D.im)from rfl,bind_some,bind_some,if_neg (λz=>z.1 rfl)]
  rw[e];unfold Hf;rw[show AZ (.im (.tup []))=some []from rfl,show AZ (.im (.tup js))=some (js.map D.im)from rfl,bind_some,bind_some,if_pos rfl,Be]
 .obtain⟨d,x,e,q⟩:=NI (QE:=QE) h0 h1 q;refine⟨d,x,?_,q⟩;show(match Ap (.im (.tup is)) (.im (.tup js)) hd with|some z=>some z|none=>Hf (.im (.tup is)) (.im (.tup js)) hd)=_;rw[e]
def LX{n N:Nat}{f:Nat->Nat->Option Int}{k:Nat}(hk:k<n+1):atI (((List.range (n+1)).map λk=>rowI N (f k)).map D.im) (k:Int)=some (.im (rowI N (f k))):=FR rfl (by simp[hk])
inductive I_places_w(c:Int)(ws:List Wm)(N:Nat)(r:List D)(ls:Ls)(hd:Hd):Prop
 |mk (dn rest:List Int) (z3 z4:Option D) (h0:Aq ws=dn++rest) (h1:r=((intD rest).zipIdx dn.length).map (λq=>AX [.im (.int ((q.2:Int)+1)),q.1])) (h2:ls=[some (.im (Aj ws)),some (.im (Cv ws.length N (fT c (wxs ws)))),some (.im (.tup [])),z3,z4]) (h3:hd=[.lst (intD (Aq ws))]):I_places_w c ws N r ls hd
def T1{B c:Int}{ws:List Wm}(ok:Av B c ws)(hB:B<=2000){N:Nat}(hN:N<=100)(h0:0<N):WF CC [.im (Aj ws),.im (Cv ws.length N (fT c (wxs ws))),.im (.tup [])] [] λd x=>d=.im .non:=by
 have hl8:=ok.2.1;unfold CC;refine Ag rfl ?_;refine AC (Am (BW (B3 (AF (A3 (A7 (A7 (A1 rfl (AG (AR rfl (LX (k:=0) (by omega)) (AG (AR rfl (Iw (w:=0) h0) (A3 (AF (A3 (A1 rfl (A5 ⟨by simp,(MM ok).mono ?_⟩)))))))))))))))));rintro d x rfl;refine⟨_,rfl,A5 ⟨by simp,(F2 (fT c (wxs ws) 0 0) (some c)).mono ?_⟩⟩;rintro d x rfl;refine⟨_,rfl,_,rfl,(λh=>?_),λ_=>AY (A6 ?_)⟩
 .simp[fT,nm]at h
 refine BX (Rg (LS (KB (A3 (A1 rfl (A5 ⟨[],[],rfl,rfl,by simp,rfl,(Ki ok hB).mono ?_⟩))))));rintro d x ⟨rfl,rfl⟩;refine⟨0,_,[],_,rfl,le_refl _,rfl,rfl,rfl,rfl,FA _ _,0,intD (Aq ws),rfl,rfl,?_⟩;refine B9 (I_places_w c ws N) ⟨[],Aq ws,none,none,rfl,rfl,rfl,rfl⟩ ?_ ?_
 .rintro d r ls hd ⟨dn,rest,z3,z4,e1,er,rfl,rfl⟩;cases rest with
  |nil=>cases er
  |cons i rest=>
   rw[show intD (i::rest)=.im (.int i)::intD rest from rfl,zipIdx_cons,map_cons]at er;obtain⟨rfl,rfl⟩:=List.cons.inj er;obtain⟨k,hk,rfl⟩:=Cl (ws:=ws) (i:=i) (by rw[e1];simp);have hle:dn.length<ws.length:=by have:=HV ws;rw[e1]at this;simp at this;omega
   have ex:(wxs ws)[dn.length]?=some (wx ws[k]):=by
    unfold wxs;rw[e1,List.getElem?_map,List.getElem?_append_right (le_refl _)];simp[hk]
   have e2:An (wx ws[k]) (fT c (wxs ws) dn.length)=fT c (wxs ws) (dn.length+1):=by
    funext w
    rw[fT,ex]
   refine⟨[some (.im (Aj ws)),some (.im (Cv ws.length N (fT c (wxs ws)))),some (.im (.tup [])),some (.im (.int ((dn.length:Int)+1))),some (.im (.int (k:Int)))],rfl,?_⟩;refine Bx (AF (A3 (A7 (A1 rfl (A1 rfl (AR (by rw[CG,Bj]) (Fo hk) (A3 (A7 (A1 rfl (A7 (A1 rfl (AG (DJ ?_)))))))))))));rw[show(dn.length:Int)+1-1=(dn.length:Int) by omega];refine AR rfl (LX (by omega)) (A3 (A7 (A1 rfl (A1 rfl ?_))));rw[show(dn.length:Int)+1=((dn.length+1:Nat):Int) by omega];refine AR rfl (LX (by omega)) (A3 (A7 (A1 rfl (Br (A3 (A1 rfl (A5 ⟨Et,?_⟩)))))));rw[Jn];refine NH (by simp) (A5 ⟨by simp[wmI,rowI],?_⟩);rw[<- e2];refine(Ox (ok.2.2.2 _ (List.getElem_mem hk)) hN _).mono ?_;rintro d x rfl;exact⟨_,rfl,by intro q hq;rw[mem_singleton]at hq;subst hq;rfl,dn++[(k:Int)],rest,_,_,by rw[e1];simp,by simp,rfl,rfl⟩
 .rintro ls hd ⟨dn,rest,z3,z4,e1,er,rfl,rfl⟩;rfl
def P7{n N m:Nat}{f:Nat->Nat->Option Int}(hN:N<=100)(hm:m<N)(h1:(f n m).isSome=true)(h2:∀w,(f n w).isSome=true->w<=m):WF Bw [.im (Cv n N f)] [] λd x=>d=.im (.int (m:Int)):=by
 unfold Bw;refine Ag rfl ?_;refine AU (Cz (B4 (FV (BZ (A7 (A1 rfl (LU (AG ⟨_,rfl,AR rfl (e:=.im (rowI N (f n))) ?_ ⟨(List.range N).map λw=>Ay (f n w),by simp[rowI],?_⟩⟩))))))))
 .rw[map_map,range_succ,map_append];exact Ms _ _
 have ez:(((List.range N).map λw=>Ay (f n w)).zipIdx.map λq=>AX [.im (.int (q.2:Int)),q.1])=(List.range N).map λw:Nat=>D.im (.tup [.int (w:Int),EH (f n w)]):=by
  refine ext_getElem (by simp) λi a b=>?_;simp
 rw[ez];refine⟨Ab (by simp;omega),?_⟩;refine Ba (λw:Nat=>D.im (.tup [.int (w:Int),EH (f n w)])) (λw=>if(f n w).isSome=true then some (.im (.int (w:Int)))else none) (λ_ ls=>∃x y,ls=[some x,some y]) _ (AJ _) ?_ ?_
 .rintro w hw ls hls;refine⟨[some (.im (.int (w:Int))),some (Ay (f n w))],by rcases hls with rfl|⟨_,x,y,rfl⟩<;>rfl,⟨_,_,rfl⟩,?_⟩;refine AQ (Gb (A1 rfl ⟨f n w,rfl,_,rfl,rfl,?_⟩));cases hx:f n w with
  |none=>
   rw[if_neg (by simp)];exact if_neg (by simp)
  |some x=>
   rw[if_pos (by simp)];exact⟨_,if_pos (by simp),A1 rfl ⟨rfl,rfl⟩⟩
 have ei:((List.range N).filterMap λw:Nat=>if(f n w).isSome=true then some (D.im (.int (w:Int)))else none)=intD (((List.range N).filter λw:Nat=>(f n w).isSome).map λw:Nat=>(w:Int)):=by
  generalize List.range N=L
  induction L with
  |nil=>rfl
  |cons x r ih=>
   rw[filterMap_cons,filter_cons];by_cases h:(f n x).isSome=true
   .simp[h,intD]at ih ⊢;exact ih
   .simp[h,intD]at ih ⊢;exact ih
 rw[ei];have hmm:(m:Int)∈((List.range N).filter λw:Nat=>(f n w).isSome).map λw:Nat=>(w:Int):=mem_map.mpr ⟨m,mem_filter.mpr ⟨by simpa using hm,h1⟩,rfl⟩;have hne:=List.ne_nil_of_mem hmm;refine⟨_,by unfold IM;rw[F6,bind_some,if_neg hne],?_⟩;have ms:=F3 hne;obtain⟨w,hw,ew⟩:=mem_map.mp ms.1;have h3:=ms.2 _ hmm;have h4:=h2 w (mem_filter.mp hw).2;have:FF (((List.range N).filter λw:Nat=>(f n w).isSome).map λw:Nat=>(w:Int))=(m:Int):=by omega
 rw[this]
def ZA{B c:Int}{ws:List Wm}(ok:Av B c ws)(hB:B<=2000){m:Nat}(hm:m<=(Ad ws).toNat)(h1:(fT c (wxs ws) ws.length m).isSome=true)(h2:∀w,(fT c (wxs ws) ws.length w).isSome=true->w<=m):WF Dc [.im (Aj ws),.im (Cv ws.length ((Ad ws).toNat+1) (fT c (wxs ws)))] [] λd x=>d=.im (.int (Ad ws-m)):=by
 have hf:=K0 ok;have hcl:∀f:Nat->Nat->Option Int,B2 0 [D.im (Aj ws),.im (Cv ws.length ((Ad ws).toNat+1) f),.im (.tup [])]=true:=λf=>by simp
 unfold Dc;refine Ag rfl ?_;refine AC (Bx (AF (A3 (A1 rfl (A5 ⟨by simp,(MM ok).mono ?_⟩)))));rintro d x rfl;refine⟨_,rfl,A6 ?_⟩;refine AC (Bx (AF (A3 (A1 rfl (A3 (A1 rfl (A3 (Br (A5 ⟨E9,A5 ⟨hcl _,(Us ok rfl (by omega) _).mono ?_⟩⟩)))))))));rintro d x rfl;refine⟨_,rfl,A6 ?_⟩;refine AC (Bx (AF (A3 (A1 rfl (A3 (A1 rfl (A3 (Br (A5 ⟨E9,A5 ⟨hcl _,(T1 ok hB (by omega) (by omega)).mono ?_⟩⟩)))))))));rintro d x rfl;refine⟨_,rfl,A6 ?_⟩;refine AU (A7 (AF (A3 (A1 rfl (A5 ⟨by simp,(Mb ok).mono ?_⟩)))));rintro d x rfl;refine⟨_,rfl,AF (A3 (A1 rfl (A5 ⟨by simp,(P7 (by omega) (by omega) h1 h2).mono ?_⟩)))⟩;rintro d x rfl;exact⟨_,rfl,DJ rfl⟩
end T42
namespace Lt
def GB{c:Int}{L:List Wx}:∀{i:Nat} {e:En},e∈AN c L i->e.2.1<=((L.take i).map λx=>x.2.2).sum
 |0,e,h=>by simp[AN]at h;rw[h];simp
 |i+1,e,h=>by
  rw[AN]at h;have mono:((L.take i).map λx=>x.2.2).sum<=((L.take (i+1)).map λx=>x.2.2).sum:=by
   rw[List.take_succ,map_append,sum_append];omega
  rcases mem_append.mp h with q|q
  .exact le_trans (GB q) mono
  .split at q
   .next w hw=>
    obtain⟨z,hz,rfl⟩:=mem_map.mp q;have:=GB (mem_filter.mp hz).1;have e:((L[i]?.toList).map λx:Wx=>x.2.2).sum=w.2.2:=by rw[hw];simp
    rw[List.take_succ,map_append,sum_append,e];dsimp only;omega
   .cases q
end Lt
namespace T42
open PySem L2 Bd Ru
open Lt (IsMin comb behind An sel AN Wx)
def BI(ws:List Wm)(k:Nat):Int:=(ws[k]?.map Wm.len).getD 0
def LK{ws:List Wm}{k:Nat}(hk:k<ws.length):(ws[k]).len=BI ws k:=by simp[BI,hk]
abbrev lnI(ws:List Wm)(i:Int):Int:=BI ws i.toNat
def Gv(ws:List Wm):(Aq ws).Nodup:=by
 refine(Cc ws).nodup_iff.mpr ?_;refine List.Pairwise.map _ (λa b h=>?_) nodup_range;exact λz=>h (by omega)
def inT(ws:List Wm):Int->List Int->Prop
 |_,[]=>True
 |e,i::r=>e+lnI ws i<=Ac ws i.toNat/\inT ws (e+lnI ws i) r
abbrev b8(ks:List Int):D:=.im (.tup (ks.map I.int))
def Zp(ks:List Int):(ks.map I.int).map D.im=intD ks:=by simp[intD]
def Tk:∀{L M:List Int},L.Nodup->M.Sublist L->L.filter (λi=>decide (i∈M))=M:=by
 intro L M nd s
 induction s with
 |slnil=>rfl
 |cons a s ih=>
  obtain⟨h1,h2⟩:=nodup_cons.mp nd;rw[filter_cons,if_neg (by simpa using λz=>h1 (s.subset z))];exact ih h2
 |cons_cons a s ih=>
  rename_i M L
  obtain⟨h1,h2⟩:=nodup_cons.mp nd;rw[filter_cons,if_pos (by simp)]
  congr 1
  refine Eq.trans (List.filter_congr λx hx=>?_) (ih h2);have:x≠a:=λz=>h1 (z ▸ hx);simp[this]
def Cu(ws:List Wm)(k:Nat):Int:=(ws[k]?.map Wm.wt).getD 0
abbrev wtI(ws:List Wm)(i:Int):Int:=Cu ws i.toNat
def U2{ws:List Wm}{k:Nat}(hk:k<ws.length):(ws[k]).wt=Cu ws k:=by simp[Cu,hk]
def Nk(L:List Int):AX (intD L)=b8 L:=by
 have:intD L=(L.map I.int).map D.im:=by simp[intD]
 rw[this,Be]
set_option maxHeartbeats 1000000 in
def ZM:F_ends_of=Bd.F_ends_of:=rfl
def Wn:F_worth=Bd.F_worth:=rfl
def Pm{ml:MA}{mb:ME}{ls:Ls}{hd:Hd}{QA:List D->Hd->Prop}(h:WA ml ls hd λds x=>WE mb ls x λe y=>∃k,e=.im (.int k)/\(0<=k/\k<=1000)/\Bl (ds.length*k.toNat)/\QA (List.replicate k.toNat ds).flatten y):WA (IJ ml mb) ls hd QA:=by
 obtain⟨ds,x,e1,d,y,e2,k,rfl,h1,h2,q⟩:=h;exact⟨_,_,by simp only[IJ,e1,bind_some,e2,h1,h2,and_self,if_true],q⟩
def Pi{ma mb:MI}{ls:Ls}{hd:Hd}{QI:List D×Gd->Hd->Prop}(h:WI ma ls hd λp x=>WI mb ls x λq y=>GOk y p.2/\QI (List.zipWith (λx y=>AX [x,y]) p.1 q.1,p.2++q.2) y):WI (FG ma mb) ls hd QI:=by
 obtain⟨p,x,e1,q,y,e2,g,k⟩:=h;exact⟨_,_,by simp only[FG,e1,bind_some,e2,g,if_true],k⟩
abbrev eN(ws:List Wm)(c:Int)(o:List Nat)(k:Nat):Int:=DN (BI ws) c o k
def EF(w:Wm):Wk:=⟨w.len,w.com,.miss w.due w.wt⟩
def O8(ws:List Wm):BQ (ws.map EF)=Aj ws:=by
 show I.tup _=I.tup _;rw[map_map];rfl
def Ni(o:List Nat):(o.map λk:Nat=>I.int k).map D.im=BA o:=by rw[map_map];rfl
def Oy{B c:Int}{ws:List Wm}(ok:Av B c ws)(k:Nat):0<=BI ws k:=by
 by_cases hk:k<ws.length
 .have:=(ok.2.2.2 _ (List.getElem_mem hk)).1.1;rw[LK hk]at this;omega
 .simp[BI,hk]
def U1{B c:Int}{ws:List Wm}(ok:Av B c ws)(k:Nat):0<=Cu ws k:=by
 by_cases hk:k<ws.length
 .have:=(ok.2.2.2 _ (List.getElem_mem hk)).2.2.2.1;rw[U2 hk]at this;omega
 .simp[Cu,hk]
def LR{B c:Int}{ws:List Wm}(ok:Av B c ws){k:Nat}(hk:k<ws.length):(ws[k]).com=c:=(ok.2.2.2 _ (List.getElem_mem hk)).2.1
abbrev FE(ws:List Wm)(c:Int)(o:List Nat)(dn:List Nat):List Int:=(List.range ws.length).map λk=>if k∈dn then eN ws c o k else 0
def XC{ws:List Wm}{c:Int}{o dn:List Nat}{k:Nat}(hk:k<ws.length):(FE ws c o dn).set k (eN ws c o k)=FE ws c o (dn++[k]):=by
 refine ext_getElem? λi=>?_;rw[List.getElem?_set];by_cases hi:k=i
 .subst hi;simp[FE,hk]
 .by_cases hi2:i<ws.length
  .have h5:(i∈dn∨i=k)↔i∈dn:=⟨λz=>z.resolve_right (λq=>hi q.symm),.inl⟩
   simp[hi,FE,hi2,h5]
  .simp[hi,FE,hi2]
def XD{ws:List Wm}{c:Int}{o:List Nat}(pm:o.Perm (List.range ws.length)):FE ws c o o=(List.range ws.length).map (eN ws c o):=
 map_congr_left λk hk=>if_pos (pm.mem_iff.mpr hk)
def UX{ws:List Wm}{c:Int}{o dn rest:List Nat}{k:Nat}(nd:o.Nodup)(e1:o=dn++k::rest):eN ws c o k=c+(dn.map (BI ws)).sum+BI ws k:=by
 subst e1;exact Jf λz=>(nodup_append.mp nd).2.2 _ z _ (by simp) rfl
inductive I_run(ws:List Wm)(c:Int)(o:List Nat)(r:List D)(ls:Ls)(hd:Hd):Prop
 |mk (dn rest:List Nat) (z4:Option D) (t:Int) (h0:o=dn++rest) (h1:r=BA rest) (h2:ls=[some (.im (Aj ws)),some (.im (Dt o)),some (.mu 0),some (.im (.int t)),z4]) (h3:hd=[.lst (intD (FE ws c o dn))]) (h4:max t c=c+(dn.map (BI ws)).sum):I_run ws c o r ls hd
def OY{B c:Int}{ws:List Wm}(ok:Av B c ws){o:List Nat}(pm:o.Perm (List.range ws.length)):WF EV [.im (Aj ws),.im (Dt o)] [] λd x=>d=.im (Ar ((List.range ws.length).map (eN ws c o))):=by
 have hn:=ok.2.1;have hc:=ok.2.2.1;have nd:o.Nodup:=pm.nodup_iff.mpr nodup_range;unfold EV;refine Ag rfl ?_;refine AC (AL (Bs (Pm (By (A3 (AG (A5 ⟨Ab (by simp),?_⟩)))))));refine BK (A3 (A1 rfl (A5 (Bq rfl rfl ⟨_,rfl,by simp;omega,Ab (by simp;omega),A6 ?_⟩))));have e0:(List.replicate (Int.toNat (((ws.map wmI).map D.im).length:Int)) [D.im (.int 0)]).flatten=intD (FE ws c o []):=by
  simp only[intD,FE,length_map,toNat_natCast,map_map,Function.comp_def,not_mem_nil,if_false];rw[show(λ_:Nat=>D.im (.int 0))=Function.const Nat (D.im (.int 0))from rfl,List.map_const,length_range];simp
 rw[e0];refine AC (AL (AG (A6 ?_)));refine AC (BX (BZ (A1 rfl ⟨_,rfl,?_⟩)));rw[Ni];refine B9 (I_run ws c o) ⟨[],o,none,0,rfl,rfl,rfl,rfl,by simp;omega⟩ ?_ ?_
 .rintro d r ls hd ⟨dn,rest,z4,t,e1,er,rfl,rfl,ht⟩;cases rest with
  |nil=>cases er
  |cons k rest=>
   obtain⟨rfl,rfl⟩:=List.cons.inj er;have hk:k<ws.length:=by simpa using pm.mem_iff.mp (show k∈o by rw[e1];simp)
   refine⟨_,rfl,?_⟩;dsimp only[set_cons_zero,set_cons_succ];refine AC (AL (A7 (BK (A3 (A1 rfl (A3 (A7 (A7 (A1 rfl (A1 rfl (AR (by rw[CG,Bj]) (Fo hk) (AG (AR (ds:=[.im (.int (ws[k]).len),.im (.int (ws[k]).com),.im (.tup [.str "miss",.int (ws[k]).due,.int (ws[k]).wt])]) rfl (FS _ _ _) (A5 (JT ?_)))))))))))))));rw[LR ok hk];refine A7 (A7 (A1 rfl (A1 rfl (AR (by rw[CG,Bj]) (Fo hk) (AG (AR (ds:=[.im (.int (ws[k]).len),.im (.int (ws[k]).com),.im (.tup [.str "miss",.int (ws[k]).due,.int (ws[k]).wt])]) rfl (Mr _ _) (BY (A6 ?_))))))));rw[LK hk,ht,<- UX nd e1];have hix:ixN (intD (FE ws c o dn)).length (k:Int)=some k:=by
    unfold ixN;simp[intD,hk]
   refine HK (A1 rfl (A1 rfl (A1 rfl ⟨0,(k:Int),k,_,rfl,rfl,rfl,hix,?_⟩)));refine⟨AJ _,dn++[k],rest,_,_,by rw[e1];simp,rfl,rfl,?_,?_⟩
   .show [MO.lst _]=[MO.lst _]
    congr 2
    rw[<- XC hk,intD,intD,List.map_set]
   .rw[UX nd e1];have:0<=(dn.map (BI ws)).sum:=by
     have:=NM (f:=λi:Int=>BI ws i.toNat) (λi=>Oy ok _) (List.nil_sublist (dn.map λk:Nat=>(k:Int)));simpa [map_map,Function.comp_def]using this
    have:=Oy ok k;simp only[map_append,sum_append,map_cons,map_nil,sum_cons,sum_nil];omega
 .rintro ls hd ⟨dn,rest,z4,t,e1,er,rfl,rfl,ht⟩;have:rest=[]:=by cases rest with
   |nil=>rfl
   |cons t r=>cases er
  subst this;rw[append_nil]at e1;subst e1;refine A6 (AU (BK (A3 (A1 rfl (A5 (Bq rfl rfl ?_))))));rw[XD pm];exact Nk _
def Cm(ws:List Wm)(e:Nat->Int):Int:=((List.range ws.length).map λk=>if e k<=Ac ws k then 0 else Cu ws k).sum
def Ue{B c:Int}{ws:List Wm}(ok:Av B c ws)(e:Nat->Int):F_worth [.im (Aj ws),.im (Ar ((List.range ws.length).map e)),.im (.str "sum")] []=some (.im (.int (Cm ws e)),[]):=by
 have hw:∀w∈ws.map EF,w.cost.wok:=λw hw=>by
  obtain⟨v,hv,rfl⟩:=mem_map.mp hw;have:=(ok.2.2.2 v hv).2.2.2;exact⟨this.1,by have:=this.2;show v.wt<=1000000;omega⟩
 have q:=Ph (ws.map EF) ((List.range ws.length).map e) hw (by have:=ok.2.1;simp;omega);rw[O8]at q;rw[Wn,q]
 congr 5
 unfold EC;refine ext_getElem (by simp) λi a b=>?_;simp only[length_map,length_range]at b;simp only[List.getElem_zipWith,List.getElem_map,List.getElem_range,EF,Cost.at];rw[Mi b,U2 b];by_cases h:e i<=Ac ws i
 .rw[if_pos (by omega),if_pos h]
 .rw[if_neg (by omega),if_neg h]
def Nj(L:List Nat):BA L=intD (L.map λk:Nat=>(k:Int)):=by simp[BA,intD]
abbrev wA(ws:List Wm)(k:Nat):Wm:=(ws[k]?).getD ⟨0,0,0,0⟩
def XB(ws:List Wm)(k:Nat):(wA ws k).due=Ac ws k:=by unfold wA Ac;cases ws[k]?<;>rfl
def Zn(ws:List Wm)(k:Nat):(wA ws k).wt=Cu ws k:=by unfold wA Cu;cases ws[k]?<;>rfl
def b0(ws:List Wm)(e:Nat->Int):List.zipWith (λx y=>AX [x,y]) (ws.map wmD) (intD ((List.range ws.length).map e))=(List.range ws.length).map λk=>D.im (.tup [wmI (wA ws k),.int (e k)]):=by
 refine ext_getElem (by simp[intD]) λi a b=>?_;simp only[length_map,length_range]at b;simp[intD,wA,b]
def MN(ws:List Wm)(e:Nat->Int):∀L:List Nat,∃ns:List Int,(L.filterMap λk=>if Ac ws k<e k then some (D.im (.int (Cu ws k)))else none)=intD ns/\ns.sum=(L.map λk=>if e k<=Ac ws k then 0 else Cu ws k).sum
 |[]=>⟨[],rfl,rfl⟩
 |k::r=>by
  obtain⟨ns,h1,h2⟩:=MN ws e r;rw[filterMap_cons,map_cons,sum_cons];by_cases h:Ac ws k<e k
  .refine⟨Cu ws k::ns,?_,?_⟩
   .rw[if_pos h,h1];simp[intD]
   .rw[if_neg (by omega),sum_cons,h2]
  .refine⟨ns,by rw[if_neg h,h1],?_⟩;rw[if_pos (by omega),h2];omega
def GX{B c:Int}{ws:List Wm}(ok:Av B c ws)(e:Nat->Int):WF CL [.im (Aj ws),.im (Ar ((List.range ws.length).map e))] [] λd x=>d=.im (.int (Cm ws e)):=by
 have hn:=ok.2.1;unfold CL;refine Ag rfl ?_;refine AU (Cz (B4 (Pi (BZ (A1 rfl ⟨ws.map wmD,by rw[<- Bj];rfl,BZ (A1 rfl ⟨intD ((List.range ws.length).map e),by rw[<- Zp];rfl,AJ _,?_⟩)⟩)))));rw[b0];refine⟨Ab (by simp;omega),?_⟩;refine Ba (λk:Nat=>D.im (.tup [wmI (wA ws k),.int (e k)])) (λk=>if Ac ws k<e k then some (D.im (.int (Cu ws k)))else none) (λ_ ls=>∃x y,ls=[some x,some y]) _ (AJ _) ?_ ?_
 .rintro k hk ls hls;refine⟨[some (wmD (wA ws k)),some (.im (.int (e k)))],by rcases hls with rfl|⟨_,x,y,rfl⟩<;>rfl,⟨_,_,rfl⟩,?_⟩;refine AQ (A7 (A1 rfl (A7 (A7 (A1 rfl (AG (AR (ds:=[.im (.int (wA ws k).len),.im (.int (wA ws k).com),.im (.tup [.str "miss",.int (wA ws k).due,.int (wA ws k).wt])]) rfl (GK _ _ _ _) (AG (AR (ds:=[.im (.str "miss"),.im (.int (wA ws k).due),.im (.int (wA ws k).wt)]) rfl (FS _ _ _) (IZ ⟨_,rfl,rfl,?_⟩))))))))));rw[XB];by_cases h:Ac ws k<e k
  .rw[if_pos (by simpa using h)];refine⟨_,if_pos h,A7 (A7 (A1 rfl (AG (AR (ds:=[.im (.int (wA ws k).len),.im (.int (wA ws k).com),.im (.tup [.str "miss",.int (wA ws k).due,.int (wA ws k).wt])]) rfl (GK _ _ _ _) (AG (AR (ds:=[.im (.str "miss"),.im (.int (wA ws k).due),.im (.int (wA ws k).wt)]) rfl (GK _ _ _ _) ⟨rfl,?_⟩))))))⟩;rw[Zn]
  .rw[if_neg (by simpa using h)];exact if_neg h
 obtain⟨ns,h1,h2⟩:=MN ws e (List.range ws.length);rw[h1];refine⟨_,by unfold FJ;rw[F6];rfl,?_⟩;show D.im (.int ns.sum)=_;rw[h2];rfl
abbrev wI(ps:List (Int×Int)):I:=.tup (ps.map Gu)
structure Wsh(n:Nat)(ps:List (Int×Int)):Prop where
 len:ps.length<=16
 al:∃seq:List Nat,seq.Perm (List.range n)/\Along seq ps
def Wsh.nats{n:Nat}{ps:List (Int×Int)}(h:Wsh n ps):∀p∈ps,∃a b:Nat,p=((a:Int),(b:Int))/\a<n/\b<n:=λp hp=>by
 obtain⟨seq,pm,al⟩:=h.al;obtain⟨i,j,a,b,_,e1,e2,e⟩:=al p hp;exact⟨a,b,e,by simpa using pm.mem_iff.mp (mem_of_getElem? e1),by simpa using pm.mem_iff.mp (mem_of_getElem? e2)⟩
def Nd{hd:Hd}{k:Nat}{ns:List Int}(e:hd[k]?=some (.lst (intD ns))):pyD hd (.mu k)=some (.list (ns.map PyData.int)):=by
 show(match hd[k]? with|some (.lst ds)=>(BU ds).map λis=>PyData.list (I.pys is)|_=>none)=_;rw[e];show(BU (ns.map λi=>D.im (.int i))).map _=_;rw[Cr,map_some,Cb]
def lnW(ws:List Wk)(k:Nat):Int:=((ws[k]?).map Wk.len).getD 0
def cm(ws:List Wk)(k:Nat):Int:=((ws[k]?).map Wk.com).getD 0
def ap{ws:List Wk}{k:Nat}(hk:k<ws.length):(ws[k]).com=cm ws k:=by simp[cm,hk]
abbrev pcD(P:List Pl.Pc):List D:=P.map λp=>.im (AS p)
def Uf{ws:List Wk}{k:Nat}(hk:k<ws.length):atI ((ws.map BJ).map D.im) (k:Int)=some (.im (BJ ws[k])):=FR rfl (by simp[hk])
def Hg(q:Pl.Pc)(j:Nat):∀P:List Pl.Pc,Pl.dn (P++[q]) j=Pl.dn P j+(if q.1=j then q.2.2-q.2.1 else 0)
 |[]=>by simp[Pl.dn]
 |p::r=>by rw[cons_append,Pl.dn,Pl.dn,Hg q j r];omega
def ET:∀ns:List Int,PyData.depthAll (ns.map PyData.int)=0
 |[]=>by simp[PyData.depthAll]
 |n::r=>by simp[PyData.depthAll,PyData.depth,ET r]
def MK(ns:List Int):(PyData.list (ns.map PyData.int)).canLay0=true:=by
 rw[PyData.canLay0]
 induction ns with
 |nil=>rfl
 |cons x r ih=>simp[PyData.canLayAll0,PyData.canLay0]at ih ⊢;try exact ih
def M0(left:List Int)(k:Nat)(v:Int):(intD left).set k (.im (.int v))=intD (left.set k v):=by simp[intD,List.map_set]
def J9(P:List Pl.Pc):(P.map AS).map D.im=pcD P:=by simp[pcD]
def Qz{ws:List Wk}{P:List Pl.Pc}(n8:ws.length<=8)(hP:∀p∈P,p.1<ws.length):WF F_ends_of [.im (BQ ws),.im (.tup (P.map AS))] [] λd x=>d=.im (Ar ((List.range ws.length).map (Pl.E P))):=by
 obtain⟨g,e⟩:=PH ws P hP (by omega);rw[Pl.ends_map]at e;exact WP.eq (ZM ▸ e) rfl
def Jy(i:Int):WF BH [.im (.int i)] [] λd x=>d=.im (.bl true):=by
 unfold BH;refine Ag rfl ?_;refine AU (DG (AQ (DK (A1 rfl ⟨_,rfl,_,rfl,?_⟩))));rw[if_pos (by decide)];exact NJ (AQ (DK (A1 rfl ⟨_,rfl,_,rfl,rfl⟩)))
def Td{l i:Int}(h:l<=i):WF CD [.im (.int l),.im (.int i)] [] λd x=>d=.im (.bl true):=by
 unfold CD;refine Ag rfl ?_;refine AU (DG (AQ (AF (A3 (A1 rfl (A5 ⟨by simp,(Jy i).mono ?_⟩))))));rintro d x rfl;refine⟨_,rfl,_,rfl,?_⟩;rw[if_pos rfl];refine A7 (A1 rfl (A1 rfl (U3 ?_)));simp[h]
def Ta{m i:Int}(h:0<=i)(h2:i<m):WF Bk [.im (.int m),.im (.int i)] [] λd x=>d=.im (.bl true):=by
 unfold Bk;refine Ag rfl ?_;refine AU (DG (AQ (AF (A3 (AG (A3 (A1 rfl (A5 ⟨by simp,(Td h).mono ?_⟩))))))));rintro d x rfl;refine⟨_,rfl,_,rfl,?_⟩;rw[if_pos rfl];refine A7 (A1 rfl (A1 rfl (Fm ?_)));simp[h2]
def Wf(a b c:I):WF B7 [.im (.int 3),.im (.tup [a,b,c])] [] λd x=>d=.im (.bl true):=by
 unfold B7;refine Ag rfl ?_;refine AU (DG (AQ (DK (A1 rfl ⟨_,rfl,_,rfl,?_⟩))));rw[if_pos (by decide)];exact A7 (BK (A3 (A1 rfl (A5 (Bq rfl rfl (A1 rfl (CY rfl)))))))
section
variable{ws:List Wk}
abbrev Gp(ws:List Wk)(p:Pl.Pc):Prop:=cm ws p.1<=p.2.1/\p.2.1<p.2.2
def Vw{p:Pl.Pc}(h1:p.1<ws.length):WF EX [.im (BQ ws),.im (AS p)] [] λd x=>d=.im (.bl (decide (Gp ws p))):=by
 obtain⟨k,b,e⟩:=p;dsimp only at h1;unfold EX;refine Ag rfl ?_;refine AC (Am (BW (B3 (AF (A3 (AG (A3 (A1 rfl (A5 ⟨by simp[AS],(Wf (.int k) (.int b) (.int e)).mono ?_⟩)))))))));rintro d x rfl;refine⟨_,rfl,_,rfl,(λh=>by cases h),λ_=>AY (A6 ?_)⟩;refine AC (Pe (A1 rfl ⟨[some (.im (BQ ws)),some (.im (AS (k,b,e))),some (.im (.int (k:Int))),some (.im (.int b)),some (.im (.int e))],rfl,A6 ?_⟩));refine AC (Am (Ex (BW (B3 (AF (A3 (BK (A3 (A1 rfl (A5 (Bq (z:=.im (.int (ws.length:Int))) rfl (by simp[BT]) (A3 (A1 rfl (A5 ⟨by simp,(Ta (m:=(ws.length:Int)) (i:=(k:Int)) (by omega) (by omega)).mono ?_⟩))))))))))))));rintro d x rfl;refine⟨_,rfl,_,rfl,?_⟩;rw[if_neg (by simp)];refine Ex (BW (B3 (AF (A3 (A1 rfl (A5 ⟨by simp,(Jy b).mono ?_⟩))))));rintro d x rfl;refine⟨_,rfl,_,rfl,?_⟩;rw[if_neg (by simp)];refine BW (B3 (AF (A3 (A1 rfl (A5 ⟨by simp,(Jy e).mono ?_⟩)))));rintro d x rfl;refine⟨_,rfl,_,rfl,(λh=>by cases h),λ_=>AY (A6 ?_)⟩;refine AU (DG (AQ (A7 (A7 (A7 (A1 rfl (A1 rfl (AR (by rw[CG]) (Uf h1) (AG (AR rfl (FS _ _ _) ?_))))))))));rw[ap h1];refine A1 rfl (HL ⟨_,rfl,?_⟩);by_cases h2:cm ws k<=b
 .rw[if_pos (by simpa using h2)];refine A7 (A1 rfl (A1 rfl (Fm ?_)));simp[Gp,h2]
 .rw[if_neg (by simpa using h2)];simp[Gp,h2]
abbrev IV(P:List Pl.Pc):Prop:=∀x∈P.zip P.tail,x.1.2.2<=x.2.2.1
def blsD_map(bs:List Bool):C1 (blD bs)=some bs:=by
 induction bs with
 |nil=>rfl
 |cons b r ih=>simp[blD]at ih ⊢
def Jw(bs:List Bool):Dp (blD bs)=some (.im (.bl (bs.all id))):=by rw[Dp,blsD_map];rfl
def aQ{P:List Pl.Pc}(hl:P.length<=62):WF CV [.im (.tup (P.map AS))] [] λd x=>d=.im (.bl (decide (IV P))):=by
 unfold CV;refine Ag rfl ?_;have ct:Ci ((P.map AS).map D.im) (some 1) none=(P.tail.map AS).map D.im:=by
  cases P with
  |nil=>rfl
  |cons p r=>
   simp[Ci,HT.sIx];exact take_of_length_le (by simp)
 refine AU (Cz (B4 (Pi (BZ (A1 rfl ⟨_,rfl,BZ (X7 (A1 rfl (Ug (AG ⟨_,rfl,Zm ⟨_,rfl,?_⟩⟩))))⟩)))));rw[ct,Be];refine⟨_,rfl,AJ _,?_⟩;have ez:List.zipWith (λx y=>AX [x,y]) ((P.map AS).map D.im) ((P.tail.map AS).map D.im)=(P.zip P.tail).map λq:Pl.Pc×Pl.Pc=>D.im (.tup [AS q.1,AS q.2]):=by
  rw[List.zipWith_map,List.zipWith_map,List.zip,List.map_zipWith];rfl
 dsimp only;rw[ez];refine⟨Ab (by simp;omega),?_⟩;refine Ba (λq:Pl.Pc×Pl.Pc=>D.im (.tup [AS q.1,AS q.2])) (λq=>some (.im (.bl (decide (q.1.2.2<=q.2.2.1))))) (λ_ ls=>∃x y,ls=[some x,some y]) _ (AJ _) ?_ ?_
 .rintro q hq ls hls;refine⟨[some (.im (AS q.1)),some (.im (AS q.2))],by rcases hls with rfl|⟨_,x,y,rfl⟩<;>rfl,⟨_,_,rfl⟩,CF ⟨rfl,?_⟩⟩;rw[if_pos rfl];exact⟨_,rfl,A7 (A7 (A1 rfl (AG (AR rfl (GK _ _ _ _) (A7 (A1 rfl (AG (AR rfl (FS _ _ _) (HL ⟨rfl,rfl⟩)))))))))⟩
 have e:((P.zip P.tail).filterMap λq:Pl.Pc×Pl.Pc=>some (D.im (.bl (decide (q.1.2.2<=q.2.2.1)))))=blD ((P.zip P.tail).map λq=>decide (q.1.2.2<=q.2.2.1)):=by simp[blD]
 rw[e];refine⟨_,Jw _,?_⟩
 congr 3
 rw[Bool.eq_iff_iff,decide_eq_true_iff,all_map,all_eq_true];simp[IV]
abbrev dnL(n:Nat)(P:List Pl.Pc):List Int:=(List.range n).map (Pl.dn P)
def Ww{n:Nat}{P:List Pl.Pc}{q:Pl.Pc}:(dnL n P).set q.1 (Pl.dn P q.1+(q.2.2-q.2.1))=dnL n (P++[q]):=by
 refine ext_getElem? λi=>?_;rw[List.getElem?_set];by_cases h:q.1=i
 .subst h;by_cases hk:q.1<n
  .simp[dnL,hk,Hg]
  .simp[dnL,hk]
 .by_cases hk:i<n
  .simp[dnL,hk,Hg,h]
  .simp[dnL,hk,h]
def Uc{mo mi me:ME}{f:Int->Int->Int}{ls:Ls}{hd:Hd}{QS:Fl->Hd->Prop}(h:WE mo ls hd λd x=>WE mi ls x λi y=>∃n k ds j v,d=.mu n/\i=.im (.int k)/\y[n]?=some (.lst ds)/\ixN ds.length k=some j/\ds[j]?=some (.im (.int v))/\WE me ls y λr z=>∃u ds',r=.im (.int u)/\z[n]?=some (.lst ds')/\ds'.length=ds.length/\QS (.nx ls) (z.set n (.lst (ds'.set j (.im (.int (f v u))))))):WS (HZ mo mi me f) ls hd QS:=by
 obtain⟨d,x,e1,i,y,e2,n,k,ds,j,v,rfl,rfl,e3,e4,e5,r,z,e6,u,ds',rfl,e7,e8,q⟩:=h;refine⟨_,_,?_,q⟩;unfold HZ;simp only[e1,bind_some,e2,e3,e4,e5,e6,e7,e8,if_true]
inductive I_dn(ws:List Wk)(P:List Pl.Pc)(r:List D)(ls:Ls)(hd:Hd):Prop
 |mk (d0 rest:List Pl.Pc) (z3 z4 z5:Option D) (h0:P=d0++rest) (h1:r=pcD rest) (h2:ls=[some (.im (BQ ws)),some (.im (.tup (P.map AS))),some (.mu 0),z3,z4,z5]) (h3:hd=[.lst (intD (dnL ws.length d0))]):I_dn ws P r ls hd
def Zc(n8:ws.length<=8){P:List Pl.Pc}(hP:∀p∈P,p.1<ws.length):WF Cs [.im (BQ ws),.im (.tup (P.map AS))] [] λd x=>d=.mu 0/\x=[.lst (intD (dnL ws.length P))]:=by
 unfold Cs;refine Ag rfl ?_;refine AC (AL (Bs (B4 (BZ (A1 rfl ⟨_,rfl,Ab (by simp;omega),?_⟩)))));rw[show(ws.map BJ).map D.im=ws.map λw=>D.im (BJ w) by simp];refine Ba (λw=>D.im (BJ w)) (λw:Wk=>some (.im (.int 0))) (λ_ ls=>∃x,ls=[some x]) _ (AJ _) ?_ ?_
 .rintro w hw ls hls;refine⟨[some (.im (BJ w))],by rcases hls with rfl|⟨_,x,rfl⟩<;>rfl,⟨_,rfl⟩,CF ⟨rfl,?_⟩⟩;rw[if_pos rfl];exact⟨_,rfl,AG ⟨rfl,rfl⟩⟩
 have e0:(ws.filterMap λ_=>some (D.im (.int 0)))=intD (dnL ws.length []):=by
  refine ext_getElem? λi=>?_;by_cases hi:i<ws.length
  .simp[intD,dnL,hi,Pl.dn]
  .simp[intD,dnL,hi]
 rw[e0];refine A6 (AC (BX (BZ (A1 rfl ⟨_,rfl,?_⟩))));rw[J9];refine B9 (I_dn ws P) ⟨[],P,none,none,none,rfl,rfl,rfl,rfl⟩ ?_ ?_
 .rintro d r ls hd ⟨d0,rest,z3,z4,z5,e1,er,rfl,rfl⟩;cases rest with
  |nil=>cases er
  |cons p rest=>
   obtain⟨rfl,rfl⟩:=List.cons.inj er;have hp:=hP p (by rw[e1];simp);obtain⟨k,b,e⟩:=p;dsimp only at hp;refine⟨[some (.im (BQ ws)),some (.im (.tup (P.map AS))),some (.mu 0),some (.im (.int (k:Int))),some (.im (.int b)),some (.im (.int e))],rfl,?_⟩;refine Uc (A1 rfl (A1 rfl ⟨0,(k:Int),intD (dnL ws.length d0),k,Pl.dn d0 k,rfl,rfl,rfl,?_,?_,?_⟩))
   .have:=Nt (n:=(intD (dnL ws.length d0)).length) (i:=(k:Int)) (by omega) (by simp[intD,dnL];omega);simpa using this
   .simp[intD,dnL,hp]
   refine A7 (A1 rfl (A1 rfl (DJ ⟨_,_,rfl,rfl,rfl,AJ _,d0++[(k,b,e)],rest,_,_,_,by rw[e1];simp,rfl,rfl,?_⟩)));rw[set_cons_zero,M0];have:=Ww (n:=ws.length) (P:=d0) (q:=(k,b,e));dsimp only at this;rw[this]
 .rintro ls hd ⟨d0,rest,z3,z4,z5,e1,er,rfl,rfl⟩;have:rest=[]:=by cases rest with
   |nil=>rfl
   |cons t r=>cases er
  subst this;rw[append_nil]at e1;subst e1;exact A6 (AU (A1 rfl ⟨rfl,rfl⟩))
end
def Zi(W:List (Int×Int))(P:List Pl.Pc):Prop:=∀q∈W,∀p∈P,(p.1:Int)=q.2->Pl.E P q.1.toNat<=p.2.1
inductive I_k1(W:List (Int×Int))(P:List Pl.Pc)(es:List Int)(r:List D)(ls:Ls)(hd:Hd):Prop
 |mk (d0 rest:List (Int×Int)) (z0 z1 z2 z3 z4:Option D) (bs:List Bool) (h0:W=d0++rest) (h1:r=rest.map Ah) (h2:ls=[z0,z1,z2,z3,z4,some (.im (.tup (P.map AS))),some (.im (Ar es))]) (h3:hd=[.lst (blD bs)]) (h4:bs.length<=62*d0.length) (h5:bs.all id=true↔∀q∈d0,∀p∈P,(p.1:Int)=q.2->Pl.E P q.1.toNat<=p.2.1):I_k1 W P es r ls hd
inductive I_k2(P:List Pl.Pc)(es:List Int)(a b:Nat)(bs:List Bool)(r:List D)(ls:Ls)(hd:Hd):Prop
 |mk (d0 rest:List Pl.Pc) (z2 z3 z4:Option D) (cs:List Bool) (h0:P=d0++rest) (h1:r=pcD rest) (h2:ls=[some (.im (.int (a:Int))),some (.im (.int (b:Int))),z2,z3,z4,some (.im (.tup (P.map AS))),some (.im (Ar es))]) (h3:hd=[.lst (blD cs)]) (h4:cs.length<=bs.length+d0.length) (h5:cs.all id=true↔bs.all id=true/\∀p∈d0,(p.1:Int)=(b:Int)->Pl.E P a<=p.2.1):I_k2 P es a b bs r ls hd
section
variable{ws:List Wk}
def Wd{W:List (Int×Int)}{P:List Pl.Pc}{n:Nat}(hW:Wsh n W)(hl:P.length<=62):
 WF Ct [.im (wI W),.im (.tup (P.map AS)),.im (Ar ((List.range n).map (Pl.E P)))] [] λd x=>∃b:Bool,d=.im (.bl b)/\(b=true↔Zi W P):=by
 have h16:=hW.len;obtain⟨es,hes⟩:∃es,es=(List.range n).map (Pl.E P):=⟨_,rfl⟩
 rw[<- hes];unfold Ct;refine Ag rfl ?_;refine AU (BK (A3 (Ri (BZ (A1 rfl ⟨_,rfl,?_⟩)))));rw[Rw.pairs_im];refine JU (I_k1 W P es) ⟨[],W,none,none,none,none,none,[],rfl,rfl,rfl,rfl,by simp,by simp⟩ ?_ ?_
 .rintro d r ls hd ⟨d0,rest,z0,z1,z2,z3,z4,bs,e1,er,rfl,rfl,lb,hb⟩;cases rest with
  |nil=>cases er
  |cons u rest=>
   obtain⟨rfl,rfl⟩:=List.cons.inj er;obtain⟨a,b,rfl,ha,hbn⟩:=hW.nats u (by rw[e1];simp);have l1:=congrArg List.length e1;simp only[length_append,length_cons]at l1;refine⟨[some (.im (.int (a:Int))),some (.im (.int (b:Int))),z2,z3,z4,some (.im (.tup (P.map AS))),some (.im (Ar es))],rfl,CF ?_⟩;rw[if_pos rfl];refine BZ (A1 rfl ⟨_,rfl,?_⟩);rw[J9];refine JV (I_k2 P es a b bs) ⟨[],P,_,_,_,bs,rfl,rfl,rfl,rfl,by simp,by simp⟩ ?_ ?_
   .rintro d r ls hd ⟨d1,r2,y2,y3,y4,cs,e2,er,rfl,rfl,lc,hc⟩;cases r2 with
    |nil=>cases er
    |cons p r2=>
     obtain⟨rfl,rfl⟩:=List.cons.inj er;have l2:=congrArg List.length e2;simp only[length_append,length_cons]at l2;obtain⟨k,x,y⟩:=p;refine⟨[some (.im (.int (a:Int))),some (.im (.int (b:Int))),some (.im (.int (k:Int))),some (.im (.int x)),some (.im (.int y)),some (.im (.tup (P.map AS))),some (.im (Ar es))],rfl,AQ (A7 (A1 rfl (A1 rfl (CY ⟨_,rfl,?_⟩))))⟩;by_cases hk:(k:Int)=(b:Int)
     .rw[if_pos (by simpa using hk)];refine A7 (A7 (A1 rfl (A1 rfl (AR (e:=.im (.int (Pl.E P a))) rfl (FR rfl (by simp[hes,ha])) (A1 rfl (HL (Ed rfl (Ch (by rw[length_map];omega)) ?_)))))));refine⟨AJ _,d1++[(k,x,y)],r2,_,_,_,cs++[decide (Pl.E P a<=x)],by rw[e2];simp,rfl,rfl,by simp[blD],by simp;omega,?_⟩;rw[List.all_append,Bool.and_eq_true,hc];constructor
      .rintro⟨⟨h1,h2⟩,h3⟩;refine⟨h1,λp hp ep=>?_⟩;rcases mem_append.mp hp with q|q
       .exact h2 p q ep
       .rw[mem_singleton]at q;subst q;simpa using h3
      .rintro⟨h1,h2⟩;refine⟨⟨h1,λp hp ep=>h2 p (mem_append_left _ hp) ep⟩,?_⟩;have:=h2 (k,x,y) (by simp) hk;simpa using this
     .rw[if_neg (by simpa using hk)];refine⟨AJ _,d1++[(k,x,y)],r2,_,_,_,cs,by rw[e2];simp,rfl,rfl,rfl,by simp;omega,hc.trans ?_⟩;refine and_congr_right λ_=>⟨λh p hp ep=>?_,λh p hp ep=>h p (mem_append_left _ hp) ep⟩
      rcases mem_append.mp hp with q|q
      .exact h p q ep
      .rw[mem_singleton]at q;subst q;exact absurd ep hk
   .rintro ls hd ⟨d1,r2,y2,y3,y4,cs,e2,er,rfl,rfl,lc,hc⟩;have:r2=[]:=by cases r2 with
     |nil=>rfl
     |cons _ _=>cases er
    subst this;rw[append_nil]at e2;subst e2;refine⟨AJ _,d0++[((a:Int),(b:Int))],rest,_,_,_,_,_,cs,by rw[e1];simp,rfl,rfl,rfl,by simp;omega,hc.trans ?_⟩;rw[hb];constructor
    .rintro⟨h1,h2⟩ q hq p hp ep;rcases mem_append.mp hq with z|z
     .exact h1 q z p hp ep
     .rw[mem_singleton]at z;subst z;simpa using h2 p hp ep
    .intro h;refine⟨λq hq=>h q (mem_append_left _ hq),λp hp ep=>?_⟩;have:=h ((a:Int),(b:Int)) (by simp) p hp ep;simpa using this
 .rintro ls hd ⟨d0,rest,z0,z1,z2,z3,z4,bs,e1,er,rfl,rfl,lb,hb⟩;have:rest=[]:=by cases rest with
   |nil=>rfl
   |cons _ _=>cases er
  subst this;rw[append_nil]at e1;subst e1;refine A5 (Bq rfl (by rw[Dp,show C1 (blD _)=some _ from blsD_map _];rfl) ⟨_,rfl,hb⟩)
def Mg:∀as bs:List Int,PyData.eqvAll (as.map PyData.int) (bs.map PyData.int)=decide (as=bs)
 |[],[]=>by simp[PyData.eqvAll]
 |[],b::r=>by simp[PyData.eqvAll]
 |a::r,[]=>by simp[PyData.eqvAll]
 |a::r,b::s=>by
  have ih:=Mg r s;simp only[map_cons,PyData.eqvAll,PyData.eqv,ih];by_cases h:a=b
  .subst h;simp
  .simp[h]
def NK{ma:ME}{ml:MA}{ls:Ls}{hd:Hd}{QE:D->Hd->Prop}(h:WE ma ls hd λd x=>WA ml ls x λds y=>∃as bs:List Int,pyD y d=some (.list (as.map PyData.int))/\ds=intD bs/\QE (.im (.bl (!decide (as=bs)))) y):WE (D8 true ma ml) ls hd QE:=by
 obtain⟨d,x,e1,ds,y,e2,as,bs,e3,rfl,q⟩:=h;refine⟨_,y,?_,q⟩;unfold D8;rw[e1];simp only[bind_some,e2,e3];simp only[intD,Cr,bind_some,Cb];unfold K2;rw[if_pos ⟨MK as,MK bs,by simp[PyData.depth,ET]⟩];simp[PyData.eqv,Mg]
def Pj{F:List D->Hd->Option (D×Hd)}{m:MA}{ls:Ls}{hd:Hd}{QE:D->Hd->Prop}(h:WA m ls hd λds rest=>B2 0 ds=true/\WF F ds [] λd x=>∃k es,d=.mu k/\x[k]?=some (.lst es)/\B2 0 es=true/\QE (.mu rest.length) (rest++[.lst es])):WE (A8 0 F m) ls hd QE:=by
 obtain⟨ds,rest,e,hc,d,x,e2,k,es,rfl,e3,c3,q⟩:=h;refine⟨_,_,?_,q⟩;have t3:¬ k<0:=by omega
 simp only[A8,e,bind_some,List.take_zero,hc,e2,fin,if_neg t3,e3,c3,if_true];simp
structure IsPl(ws:List Wk)(W:List (Int×Int))(P:List Pl.Pc):Prop where
 pc:∀p∈P,Gp ws p
 zp:IV P
 dn:∀k,k<ws.length->Pl.dn P k=lnW ws k
 kp:Zi W P
def Qm(n8:ws.length<=8){P:List Pl.Pc}(hP:∀p∈P,p.1<ws.length)(hl:P.length<=62){W:List (Int×Int)}(hW:Wsh ws.length W):
 WF FC [.im (BQ ws),.im (wI W),.im (.tup (P.map AS))] [] λd x=>∃b:Bool,d=.im (.bl b)/\(b=true↔IsPl ws W P):=by
 unfold FC;refine Ag rfl ?_;refine AC (Am (Ex (BW (B3 (DK (A1 rfl ⟨_,rfl,_,rfl,?_⟩))))));rw[if_neg (by decide)];refine BW (B3 (Cz (B4 (BZ (A1 rfl ⟨_,rfl,Ab (by simp;omega),?_⟩)))));rw[J9];refine Ba (λp=>D.im (AS p)) (λp=>some (.im (.bl (decide (Gp ws p))))) (λ_ ls=>∃x,ls=[some x,some (.im (BQ ws))]) _ (AJ _) ?_ ?_
 .rintro p hp ls hls;refine⟨[some (.im (AS p)),some (.im (BQ ws))],by rcases hls with rfl|⟨_,x,rfl⟩<;>rfl,⟨_,rfl⟩,CF ⟨rfl,?_⟩⟩;rw[if_pos rfl];refine⟨_,rfl,AF (A3 (A1 rfl (A3 (A1 rfl (A5 ⟨by simp,(Vw (hP p hp)).mono ?_⟩)))))⟩;rintro d x rfl;exact⟨_,rfl,rfl,rfl⟩
 have e:(P.filterMap λp=>some (D.im (.bl (decide (Gp ws p)))))=blD (P.map λp=>decide (Gp ws p)):=by simp[blD]
 rw[e];refine⟨_,Jw _,_,rfl,λh=>?_,λh=>AY (A6 ?_)⟩
 .refine AU (AG ⟨_,rfl,(λz=>by cases z),λI=>?_⟩);rw[Bool.not_eq_true',all_map,List.all_eq_false]at h;obtain⟨p,hp,q⟩:=h;exact absurd (decide_eq_true (I.pc p hp)) q
 have hpc:∀p∈P,Gp ws p:=λp hp=>by
  rw[Bool.not_eq_false',all_map,all_eq_true]at h;exact of_decide_eq_true (h p hp)
 refine AC (Am (BW (B3 (AF (A3 (A1 rfl (A5 ⟨by simp,(aQ hl).mono ?_⟩)))))));rintro d x rfl;refine⟨_,rfl,_,rfl,λh=>?_,λh=>AY (A6 ?_)⟩
 .refine AU (AG ⟨_,rfl,(λz=>by cases z),λI=>?_⟩);rw[decide_eq_true I.zp]at h;cases h
 have hz:IV P:=by
  by_cases q:IV P
  .exact q
  .rw[decide_eq_false q]at h;cases h
 refine AC (Am (AQ (NK (Pj (A3 (A1 rfl (A3 (A1 rfl (A5 ⟨by simp,(Zc n8 hP).mono ?_⟩)))))))));rintro d x ⟨rfl,rfl⟩;refine⟨0,_,rfl,rfl,FA _ _,?_⟩;refine B4 (BZ (A1 rfl ⟨_,rfl,Ab (by simp;omega),?_⟩));rw[show(ws.map BJ).map D.im=ws.map λw=>D.im (BJ w) by simp];refine Ba (λw=>D.im (BJ w)) (λw:Wk=>some (.im (.int w.len))) (λ_ ls=>∃x,ls=[some x]) _ (AJ _) ?_ ?_
 .rintro w hw ls hls;refine⟨[some (.im (BJ w))],by rcases hls with rfl|⟨_,x,rfl⟩<;>rfl,⟨_,rfl⟩,CF ⟨rfl,?_⟩⟩;rw[if_pos rfl];exact⟨_,rfl,A7 (A1 rfl (AG (AR rfl (Mr _ _) ⟨rfl,rfl⟩)))⟩
 have el:ws.map Wk.len=(List.range ws.length).map (lnW ws):=by
  refine ext_getElem? λi=>?_;by_cases hi:i<ws.length
  .simp[hi,lnW]
  .simp[hi]
 have e0:(ws.filterMap λw=>some (D.im (.int w.len)))=intD ((List.range ws.length).map (lnW ws)):=by rw[<- el];simp[intD]
 rw[e0];have eqd:dnL ws.length P=(List.range ws.length).map (lnW ws)↔∀k,k<ws.length->Pl.dn P k=lnW ws k:=by
  unfold dnL;rw[List.map_inj_left];simp
 refine⟨_,_,Nd rfl,rfl,_,rfl,λh=>?_,λh=>AY (A6 ?_)⟩
 .refine AU (AG ⟨_,rfl,(λz=>by cases z),λI=>?_⟩);rw[decide_eq_true (eqd.mpr I.dn)]at h;cases h
 have hd:∀k,k<ws.length->Pl.dn P k=lnW ws k:=by
  refine eqd.mp ?_;by_cases q:dnL ws.length P=(List.range ws.length).map (lnW ws)
  .exact q
  .rw[decide_eq_false q]at h;cases h
 refine AU (AF (A3 (A1 rfl (A3 (A1 rfl (A3 (AF (A3 (A1 rfl (A3 (A1 rfl (A5 ⟨by simp,(Qz n8 hP).mono ?_⟩))))))))))));rintro d x rfl;refine⟨_,rfl,A5 ⟨by simp,(Wd hW hl).mono ?_⟩⟩;rintro d x ⟨b,rfl,hb⟩;exact⟨_,rfl,_,rfl,hb.trans ⟨λk=>⟨hpc,hz,hd,k⟩,λI=>I.kp⟩⟩
end
local macro_rules | `(tactic| nofun) => `(tactic| repeat (first | (with_reducible refine A6 ?_; try dsimp only [set_cons_zero, set_cons_succ, map_cons, map_nil, cons_append, nil_append, List.replicate, Nat.reduceSub, Int.reduceToNat]) | (with_reducible first | refine Ro ?_ | refine AC ?_ | refine AL ?_ | refine AU ?_ | refine Bx ?_ | refine AY ?_ | refine Am ?_ | refine X3 ?_ | refine HK ?_ | refine BX ?_ | refine A1 (d := _) rfl ?_ | refine AG ?_ | refine A7 ?_ | refine Br ?_ | refine Bs ?_ | refine Cz ?_ | refine Ga ?_ | refine BK ?_ | refine HM ?_ | refine Fp ?_ | refine Ui ?_ | refine AQ ?_ | refine BW ?_ | refine FU ?_ | refine Ex ?_ | refine CF ?_ | refine A5 ?_ | refine A3 ?_ | refine By ?_ | refine B4 ?_ | refine Hw ?_ | refine U4 ?_ | refine BZ ?_ | refine b7 ?_ | refine LS ?_ | refine BY ?_ | refine DJ ?_ | refine Fm ?_ | refine HL ?_ | refine IZ ?_ | refine U3 ?_ | refine CY ?_ | refine LQ ?_ | refine X6 ?_ | refine Pf ?_ | refine JT ?_ | refine Ud ?_ | refine ⟨_, rfl, ?_⟩) | refine AR rfl (Mr _ _) ?_ | refine AR rfl (FS _ _ _) ?_ | refine AR rfl (GK _ _ _ _) ?_ | refine ⟨_, _, _, _, rfl, rfl, rfl, rfl, ?_⟩ | refine ⟨⟨_, rfl⟩, ?_⟩ | refine ⟨JJ, ?_⟩ | refine ⟨Es, ?_⟩ | refine ⟨ZL, ?_⟩ | refine ⟨Qs, ?_⟩ | refine ⟨E9, ?_⟩ | refine ⟨Et, ?_⟩ | (with_reducible first | refine we_nilEN ?_)))
def SK{n:Nat}(h:n<=8):Ft (n:Int):=Di (by omega) (by omega)
def Rf(k:Nat)(n:Nat)(hn:n<=8):∀a b,T (k+100) a b->WF GM [.mu 1,.im (.int (n:Int))] [a,b] λd x=>∃i a' b' g,d=.im i/\(∃ps,i=wI ps/\Wsh n ps)/\T k a' b'/\x=a'::b'::g:=by
 intro a b hT;unfold GM;refine Ag rfl ?_
 nofun
 refine Uj rfl (SJ (by omega) (by omega)) ?_
 nofun
 refine⟨SK (by omega),?_⟩;refine B9 (λr ls hd=>∃(left seq:List Nat) (a b:MO) (z4:Option D),r=AW (seq.length:Int) (n-seq.length)/\ls=[some (.mu 1),some (.im (.int (n:Int))),some (.mu 2),some (.mu 3),z4,none,none,none,none]/\hd=[a,b,.lst (BA left),.lst (BA seq)]/\T (k+80+left.length) a b/\(seq++left).Perm (List.range n)) ?_ ?_ ?_
 .refine⟨List.range n,[],a,b,none,by simp,rfl,?_,tap.le hT (by simp;omega),by simp⟩;rw[toNat_natCast,Fv];rfl
 .rintro d r ls hd ⟨left,seq,a,b,z4,er,rfl,rfl,hT,pm⟩;have sl:seq.length+left.length=n:=by simpa using pm.length_eq
  obtain⟨m,hm⟩:∃m,n-seq.length=m+1:=by
   cases q:n-seq.length with
   |zero=>rw[q]at er;cases er
   |succ m=>exact⟨m,rfl⟩
  rw[hm,AW]at er;obtain⟨rfl,rfl⟩:=List.cons.inj er;obtain⟨l,hl2⟩:∃l,left.length=l+1:=⟨left.length-1,by omega⟩
  rw[hl2]at hT;refine⟨_,rfl,?_⟩;dsimp only[set_cons_zero,set_cons_succ]
  nofun
  refine tap.draw (many:=(left.length:Int)) (rest:=[.lst (BA left),.lst (BA seq)]) hT (by simp[BT]) (by omega) (by omega) λr a b hT pr qr=>?_
  nofun
  have hr:r.toNat<left.length:=by omega
  have e1:left[r.toNat]?=some left[r.toNat]:=by simp[hr]
  refine Re rfl (Di (by omega) (by omega)) (Nt (n:=(BA left).length) pr (by simp;omega)) (by simp[e1];rfl) ?_
  nofun
  refine Ed rfl (Ch (by simp;omega)) ?_;refine⟨AJ _,left.eraseIdx r.toNat,seq++[left[r.toNat]],a,b,_,?_,rfl,?_,by rw[List.length_eraseIdx,if_pos hr];exact tap.le hT (show k+80+(left.length-1)<=k+80+l by omega),(QX e1).trans pm⟩
  .rw[length_append,List.length_singleton,show n-(seq.length+1)=m by omega];rfl
  .have er:(BA left).eraseIdx r.toNat=BA (left.eraseIdx r.toNat):=KY _ _ _;simp[er]
 .rintro ls hd ⟨left,seq,a,b,z4,er,rfl,rfl,hT,pm⟩;have sl:seq.length+left.length=n:=by simpa using pm.length_eq
  have:n-seq.length=0:=by
   cases q:n-seq.length with
   |zero=>rfl
   |succ m=>rw[q]at er;cases er
  have hl:left=[]:=length_eq_zero_iff.mp (by omega);subst hl;simp only[append_nil]at pm;have sl:seq.length=n:=by simpa using sl
  simp only[length_nil]at hT
  nofun
  refine tap.draw hT rfl (by first|decide|omega) (by first|decide|omega) λr1 a b hT pr1 qr1=>?_
  nofun
  refine⟨SK (by omega),?_⟩;refine B9 (λr ls hd=>∃(ps:List (Int×Int)) (i:Nat) (a b:MO) (z y:Option D),r=AW (i:Int) (n-i)/\i<=n/\ls=[some (.mu 1),some (.im (.int (n:Int))),some (.mu 2),some (.mu 3),z4,some (.im (.int r1)),some (.mu 4),z,y]/\hd=[a,b,.lst [],.lst (BA seq),.lst (ps.map Ah)]/\T (k+8*(n-i)) a b/\ps.length<=8*i-i/\Along seq ps) ?_ ?_ ?_
  .exact⟨[],0,a,b,none,none,by simp,by omega,rfl,rfl,tap.le hT (by omega),by simp,(by intro p hp;cases hp)⟩
  .rintro d r ls hd ⟨ps,i,a,b,z,y,er,hi,rfl,rfl,hT,hl,ho⟩;obtain⟨m,hm⟩:∃m,n-i=m+1:=by
    cases q:n-i with
    |zero=>rw[q]at er;cases er
    |succ m=>exact⟨m,rfl⟩
   rw[hm,AW]at er;obtain⟨rfl,rfl⟩:=List.cons.inj er;rw[hm]at hT;refine⟨_,rfl,?_⟩;dsimp only[set_cons_zero,set_cons_succ];refine BX (U4 (A3 (A7 (A1 rfl (AG (BY (A3 (A1 rfl (A5 ⟨(i:Int)+1,(n:Int),rfl,V2 (by omega) (by omega) (by omega) (by omega),?_⟩)))))))));rw[show((n:Int)-((i:Int)+1)).toNat=n-(i+1) by omega,show(i:Int)+1=((i+1:Nat):Int) by omega];refine B9 (λr ls hd=>∃(ps:List (Int×Int)) (j:Nat) (a b:MO) (y:Option D),r=AW (j:Int) (n-j)/\i<j/\j<=n/\ls=[some (.mu 1),some (.im (.int (n:Int))),some (.mu 2),some (.mu 3),z4,some (.im (.int r1)),some (.mu 4),some (.im (.int (i:Int))),y]/\hd=[a,b,.lst [],.lst (BA seq),.lst (ps.map Ah)]/\T (k+8*m+(n-j)) a b/\ps.length+(i+1)<=8*i-i+j/\Along seq ps) ?_ ?_ ?_
   .exact⟨ps,i+1,a,b,y,rfl,by omega,by omega,rfl,rfl,tap.le hT (by omega),by omega,ho⟩
   .rintro d r ls hd ⟨ps,j,a,b,y,er,hij,hj,rfl,rfl,hT,hl,ho⟩;obtain⟨m2,hm2⟩:∃m2,n-j=m2+1:=by
     cases q:n-j with
     |zero=>rw[q]at er;cases er
     |succ m=>exact⟨m,rfl⟩
    rw[hm2,AW]at er;obtain⟨rfl,rfl⟩:=List.cons.inj er;have ej:((j:Int)+1)=((j+1:Nat):Int):=by omega
    have em:m2=n-(j+1):=by omega
    have hT:T (k+8*m+(n-(j+1))+1) a b:=tap.le hT (by omega);refine⟨_,rfl,?_⟩;dsimp only[set_cons_zero,set_cons_succ];refine Am (AQ (A7 ?_));refine tap.draw (many:=4) (rest:=[.lst [],.lst (BA seq),.lst (ps.map Ah)]) hT rfl (by omega) (by omega) λr a b hT pr qr=>?_;refine A1 rfl (Fm ⟨_,rfl,λ_=>?_,λ_=>?_⟩)
    .have hj1:j<seq.length:=by omega
     have hi1:i<seq.length:=by omega
     have sj:seq[j]?=some seq[j]:=by simp[hj1]
     have si:seq[i]?=some seq[i]:=by simp[hi1]
     refine Bx (HM (A1 rfl ⟨⟨_,rfl⟩,A3 (Br (A3 (A7 (A1 rfl (A1 rfl (AR rfl (M9 si) (A3 (A7 (A1 rfl (A1 rfl (AR rfl (M9 sj) (A5 ⟨JJ,A5 (Ed rfl (Ch (by simp;omega)) ?_)⟩))))))))))))⟩));refine⟨AJ _,ps++[((seq[i]:Int),(seq[j]:Int))],j+1,a,b,_,by rw[ej,em],by omega,by omega,rfl,by simp[Ah,Jm,Gu],hT,by simp;omega,?_⟩;intro p hp;rcases mem_append.mp hp with hp|hp
     .exact ho p hp
     .simp at hp;exact⟨i,j,_,_,by omega,si,sj,hp⟩
    .exact AY ⟨AJ _,ps,j+1,a,b,_,by rw[ej,em],by omega,by omega,rfl,rfl,hT,by omega,ho⟩
   .rintro ls hd ⟨ps,j,a,b,y,er,hij,hj,rfl,rfl,hT,hl,ho⟩;have:n-j=0:=by
     cases q:n-j with
     |zero=>rfl
     |succ m=>rw[q]at er;cases er
    exact⟨AJ _,ps,i+1,a,b,_,_,by rw[show n-(i+1)=m by omega]<;>rfl,by omega,rfl,rfl,tap.le hT (by omega),by omega,ho⟩
  .rintro ls hd ⟨ps,i,a,b,z,y,er,hi,rfl,rfl,hT,hl,ho⟩;have pk:=ho.pok pm (by omega);have c64:ps.length<64/\∀q∈ps,pok q:=⟨by omega,pk⟩
   nofun
   have sub:((Aw ps).take 16).Sublist (Aw ps):=List.take_sublist _ _;have cut:Ci ((Aw ps).map Ah) none (some 16)=((Aw ps).map Ah).take 16:=Tr ((Aw ps).map Ah) 16;have mk:AX (((Aw ps).map Ah).take 16)=.im (.tup (((Aw ps).take 16).map Gu)):=by
    have:((Aw ps).map Ah).take 16=(((Aw ps).take 16).map Gu).map D.im:=by rw[<- map_take,map_map];rfl
    rw[this,Be]
   refine WP.eq (z:=((Aw ps).take 16).map Ah) (h:=[a,b,.lst [],.lst (BA seq),.lst (ps.map Ah),.lst ((Aw ps).map Ah)]) ?_ ?_
   .simp;rw[if_pos c64];simp[cut]
   .refine⟨_,rfl,_,a,b,_,?_,⟨(Aw ps).take 16,rfl,by rw[length_take];omega,seq,pm,λp h=>ho p ((Fr ps).mem_iff.mp (sub.subset h))⟩,tap.le hT (by omega),rfl⟩;rw[map_take];exact mk
abbrev flD(n:Nat)(f:Nat->Int):List D:=intD ((List.range n).map f)
def upd(f:Nat->Int)(k:Nat)(v:Int):Nat->Int:=λj=>if j=k then v else f j
def JI{n:Nat}{f:Nat->Int}{k:Nat}(hk:k<n):atI (flD n f) (k:Int)=some (.im (.int (f k))):=FR rfl (by simp[flD,intD,hk])
def ZK{n:Nat}{f:Nat->Int}{k:Nat}{v:Int}(hk:k<n):(flD n f).set k (.im (.int v))=flD n (upd f k v):=by
 refine ext_getElem? λi=>?_;rw[List.getElem?_set];by_cases hi:k=i
 .subst hi;simp[flD,intD,upd,hk]
 .by_cases hi2:i<n
  .have:¬ i=k:=λz=>hi z.symm;simp[hi,flD,intD,upd,hi2,this]
  .simp[hi,flD,intD,hi2]
structure PlI(n:Nat)(l:Nat->Int)(c:Int)(W:List (Int×Int))(t:Nat)(left:Nat->Int)(P:List Pl.Pc)(now:Int):Prop where
 dn:∀k,k<n->Pl.dn P k=l k-left k
 nn:∀k,k<n->0<=left k/\left k<=20
 ch:P.Pairwise λp q=>p.2.2<=q.2.1
 ea:∀p∈P,p.1<n/\c<=p.2.1/\p.2.1<p.2.2/\p.2.2<=now
 n0:0<=now/\now<=60+24*t
 kp:∀q∈W,∀p∈P,(p.1:Int)=q.2->left q.1.toNat=0/\∀r∈P,(r.1:Int)=q.1->r.2.2<=p.2.1
 ln:P.length<=t
 un:((List.range n).filter λk=>decide (0<left k)).length<=3*n-t
def opn(n:Nat)(W:List (Int×Int))(left:Nat->Int):List Nat:=(List.range n).filter λk=>decide (0<left k/\∀q∈W,q.2=(k:Int)->left q.1.toNat=0)
def TH{n:Nat}{W:List (Int×Int)}(hW:Wsh n W){left:Nat->Int}(nn:∀k,k<n->0<=left k){k:Nat}(hk:k<n)(h0:0<left k):opn n W left≠[]:=by
 obtain⟨seq,pm,al⟩:=hW.al;have nd:seq.Nodup:=pm.nodup_iff.mpr nodup_range;have:∀(m i:Nat),i<=m->∀j,seq[i]?=some j->0<left j->∃j,j<n/\0<left j/\∀q∈W,q.2=(j:Int)->left q.1.toNat=0:=by
  intro m
  induction m with
  |zero=>
   intro i hi j hj h0;have hi:i=0:=by omega
   subst hi;refine⟨j,by simpa using pm.mem_iff.mp (mem_of_getElem? hj),h0,λq hq e=>?_⟩;obtain⟨x,y,a,b,hxy,e1,e2,rfl⟩:=al q hq;have:b=j:=by have e:(b:Int)=(j:Int):=e;omega
   subst this;have:=(List.getElem?_inj (i:=y) (j:=0) (by exact(List.getElem?_eq_some_iff.mp e2).1) nd).mp (e2.trans hj.symm);omega
  |succ m ih=>
   intro i hi j hj h0;by_cases hb:∀q∈W,q.2=(j:Int)->left q.1.toNat=0
   .exact⟨j,by simpa using pm.mem_iff.mp (mem_of_getElem? hj),h0,hb⟩
   .simp only[Classical.not_forall]at hb;obtain⟨q,hq,e,hl⟩:=hb;obtain⟨x,y,a,b,hxy,e1,e2,rfl⟩:=al q hq;have:b=j:=by have e:(b:Int)=(j:Int):=e;omega
    subst this;have hy:=(List.getElem?_inj (i:=y) (j:=i) (by exact(List.getElem?_eq_some_iff.mp e2).1) nd).mp (e2.trans hj.symm);have ha:a<n:=by simpa using pm.mem_iff.mp (mem_of_getElem? e1)
    have hl:left a≠0:=by simpa using hl
    have:=nn a ha;exact ih x (by omega) a e1 (by omega)
 obtain⟨i,hi,ei⟩:=List.getElem_of_mem (pm.mem_iff.mpr (by simpa using hk:k∈List.range n));obtain⟨j,hj,h1,h2⟩:=this i i (le_refl _) k (by rw[List.getElem?_eq_getElem hi,ei]) h0;exact List.ne_nil_of_mem (mem_filter.mpr ⟨by simpa using hj,decide_eq_true ⟨h1,h2⟩⟩)
def Tl{n:Nat}{f g:Nat->Bool}{k:Nat}(hk:k<n)(hf:f k=true)(hg:g k=false)(h:∀j,j≠k->g j=f j):((List.range n).filter g).length+1=((List.range n).filter f).length:=by
 have:∀L:List Nat,L.Nodup->k∈L->(L.filter g).length+1=(L.filter f).length:=by
  intro L
  induction L with
  |nil=>intro _ h;cases h
  |cons x r ih=>
   intro nd hm;obtain⟨h1,h2⟩:=nodup_cons.mp nd;by_cases e:x=k
   .subst e;have:r.filter g=r.filter f:=List.filter_congr λj hj=>h j λz=>h1 (z ▸ hj);rw[filter_cons,filter_cons,hf,hg,this];simp
   .have ih:=ih h2 ((mem_cons.mp hm).resolve_left λz=>e z.symm);rw[filter_cons,filter_cons,h x e];cases f x<;>simp<;>omega
 exact this _ nodup_range (by simpa using hk)
def PlI.put{n:Nat}{l:Nat->Int}{c:Int}{W:List (Int×Int)}{t:Nat}{left:Nat->Int}{P:List Pl.Pc}{now:Int}(I:PlI n l c W t left P now)(hW:Wsh n W){k:Nat}(hk:k∈opn n W left){b m:Int}(hb:now<=b)(hc:c<=b)(hb4:b<=60+24*t+4)(m1:1<=m)(m2:m<=left k)(hf:2*n<=t->m=left k)(ht:t<3*n):PlI n l c W (t+1) (upd left k (left k-m)) (P++[(k,b,b+m)]) (b+m):=by
 obtain⟨k1,k2⟩:=mem_filter.mp hk;have kn:k<n:=by simpa using k1
 have k2:0<left k/\∀q∈W,q.2=(k:Int)->left q.1.toNat=0:=of_decide_eq_true k2;have kk:=I.nn k kn;have n0:=I.n0;have ups:∀j,left j=0->upd left k (left k-m) j=0:=λj hj=>by
  unfold upd;split
  .next e=>subst e;omega
  .exact hj
 refine⟨λj hj=>?_,λj hj=>?_,?_,λp hp=>?_,by omega,λq hq p hp e=>?_,by simp;have:=I.ln;omega,?_⟩
 .rw[Hg,I.dn j hj];unfold upd;by_cases e:k=j
  .subst e;simp;omega
  .rw[if_neg (show ¬ (k,b,b+m).1=j from e),if_neg (λz=>e z.symm)];omega
 .have:=I.nn j hj;unfold upd;split
  .next e=>subst e;omega
  .exact this
 .rw[List.pairwise_append];refine⟨I.ch,by simp,λp hp q hq=>?_⟩;rw[mem_singleton]at hq;subst hq;have:=(I.ea p hp).2.2.2;dsimp only;omega
 .rcases mem_append.mp hp with hp|hp
  .have:=I.ea p hp;exact⟨this.1,this.2.1,this.2.2.1,by omega⟩
  .rw[mem_singleton]at hp;subst hp;exact⟨kn,hc,by dsimp only;omega,Int.le_refl _⟩
 .rcases mem_append.mp hp with hp|hp
  .obtain⟨g1,g2⟩:=I.kp q hq p hp e;refine⟨ups _ g1,λr hr er=>?_⟩;rcases mem_append.mp hr with hr|hr
   .exact g2 r hr er
   .rw[mem_singleton]at hr;subst hr;have:q.1.toNat=k:=by have:((k:Nat):Int)=q.1:=er;omega
    rw[this]at g1;omega
  .rw[mem_singleton]at hp;subst hp;have g1:=k2.2 q hq e.symm;refine⟨ups _ g1,λr hr er=>?_⟩;rcases mem_append.mp hr with hr|hr
   .have:=(I.ea r hr).2.2.2;dsimp only;omega
   .rw[mem_singleton]at hr;subst hr;have:q.1.toNat=k:=by have:((k:Nat):Int)=q.1:=er;omega
    rw[this]at g1;omega
 .by_cases h:2*n<=t
  .have hm:=hf h;have:=Tl (n:=n) (f:=λj=>decide (0<left j)) (g:=λj=>decide (0<upd left k (left k-m) j)) kn (by simpa using k2.1) (by simp[upd,hm]) (λj hj=>by simp[upd,hj]);have:=I.un;omega
  .have:((List.range n).filter λj=>decide (0<upd left k (left k-m) j)).length<=n:=le_trans (List.length_filter_le _ _) (by simp);omega
def PlI.idle{n:Nat}{l:Nat->Int}{c:Int}{W:List (Int×Int)}{t:Nat}{left:Nat->Int}{P:List Pl.Pc}{now:Int}(I:PlI n l c W t left P now)(hW:Wsh n W)(ho:opn n W left=[]):PlI n l c W (t+1) left P now:=by
 refine⟨I.dn,I.nn,I.ch,I.ea,by have:=I.n0;omega,I.kp,by have:=I.ln;omega,?_⟩;have:((List.range n).filter λk=>decide (0<left k))=[]:=by
  rw[List.filter_eq_nil_iff];intro k hk;have hk:k<n:=by simpa using hk
  simpa using λh0=>TH hW (λj hj=>(I.nn j hj).1) hk h0 ho
 rw[this];simp
def PlI.done{n:Nat}{l:Nat->Int}{c:Int}{W:List (Int×Int)}{left:Nat->Int}{P:List Pl.Pc}{now:Int}(I:PlI n l c W (3*n) left P now):∀k,k<n->left k=0:=λk hk=>by
 have h1:=I.un;rw[Nat.sub_self]at h1;have h2:=length_eq_zero_iff.mp (Nat.le_zero.mp h1);rw[List.filter_eq_nil_iff]at h2;have h3:=h2 k (by simpa using hk);have:=I.nn k hk;have:¬ 0<left k:=by simpa using h3
 omega
def at5{r:Int}(h0:0<=r)(h1:r<5):∃x:Int,(0<=x/\x<=4)/\atI [D.im (.int 0),.im (.int 0),.im (.int 0),.im (.int 1),.im (.int 4)] r=some (.im (.int x)):=by
 have:r=0∨r=1∨r=2∨r=3∨r=4:=by omega
 rcases this with rfl|rfl|rfl|rfl|rfl
 .exact⟨0,by omega,Bn (j:=0) rfl⟩
 .exact⟨0,by omega,Bn (j:=1) rfl⟩
 .exact⟨0,by omega,Bn (j:=2) rfl⟩
 .exact⟨1,by omega,Bn (j:=3) rfl⟩
 .exact⟨4,by omega,Bn (j:=4) rfl⟩
def Yv{n:Nat}(n8:n<=8){W:List (Int×Int)}(hW:Wsh n W){left:Nat->Int}{a b y:MO}{g:Hd}{z1 z6:Option D}{src:Option D}{z5 z7 z8 z9 z10:Option D}{QA:List D->Hd->Prop}(q:QA (BA (opn n W left)) (a::b::.lst (flD n left)::y::g)):
 WA (Ao 1 [4,2] (DQ (A2 (A0 3) A4)) (AD 0) (EJ (AE (mOp gGt (mOp gIx (A0 1) (A0 0)) (mC (.int 0)))) (BM (BN Dp (Ao 2 [0,1] (Al (A0 2)) (B0 2 (AH (AD 0) (AH (AD 1) B1))) (AE (mOp gEq (A0 1) (A0 2))) (mOp gEq (mOp gIx (A0 3) (A0 0)) (mC (.int 0))))))) (A0 0)) [src,z1,some (.im (wI W)),some (.im (.int (n:Int))),some (.mu 2),z5,z6,z7,z8,z9,z10] (a::b::.lst (flD n left)::y::g) QA:=by
 have h16:=hW.len;refine B4 (Hw (A3 (A1 rfl (A5 ⟨_,rfl,SK (by omega),?_⟩))));rw[toNat_natCast,Fv];refine⟨Ab (by simp[BA];omega),?_⟩;refine Ba (λk:Nat=>D.im (.int (k:Int))) (λk=>if 0<left k/\∀q∈W,q.2=(k:Int)->left q.1.toNat=0 then some (.im (.int (k:Int)))else none) (λ_ ls=>∃x,ls=[some x,some (.mu 2),some (.im (wI W))]) _ (AJ _) ?_ ?_
 .rintro k hk ls hls;have hk:k<n:=by simpa using hk
  refine⟨[some (.im (.int (k:Int))),some (.mu 2),some (.im (wI W))],by rcases hls with rfl|⟨_,x,rfl⟩<;>rfl,⟨_,rfl⟩,?_⟩;refine FU (AQ (A7 (A7 (A1 rfl (A1 rfl (AR (ds:=flD n left) rfl (JI hk) (AG (IZ ⟨_,rfl,?_⟩))))))));by_cases h0:0<left k
  .rw[if_pos (by simpa using h0)];refine B3 (Cz (B4 (BZ (A1 rfl ⟨W.map Ah,by rw[<- Rw.pairs_im];rfl,Ab (by simp;omega),?_⟩))));refine Ba (λp:Int×Int=>Ah p) (λp=>if p.2=(k:Int)then some (.im (.bl (decide (left p.1.toNat=0))))else none) (λ_ ls=>∃x y,ls=[some x,some y,some (.im (.int (k:Int))),some (.mu 2)]) _ (AJ _) ?_ ?_
   .rintro p hp ls hls;obtain⟨u,v,rfl,hu,hv⟩:=hW.nats p hp;refine⟨[some (.im (.int (u:Int))),some (.im (.int (v:Int))),some (.im (.int (k:Int))),some (.mu 2)],by rcases hls with rfl|⟨_,x,y,rfl⟩<;>rfl,⟨_,_,rfl⟩,?_⟩;refine AQ (A7 (A1 rfl (A1 rfl (CY ⟨_,rfl,rfl,?_⟩))));by_cases e:(v:Int)=(k:Int)
    .rw[if_pos (by simpa using e)];exact⟨_,if_pos e,A7 (A7 (A1 rfl (A1 rfl (AR (ds:=flD n left) rfl (JI hu) (AG (CY ⟨rfl,by simp⟩))))))⟩
    .rw[if_neg (by simpa using e)];exact if_neg e
   have ef:∀L:List (Int×Int),(L.filterMap λp:Int×Int=>if p.2=(k:Int)then some (D.im (.bl (decide (left p.1.toNat=0))))else none)=blD ((L.filter λp=>decide (p.2=(k:Int))).map λp=>decide (left p.1.toNat=0)):=λL=>by
    induction L with
    |nil=>rfl
    |cons p r ih=>
     rw[filterMap_cons,filter_cons];by_cases e:p.2=(k:Int)
     .simp[e]at ih ⊢;exact ih
     .simp[e]at ih ⊢;exact ih
   rw[ef];refine⟨_,Jw _,_,rfl,rfl,?_⟩;have ei:(((W.filter λp=>decide (p.2=(k:Int))).map λp=>decide (left p.1.toNat=0)).all id=true)↔∀q∈W,q.2=(k:Int)->left q.1.toNat=0:=by
    rw[all_eq_true];refine⟨λh q hq e=>?_,λh x hx=>?_⟩
    .have:=h _ (mem_map.mpr ⟨q,mem_filter.mpr ⟨hq,decide_eq_true e⟩,rfl⟩);exact of_decide_eq_true this
    .obtain⟨p,hp,rfl⟩:=mem_map.mp hx;obtain⟨h1,h2⟩:=mem_filter.mp hp;exact decide_eq_true (h p h1 (of_decide_eq_true h2))
   by_cases ha:∀q∈W,q.2=(k:Int)->left q.1.toNat=0
   .rw[if_pos (ei.mpr ha)];exact⟨_,if_pos ⟨h0,ha⟩,A1 rfl ⟨rfl,rfl⟩⟩
   .rw[if_neg (λz=>ha (ei.mp z))];exact if_neg (λz=>ha z.2)
  .rw[if_neg (by simpa using h0)];exact⟨rfl,if_neg (λz=>h0 z.1)⟩
 have ef:∀L:List Nat,(L.filterMap λk:Nat=>if 0<left k/\∀q∈W,q.2=(k:Int)->left q.1.toNat=0 then some (D.im (.int (k:Int)))else none)=BA (L.filter λk=>decide (0<left k/\∀q∈W,q.2=(k:Int)->left q.1.toNat=0)):=λL=>by
  induction L with
  |nil=>rfl
  |cons x r ih=>
   rw[filterMap_cons,filter_cons];by_cases h:0<left x/\∀q∈W,q.2=(x:Int)->left q.1.toNat=0
   .rw[if_pos h,if_pos (decide_eq_true h),ih];rfl
   .rw[if_neg h,if_neg (λz=>h (of_decide_eq_true z)),ih]
 rw[ef];exact q
abbrev EG(P:List Pl.Pc):List D:=P.map λp=>D.im (AS p)
abbrev Lp(ws:List Wm)(W:List (Int×Int))(now:Int)(z7 z8 z9 z10:Option D):Ls:=[some (.mu 1),some (.im (Aj ws)),some (.im (wI W)),some (.im (.int (ws.length:Int))),some (.mu 2),some (.mu 3),some (.im (.int now)),z7,z8,z9,z10]
inductive I_plan(ws:List Wm)(W:List (Int×Int))(c:Int)(kk:Nat)(r:List D)(ls:Ls)(hd:Hd):Prop
 |mk (t:Nat) (left:Nat->Int) (P:List Pl.Pc) (now:Int) (a b:MO) (g:Hd) (z7 z8 z9 z10:Option D) (h0:t<=3*ws.length) (h1:r=AW (t:Int) (3*ws.length-t)) (h2:ls=Lp ws W now z7 z8 z9 z10) (h3:hd=a::b::.lst (flD ws.length left)::.lst (EG P)::g) (h4:T (kk+4*(3*ws.length-t)) a b) (h5:PlI ws.length (BI ws) c W t left P now):I_plan ws W c kk r ls hd
inductive J_part(ws:List Wm)(W:List (Int×Int))(kk t k:Nat)(left:Nat->Int)(P:List Pl.Pc)(now:Int)(z8:Option D)(g:Hd)(f:Fl)(x:Hd):Prop
 |mk (m:Int) (a b:MO) (h0:f=Fl.nx (Lp ws W now (some (.im (.int (t:Int)))) z8 (some (.im (.int (k:Int)))) (some (.im (.int m))))) (h1:x=a::b::.lst (flD ws.length left)::.lst (EG P)::g) (h2:1<=m) (h3:m<=left k) (h4:2*ws.length<=t->m=left k) (h5:T kk a b):J_part ws W kk t k left P now z8 g f x
def Yc(kk:Nat){B c:Int}{ws:List Wm}(ok:Av B c ws){W:List (Int×Int)}(hW:Wsh ws.length W):∀a b,T (kk+100) a b->WF JS [.mu 1,.im (Aj ws),.im (wI W)] [a,b] λd x=>∃i a' b' g,d=.im i/\(∃P left now,i=.tup (P.map AS)/\PlI ws.length (BI ws) c W (3*ws.length) left P now)/\T kk a' b'/\x=a'::b'::g:=by
 intro a b hT;have n8:=ok.2.1;have hc:=ok.2.2.1;unfold JS;refine Ag rfl ?_;refine AC (AL (BK (A3 (A1 rfl (A5 (Bq (ds:=ws.map wmD) (by rw[if_pos rfl,CG,Bj]) rfl (A6 ?_)))))));rw[length_map];refine AC (AL (Bs (B4 (BZ (A1 rfl ⟨_,rfl,?_⟩)))));rw[Bj];refine⟨Ab (by simp;omega),?_⟩;refine Ba wmD (λw=>some (.im (.int w.len))) (λ_ ls=>∃x,ls=[some x]) _ (AJ _) ?_ ?_
 .rintro p hp ls hls;refine⟨[some (wmD p)],by rcases hls with rfl|⟨_,x,rfl⟩<;>rfl,⟨_,rfl⟩,CF ⟨rfl,?_⟩⟩;rw[if_pos rfl];exact⟨_,rfl,A7 (A1 rfl (AG (AR (ds:=[.im (.int p.len),.im (.int p.com),.im (.tup [.str "miss",.int p.due,.int p.wt])]) rfl (Mr _ _) ⟨rfl,rfl⟩)))⟩
 have e:(ws.filterMap λw=>some (D.im (.int w.len)))=flD ws.length (BI ws):=by
  refine ext_getElem (by simp[flD,intD]) λi h1 h2=>?_;simp[flD,intD]at h2;simp[flD,intD,BI,h2]
 rw[e];refine A6 (AC (AL (Bs (By (A5 ⟨E9,A6 ?_⟩)))));refine AC (AL (AG (A6 ?_)));refine AC (BX (Hw (A3 (A7 (AG (A1 rfl (IY (C0 (by omega) (by omega)) (A5 ⟨((3*ws.length:Nat):Int),by simp,Di (by omega) (by omega),?_⟩))))))));rw[toNat_natCast];refine B9 (I_plan ws W c kk) ⟨0,BI ws,[],0,a,b,[],none,none,none,none,by omega,rfl,rfl,rfl,tap.le hT (by omega),?_⟩ ?_ ?_
 .refine⟨λk hk=>?_,λk hk=>?_,.nil,λp hp=>(by cases hp),by omega,λq hq p hp=>(by cases hp),by simp,le_trans (List.length_filter_le _ _) (by simp;omega)⟩
  .show(0:Int)=_;omega
  .have:=(ok.2.2.2 _ (List.getElem_mem hk)).1;rw[LK hk]at this;omega
 .rintro d r ls hd ⟨t,left,P,now,a,b,g,z7,z8,z9,z10,ht,er,rfl,rfl,hT,I⟩;obtain⟨m,hm⟩:∃m,3*ws.length-t=m+1:=by
   cases q:3*ws.length-t with
   |zero=>rw[q]at er;cases er
   |succ m=>exact⟨m,rfl⟩
  rw[hm,AW]at er;obtain⟨rfl,rfl⟩:=List.cons.inj er;have ej:((t:Int)+1)=((t+1:Nat):Int):=by omega
  have em:m=3*ws.length-(t+1):=by omega
  have n0:=I.n0;have hPl:=I.ln;refine⟨Lp ws W now (some (.im (.int (t:Int)))) z8 z9 z10,rfl,?_⟩;refine AC (AL (Bs (Yv n8 hW (A6 ?_))));change WS _ (Lp ws W now (some (.im (.int (t:Int)))) (some (.mu (g.length+4))) z9 z10) (a::b::.lst (flD ws.length left)::.lst (EG P)::(g++[.lst (BA (opn ws.length W left))])) _;have hO:∀a b x y:MO,(a::b::x::y::(g++[MO.lst (BA (opn ws.length W left))]))[g.length+4]?=some (.lst (BA (opn ws.length W left))):=λa b x y=>by
   simp
  generalize g++[MO.lst (BA (opn ws.length W left))]=g' at hO ⊢;have ol:(opn ws.length W left).length<=8:=le_trans (List.length_filter_le _ _) (by simpa using n8);refine Am (AQ (NK (A1 rfl (By (A5 ⟨E9,(opn ws.length W left).map (λk:Nat=>(k:Int)),[],Nd (by rw[hO,Nj]),rfl,_,rfl,λh=>?_,λh=>?_⟩)))))
  .have hne:opn ws.length W left≠[]:=by simpa using h
   have ol0:0<(opn ws.length W left).length:=List.length_pos_iff.mpr hne;have hT:T (kk+4*(3*ws.length-(t+1))+3+1) a b:=tap.le hT (by omega);refine AC (AL (A7 (A1 rfl ?_)));refine tap.draw (many:=((opn ws.length W left).length:Int)) (rest:=.lst (flD ws.length left)::.lst (EG P)::g') hT (by simp[hO,BT]) (by omega) (by omega) λr a b hT pr qr=>?_;have hr:r.toNat<(opn ws.length W left).length:=by omega
   obtain⟨k,ek⟩:∃k,k=(opn ws.length W left)[r.toNat]:=⟨_,rfl⟩
   have hk:k∈opn ws.length W left:=by rw[ek];exact List.getElem_mem hr
   have kn:k<ws.length:=by simpa using (mem_filter.mp hk).1
   have k0:0<left k:=(of_decide_eq_true (mem_filter.mp hk).2).1;have eat:atI (BA (opn ws.length W left)) r=some (.im (.int (k:Int))):=by
    have:=M9 (seq:=opn ws.length W left) (i:=r.toNat) (a:=k) (by rw[ek];simp[hr])
    rwa [Int.toNat_of_nonneg pr]at this
   refine AR (ds:=BA (opn ws.length W left)) (by rw[OO,Ow,hO]) eat (A6 ?_)
   refine AC (AL (A7 (BK (A3 (A1 rfl (A3 (A7 (A7 (A1 rfl (A1 rfl (AR (by rw[CG,Bj]) (Fo kn) (AG (AR (ds:=[.im (.int (ws[k]).len),.im (.int (ws[k]).com),.im (.tup [.str "miss",.int (ws[k]).due,.int (ws[k]).wt])]) rfl (FS _ _ _) (A5 (JT (Ga (By (A3 (AG (A3 (AG (A3 (AG (A3 (AG (A3 (AG (A5 ⟨Qs,?_⟩))))))))))))))))))))))))))));have hT:T (kk+4*(3*ws.length-(t+1))+2+1) a b:=tap.le hT (by omega);refine tap.draw (many:=5) (rest:=.lst (flD ws.length left)::.lst (EG P)::g') hT rfl (by omega) (by omega) λr5 a b hT p5 q5=>?_;obtain⟨x,hx,ex⟩:=at5 p5 q5;refine⟨_,_,rfl,ex,BY (A6 ?_)⟩;rw[LR ok kn];refine AC (AL (A7 (A1 rfl (A1 rfl (AR (ds:=flD ws.length left) rfl (JI kn) (A6 ?_))))));change WS _ (Lp ws W (max now c+x) (some (.im (.int (t:Int)))) (some (.mu (g.length+4))) (some (.im (.int (k:Int)))) (some (.im (.int (left k))))) (a::b::.lst (flD ws.length left)::.lst (EG P)::g') _;refine AC (WP.mono (Q:=J_part ws W (kk+4*(3*ws.length-(t+1))) t k left P (max now c+x) (some (.mu (g.length+4))) g') (Am (FU (AQ (A7 (A1 rfl (A7 (AG (A1 rfl (IY (C0 (by omega) (by omega)) (Fm ⟨_,rfl,?_⟩)))))))))) ?_)
   .by_cases h2:(t:Int)<2*(ws.length:Int)
    .rw[if_pos (by simpa using h2)];have hT:T (kk+4*(3*ws.length-(t+1))+1+1) a b:=tap.le hT (by omega);refine AQ (A7 ?_);refine tap.draw (many:=2) (rest:=.lst (flD ws.length left)::.lst (EG P)::g') hT rfl (by omega) (by omega) λr2 a b hT p2 q2=>?_;refine AG (CY ⟨_,rfl,λ_=>?_,λ_=>AY ⟨left k,a,b,rfl,rfl,by omega,by omega,λ_=>rfl,tap.le hT (by omega)⟩⟩);refine AL (A7 (AG ?_));refine tap.draw (many:=left k) (rest:=.lst (flD ws.length left)::.lst (EG P)::g') hT ?_ k0 (by have:=I.nn k kn;omega) λrp a b hT pp qp=>?_
     .have:=JI (n:=ws.length) (f:=left) kn;simp[flD]at this;simp[flD,this]
     exact BY ⟨1+rp,a,b,rfl,rfl,by omega,by omega,λz=>by omega,hT⟩
    .rw[if_neg (by simpa using h2)];exact⟨(λh=>by cases h),λ_=>AY ⟨left k,a,b,rfl,rfl,by omega,by omega,λ_=>rfl,tap.le hT (by omega)⟩⟩
   rintro f y ⟨mm,a,b,rfl,rfl,m1,m2,m3,hT⟩;have I':=I.put hW hk (b:=max now c+x) (m:=mm) (by omega) (by omega) (by omega) m1 m2 m3 (by omega);refine A6 (AC (Bx (HM (A1 rfl ⟨⟨_,rfl⟩,A3 (Br (A3 (A1 rfl (A3 (A1 rfl (A3 (A7 (A1 rfl (A1 rfl (BY (A5 ⟨Es,A5 (Ed rfl (Ch (by simp;omega)) (A6 ?_))⟩)))))))))))⟩))));have hix:ixN (flD ws.length left).length (k:Int)=some k:=by unfold ixN;simp[flD,intD,kn]
   refine AC (HK (A7 (A7 (A1 rfl (A1 rfl (AR (ds:=flD ws.length left) rfl (JI kn) (A1 rfl (DJ (A1 rfl (A1 rfl ⟨2,(k:Int),k,_,rfl,rfl,rfl,hix,A6 ?_⟩))))))))));rw[ZK kn];refine AL (A7 (A1 rfl (A1 rfl (BY ⟨AJ _,t+1,upd left k (left k-mm),P++[(k,max now c+x,max now c+x+mm)],max now c+x+mm,a,b,g',_,_,_,_,by omega,by rw[ej,em],rfl,?_,hT,I'⟩))));show _::_::_::MO.lst _::_=_::_::_::MO.lst _::_;rw[WN];simp[EG,AS]
  .have ho:opn ws.length W left=[]:=by simpa using h
   exact AY ⟨AJ _,t+1,left,P,now,a,b,g',_,_,_,_,by omega,by rw[ej,em],rfl,rfl,tap.le hT (by omega),I.idle hW ho⟩
 .rintro ls hd ⟨t,left,P,now,a,b,g,z7,z8,z9,z10,ht,er,rfl,rfl,hT,I⟩;have:3*ws.length-t=0:=by
   cases q:3*ws.length-t with
   |zero=>rfl
   |succ m=>rw[q]at er;cases er
  have:t=3*ws.length:=by omega
  subst this;refine A6 (AU (BK (A3 (A1 rfl (A5 (Bq (ds:=EG P) rfl rfl ?_))))));rw[show EG P=(P.map AS).map D.im from(J9 P).symm,Be];exact⟨_,a,b,_,rfl,⟨P,left,now,rfl,I⟩,tap.le hT (by omega),rfl⟩
end T42
namespace Lt
def DU(t:Int):List Wx->Prop
 |[]=>True
 |x::r=>t+x.1<=x.2.1/\DU (t+x.1) r
def DD(S:List Wx):Int:=(S.map (·.1)).sum
def wtX(S:List Wx):Nat:=(S.map (·.2.2)).sum
def HB(x:Wx):∀(S:List Wx) (t:Int),DU t (S++[x])↔DU t S/\t+DD S+x.1<=x.2.1
 |[],t=>by simp[DU,DD]
 |y::r,t=>by
  have e:DD (y::r)=y.1+DD r:=by simp[DD]
  rw[cons_append,DU,DU,HB x r,e,show t+(y.1+DD r)=t+y.1+DD r by omega,and_assoc]
def S8{α:Type}{S A:List α}{x:α}(h:S.Sublist (A++[x])):S.Sublist A∨∃T,S=T++[x]/\T.Sublist A:=by
 obtain⟨t,u,e,h1,h2⟩:=List.sublist_append_iff.mp h;rcases List.sublist_cons_iff.mp h2 with q|⟨r,q1,q2⟩
 .have:u=[]:=by simpa using q
  subst this;rw[e,append_nil];exact .inl h1
 .have:r=[]:=by simpa using q2
  subst this;exact .inr ⟨t,by rw[e,q1],h1⟩
def Er{c:Int}{L:List Wx}:∀{i:Nat} {S:List Wx},S.Sublist (L.take i)->DU c S->∃e∈AN c L i,e.2.1=wtX S/\e.2.2=c+DD S
 |0,S,h,_=>by
  have:S=[]:=by simpa using h
  subst this;exact⟨(0,0,c),by simp[AN],by simp[wtX],by simp[DD]⟩
 |i+1,S,h,hS=>by
  rw[AN];cases hx:L[i]? with
  |none=>
   have hl:L.length<=i:=by simpa using hx
   rw[take_of_length_le (by omega)]at h;obtain⟨e,h1,h2⟩:=Er (i:=i) (S:=S) (by rw[take_of_length_le hl];exact h) hS;exact⟨e,mem_append_left _ h1,h2⟩
  |some x=>
   have hi:i<L.length:=(List.getElem?_eq_some_iff.mp hx).1;rw[List.take_succ_eq_append_getElem hi,(List.getElem?_eq_some_iff.mp hx).2]at h;rcases S8 h with q|⟨T,rfl,q⟩
   .obtain⟨e,h1,h2⟩:=Er q hS;exact⟨e,mem_append_left _ h1,h2⟩
   .obtain⟨g1,g2⟩:=(HB x T c).mp hS;obtain⟨e,h1,h2,h3⟩:=Er q g1;refine⟨(i+1,e.2.1+x.2.2,e.2.2+x.1),mem_append_right _ (mem_map.mpr ⟨e,mem_filter.mpr ⟨h1,?_⟩,rfl⟩),?_,?_⟩
    .simp only[decide_eq_true_eq];omega
    .simp[wtX,h2]
    .simp[DD]at h3 ⊢;omega
def Fy{c:Int}{L:List Wx}:∀{i:Nat} {e:En},e∈AN c L i->∃S,S.Sublist (L.take i)/\DU c S/\e.2.1=wtX S/\e.2.2=c+DD S
 |0,e,h=>by
  simp[AN]at h;subst h;exact⟨[],by simp,trivial,by simp[wtX],by simp[DD]⟩
 |i+1,e,h=>by
  rw[AN]at h;rcases mem_append.mp h with q|q
  .obtain⟨S,h1,h2⟩:=Fy q;exact⟨S,h1.trans (List.take_sublist_take_left (by omega)),h2⟩
  .split at q
   .next x hx=>
    obtain⟨z,hz,rfl⟩:=mem_map.mp q;obtain⟨z1,z2⟩:=mem_filter.mp hz;obtain⟨S,h1,h2,h3,h4⟩:=Fy z1;have hi:i<L.length:=(List.getElem?_eq_some_iff.mp hx).1;have z2:z.2.2+x.1<=x.2.1:=by simpa using z2
    refine⟨S++[x],?_,(HB x S c).mpr ⟨h2,by omega⟩,by simp[wtX,h3],by simp[DD]at h4 ⊢;omega⟩;rw[List.take_succ_eq_append_getElem hi,(List.getElem?_eq_some_iff.mp hx).2];exact h1.append (List.Sublist.refl _)
   .cases q
end Lt
namespace T42
open PySem L2 Bd Ru
open Lt (IsMin comb behind An sel AN Wx DU DD wtX Er GB)
def XI{B c:Int}{ws:List Wm}(ok:Av B c ws):((wxs ws).map λx=>x.2.2).sum=(Ad ws).toNat:=by
 have h1:(wxs ws).Perm (ws.map wx):=by
  have p:=(Cc ws).map λi:Int=>(ws[i.toNat]?.map wx).getD (0,0,0);rw[map_map]at p;refine p.trans ?_;refine(List.Perm.of_eq ?_);refine ext_getElem (by simp) λi a b=>?_;simp at a b;simp[a]
 have h2:=(h1.map λx:Wx=>x.2.2).sum_nat
 rw[h2,map_map];have:∀vs:List Wm,(∀w∈vs,okM B c w)->(vs.map ((λx:Wx=>x.2.2) ∘ wx)).sum=(Ad vs).toNat/\0<=Ad vs:=by
  intro vs
  induction vs with
  |nil=>intro _;simp[Ad]
  |cons v r ih=>
   intro h;have ih:=ih λw hw=>h w (by simp[hw]);have:=(h v (by simp)).2.2.2;simp only[Ad,map_cons,sum_cons,Function.comp]at *;have e:(wx v).2.2=v.wt.toNat:=rfl;rw[ih.1,e];omega
 exact(this ws ok.2.2.2).1
abbrev Ji(ws:List Wm)(ns:List Int):List Int:=((List.range ws.length).filter λk:Nat=>decide (¬ (k:Int)∈ns)).map λk:Nat=>(k:Int)
def TD{ws:List Wm}{ns:List Int}(hs:ns.Sublist (Aq ws)):(LF ns++Ji ws ns).Perm ((List.range ws.length).map λk:Nat=>(k:Int)):=by
 have e1:Ji ws ns=((List.range ws.length).map λk:Nat=>(k:Int)).filter λi=>!decide (i∈ns):=by
  rw[List.filter_map];unfold Ji
  congr 1
  refine List.filter_congr λk _=>?_;simp
 have e2:(Ji ws ns).Perm ((Aq ws).filter λi=>!decide (i∈ns)):=by
  rw[e1];exact((Cc ws).filter _).symm
 have e3:=Tk (Gv ws) hs;refine((Ih ns).append e2).trans ?_;have:=List.filter_append_perm (λi=>decide (i∈ns)) (Aq ws);rw[e3]at this;exact this.trans (Cc ws)
def To(ws:List Wm){B c:Int}(ok:Av B c ws)(hB:B<=2000):(Aq ws).Pairwise λa b=>Ac ws a.toNat<=Ac ws b.toNat:=by
 have w2:(Aw (Bv ws)).Pairwise λa b=>AV a<=AV b:=by
  have:=pairwise_mergeSort (le:=λa b:Int×Int=>decide (AV a<=AV b)) (by intro a b c h1 h2;simp at *;omega) (by intro a b;simp;omega) (Bv ws);exact this.imp (by simp)
 have p2:(Aw (Bv ws)).Perm (Bv ws):=mergeSort_perm ..;unfold Aq;rw[pairwise_map];refine w2.imp_of_mem λ{a b} ha hb hab=>?_
 have fa:∀a∈Aw (Bv ws),Ac ws a.2.toNat=a.1/\pok a:=λa ha=>by
  obtain⟨k,hk,rfl⟩:=mem_map.mp (p2.mem_iff.mp ha);exact⟨rfl,HF ok hB (by simpa using hk)⟩
 obtain⟨e1,o1⟩:=fa a ha;obtain⟨e2,o2⟩:=fa b hb;rw[e1,e2];unfold AV at hab;unfold pok at o1 o2;omega
def Nv{ws:List Wm}{c:Int}{ks rest:List Int}(nd:ks.Nodup):∀(r dn:List Int),ks=dn++r->inT ws (c+(dn.map (lnI ws)).sum) r->∀i∈r,DN (lnI ws) c (ks++rest) i<=Ac ws i.toNat
 |[],_,_,_,i,h=>by cases h
 |x::r,dn,e,hin,i,hi=>by
  rcases mem_cons.mp hi with rfl|hi
  .have hx:i∉dn:=λz=>by
    rw[e]at nd;exact(nodup_append.mp nd).2.2 _ z _ (by simp) rfl
   rw[e,append_assoc,cons_append,Jf hx];exact hin.1
  .refine Nv nd r (dn++[x]) (by rw[e];simp) ?_ i hi;simp only[map_append,sum_append,map_cons,map_nil,sum_cons,sum_nil,Int.add_zero];rw[<- Int.add_assoc];exact hin.2
abbrev gx(ws:List Wm)(i:Int):Wx:=(ws[i.toNat]?.map wx).getD (0,0,0)
def P6(ws:List Wm)(i:Int):gx ws i=(lnI ws i,Ac ws i.toNat,(wtI ws i).toNat):=by
 unfold gx lnI wtI BI Ac Cu;cases ws[i.toNat]?<;>rfl
def Nu{ws:List Wm}:∀(S:List Int) (t:Int),inT ws t S->DU t (S.map (gx ws))
 |[],_,_=>trivial
 |i::r,t,h=>by
  rw[map_cons,DU,P6];exact⟨h.1,Nu r _ h.2⟩
def Pd{B c:Int}{ws:List Wm}(ok:Av B c ws)(S:List Int):((wtX (S.map (gx ws)):Nat):Int)=(S.map (wtI ws)).sum:=by
 unfold wtX
 induction S with
 |nil=>rfl
 |cons i r ih=>
  have:=U1 ok i.toNat
  rw[map_cons,map_cons,sum_cons,map_cons,sum_cons,Int.natCast_add,ih,P6];have e:(((wtI ws i).toNat:Nat):Int)=wtI ws i:=Int.toNat_of_nonneg this;dsimp only;rw[e]
def IX(ws:List Wm):(wxs ws).length=ws.length:=by simp[wxs,HV]
def Wl{B c:Int}{ws:List Wm}(ok:Av B c ws){S:List Int}(sub:S.Sublist (Aq ws))(hin:inT ws c S):∃e∈AN c (wxs ws) ws.length,((e.2.1:Nat):Int)=(S.map (wtI ws)).sum:=by
 obtain⟨e,h1,h2,_⟩:=Er (c:=c) (L:=wxs ws) (i:=ws.length) (S:=S.map (gx ws)) (by
  rw[take_of_length_le (by rw[IX];exact le_refl _)];exact sub.map _) (Nu S c hin)
 exact⟨e,h1,by rw[h2];exact Pd ok S⟩
def Wj(ws:List Wm):((List.range ws.length).map (Cu ws)).sum=Ad ws:=by
 unfold Ad
 congr 1
 refine ext_getElem (by simp) λi a b=>?_;simp at a b;simp[Cu,a]
def Mc(c:Int)(L:List Wx):∀i,((0,0,c):Lt.En)∈AN c L i
 |0=>by simp[AN]
 |i+1=>by
  rw[AN];cases L[i]? with
  |none=>exact mem_append_left _ (Mc c L i)
  |some x=>exact mem_append_left _ (Mc c L i)
def X0(c:Int)(ws:List Wm):∃m:Nat,(∃e∈AN c (wxs ws) ws.length,e.2.1=m)/\(∀e∈AN c (wxs ws) ws.length,e.2.1<=m)/\FF ((AN c (wxs ws) ws.length).map λe=>(e.2.1:Int))=m:=by
 have hne:((AN c (wxs ws) ws.length).map λe=>(e.2.1:Int))≠[]:=λz=>by
  have:=Mc c (wxs ws) ws.length;rw[List.map_eq_nil_iff]at z;rw[z]at this;cases this
 obtain⟨h1,h2⟩:=F3 hne;obtain⟨e,he,ee⟩:=mem_map.mp h1;refine⟨e.2.1,⟨e,he,rfl⟩,λe' he'=>?_,ee.symm⟩;have:=h2 _ (mem_map.mpr ⟨e',he',rfl⟩);omega
def some_iff{c:Int}{ws:List Wm}{w:Nat}:(fT c (wxs ws) ws.length w).isSome=true↔∃e∈AN c (wxs ws) ws.length,e.2.1=w:=by
 have h:=Qt c (wxs ws) ws.length (by rw[IX];exact le_refl _) w;rcases h with⟨h1,h2⟩|⟨x,h1,h2,_⟩
 .rw[h1];refine⟨(λz=>by cases z),λ⟨e,he,ee⟩=>?_⟩;have:e.2.2∈sel w (AN c (wxs ws) ws.length):=mem_map.mpr ⟨e,mem_filter.mpr ⟨he,by simpa using ee⟩,rfl⟩;rw[h2]at this;cases this
 .rw[h1];refine⟨λ_=>?_,λ_=>rfl⟩;obtain⟨e,he,_⟩:=mem_map.mp h2;exact⟨e,(mem_filter.mp he).1,by simpa using (mem_filter.mp he).2⟩
def Qp{ws:List Wm}{c:Int}{eF:Int->Int}{S:List Int}(ed:∀(P:List Int) (d:Int),P.Nodup->(∀i∈P,i∈S)->P≠[]->(∀i∈P,eF i<=d)->c+(P.map (lnI ws)).sum<=d)(nd:S.Nodup)(pw:S.Pairwise λa b=>Ac ws a.toNat<=Ac ws b.toNat)(he:∀i∈S,eF i<=Ac ws i.toNat):∀(rest dn:List Int),S=dn++rest->inT ws (c+(dn.map (lnI ws)).sum) rest
 |[],_,_=>trivial
 |x::r,dn,e=>by
  refine⟨?_,?_⟩
  .have sb:(dn++[x]).Sublist S:=by rw[e];exact List.Sublist.append_left (by simp) _
   have:=ed (dn++[x]) (Ac ws x.toNat) (nd.sublist sb) (λi hi=>sb.subset hi) (by simp) (λi hi=>by
    have h1:=he i (sb.subset hi);rcases mem_append.mp hi with q|q
    .rw[e]at pw;have:=(List.pairwise_append.mp pw).2.2 i q x (by simp);omega
    .rw[mem_singleton]at q;subst q;exact h1)
   simp only[map_append,sum_append,map_cons,map_nil,sum_cons,sum_nil]at this;omega
  .have:=Qp ed nd pw he r (dn++[x]) (by rw[e];simp);simp only[map_append,sum_append,map_cons,map_nil,sum_cons,sum_nil,Int.add_zero]at this;rw[<- Int.add_assoc]at this;exact this
def Ju{B c:Int}{ws:List Wm}(ok:Av B c ws)(hB:B<=2000){m:Nat}(hmax:∀e∈AN c (wxs ws) ws.length,e.2.1<=m)(e:Nat->Int)(ed:∀(P:List Int) (d:Int),P.Nodup->(∀i∈P,i∈Aq ws)->P≠[]->(∀i∈P,e i.toNat<=d)->c+(P.map (lnI ws)).sum<=d):Ad ws-m<=Cm ws e/\∀ks:List Int,ks.Sublist (Aq ws)->(∀i∈ks,e i.toNat<=Ac ws i.toNat)->Cm ws e<=Ad ws-(ks.map (wtI ws)).sum:=by
 have ndo:=Gv ws
 let p:Int->Prop:=λi=>e i.toNat<=Ac ws i.toNat
 have dp:DecidablePred p:=λi=>inferInstanceAs (Decidable (_<=_));have e1:Cm ws e=((Aq ws).map λi=>if p i then 0 else wtI ws i).sum:=by
  rw[Sv ((Cc ws).map λi=>if p i then 0 else wtI ws i),map_map];unfold Cm
  congr 1
  refine map_congr_left λk _=>?_;show(if e k<=Ac ws k then 0 else Cu ws k)=if p (k:Int)then 0 else wtI ws (k:Int)
  by_cases h:e k<=Ac ws k
  .rw[if_pos h,if_pos (show p (k:Int)from h)]
  .rw[if_neg h,if_neg (show ¬ p (k:Int)from h)];rfl
 have e2:((Aq ws).map (wtI ws)).sum=Ad ws:=by
  rw[Sv ((Cc ws).map (wtI ws)),map_map];exact Wj ws
 rw[e1,KD (f:=wtI ws) (p:=p),e2];have hO:inT ws c ((Aq ws).filter λi=>decide (p i)):=by
  have:=Qp (ws:=ws) (c:=c) (eF:=λi=>e i.toNat) (S:=(Aq ws).filter λi=>decide (p i)) (λP d nd hs hne he=>ed P d nd (λi hi=>(mem_filter.mp (hs i hi)).1) hne he) (ndo.sublist List.filter_sublist) ((To ws ok hB).sublist List.filter_sublist) (λi hi=>by simpa using (mem_filter.mp hi).2) _ [] rfl;simpa using this
 obtain⟨e',he,e3⟩:=Wl ok List.filter_sublist hO;have h1:=hmax e' he;refine⟨by omega,λks sub hks=>?_⟩;have hk:ks.Sublist ((Aq ws).filter λi=>decide (p i)):=by
  have e4:ks.filter (λi=>decide (p i))=ks:=List.filter_eq_self.mpr λi hi=>by
   have:=hks i hi;simpa using this
  have:=sub.filter λi=>decide (p i);rw[e4]at this;exact this
 have h2:=NM (f:=wtI ws) (λi=>U1 ok _) hk;omega
def bL{B c:Int}{ws:List Wm}(ok:Av B c ws){e:Lt.En}(he:e∈AN c (wxs ws) ws.length):e.2.1<=(Ad ws).toNat:=by
 have:=GB he;rw[take_of_length_le (by rw[IX];exact le_refl _),XI ok]at this;exact this
def WM{n:Nat}{L:List Int}(pm:L.Perm ((List.range n).map λk:Nat=>(k:Int))):∃o:List Nat,o.Perm (List.range n)/\L=o.map λk:Nat=>(k:Int):=by
 refine⟨L.map Int.toNat,?_,?_⟩
 .have:=pm.map Int.toNat
  rw[map_map]at this;simpa [Function.comp_def]using this
 .rw[map_map];refine(map_id L).symm.trans (map_congr_left λi hi=>?_);obtain⟨k,_,rfl⟩:=mem_map.mp (pm.mem_iff.mp hi);simp
def HN(n:Nat)(os:List (List Nat)):List (List Nat):=os.flatMap λo=>((List.range n).filter λk=>decide (k∉o)).map λk=>o++[k]
def Bu(n:Nat):Nat->List (List Nat)
 |0=>[[]]
 |j+1=>HN n (Bu n j)
def allO_mem{n:Nat}:∀{j:Nat} {o:List Nat},o∈Bu n j↔o.length=j/\o.Nodup/\∀k∈o,k<n
 |0,o=>by
  unfold Bu;rw[mem_singleton];refine⟨λh=>by subst h;simp,λh=>length_eq_zero_iff.mp h.1⟩
 |j+1,o=>by
  unfold Bu HN;rw[List.mem_flatMap];refine⟨λ⟨q,hq,h⟩=>?_,λ⟨h1,h2,h3⟩=>?_⟩
  .obtain⟨k,hk,rfl⟩:=mem_map.mp h;obtain⟨a,b⟩:=mem_filter.mp hk;obtain⟨g1,g2,g3⟩:=allO_mem.mp hq;have b:k∉q:=by simpa using b
   refine⟨by simp[g1],?_,λx hx=>?_⟩
   .rw[nodup_append];exact⟨g2,by simp,λx hx y hy=>by rw[mem_singleton]at hy;subst hy;exact λz=>b (z ▸ hx)⟩
   .rcases mem_append.mp hx with z|z
    .exact g3 x z
    .rw[mem_singleton]at z;subst z;simpa using a
  .have hne:o≠[]:=λz=>by rw[z]at h1;simp at h1
   have e:=List.dropLast_concat_getLast hne;refine⟨o.dropLast,allO_mem.mpr ⟨by simp[h1],h2.sublist (List.dropLast_sublist o),λk hk=>h3 k ((List.dropLast_sublist o).subset hk)⟩,mem_map.mpr ⟨o.getLast hne,mem_filter.mpr ⟨by simpa using h3 _ (List.getLast_mem hne),?_⟩,e⟩⟩;rw[<- e,nodup_append]at h2;simpa using λz=>h2.2.2 _ z _ (by simp) rfl
def S9(n:Nat)(os:List (List Nat)):(HN n os).length<=os.length*n:=by
 unfold HN
 induction os with
 |nil=>simp
 |cons o r ih=>
  rw[flatMap_cons,length_append,length_cons,Nat.add_mul];have:(((List.range n).filter λk=>decide (k∉o)).map λk=>o++[k]).length<=n:=by
   rw[length_map];exact le_trans (List.length_filter_le _ _) (by simp)
  omega
def IT{n:Nat}(hn:n<=6):∀j,(Bu n j).length<=6^j
 |0=>by simp[Bu]
 |j+1=>by
  have h1:=S9 n (Bu n j);have h2:=IT hn j;rw[Nat.pow_succ];exact le_trans h1 (Nat.mul_le_mul h2 hn)
def allO_perm{n:Nat}{o:List Nat}:o∈Bu n n↔o.Perm (List.range n):=by
 rw[allO_mem];refine⟨λ⟨h1,h2,h3⟩=>?_,λh=>⟨by simpa using h.length_eq,h.nodup_iff.mpr nodup_range,λk hk=>by simpa using h.mem_iff.mp hk⟩⟩;have key:∀(L o:List Nat),o.Nodup->L.Nodup->(∀k∈o,k∈L)->L.length<=o.length->o.Perm L:=by
  intro L
  induction L with
  |nil=>intro o _ _ hs _;cases o with
   |nil=>exact .refl _
   |cons x r=>exact absurd (hs x (by simp)) (by simp)
  |cons x L ih=>
   intro o nd ndL hs hl;obtain⟨x1,x2⟩:=nodup_cons.mp ndL;have hx:x∈o:=by
    refine Classical.byContradiction λhx=>?_;have hs':∀k∈o,k∈L:=λk hk=>(mem_cons.mp (hs k hk)).resolve_left λz=>hx (z ▸ hk);have:o.length<=L.length:=nd.length_le_of_subset hs';simp at hl;omega
   have p:=List.perm_cons_erase hx;have hl':L.length<=(o.erase x).length:=by have:=p.length_eq;simp at this hl;omega
   refine p.trans (.cons x (ih (o.erase x) (nd.erase x) x2 (λk hk=>?_) hl'));have h1:=nd.mem_erase_iff.mp hk;exact(mem_cons.mp (hs k h1.2)).resolve_left h1.1
 exact key _ _ h2 nodup_range (λk hk=>by simpa using h3 k hk) (by simp[h1])
abbrev orD(o:List Nat):D:=.im (Dt o)
abbrev prO(n:Nat)(os:List (List Nat))(t:Nat):Nat×List Nat:=(t%n,(os[t/n]?).getD [])
def Gq{n:Nat}(hn:0<n):∀os:List (List Nat),(List.range (n*os.length)).map (prO n os)=os.flatMap λo=>(List.range n).map λk=>(k,o)
 |[]=>by simp
 |o::r=>by
  have ih:=Gq hn r;rw[flatMap_cons,<- ih,length_cons,Nat.mul_add,Nat.mul_one,Nat.add_comm,List.range_add,map_append,map_map]
  congr 1
  .refine map_congr_left λk hk=>?_;have hk:k<n:=by simpa using hk
   simp[prO,Nat.mod_eq_of_lt hk,Nat.div_eq_of_lt hk]
  .refine map_congr_left λk _=>?_;show prO n (o::r) (n+k)=prO n r k;unfold prO;rw[Nat.add_mod_left,Nat.add_div_left k hn];simp
def PD{n:Nat}(os:List (List Nat)):((os.flatMap λo=>(List.range n).map λk=>(k,o)).filterMap λz:Nat×List Nat=>if z.1∉z.2 then some (orD (z.2++[z.1]))else none)=(HN n os).map orD:=by
 unfold HN
 induction os with
 |nil=>rfl
 |cons o r ih=>
  rw[flatMap_cons,List.filterMap_append,ih,flatMap_cons,map_append]
  congr 1
  rw[List.filterMap_map,map_map];generalize List.range n=L
  induction L with
  |nil=>rfl
  |cons x r' ih2=>
   rw[filterMap_cons,filter_cons];by_cases h:x∈o
   .simp[h]at ih2 ⊢;exact ih2
   .simp[h]at ih2 ⊢;exact ih2
def WB{n:Nat}(hn:0<n)(n6:n<=6){os:List (List Nat)}(ol:os.length<=100000)(H:Hd){L:Nat}(e:H[L]?=some (.lst (os.map orD))):WF Hk [.im (.int (n:Int)),.mu L] H λd x=>d=.mu H.length/\x=H++[.lst ((os.flatMap λo=>(List.range n).map λk=>(k,o)).map λz:Nat×List Nat=>D.im (.tup [.int (z.1:Int),Dt z.2]))]:=by
 have hl:n*os.length<=600000:=le_trans (Nat.mul_le_mul n6 ol) (by omega);unfold Hk;refine Ag rfl ?_;refine AU (Bs (B4 (Hw (A3 (A7 (A1 rfl (BK (A3 (A1 rfl (A5 (Bq (ds:=os.map orD) (by rw[if_pos rfl,OO,Ow,e]) rfl (IY (C0 (by omega) (by omega)) (A5 ⟨((n*os.length:Nat):Int),by simp,Di (by omega) (by omega),?_⟩)))))))))))));rw[toNat_natCast,Fv];refine⟨Ab (by simp[BA];omega),?_⟩;refine Ba (λk:Nat=>D.im (.int (k:Int))) (λt=>some (D.im (.tup [.int ((prO n os t).1:Int),Dt (prO n os t).2]))) (λ_ ls=>∃x,ls=[some x,some (.im (.int (n:Int))),some (.mu L)]) _ (AJ _) ?_ ?_
 .rintro t ht ls hls;have ht:t<n*os.length:=by simpa using ht
  have hd:t/n<os.length:=Nat.div_lt_of_lt_mul ht;refine⟨[some (.im (.int (t:Int))),some (.im (.int (n:Int))),some (.mu L)],by rcases hls with rfl|⟨_,x,rfl⟩<;>rfl,⟨_,rfl⟩,CF ⟨rfl,?_⟩⟩;rw[if_pos rfl];refine⟨_,rfl,Br (A3 (A7 (A1 rfl (A1 rfl (X4 (by unfold CU;omega) (A3 (A7 (A1 rfl (A7 (A1 rfl (A1 rfl (NG (by unfold Hh;omega) ?_))))))))))))⟩;rw[show(t:Int)/(n:Int)=((t/n:Nat):Int) by simp];refine AR (ds:=os.map orD) (by rw[OO,Ow,e]) (FR (k:=t/n) rfl (by simp[hd];rfl)) (A5 ⟨JJ,?_⟩);rw[Jm];refine⟨rfl,?_⟩;simp[prO,hd]
 have ef:((List.range (n*os.length)).filterMap λt=>some (D.im (.tup [.int ((prO n os t).1:Int),Dt (prO n os t).2])))=(os.flatMap λo=>(List.range n).map λk=>(k,o)).map λz:Nat×List Nat=>D.im (.tup [.int (z.1:Int),Dt z.2]):=by
  rw[<- Gq hn os,map_map,List.filterMap_eq_map'];rfl
 rw[ef];exact⟨rfl,rfl⟩
def Qe(o:List Nat)(k:Nat):(o.map λk:Nat=>I.int k)++[I.int (k:Int)]=(o++[k]).map λk:Nat=>I.int k:=by simp
inductive I_ord(n:Nat)(H:Hd)(r:List D)(ls:Ls)(hd:Hd):Prop
 |mk (j L:Nat) (g:Hd) (z2:Option D) (h0:j<=n) (h1:r=AW (j:Int) (n-j)) (h2:ls=[some (.im (.int (n:Int))),some (.mu L),z2]) (h3:hd=H++g) (h4:hd[L]?=some (.lst ((Bu n j).map orD))):I_ord n H r ls hd
def TF{n:Nat}(hn:0<n)(n6:n<=6)(H:Hd):WF GO [.im (.int (n:Int))] H λd x=>∃(L:Nat) (g:Hd),d=.mu L/\x=H++g/\x[L]?=some (.lst ((Bu n n).map orD)):=by
 unfold GO;refine Ag rfl ?_;refine AC (AL (Bs (By (A3 (Br (A5 ⟨E9,A5 ⟨Et,A6 ?_⟩⟩))))));rw[Qf];refine AC (BX (Hw (A3 (A1 rfl (A5 ⟨_,rfl,Di (by omega) (by omega),?_⟩)))));rw[toNat_natCast];refine B9 (I_ord n H) ⟨0,H.length,[.lst [.im (.tup [])]],none,by omega,rfl,rfl,rfl,by simp[Bu]⟩ ?_ ?_
 .rintro d r ls hd ⟨j,L,g,z2,hj,er,rfl,rfl,h4⟩;obtain⟨m,hm⟩:∃m,n-j=m+1:=by
   cases q:n-j with
   |zero=>rw[q]at er;cases er
   |succ m=>exact⟨m,rfl⟩
  rw[hm,AW]at er;obtain⟨rfl,rfl⟩:=List.cons.inj er;have ol:(Bu n j).length<=46656:=le_trans (IT n6 j) (le_trans (Nat.pow_le_pow_right (by decide) (show j<=6 by omega)) (by decide));refine⟨_,rfl,?_⟩;dsimp only[set_cons_zero,set_cons_succ];refine AL (Bs (B4 (LS (Fp (A3 (A1 rfl (A3 (A1 rfl (A5 ((WB hn n6 (by omega) _ h4).mono ?_))))))))));rintro d x ⟨rfl,rfl⟩;have hx:((H++g)++[MO.lst (((Bu n j).flatMap λo=>(List.range n).map λk=>(k,o)).map λz:Nat×List Nat=>D.im (.tup [.int (z.1:Int),Dt z.2]))])[(H++g).length]?=some (.lst (((Bu n j).flatMap λo=>(List.range n).map λk=>(k,o)).map λz:Nat×List Nat=>D.im (.tup [.int (z.1:Int),Dt z.2]))):=by simp
  have pl:((Bu n j).flatMap λo=>(List.range n).map λk=>(k,o)).length<=600000:=by
   rw[<- Gq hn,length_map,length_range];exact le_trans (Nat.mul_le_mul n6 ol) (by omega)
  refine⟨_,_,rfl,hx,Ab (by rw[length_map];omega),?_⟩;refine Ba (λz:Nat×List Nat=>D.im (.tup [.int (z.1:Int),Dt z.2])) (λz:Nat×List Nat=>if z.1∉z.2 then some (orD (z.2++[z.1]))else none) (λ_ ls=>∃x y,ls=[some x,some y]) _ (by intro q hq;rw[mem_singleton]at hq;subst hq;exact hx) ?_ ?_
  .rintro z hz ls hls;obtain⟨o,ho,hz⟩:=List.mem_flatMap.mp hz;obtain⟨k,hk,rfl⟩:=mem_map.mp hz;obtain⟨ol,_,_⟩:=allO_mem.mp ho;refine⟨[some (.im (.int (k:Int))),some (orD o)],by rcases hls with rfl|⟨_,x,y,rfl⟩<;>rfl,⟨_,_,rfl⟩,?_⟩;refine AQ (A7 (A1 rfl (A1 rfl (X5 (xs:=o.map λk:Nat=>(k:Int)) (by rw[CG,Ni,Nj]) ⟨_,rfl,rfl,?_⟩))));dsimp only;have mc:((k:Int)∈o.map λk:Nat=>(k:Int))↔k∈o:=by
    rw[mem_map];refine⟨λz=>?_,λz=>⟨k,z,rfl⟩⟩;obtain⟨y,hy,e⟩:=z;have:y=k:=by omega
    exact this ▸ hy
   by_cases q:k∈o
   .rw[if_neg (by rw[if_pos rfl];simpa using mc.mpr q)];exact if_neg (λz=>z q)
   .rw[if_pos (by rw[if_pos rfl];simpa using λz=>q (mc.mp z))];refine⟨_,if_pos q,A7 (A1 rfl (Br (A3 (A1 rfl (A5 ⟨Et,?_⟩)))))⟩;rw[Jn];refine NH (by simp;omega) ⟨rfl,?_⟩;rw[Qe]
  rw[PD];refine⟨AJ _,j+1,_,_,_,by omega,by rw[show((j:Int)+1)=((j+1:Nat):Int) by omega,show n-(j+1)=m by omega],rfl,(append_assoc _ _ _).trans (append_assoc _ _ _),?_⟩;simp[Bu]
 .rintro ls hd ⟨j,L,g,z2,hj,er,rfl,rfl,h4⟩;have:n-j=0:=by
   cases q:n-j with
   |zero=>rfl
   |succ m=>rw[q]at er;cases er
  have:j=n:=by omega
  subst this;exact A6 (AU (A1 rfl ⟨L,g,rfl,rfl,h4⟩))
open Lt (IsMin comb behind An sel AN Wx DU DD wtX Fy)
def Rc{es:List Int}{hd:Hd}{QE:D->Hd->Prop}(q:QE (.im (.bl false)) hd):WP (gNe (.im (Ar es)) (.im (Ar es)) hd) QE:=by
 have e1:(Ar es).py=.tuple (es.map PyData.int):=by
  show PyData.tuple (I.pys (es.map I.int))=_;rw[Cb]
 have c1:(PyData.tuple (es.map PyData.int)).canLay0=true:=by simp[PyData.canLay0,FQ]
 have e2:PyData.eqv (.tuple (es.map PyData.int)) (.tuple (es.map PyData.int))=true:=PySem.SeqAt.eqv_refl _ c1;have e3:(PyData.tuple (es.map PyData.int)).depth<=1:=by simp[PyData.depth,ET]
 refine⟨_,_,?_,q⟩;show ES (EK true) (G9 true) _ _ _=_;unfold ES;rw[show EK true (.im (Ar es)) (.im (Ar es)) hd=none from rfl];show G9 true (.im (Ar es)) (.im (Ar es)) hd=_;unfold G9;rw[show pyD hd (.im (Ar es))=some (Ar es).py from rfl,e1];simp[c1,e2,PyData.depth,ET]
def KA{R:Pl.Pc->Pl.Pc->Prop}:∀{P:List Pl.Pc},P.Pairwise R->∀x∈P.zip P.tail,R x.1 x.2
 |[],_,x,hx=>by simp at hx
 |[p],_,x,hx=>by simp at hx
 |p::q::r,h,x,hx=>by
  rw[pairwise_cons]at h;simp only[List.tail_cons,List.zip_cons_cons,mem_cons]at hx;rcases hx with rfl|hx
  .exact h.1 q (by simp)
  .exact KA h.2 x (by simpa using hx)
section
variable{B c:Int}{ws:List Wm}{W:List (Int×Int)}{left:Nat->Int}{P:List Pl.Pc}{now:Int}
def ao(ok:Av B c ws){k:Nat}(hk:k<ws.length):cm (ws.map EF) k=c:=by
 have:=LR ok hk;simp[cm,hk,EF,this]
def aa{k:Nat}(hk:k<ws.length):lnW (ws.map EF) k=BI ws k:=by simp[lnW,BI,hk,EF]
def aG(I:PlI ws.length (BI ws) c W (3*ws.length) left P now):Pl.Ok ws.length c P:=⟨I.ch,λp hp=>⟨(I.ea p hp).1,(I.ea p hp).2.1,(I.ea p hp).2.2.1⟩⟩
def aH(ok:Av B c ws)(hW:Wsh ws.length W)(I:PlI ws.length (BI ws) c W (3*ws.length) left P now):IsPl (ws.map EF) W P:=by
 refine⟨λp hp=>?_,λx hx=>KA I.ch x hx,λk hk=>?_,λq hq p hp e=>?_⟩
 .have h:=I.ea p hp;show cm (ws.map EF) p.1<=p.2.1/\p.2.1<p.2.2;rw[ao ok h.1];exact⟨h.2.1,h.2.2.1⟩
 .have hk:k<ws.length:=by simpa using hk
  rw[I.dn k hk,I.done k hk,aa hk];omega
 .obtain⟨_,g⟩:=I.kp q hq p hp e;by_cases h:∃r∈P,r.1=q.1.toNat
  .obtain⟨r,hr,er,e2⟩:=Pl.last_in (v:=0) h;show Pl.last P q.1.toNat 0<=_;rw[e2];obtain⟨x,y,rfl,_,_⟩:=hW.nats q hq;exact g r hr (by rw[er];simp)
  .have:Pl.last P q.1.toNat 0=0:=Pl.last_no λr hr er=>h ⟨r,hr,er⟩;show Pl.last P q.1.toNat 0<=_;rw[this];have h1:=(I.ea p hp).2.1;have h2:=ok.2.2.1;omega
def aI(ok:Av B c ws)(I:PlI ws.length (BI ws) c W (3*ws.length) left P now):∀(D:List Int) (d:Int),D.Nodup->(∀i∈D,i∈Aq ws)->D≠[]->(∀i∈D,Pl.E P i.toNat<=d)->c+(D.map (lnI ws)).sum<=d:=by
 intro D d nd hD hne he;have O:=aG I;have ndS:(D.map Int.toNat).Nodup:=by
  unfold List.Nodup;rw[pairwise_map];refine List.Pairwise.imp_of_mem (λ{x y} hx hy hne e=>?_) nd;obtain⟨k,_,rfl⟩:=Cl (hD x hx);obtain⟨j,_,rfl⟩:=Cl (hD y hy);exact hne (by omega)
 have es:(D.map (lnI ws)).sum=((D.map Int.toNat).map (Pl.dn P)).sum:=by
  rw[map_map]
  congr 1
  refine map_congr_left λi hi=>?_;obtain⟨k,hk,rfl⟩:=Cl (hD i hi);show BI ws (k:Int).toNat=Pl.dn P (k:Int).toNat
  rw[toNat_natCast,I.dn k hk,I.done k hk];omega
 have hp:∀p∈P,decide (p.1∈D.map Int.toNat)=true->c<=p.2.1/\p.2.1<p.2.2/\p.2.2<=d:=λp hp hm=>by
  obtain⟨i,hi,e⟩:=mem_map.mp (of_decide_eq_true hm);have h1:=I.ea p hp;have h2:=Pl.last_ge (v:=0) O p hp rfl;have h3:=he i hi;rw[e]at h3;exact⟨h1.2.1,h1.2.2.1,Int.le_trans h2 h3⟩
 have hcd:c<=d:=by
  obtain⟨i,r,rfl⟩:=List.exists_cons_of_ne_nil hne;obtain⟨k,hk,rfl⟩:=Cl (hD i (by simp));have h1:1<=BI ws k:=by
   have:=(ok.2.2.2 _ (List.getElem_mem hk)).1.1;rw[LK hk]at this;exact this
  have h2:∃p∈P,p.1=k:=by
   refine Classical.byContradiction λz=>?_;have:=Pl.dn_no (k:=k) (ps:=P) λp hp e=>z ⟨p,hp,e⟩;have h3:=I.dn k hk;rw[this,I.done k hk]at h3;omega
  obtain⟨p,hpP,rfl⟩:=h2;have:=hp p hpP (decide_eq_true (by simp));omega
 have:=Pl.tot_le (λp=>decide (p.1∈D.map Int.toNat)) (c:=c) (T:=d) I.ch hp hcd;rw[es,Pl.sum_dn ndS];omega
end
def Py{B c:Int}{ws:List Wm}(ok:Av B c ws){o:List Nat}(pm:o.Perm (List.range ws.length)):∀(D:List Int) (d:Int),D.Nodup->(∀i∈D,i∈Aq ws)->D≠[]->(∀i∈D,eN ws c o i.toNat<=d)->c+(D.map (lnI ws)).sum<=d:=by
 intro D d nd hD hne he;refine edd (ln:=lnI ws) (λi=>Oy ok _) (L:=o.map λk:Nat=>(k:Int)) nd (λi hi=>?_) hne (λi hi=>?_)
 .obtain⟨k,hk,rfl⟩:=Cl (hD i hi);exact mem_map.mpr ⟨k,pm.mem_iff.mpr (by simpa using hk),rfl⟩
 .obtain⟨k,hk,rfl⟩:=Cl (hD i hi);rw[Gm (ln:=lnI ws) (lN:=BI ws) (λk=>rfl) k o c];have:=he _ hi;rw[toNat_natCast]at this;exact this
def MY{ws:List Wm}:∀(S:List Int) (t:Int),DU t (S.map (gx ws))->inT ws t S
 |[],_,_=>trivial
 |i::r,t,h=>by
  rw[map_cons,DU,P6]at h;exact⟨h.1,MY r _ h.2⟩
def Ze{B c:Int}{ws:List Wm}(ok:Av B c ws)(hB:B<=2000){m:Nat}(he:∃e∈AN c (wxs ws) ws.length,e.2.1=m)(hmax:∀e∈AN c (wxs ws) ws.length,e.2.1<=m):∃o:List Nat,o.Perm (List.range ws.length)/\Cm ws (eN ws c o)=Ad ws-m:=by
 obtain⟨e,he,em⟩:=he;obtain⟨S,h1,h2,h3,_⟩:=Fy he;rw[take_of_length_le (by rw[IX];exact le_refl _)]at h1;obtain⟨ks,sub,rfl⟩:=List.sublist_map_iff.mp (show S.Sublist ((Aq ws).map (gx ws))from h1);have hin:=MY ks c h2;have hw:(ks.map (wtI ws)).sum=m:=by
  rw[<- Pd ok ks,<- h3,em]
 have pmI:(ks++Ji ws ks).Perm ((List.range ws.length).map λk:Nat=>(k:Int)):=(((Ih ks).symm).append_right _).trans (TD sub);obtain⟨o,pm,eo⟩:=WM pmI;refine⟨o,pm,?_⟩;obtain⟨g1,g2⟩:=Ju ok hB hmax (eN ws c o) (Py ok pm);have g3:=g2 ks sub λi hi=>by
  have:=Nv (ws:=ws) (c:=c) (rest:=Ji ws ks) ((Gv ws).sublist sub) ks [] rfl (by simpa using hin) i hi;rw[eo]at this;obtain⟨k,hk,rfl⟩:=Cl (sub.subset hi);rw[Gm (ln:=lnI ws) (lN:=BI ws) (λk=>rfl) k o c]at this;exact this
 omega
def N7{B c:Int}{ws:List Wm}(ok:Av B c ws){P:List Pl.Pc}(hP:∀p∈P,p.1<ws.length):WF E2 [.im (Aj ws),.im (.tup (P.map AS))] [] λd x=>d=.im (Ar ((List.range ws.length).map (Pl.E P))):=by
 have n8:=ok.2.1;unfold E2;refine Ag rfl ?_;refine AC (AL (Bs (Pm (By (A3 (AG (A5 ⟨Ab (by simp),?_⟩)))))));refine BK (A3 (A1 rfl (A5 (Bq rfl rfl ⟨_,rfl,by simp;omega,Ab (by simp;omega),A6 ?_⟩))));have e0:(List.replicate (Int.toNat (((ws.map wmI).map D.im).length:Int)) [D.im (.int 0)]).flatten=intD (List.replicate ws.length 0):=by
  simp[intD]
 rw[e0];refine AC (BX (BZ (A1 rfl ⟨_,rfl,?_⟩)));rw[J9];refine B9 (λr ls hd=>∃(rest:List Pl.Pc) (es:List Int) (z3 z4 z5:Option D),(∀p∈rest,p.1<ws.length)/\es.length=ws.length/\Dz es rest=(List.range ws.length).map (Pl.E P)/\r=EG rest/\ls=[some (.im (Aj ws)),some (.im (.tup (P.map AS))),some (.mu 0),z3,z4,z5]/\hd=[.lst (intD es)]) ⟨P,List.replicate ws.length 0,none,none,none,hP,by simp,Pl.ends_map P,rfl,rfl,rfl⟩ ?_ ?_
 .rintro d r ls hd ⟨rest,es,z3,z4,z5,hr,hl,ee,er,rfl,rfl⟩;cases rest with
  |nil=>cases er
  |cons p rest=>
   obtain⟨rfl,rfl⟩:=List.cons.inj er;have hp:=hr p (by simp);refine⟨[some (.im (Aj ws)),some (.im (.tup (P.map AS))),some (.mu 0),some (.im (.int (p.1:Int))),some (.im (.int p.2.1)),some (.im (.int p.2.2))],rfl,?_⟩;have hix:ixN (intD es).length (p.1:Int)=some p.1:=by unfold ixN;simp[intD,hl,hp]
   refine HK (A1 rfl (A1 rfl (A1 rfl ⟨0,(p.1:Int),p.1,_,rfl,rfl,rfl,hix,?_⟩)));refine⟨AJ _,rest,es.set p.1 p.2.2,_,_,_,λq hq=>hr q (mem_cons_of_mem _ hq),by simp[hl],ee,rfl,rfl,?_⟩;show [MO.lst _]=[MO.lst _];rw[M0]
 .rintro ls hd ⟨rest,es,z3,z4,z5,hr,hl,ee,er,rfl,rfl⟩;have:rest=[]:=by cases rest with
   |nil=>rfl
   |cons t r=>cases er
  subst this;refine A6 (AU (BK (A3 (A1 rfl (A5 (Bq rfl rfl ?_))))));rw[show es=_ from ee];exact Nk _
inductive I_law(ns:List Int)(mo:Int)(ws:List Wm)(tl:Int)(L:Nat)(r:List D)(ls:Ls)(hd:Hd):Prop
 |mk (j:Nat) (a b:MO) (g:Hd) (z6 z7 z8 z9 z10:Option D) (h0:j<=3) (h1:r=AW (j:Int) (3-j)) (h2:ls=[some (.ro ns),some (.mu 1),some (.im (.int mo)),some (.im (Aj ws)),some (.im (.int tl)),some (.mu L),z6,z7,z8,z9,z10]) (h3:hd=a::b::g) (h4:T (300*(3-j)) a b):I_law ns mo ws tl L r ls hd
def ac(ns:List Int):WF dJ [.ro ns] [] λd x=>d=.im (.bl true):=by
 unfold dJ;refine Ag rfl ?_;refine AC (AL (Fp (A3 (A1 rfl (A5 ((SB ns).mono ?_))))));rintro d x ⟨rfl,a,b,hT,rfl⟩;have hT:T (1000+100+1) a b:=tap.le hT (by omega);refine A6 (AC (AL (Ga (By (A3 (AG (A3 (AG (A3 (AG (A5 ⟨Es,?_⟩)))))))))));refine tap.draw hT rfl (by first|decide|omega) (by first|decide|omega) λr2 a b hT pr2 qr2=>?_;obtain⟨d2,hd2,ed2⟩:=at3 pr2 qr2 (.im (.int 3)) (.im (.int 5)) (.im (.int 6));refine⟨_,_,rfl,ed2,?_⟩;obtain⟨mo,rfl,hmo⟩:∃t,d2=.im (.int t)/\(1<=t/\t<=6):=by
  rcases hd2 with rfl|rfl|rfl<;>exact⟨_,rfl,by omega,by omega⟩
 refine A6 (AC (AL ?_));refine tap.call hT (as:=[.im (.int mo)]) (rest:=[]) rfl rfl (ML _ (by omega) (by omega)) ?_;rintro i a b hT ⟨ws,c,rfl,ok,hlm⟩;have hl0:0<ws.length:=DI ok.1;have n6:ws.length<=6:=by omega
 have hf:=K0 ok;obtain⟨m,he,hmax,_⟩:=X0 c ws;have hm:m<=(Ad ws).toNat:=by obtain⟨e,h,rfl⟩:=he;exact bL ok h
 have g1:(fT c (wxs ws) ws.length m).isSome=true:=some_iff.mpr he;have g2:∀w,(fT c (wxs ws) ws.length w).isSome=true->w<=m:=λw hw=>by obtain⟨e,h,rfl⟩:=some_iff.mp hw;exact hmax e h
 refine A6 ?_;refine AC (AL (AF (A3 (A1 rfl (A3 (AF (A3 (A1 rfl (A5 ⟨by simp,(OF ok (by decide)).mono ?_⟩)))))))));rintro d x rfl;refine⟨_,rfl,A5 ⟨by simp,(ZA ok (by decide) hm g1 g2).mono ?_⟩⟩;rintro d x rfl;refine⟨_,rfl,A6 ?_⟩;refine AC (Am (Ex (BW (B3 (DK (A1 rfl ⟨true,rfl,_,rfl,?_⟩))))));rw[if_neg (by simp)];refine B3 (DK (A1 rfl ⟨false,rfl,_,rfl,(λh=>by cases h),λ_=>AY (A6 ?_)⟩));refine AC (AL (Fp (A3 (BK (A3 (A1 rfl (A5 (Bq (ds:=ws.map wmD) (by rw[if_pos rfl,CG,Bj]) rfl (A5 ?_)))))))));rw[length_map];refine(TF hl0 n6 [a,b]).mono ?_;rintro d x ⟨L,g,rfl,rfl,hL⟩;have ol:(Bu ws.length ws.length).length<=46656:=le_trans (IT n6 _) (le_trans (Nat.pow_le_pow_right (by decide) n6) (by decide));refine A6 ?_;change WS _ [some (.ro ns),some (.mu 1),some (.im (.int mo)),some (.im (Aj ws)),some (.im (.int (Ad ws-m))),some (.mu L),none,none,none,none,none] ([a,b]++g) _;refine AC (Am (AQ (A7 (A1 rfl (Cz (B4 (LS (A1 rfl ⟨L,_,rfl,hL,Ab (by rw[length_map];omega),?_⟩))))))));refine Ba orD (λo=>some (.im (.int (Cm ws (eN ws c o))))) (λ_ ls=>∃x,ls=[some x,some (.im (Aj ws))]) _ (by intro q hq;rw[mem_singleton]at hq;subst hq;exact hL) ?_ ?_
 .rintro o ho ls hls;have pm:=allO_perm.mp ho;refine⟨[some (orD o),some (.im (Aj ws))],by rcases hls with rfl|⟨_,x,rfl⟩<;>rfl,⟨_,rfl⟩,CF ⟨rfl,?_⟩⟩;rw[if_pos rfl];refine⟨_,rfl,AF (A3 (A1 rfl (A3 (AF (A3 (A1 rfl (A3 (A1 rfl (A5 ⟨by simp,(OY ok pm).mono ?_⟩)))))))))⟩;rintro d x rfl;refine⟨_,rfl,A5 ⟨by simp,(GX ok (eN ws c o)).mono ?_⟩⟩;rintro d x rfl;exact⟨_,rfl,rfl,rfl⟩
 have ef:((Bu ws.length ws.length).filterMap λo=>some (D.im (.int (Cm ws (eN ws c o)))))=intD ((Bu ws.length ws.length).map λo=>Cm ws (eN ws c o)):=by simp[intD]
 rw[ef];obtain⟨o,pm,eo⟩:=Ze ok (by decide) he hmax;have hne:((Bu ws.length ws.length).map λo=>Cm ws (eN ws c o))≠[]:=List.ne_nil_of_mem (mem_map.mpr ⟨o,allO_perm.mpr pm,rfl⟩);have emin:Fz ((Bu ws.length ws.length).map λo=>Cm ws (eN ws c o))=Ad ws-m:=by
  obtain⟨h1,h2⟩:=Gw hne;obtain⟨o',ho',e'⟩:=mem_map.mp h1;have h3:=(Ju ok (by decide) hmax (eN ws c o') (Py ok (allO_perm.mp ho'))).1;have h4:=h2 _ (mem_map.mpr ⟨o,allO_perm.mpr pm,rfl⟩);rw[eo]at h4;omega
 refine⟨_,by unfold MR;rw[F6,bind_some,if_neg hne],LQ ⟨_,rfl,(λh=>by rw[emin]at h;simp at h),λ_=>AY (A6 ?_)⟩⟩;refine AC (BX (Hw (A3 (AG (A5 ⟨_,rfl,Di (by decide) (by decide),?_⟩)))));refine B9 (I_law ns mo ws (Ad ws-m) L) ⟨0,a,b,g,none,none,none,none,none,by omega,rfl,rfl,rfl,tap.le hT (by omega)⟩ ?_ ?_
 .rintro d r ls hd ⟨j,a,b,g,z6,z7,z8,z9,z10,hj,er,rfl,rfl,hT⟩;obtain⟨mm,hmm⟩:∃m,3-j=m+1:=by
   cases q:3-j with
   |zero=>rw[q]at er;cases er
   |succ m=>exact⟨m,rfl⟩
  rw[hmm,AW]at er;obtain⟨rfl,rfl⟩:=List.cons.inj er;have ej:((j:Int)+1)=((j+1:Nat):Int):=by omega
  have emj:mm=3-(j+1):=by omega
  refine⟨[some (.ro ns),some (.mu 1),some (.im (.int mo)),some (.im (Aj ws)),some (.im (.int (Ad ws-m))),some (.mu L),some (.im (.int (j:Int))),z7,z8,z9,z10],rfl,?_⟩;have hT:T (300*(3-(j+1))+100+100) a b:=tap.le hT (by omega);refine AC (AL ?_);refine tap.call hT (as:=[.im (.int (ws.length:Int))]) (rest:=g) (by simp[BT]) rfl (Rf _ ws.length (by omega)) ?_;rintro i a b hT ⟨W,rfl,hW⟩;refine A6 (AC (AL ?_));refine tap.call hT (as:=[.im (Aj ws),.im (wI W)]) (rest:=g) rfl (by simp) (Yc _ ok hW) ?_;rintro i a b hT ⟨P,left,now,rfl,I⟩;have hP:∀p∈P,p.1<ws.length:=λp hp=>(I.ea p hp).1;have hPl:=I.ln;have lg:=(Ju ok (by decide) hmax (Pl.E P) (aI ok I)).1;refine A6 (AC (AL (AF (A3 (A1 rfl (A3 (A1 rfl (A5 ⟨by simp,(N7 ok hP).mono ?_⟩))))))));rintro d x rfl;refine⟨_,rfl,A6 ?_⟩;refine AC (AL (AF (A3 (A1 rfl (A3 (A1 rfl (A5 ⟨by simp,(GX ok (Pl.E P)).mono ?_⟩)))))));rintro d x rfl;refine⟨_,rfl,A6 ?_⟩;have ip:=Qm (ws:=ws.map EF) (by simp;omega) (P:=P) (by simpa using hP) (by omega) (W:=W) (by simpa using hW);rw[O8]at ip;have en:=Qz (ws:=ws.map EF) (P:=P) (by simp;omega) (by simpa using hP);rw[O8,length_map]at en;refine AC (Am (Ex (AQ (X9 (AF (A3 (A1 rfl (A3 (A1 rfl (A3 (A1 rfl (A5 ⟨by simp,ip.mono ?_⟩))))))))))));rintro d x ⟨bb,rfl,hb⟩;have hb:bb=true:=hb.mpr (aH ok hW I);subst hb;refine⟨_,rfl,true,rfl,_,rfl,?_⟩;rw[if_neg (by simp)];refine AQ (A7 (AF (A3 (A1 rfl (A3 (A1 rfl (A5 ⟨by simp,en.mono ?_⟩)))))));rintro d x rfl;refine⟨_,rfl,A1 rfl (Rc ⟨_,rfl,(λh=>by cases h),λ_=>AY (A6 ?_)⟩)⟩;refine Am (Ex (AQ (A7 (AF (A3 (A1 rfl (A3 (A1 rfl (A3 (AG (A5 ⟨by simp,WP.eq (Ue ok (Pl.E P)) ?_⟩)))))))))));refine⟨_,rfl,A1 rfl (LQ ⟨_,rfl,?_⟩)⟩;rw[if_neg (by simp)];refine AQ (A7 (A1 rfl (A1 rfl (Fm ⟨_,rfl,(λh=>?_),λ_=>AY ⟨AJ _,j+1,a,b,g,_,_,_,_,_,by omega,by rw[ej,emj],rfl,rfl,hT⟩⟩))));have h:Cm ws (Pl.E P)<Ad ws-m:=by simpa using h
  omega
 .rintro ls hd ⟨j,a,b,g,z6,z7,z8,z9,z10,hj,er,rfl,rfl,hT⟩;exact A6 (AU (AG rfl))
def law_eq(ns:List Int):∃hd,dJ [.ro ns] []=some (.im (.bl true),hd):=by
 obtain⟨d,x,e,rfl⟩:=ac ns;exact⟨x,e⟩
open PySem L2 PySem.W PyProof.Rows
abbrev xS:Xs:=[("by_dues",((("by_dues":Str)++".<locals>.")++"<lambda>"),66,41)]
def all_mk{l:PySem.W.OpenLaw}{w:World}{K:PySem.W.Frag}{h:Heap}{mg:Str->Option Value}{fa:Addr}{c P:Str->Addr}(X:K.In h)(G:h.Ns mainGlobals mg)(hfa:mg "law"=some (.ref fa))(hx:HX xS mg h c P)(F:PZ K):HG l w K xS mg c P fa PJ:=by
 obtain⟨Z,h0,h1,h2,h3,h4,h5,h6,h7,h8,h9,h10,h12,h13,h14,h15,h16,h17,h18,h19,h20,h21,h22,h23,h24,h25,h26,h27,h28,h29,h30,h31,h32,h33,h34,h35,h36,h37,h38,h39,h40,p11,h11,tn⟩:=F;have B:=(zsE Z).blt X G;have nd:((Ca (BF K (tbs xS P))).map (·.1)).Nodup:=aS (ps:=[p11]) (by show [P "by_dues"]=_;rw[((flE (e:=EB) h11).code X G hx (.head _)).1]) tn;refine Tg X G hfa hx (feE h0) bd1 rfl λbase hd bl=>?_;obtain⟨o_is_number,o_is_number_from,o_is_number_of_work,o_is_tuple_of,o_steps_at,o_cost_at,o_same_coming,o_one_coming,o_refuse_other_costs,o_weight_of,o_late_coming,o_by_dues,o_full_weight,o_no_more,o_put_behind,o_greatest_weight,o_look_at_shape,o_look_at_row,o_look_at_places,o_lets_table,o_is_piece,o_one_at_a_time,o_lengths_done,o_keeps_wishes,o_ends_of,o_is_plan,o_costs_of,o_worth,o_next_row,o_table_of,o_source,o_pick,o_late_works,o_late_weight,o_run_ends,o_wishes,o_plan,o_plan_ends,o_pairs,o_orders,o_law⟩:=oks (E:=enM l w K xS P mg base) B;have g1:=o_same_coming ((feE h1).dn X G hx bd1 l w base);have g2:=o_one_coming ((feE h2).dn X G hx bd1 l w base) g1;have g3:=o_refuse_other_costs ((feE h3).dn X G hx bd2 l w base);have g4:=o_late_coming ((feE h4).dn X G hx bd1 l w base) g2 g3;have g5:=o_weight_of ((feE h5).dn X G hx bd1 l w base);have g6:=o_full_weight ((feE h6).dn X G hx bd1 l w base) g5;have g7:=o_greatest_weight ((feE h7).dn X G hx bd1 l w base);have g8:=o_is_number ((feE h8).dn X G hx bd1 l w base);have g9:=o_is_tuple_of ((feE h9).dn X G hx bd2 l w base);have g10:=o_look_at_shape ((feE h10).dn X G hx bd3 l w base) g8 g9 g6;have g11:=o_by_dues ((flE h11).dl X G hx bd1 (.head _) l w hd bl nd rfl);have g12:=o_no_more ((feE h12).dn X G hx bd2 l w base);have g13:=o_put_behind ((feE h13).dn X G hx bd3 l w base);have g14:=o_look_at_row ((feE h14).dn X G hx bd4 l w base) g12 g13;have g15:=o_look_at_places ((feE h15).dn X G hx bd3 l w base) g4 g11 g12 g14;have g16:=o_lets_table ((feE h16).dn X G hx bd2 l w base) g4 g6 g7 g10 g15;have g17:=o_is_number_from ((feE h17).dn X G hx bd2 l w base) g8;have g18:=o_is_number_of_work ((feE h18).dn X G hx bd2 l w base) g17;have g19:=o_is_piece ((feE h19).dn X G hx bd2 l w base) g8 g18 g9;have g20:=o_one_at_a_time ((feE h20).dn X G hx bd1 l w base);have g21:=o_lengths_done ((feE h21).dn X G hx bd2 l w base);have g22:=o_keeps_wishes ((feE h22).dn X G hx bd3 l w base);have g23:=o_ends_of ((feE h23).dn X G hx bd2 l w base);have g24:=o_is_plan ((feE h24).dn X G hx bd3 l w base) g19 g20 g21 g22 g23;have g25:=o_steps_at ((feE h25).dn X G hx bd2 l w base)
 have g26:=o_cost_at ((feE h26).dn X G hx bd2 l w base) g25;have g27:=o_costs_of ((feE h27).dn X G hx bd2 l w base) g26;have g28:=o_worth ((feE h28).dn X G hx bd3 l w base) g27;have g29:=o_next_row ((feE h29).dn X G hx bd2 l w base) g12 g13;have g30:=o_table_of ((feE h30).dn X G hx bd1 l w base) g4 g11 g6 g29;have g31:=o_source ((feE h31).dn X G hx bd1 l w base);have g32:=o_pick ((feE h32).dn X G hx bd2 l w base);have g33:=o_late_works ((feE h33).dn X G hx bd2 l w base) g32;have g34:=o_late_weight ((feE h34).dn X G hx bd2 l w base);have g35:=o_run_ends ((feE h35).dn X G hx bd2 l w base);have g36:=o_wishes ((feE h36).dn X G hx bd2 l w base) g32;have g37:=o_plan ((feE h37).dn X G hx bd3 l w base) g32;have g38:=o_plan_ends ((feE h38).dn X G hx bd2 l w base);have g39:=o_pairs ((feE h39).dn X G hx bd2 l w base);have g40:=o_orders ((feE h40).dn X G hx bd1 l w base) g39;exact o_law ((feE h0).dn X G hx bd1 l w base) g16 g24 g23 g28 g30 g31 g32 g33 g34 g35 g36 g37 g38 g40
end T42
theorem PySem.Challenge.cw_benchdays_k42_whole_tables_bound_holds : PySem.Challenge.rw_benchdays_k42_whole_tables_bound.Holds := by
 refine T42.early λK F d hd hdf=>L2.walkL T42.xS (l:=PySem.Challenge.rw_benchdays_k42_whole_tables_bound) (n:=63) (k:=7) (F:=T42.dJ) rfl (by decide) hdf ⟨rfl,by decide,by decide,rfl⟩ (by intro x hx;simp only[T42.xS,mem_cons,not_mem_nil,or_false]at hx;subst hx;exact⟨_,rfl⟩) T42.law_eq (λw h Y=>Y) λw mg fa h c P X G hmg hx=>?_;rw[hd]at hmg;exact T42.all_mk X G hmg hx (F w)
