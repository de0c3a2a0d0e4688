import PyProof.Rows.All
import Wide.All
import OpenK.AllK
import Wide.FinOn
import Lean
import PyProof.EqAt
import PyProof.EqKinds
import PyProof.TupleCall
import KE.KSortKey
import PyProof.ListMulRoad
import PyProof.Draws
import PyProof.EnumMake
import PyProof.ListNew
import KE.KRevIter
import KE.KMinKey
import PyProof.TupleKey
import PySem.Challenge.RW_benchdays_k26_due_plans
set_option Elab.async false
set_option linter.all false
set_option maxRecDepth 100000
set_option compiler.extract_closed false
noncomputable section
open PySem.W(Frag fnOf OpenLaw keepIn codeIn)
set_option hygiene false in
local macro_rules | `(tactic| and_intros) => `(tactic| intro ρ σ H hd ls Q d hd' hR hL hm hQ)
open List(mem_cons mem_filter mem_range mem_append nodup_cons of_mem_zip length_drop all_cons flatten_cons mem_map all_eq_true mem_singleton mem_iff_getElem? nodup_append ext_getElem? map_snd_zip map_take nodup_range set_cons_succ set_cons_zero pairwise_cons filter_sublist sum_cons)
open Option(bind_some isSome_iff_exists isSome_map none_or getD_some)
open Nat(ne_of_gt lt_trans not_lt)
def gW{α β:Type _}{o:Option α}{f:α->Option β}{b:β}(h:o.bind f=some b):∃a,o=some a/\f a=some b:=Option.bind_eq_some_iff.mp h
def gX{α β:Type _}{o:Option α}{f:α->β}{b:β}(h:o.map f=some b):∃a,o=some a/\f a=b:=Option.map_eq_some_iff.mp h
def gb:=@if_pos
def gh:=@if_neg
def gj:=@PySem.wpAny_bind
def gk:=@Nat.le_refl
def gn:=@PySem.wpAny_pure
def gp:=@List.mem_cons_of_mem
def gq:=@List.mem_cons_self
def gu:=@List.size_toArray
def gv:=@List.map_cons
def gw:=@Nat.le_trans
def gy:=@List.mem_append_right
def gz:=@if_true
def gY:=@List.map_map
def gZ:=@List.length_map
def hE:=@List.mem_singleton
def hJ:=@Nat.ne_of_lt
def hX:=@congrArg
def hZ:=@List.lookup_cons
def i3:=@PySem.wpAny_mono
def i4:=@Option.map_some
def i5:=@if_false
def i6:=@List.mem_of_getElem?
def i7:=@List.length_cons
def i8:=@Nat.lt_of_lt_of_le
def i9:=@List.length_append
def ia:=@Int.toNat_natCast
def ic:=@List.append_nil
def ie:=@List.map_nil
def ig:=@List.map_append
def ik:=@PySem.wpAny_holding
def ip:=@PySem.sizeLine_eq
def iq:=@List.filter_sublist
def ir:=@Nat.zero_le
def iu:=@List.mem_append_left
def iw:=@Nat.lt_irrefl
def iy:=@Nat.le_of_lt
def iA:=@decide_eq_false
def iB:=@List.length_nil
def iC:=@decide_eq_true
def iD:=@of_decide_eq_true
def iE:=@List.append_assoc
def iF:=@List.find?_cons
def iG:=@List.filterMap_cons
def iH:=@List.length_take
def iI:=@List.cons_append
def iJ:=@List.length_filter_le
def iK:=@PySem.typeIs_int
def iL:=@List.nil_append
def iM:=@List.filter_cons
def iN:=@Nat.le_succ
def iO:=@List.any_cons
def iP:=@List.lookup_append
def iQ:=@List.pairwise_map
def iR:=@List.nodup_range
def iS:=@List.ne_nil_of_mem
def iT:=@PySem.wpAny_truthy_bool
def iU:=@PySem.wpAny_standAt
def iV:=@PySem.plainId_quiet
def iW:=@List.filter_cons_of_pos
def iX:=@List.length_range
def iY:=@PySem.wpAny_Call_Name_kw
def iZ:=@PySem.codeAny_builtin
def j3:=@PyProof.Rows.listUpdate_at
def j4:=@decide_eq_true_eq
def j5:=@List.replicate_succ
def j6:=@List.map_congr_left
def j7:=@List.filter_cons_of_neg
def j8:=@Int.le_antisymm
def j9:=@PySem.wpAny_passesOwn
def ja:=@PySem.codeAny_mono
def jb:=@PySem.wpAny_newObj_type
def jd:=@PySem.call_meets
def je:=@PySem.wpAny_newList
def jf:=@PyProof.Rows.get?_update_seq
def jg:=@PySem.wpAny_eqBool_int
def jh:=@PySem.nums_intItems
def ji:=@decide_false
def jj:=@of_decide_eq_false
def jk:=@PySem.wpAny_pyIter_list
def jl:=@PySem.wpAny_call_entry
def jm:=@PySem.tupleKind_room_in1
def jo:=@PySem.richCompare_gives
def jq:=@decide_eq_false_iff_not
set_option compiler.extract_closed false
local macro_rules | `(tactic| omega) => `(tactic| first | lia | omega (config := {}))
namespace Ea
open PySem PySem.W
noncomputable def dA(s:Stmt):Arguments:=match s with
 |.FunctionDef _ a _ _ _ _ _ _ _ _=>a
 |_=>{ posonlyargs:=[],args:=[],vararg:=none,kwonlyargs:=[],kw_defaults:=[],kwarg:=none,defaults:=[] }
noncomputable def dB(s:Stmt):List Stmt:=match s with
 |.FunctionDef _ _ b _ _ _ _ _ _ _=>b
 |_=>[]
noncomputable def dS(s:Stmt):Scope:=match s with
 |.FunctionDef _ _ _ _ _ _ sc _ _ _=>sc
 |_=>{ kind:=.function,names:=[],isGenerator:=false,isCoroutine:=false }
noncomputable def tO(o:Obj):Option Addr:=match o.data with
 | .fields vs=>(match (vs[11]?:Option Value)with
  |some (Value.ref P)=>some P
  | _=>none)
 |_=>none
def At(K:Frag)(n:Str)(s:Stmt)(f:Addr)(cd:Value):Prop:=∃oc kV dc pm ct od an sl,nsIn K mainGlobals n=some (some (.ref f))/\K.lookup f=some ⟨oc,od,.func (fnOf n n (dA s) (dB s) (dS s) .none kV dc pm an cd ct),sl⟩/\codeIn K cd n=true/\keepIn K (.ref f)=true
def Fe(K:Frag)(n:Str)(s:Stmt):Prop:=∃f cd,At K n s f cd
def Fl(K:Frag)(n:Str)(s:Stmt)(p:Addr):Prop:=∃f ca ob,At K n s f (.ref ca)/\K.lookup ca=some ob/\tO ob=some p
section
variable{K:Frag}{kV:Value}
def feI(a:nsIn K mainGlobals n=some (some (.ref f)))(l:K.lookup f=some ⟨oc,od,.func (fnOf n n (dA s) (dB s) (dS s) .none kV dc pm an cd ct),sl⟩)(c:codeIn K cd n=true)(k:keepIn K (.ref f)=true):Fe K n s:=⟨f,cd,_,_,_,_,_,_,_,_,a,l,c,k⟩
def flI(a:nsIn K mainGlobals n=some (some (.ref f)))(l:K.lookup f=some ⟨oc,od,.func (fnOf n n (dA s) (dB s) (dS s) .none kV dc pm an cd ct),sl⟩)(c:codeIn K cd n=true)(k:keepIn K (.ref f)=true)(u:cd=.ref ca)(t:K.lookup ca=some ob)(v:tO ob=some p):Fl K n s p:=by
 subst u;exact⟨f,ca,ob,⟨_,_,_,_,_,_,_,_,a,l,c,k⟩,t,v⟩
end
noncomputable abbrev cg:List Str:=["list","tuple","len","range","repr","sum","min","max","abs","all","any","sorted","zip","isinstance","int","bool","str","set","enumerate","reversed","dict"]
def Zs(K:Frag):Prop:=∀n∈cg,nsIn K mainGlobals n=some none
def Zg(K:Frag)(l:List Str):Prop:=∀n∈l,nsIn K mainGlobals n=some none
def zs0{K:Frag}:Zg K []:=λ_ h=>nomatch h
def zs1{K:Frag}(h:nsIn K mainGlobals n=some none)(r:Zg K l):Zg K (n::l):=λm hm=>by
 rcases mem_cons.mp hm with rfl|hm
 .exact h
 .exact r m hm
end Ea
namespace L2
open PySem
noncomputable def eF(nm:Str)(p:Addr×Obj):Bool:=match p.2.data with
 |.cls cd=>cd.name==nm
 |_=>false
def eG(K:Frag)(nm:Str):Option Addr:=(K.find? (eF nm)).map (·.1)
end L2
namespace Hl
open PySem PySem.W PyProof.Rows
noncomputable def Pa(p:Program)(w:World)(m:Nat)(ann:Option Value):Nat->SharedT->Thread->Option SharedT
 |0,_,_=>none
 |n+1,s,t=>match through t with
  |true=>some s
  |false=>match stepOk m ann t with
   |false=>none
   |true=>match stepT (denote treeTable) p w s t with
    |some (s',t')=>Pa p w m ann n s' t'
    |none=>none
theorem OV{m:Nat}:∀{n:Nat} {s s':SharedT} {t:Thread},Pa p w m ann n s t=some s'->topRun treeTable p w m ann n s.abs t=some s'.abs
 |0,_,_,_,h=>by cases h
 |n+1,s,s',t,h=>by
  rw[Pa]at h;rw[topRun];cases h1:through t with
  |true=>rw[h1]at h;cases h;rfl
  |false=>
   rw[h1]at h;cases h2:stepOk m ann t with
   |false=>rw[h2]at h;cases h
   |true=>
    rw[h2]at h;cases h3:stepT (denote treeTable) p w s t with
    |none=>rw[h3]at h;cases h
    |some r=>obtain⟨s2,t2⟩:=r;rw[h3]at h;rw[stepT_spec h3];exact OV h
noncomputable def Vs:Nat->List Obj->BT->BT
 |_,[],t=>t
 |n,o::r,t=>Vs (n+1) r (t.ins n o)
noncomputable def bT(P:Params):BT:=Vs 0 (boot_heap P).objs.toList .nil
def cf(P:Params):absHeap (bT P) 11 (boot_heap P).life=boot_heap P:=by kernel_rfl
def fK(P:Params):((boot_heap P).isNs mainGlobals,(boot_heap P).nsMap mainGlobals "__annotations__")=(true,some (.ref 6)):=by kernel_rfl
variable{Xt:Shared->Bool}{α:Type}{Yf:Shared->α}{Ya:World->α}{N M:Nat}
def bw(p q:Program)(loose:List Str)(Xt:Shared->Bool)(Yf:Shared->α)(M:Nat)(w:World)(os:OsState):=
 match Pa p w 11 (some (.ref 6)) M ⟨bT w.params,11,(boot_heap w.params).life,Array.mk [],boot_drawn,boot_toks,os⟩ (topStub p)with
 | some s=>(match staticsOk (importedModules p.main.body) (boot_heap w.params) s.abs.heap&&namesBound p s.abs.heap&&gensDone s.abs&&laidKept (boot_heap w.params) s.abs.heap with
  |true=>some (openSeen q loose (importedModules p.main.body) Xt true s.abs,Yf s.abs)
  | false=>none)
 |none=>none
def left(e:opening p=plainProg p.main.scope.names)(f:∀s,fenceModules? p s=some s)(hN:Nat.ble 600 N=true)(hM:Nat.ble M N=true)(h:∀w os,bw p q loose Xt Yf M w os=some (openGood q loose,Ya w)):LeftO p q loose Xt Yf Ya N:=λw=>by
 obtain⟨⟨hp,gs,d,k,os⟩,e1,e2⟩:=gX (boot_open e hN f w);simp only[Prod.mk.injEq]at e2;obtain⟨rfl,rfl,rfl,rfl⟩:=e2;have hl:=h w os;unfold bw at hl;split at hl
 .next s hs=>
  have r:=topRun_mono (N-M) _ _ _ _ (OV hs);rw[show M+(N-M)=N by have:=Nat.le_of_ble_eq_true hM;omega]at r;have ea:(SharedT.mk (bT w.params) 11 (boot_heap w.params).life (Array.mk []) boot_drawn boot_toks os).abs=⟨boot_heap w.params,Array.mk [],boot_drawn,boot_toks,os⟩:=by
   show Shared.mk (absHeap (bT w.params) 11 (boot_heap w.params).life) _ _ _ _=_;rw[cf]
  rw[ea]at r;obtain⟨z1,z2⟩:=Prod.mk.inj (fK w.params);have z3:(boot_heap w.params).objs.size=11:=rfl;split at hl
  .next c=>
   show((fencedOpening treeTable p w N).bind (topFrom treeTable p w N)).map _=_;rw[e1,bind_some];have t:topFrom treeTable p w N ⟨boot_heap w.params,Array.mk [],boot_drawn,boot_toks,os⟩=some s.abs:=by
    unfold topFrom;dsimp only;rw[z1,z2,z3,r];show(match staticsOk (importedModules p.main.body) (boot_heap w.params) s.abs.heap&&namesBound p s.abs.heap&&gensDone s.abs&&laidKept (boot_heap w.params) s.abs.heap with|true=>some s.abs|false=>none)=_;rw[c]
   rw[t];exact hl
  .cases hl
 .cases hl
end Hl
namespace T26
open PySem PySem.W PyProof.Rows Ea
noncomputable def top(i:Nat):Stmt:=PySem.Challenge.pw_benchdays_k26_due_plans.main.body.getD i (.Pass ⟨0,0,0,0⟩)
def vw:PySem.Program:={ PySem.Challenge.pw_benchdays_k26_due_plans with main:={ PySem.Challenge.pw_benchdays_k26_due_plans.main with body:=[1,2,4,6,7,9,10,11,12,14,15,16,18,19,21,23,24,25,26,27,28,29,30,31,32,34,35,36,37,38,39,40,41,42,43,44,45,46,47].map top } }
def RJ(K:Frag):Prop:=Zs K/\Fe K "law" (top 47)/\Fe K "raised" (top 1)/\Fe K "heads" (top 2)/\Fe K "steps_at" (top 9)/\Fe K "cost_at" (top 10)/\Fe K "reached" (top 14)/\Fe K "behind" (top 15)/\Fe K "last_ones" (top 16)/\Fe K "without" (top 24)/\Fe K "gaps_filled" (top 25)/\Fe K "broken_off" (top 26)/\Fe K "length_of" (top 18)/\Fe K "bound_of" (top 21)/\Fe K "greatest_plan" (top 28)/\Fe K "refuse_other_costs" (top 19)/\Fe K "turned_dues" (top 29)/\Fe K "add_piece" (top 30)/\Fe K "_law_feed" (top 34)/\Fe K "_law_next" (top 35)/\Fe K "_law_cost" (top 36)/\Fe K "_law_works" (top 37)/\Fe K "later_due" (top 11)/\Fe K "moved_cost" (top 12)/\Fe K "_law_far_works" (top 38)/\Fe K "_law_wishes" (top 39)/\Fe K "_law_is_int" (top 42)/\Fe K "_law_ends" (top 43)/\Fe K "_law_costs" (top 40)/\Fe K "_law_greatest" (top 44)/\Fe K "_law_heads" (top 41)/\Fe K "_law_turned" (top 45)/\Fe K "_law_due" (top 46)/\∃p3 p9 p15 p20 p21,Fl K "stretches_of" (top 4) p3/\Fl K "cheapest_last" (top 23) p9/\Fl K "greatest_bound" (top 27) p15/\Fl K "ranked_plan" (top 31) p20/\Fl K "due_plan" (top 32) p21/\([p3,p9,p15,p20,p21]:List Addr).Nodup
def fB{K:Frag}{p3 p9 p15 p20 p21:Addr}(z:Zs K)(h0:Fe K "law" (top 47))(h1:Fe K "raised" (top 1))(h2:Fe K "heads" (top 2))(h4:Fe K "steps_at" (top 9))(h5:Fe K "cost_at" (top 10))(h6:Fe K "reached" (top 14))(h7:Fe K "behind" (top 15))(h8:Fe K "last_ones" (top 16))(h10:Fe K "without" (top 24))(h11:Fe K "gaps_filled" (top 25))(h12:Fe K "broken_off" (top 26))(h13:Fe K "length_of" (top 18))(h14:Fe K "bound_of" (top 21))(h16:Fe K "greatest_plan" (top 28))(h17:Fe K "refuse_other_costs" (top 19))(h18:Fe K "turned_dues" (top 29))(h19:Fe K "add_piece" (top 30))(h22:Fe K "_law_feed" (top 34))(h23:Fe K "_law_next" (top 35))(h24:Fe K "_law_cost" (top 36))(h25:Fe K "_law_works" (top 37))(h26:Fe K "later_due" (top 11))(h27:Fe K "moved_cost" (top 12))(h28:Fe K "_law_far_works" (top 38))(h29:Fe K "_law_wishes" (top 39))(h30:Fe K "_law_is_int" (top 42))(h31:Fe K "_law_ends" (top 43))(h32:Fe K "_law_costs" (top 40))(h33:Fe K "_law_greatest" (top 44))(h34:Fe K "_law_heads" (top 41))(h35:Fe K "_law_turned" (top 45))(h36:Fe K "_law_due" (top 46))(h3:Fl K "stretches_of" (top 4) p3)(h9:Fl K "cheapest_last" (top 23) p9)(h15:Fl K "greatest_bound" (top 27) p15)(h20:Fl K "ranked_plan" (top 31) p20)(h21:Fl K "due_plan" (top 32) p21)(tn:([p3,p9,p15,p20,p21]:List Addr).Nodup):RJ K:=⟨z,h0,h1,h2,h4,h5,h6,h7,h8,h10,h11,h12,h13,h14,h16,h17,h18,h19,h22,h23,h24,h25,h26,h27,h28,h29,h30,h31,h32,h33,h34,h35,h36,_,_,_,_,_,h3,h9,h15,h20,h21,tn⟩
local macro_rules | `(tactic| o_head $H) => `(tactic| (refine holds_open (r := PySem.Challenge.rw_benchdays_k26_due_plans.row) (q := T26.vw) (loose := []) (Xt := λ s => xlAt T26.vw [] s && recOk (RowW.records (OpenRow.toRowW PySem.Challenge.rw_benchdays_k26_due_plans.row)) s) (XP := XL T26.vw []) (Yf := Hook.obs $H) (Ya := Hook.val $H) (YP := Hook.says $H) (N := 100000) ?hl (Hook.of $H) (Hook.keeps $H) (λ s e => xl_of s (Bool.and_eq_true_iff.mp e).1) XL.keeps (by rfl) (by rfl) (by rfl) (λ s e => recFacts_of (Bool.and_eq_true_iff.mp e).2) (by rfl) (by first | assumption | decide +kernel) (by decide +kernel) ⟨rfl, rfl, rfl, rfl, rfl, by decide +kernel⟩ ?hw ?hc; (case hl => exact Hl.left (M := 10000) (by rfl) (λ s => by rfl) (by decide) (by decide) λ w os => by kernel_rfl)))
set_option maxRecDepth 100000 in
set_option maxHeartbeats 0 in
def early(hG:∀(K:Params->Frag),(∀w:World,RJ (K w.params))->∀d:DefRec,d.name="law"->d.params.defaults=[]->WalkO T26.vw [] (XL T26.vw []) (λw h=>(K w.params).In h) PySem.Challenge.rw_benchdays_k26_due_plans.row.toRowW d [] (λf vs=>PySem.call f vs)):PySem.Challenge.rw_benchdays_k26_due_plans.Holds:=by
 w_on;o_law;k_head;(case hw=>w_witness2)
 k_fill
 refine λw s₀ s₁ mg mb G Y=>hG _ ?F _ rfl rfl w s₀ s₁ mg mb G (km_in_of Y)
 case F=>
  intro w;refine' fB ?z ?h0 ?h1 ?h2 ?h4 ?h5 ?h6 ?h7 ?h8 ?h10 ?h11 ?h12 ?h13 ?h14 ?h16 ?h17 ?h18 ?h19 ?h22 ?h23 ?h24 ?h25 ?h26 ?h27 ?h28 ?h29 ?h30 ?h31 ?h32 ?h33 ?h34 ?h35 ?h36 ?h3 ?h9 ?h15 ?h20 ?h21 ?tn
  case z=>(refine' zs1 _ (zs1 _ (zs1 _ (zs1 _ (zs1 _ (zs1 _ (zs1 _ (zs1 _ (zs1 _ (zs1 _ (zs1 _ (zs1 _ (zs1 _ (zs1 _ (zs1 _ (zs1 _ (zs1 _ (zs1 _ (zs1 _ (zs1 _ (zs1 _ (zs0)))))))))))))))))))))<;>k_is)
  case h0|h1|h2|h4|h5|h6|h7|h8|h10|h11|h12|h13|h14|h16|h17|h18|h19|h22|h23|h24|h25|h26|h27|h28|h29|h30|h31|h32|h33|h34|h35|h36=>(refine' feI ?a ?l ?c ?k;case a|l|c|k=>k_is)
  case h3|h9|h15|h20|h21=>(refine' flI ?a ?l ?c ?k ?u ?t ?v;(case a|l|c|k=>k_is);(case u=>rfl);(case t=>k_is);(case v=>rfl))
  case tn=>decide
end T26
set_option hygiene false in
local macro_rules|`(59)=>`(s.heap.objs.size)|`(65)=>`(ws.length)|`(66)=>`(by omega)|`(68)=>`(List.range)|`(69)=>`(model X.prog X.w)|`(70)=>`(Heap.get?_push_of_some)|`(71)=>`(by simp)|`(72)=>`(Nat->Int)|`(73)=>`(Inv X pins σ H s)|`(74)=>`(A0 0)|`(75)=>`(List.getElem?_eq_some_iff.mp)|`(76)=>`(Value->Shared->Prop)|`(77)=>`(List Nat)|`(78)=>`(vs.toArray)|`(79)=>`(List Value)|`(83)=>`(ds.length)|`(84)=>`(Heap.lt_size)|`(85)=>`(x1.trans R1 x2)|`(86)=>`(by simp;omega)|`(87)=>`(Heap.get?_push_size)|`(88)=>`(xs.length)|`(89)=>`(List (Addr×Obj))|`(90)=>`(scope.names)|`(92)=>`(List Int)|`(95)=>`(List (Nat×Nat))|`(96)=>`(Shared)|`(97)=>`(by decide)|`(98)=>`(X.env.qual++"<lambda>")|`(104)=>`(Option.some.inj)|`(105)=>`(.int (k:Int))|`(106)=>`(Bool.false_ne_true)|`(107)=>`(model prog w)|`(108)=>`(List Addr)|`(109)=>`(mC (.int 0))|`(110)=>`(Int.le_refl)|`(116)=>`(vs.length)|`(118)=>`(mC (.int 1))|`(119)=>`(by kernel_rfl)|`(120)=>`(its.toArray)|`(121)=>`(A0 2)
namespace L2
open PySem PySem.Spec PyProof.Rows
noncomputable abbrev Key:=Sum Int Str
noncomputable def ID:Key->Value->Bool
 |.inl k,v=>Value.isInt k v
 |.inr x,v=>Value.isStrOf x v
noncomputable def f8(w:World):Key->Int
 |.inl k=>hashInt k
 |.inr x=>hashStr w x
def Ba:∀{k:Key} {v:Value},ID k v=true->(∃i t,k=Sum.inl i/\v=Value.int i t)∨(∃x t,k=Sum.inr x/\v=Value.str x t)
 |.inl i,v,h=>by
  obtain⟨t,e⟩:=Value.isInt_shape (k:=i) (v:=v) h;exact .inl ⟨i,t,rfl,e⟩
 |.inr x,v,h=>by
  obtain⟨t,e⟩:=Value.isStrOf_shape (x:=x) (v:=v) h;exact .inr ⟨x,t,rfl,e⟩
def Sj(i:Int)(t:Tok):ID (.inl i) (.int i t)=true:=by simp[ID,Value.isInt]
def Si(x:Str)(t:Tok):ID (.inr x) (.str x t)=true:=by simp[ID,Value.isStrOf]
def c9(a b:Int):decide ((Sum.inl a:Key)=Sum.inl b)=(a==b):=by
 by_cases e:a=b
 .subst e;simp
 .have h:¬ (Sum.inl a:Key)=Sum.inl b:=λq=>e (Sum.inl.inj q);rw[iA h];exact(beq_eq_false_iff_ne.mpr e).symm
def c5(a b:Str):decide ((Sum.inr a:Key)=Sum.inr b)=decide (a=b):=by
 by_cases e:a=b
 .subst e;simp
 .have h:¬ (Sum.inr a:Key)=Sum.inr b:=λq=>e (Sum.inr.inj q);rw[iA h,iA e]
def c8(a:Int)(b:Str):decide ((Sum.inl a:Key)=Sum.inr b)=false:=iA (λq=>nomatch q)
def c7(a:Str)(b:Int):decide ((Sum.inr a:Key)=Sum.inl b)=false:=iA (λq=>nomatch q)
noncomputable def Bf(prog:Program)(w:World):PySem.KeyKind prog w Key where
 is:=ID
 hash:=f8 w
 inj:=λv a b ha hb=>by
  rcases Ba ha with⟨i,t,rfl,rfl⟩|⟨x,t,rfl,rfl⟩
  .rcases Ba hb with⟨j,u,rfl,e⟩|⟨y,u,rfl,e⟩
   .injection e with e1 _;rw[e1]
   .exact nomatch e
  .rcases Ba hb with⟨j,u,rfl,e⟩|⟨y,u,rfl,e⟩
   .exact nomatch e
   .injection e with e1 _;rw[e1]
 byValue:=λk v h=>by
  rcases Ba h with⟨i,t,rfl,rfl⟩|⟨x,t,rfl,rfl⟩<;>rfl
 pyHash:=λhv h=>by
  rcases Ba hv with⟨i,t,rfl,rfl⟩|⟨x,t,rfl,rfl⟩
  .exact wpAny_pyHash_int h
  .exact wpAny_pyHash_str h
 eqBool:=λhu hv h=>by
  rcases Ba hu with⟨i,t,rfl,rfl⟩|⟨x,t,rfl,rfl⟩
  .rcases Ba hv with⟨j,u,rfl,rfl⟩|⟨y,u,rfl,rfl⟩
   .rw[c9]at h;exact jg h
   .rw[c8]at h;exact SeqAt.EqAt.int_str i t y u _ _ _ _ h
  .rcases Ba hv with⟨j,u,rfl,rfl⟩|⟨y,u,rfl,rfl⟩
   .rw[c7]at h;exact SeqAt.EqAt.str_int x t j u _ _ _ _ h
   .rw[c5]at h;exact wpAny_eqBool_str h
 «strs»:=λk x t v h=>by
  rcases Ba h with⟨i,u,rfl,e⟩|⟨y,u,rfl,e⟩
  .exact nomatch e
  .injection e with e1 _
   subst e1;cases v<;>rfl
def OI(prog:Program)(w:World)(i:Int)(t:Tok):(Bf prog w).is (.inl i) (.int i t)=true:=Sj i t
def OH(prog:Program)(w:World)(x:Str)(t:Tok):(Bf prog w).is (.inr x) (.str x t)=true:=Si x t
inductive V where
 |non|bl (b:Bool)|int (i:Int)|str (x:Str)|byt (b:Array UInt8)|flt (b:UInt64)|ref (a:Addr)|ty (n:String)
 deriving DecidableEq
def RelV:V->Value->Prop
 |.non,u=>u=Value.none
 |.bl b,u=>u=Value.bool b
 |.int i,u=>∃t,u=Value.int i t
 |.str x,u=>∃t,u=Value.str x t
 |.byt b,u=>∃t,u=Value.bytes b t
 |.flt b,u=>∃t,u=Value.float b t
 |.ref a,u=>u=Value.ref a
 |.ty n,u=>u=Value.type n
abbrev Vals:List V->List Value->Prop:=Paired RelV
theorem Vals.length{xs:List V}{us:79}(r:Vals xs us):88=us.length:=Paired.length r
def Vals.get{xs:List V}{us:79}{i:Nat}{x:V}(h:Vals xs us)(e:xs[i]?=some x):∃u,us[i]?=some u/\RelV x u:=by
 induction h generalizing i with
 |nil=>simp at e
 |cons r t ih=>cases i with
  |zero=>simp at e;subst e;exact⟨_,rfl,r⟩
  |succ i=>simpa using ih (i:=i) (by simpa using e)
theorem Vals.set{x:V}{u:Value}(r:RelV x u){xs:List V}{us:79}(i:Nat)(h:Vals xs us):Vals (xs.set i x) (us.set i u):=by
 induction h generalizing i with
 |nil=>exact .nil
 |cons q t ih=>cases i with
  |zero=>exact .cons r t
  |succ i=>exact .cons q (ih i)
def Vals.append{xs ys:List V}{us ws:79}(h:Vals xs us)(s:Vals ys ws):Vals (xs++ys) (us++ws):=by
 induction h with
 |nil=>exact s
 |cons r t ih=>exact .cons r ih
theorem Vals.take{xs:List V}{us:79}(n:Nat)(h:Vals xs us):Vals (xs.take n) (us.take n):=by
 induction h generalizing n with
 |nil=>cases n<;>exact .nil
 |cons r t ih=>cases n with
  |zero=>exact .nil
  |succ n=>exact .cons r (ih n)
theorem Vals.drop{xs:List V}{us:79}(n:Nat)(h:Vals xs us):Vals (xs.drop n) (us.drop n):=by
 induction h generalizing n with
 |nil=>cases n<;>exact .nil
 |cons r t ih=>cases n with
  |zero=>exact .cons r t
  |succ n=>exact ih n
def RelO:Option V->Option Value->Prop
 |some v,some u=>RelV v u
 |none,none=>True
 |_,_=>False
def KV{κ:Type}:List (κ×V)->List (κ×Value)->Prop:=Paired λ(p:κ×V) (q:κ×Value)=>p.1=q.1/\RelV p.2 q.2
noncomputable def kV:Key->V
 |.inl i=>.int i
 |.inr x=>.str x
inductive HO where
 /-- a list -/
 |lst (xs:List V)
 /-- a tuple (never changes) -/
 |tup (xs:List V)
 /-- a dict whose keys are ints and texts;one whose keys are tuples of ints and texts (the empty one is both) -/
 |dK (kvs:List (Key×V))|dT (kvs:List (List Key×V))
 /-- a set of ints: its members,its size -/
 |set (S:Int->Bool) (n:Nat)
 /-- an instance of the class at C,its dict at dx,its attributes -/
 |ins (C dx:Addr) (fs:List (Str×V))
 /-- the dict of the instance at x -/
 |own (x:Addr)
 /-- the dict of an exception -/
 |xd (fs:List (Str×V))
 /-- a bound method,f of x -/
 |met (f x:Addr)
 /-- a range object lo,lo+1,.. below hi -/
 |rng (lo hi:Int)
 /-- a thing that is known to the object (the script;a dict while a loop walks it): read,never written while it is so -/
 |frz (o:Obj) (u:HO)
 /-- a code object's table -/
 |tbl (ps:Array Value)
 /-- any other thing,by what is true of its one object (a def of one's own: SetO a S n:=HO.ext λh=>..) -/
 |ext (φ:Heap->Prop)
noncomputable abbrev Hp:=Addr->Option HO
noncomputable def upd(H:Hp)(a:Addr)(o:HO):Hp:=λb=>if b=a then some o else H b
def AG{H:Hp}{a:Addr}{o:HO}:upd H a o a=some o:=by unfold upd;rw[gb rfl]
def upd_ne{H:Hp}{a b:Addr}{o:HO}(h:b≠a):upd H a o b=H b:=by unfold upd;rw[gh h]
def dh{H:Hp}{a b:Addr}{o u:HO}(h:H a=some o)(h':H b=some u)(d:o≠u):a≠b:=by
 intro e;subst e;rw[h]at h';exact d (104 h')
def AJ{H:Hp}{a b:Addr}{o:HO}(h:H a=some o)(h':H b=none):a≠b:=by
 intro e;subst e;rw[h]at h';cases h'
def IsTupD(h:Heap)(a:Addr)(items:Array Value):Prop:=∃o,h.get? a=some o/\o.cls=.type "tuple"/\(∃n,o.data=.seq items n)/\o.dict=none
def IsTupD.t{h:Heap}{a:Addr}{items:Array Value}(x:IsTupD h a items):IsTup h a items:=let ⟨o,e,c,d,_⟩:=x;⟨o,e,c,d⟩
def IsTupD.new(h:Heap)(items:Array Value):IsTupD (h.push { cls:=.type "tuple",data:=.seq items }) h.objs.size items:=⟨_,87 _ rfl,rfl,⟨_,rfl⟩,rfl⟩
section
variable(P:Program)(w:World)
noncomputable def ObjOk(H:Hp)(h:Heap)(a:Addr):HO->Prop
 |.lst xs=>88<=sizeLine/\∃(its:79) (n:Nat),Vals xs its/\h.get? a=some { cls:=.type "list",data:=.seq 120 n }
 |.tup xs=>88<=sizeLine/\∃its:List Value,Vals xs its/\IsTupD h a 120
 |.dK kvs=>kvs.length<=sizeLine/\(a==sysModules)=false/\∃vs,KV kvs vs/\h.DictOf (Bf P w) a vs
 |.dT kvs=>kvs.length<=sizeLine/\(a==sysModules)=false/\∃xs:List (List Key×Addr×Value),
  Paired (λ(p:List Key×V) (q:List Key×Addr×Value)=>p.1=q.1/\H q.2.1=some (.tup (p.1.map kV))/\RelV p.2 q.2.2) kvs xs /\
  ∃o es ep,h.get? a=some o/\o.ExactDict/\o.data=.dict es ep/\es.toList=xs.map (entryOfKey (tupleKind (Bf P w)))/\(xs.map (·.1)).Nodup
 |.set S n=>h.SetOf (intKind P w) a S n
 |.ins C dx fs=>H dx=some (.own a)/\fs.length<=1000/\dx≠a/\h.get? a=some (PySem.W.instObj C dx)/\
  ∃mA,h.Ns1 dx mA/\(∀f,RelO (fs.lookup f) (mA f))/\PySem.Within mA (fs.map (·.1))
 |.own _=>∃o,h.get? a=some o
 |.xd fs=>∃mA,h.Ns1 a mA/\∀f,RelO (fs.lookup f) (mA f)
 |.rng lo hi=>∃t u v,h.get? a=some { cls:=.type "range",data:=.fields #[.int lo t,.int hi u,.int 1 v] }
 |.frz o u=>h.get? a=some o/\ObjOk H h a u
 |.tbl ps=>h.get? a=some { cls:=.none,data:=.fields ps }
 |.met f x=>h.get? a=some (PySem.W.methodObj (.ref f) (.ref x))
 |.ext φ=>φ h/\(∃o,h.get? a=some o)/\∀h1 h2:Heap,φ h1->(∀o,h1.get? a=some o->h2.get? a=some o)->φ h2
def HOk(H:Hp)(h:Heap):Prop:=∀a o,H a=some o->ObjOk P w H h a o
end
section
variable{P:Program}{w:World}{H H':Hp}{h h':Heap}{a:Addr}{o:HO}
def ObjOk.lt(x:ObjOk P w H h a o):a<h.objs.size:=by
 cases o with
 |lst xs=>obtain⟨_,_,_,_,e⟩:=x;exact 84 e
 |tup xs=>obtain⟨_,_,_,o,e,_⟩:=x;exact 84 e
 |dK kvs=>obtain⟨_,_,_,_,o,_,_,e,_⟩:=x;exact 84 e
 |dT kvs=>obtain⟨_,_,_,_,o,_,_,e,_⟩:=x;exact 84 e
 |set S n=>obtain⟨o,_,_,_,e,_⟩:=x;exact 84 e
 |ins C dx fs=>obtain⟨_,_,_,e,_⟩:=x;exact 84 e
 |own y=>obtain⟨_,e⟩:=x;exact 84 e
 |xd fs=>obtain⟨_,⟨_,_,_,e,_⟩,_⟩:=x;exact 84 e
 |rng lo hi=>obtain⟨_,_,_,e⟩:=x;exact 84 e
 |frz ob u=>obtain⟨e,_⟩:=x;exact 84 e
 |tbl ps=>exact 84 (show h.get? a=some _ from x)
 |met f y=>exact 84 (show h.get? a=some _ from x)
 |ext φ=>obtain⟨_,⟨_,e⟩,_⟩:=x;exact 84 e
def Paired.mapP{α β:Type}{F G:α->β->Prop}{l₁:List α}{l₂:List β}(h:Paired F l₁ l₂)(f:∀a b,F a b->G a b):Paired G l₁ l₂:=by
 induction h with
 |nil=>exact .nil
 |cons r t ih=>exact .cons (f _ _ r) ih
def ObjOk.stay(x:ObjOk P w H h a o)(k:∀b u,(b=a∨H b=some (.own a))->h.get? b=some u->h'.get? b=some u)
 (ho:∀b,H b=some (.own a)->H' b=some (.own a)) (ht:∀b xs,H b=some (.tup xs)->H' b=some (.tup xs)):ObjOk P w H' h' a o:=by
 induction o with
 |lst xs=>obtain⟨z,its,n,r,e⟩:=x;exact⟨z,its,n,r,k _ _ (.inl rfl) e⟩
 |tup xs=>obtain⟨z,its,r,ob,e,c⟩:=x;exact⟨z,its,r,ob,k _ _ (.inl rfl) e,c⟩
 |dK kvs=>obtain⟨z,y,vs,r,ob,es,ep,e,c⟩:=x;exact⟨z,y,vs,r,ob,es,ep,k _ _ (.inl rfl) e,c⟩
 |dT kvs=>
  obtain⟨z,y,xs,r,ob,es,ep,e,c⟩:=x;exact⟨z,y,xs,Paired.mapP r λp q z=>⟨z.1,ht _ _ z.2.1,z.2.2⟩,ob,es,ep,k _ _ (.inl rfl) e,c⟩
 |set S n=>obtain⟨ob,es,ep,t,e,c⟩:=x;exact⟨ob,es,ep,t,k _ _ (.inl rfl) e,c⟩
 |ins C dx fs=>
  obtain⟨d,z,ne,e,mA,⟨od,es,ep,e2,c⟩,r⟩:=x;exact⟨ho _ d,z,ne,k _ _ (.inl rfl) e,mA,⟨od,es,ep,k _ _ (.inr d) e2,c⟩,r⟩
 |own y=>obtain⟨ob,e⟩:=x;exact⟨ob,k _ _ (.inl rfl) e⟩
 |xd fs=>obtain⟨mA,⟨od,es,ep,e,c⟩,r⟩:=x;exact⟨mA,⟨od,es,ep,k _ _ (.inl rfl) e,c⟩,r⟩
 |rng lo hi=>obtain⟨t,u,v,e⟩:=x;exact⟨t,u,v,k _ _ (.inl rfl) e⟩
 |frz ob u ih=>obtain⟨e,q⟩:=x;exact⟨k _ _ (.inl rfl) e,ih q⟩
 |tbl ps=>
  have e:h.get? a=some { cls:=.none,data:=.fields ps }:=x;show h'.get? a=some { cls:=.none,data:=.fields ps };exact k a _ (.inl rfl) e
 |met f y=>
  have e:h.get? a=some (PySem.W.methodObj (.ref f) (.ref y)):=x;show h'.get? a=some (PySem.W.methodObj (.ref f) (.ref y));exact k a _ (.inl rfl) e
 |ext φ=>obtain⟨p,⟨o,e⟩,st⟩:=x;exact⟨st _ _ p λo q=>k _ _ (.inl rfl) q,⟨o,k _ _ (.inl rfl) e⟩,st⟩
theorem HOk.lt(x:HOk P w H h)(e:H a=some o):a<h.objs.size:=(x a o e).lt
def HOk.fresh(x:HOk P w H h)(e:h.objs.size<=a):H a=none:=by
 cases q:H a with
 |none=>rfl
 |some u=>exact absurd (i8 (x.lt q) e) (iw _)
def HOk.kept(x:HOk P w H h)(k:∀b u,h.get? b=some u->h'.get? b=some u):HOk P w H h':=λa o e=>
 (x a o e).stay (λb u _ q=>k b u q) (λ_ q=>q) λ_ _ q=>q
def HOk.laid(x:HOk P w H h)(k:∀b u,h.get? b=some u->h'.get? b=some u)(hp:h.objs.size<=a)(new:ObjOk P w (upd H a o) h' a o):HOk P w (upd H a o) h':=λb u e=>by
 have hn:=x.fresh hp;by_cases hb:b=a
 .subst hb;rw[AG]at e;cases e;exact new
 .rw[upd_ne hb]at e;exact(x b u e).stay (λc v _ q=>k c v q) (λc q=>by rw[upd_ne (AJ q hn)];exact q) λc xs q=>by rw[upd_ne (AJ q hn)];exact q
end
def Rd(H:Hp)(a:Addr)(u:HO):Prop:=H a=some u∨∃o,H a=some (.frz o u)
def Rd.ok{P:Program}{w:World}{H:Hp}{h:Heap}{a:Addr}{u:HO}(r:Rd H a u)(x:HOk P w H h):ObjOk P w H h a u:=by
 rcases r with r|⟨o,r⟩
 .exact x a u r
 .obtain⟨_,q⟩:=x a _ r;exact q
def Mut:Option HO->Prop
 |some (.lst _)=>True
 |some (.dK _)=>True
 |some (.dT _)=>True
 |some (.set _ _)=>True
 |some (.ins _ _ _)=>True
 |some (.ext _)=>True
 |_=>False
section
variable{P:Program}{w:World}{H:Hp}{h h':Heap}{x e:Addr}{o':HO}
def HOk.write(ok:HOk P w H h)(mu:Mut (H x))(he:e=x∨H e=some (.own x))(k:∀b u,b≠e->h.get? b=some u->h'.get? b=some u)(heo:∃u,h'.get? e=some u)
 (new:ObjOk P w (upd H x o') h' x o'):HOk P w (upd H x o') h':=λb u q=>by
 have nown:∀c y,H c=some (.own y)->c≠x:=λc y r z=>by subst z;rw[r]at mu;exact mu
 have ntup:∀c xs,H c=some (.tup xs)->c≠x:=λc xs r z=>by subst z;rw[r]at mu;exact mu
 by_cases hb:b=x
 .subst hb;rw[AG]at q;cases q;exact new
 .rw[upd_ne hb]at q;by_cases hbe:b=e
  .have q':H b=some (.own x):=by
    rcases he with z|z
    .exact absurd (hbe.trans z) hb
    .rw[hbe];exact z
   rw[q]at q';cases q';obtain⟨v,hv⟩:=heo;exact⟨v,by rw[hbe];exact hv⟩
  .refine(ok b u q).stay (λc v hc r=>k c v ?_ r) (λc r=>by rw[upd_ne (nown c b r)];exact r) λc xs r=>by rw[upd_ne (ntup c xs r)];exact r
   rcases hc with rfl|hc
   .exact hbe
   .rintro rfl;rcases he with z|z
    .exact nown c b hc z
    .rw[hc]at z;cases z;exact hb rfl
end
structure Un(fs ex:108)(H H':Hp)(h h':Heap):Prop where
 keep:∀b o,h.get? b=some o->H b=none->b∉fs->b∉ex->h'.get? b=some o
 slot:∀b o,h.get? b=some o->H b=none->b∈fs->b∉ex->∃sl,h'.get? b=some { o with slots:=sl }
 free:∀b o,h.get? b=some o->H b=none->b∉ex->H' b=none
 there:∀b o,h.get? b=some o->b∉ex->∃o',h'.get? b=some o'
 tups:∀b xs,H b=some (.tup xs)->H' b=some (.tup xs)
 frzs:∀b o u,H b=some (.frz o u)->H' b=some (.frz o u)
 tbls:∀b ps,H b=some (.tbl ps)->∃more,H' b=some (.tbl (ps++more))
section
variable{fs fs' ex ex':108}{H H1 H2:Hp}{h h1 h2 h':Heap}{a x e:Addr}{o:HO}
def Un.any(u:Un fs ex H H1 h h1){b:Addr}{ob:Obj}(q:h.get? b=some ob)(n:H b=none)(hx:b∉ex):∃sl,h1.get? b=some { ob with slots:=sl }:=by
 by_cases hb:b∈fs
 .exact u.slot b ob q n hb hx
 .exact⟨ob.slots,u.keep b ob q n hb hx⟩
def Un.kept(k:∀b u,h.get? b=some u->h'.get? b=some u):Un fs ex H H h h':=
 ⟨λb ob q _ _ _=>k b ob q,λb ob q _ _ _=>⟨ob.slots,k b ob q⟩,λ_ _ _ n _=>n,λb ob q _=>⟨ob,k b ob q⟩,λ_ _ q=>q,λ_ _ _ q=>q,λ_ ps q=>⟨#[],by rw[q];simp⟩⟩
def Un.refl:Un fs ex H H h h:=Un.kept λ_ _ q=>q
def Un.laid(k:∀b u,h.get? b=some u->h'.get? b=some u)(hp:h.objs.size<=a)(hn:H a=none):Un fs ex H (upd H a o) h h' where
 keep:=λb u q _ _ _=>k b u q
 slot:=λb u q _ _ _=>⟨u.slots,k b u q⟩
 free:=λb u q n _=>by rw[upd_ne (hJ (i8 (Heap.lt_size q) hp))];exact n
 there:=λb u q _=>⟨u,k b u q⟩
 tups:=λb xs q=>by rw[upd_ne (AJ q hn)];exact q
 frzs:=λb u xs q=>by rw[upd_ne (AJ q hn)];exact q
 tbls:=λb ps q=>⟨#[],by rw[upd_ne (AJ q hn),q];simp⟩
def Un.write(mu:Mut (H x))(he:e=x∨H e=some (.own x))(k:∀b u,b≠e->h.get? b=some u->h'.get? b=some u)(heo:∃u,h'.get? e=some u):Un fs ex H (upd H x o) h h':=by
 have hx:∀b,H b=none->b≠x:=λb n z=>by subst z;rw[n]at mu;exact mu
 have hb:∀b,H b=none->b≠e:=λb n z=>by
  subst z;rcases he with r|r
  .exact hx b n r
  .rw[n]at r;cases r
 have hm:∀b u,H b=some u->¬ Mut (some u)->b≠x:=λb u q nm z=>by subst z;rw[q]at mu;exact nm mu
 refine⟨λb u q n _ _=>k b u (hb b n) q,λb u q n _ _=>⟨u.slots,k b u (hb b n) q⟩,λb u q n _=>by rw[upd_ne (hx b n)];exact n,λb u q _=>?_,
  λb xs q=>by rw[upd_ne (hm b _ q λz=>z)];exact q,λb u xs q=>by rw[upd_ne (hm b _ q λz=>z)];exact q,λb ps q=>⟨#[],by rw[upd_ne (hm b _ q λz=>z),q];simp⟩⟩
 by_cases hbe:b=e
 .subst hbe;exact heo
 .exact⟨u,k b u hbe q⟩
end
noncomputable def trk(h:Heap)(H:Hp):List Addr:=(68 h.objs.size).filter λa=>(H a).isSome
noncomputable def GY(h:Heap)(H:Hp):Heap:=PySem.W.hideAll h (trk h H)
def Sn(h:Heap)(H:Hp):(GY h H).objs.size=h.objs.size:=PySem.W.hideAll_size _ _
def VV{h:Heap}{H:Hp}{b:Addr}{o:Obj}(e:h.get? b=some o)(n:H b=none):(GY h H).get? b=some o:=
 PySem.W.hideAll_get _ e λhm=>by
  have q:(H b).isSome=true:=(mem_filter.mp hm).2;rw[n]at q;simp at q
def YU{h:Heap}{H:Hp}{b:Addr}{o:Obj}(e:(GY h H).get? b=some o):h.get? b=some o/\H b=none:=by
 have e':h.get? b=some o:=PySem.W.of_hideAll (trk h H) e;refine⟨e',?_⟩;cases q:H b with
 |none=>rfl
 |some x=>
  have hm:b∈trk h H:=mem_filter.mpr ⟨mem_range.mpr (84 e'),by simp[q]⟩;have z:(GY h H).get? b=none:=PySem.W.hideAll_none (trk h H) hm;rw[z]at e;cases e
structure Mod(K:Frag)(mg:Str->Option Value)(base:Heap):Prop where
 kin:K.In base
 glob:base.Ns mainGlobals mg
 blt:∃mb,base.Ns builtinsNs mb/\∀x:Str,x≠"__name__"->mb x=bootBuiltins x
 nolimit:base.NoLimit
structure Cx where
 prog:Program
 w:World
 K:Frag
 mg:Str->Option Value
 base:Heap
 A:Around
 N:List Str
 s₀:Shared
 H₀:Hp
 env:Env
 outer:List Env
 stack:List Env
 ex:List Addr
 fn:Str->Bool
 calm:Bool
 pn:List (Addr×Obj)
 xe:Value->Shared->Prop
noncomputable def frs(l:List Env):List Addr:=l.filterMap (·.frame)
abbrev Cx.fs(X:Cx):List Addr:=frs X.outer
def Vis(sc:Scope)(x:Str):Prop:=sc.names.lookup x=some .local∨sc.names.lookup x=some .cell∨sc.names.lookup x=some .free
def Loc(sc:Scope)(x:Str):Prop:=sc.names.lookup x=some .local∨sc.names.lookup x=some .cell
def fP(env:Env)(h:Heap)(m:Str->Option Value)(x:Str)(u:Value):Prop:=
 (env.kindOf x=some .local/\m x=some u)∨((env.kindOf x=some .cell∨env.kindOf x=some .free)/\∃c,env.cells.lookup x=some c/\h.IsCell c (some u))
structure Cx.Ok(X:Cx):Prop where
 mod:Mod X.K X.mg X.base
 kind:X.env.scope.kind=.function
 glob:X.env.globals=mainGlobals
 blt:X.env.builtins=builtinsNs
 above:X.s₀.heap.objs.size<=X.env.locals
 inj:∀x y c,X.env.cells.lookup x=some c->X.env.cells.lookup y=some c->x=y
 has:∀x,(X.env.kindOf x=some .cell∨X.env.kindOf x=some .free)->∃c,X.env.cells.lookup x=some c
 cab:∀x c,X.fn x=true->X.env.cells.lookup x=some c->X.s₀.heap.objs.size<=c
 hd:X.calm=true->X.A.handled=none
 frames:X.A.frames=some X.stack
 stk:X.stack=X.outer∨(X.stack=X.env::X.outer/\X.env.frame=some X.env.locals)
 exf:∀b∈X.ex,b≠X.env.locals/\∀x c,X.env.cells.lookup x=some c->c≠b
 bs:∀b o,X.base.get? b=some o->X.s₀.heap.get? b=some o/\X.H₀ b=none
 bsz:X.base.objs.size<=X.s₀.heap.objs.size
 noex:∀b o,X.base.get? b=some o->b∉X.ex
 exfs:∀b∈X.ex,b∉X.fs
 funs:X.s₀.heap.FunFrames X.base X.outer
 frf:∀b∈X.fs,X.H₀ b=none
structure Inv(X:Cx)(pins:89)(σ:List (Option V))(H:Hp)(s:96):Prop where
 ok:X.Ok
 os:s.os=X.s₀.os
 bare:AllBare s.gens
 base:Un X.fs X.ex X.H₀ H X.s₀.heap s.heap
 loc:∃m,s.heap.Ns X.env.locals m/\∀(i:Nat) (x:Str) (v:V),X.N[i]?=some x->σ[i]?=some (some v)->Vis X.env.scope x->∃u,RelV v u/\fP X.env s.heap m x u
 cell:∀x c,X.env.cells.lookup x=some c->∃v,s.heap.IsCell c v
 free:H X.env.locals=none
 freeC:∀x c,X.env.cells.lookup x=some c->H c=none
 pin:∀p∈X.pn++pins,s.heap.get? p.1=some p.2/\H p.1=none/\p.1≠X.env.locals/\p.1∉X.fs/\∀v,p.2.data≠.cell v
 hok:HOk X.prog X.w H s.heap
 len:σ.length=X.N.length
section
variable{X:Cx}{pins:89}{σ:List (Option V)}{H H':Hp}{s:96}{h':Heap}
def Cx.Ok.nofr(ok:X.Ok){b:Addr}{o:Obj}(e:X.base.get? b=some o):b∉X.fs:=λhb=>by
 have:=(ok.funs.mem hb).1;rw[e]at this;cases this
theorem Inv.bs(I:73):∀b o,X.base.get? b=some o->s.heap.get? b=some o/\H b=none:=λb o e=>
 ⟨I.base.keep b o (I.ok.bs b o e).1 (I.ok.bs b o e).2 (I.ok.nofr e) (I.ok.noex b o e),I.base.free b o (I.ok.bs b o e).1 (I.ok.bs b o e).2 (I.ok.noex b o e)⟩
def Inv.bk(I:73):∀b o,X.base.get? b=some o->s.heap.get? b=some o:=λb o e=>(I.bs b o e).1
theorem Inv.mod(I:73):Mod X.K X.mg X.base:=I.ok.mod
def Inv.kIn(I:73):X.K.In s.heap:=I.ok.mod.kin.keeps I.bk
theorem Inv.nolimit(I:73):s.heap.NoLimit:=I.ok.mod.nolimit.keeps I.bk
theorem Inv.lt(I:73):X.env.locals<s.heap.objs.size:=let ⟨_,hn,_⟩:=I.loc;hn.lt
def Inv.sz(I:73):X.s₀.heap.objs.size<=s.heap.objs.size:=gw I.ok.above (iy I.lt)
def Inv.nofs(I:73){a:Addr}(h:59<=a):a∉X.fs:=λhb=>by
 obtain⟨_,o,ho,_⟩:=I.ok.funs.mem hb;exact absurd (i8 (84 ho) (gw I.sz h)) (iw _)
def Inv.cne(I:73):∀x c,X.env.cells.lookup x=some c->c≠X.env.locals:=λx c e z=>by
 obtain⟨v,o,ho,hd⟩:=I.cell x c e;obtain⟨m,⟨o',es,ep,ho',hd',_⟩,_⟩:=I.loc;rw[z,ho']at ho;cases ho;rw[hd']at hd;cases hd
theorem Inv.funs(I:73):s.heap.FunFrames X.base X.outer:=by
 have all:∀(l:List Env),(∀b∈frs l,b∈X.fs)->X.s₀.heap.FunFrames X.base l->s.heap.FunFrames X.base l:=by
  intro l
  induction l with
  |nil=>intro _ _;trivial
  |cons env r ih=>
   intro hs hl;obtain⟨hk,⟨L,o,hf,hn,ho,hd⟩,hr⟩:=hl;have hL:L∈X.fs:=hs L (by unfold frs;rw[iG,hf];exact gq);obtain⟨sl,e⟩:=I.base.slot L o ho (I.ok.frf L hL) hL λz=>I.ok.exfs L z hL;exact⟨hk,⟨L,_,hf,hn,e,hd⟩,ih (λb hb=>hs b (by unfold frs;rw[iG,hf];exact gp _ hb)) hr⟩
 exact all X.outer (λ_ hb=>hb) I.ok.funs
theorem Inv.stack(I:73):s.heap.FunFrames X.base X.stack:=by
 rcases I.ok.stk with e|⟨e,hf⟩
 .rw[e];exact I.funs
 .rw[e];obtain⟨m,hn,_⟩:=I.loc;refine .cons (by rw[I.ok.kind];decide) hf hn ?_ I.funs;exact Heap.get?_none_of_le (gw I.ok.bsz I.ok.above)
def Inv.stkSub(I:73):∀b∈frs X.stack,b∈X.env.locals::X.fs:=λb hb=>by
 rcases I.ok.stk with e|⟨e,hf⟩
 .rw[e]at hb;exact gp _ hb
 .rw[e]at hb;unfold frs at hb;rw[iG,hf]at hb;exact hb
def Inv.stkFree(I:73):∀b∈frs X.stack,H b=none:=λb hb=>by
 rcases mem_cons.mp (I.stkSub b hb)with e|hb
 .rw[e];exact I.free
 .obtain⟨_,o,ho,_⟩:=I.ok.funs.mem hb;exact I.base.free b o ho (I.ok.frf b hb) λz=>I.ok.exfs b z hb
def Inv.step{g':Array GenState}{t':Nat}{d':Drawn}{ch:108}(I:73)
 (hch:∀b∈ch,(b∈X.ex∨X.s₀.heap.objs.size<=b)/\b≠X.env.locals/\(∀x c,X.env.cells.lookup x=some c->c≠b)/\∀p∈X.pn++pins,p.1≠b)
 (keep:∀b o,b≠X.env.locals->b∉X.fs->b∉ch->s.heap.get? b=some o->H b=none->h'.get? b=some o)
 (slot:∀b o,b≠X.env.locals->b∈X.fs->b∉ch->s.heap.get? b=some o->H b=none->∃sl,h'.get? b=some { o with slots:=sl }) (free:∀b o,b∉ch->s.heap.get? b=some o->H b=none->H' b=none)
 (there:∀b o,b∉ch->s.heap.get? b=some o->∃o',h'.get? b=some o')
 (tups:∀b xs,H b=some (.tup xs)->H' b=some (.tup xs)) (frzs:∀b o u,H b=some (.frz o u)->H' b=some (.frz o u)) (tbls:∀b ps,H b=some (.tbl ps)->∃more,H' b=some (.tbl (ps++more)))
 (ns:∀m,s.heap.Ns X.env.locals m->h'.Ns X.env.locals m) (hok:HOk X.prog X.w H' h') (hg:AllBare g'):
 Inv X pins σ H' { s with heap:=h',gens:=g',drawn:=d',toks:=t' }:=by
 have neL:∀b o,X.s₀.heap.get? b=some o->b≠X.env.locals:=λb o e=>hJ (i8 (84 e) I.ok.above);have neC:∀b o,X.s₀.heap.get? b=some o->b∉X.ex->b∉ch:=λb o e hx hb=>by
  rcases(hch b hb).1 with z|z
  .exact hx z
  .exact absurd (i8 (84 e) z) (iw _)
 have cellK:∀x c,X.env.cells.lookup x=some c->∀v,s.heap.IsCell c v->h'.IsCell c v:=λx c e v ⟨o,ho,hd⟩=>by
  have nch:c∉ch:=λz=>(hch c z).2.2.1 x c e rfl;by_cases hc:c∈X.fs
  .obtain⟨sl,q⟩:=slot c o (I.cne x c e) hc nch ho (I.freeC x c e);exact⟨_,q,hd⟩
  .exact⟨o,keep c o (I.cne x c e) hc nch ho (I.freeC x c e),hd⟩
 refine⟨I.ok,I.os,hg,⟨λb o e n hb hx=>?_,λb o e n hb hx=>?_,λb o e n hx=>?_,λb o e hx=>?_,λb xs e=>tups b xs (I.base.tups b xs e),λb o xs e=>frzs b o xs (I.base.frzs b o xs e),λb ps e=>?_⟩,?_,λx c e=>?_,?_,λx c e=>?_,λp hp=>?_,hok,I.len⟩
 .exact keep b o (neL b o e) hb (neC b o e hx) (I.base.keep b o e n hb hx) (I.base.free b o e n hx)
 .obtain⟨sl,e1⟩:=I.base.slot b o e n hb hx;obtain⟨sl',e2⟩:=slot b _ (neL b o e) hb (neC b o e hx) e1 (I.base.free b o e n hx);exact⟨sl',e2⟩
 .obtain⟨o',e1⟩:=I.base.there b o e hx;exact free b o' (neC b o e hx) e1 (I.base.free b o e n hx)
 .obtain⟨o',e1⟩:=I.base.there b o e hx;exact there b o' (neC b o e hx) e1
 .obtain⟨m1,e1⟩:=I.base.tbls b ps e;obtain⟨m2,e2⟩:=tbls b _ e1;exact⟨m1++m2,by rw[e2,Array.append_assoc]⟩
 .obtain⟨m,hn,hl⟩:=I.loc;refine⟨m,ns m hn,λi x v e1 e2 e3=>?_⟩;obtain⟨u,r,l⟩:=hl i x v e1 e2 e3;refine⟨u,r,?_⟩;rcases l with l|⟨k,c,e,z⟩
  .exact .inl l
  .exact .inr ⟨k,c,e,cellK x c e _ z⟩
 .obtain⟨v,z⟩:=I.cell x c e;exact⟨v,cellK x c e v z⟩
 .obtain⟨m,⟨o,_,_,ho,_⟩,_⟩:=I.loc;exact free _ o (λz=>(hch _ z).2.1 rfl) ho I.free
 .obtain⟨v,o,ho,hd⟩:=I.cell x c e;exact free c o (λz=>(hch c z).2.2.1 x c e rfl) ho (I.freeC x c e)
 .obtain⟨e,n,ne,nf,d⟩:=I.pin p hp;have nch:p.1∉ch:=λz=>(hch p.1 z).2.2.2 p hp rfl;exact⟨keep p.1 p.2 ne nf nch e n,free p.1 p.2 nch e n,ne,nf,d⟩
def Inv.un{t':Nat}(I:73)(u:Un X.fs [] H H' s.heap h')(hok:HOk X.prog X.w H' h'):Inv X pins σ H' { s with heap:=h',toks:=t' }:=by
 obtain⟨m,⟨o,es,ep,ho,r⟩,_⟩:=id I.loc;obtain⟨sl,hL⟩:=u.any ho I.free 71;exact I.step (g':=s.gens) (d':=s.drawn) (ch:=[]) (λ_ z=>nomatch z) (λb o _ hb _ e n=>u.keep b o e n hb 71) (λb o _ hb _ e n=>u.slot b o e n hb 71) (λb o _ e n=>u.free b o e n 71) (λb o _ e=>u.there b o e 71) u.tups u.frzs u.tbls (λm' hm=>by
  obtain⟨o',es',ep',ho',r'⟩:=hm;rw[ho]at ho';cases ho';exact⟨_,es',ep',hL,r'⟩) hok I.bare
def Inv.call{g':Array GenState}{t':Nat}{d':Drawn}{ch:108}(I:73)(u:Un (frs X.stack) ch H H' s.heap h')(hok:HOk X.prog X.w H' h')(hg:AllBare g')
 (hch:∀b∈ch,(b∈X.ex∨X.s₀.heap.objs.size<=b)/\b≠X.env.locals/\(∀x c,X.env.cells.lookup x=some c->c≠b)/\∀p∈X.pn++pins,p.1≠b):
 Inv X pins σ H' { s with heap:=h',gens:=g',drawn:=d',toks:=t' }:=by
 obtain⟨m,⟨o,es,ep,ho,r⟩,_⟩:=id I.loc;obtain⟨sl,hL⟩:=u.any ho I.free λz=>(hch _ z).2.1 rfl;exact I.step (ch:=ch) hch (λb o hL hb hc e n=>u.keep b o e n (λz=>(mem_cons.mp (I.stkSub b z)).elim hL hb) hc) (λb o _ _ hc e n=>u.any e n hc) (λb o hc e n=>u.free b o e n hc) (λb o hc e=>u.there b o e hc) u.tups u.frzs u.tbls (λm' hm=>by
  obtain⟨o',es',ep',ho',r'⟩:=hm;rw[ho]at ho';cases ho';exact⟨_,es',ep',hL,r'⟩) hok hg
def Inv.turned{t':Nat}{it:Addr}(I:73)(k:∀b o,b≠it->s.heap.get? b=some o->h'.get? b=some o)(hn:H it=none)(hL:it≠X.env.locals)
 (h1:it∈X.ex∨X.s₀.heap.objs.size<=it) (h2:∀x c,X.env.cells.lookup x=some c->c≠it) (h3:∀p∈X.pn++pins,p.1≠it):Inv X pins σ H { s with heap:=h',toks:=t' }:=by
 have nit:∀b u,H b=some u->b≠it:=λb u e z=>by rw[z,hn]at e;cases e
 refine I.step (g':=s.gens) (d':=s.drawn) (ch:=[it]) (λb hb=>?_) (λb o _ _ hc e _=>k b o (λz=>hc (by simp[z])) e) (λb o _ _ hc e _=>⟨o.slots,k b o (λz=>hc (by simp[z])) e⟩) (λ_ _ _ _ n=>n)
  (λb o hc e=>⟨o,k b o (λz=>hc (by simp[z])) e⟩) (λ_ _ e=>e) (λ_ _ _ e=>e) (λb ps e=>⟨#[],by rw[e];simp⟩) (λm hm=>?_) (λb u e=>?_) I.bare
 .have e:b=it:=by simpa using hb
  subst e;exact⟨h1,hL,h2,h3⟩
 .obtain⟨o,es,ep,ho,r⟩:=hm;exact⟨o,es,ep,k _ o (Ne.symm hL) ho,r⟩
 .refine(I.hok b u e).stay (λc v hc q=>k c v ?_ q) (λ_ q=>q) λ_ _ q=>q;rcases hc with z|z
  .rw[z];exact nit b u e
  .exact nit c _ z
def Inv.tok(I:73)(t:Nat):Inv X pins σ H { s with toks:=t }:=I.un (h':=s.heap) (t':=t) Un.refl I.hok
theorem Inv.kept{t':Nat}(I:73)(k:∀b u,s.heap.get? b=some u->h'.get? b=some u):Inv X pins σ H { s with heap:=h',toks:=t' }:=I.un (Un.kept k) (I.hok.kept k)
theorem Inv.laid{a:Addr}{o:HO}{t':Nat}(I:73)(k:∀b u,s.heap.get? b=some u->h'.get? b=some u)(hp:59<=a)(new:ObjOk X.prog X.w (upd H a o) h' a o):
 Inv X pins σ (upd H a o) { s with heap:=h',toks:=t' }:=I.un (Un.laid k hp (I.hok.fresh hp)) (I.hok.laid k hp new)
theorem Inv.write{x e:Addr}{o:HO}{t':Nat}(I:73)(mu:Mut (H x))(he:e=x∨H e=some (.own x))(k:∀b u,b≠e->s.heap.get? b=some u->h'.get? b=some u)(heo:∃u,h'.get? e=some u)
 (new:ObjOk X.prog X.w (upd H x o) h' x o):Inv X pins σ (upd H x o) { s with heap:=h',toks:=t' }:=I.un (Un.write mu he k heo) (I.hok.write mu he k heo new)
def Inv.pins_of{pins':89}(I:73)(h:∀p∈pins',s.heap.get? p.1=some p.2/\H p.1=none/\p.1≠X.env.locals/\p.1∉X.fs/\∀v,p.2.data≠.cell v):Inv X pins' σ H s:=
 ⟨I.ok,I.os,I.bare,I.base,I.loc,I.cell,I.free,I.freeC,λp hp=>(mem_append.mp hp).elim (λz=>I.pin p (iu _ z)) (h p),I.hok,I.len⟩
def NM{N:List Str}(hN:N.Nodup){i j:Nat}{x:Str}(a:N[i]?=some x)(b:N[j]?=some x):i=j:=by
 obtain⟨h1,e1⟩:=75 a;obtain⟨h2,e2⟩:=75 b;exact(List.getElem_inj hN).mp (e1.trans e2.symm)
def LH{M:Model}{A:Around}{E:76}{i:Nat}{x:Str}{v:V}{u:Value}{Q:Unit->Shared->Prop}(I:73)(hN:X.N.Nodup)(hi:X.N[i]?=some x)(hx:Loc X.env.scope x)(r:RelV v u)
 (h:∀s',Inv X pins (σ.set i (some v)) H s'->(∃a,Heap.SameBut a s.heap s'.heap/\(a=X.env.locals∨X.env.cells.lookup x=some a))->Q () s') (hf:X.fn x=true∨X.env.scope.names.lookup x=some .local:=by first|exact .inl rfl|exact .inr rfl|assumption):wpAny M A (storeName X.env x u) Q E s:=by
 obtain⟨m,hn,hl⟩:=id I.loc;have hcls:(X.env.scope.kind==.class||(X.env.scope.kind==.module&&X.env.locals != X.env.globals))=false:=by rw[I.ok.kind];rfl
 have hiσ:i<σ.length:=by rw[I.len];exact(75 hi).1
 have cne:=I.cne;have tracked:∀{a:Addr} {h':Heap},(∃o,s.heap.get? a=some o/\H a=none)->Heap.SameBut a s.heap h'->HOk X.prog X.w H h':=λ{a h'} ha hs b ob e=>by
  obtain⟨_,_,hfree⟩:=ha;refine(I.hok b ob e).stay (λc w' hc q=>(hs.2 c ?_).trans q) (λ_ q=>q) λ_ _ q=>q;rintro rfl;rcases hc with rfl|hc
  .rw[hfree]at e;cases e
  .rw[hfree]at hc;cases hc
 rcases hx with hk|hk
 .refine wpAny_storeName_local hk hn (λh' hn' hs=>?_) hcls;obtain⟨oL,_,_,hoL,_⟩:=id hn;refine h _ ⟨I.ok,I.os,I.bare,⟨λb o e n hb hx=>?_,λb o e n hb hx=>?_,I.base.free,λb o e hx=>?_,I.base.tups,I.base.frzs,I.base.tbls⟩,⟨_,hn',λj y v' e1 e2 e3=>?_⟩,λy c e=>?_,I.free,I.freeC,λp hp=>?_,tracked ⟨oL,hoL,I.free⟩ hs,by simpa using I.len⟩ ⟨_,hs,.inl rfl⟩
  .exact(hs.2 b (hJ (i8 (84 e) I.ok.above))).trans (I.base.keep b o e n hb hx)
  .obtain⟨sl,e1⟩:=I.base.slot b o e n hb hx;exact⟨sl,(hs.2 b (hJ (i8 (84 e) I.ok.above))).trans e1⟩
  .obtain⟨o',e1⟩:=I.base.there b o e hx;exact⟨o',(hs.2 b (hJ (i8 (84 e) I.ok.above))).trans e1⟩
  .by_cases hj:j=i
   .subst hj;rw[hi]at e1;cases e1;rw[List.getElem?_set_self hiσ]at e2;cases e2;exact⟨u,r,.inl ⟨hk,by simp⟩⟩
   .rw[List.getElem?_set_ne (Ne.symm hj)]at e2;obtain⟨u',r',q⟩:=hl j y v' e1 e2 e3;refine⟨u',r',?_⟩;rcases q with⟨k,e⟩|⟨k,c,e,z⟩
    .refine .inl ⟨k,?_⟩;have:y≠x:=λe=>hj (NM hN e1 (e ▸ hi));simp[this,e]
    .exact .inr ⟨k,c,e,z.sameBut hs (cne y c e)⟩
  .obtain⟨w',z⟩:=I.cell y c e;exact⟨w',z.sameBut hs (cne y c e)⟩
  .obtain⟨e,n,ne,nf,d⟩:=I.pin p hp;exact⟨(hs.2 p.1 ne).trans e,n,ne,nf,d⟩
 .have hfn:X.fn x=true:=by
   rcases hf with z|z
   .exact z
   .rw[z]at hk;cases hk
  obtain⟨c,hc⟩:=I.ok.has x (.inl hk);obtain⟨w',z⟩:=I.cell x c hc;refine wpAny_storeName_cell I.ok.kind hk hc z (λh' hc' hs=>?_);obtain⟨oc,hoc,hocd⟩:=id z;refine h { s with heap:=h' } ⟨I.ok,I.os,I.bare,⟨λb o e n hb hx=>?_,λb o e n hb hx=>?_,I.base.free,λb o e hx=>?_,I.base.tups,I.base.frzs,I.base.tbls⟩,⟨m,hn.sameBut hs (Ne.symm (cne x c hc)),λj y v' e1 e2 e3=>?_⟩,λy c' e=>?_,I.free,I.freeC,λp hp=>?_,tracked ⟨oc,hoc,I.freeC x c hc⟩ hs,by simpa using I.len⟩ ⟨c,hs,.inr hc⟩
  .exact(hs.2 b (hJ (i8 (84 e) (I.ok.cab x c hfn hc)))).trans (I.base.keep b o e n hb hx)
  .obtain⟨sl,e1⟩:=I.base.slot b o e n hb hx;exact⟨sl,(hs.2 b (hJ (i8 (84 e) (I.ok.cab x c hfn hc)))).trans e1⟩
  .obtain⟨o',e1⟩:=I.base.there b o e hx;exact⟨o',(hs.2 b (hJ (i8 (84 e) (I.ok.cab x c hfn hc)))).trans e1⟩
  .by_cases hj:j=i
   .subst hj;rw[hi]at e1;cases e1;rw[List.getElem?_set_self hiσ]at e2;cases e2;exact⟨u,r,.inr ⟨.inl hk,c,hc,hc'⟩⟩
   .rw[List.getElem?_set_ne (Ne.symm hj)]at e2;obtain⟨u',r',q⟩:=hl j y v' e1 e2 e3;refine⟨u',r',?_⟩;rcases q with q|⟨k,c',e,z'⟩
    .exact .inl q
    .refine .inr ⟨k,c',e,z'.sameBut hs ?_⟩;rintro rfl;exact hj (NM hN e1 (I.ok.inj _ _ _ e hc ▸ hi))
  .by_cases hcc:c'=c
   .subst hcc;exact⟨_,hc'⟩
   .obtain⟨w2,z2⟩:=I.cell y c' e;exact⟨w2,z2.sameBut hs hcc⟩
  .obtain⟨e,n,ne,nf,d⟩:=I.pin p hp;refine⟨(hs.2 p.1 ?_).trans e,n,ne,nf,d⟩;intro q;rw[q,hoc]at e;have q':oc=p.2:=104 e;exact d w' (by rw[<- q'];exact hocd)
def Ih{M:Model}{A:Around}{E:76}{i:Nat}{x:Str}{v:V}{u:Value}{Q:Unit->Shared->Prop}(I:73)(hN:X.N.Nodup)(hi:X.N[i]?=some x)(hx:Loc X.env.scope x)(r:RelV v u)
 (h:∀s',Inv X pins (σ.set i (some v)) H s'->Q () s') (hf:X.fn x=true∨X.env.scope.names.lookup x=some .local:=by first|exact .inl rfl|exact .inr rfl|assumption):wpAny M A (storeName X.env x u) Q E s:=
 LH I hN hi hx r (λs' I' _=>h s' I') hf
def Inv.call'{s':96}{ch:108}(I:73)(ho:s'.os=s.os)(u:Un (frs X.stack) ch H H' s.heap s'.heap)(hok:HOk X.prog X.w H' s'.heap)(hg:AllBare s'.gens)
 (hch:∀b∈ch,(b∈X.ex∨X.s₀.heap.objs.size<=b)/\b≠X.env.locals/\(∀x c,X.env.cells.lookup x=some c->c≠b)/\∀p∈X.pn++pins,p.1≠b):Inv X pins σ H' s':=by
 obtain⟨h',g',d',t',o'⟩:=s';have e:o'=s.os:=ho;subst e;exact I.call (g':=g') (t':=t') (d':=d') u hok hg hch
end
noncomputable abbrev XK:=Value->Option Addr->Hp->Prop
noncomputable abbrev St:=List (Option V)
noncomputable abbrev VK:=V->Hp->Prop
noncomputable abbrev TE:=St->Hp->VK->Prop
noncomputable abbrev TT:=St->Hp->(Bool->Hp->Prop)->Prop
noncomputable abbrev TA:=St->Hp->(List V->Hp->Prop)->Prop
structure Ends where
 nx:St->Hp->Prop
 rt:VK
 bk:St->Hp->Prop:=λ_ _=>False
 ct:St->Hp->Prop:=λ_ _=>False
noncomputable abbrev TS:=Ends->St->Hp->Prop
def EP(X:Cx)(pins:89)(σ:St)(Q:VK)(u:Value)(s':96):Prop:=∃v H',Inv X pins σ H' s'/\RelV v u/\Q v H'
def TP(X:Cx)(pins:89)(σ:St)(Q:Bool->Hp->Prop)(b:Bool)(s':96):Prop:=∃H',Inv X pins σ H' s'/\Q b H'
def AP(X:Cx)(pins:89)(σ:St)(Q:List V->Hp->Prop)(us:79)(s':96):Prop:=∃vs H',Inv X pins σ H' s'/\Vals vs us/\Q vs H'
def SP(X:Cx)(pins:89)(D:Ends)(f:Flow)(s':96):Prop:=
 match f with
 |.next=>∃σ' H',Inv X pins σ' H' s'/\D.nx σ' H'
 |.brk=>∃σ' H',Inv X pins σ' H' s'/\D.bk σ' H'
 |.cont=>∃σ' H',Inv X pins σ' H' s'/\D.ct σ' H'
 |.ret u=>∃v σ' H',Inv X pins σ' H' s'/\RelV v u/\D.rt v H'
def PE(X:Cx)(e:Expr)(t:TE):Prop:=
 ∀(pins:89) (s:96) (σ:St) (H:Hp) (Q:VK),Inv X pins σ H s->t σ H Q->wpAny 69 X.A (eval e X.env) (EP X pins σ Q) X.xe s
def PT(X:Cx)(e:Expr)(t:TT):Prop:=
 ∀(pins:89) (s:96) (σ:St) (H:Hp) (Q:Bool->Hp->Prop),Inv X pins σ H s->t σ H Q->wpAny 69 X.A (isTrue e X.env (eval e X.env)) (TP X pins σ Q) X.xe s
def PW(X:Cx)(e:Expr)(t:TT):Prop:=
 ∀(whole:Sem Value) (pins:89) (s:96) (σ:St) (H:Hp) (Q:Bool->Hp->Prop),Inv X pins σ H s->t σ H Q->wpAny 69 X.A (isTrue e X.env whole) (TP X pins σ Q) X.xe s
def PW.pt{X:Cx}{e:Expr}{t:TT}(h:PW X e t):PT X e t:=h _
def PA(X:Cx)(es:List Expr)(t:TA):Prop:=
 ∀(pos:Pos) (pins:89) (s:96) (σ:St) (H:Hp) (Q:List V->Hp->Prop),Inv X pins σ H s->t σ H Q->wpAny 69 X.A (spliced (backTo pos (starEach es X.env))) (AP X pins σ Q) X.xe s
def PS(X:Cx)(st:Stmt)(t:TS):Prop:=
 ∀(pins:89) (s:96) (σ:St) (H:Hp) (D:Ends),Inv X pins σ H s->t D σ H->wpAny 69 X.A (exec st X.env) (SP X pins D) X.xe s
def PSs(X:Cx)(st:List Stmt)(t:TS):Prop:=
 ∀(pins:89) (s:96) (σ:St) (H:Hp) (D:Ends),Inv X pins σ H s->t D σ H->wpAny 69 X.A (execs st X.env) (SP X pins D) X.xe s
def thn{α:Type}{t:Sem α}{Q Q':α->Shared->Prop}{M:Model}{A:Around}{E:76}{s:96}(h:wpAny M A t Q E s)(hQ:∀a s,Q a s->Q' a s):wpAny M A t Q' E s:=i3 h hQ λ_ _ x=>x
section
variable{X:Cx}
def bin{a b:Expr}{ta tb:TE}(ha:PE X a ta)(hb:PE X b tb){pins:89}{s:96}{σ:St}{H:Hp}{R:V->V->Hp->Prop}(I:73)(h:ta σ H λx H1=>tb σ H1 λy H2=>R x y H2)
 {α:Type} {Q:α->Shared->Prop} {f:Value->Value->Sem α}
 (hf:∀v u s2 x y H2,Inv X pins σ H2 s2->RelV x v->RelV y u->R x y H2->wpAny 69 X.A (f v u) Q X.xe s2):
 wpAny 69 X.A (eval a X.env) (λv s₁=>wpAny 69 X.A (eval b X.env) (λu s₂=>wpAny 69 X.A (f v u) Q X.xe s₂) X.xe s₁) X.xe s:=by
 refine thn (ha pins s σ H _ I h) λv s1 ⟨x,H1,I1,r1,q1⟩=>?_;refine thn (hb pins s1 σ H1 _ I1 q1) λu s2 ⟨y,H2,I2,r2,q2⟩=>?_;exact hf v u s2 x y H2 I2 r1 r2 q2
noncomputable def Mg(i:Nat):TE:=λσ H Q=>∃v,σ[i]?=some (some v)/\Q v H
noncomputable def tC(v:V):TE:=λ_ H Q=>Q v H
def NH{i:Nat}{x:Str}{pos:Pos}(hN:X.N[i]?=some x)(hv:Vis X.env.scope x)(hd:(x==("__debug__":Str))=false:=by decide)(hcd:(x==("__classdict__":Str))=false:=by decide):PE X (.Name x pos) (Mg i):=by
 intro pins s σ H Q I h;obtain⟨v,e,h⟩:=h;obtain⟨m,hn,hl⟩:=I.loc;obtain⟨u,r,l⟩:=hl i x v hN e hv;have fin:EP X pins σ Q u s:=⟨v,H,I,r,h⟩
 rcases l with⟨hk,hm⟩|⟨hk,c,hc,hcell⟩
 .exact wpAny_Name (wpAny_loadName_local I.ok.kind hk hn hm fin) hd
 .rcases hk with hk|hk
  .exact wpAny_Name (wpAny_loadName_cell I.ok.kind hk hc hcell fin) hd
  .exact wpAny_Name (wpAny_loadName_free I.ok.kind hk hc hcell fin hcd) hd
def bL{i j pos}:PE X (.Constant (.int i) j pos) (tC (.int i)):=λ_ _ _ H _ I h=>wpAny_Constant_int ⟨.int i,H,I.tok _,⟨_,rfl⟩,h⟩
def da{b j pos}:PE X (.Constant (.bool b) j pos) (tC (.bl b)):=λ_ _ _ H _ I h=>Constant_bool ⟨.bl b,H,I,rfl,h⟩
def bI{j pos}:PE X (.Constant .none j pos) (tC .non):=λ_ _ _ H _ I h=>Constant_none ⟨.non,H,I,rfl,h⟩
def bF{x j pos}:PE X (.Constant (.str x) j pos) (tC (.str x)):=λ_ _ _ H _ I h=>Calls.Constant_str ⟨.str x,H,I.tok _,⟨_,rfl⟩,h⟩
def Gl(X:Cx)(x:Str):Prop:=X.env.kindOf x=some .globalImplicit
def Os{E:76}{pins:89}{s:96}{σ:St}{H:Hp}{x:Str}{u:Value}{pos:Pos}{Q:76}(I:73)(hg:Gl X x)(hm:X.mg x=some u)(h:Q u s)
 (hd:(x==("__debug__":Str))=false:=by decide):wpAny 69 X.A (eval (.Name x pos) X.env) Q E s:=
 Calls.Name_function_global I.ok.kind hg (Calls.loadGlobal_global (by rw[I.ok.glob];exact I.mod.glob.keeps I.bk) hm h) hd
def FC{E:76}{pins:89}{s:96}{σ:St}{H:Hp}{x:Str}{u:Value}{pos:Pos}{Q:76}(I:73)(hg:Gl X x)(hm:X.mg x=none)(hv:bootBuiltins x=some u)(h:Q u s)
 (hn:x≠"__name__":=by decide) (hd:(x==("__debug__":Str))=false:=by decide):wpAny 69 X.A (eval (.Name x pos) X.env) Q E s:=by
 obtain⟨mb,h1,h2⟩:=I.mod.blt;exact Calls.Name_function_global I.ok.kind hg (Calls.loadGlobal_builtin (by rw[I.ok.glob];exact I.mod.glob.keeps I.bk) hm (by rw[I.ok.blt];exact h1.keeps I.bk) ((h2 x hn).trans hv) h) hd
variable{a b:Expr}{ta tb:TE}{pos:Pos}
def PC(X:Cx)(op:CmpOp)(a b:Expr)(t:TE):Prop:=
 ∀(pins:89) (s:96) (σ:St) (H:Hp) (Q:VK),Inv X pins σ H s->t σ H Q ->
   wpAny 69 X.A (eval a X.env) (λv s₁=>wpAny 69 X.A (eval b X.env) (λu s₂=>wpAny 69 X.A (compareOp op v u) (EP X pins σ Q) X.xe s₂) X.xe s₁) X.xe s
def VD(b:Expr){op:CmpOp}(h:op≠.In)(h2:op≠.NotIn):behindInMarks op b=false:=by
 have e1:(op==CmpOp.In)=false:=by cases op<;>first|rfl|exact absurd rfl h
 have e2:(op==CmpOp.NotIn)=false:=by cases op<;>first|rfl|exact absurd rfl h2
 cases b<;>simp[behindInMarks,e1,e2]
noncomputable def Tx(ta:TE):TE:=λσ H Q=>ta σ H λx H1=>Q (.bl (decide (x=.non))) H1
def RelV.none_iff{x:V}{v:Value}(r:RelV x v):(v==Value.none)=decide (x=.non):=by
 cases x with
 |non=>cases r;rfl
 |bl _=>cases r;rfl
 |int _=>obtain⟨t,rfl⟩:=r;rfl
 |str _=>obtain⟨t,rfl⟩:=r;rfl
 |byt _=>obtain⟨t,rfl⟩:=r;rfl
 |flt _=>obtain⟨t,rfl⟩:=r;rfl
 |ref _=>cases r;rfl
 |ty _=>cases r;rfl
def bO{j pos'}(ha:PE X a ta):PC X .Is a (.Constant .none j pos') (Tx ta):=by
 intro pins s σ H Q I h;refine thn (ha pins s σ H _ I h) λv s1 ⟨x,H1,I1,r1,q1⟩=>?_;exact Constant_none (is_none_gen ⟨.bl _,H1,I1,by rw[r1.none_iff];rfl,q1⟩)
noncomputable def tB(t:TE):TT:=λσ H Q=>t σ H λx H1=>∃c,x=.bl c/\Q c H1
def NF{op:CmpOp}{t:TE}(h:PC X op a b t)(h1:behindInMarks op b=false:=by first|exact VD _ 97 97|rfl):PT X (.Compare a [op] [b] pos) (tB t):=by
 intro pins s σ H Q I hw;refine wpAny_isTrue_Compare1 (thn (h pins s σ H _ I hw) λv s1 h1=>thn h1 λu s2 h2=>thn h2 λc s3 ⟨x,H1,I1,r1,q1⟩=>?_) h1;obtain⟨d,rfl,q⟩:=q1;cases r1;exact iT ⟨H1,I1,q⟩
variable{tA tB':TT}{rest:List Expr}
noncomputable def U5(t u:TT):TT:=λσ H Q=>t σ H λc H1=>if c=true then u σ H1 Q else Q false H1
noncomputable def tOr(t u:TT):TT:=λσ H Q=>t σ H λc H1=>if c=true then Q true H1 else u σ H1 Q
noncomputable def Tt(t:TT):TT:=λσ H Q=>t σ H λc H1=>Q (!c) H1
def Y3(ha:PT X a tA):PW X (.BoolOp .And [a] pos) tA:=by
 intro wh pins s σ H Q I h;refine isTrue_and (thn (ha pins s σ H Q I h) λc s1 e=>?_);cases c with
 |true=>exact isTrue_and_nil e
 |false=>exact e
def ao(ha:PT X a tA):PW X (.BoolOp .Or [a] pos) tA:=by
 intro wh pins s σ H Q I h;refine isTrue_or (thn (ha pins s σ H Q I h) λc s1 e=>?_);cases c with
 |false=>exact isTrue_or_nil e
 |true=>exact e
def ap(ha:PT X a tA)(hb:PW X (.BoolOp .And (b::rest) pos) tB'):PW X (.BoolOp .And (a::b::rest) pos) (U5 tA tB'):=by
 intro wh pins s σ H Q I h;refine isTrue_and (thn (ha pins s σ H _ I h) λc s1 ⟨H1,I1,q1⟩=>?_);cases c with
 |true=>exact hb wh pins s1 σ H1 Q I1 q1
 |false=>exact⟨H1,I1,q1⟩
def dU(ha:PT X a tA)(hb:PW X (.BoolOp .Or (b::rest) pos) tB'):PW X (.BoolOp .Or (a::b::rest) pos) (tOr tA tB'):=by
 intro wh pins s σ H Q I h;refine isTrue_or (thn (ha pins s σ H _ I h) λc s1 ⟨H1,I1,q1⟩=>?_);cases c with
 |true=>exact⟨H1,I1,q1⟩
 |false=>exact hb wh pins s1 σ H1 Q I1 q1
def ar(ha:PT X a tA):PT X (.UnaryOp .Not a pos) (Tt tA):=by
 intro pins s σ H Q I h;exact isTrue_not (ha pins s σ H (λc H1=>Q (!c) H1) I h)
noncomputable def Pj(ta tb:TE):TE:=λσ H Q=>ta σ H λx H1=>∃c,x=.bl c/\if c=true then tb σ H1 Q else Q (.bl false) H1
noncomputable def Pd(ta:TE):TE:=λσ H Q=>ta σ H λx H1=>∃c,x=.bl c/\Q (.bl (!c)) H1
def bG{op}{t:TE}(h:PE X a t):PE X (.BoolOp op [a] pos) t:=λpins s σ H Q I hw=>BoolOp_one (h pins s σ H Q I hw)
def bN(ha:PE X a ta)(hb:PE X (.BoolOp .And (b::rest) pos) tb):PE X (.BoolOp .And (a::b::rest) pos) (Pj ta tb):=by
 intro pins s σ H Q I h;refine BoolOp_and (thn (ha pins s σ H _ I h) λv s1 ⟨x,H1,I1,r1,q1⟩=>?_);obtain⟨c,rfl,q1⟩:=q1;cases r1;refine iT ?_;cases c with
 |true=>exact hb pins s1 σ H1 Q I1 q1
 |false=>exact⟨.bl false,H1,I1,rfl,q1⟩
def bH(ha:PE X a ta):PE X (.UnaryOp .Not a pos) (Pd ta):=by
 intro pins s σ H Q I h;refine UnaryOp_ (thn (ha pins s σ H _ I h) λv s1 ⟨x,H1,I1,r1,q1⟩=>?_);obtain⟨c,rfl,q1⟩:=q1;cases r1;exact not_of (iT ⟨.bl (!c),H1,I1,rfl,q1⟩)
noncomputable def tIf(t:TT)(ta tb:TE):TE:=λσ H Q=>t σ H λc H1=>if c=true then ta σ H1 Q else tb σ H1 Q
def V2{c:Expr}(hc:PT X c tA)(ha:PE X a ta)(hb:PE X b tb):PE X (.IfExp c a b pos) (tIf tA ta tb):=by
 intro pins s σ H Q I h;refine wpAny_IfExp (thn (hc pins s σ H _ I h) λd s1 ⟨H1,I1,q1⟩=>?_);cases d with
 |true=>exact ha pins s1 σ H1 Q I1 q1
 |false=>exact hb pins s1 σ H1 Q I1 q1
end
def SqL(K:Frag)(H:Hp)(a:Addr)(xs:List V):Prop:=
 Rd H a (.lst xs) ∨
  ∃(o:Obj) (its:Array Value) (n:Nat),K.lookup a=some o/\o.cls=.type "list"/\o.dict=none/\o.data=.seq its n/\its.size<=sizeLine/\Vals xs its.toList
def SqT(K:Frag)(H:Hp)(a:Addr)(xs:List V):Prop:=
 Rd H a (.tup xs) ∨
  ∃(o:Obj) (its:Array Value) (n:Nat),K.lookup a=some o/\o.cls=.type "tuple"/\o.dict=none/\o.data=.seq its n/\its.size<=sizeLine/\Vals xs its.toList
noncomputable def fM:Value->Option V
 |.none=>some .non
 |.bool b=>some (.bl b)
 |.int i _=>some (.int i)
 |.str x _=>some (.str x)
 |.bytes b _=>some (.byt b)
 |.float b _=>some (.flt b)
 |.ref a=>some (.ref a)
 |.type n=>some (.ty n)
 |_=>none
def RelV.abs{x:V}{u:Value}(r:RelV x u):fM u=some x:=by
 cases x with
 |non=>cases r;rfl
 |bl _=>cases r;rfl
 |int _=>obtain⟨t,rfl⟩:=r;rfl
 |str _=>obtain⟨t,rfl⟩:=r;rfl
 |byt _=>obtain⟨t,rfl⟩:=r;rfl
 |flt _=>obtain⟨t,rfl⟩:=r;rfl
 |ref _=>cases r;rfl
 |ty _=>cases r;rfl
theorem RelV.inj{x y:V}{u:Value}(r:RelV x u)(q:RelV y u):x=y:=104 (r.abs.symm.trans q.abs)
theorem Vals.inj{xs ys:List V}{us:79}(h:Vals xs us)(g:Vals ys us):xs=ys:=by
 induction h generalizing ys with
 |nil=>cases g;rfl
 |cons r t ih=>cases g with|cons r' t'=>rw[r.inj r',ih t']
section
variable{X:Cx}{pins:89}{σ:St}{H:Hp}{s:96}{a:Addr}{xs ys:List V}
def SqL.of{K:Frag}(h:H a=some (.lst xs)):SqL K H a xs:=.inl (.inl h)
def SqT.of{K:Frag}(h:H a=some (.tup xs)):SqT K H a xs:=.inl (.inl h)
def Inv.list(I:73)(h:SqL X.K H a xs):∃its:List Value,Vals xs its/\PlainL s.heap a 120/\88<=sizeLine:=by
 rcases h with h|⟨o,its,n,hk,hc,hd,hs,hz,r⟩
 .obtain⟨z,its,n,r,e⟩:=h.ok I.hok;exact⟨its,r,⟨_,n,e,rfl,rfl,rfl⟩,z⟩
 .refine⟨its.toList,r,⟨o,n,I.kIn a o hk,hc,hd,by simpa using hs⟩,?_⟩;have e:=r.length;simp only[Array.length_toList]at e;omega
def Inv.tuple(I:73)(h:SqT X.K H a xs):∃its:List Value,Vals xs its/\IsTup s.heap a 120/\88<=sizeLine:=by
 rcases h with h|⟨o,its,n,hk,hc,_,hs,hz,r⟩
 .obtain⟨z,its,r,p⟩:=h.ok I.hok;exact⟨its,r,p.t,z⟩
 .refine⟨its.toList,r,⟨o,I.kIn a o hk,hc,n,by simpa using hs⟩,?_⟩;have e:=r.length;simp only[Array.length_toList]at e;omega
def Inv.list_inj(I:73)(h:SqL X.K H a xs)(h':SqL X.K H a ys):xs=ys:=by
 obtain⟨its,r,⟨o,n,e,_,_,d⟩,_⟩:=I.list h;obtain⟨its',r',⟨o',n',e',_,_,d'⟩,_⟩:=I.list h';rw[e]at e';cases e';rw[d]at d'
 injection d' with d1 _
 have:its=its':=by simpa using hX Array.toList d1
 subst this;exact r.inj r'
def Inv.tuple_inj(I:73)(h:SqT X.K H a xs)(h':SqT X.K H a ys):xs=ys:=by
 obtain⟨its,r,⟨o,e,_,n,d⟩,_⟩:=I.tuple h;obtain⟨its',r',⟨o',e',_,n',d'⟩,_⟩:=I.tuple h';rw[e]at e';cases e';rw[d]at d'
 injection d' with d1 _
 have:its=its':=by simpa using hX Array.toList d1
 subst this;exact r.inj r'
end
noncomputable abbrev Cx.wish(X:Cx)(E:76):Cx:={ X with xe:=E }
abbrev Cx.nox(X:Cx):Cx:=X.wish λ_ _=>False
theorem Cx.Ok.wish{X:Cx}(ok:X.Ok)(E:76):(X.wish E).Ok:=
 ⟨ok.mod,ok.kind,ok.glob,ok.blt,ok.above,ok.inj,ok.has,ok.cab,ok.hd,ok.frames,ok.stk,ok.exf,ok.bs,ok.bsz,ok.noex,ok.exfs,ok.funs,ok.frf⟩
def Cx.Ok.unwish{X:Cx}{E:76}(ok:(X.wish E).Ok):X.Ok:=
 ⟨ok.mod,ok.kind,ok.glob,ok.blt,ok.above,ok.inj,ok.has,ok.cab,ok.hd,ok.frames,ok.stk,ok.exf,ok.bs,ok.bsz,ok.noex,ok.exfs,ok.funs,ok.frf⟩
section
variable{X:Cx}{pins:89}{σ:St}{H:Hp}{s:96}{E:76}
theorem Inv.wish(I:73)(E:76):Inv (X.wish E) pins σ H s:=⟨I.ok.wish E,I.os,I.bare,I.base,I.loc,I.cell,I.free,I.freeC,I.pin,I.hok,I.len⟩
theorem Inv.unwish(I:Inv (X.wish E) pins σ H s):Inv X pins σ H s:=⟨I.ok.unwish,I.os,I.bare,I.base,I.loc,I.cell,I.free,I.freeC,I.pin,I.hok,I.len⟩
theorem SP.unwish{D:Ends}{f:Flow}{s':96}(h:SP (X.wish E) pins D f s'):SP X pins D f s':=by
 cases f with
 |next=>obtain⟨σ',H',I,q⟩:=h;exact⟨σ',H',I.unwish,q⟩
 |brk=>obtain⟨σ',H',I,q⟩:=h;exact⟨σ',H',I.unwish,q⟩
 |cont=>obtain⟨σ',H',I,q⟩:=h;exact⟨σ',H',I.unwish,q⟩
 |ret u=>obtain⟨v,σ',H',I,r,q⟩:=h;exact⟨v,σ',H',I.unwish,r,q⟩
theorem PSs.nox{st:List Stmt}{t:TS}(h:PSs X.nox st t):PSs X st t:=λpins s σ H D I hw=>
 i3 (h pins s σ H D (I.wish _) hw) (λ_ _ q=>q.unwish) λ_ _ z=>False.elim z
end
section
variable{X:Cx}{st:Stmt}{rest:List Stmt}{t u:TS}{e:Expr}{te:TE}{pos:Pos}
noncomputable def JY:TS:=λD σ H=>D.nx σ H
noncomputable def Tr(t u:TS):TS:=λD σ H=>t { D with nx:=u D } σ H
def Y5:PSs X [] JY:=λ_ _ σ H _ I h=>wpAny_execs_nil ⟨σ,H,I,h⟩
def Uw(h1:PS X st t)(h2:PSs X rest u):PSs X (st::rest) (Tr t u):=by
 intro pins s σ H D I h;refine wpAny_execs_cons (thn (h1 pins s σ H { D with nx:=u D } I h) λf s1 q=>?_);cases f with
 |next=>
  obtain⟨σ',H',I',q⟩:=q;exact h2 pins s1 σ' H' D I' q
 |ret v=>exact q
 |brk=>exact q
 |cont=>exact q
def Y4(h1:PS X st t):PSs X [st] t:=by
 intro pins s σ H D I h;refine wpAny_execs_cons (thn (h1 pins s σ H D I h) λf s1 q=>?_);cases f with
 |next=>exact wpAny_execs_nil q
 |ret v=>exact q
 |brk=>exact q
 |cont=>exact q
def Y7:PS X (.Pass pos) JY:=λ_ _ σ H _ I h=>wpAny_Pass ⟨σ,H,I,h⟩
def Inv.quiet{pins:89}{σ:St}{H:Hp}{s:96}(I:73):interactive X.env=false:=by simp[interactive,I.ok.kind]
noncomputable def Pe(te:TE):TS:=λD σ H=>te σ H λ_ H1=>D.nx σ H1
def Y8(he:PE X e te)(hs:swapsWith e none pos.line X.env=pure false:=by rfl):PS X (.Expr e pos) (Pe te):=by
 intro pins s σ H D I h;exact wpAny_Expr_any (thn (he pins s σ H _ I h) λv s1 ⟨x,H1,I1,r1,q1⟩=>⟨σ,H1,I1,q1⟩) I.quiet hs
noncomputable def Ts(te:TE):TS:=λD σ H=>te σ H D.rt
def av(he:PE X e te):PS X (.Return (some e) pos) (Ts te):=by
 intro pins s σ H D I h;exact wpAny_Return_some (thn (he pins s σ H _ I h) λv s1 ⟨x,H1,I1,r1,q1⟩=>⟨x,σ,H1,I1,r1,q1⟩)
noncomputable def Tz(c:TT)(t u:TS):TS:=λD σ H=>c σ H λb H1=>if b=true then t D σ H1 else u D σ H1
def dW{c:Expr}{a b:List Stmt}{tc:TT}(hc:PT X c tc)(ha:PSs X a t)(hb:PSs X b u):PS X (.If c a b pos) (Tz tc t u):=by
 intro pins s σ H D I h;refine wpAny_If (thn (hc pins s σ H _ I h) λd s1 ⟨H1,I1,q1⟩=>?_);cases d with
 |true=>exact ha pins s1 σ H1 D I1 q1
 |false=>exact hb pins s1 σ H1 D I1 q1
noncomputable def Mh:TS:=λ_ _ _=>False
def Uy:PS X st Mh:=λ_ _ _ _ _ _ h=>h.elim
end
noncomputable abbrev TG:=V->St->Hp->(St->Hp->Prop)->Prop
noncomputable abbrev TGs:=List V->St->Hp->(St->Hp->Prop)->Prop
def PG(X:Cx)(target:Expr)(t:TG):Prop:=
 ∀(pins:89) (s:96) (σ:St) (H:Hp) (v:V) (u:Value) (Q:St->Hp->Prop),Inv X pins σ H s->RelV v u->t v σ H Q ->
   wpAny 69 X.A (assign target X.env u) (λ_ s'=>∃σ' H',Inv X pins σ' H' s'/\Q σ' H') X.xe s
def PGs(X:Cx)(ts:List Expr)(t:TGs):Prop:=
 ∀(pins:89) (s:96) (σ:St) (H:Hp) (vs:List V) (us:79) (Q:St->Hp->Prop),Inv X pins σ H s->Vals vs us->t vs σ H Q ->
   wpAny 69 X.A (assignInOrder ((assignEach ts X.env).map (·.2)) us) (λ_ s'=>∃σ' H',Inv X pins σ' H' s'/\Q σ' H') X.xe s
noncomputable abbrev O6:=V->V->V->Hp->(Hp->Prop)->Prop
def Vp(X:Cx)(t:O6):Prop:=
 ∀(pins:89) (s:96) (σ:St) (H:Hp) (o i v:V) (ov iv u:Value) (Q:Hp->Prop),Inv X pins σ H s->RelV o ov->RelV i iv->RelV v u->t o i v H Q ->
   wpAny 69 X.A (setItem ov iv u) (λ_ s'=>∃H',Inv X pins σ H' s'/\Q H') X.xe s
noncomputable abbrev TIp:=V->V->Hp->VK->Prop
def PIp(X:Cx)(op:Operator)(t:TIp):Prop:=
 ∀(pins:89) (s:96) (σ:St) (H:Hp) (x y:V) (v u:Value) (Q:VK),Inv X pins σ H s->RelV x v->RelV y u->t x y H Q ->
   wpAny 69 X.A (inplaceOp op v u) (EP X pins σ Q) X.xe s
section
variable{X:Cx}{pos:Pos}
noncomputable def EE(i:Nat):TG:=λv σ H Q=>Q (σ.set i (some v)) H
def YH{i:Nat}{x:Str}(hN:X.N.Nodup)(hi:X.N[i]?=some x)(hx:Loc X.env.scope x)(hf:X.fn x=true∨X.env.scope.names.lookup x=some .local:=by first|exact .inl rfl|exact .inr rfl|assumption):PG X (.Name x pos) (EE i):=by
 intro pins s σ H v u Q I r h;exact wpAny_assign_Name (Ih I hN hi hx r (λs' I'=>⟨_,H,I',h⟩) hf)
noncomputable def VZ:TGs:=λvs σ H Q=>vs=[]/\Q σ H
noncomputable def Ql(t:TG)(u:TGs):TGs:=λvs σ H Q=>∃v r,vs=v::r/\t v σ H λσ' H'=>u r σ' H' Q
def YF:PGs X [] VZ:=by
 intro pins s σ H vs us Q I r h;obtain⟨e,h⟩:=h;subst e;cases r;exact assignInOrder_nil ⟨σ,H,I,h⟩
def V0{e:Expr}{es:List Expr}{t:TG}{u:TGs}(h1:PG X e t)(h2:PGs X es u)
 (hs:(assignEach (e::es) X.env).map (·.2)=assign e X.env::(assignEach es X.env).map (·.2):=by rfl):PGs X (e::es) (Ql t u):=by
 intro pins s σ H vs us Q I r h;obtain⟨v,vr,e1,h⟩:=h;subst e1;cases r with
 |cons r rr=>
  rw[hs];refine assignInOrder_cons (thn (h1 pins s σ H _ _ _ I r h) λ_ s1 ⟨σ1,H1,I1,q1⟩=>?_);exact h2 pins s1 σ1 H1 _ _ Q I1 rr q1
noncomputable def Qj(K:Frag)(n:Nat)(t:TGs):TG:=λv σ H Q=>∃a xs,v=.ref a/\SqT K H a xs/\88=n/\t xs σ H Q
def bA{es:List Expr}{k:Nat}{t:TGs}{n:Nat}(hc:X.calm=true)(h:PGs X es t)
 (hn:(assignEach es X.env).length=n:=by rfl) (hst:(assignEach es X.env).findIdx? (·.1)=none:=by rfl):PG X (.Tuple es k pos) (Qj X.K n t):=by
 intro pins s σ H v u Q I r hw;obtain⟨a,xs,e1,hq,hl,hw⟩:=hw;subst e1;cases r;obtain⟨its,rv,ht,hz⟩:=I.tuple hq;refine assign_Tuple_tuple (I.ok.hd hc) ht (by simp[hn,<- hl,rv.length]) hst λh' hx=>?_;have I1:Inv X pins σ H { s with heap:=h' }:=I.kept (t':=s.toks) λb o e=>hx b o (hJ (84 e)) e;exact h pins _ σ H xs _ Q I1 (by simpa using rv) hw
noncomputable def VY(to ti:TE)(t:O6):TG:=λv σ H Q=>to σ H λo H1=>ti σ H1 λi H2=>t o i v H2 λH3=>Q σ H3
def bB{o i:Expr}{to ti:TE}{t:O6}(ho:PE X o to)(hi:PE X i ti)(hs:Vp X t)
 (ha:∀v,assign (.Subscript o i pos) X.env v=(do
  let ov <- holding [v] (eval o X.env)
  let iv <- holding [v,ov] (eval i X.env)
  standAt pos
  holding [v,ov,iv] (setItem ov iv v)
  release [v,ov,iv] []):=by intro _;rfl):PG X (.Subscript o i pos) (VY to ti t):=by
 intro pins s σ H v u Q I r h;rw[ha];refine gj (ik (thn (ho pins s σ H _ I h) λov s1 ⟨x,H1,I1,r1,q1⟩=>?_));refine gj (ik (thn (hi pins s1 σ H1 _ I1 q1) λiv s2 ⟨y,H2,I2,r2,q2⟩=>?_));refine gj (iU (gj (ik (thn (hs pins s2 σ H2 x y v ov iv u _ I2 r1 r2 r q2) λ_ s3 ⟨H3,I3,q3⟩=>?_))));exact wpAny_release ⟨σ,H3,I3,q3⟩
noncomputable def F0(te:TE)(g:TG):TS:=λD σ H=>te σ H λx H1=>g x σ H1 D.nx
def SK{tg e:Expr}{te:TE}{g:TG}(he:PE X e te)(hg:PG X tg g)(hs:swapsWithSole [tg] e pos.line X.env=pure false:=by rfl)(hw:swappedStores [tg] e X.env=pure none:=by rfl)
 (h1:(assignEach [tg] X.env).map (·.2)=[assign tg X.env]:=by rfl):PS X (.Assign [tg] e pos) (F0 te g):=by
 intro pins s σ H D I h;refine wpAny_Assign_stores (thn (he pins s σ H _ I h) λv s1 ⟨x,H1,I1,r1,q1⟩=>?_) hs hw;rw[h1];exact thn (hg pins s1 σ H1 x v _ I1 r1 q1) λ_ s2 q=>q
def au{i:Nat}{x:Str}{e:Expr}{te:TE}{pos':Pos}(hN:X.N.Nodup)(hi:X.N[i]?=some x)(hx:Loc X.env.scope x)(he:PE X e te)(hs:swapsWith e (some (.Name x pos')) pos.line X.env=pure false:=by rfl)(hf:X.fn x=true∨X.env.scope.names.lookup x=some .local:=by first|exact .inl rfl|exact .inr rfl|assumption):
 PS X (.Assign [.Name x pos'] e pos) (F0 te (EE i)):=by
 intro pins s σ H D I h;refine wpAny_Assign_Name (thn (he pins s σ H _ I h) λv s1 ⟨y,H1,I1,r1,q1⟩=>?_) hs;exact Ih I1 hN hi hx r1 (λs2 I2=>⟨_,H1,I2,q1⟩) hf
noncomputable def U4(i:Nat)(te:TE)(ti:TIp):TS:=λD σ H=>∃x,σ[i]?=some (some x)/\te σ H λy H1=>ti x y H1 λz H2=>D.nx (σ.set i (some z)) H2
def ax{i:Nat}{x:Str}{e:Expr}{te:TE}{op:Operator}{ti:TIp}{pos':Pos}(hN:X.N.Nodup)(hi:X.N[i]?=some x)(hx:Loc X.env.scope x)(he:PE X e te)(ho:PIp X op ti)(hf:X.fn x=true∨X.env.scope.names.lookup x=some .local:=by first|exact .inl rfl|exact .inr rfl|assumption):
 PS X (.AugAssign (.Name x pos') op e pos) (U4 i te ti):=by
 intro pins s σ H D I h;obtain⟨v,e1,h⟩:=h;obtain⟨m,hn,hl⟩:=I.loc;have vis:Vis X.env.scope x:=by rcases hx with k|k;exact .inl k;exact .inr (.inl k)
 obtain⟨u,r,l⟩:=hl i x v hi e1 vis;refine wpAny_AugAssign_Name ?_;have go:wpAny 69 X.A (eval e X.env) (λw s₂=>wpAny 69 X.A (inplaceOp op u w) (λr s₃=>wpAny 69 X.A (storeName X.env x r) (λ_=>SP X pins D .next) X.xe s₃) X.xe s₂) X.xe s:=by
  refine thn (he pins s σ H _ I h) λw s1 ⟨y,H1,I1,r1,q1⟩=>?_;refine thn (ho pins s1 σ H1 v y u w _ I1 r r1 q1) λz s2 ⟨zv,H2,I2,r2,q2⟩=>?_;exact Ih I2 hN hi hx r2 (λs3 I3=>⟨_,H2,I3,q2⟩) hf
 rcases l with⟨hk,hm⟩|⟨hk,c,hc,hcell⟩
 .exact wpAny_loadName_local I.ok.kind hk hn hm go
 .rcases hk with hk|hk
  .exact wpAny_loadName_cell I.ok.kind hk hc hcell go
  .rcases hx with k|k
   .have:X.env.scope.names.lookup x=some .free:=hk;rw[k]at this;cases this
   .have:X.env.scope.names.lookup x=some .free:=hk;rw[k]at this;cases this
noncomputable def Pi(to ti te:TE)(tget:V->V->Hp->VK->Prop)(tip:TIp)(tset:O6):TS:=λD σ H=>to σ H λo H1=>ti σ H1 λi H2=>tget o i H2 λx H3=>te σ H3 λy H4=>tip x y H4 λz H5=>tset o i z H5 λH6=>D.nx σ H6
def cq(X:Cx)(t:V->V->Hp->VK->Prop):Prop:=
 ∀(pins:89) (s:96) (σ:St) (H:Hp) (o i:V) (ov iv:Value) (Q:VK),Inv X pins σ H s->RelV o ov->RelV i iv->t o i H Q ->
   wpAny 69 X.A (getItem ov iv) (EP X pins σ Q) X.xe s
def YA{o i e:Expr}{to ti te:TE}{tget:V->V->Hp->VK->Prop}{tip:TIp}{tset:O6}{op:Operator}{tpos:Pos}(ho:PE X o to)(hi:PE X i ti)(hg:cq X tget)(he:PE X e te)(hp:PIp X op tip)(hs:Vp X tset)
 (ha:∀ov iv new,augStore i ov iv new=(do holding [new,ov,iv] (setItem ov iv new);release [new,ov,iv] [];pure .next):=by intros;rfl):PS X (.AugAssign (.Subscript o i tpos) op e pos) (Pi to ti te tget tip tset):=by
 intro pins s σ H D I h;refine wpAny_AugAssign_SubscriptAny (thn (ho pins s σ H _ I h) λov s1 ⟨x1,H1,I1,r1,q1⟩=>?_) ha;refine thn (hi pins s1 σ H1 _ I1 q1) λiv s2 ⟨x2,H2,I2,r2,q2⟩=>?_;refine thn (hg pins s2 σ H2 x1 x2 ov iv _ I2 r1 r2 q2) λold s3 ⟨x3,H3,I3,r3,q3⟩=>?_;refine thn (he pins s3 σ H3 _ I3 q3) λv s4 ⟨x4,H4,I4,r4,q4⟩=>?_;refine thn (hp pins s4 σ H4 x3 x4 old v _ I4 r3 r4 q4) λnew s5 ⟨x5,H5,I5,r5,q5⟩=>?_;exact thn (hs pins s5 σ H5 x1 x2 x5 ov iv new _ I5 r1 r2 r5 q5) λ_ s6 ⟨H6,I6,q6⟩=>⟨σ,H6,I6,q6⟩
noncomputable def ipI(f:Int->Int->Int):TIp:=λx y H Q=>∃i j,x=.int i/\y=.int j/\Q (.int (f i j)) H
def cF:PIp X .Sub (ipI λi j=>i-j):=by
 intro pins s σ H x y v u Q I r1 r2 h;obtain⟨i,j,e1,e2,q⟩:=h;subst e1;subst e2;obtain⟨t,rfl⟩:=r1;obtain⟨t',rfl⟩:=r2;exact isub_int ⟨.int _,H,I.tok _,⟨_,rfl⟩,q⟩
end
section
variable{X:Cx}{pos:Pos}
noncomputable def Mf(c:TT)(tb:TS):TS:=λD σ H=>∃W:Nat->St->Hp->Prop,(∃m,W m σ H)/\∀m σ H,W m σ H ->
 c σ H λb H1=>if b=true then ∃N:St->Hp->Prop,(∀σ' H',N σ' H'->∃m',m'<m/\W m' σ' H')/\tb { D with nx:=N,ct:=N,bk:=D.nx } σ H1 else D.nx σ H1
def Ux{c:Expr}{body:List Stmt}{tc:TT}{tb:TS}(hp:PassesOwn 69 X.A X.env X.xe)(hc:PT X c tc)(hb:PSs X body tb):PS X (.While c body [] pos) (Mf tc tb):=by
 intro pins s σ H D I h;obtain⟨W,⟨m0,w0⟩,turn⟩:=h;refine wpAny_While (codeAny_whileLoop (λn s'=>∃σ' H',Inv X pins σ' H' s'/\W n σ' H') ?_ m0 ⟨σ,H,I,w0⟩);rintro n s1 ⟨σ1,H1,I1,w1⟩;refine j9 hp (thn (hc pins s1 σ1 H1 _ I1 (turn n σ1 H1 w1)) λb s2 ⟨H2,I2,q2⟩=>?_);cases b with
 |true=>
  obtain⟨N,hN,q2⟩:=q2;rw[gb rfl];refine j9 hp (thn (hb pins s2 σ1 H2 _ I2 q2) λf s3 q3=>?_);cases f with
  |next=>
   obtain⟨σ3,H3,I3,n3⟩:=q3;obtain⟨m',hm,w3⟩:=hN σ3 H3 n3;exact⟨m',hm,σ3,H3,I3,w3⟩
  |cont=>
   obtain⟨σ3,H3,I3,n3⟩:=q3;obtain⟨m',hm,w3⟩:=hN σ3 H3 n3;exact⟨m',hm,σ3,H3,I3,w3⟩
  |brk=>exact q3
  |ret v=>exact q3
 |false=>
  rw[gh Bool.false_ne_true];exact wpAny_execs_nil ⟨σ1,H2,I2,q2⟩
end
structure It where
 go:Nat->Hp->Prop
 yld:Nat->Hp->V->Hp->Prop
 stop:Nat->Hp->Prop
def FpOk(X:Cx)(pins:89)(H:Hp)(b:Addr):Prop:=
 H b=none/\b≠X.env.locals/\b∉X.fs/\(b∈X.ex∨X.s₀.heap.objs.size<=b)/\(∀x c,X.env.cells.lookup x=some c->c≠b)/\∀p∈X.pn++pins,p.1≠b
def Inv.fpOk{X:Cx}{pins:89}{σ:St}{H H':Hp}{s:96}{b:Addr}(I:73)(hb:59<=b)(hn:H' b=none):FpOk X pins H' b:=by
 refine⟨hn,ne_of_gt (i8 I.lt hb),I.nofs hb,.inr (gw I.sz hb),λx c e z=>?_,λp hp z=>?_⟩
 .obtain⟨v,q⟩:=I.cell x c e;exact absurd (i8 q.lt (by rw[z];exact hb)) (iw _)
 .exact absurd (i8 (84 (I.pin p hp).1) (by rw[z];exact hb)) (iw _)
structure Turn(P:Program)(w:World)(K:Frag)(tg:Expr)(J:It)(fp:108)(it:Addr)(tn:Nat->Heap->Prop):Prop where
 mem:it∈fp
 obj:∀i h,tn i h->∀b∈fp,∃o,h.get? b=some o/\∀v,o.data≠.cell v
 keep:∀i h h',tn i h->(∀b∈fp,∀o,h.get? b=some o->h'.get? b=some o)->tn i h'
 item:∀(X:Cx),X.prog=P->X.w=w->X.K=K->X.calm=true->∀(i:Nat) (pins:89) (s:96) (σ:St) (H:Hp) (E:76),Inv X pins σ H s->(∀b∈fp,FpOk X pins H b)->tn i s.heap->J.go i H ->
  wpAny (model P w) X.A (pyNext (.ref it)) (λr s1=>∃u,r=some u /\
   wpAny (model P w) X.A (letOwnedTupleGo tg (.ref it) u) (λ_ s2=>∃x H',Inv X pins σ H' s2/\RelV x u/\J.yld i H x H'/\tn (i+1) s2.heap/\∀b∈fp,H' b=none) E s1) E s
 done:∀(X:Cx),X.prog=P->X.w=w->X.K=K->X.calm=true->∀(i:Nat) (pins:89) (s:96) (σ:St) (H:Hp) (E:76),Inv X pins σ H s->(∀b∈fp,FpOk X pins H b)->tn i s.heap->J.stop i H ->
  wpAny (model P w) X.A (pyNext (.ref it)) (λr s1=>r=none/\Inv X pins σ H s1) E s
 self:∀(A:Around) (i:Nat) (s:96) (Q:76) (E:76),tn i s.heap->Q (.ref it) s->wpAny (model P w) A (pyIter (.ref it)) Q E s
noncomputable abbrev TI:=St->Hp->(It->Hp->Prop)->Prop
def PIE(X:Cx)(pins:89)(σ:St)(tg:Expr)(R:It->Hp->Prop)(itv:Value)(s2:96):Prop:=
 ∃(it:Addr) (fp:108) (tn:Nat->Heap->Prop) (J:It) (H':Hp),itv=.ref it/\Inv X pins σ H' s2/\Turn X.prog X.w X.K tg J fp it tn/\tn 0 s2.heap/\(∀b∈fp,FpOk X pins H' b)/\R J H'
def PI(X:Cx)(tg iter:Expr)(wi:TI):Prop:=
 ∀(pins:89) (s:96) (σ:St) (H:Hp) (R:It->Hp->Prop),Inv X pins σ H s->wi σ H R ->
   wpAny 69 X.A (eval iter X.env) (λv s1=>wpAny 69 X.A (pyIter v) (PIE X pins σ tg R) X.xe s1) X.xe s
def Qi{M:Model}{A:Around}{E:76}{s:96}{tg:Expr}{it:Addr}{u:Value}{o:Obj}{n:String}{vs:Array Value}{Q:Unit->Shared->Prop}(ho:s.heap.get? it=some o)(hc:o.cls=.type n)(hd:o.data=.fields vs)
 (hn:["enumerate","zip","dict_itemiterator","dict_reverseitemiterator","odict_iterator","itertools.zip_longest","itertools.pairwise"].contains n=false) (hQ:Q () s):wpAny M A (letOwnedTupleGo tg (.ref it) u) Q E s:=by
 unfold letOwnedTupleGo;cases tg<;>first
  |exact gn hQ
  | (cases u<;>first
   |exact gn hQ
   | (refine gj (wpAny_load ho ?_)
      rw[hc,hd];show wpAny M A (if(["enumerate","zip","dict_itemiterator","dict_reverseitemiterator","odict_iterator","itertools.zip_longest","itertools.pairwise"].contains n&&vs[0]?==some (rawInt _))=true then _ else _) Q E s;rw[gh (by intro h;rw[hn,Bool.false_and]at h;cases h)];exact gn hQ))
noncomputable def Itl(K:Frag)(a:Addr):It:=
 ⟨λi H=>∃xs x,SqL K H a xs/\xs[i]?=some x,λi H x H'=>H'=H/\∀xs,SqL K H a xs->xs[i]?=some x,λi H=>∃xs,SqL K H a xs/\88<=i⟩
noncomputable def Itt(K:Frag)(a:Addr):It:=
 ⟨λi H=>∃xs x,SqT K H a xs/\xs[i]?=some x,λi H x H'=>H'=H/\∀xs,SqT K H a xs->xs[i]?=some x,λi H=>∃xs,SqT K H a xs/\88<=i⟩
noncomputable def Itr(lo:Int)(n:Nat):It:=⟨λi _=>i<n,λi H x H'=>H'=H/\x=.int (lo+i),λi _=>n<=i⟩
def Re{P:Program}{w:World}{K:Frag}{tg:Expr}(a it:Addr):Turn P w K tg (Itl K a) [it] it (λi h=>h.IsListIter it a i) where
 mem:=by simp
 obj:=λi h st b hb=>by
  have e:b=it:=by simpa using hb
  subst e;obtain⟨o,e,c,d⟩:=st;exact⟨o,e,λv z=>by rw[d]at z;cases z⟩
 keep:=λi h h' st k=>st.at λo e=>k it 71 o e
 item:=by
  intro X hP hw hK hc i pins s σ H E I hf st hg;subst hP hw hK;obtain⟨xs,x,hq,hx⟩:=hg;obtain⟨its,rv,p,hz⟩:=I.list hq;obtain⟨u,hu,ru⟩:=rv.get hx;obtain⟨f0,f1,f2,f3,f4,f5⟩:=hf it 71;refine wpAny_pyNext_list_item st p.isList (x:=u) (by simpa using hu) λh' st' sb=>?_;have I1:Inv X pins σ H { s with heap:=h' }:=I.turned (t':=s.toks) (λb o hb e=>(sb.2 b hb).trans e) f0 f1 f3 f4 f5;obtain⟨o,e,c,d⟩:=id st';exact⟨u,rfl,Qi (s:={ s with heap:=h' }) e c d 97 ⟨x,H,I1,ru,⟨rfl,λys hy=>by rw[I.list_inj hy hq];exact hx⟩,st',λb hb=>(hf b hb).1⟩⟩
 done:=by
  intro X hP hw hK hc i pins s σ H E I hf st hg;subst hP hw hK;obtain⟨xs,hq,hx⟩:=hg;obtain⟨its,rv,p,hz⟩:=I.list hq;obtain⟨f0,f1,f2,f3,f4,f5⟩:=hf it 71;have hl:=rv.length;exact wpAny_pyNext_list_end (I.ok.hd hc) st p.isList 86 λh' eb=>⟨rfl,I.turned (t':=s.toks) (λb o hb e=>eb b o hb e) f0 f1 f3 f4 f5⟩
 self:=λ_ _ _ _ _ st h=>wpAny_pyIter_listiter st h
def PY{P:Program}{w:World}{K:Frag}{tg:Expr}(a it:Addr):Turn P w K tg (Itt K a) [it] it (λi h=>h.IsTupleIter it a i) where
 mem:=by simp
 obj:=λi h st b hb=>by
  have e:b=it:=by simpa using hb
  subst e;obtain⟨o,e,c,d⟩:=st;exact⟨o,e,λv z=>by rw[d]at z;cases z⟩
 keep:=λi h h' st k=>st.at λo e=>k it 71 o e
 item:=by
  intro X hP hw hK hc i pins s σ H E I hf st hg;subst hP hw hK;obtain⟨xs,x,hq,hx⟩:=hg;obtain⟨its,rv,p,hz⟩:=I.tuple hq;obtain⟨u,hu,ru⟩:=rv.get hx;obtain⟨f0,f1,f2,f3,f4,f5⟩:=hf it 71;refine wpAny_pyNext_tuple_item st (show s.heap.IsTuple a 120 from p) (x:=u) (by simpa using hu) λh' st' sb=>?_;have I1:Inv X pins σ H { s with heap:=h' }:=I.turned (t':=s.toks) (λb o hb e=>(sb.2 b hb).trans e) f0 f1 f3 f4 f5;obtain⟨o,e,c,d⟩:=id st';exact⟨u,rfl,Qi (s:={ s with heap:=h' }) e c d 97 ⟨x,H,I1,ru,⟨rfl,λys hy=>by rw[I.tuple_inj hy hq];exact hx⟩,st',λb hb=>(hf b hb).1⟩⟩
 done:=by
  intro X hP hw hK hc i pins s σ H E I hf st hg;subst hP hw hK;obtain⟨xs,hq,hx⟩:=hg;obtain⟨its,rv,p,hz⟩:=I.tuple hq;obtain⟨f0,f1,f2,f3,f4,f5⟩:=hf it 71;have hl:=rv.length;exact wpAny_pyNext_tuple_end (I.ok.hd hc) st (show s.heap.IsTuple a 120 from p) 86 λh' eb=>⟨rfl,I.turned (t':=s.toks) (λb o hb e=>eb b o hb e) f0 f1 f3 f4 f5⟩
 self:=λ_ _ _ _ _ st h=>wpAny_pyIter_tupleiter st h
def PZ{P:Program}{w:World}{K:Frag}{tg:Expr}(it:Addr)(lo:Int)(n:Nat):Turn P w K tg (Itr lo n) [it] it (λi h=>IsRangeIter h it (lo+(i:Nat)*1) ((n:Int)-(i:Nat)) 1) where
 mem:=by simp
 obj:=λi h st b hb=>by
  have e:b=it:=by simpa using hb
  subst e;exact⟨_,st,λv z=>by
   have z':Data.fields _=Data.cell v:=z;cases z'⟩
 keep:=λi h h' st k=>k it 71 _ st
 item:=by
  intro X hP hw hK hc i pins s σ H E I hf st hg;subst hP hw hK;obtain⟨f0,f1,f2,f3,f4,f5⟩:=hf it 71;have W:=Walks.range (prog:=X.prog) (w:=X.w) (I.ok.hd hc) it lo 1 n;refine W.item i s _ _ hg st λv h' tk hv st' kk=>?_;obtain⟨t,rfl⟩:=hv;have I1:Inv X pins σ H { s with heap:=h',toks:=tk }:=I.turned (λb o hb e=>kk b o (by simpa using hb) e) f0 f1 f3 f4 f5;refine⟨_,rfl,Qi (s:={ s with heap:=h',toks:=tk }) (n:="range_iterator") st' rfl rfl 97 ⟨.int (lo+i),H,I1,⟨t,?_⟩,⟨rfl,rfl⟩,st',λb hb=>(hf b hb).1⟩⟩;rw[Int.mul_one]
 done:=by
  intro X hP hw hK hc i pins s σ H E I hf st hg;subst hP hw hK;obtain⟨f0,f1,f2,f3,f4,f5⟩:=hf it 71;exact wpAny_pyNext_range_end (I.ok.hd hc) st (by have:n<=i:=hg;omega) λh' eb=>⟨rfl,I.turned (t':=s.toks) (λb o hb e=>eb b o hb e) f0 f1 f3 f4 f5⟩
 self:=λ_ _ _ _ _ st h=>wpAny_pyIter_rangeiter st h
section
variable{X:Cx}{tg:Expr}
noncomputable def GX(K:Frag)(tl:TE):TI:=λσ H R=>tl σ H λx H1=>∃a,x=.ref a/\(∃xs,SqL K H1 a xs)/\R (Itl K a) H1
noncomputable def NZ(K:Frag)(tl:TE):TI:=λσ H R=>tl σ H λx H1=>∃a,x=.ref a/\(∃xs,SqT K H1 a xs)/\R (Itt K a) H1
def YE{l:Expr}{tl:TE}(hl:PE X l tl):PI X tg l (GX X.K tl):=by
 intro pins s σ H R I h;refine thn (hl pins s σ H _ I h) λv s1 ⟨x,H1,I1,r1,q1⟩=>?_;obtain⟨a,e,⟨xs,hq⟩,q⟩:=q1;subst e;cases r1;obtain⟨its,rv,p,hz⟩:=I1.list hq;refine jk p.isList ?_;refine⟨s1.heap.objs.size,[s1.heap.objs.size],_,_,H1,rfl,I1.kept (t':=s1.toks) λb o e=>70 _ e,Re a _,⟨_,87 _ rfl,rfl,rfl⟩,λb hb=>?_,q⟩;have e:b=s1.heap.objs.size:=by simpa using hb
 subst e;exact I1.fpOk (gk _) (I1.hok.fresh (gk _))
def az{l:Expr}{tl:TE}(hl:PE X l tl):PI X tg l (NZ X.K tl):=by
 intro pins s σ H R I h;refine thn (hl pins s σ H _ I h) λv s1 ⟨x,H1,I1,r1,q1⟩=>?_;obtain⟨a,e,⟨xs,hq⟩,q⟩:=q1;subst e;cases r1;obtain⟨its,rv,p,hz⟩:=I1.tuple hq;refine wpAny_pyIter_tuple (show s1.heap.IsTuple a 120 from p) ?_;refine⟨s1.heap.objs.size,[s1.heap.objs.size],_,_,H1,rfl,I1.kept (t':=s1.toks) λb o e=>70 _ e,PY a _,⟨_,87 _ rfl,rfl,rfl⟩,λb hb=>?_,q⟩;have e:b=s1.heap.objs.size:=by simpa using hb
 subst e;exact I1.fpOk (gk _) (I1.hok.fresh (gk _))
def UV{pins:89}{σ:St}{H:Hp}{s:96}{R:It->Hp->Prop}{E:76}{lo hi:Int}{t u v:Tok}{tk:Nat}(I:73)(h1:-(2^62)<=lo)(h2:lo<2^62)(h3:-(2^62)<=hi)(h4:hi<2^62)
 (q:R (Itr lo (hi-lo).toNat) H):wpAny 69 X.A (pyIter (.ref 59)) (PIE X pins σ tg R) E { s with heap:=s.heap.push { cls:=.type "range",data:=.fields #[.int lo t,.int hi u,.int 1 v] },toks:=tk }:=by
 refine wpAny_pyIter_range (IsRange.new ..) (small_one h1 h2 h3 h4) ?_;have I1:Inv X pins σ H { s with heap:=s.heap.push { cls:=.type "range",data:=.fields #[.int lo t,.int hi u,.int 1 v] },toks:=tk }:=I.kept λb o e=>70 _ e;refine⟨(s.heap.push { cls:=.type "range",data:=.fields #[.int lo t,.int hi u,.int 1 v] }).objs.size,[(s.heap.push { cls:=.type "range",data:=.fields #[.int lo t,.int hi u,.int 1 v] }).objs.size],_,_,H,rfl,
  I1.kept (t':=tk) λb o e=>70 _ e,PZ _ lo (hi-lo).toNat,?_,λb hb=>?_,q⟩
 .have e1:lo+((0:Nat):Int)*1=lo:=by simp
  have e2:(((hi-lo).toNat:Nat):Int)-((0:Nat):Int)=Builtin.Range.rangeSize lo hi 1:=by rw[rangeSize_one];split<;>omega
  show IsRangeIter _ _ (lo+((0:Nat):Int)*1) ((((hi-lo).toNat:Nat):Int)-((0:Nat):Int)) 1;rw[e1,e2];exact 87 _ rfl
 .have e:b=(s.heap.push { cls:=.type "range",data:=.fields #[.int lo t,.int hi u,.int 1 v] }).objs.size:=by simpa using hb
  subst e;exact I1.fpOk (gk _) (I1.hok.fresh (gk _))
noncomputable def Qh(ta:TA):TI:=λσ H R=>ta σ H λvs H1=>∃j:Int,vs=[.int j]/\-(2^62)<=j/\j<2^62/\R (Itr 0 j.toNat) H1
def SN{a:Expr}{ta:TA}{p pos:Pos}(hg:Gl X "range")(hm:X.mg "range"=none)(ha:PA X [a] ta)(hs:starEach [a] X.env=[(false,eval a X.env)]:=by rfl):PI X tg (.Call (.Name "range" p) [a] [] pos) (Qh ta):=by
 intro pins s σ H R I h;refine Call_ (FC I hg hm boot_range (PyProof.Rows.callWith_type1 (thn (ha pos pins s σ H _ I h) λus s1 ⟨vs,H1,I1,r1,q1⟩=>?_) hs rfl));obtain⟨j,e,q1,q2,q⟩:=q1;subst e;cases r1 with
 |cons r rr=>
  cases rr;obtain⟨t,rfl⟩:=r;exact call_range_1 (UV I1 66 66 q1 q2 (by simpa using q))
noncomputable def U0(wi:TI)(g:TG)(tb:TS):TS:=λD σ H=>wi σ H λJ H1=>∃W:Nat->Nat->St->Hp->Prop,(∃m,W 0 m σ H1)/\∀i m σ H,W i m σ H ->
 (J.stop i H/\D.nx σ H)∨(J.go i H/\∃N:St->Hp->Prop,(∀σ' H',N σ' H'->∃m',m'<m/\W (i+1) m' σ' H')/\∀x H',J.yld i H x H'->g x σ H' λσ2 H2=>tb { D with nx:=N,ct:=N,bk:=D.nx } σ2 H2)
noncomputable def HF(fp:108)(h:Heap):List (Addr×Obj):=fp.filterMap λb=>(h.get? b).map λo=>(b,o)
def Eh{fp:108}{h:Heap}{b:Addr}{o:Obj}(hb:b∈fp)(e:h.get? b=some o):(b,o)∈HF fp h:=List.mem_filterMap.mpr ⟨b,hb,by rw[e];rfl⟩
def SZ{fp:108}{h:Heap}{p:Addr×Obj}(hp:p∈HF fp h):p.1∈fp/\h.get? p.1=some p.2:=by
 obtain⟨b,hb,e⟩:=List.mem_filterMap.mp hp;cases q:h.get? b with
 |none=>rw[q]at e;cases e
 |some o=>
  rw[q]at e;have e':(b,o)=p:=104 e;subst e';exact⟨hb,q⟩
def Inv.pinned{pins:89}{σ:St}{H:Hp}{s:96}{fp:108}(I:73)(hf:∀b∈fp,FpOk X pins H b)(ho:∀b∈fp,∃o,s.heap.get? b=some o/\∀v,o.data≠.cell v):Inv X (pins++HF fp s.heap) σ H s:=
 I.pins_of λp hp=>(mem_append.mp hp).elim (λz=>I.pin p (gy _ z)) λz=>by
  obtain⟨hb,e⟩:=SZ z;obtain⟨f0,f1,f2,_⟩:=hf p.1 hb;obtain⟨o,e',d⟩:=ho p.1 hb;rw[e]at e';cases e';exact⟨e,f0,f1,f2,d⟩
def Inv.unpinned{pins pl:89}{σ:St}{H:Hp}{s:96}(I:Inv X (pins++pl) σ H s):Inv X pins σ H s:=I.pins_of λp hp=>I.pin p (gy _ (iu _ hp))
def aw{iter:Expr}{body:List Stmt}{wi:TI}{g:TG}{tb:TS}{pos:Pos}(hp:PassesOwn 69 X.A X.env X.xe)(hc:X.calm=true)(hi:PI X tg iter wi)(hg:PG X tg g)(hb:PSs X body tb)
 (hs:∀x,foldedSetIterable iter X.env x=pure x:=by intro _;rfl):PS X (.For tg iter body [] pos) (U0 wi g tb):=by
 intro pins s σ H D I h;refine wpAny_For (thn (hi pins s σ H _ I h) λv s1 h1=>thn h1 λitv s2 h2=>?_) hs;obtain⟨it,fp,tn,J,H2,e,I2,T,st2,f2,W,⟨m0,w0⟩,turn⟩:=h2;subst e
 -- what stays true of the iterator's objects through the loop
 have stat:∀{H':Hp},(∀b∈fp,H' b=none)->∀b∈fp,FpOk X pins H' b:=λhn b hb=>⟨hn b hb,(f2 b hb).2⟩
 refine codeAny_forLoop_any (λn s'=>∃i σ' H',Inv X pins σ' H' s'/\tn i s'.heap/\(∀b∈fp,H' b=none)/\W i n σ' H') ?_ m0 ⟨0,σ,H2,I2,st2,λb hb=>(f2 b hb).1,w0⟩;rintro n s3 ⟨i,σ3,H3,I3,st3,fr3,w3⟩;rcases turn i n σ3 H3 w3 with⟨stop,qn⟩|⟨go,N,hN,step⟩
 .refine j9 hp (thn (T.done X rfl rfl rfl hc i pins s3 σ3 H3 X.xe I3 (stat fr3) st3 stop) λr s4 ⟨hr,I4⟩=>?_);subst hr;exact wpAny_execs_nil ⟨σ3,H3,I4,qn⟩
 .refine j9 hp (thn (T.item X rfl rfl rfl hc i pins s3 σ3 H3 X.xe I3 (stat fr3) st3 go) λr s4 ⟨u,hr,h4⟩=>?_);subst hr;refine j9 hp (thn h4 λ_ s5 ⟨x,H5,I5,r5,y5,st5,fr5⟩=>?_);have I5':=I5.pinned (stat fr5) (T.obj _ _ st5);refine j9 hp (thn (hg _ s5 σ3 H5 x u _ I5' r5 (step x H5 y5)) λ_ s6 ⟨σ6,H6,I6,q6⟩=>?_);refine j9 hp (thn (hb _ s6 σ6 H6 _ I6 q6) λf s7 q7=>?_);have again:∀{σ7:St} {H7:Hp},Inv X (pins++HF fp s5.heap) σ7 H7 s7->N σ7 H7->∃m,m<n/\∃i σ' H',Inv X pins σ' H' s7/\tn i s7.heap/\(∀b∈fp,H' b=none)/\W i m σ' H':=λ{σ7 H7} I7 n7=>by
   obtain⟨m',hm,w7⟩:=hN σ7 H7 n7;refine⟨m',hm,i+1,σ7,H7,I7.unpinned,T.keep _ _ _ st5 λb hb o e=>(I7.pin (b,o) (gy _ (gy _ (Eh hb e)))).1,λb hb=>?_,w7⟩;obtain⟨o,e,d⟩:=T.obj _ _ st5 b hb;exact(I7.pin (b,o) (gy _ (gy _ (Eh hb e)))).2.1
  cases f with
  |next=>obtain⟨σ7,H7,I7,n7⟩:=q7;exact again I7 n7
  |cont=>obtain⟨σ7,H7,I7,n7⟩:=q7;exact again I7 n7
  |brk=>obtain⟨σ7,H7,I7,q7⟩:=q7;exact⟨σ7,H7,I7.unpinned,q7⟩
  |ret v=>obtain⟨x7,σ7,H7,I7,r7,q7⟩:=q7;exact⟨x7,σ7,H7,I7.unpinned,r7,q7⟩
end
noncomputable abbrev R2:=V->V->Hp->VK->Prop
def OpR(X:Cx)(f:Value->Value->Sem Value)(r:R2):Prop:=
 ∀(pins:89) (s:96) (σ:St) (H:Hp) (x y:V) (v u:Value) (Q:VK),Inv X pins σ H s->RelV x v->RelV y u->r x y H Q ->
   wpAny 69 X.A (f v u) (EP X pins σ Q) X.xe s
def UnR(X:Cx)(f:Value->Sem Value)(r:V->Hp->VK->Prop):Prop:=
 ∀(pins:89) (s:96) (σ:St) (H:Hp) (x:V) (v:Value) (Q:VK),Inv X pins σ H s->RelV x v->r x H Q ->
   wpAny 69 X.A (f v) (EP X pins σ Q) X.xe s
def CallR(X:Cx)(f:Value)(r:List V->Hp->VK->Prop):Prop:=
 ∀(pins:89) (s:96) (σ:St) (H:Hp) (xs:List V) (us:79) (Q:VK),Inv X pins σ H s->Vals xs us->r xs H Q ->
   wpAny 69 X.A (call f us) (EP X pins σ Q) X.xe s
def fN(X:Cx)(r:V->Hp->(Bool->Hp->Prop)->Prop):Prop:=
 ∀(pins:89) (s:96) (σ:St) (H:Hp) (x:V) (v:Value) (Q:Bool->Hp->Prop),Inv X pins σ H s->RelV x v->r x H Q ->
   wpAny 69 X.A (truthy v) (TP X pins σ Q) X.xe s
noncomputable def tOp(r:R2)(ta tb:TE):TE:=λσ H Q=>ta σ H λx H1=>tb σ H1 λy H2=>r x y H2 Q
noncomputable def tUn(r:V->Hp->VK->Prop)(ta:TE):TE:=λσ H Q=>ta σ H λx H1=>r x H1 Q
noncomputable def rI(C:Int->Int->Prop)(g:Int->Int->V):R2:=λx y H Q=>∃i j,x=.int i/\y=.int j/\C i j/\Q (g i j) H
noncomputable def rI0(g:Int->Int->V):R2:=λx y H Q=>∃i j,x=.int i/\y=.int j/\Q (g i j) H
def rU(g:Int->V):V->Hp->VK->Prop:=λx H Q=>∃i,x=.int i/\Q (g i) H
section
variable{X:Cx}{a b c:Expr}{ta tb tc:TE}{pos:Pos}
def Vk(ha:PE X a ta)(hb:PE X b tb){pins:89}{s:96}{σ:St}{H:Hp}{R:V->V->Hp->Prop}(I:73)
 (h:ta σ H λx H1=>tb σ H1 λy H2=>R x y H2) {Q:76} {f:Value->Value->Sem Value}
 (hf:∀v u s2 x y H2,Inv X pins σ H2 s2->RelV x v->RelV y u->R x y H2->wpAny 69 X.A (f v u) Q X.xe s2):
 wpAny 69 X.A (eval a X.env) (λv s₁=>wpAny 69 X.A (eval b X.env) (λu s₂=>wpAny 69 X.A (f v u) Q X.xe s₂) X.xe s₁) X.xe s:=by
 refine thn (ha pins s σ H _ I h) λv s1 ⟨x,H1,I1,r1,q1⟩=>?_;refine thn (hb pins s1 σ H1 _ I1 q1) λu s2 ⟨y,H2,I2,r2,q2⟩=>?_;exact hf v u s2 x y H2 I2 r1 r2 q2
def QJ{op:Operator}{r:R2}(ho:OpR X (binaryOp op) r)(ha:PE X a ta)(hb:PE X b tb):PE X (.BinOp a op b pos) (tOp r ta tb):=by
 intro pins s σ H Q I h;exact wpAny_BinOp (Vk ha hb I h λv u s2 x y H2 I2 rx ry q=>ho pins s2 σ H2 x y v u Q I2 rx ry q)
def dY{op:UnaryOp}{r:V->Hp->VK->Prop}(ho:UnR X (unaryOp op) r)(ha:PE X a ta):PE X (.UnaryOp op a pos) (tUn r ta):=by
 intro pins s σ H Q I h;exact UnaryOp_ (thn (ha pins s σ H _ I h) λv s1 ⟨x,H1,I1,r1,q1⟩=>ho pins s1 σ H1 x v Q I1 r1 q1)
def opI{f:Value->Value->Sem Value}{C:Int->Int->Prop}{g:Int->Int->Int}
 (rule:∀(i j:Int) (t u:Tok) (s:96) (Q:76) (E:76),C i j->Q (.int (g i j) s.toks) { s with toks:=s.toks+1 }->wpAny 69 X.A (f (.int i t) (.int j u)) Q E s):
 OpR X f (rI C λi j=>.int (g i j)):=by
 intro pins s σ H x y v u Q I rx ry h;obtain⟨i,j,rfl,rfl,hc,q⟩:=h;obtain⟨t,rfl⟩:=rx;obtain⟨t',rfl⟩:=ry;exact rule i j t t' s _ _ hc ⟨.int (g i j),H,I.tok _,⟨_,rfl⟩,q⟩
def ba{f:Value->Value->Sem Value}{g:Int->Int->Int}
 (rule:∀(i j:Int) (t u:Tok) (s:96) (Q:76) (E:76),Q (.int (g i j) s.toks) { s with toks:=s.toks+1 }->wpAny 69 X.A (f (.int i t) (.int j u)) Q E s):
 OpR X f (rI0 λi j=>.int (g i j)):=by
 intro pins s σ H x y v u Q I rx ry h;obtain⟨i,j,rfl,rfl,q⟩:=h;obtain⟨t,rfl⟩:=rx;obtain⟨t',rfl⟩:=ry;exact rule i j t t' s _ _ ⟨.int (g i j),H,I.tok _,⟨_,rfl⟩,q⟩
def QU{f:Value->Value->Sem Value}{g:Int->Int->Bool}
 (rule:∀(i j:Int) (t u:Tok) (s:96) (Q:76) (E:76),Q (.bool (g i j)) s->wpAny 69 X.A (f (.int i t) (.int j u)) Q E s):
 OpR X f (rI0 λi j=>.bl (g i j)):=by
 intro pins s σ H x y v u Q I rx ry h;obtain⟨i,j,rfl,rfl,q⟩:=h;obtain⟨t,rfl⟩:=rx;obtain⟨t',rfl⟩:=ry;exact rule i j t t' s _ _ ⟨.bl (g i j),H,I,rfl,q⟩
def cu(i j:Int):Prop:=0<j/\j<1073741824
def cr(i j:Int):Prop:=0<=j/\j<=1000000/\i.natAbs<2^64
def CMul(i j:Int):Prop:=(-(2^64)<i/\i<2^64)∨(-(2^64)<j/\j<2^64)
def CMul.ok{i j:Int}(h:CMul i j):IntMulOk i j:=by
 rcases h with⟨h1,h2⟩|⟨h1,h2⟩
 .exact .of_left (intBits_le_64 h1 h2)
 .exact .of_right (intBits_le_64 h1 h2)
def bZ:OpR X (binaryOp .Add) (rI0 λi j=>.int (i+j)):=ba λ_ _ _ _ _ _ _ q=>add_int q
def bQ:OpR X (binaryOp .Sub) (rI0 λi j=>.int (i-j)):=ba λ_ _ _ _ _ _ _ q=>sub_int q
def bV:OpR X (binaryOp .Mult) (rI CMul λi j=>.int (i*j)):=opI λ_ _ _ _ _ _ _ hc q=>mul_int q hc.ok
def YN:OpR X (binaryOp .FloorDiv) (rI cu λi j=>.int (i/j)):=opI λi j _ _ _ _ _ hc q=>by
 have h1:(0:Int)<j:=hc.1;have h2:j<1073741824:=hc.2;exact floordiv_int 66 (by rw[Int.fdiv_eq_ediv_of_nonneg i 66];exact q) (.inl (PyProof.noPylong_small 66))
def bW:OpR X (binaryOp .Mod) (rI (λ_ j=>0<j) λi j=>.int (i%j)):=opI λi j _ _ _ _ _ hc q=>by
 have h1:(0:Int)<j:=hc;exact mod_int' 66 (by rw[Int.fmod_eq_emod_of_nonneg i 66];exact q)
def bS:OpR X (binaryOp .Pow) (rI cr λi j=>.int (i^j.toNat)):=opI λ_ _ _ _ _ _ _ hc q=>pow_int_small hc.1 hc.2.1 hc.2.2 q
def unI{f:Value->Sem Value}{g:Int->Int}
 (rule:∀(i:Int) (t:Tok) (s:96) (Q:76) (E:76),Q (.int (g i) s.toks) { s with toks:=s.toks+1 }->wpAny 69 X.A (f (.int i t)) Q E s):
 UnR X f (rU λi=>.int (g i)):=by
 intro pins s σ H x v Q I rx h;obtain⟨i,rfl,q⟩:=h;obtain⟨t,rfl⟩:=rx;exact rule i t s _ _ ⟨.int (g i),H,I.tok _,⟨_,rfl⟩,q⟩
def ZD:UnR X (unaryOp .USub) (rU λi=>.int (-i)):=unI λ_ _ _ _ _ q=>neg_int q
end
noncomputable def Mw:V->V->Bool
 |.non,.non=>true|.non,.int _=>true|.int _,.non=>true|.non,.bl _=>true|.bl _,.non=>true|.non,.str _=>true|.str _,.non=>true
 |.int _,.int _=>true|.bl _,.bl _=>true|.str _,.str _=>true|.byt _,.byt _=>true
 |.int _,.str _=>true|.str _,.int _=>true|.bl _,.str _=>true|.str _,.bl _=>true
 |_,_=>false
noncomputable def rEq:R2:=λx y H Q=>Mw x y=true/\Q (.bl (decide (x=y))) H
noncomputable def rNe:R2:=λx y H Q=>Mw x y=true/\Q (.bl (!decide (x=y))) H
def P9{i j:Int}:decide (V.int i=V.int j)=(i==j):=by
 rw[Bool.eq_iff_iff];simp
def T6{i j:Bool}:decide (V.bl i=V.bl j)=(i==j):=by
 rw[Bool.eq_iff_iff];simp
def P8{i j:Str}:decide (V.str i=V.str j)=(i==j):=by
 rw[Bool.eq_iff_iff];simp
def PB{i j:Array UInt8}:decide (V.byt i=V.byt j)=(i.toList==j.toList):=by
 rw[Bool.eq_iff_iff];cases i;cases j;simp
section
variable{X:Cx}{a b c:Expr}{ta tb tc:TE}{pos:Pos}
def Al{pins:89}{σ:St}{H:Hp}{s:96}{Q:VK}{k k':Bool}(I:73)(q:Q (.bl k) H)(e:k=k'):EP X pins σ Q (.bool k') s:=by
 subst e;exact⟨.bl k,H,I,rfl,q⟩
def WG:OpR X (compareOp .Eq) rEq:=by
 intro pins s σ H x y v u Q I rx ry h;obtain⟨hs,q⟩:=h;cases x with
 |non=>
  cases rx;cases y with
  |non=>cases ry;exact PySem.EqNone.eq_none_none (Al I q 71)
  |bl j=>cases ry;exact PySem.EqNone.eq_none_bool (Al I q 71)
  |int j=>obtain⟨t',rfl⟩:=ry;exact PySem.EqNone.eq_none_int (Al I q 71)
  |str j=>obtain⟨t',rfl⟩:=ry;exact PySem.EqNone.eq_none_str (Al I q 71)
  |_=>exact absurd (show false=true from hs) 106
 |bl i=>
  cases rx;cases y with
  |non=>cases ry;exact PySem.EqNone.eq_bool_none (Al I q 71)
  |bl j=>cases ry;exact eq_bool (Al I q T6)
  |str j=>obtain⟨t',rfl⟩:=ry;exact PySem.EqMixed.eq_bool_str (Al I q 71)
  |_=>exact absurd (show false=true from hs) 106
 |int i=>
  obtain⟨t,rfl⟩:=rx;cases y with
  |non=>cases ry;exact PySem.EqNone.eq_int_none (Al I q 71)
  |int j=>obtain⟨t',rfl⟩:=ry;exact eq_int (Al I q P9)
  |str j=>obtain⟨t',rfl⟩:=ry;exact PySem.EqMixed.eq_int_str (Al I q 71)
  |_=>exact absurd (show false=true from hs) 106
 |str i=>
  obtain⟨t,rfl⟩:=rx;cases y with
  |non=>cases ry;exact PySem.EqNone.eq_str_none (Al I q 71)
  |bl j=>cases ry;exact PySem.EqMixed.eq_str_bool (Al I q 71)
  |int j=>obtain⟨t',rfl⟩:=ry;exact PySem.EqMixed.eq_str_int (Al I q 71)
  |str j=>obtain⟨t',rfl⟩:=ry;exact eq_str (Al I q P8)
  |_=>exact absurd (show false=true from hs) 106
 |byt i=>
  obtain⟨t,rfl⟩:=rx;cases y with
  |byt j=>obtain⟨t',rfl⟩:=ry;exact PySem.W.eq_bytes (Al I q PB)
  |_=>exact absurd (show false=true from hs) 106
 |_=>cases y<;>exact absurd (show false=true from hs) 106
def WC:OpR X (compareOp .NotEq) rNe:=by
 intro pins s σ H x y v u Q I rx ry h;obtain⟨hs,q⟩:=h;cases x with
 |non=>
  cases rx;cases y with
  |non=>cases ry;exact PySem.EqNone.ne_none_none (Al I q 71)
  |bl j=>cases ry;exact PySem.EqNone.ne_none_bool (Al I q 71)
  |int j=>obtain⟨t',rfl⟩:=ry;exact PySem.EqNone.ne_none_int (Al I q 71)
  |str j=>obtain⟨t',rfl⟩:=ry;exact PySem.EqNone.ne_none_str (Al I q 71)
  |_=>exact absurd (show false=true from hs) 106
 |bl i=>
  cases rx;cases y with
  |non=>cases ry;exact PySem.EqNone.ne_bool_none (Al I q 71)
  |bl j=>cases ry;exact ne_bool (Al I q (hX not T6))
  |str j=>obtain⟨t',rfl⟩:=ry;exact PySem.EqMixed.ne_bool_str (Al I q 71)
  |_=>exact absurd (show false=true from hs) 106
 |int i=>
  obtain⟨t,rfl⟩:=rx;cases y with
  |non=>cases ry;exact PySem.EqNone.ne_int_none (Al I q 71)
  |int j=>obtain⟨t',rfl⟩:=ry;exact ne_int (Al I q (hX not P9))
  |str j=>obtain⟨t',rfl⟩:=ry;exact PySem.EqMixed.ne_int_str (Al I q 71)
  |_=>exact absurd (show false=true from hs) 106
 |str i=>
  obtain⟨t,rfl⟩:=rx;cases y with
  |non=>cases ry;exact PySem.EqNone.ne_str_none (Al I q 71)
  |bl j=>cases ry;exact PySem.EqMixed.ne_str_bool (Al I q 71)
  |int j=>obtain⟨t',rfl⟩:=ry;exact PySem.EqMixed.ne_str_int (Al I q 71)
  |str j=>obtain⟨t',rfl⟩:=ry;exact ne_str (Al I q (hX not P8))
  |_=>exact absurd (show false=true from hs) 106
 |byt i=>
  obtain⟨t,rfl⟩:=rx;cases y with
  |byt j=>obtain⟨t',rfl⟩:=ry;exact PySem.W.ne_bytes (Al I q (hX not PB))
  |_=>exact absurd (show false=true from hs) 106
 |_=>cases y<;>exact absurd (show false=true from hs) 106
def QP:OpR X (compareOp .Lt) (rI0 λi j=>.bl (decide (i<j))):=QU λ_ _ _ _ _ _ _ q=>lt_int q
def QQ:OpR X (compareOp .LtE) (rI0 λi j=>.bl (decide (i<=j))):=QU λ_ _ _ _ _ _ _ q=>le_int q
def WD:OpR X (compareOp .Gt) (rI0 λi j=>.bl (decide (j<i))):=QU λ_ _ _ _ _ _ _ q=>gt_int q
def dg:OpR X (compareOp .GtE) (rI0 λi j=>.bl (decide (j<=i))):=QU λ_ _ _ _ _ _ _ q=>ge_int q
def OpR.or{f:Value->Value->Sem Value}{r r':R2}(h:OpR X f r)(h':OpR X f r'):OpR X f (λx y H Q=>r x y H Q∨r' x y H Q):=by
 intro pins s σ H x y v u Q I rx ry q;rcases q with q|q
 .exact h pins s σ H x y v u Q I rx ry q
 .exact h' pins s σ H x y v u Q I rx ry q
def HJ(b:Expr){op:CmpOp}(h:op≠.In:=by decide)(h2:op≠.NotIn:=by decide):behindInMarks op b=false:=by
 have e1:(op==CmpOp.In)=false:=by cases op<;>first|rfl|exact absurd rfl h
 have e2:(op==CmpOp.NotIn)=false:=by cases op<;>first|rfl|exact absurd rfl h2
 cases b<;>simp[behindInMarks,e1,e2]
def YK{op:CmpOp}{r:R2}(ho:OpR X (compareOp op) r)(ha:PE X a ta)(hb:PE X b tb)(hm:behindInMarks op b=false):PE X (.Compare a [op] [b] pos) (tOp r ta tb):=by
 intro pins s σ H Q I h;exact wpAny_Compare1 (Vk ha hb I h λv u s2 x y H2 I2 rx ry q=>ho pins s2 σ H2 x y v u Q I2 rx ry q) hm
noncomputable def FN(t:TE):TT:=λσ H Q=>t σ H λx H'=>∃k,x=.bl k/\Q k H'
def Hw{op:CmpOp}{r:R2}(ho:OpR X (compareOp op) r)(ha:PE X a ta)(hb:PE X b tb)(hm:behindInMarks op b=false):PT X (.Compare a [op] [b] pos) (FN (tOp r ta tb)):=by
 intro pins s σ H Q I h;refine wpAny_isTrue_Compare1 (thn (ha pins s σ H _ I h) λv s1 ⟨x,H1,I1,r1,q1⟩=>thn (hb pins s1 σ H1 _ I1 q1) λu s2 ⟨y,H2,I2,r2,q2⟩=>
  thn (ho pins s2 σ H2 x y v u _ I2 r1 r2 q2) λc s3 ⟨z,H3,I3,r3,k,e,q3⟩=>?_) hm
 subst e;cases r3;exact iT ⟨H3,I3,q3⟩
noncomputable def Mj(r r':R2)(ta tb tc:TE):TE:=λσ H Q=>ta σ H λx H1=>tb σ H1 λy H2=>r x y H2 λz H3=>∃k,z=.bl k /\
 (if k=true then tc σ H3 λw' H4=>r' y w' H4 Q else Q (.bl false) H3)
def Uv{op op':CmpOp}{r r':R2}(ho:OpR X (compareOp op) r)(ho':OpR X (compareOp op') r')(ha:PE X a ta)(hb:PE X b tb)(hc:PE X c tc)
 (hm:lastMarks [op,op'] [b,c]=false:=by with_unfolding_all rfl):PT X (.Compare a [op,op'] [b,c] pos) (FN (Mj r r' ta tb tc)):=by
 intro pins s σ H Q I h;refine isTrue_chain (thn (ha pins s σ H _ I h) λv s1 ⟨x,H1,I1,r1,q1⟩=>test_link (thn (hb pins s1 σ H1 _ I1 q1) λu s2 ⟨y,H2,I2,r2,q2⟩=>
  thn (ho pins s2 σ H2 x y v u _ I2 r1 r2 q2) λd s3 ⟨z,H3,I3,r3,k,e,q3⟩=>?_)) hm
 subst e;cases r3;refine iT ?_;cases k with
 |false=>
  obtain⟨k',e',q'⟩:=q3;cases e';exact ite_ff ⟨H3,I3,q'⟩
 |true=>
  refine ite_tt (test_last (thn (hc pins s3 σ H3 _ I3 q3) λw' s4 ⟨z',H4,I4,r4,q4⟩=>thn (ho' pins s4 σ H4 y z' u w' _ I4 r2 r4 q4) λd' s5 ⟨z2,H5,I5,r5,k2,e2,q5⟩=>?_));subst e2;cases r5;exact iT ⟨H5,I5,q5⟩
def O5(K:Frag)(x:V)(H:Hp)(k:Bool):Prop:=
 match x with
 |.non=>k=false
 |.bl b=>k=b
 |.int i=>k=(i != 0)
 |.str y=>y.length<=sizeLine/\k=((y.length:Int) != 0)
 |.byt y=>y.size<=sizeLine/\k=((y.size:Int) != 0)
 |.ref p=>(∃xs,SqL K H p xs/\k=!xs.isEmpty)∨(∃xs,SqT K H p xs/\k=!xs.isEmpty)∨∃kvs,H p=some (.dK kvs)/\k=!kvs.isEmpty
 |_=>False
def Qe{κ:Type}{kvs:List (κ×V)}{vs:List (κ×Value)}(r:KV kvs vs):(!vs.isEmpty)=!kvs.isEmpty:=by
 cases r<;>rfl
def K0{xs:List V}{its:79}(r:Vals xs its):(!its.toArray.isEmpty)=!xs.isEmpty:=by
 cases r<;>simp
def G4:(sizeLine:Nat)<2^63:=by rw[ip];decide
def ZF:fN X (λx H Q=>∃k,O5 X.K x H k/\Q k H):=by
 intro pins s σ H x v Q I rx h;obtain⟨k,e,q⟩:=h;have hl:=G4;have hs:sizeLine=16777216:=ip;cases x with
 |non=>
  cases rx;have e':k=false:=e;subst e';exact truthy_none ⟨H,I,q⟩
 |bl b=>
  cases rx;have e':k=b:=e;subst e';exact iT ⟨H,I,q⟩
 |int i=>
  obtain⟨t,rfl⟩:=rx;have e':k=(i != 0):=e;subst e';exact PySem.P.truthy_int ⟨H,I,q⟩
 |str y=>
  obtain⟨t,rfl⟩:=rx;obtain⟨hy,e'⟩:y.length<=sizeLine/\k=((y.length:Int) != 0):=e;subst e';exact PySem.P.truthy_str 66 ⟨H,I.tok _,q⟩
 |byt y=>
  obtain⟨t,rfl⟩:=rx;obtain⟨hy,e'⟩:y.size<=sizeLine/\k=((y.size:Int) != 0):=e;subst e';exact PySem.W.truthy_bytes 66 ⟨H,I.tok _,q⟩
 |ref p=>
  cases rx;have e':(∃xs,SqL X.K H p xs/\k=!xs.isEmpty)∨(∃xs,SqT X.K H p xs/\k=!xs.isEmpty)∨∃kvs,H p=some (.dK kvs)/\k=!kvs.isEmpty:=e;rcases e' with⟨xs,hx,e'⟩|⟨xs,hx,e'⟩|⟨kvs,hx,e'⟩
  .subst e';obtain⟨its,r,pl,hz⟩:=I.list hx;have hlen:=r.length;exact wpAny_truthy_list pl.isList (by simp only[gu];omega) ⟨H,I.tok _,by rw[K0 r];exact q⟩
  .subst e';obtain⟨its,r,pl,hz⟩:=I.tuple hx;have hlen:=r.length;exact truthy_tuple pl (by simp only[gu];omega) ⟨H,I.tok _,by rw[K0 r];exact q⟩
  .subst e';obtain⟨hz,hS,vs,r,m⟩:kvs.length<=sizeLine/\(p==sysModules)=false/\∃vs,KV kvs vs/\s.heap.DictOf (Bf X.prog X.w) p vs:=I.hok p _ hx;have hlen:kvs.length=vs.length:=Paired.length r;exact wpAny_truthy_dict hS m 66 ⟨H,I.tok _,by rw[Qe r];exact q⟩
 |_=>exact(show False from e).elim
def Uu(ha:PE X a ta)(he:∀whole,isTrue a X.env whole=(do let v <- whole;standAt a.pos;holding [v] (truthy v))):
 PT X a (λσ H Q=>ta σ H λx H'=>∃k,O5 X.K x H' k/\Q k H'):=by
 intro pins s σ H Q I h;exact isTrue_plain (thn (ha pins s σ H _ I h) λv s1 ⟨x,H1,I1,r1,q1⟩=>ZF pins s1 σ H1 x v Q I1 r1 q1) (he _)
def BU{x:V}{us:79}(r:Vals [x] us):∃u,us=[u]/\RelV x u:=by
 cases r with
 |cons r1 r2=>cases r2;exact⟨_,rfl,r1⟩
def PX{x y:V}{us:79}(r:Vals [x,y] us):∃u w',us=[u,w']/\RelV x u/\RelV y w':=by
 cases r with
 |cons r1 r2=>
  cases r2 with
  |cons r3 r4=>cases r4;exact⟨_,_,rfl,r1,r3⟩
def TH(hc:X.calm=true):CallR X (.builtin "max") (λxs H Q=>∃i j,xs=[.int i,.int j]/\Q (.int (if j>i then j else i)) H):=by
 intro pins s σ H xs us Q I r h;obtain⟨i,j,rfl,q⟩:=h;obtain⟨u,w',rfl,⟨t,rfl⟩,⟨t',rfl⟩⟩:=PX r;refine max_two_ints (I.ok.hd hc) λh' tk k=>⟨_,H,I.kept k,?_,q⟩
 by_cases hj:j>i
 .rw[gb hj,gb hj];exact⟨_,rfl⟩
 .rw[gh hj,gh hj];exact⟨_,rfl⟩
def TF(hc:X.calm=true):CallR X (.builtin "min") (λxs H Q=>∃i j,xs=[.int i,.int j]/\Q (.int (if j<i then j else i)) H):=by
 intro pins s σ H xs us Q I r h;obtain⟨i,j,rfl,q⟩:=h;obtain⟨u,w',rfl,⟨t,rfl⟩,⟨t',rfl⟩⟩:=PX r;refine min_two_ints (I.ok.hd hc) λh' tk k=>⟨_,H,I.kept k,?_,q⟩
 by_cases hj:j<i
 .rw[gb hj,gb hj];exact⟨_,rfl⟩
 .rw[gh hj,gh hj];exact⟨_,rfl⟩
def TK:CallR X (.type "int") (λxs H Q=>(∃i,xs=[.int i]/\Q (.int i) H)∨∃k,xs=[.bl k]/\Q (.int (if k then 1 else 0)) H):=by
 intro pins s σ H xs us Q I r h;rcases h with⟨i,rfl,q⟩|⟨k,rfl,q⟩
 .obtain⟨u,rfl,t,rfl⟩:=BU r;exact call_int_int ⟨.int i,H,I,⟨_,rfl⟩,q⟩
 .obtain⟨u,rfl,r1⟩:=BU r;cases r1;exact call_int_bool ⟨.int (if k then 1 else 0),H,I.tok _,⟨_,rfl⟩,q⟩
end
def RelO.some_of{v:V}{o:Option Value}(r:RelO (some v) o):∃u,o=some u/\RelV v u:=by
 cases o with
 |none=>exact(show False from r).elim
 |some u=>exact⟨u,rfl,r⟩
structure Room(k:Nat)(A:Around):Prop where
 hd:A.handled=none
 dp:A.depth+3*k+5<recursionLimit
 un:A.units+16*k+200<cLine
 gd:A.guards=some []
def Room.mono{j k:Nat}{A:Around}(r:Room k A)(h:j<=k):Room j A:=⟨r.hd,by have:=r.dp;omega,by have:=r.un;omega,r.gd⟩
theorem Room.deeper{k:Nat}{A:Around}(r:Room (k+1) A)(env:Env):Room k (A.deeper env):=
 ⟨r.hd,by have:=r.dp;show A.depth+1+3*k+5<_;omega,by have:=r.un;show A.units+3+16*k+200<_;omega,by first|exact r.gd|(simpa [Around.deeper,Around.under,Code.guards,Code.isGuard,pushGuards]using r.gd)⟩
theorem Room.in1{k:Nat}{A:Around}(r:Room (k+1) A):Room k A.in1:=
 ⟨r.hd,by have:=r.dp;show A.depth+3*k+5<_;omega,by have:=r.un;show A.units+1+16*k+200<_;omega,r.gd⟩
theorem Room.depth{k:Nat}{A:Around}(r:Room k A):A.depth<recursionLimit:=by have:=r.dp;omega
theorem Room.units{k:Nat}{A:Around}(r:Room k A):A.units+64<cLine:=by have:=r.un;omega
def Room.units0{k:Nat}{A:Around}(r:Room k A):A.units<cLine:=by have:=r.un;omega
noncomputable def C5:TA:=λ_ H Q=>Q [] H
noncomputable def Be(ta:TE)(tr:TA):TA:=λσ H Q=>ta σ H λx H1=>tr σ H1 λxs H2=>Q (x::xs) H2
section
variable{X:Cx}{e:Expr}{es:List Expr}{te:TE}{t:TA}{pos:Pos}
def Cr:PA X [] C5:=λ_ _ _ _ H Q I h=>Calls.spliced_nil ⟨[],H,I,.nil,h⟩
def CB(ha:PE X e te)(hr:PA X es t)(hs:starEach (e::es) X.env=(false,eval e X.env)::starEach es X.env:=by rfl):PA X (e::es) (Be te t):=by
 intro pos pins s σ H Q I h;rw[hs];show wpAny _ _ (spliced ((false,eval e X.env)::backTo pos (starEach es X.env))) _ _ s;refine Calls.spliced_cons (thn (ha pins s σ H _ I h) λu s1 ⟨x,H1,I1,r1,q1⟩=>?_);exact thn (hr pos pins s1 σ H1 _ I1 q1) λus s2 ⟨xs,H2,I2,r2,q2⟩=>⟨x::xs,H2,I2,.cons r1 r2,q2⟩
noncomputable def Tq(t:TA):TE:=λσ H Q=>t σ H λxs H1=>88<=sizeLine/\∀p,H1 p=none->Q (.ref p) (upd H1 p (.tup xs))
noncomputable def Tv(t:TA):TE:=λσ H Q=>t σ H λxs H1=>88<=sizeLine/\∀p,H1 p=none->Q (.ref p) (upd H1 p (.lst xs))
def bE{x1}(h:PA X es t):PE X (.Tuple es x1 pos) (Tq t):=by
 intro pins s σ H Q I hq;refine wpAny_Tuple_spliced (thn (h pos pins s σ H _ I hq) λus s1 ⟨xs,H1,I1,r,z,q⟩=>⟨by rw[<- r.length];exact z,?_⟩);have hf:H1 s1.heap.objs.size=none:=I1.hok.fresh (gk _);refine⟨.ref s1.heap.objs.size,upd H1 s1.heap.objs.size (.tup xs),I1.laid (t':=s1.toks) (λb u e=>70 _ e) (gk _) ?_,rfl,q _ hf⟩;exact⟨z,us,r,⟨_,87 _ rfl,rfl,⟨_,rfl⟩,rfl⟩⟩
def bJ(h:PA X es t):PE X (.List es pos) (Tv t):=by
 intro pins s σ H Q I hq;refine wpAny_List_spliced (thn (h pos pins s σ H _ I hq) λus s1 ⟨xs,H1,I1,r,z,q⟩=>⟨by rw[<- r.length];exact z,?_⟩);have hf:H1 s1.heap.objs.size=none:=I1.hok.fresh (gk _);refine⟨.ref s1.heap.objs.size,upd H1 s1.heap.objs.size (.lst xs),I1.laid (t':=s1.toks) (λb u e=>70 _ e) (gk _) ?_,rfl,q _ hf⟩;exact⟨z,us,0,r,87 _ rfl⟩
end
noncomputable abbrev Sp:=List V->Hp->VK->XK->Prop
noncomputable abbrev CXT:=List Env->Hp->Shared->XK->Value->Shared->Prop
structure Env0(P:Program)(w:World)(K:Frag)(mg:Str->Option Value)(base:Heap)(A:Around)(outer:List Env)(s:96)(H:Hp):Prop where
 frames:A.frames=some outer
 mod:Mod K mg base
 bs:∀b o,base.get? b=some o->s.heap.get? b=some o/\H b=none
 bsz:base.objs.size<=59
 funs:s.heap.FunFrames base outer
 frf:∀b∈frs outer,H b=none
 hok:HOk P w H s.heap
 bare:AllBare s.gens
def CE(outer:List Env)(P:Program)(w:World)(H:Hp)(s:96)(Q:VK)(u:Value)(s':96):Prop:=
 ∃v H',s'.os=s.os/\AllBare s'.gens/\Un (frs outer) [] H H' s.heap s'.heap/\HOk P w H' s'.heap/\RelV v u/\Q v H'
def CR(CX:CXT)(outer:List Env)(P:Program)(w:World)(H:Hp)(s:96)(Q:VK)(E:XK)(r:Result)(s':96):Prop:=
 match r with
 |.ok (.ret u)=>CE outer P w H s Q u s'
 |.ok _=>False
 |.error e=>CX outer H s E e s'
structure FnOk(P:Program)(w:World)(K:Frag)(mg:Str->Option Value)(base:Heap)(CX:CXT)(k:Nat)(f:Addr)(fd:FuncData)(ps:List Str)(sp:Sp):Prop where
 len:∀vs H Q E,sp vs H Q E->116=ps.length
 run:∀(A:Around) (outer:List Env) (s:96) (H:Hp) (args:Args) (us:79) (vs:List V) (Q:VK) (E:XK),Room k A->Env0 P w K mg base A outer s H->BindsTo s fd args (ps.zip us)->Vals vs us->sp vs H Q E ->
  codeAny (model P w) A (.call (.ref f) args) (CR CX outer P w H s Q E) s
theorem FnOk.mono{P:Program}{w:World}{K:Frag}{mg:Str->Option Value}{base:Heap}{CX:CXT}{j k:Nat}{f:Addr}{fd:FuncData}{ps:List Str}{sp:Sp}(F:FnOk P w K mg base CX j f fd ps sp)(h:j<=k):
 FnOk P w K mg base CX k f fd ps sp:=⟨F.len,λA outer s H args us vs Q E hr=>F.run A outer s H args us vs Q E (hr.mono h)⟩
section
variable{X:Cx}{pins:89}{σ:St}{H:Hp}{s s':96}
def Inv.env0(I:73):Env0 X.prog X.w X.K X.mg X.base X.A X.stack s H:=
 ⟨I.ok.frames,I.ok.mod,I.bs,gw I.ok.bsz I.sz,I.stack,I.stkFree,I.hok,I.bare⟩
def Inv.after{Q:VK}{u:Value}(I:73)(h:CE X.stack X.prog X.w H s Q u s'):EP X pins σ Q u s':=by
 obtain⟨v,H',os,bare,un,hok,r,q⟩:=h;obtain⟨hh,g,d,t,os'⟩:=s';obtain rfl:os'=s.os:=os;exact⟨v,H',I.call (h':=hh) (g':=g) (d':=d) (t':=t) (ch:=[]) un hok bare (λb z=>absurd z 71),r,q⟩
end
noncomputable def Dg(sp:Sp)(dvs:List V)(E:XK)(t:TA):TE:=λσ H Q=>t σ H λvs H1=>sp (vs++dvs) H1 Q E
def Binds(K:Frag)(fd:FuncData)(ps:List Str)(ds:79):Prop:=
 ∀(s:96) (us:79),K.In s.heap->(us++ds).length=ps.length->BindsTo s fd ⟨us,[]⟩ (ps.zip (us++ds))
def Binds.all{K:Frag}{fd:FuncData}{ps:List Str}(h:∀us:List Value,us.length=ps.length->bindArgs fd ⟨us,[]⟩=pure (ps.zip us)):Binds K fd ps []:=λs us _ hl=>by
 rw[ic]at hl ⊢;exact .of_eq (h us hl)
def OA(CX:CXT)(X:Cx)(E:XK):Prop:=∀(pins:89) (σ:St) (H:Hp) (s:96) (e:Value) (s':96),Inv X pins σ H s->CX X.stack H s E e s'->X.xe e s'
section
variable{X:Cx}{CX:CXT}{k:Nat}{f C:Addr}{fd:FuncData}{ps:List Str}{sp:Sp}{dvs:List V}{ds:79}{E:XK}{x m:Str}{p pos apos:Pos}{e o:Expr}{es:List Expr}{ta:TE}{t:TA}
def ZN{pins:89}{σ:St}{H:Hp}{s:96}{Q:VK}{us:79}{vs:List V}(F:FnOk X.prog X.w X.K X.mg X.base CX k f fd ps sp)(hr:Room k X.A)(hb:Binds X.K fd ps ds)(hd:Vals dvs ds)(hx:OA CX X E)
 (I:73) (r:Vals vs us) (h:sp (vs++dvs) H Q E):wpAny 69 X.A (call (.ref f) us) (EP X pins σ Q) X.xe s:=by
 have r2:Vals (vs++dvs) (us++ds):=r.append hd;have hl:(us++ds).length=ps.length:=by rw[<- r2.length];exact F.len _ _ _ _ h
 refine wpAny_call (ja (F.run X.A X.stack s H ⟨us,[]⟩ (us++ds) (vs++dvs) Q E hr I.env0 (hb s us I.kIn hl) r2 h) λr s' hq=>?_);cases r with
 |error e=>exact hx pins σ H s e s' I hq
 |ok fl=>
  cases fl with
  |ret u=>exact I.after hq
  |next=>exact False.elim hq
  |brk=>exact False.elim hq
  |cont=>exact False.elim hq
def YL(F:FnOk X.prog X.w X.K X.mg X.base CX k f fd ps sp)(hr:Room k X.A)(hg:Gl X x)(hm:X.mg x=some (.ref f))(hk:keepIn X.K (.ref f)=true)(hb:Binds X.K fd ps ds)(hd:Vals dvs ds)(hx:OA CX X E)
 (ha:PA X (e::es) t) (hdb:(x==("__debug__":Str))=false:=by decide) (he:starEach (e::es) X.env=(false,eval e X.env)::starEach es X.env:=by rfl) (hpl:(backTo pos (starEach es X.env)).any (·.1)=false:=by rfl):
 PE X (.Call (.Name x p) (e::es) [] pos) (Dg sp dvs E t):=by
 intro pins s σ H Q I h;refine iY (Os I hg hm ?_ hdb);refine PySem.W.callWith_K (h₀:=X.base) I.ok.mod.kin hk (thn (ha pos pins s σ H _ I h) λus s1 ⟨vs,H1,I1,r,q⟩=>⟨I1.kIn,?_⟩) he hpl;exact ZN F hr hb hd hx I1 r q
end
structure FnScope(N P:List Str)(sc:Scope):Prop where
 kind:sc.kind=.function
 co:sc.isCoroutine=false
 gen:sc.isGenerator=false
 nd:N.Nodup
 pre:N.take P.length=P
 par:∀x∈P,sc.names.lookup x=some .local∨sc.names.lookup x=some .cell
 nofree:∀y∈sc.names,y.2≠.free
theorem Lo{kindOf:Str->Option NameKind}{x:Str}:∀{binds:List (Str×Value)} {m:Str->Option Value},(∀v,(x,v)∉binds)->bindL kindOf binds m x=m x
 |[],_,_=>rfl
 |(n,v)::r,m,h=>by
   unfold bindL;rw[Lo λw hw=>h w (gp _ hw)];split
   .have:x≠n:=by rintro rfl;exact h v gq
    simp[this]
   .rfl
theorem Lr{kindOf:Str->Option NameKind}{x:Str}:∀{binds:List (Str×Value)} {m:Str->Option Value},(∀v,(x,v)∉binds)->bindC kindOf binds m x=m x
 |[],_,_=>rfl
 |(n,v)::r,m,h=>by
   unfold bindC;rw[Lr λw hw=>h w (gp _ hw)];split
   .rfl
   .have:x≠n:=by rintro rfl;exact h v gq
    simp[this]
theorem Lp{kindOf:Str->Option NameKind}{x:Str}{v:Value}:∀{P:List Str} {vs:79} {i:Nat} {m:Str->Option Value},P.Nodup->P[i]?=some x->vs[i]?=some v->kindOf x=some .local ->
 bindL kindOf (P.zip vs) m x=some v
 |[],_,_,_,_,h,_,_=>by simp at h
 |_::_,[],_,_,_,_,h,_=>by simp at h
 |p::P,w::vs,0,m,nd,h1,h2,hk=>by
  simp at h1 h2;subst h1;subst h2;show bindL kindOf ((p,w)::P.zip vs) m p=_;unfold bindL;rw[Lo λv hv=>(nodup_cons.mp nd).1 (of_mem_zip hv).1,gb hk];simp
 |p::P,w::vs,i+1,m,nd,h1,h2,hk=>by
  show bindL kindOf ((p,w)::P.zip vs) m x=_;unfold bindL;exact Lp (i:=i) (nodup_cons.mp nd).2 (by simpa using h1) (by simpa using h2) hk
theorem Lu{kindOf:Str->Option NameKind}{x:Str}{v:Value}:∀{P:List Str} {vs:79} {i:Nat} {m:Str->Option Value},P.Nodup->P[i]?=some x->vs[i]?=some v->kindOf x≠some .local ->
 bindC kindOf (P.zip vs) m x=some v
 |[],_,_,_,_,h,_,_=>by simp at h
 |_::_,[],_,_,_,_,h,_=>by simp at h
 |p::P,w::vs,0,m,nd,h1,h2,hk=>by
  simp at h1 h2;subst h1;subst h2;show bindC kindOf ((p,w)::P.zip vs) m p=_;unfold bindC;rw[Lr λv hv=>(nodup_cons.mp nd).1 (of_mem_zip hv).1,gh hk];simp
 |p::P,w::vs,i+1,m,nd,h1,h2,hk=>by
  show bindC kindOf ((p,w)::P.zip vs) m x=_;unfold bindC;exact Lu (i:=i) (nodup_cons.mp nd).2 (by simpa using h1) (by simpa using h2) hk
noncomputable def start(N:List Str)(vs:List V):St:=vs.map some++List.replicate (N.length-116) none
noncomputable def Fi(CX:CXT)(P:Program)(w:World)(K:Frag)(mg:Str->Option Value)(base:Heap)(N:List Str)(qual:Str)(scope:Scope)(f:Addr)(cd:Value)(A:Around)(outer:List Env)(s:96)(H:Hp)(E:XK):Cx where
 prog:=P
 w:=w
 K:=K
 mg:=mg
 base:=base
 A:=A.deeper (envOfC qual scope 59 f cd)
 N:=N
 s₀:=s
 H₀:=H
 env:=envOfC qual scope 59 f cd
 outer:=outer
 stack:=envOfC qual scope 59 f cd::outer
 ex:=[]
 calm:=true
 fn:=λ_=>true
 pn:=[]
 xe:=λe s'=>wpAny (model P w) (A.deeper (envOfC qual scope 59 f cd)) (leaving (envOfC qual scope 59 f cd) e) (λ_ s''=>CX outer H s E e s'') (λe' s''=>CX outer H s E e' s'') s'
def Nt{sc:Scope}{n:Nat}{x:Str}(h:sc.names.lookup x=some .cell):∃c,(cellsFrom n sc.names []).lookup x=some c:=by
 have q:=PySem.W.cellsFrom_some sc.names n [] (.inl h);exact isSome_iff_exists.mp q
def Sk{CX:CXT}{P:Program}{w:World}{K:Frag}{mg:Str->Option Value}{base:Heap}{N ps:List Str}{qual:Str}{scope:Scope}{f:Addr}{cd:Value}{A:Around}{outer:List Env}{s s1:96}{H:Hp}{E:XK}{us:79}{vs:List V}
 (S:FnScope N ps scope) (hd:A.handled=none) (e0:Env0 P w K mg base A outer s H) (hl:116=ps.length) (r:Vals vs us)
 (x:InCallC s 59 (bindL (envOfC qual scope 59 f cd).kindOf (ps.zip us) λ_=>none) (cellsFrom (59+1) 90 []) (bindC (envOfC qual scope 59 f cd).kindOf (ps.zip us) λ_=>none) s1):
 Inv (Fi CX P w K mg base N qual scope f cd A outer s H E) [] (start N vs) H s1:=by
 have hpl:ps.length<=N.length:=by have:=hX List.length S.pre;rw[iH]at this;omega
 obtain⟨h1,tk,rfl,hk⟩:=x.done;have noA:∀b:Addr,b∉(Fi CX P w K mg base N qual scope f cd A outer s H E).ex:=λb z=>absurd (show b∈([]:List Addr)from z) 71;refine⟨⟨e0.mod,S.kind,rfl,rfl,gk _,λy z c h1 h2=>?_,λy hy=>?_,λy c _ h=>?_,λ_=>hd,Around.frames_deeper e0.frames,.inr ⟨rfl,rfl⟩,λb z=>absurd z (noA b),e0.bs,e0.bsz,λb _ _=>noA b,λb z=>absurd z (noA b),e0.funs,e0.frf⟩,
  rfl,e0.bare,Un.kept hk,⟨_,x.toInCall.ns,λi y v h1 h2 h3=>?_⟩,λy c h=>⟨_,x.cell y c h⟩,e0.hok.fresh (gk _),λy c h=>?_,λp hp=>absurd (show p∈([]:List (Addr×Obj))from hp) 71,e0.hok.kept hk,?_⟩
 .exact name_of_addr x.apart (PySem.mem_of_lookup h1) (PySem.mem_of_lookup h2)
 .have hy:scope.names.lookup y=some .cell∨scope.names.lookup y=some .free:=hy;rcases hy with hy|hy
  .exact Nt hy
  .exact absurd rfl (S.nofree _ (PySem.mem_of_lookup hy))
 .exact iy (x.above y c (PySem.mem_of_lookup h))
 .have hi:i<vs.length:=by
   unfold start at h2;by_cases hi:i<116
   .exact hi
   .rw[List.getElem?_append_right (by simpa using hi)]at h2;rw[List.getElem?_replicate]at h2;split at h2<;>cases h2
  have ha:vs[i]?=some v:=by
   unfold start at h2;rw[List.getElem?_append_left (by simpa using hi),List.getElem?_map]at h2;cases e:vs[i]? with
   |none=>rw[e]at h2;cases h2
   |some a=>rw[e]at h2;cases h2;rfl
  obtain⟨u,hu,rv⟩:=r.get ha;have hp:ps[i]?=some y:=by
   rw[<- S.pre,List.getElem?_take_of_lt 66];exact h1
  have ndP:ps.Nodup:=by rw[<- S.pre];exact S.nd.sublist (List.take_sublist _ _)
  refine⟨u,rv,?_⟩;rcases S.par y (i6 hp)with k|k
  .exact .inl ⟨k,Lp ndP hp hu k⟩
  .obtain⟨c,e⟩:=Nt (n:=59+1) k;refine .inr ⟨.inl k,c,e,?_⟩;have q:=x.cell y c e;rw[Lu ndP hp hu (by show scope.names.lookup y≠_;rw[k];decide)]at q;exact q
 .exact e0.hok.fresh (iy (x.above y c (PySem.mem_of_lookup h)))
 .unfold start;show _=N.length;rw[i9,gZ,List.length_replicate];omega
def WN{CX:CXT}{P:Program}{w:World}{K:Frag}{mg:Str->Option Value}{base:Heap}{k:Nat}{f:Addr}{name qual:Str}{params:Arguments}{body:List Stmt}{scope:Scope}{dV kV doc pm cdv ct oc:Value}{an od:Option Addr}
 {osl:Array (Option Value)} {N ps:List Str} {sp:Sp} (lk:K.lookup f=some ⟨oc,od,.func (fnOf name qual params body scope dV kV doc pm an cdv ct),osl⟩) (hcd:codeIn K cdv qual=true) (S:FnScope N ps scope)
 (len:∀vs H Q E,sp vs H Q E->116=ps.length)
 (hbody:∀(A:Around) (outer:List Env) (s:96) (H:Hp) (vs:List V) (Q:VK) (E:XK),Room k (A.deeper (envOfC qual scope 59 f cdv))->sp vs H Q E ->
  ∃t,PSs (Fi CX P w K mg base N qual scope f cdv A outer s H E) body t/\t { nx:=λ_ H'=>Q .non H',rt:=Q } (start N vs) H):
 FnOk P w K mg base CX (k+1) f (fnOf name qual params body scope dV kV doc pm an cdv ct) ps sp:=by
 refine⟨len,λA outer s H args us vs Q E hr e0 hb r hsp=>?_⟩;have hl:=len _ _ _ _ hsp;have KX:K.In s.heap:=e0.mod.kin.keeps λb o e=>(e0.bs b o e).1;have lim:s.heap.NoLimit:=e0.mod.nolimit.keeps λb o e=>(e0.bs b o e).1;have hkind:∀y∈ps.zip us,scope.names.lookup y.1=some .local∨(scope.names.lookup y.1=some .cell/\((cellsFrom (59+1) 90 []).lookup y.1).isSome=true):=λ⟨n,v⟩ hy=>by
  rcases S.par n (of_mem_zip hy).1 with q|q
  .exact .inl q
  .exact .inr ⟨q,PySem.W.cellsFrom_some _ _ _ (.inl q)⟩
 refine codeAny_call_function hr.depth (KX _ _ lk) rfl S.co S.gen rfl (PySem.W.codeRec_of KX hcd) (hb _ _ _ _ ?_);refine wpAny_newFunctionEnv_cells S.kind hkind λenv he s1 x=>?_;subst he;refine⟨lim.keeps x.toInCall.keep,codeAny_func ?_⟩;obtain⟨t,ht,hq⟩:=hbody A outer s H vs Q E (hr.deeper _) hsp;have I:Inv (Fi CX P w K mg base N qual scope f cdv A outer s H E) [] (start N vs) H s1:=Sk S hr.hd e0 hl r x;refine i3 (ht [] s1 (start N vs) H _ I hq) (λfl s' hs=>?_) λe s' hs=>hs;have fin:∀{σ':St} {H':Hp} {v:V} {u:Value},Inv (Fi CX P w K mg base N qual scope f cdv A outer s H E) [] σ' H' s'->RelV v u->Q v H'->CE outer P w H s Q u s':=
  λ{σ' H' v u} J rv q=>⟨v,H',J.os,J.bare,J.base,J.hok,rv,q⟩
 cases fl with
 |ret u=>
  obtain⟨v,σ',H',J,rv,q⟩:=hs;exact fin J rv q
 |next=>
  obtain⟨σ',H',J,q⟩:=hs;exact fin (v:=V.non) (u:=Value.none) J rfl q
 |brk=>
  obtain⟨_,_,_,q⟩:=hs;exact False.elim q
 |cont=>
  obtain⟨_,_,_,q⟩:=hs;exact False.elim q
section
variable{X:Cx}{x:Str}{p pos:Pos}{e:Expr}{es:List Expr}{t:TA}{id T:String}{r:List V->Hp->VK->Prop}
noncomputable def tCB(r:List V->Hp->VK->Prop)(t:TA):TE:=λσ H Q=>t σ H λvs H1=>r vs H1 Q
def F7(hc:CallR X (.builtin id) r)(hg:Gl X x)(hm:X.mg x=none)(hv:bootBuiltins x=some (.builtin id))(ha:PA X (e::es) t)(hn:x≠"__name__":=by decide)(hdb:(x==("__debug__":Str))=false:=by decide)
 (he:starEach (e::es) X.env=(false,eval e X.env)::starEach es X.env:=by rfl) (hpl:(backTo pos (starEach es X.env)).any (·.1)=false:=by rfl):PE X (.Call (.Name x p) (e::es) [] pos) (tCB r t):=by
 intro pins s σ H Q I h;refine iY (FC I hg hm hv ?_ hn hdb);exact PyProof.Rows.callWith_builtin1 (thn (ha pos pins s σ H _ I h) λus s1 ⟨vs,H1,I1,r1,q1⟩=>hc pins s1 σ H1 vs us Q I1 r1 q1) he hpl
def Cq(hc:CallR X (.type T) r)(hg:Gl X x)(hm:X.mg x=none)(hv:bootBuiltins x=some (.type T))(ha:PA X (e::es) t)(hn:x≠"__name__":=by decide)(hdb:(x==("__debug__":Str))=false:=by decide)
 (he:starEach (e::es) X.env=(false,eval e X.env)::starEach es X.env:=by rfl) (hpl:(backTo pos (starEach es X.env)).any (·.1)=false:=by rfl):PE X (.Call (.Name x p) (e::es) [] pos) (tCB r t):=by
 intro pins s σ H Q I h;refine iY (FC I hg hm hv ?_ hn hdb);exact PyProof.Rows.callWith_type1 (thn (ha pos pins s σ H _ I h) λus s1 ⟨vs,H1,I1,r1,q1⟩=>hc pins s1 σ H1 vs us Q I1 r1 q1) he hpl
end
end L2
namespace HT
open PySem PyProof.Rows
section
variable{prog:Program}{w:World}{A:Around}{E:76}{s:96}
def cat_tup{t b:Addr}{vs ws:79}{Q:76}(ht:IsTup s.heap t 78)(hb:IsTup s.heap b ws.toArray)(hv:vs≠[])
 (h1:ws=[]->Q (.ref t) s) (h2:ws≠[]->Q (.ref 59) { s with heap:=s.heap.push { cls:=.type "tuple",data:=.seq (vs++ws).toArray } })
 (hsz:116+65<=sizeLine):wpAny 107 A (binaryOp .Add (.ref t) (.ref b)) Q E s:=by
 obtain⟨⟨cls,dd,data,sl⟩,ho,hc,n,hd⟩:=id ht;obtain⟨⟨cls2,dd2,data2,sl2⟩,ho2,hc2,n2,hd2⟩:=id hb;simp only at hc hd hc2 hd2;subst hc hd hc2 hd2;have e:78++ws.toArray=(vs++ws).toArray:=by simp
 by_cases hw:ws=[]
 .exact concat_meets ⟨_,ho,rfl⟩ ⟨_,ho2,rfl⟩ noFill_tuple_add seq_tuple_add PySem.F.slot_tuple_add PySem.F.entry_tuple_add (PySem.F.args_tuple_add_2 _ _)
   (tuple_addW1 t b 78 ws.toArray n n2 dd dd2 sl sl2 (by simpa using hv) (by simp[hw])) ⟨ho,ho2,h1 hw⟩
 .refine concat_meets ⟨_,ho,rfl⟩ ⟨_,ho2,rfl⟩ noFill_tuple_add seq_tuple_add PySem.F.slot_tuple_add PySem.F.entry_tuple_add (PySem.F.args_tuple_add_2 _ _)
   (tuple_addW2 t b 78 ws.toArray n n2 dd dd2 sl sl2 (by simpa using hv) (by simpa using hw) (by rw[gu,gu];exact hsz)) ⟨ho,ho2,?_⟩
  rw[e];exact h2 hw
noncomputable def sIx(n d:Nat):Option Int->Nat
 |none=>d
 |some v=>if v<0 then(v+(n:Int)).toNat else min v.toNat n
def sIx_none(n d:Nat):sIx n d none=d:=rfl
def sIx_nat(n d k:Nat):sIx n d (some (k:Int))=min k n:=by
 show(if(k:Int)<0 then((k:Int)+(n:Int)).toNat else min (k:Int).toNat n)=min k n;rw[gh 66,ia]
def ZK(n d:Nat)(hd:d<=n)(o:Option Int):sIx n d o<=n:=by
 cases o with
 |none=>exact hd
 |some v=>
  show(if v<0 then(v+(n:Int)).toNat else min v.toNat n)<=n;by_cases hv:v<0
  .rw[gb hv];omega
  .rw[gh hv];exact Nat.min_le_right _ _
def PJ(v:Int)(n d:Nat):(if v<0 then max (v+(n:Int)) 0 else min v (n:Int))=((sIx n d (some v):Nat):Int):=by
 show(if v<0 then max (v+(n:Int)) 0 else min v (n:Int))=(((if v<0 then(v+(n:Int)).toNat else min v.toNat n):Nat):Int);by_cases hv:v<0
 .simp only[gb hv];omega
 .simp only[gh hv];omega
def R9(lo hi:Option Int)(n:Nat):Builtin.Slice.sliceAdjust lo hi 1 (n:Int)=(((sIx n 0 lo:Nat):Int),((sIx n n hi:Nat):Int)):=by
 have h1:¬ ((1:Int)<0):=by omega
 unfold Builtin.Slice.sliceAdjust;simp only[h1,i5];refine Prod.ext ?_ ?_
 .cases lo with
  |none=>rfl
  |some v=>exact PJ v n 0
 .cases hi with
  |none=>rfl
  |some v=>exact PJ v n n
def QH(i j:Nat):Builtin.Slice.slicePlaces (i:Int) (j:Int) 1=j-i:=by
 unfold Builtin.Slice.slicePlaces;have h1:(1:Int)>0:=by omega
 simp only[h1,gz,Int.ediv_one];split<;>omega
def Jb{v:Value}{o:Option Int}{Q:Option Int->Shared->Prop}(p:IsPart v o)(h:Q o s):wpAny 107 A (Builtin.Slice.slicePartIndex v) Q E s:=by
 cases p with
 |none=>exact slicePart_none h
 |int i t=>exact slicePart_int h
def Ii{sl:Addr}{vl vu:Value}{lo hi:Option Int}{n:Nat}{Q:Int×Int×Nat->Shared->Prop}(hs:s.heap.IsSliceOf sl vl vu .none)(pl:IsPart vl lo)(pu:IsPart vu hi)
 (h:Q (((sIx n 0 lo:Nat):Int),1,sIx n n hi-sIx n 0 lo) s):wpAny 107 A (Builtin.Slice.sliceApplied (.ref sl) (pure (n:Int))) Q E s:=by
 obtain⟨os,hos,hcs,hds⟩:=id hs;unfold Builtin.Slice.sliceApplied Builtin.Slice.sliceFields;refine gj (gj (wpAny_field hos hds (x:=vl) rfl (gj (wpAny_field hos hds (x:=vu) rfl (gj (wpAny_field hos hds (x:=.none) rfl (gn ?_)))))));refine gj (slicePart_none ?_);show wpAny _ _ (if((1:Int)==0)=true then _ else _) _ _ s;rw[gh 97];refine gj (Jb pl (gj (Jb pu (gj (gn ?_)))));show wpAny _ _ (match Builtin.Slice.sliceAdjust lo hi 1 (n:Int)with|(lo,hi)=>pure (lo,(1:Int),Builtin.Slice.slicePlaces lo hi 1)) _ _ s;rw[R9 lo hi n];show wpAny _ _ (pure (((sIx n 0 lo:Nat):Int),(1:Int),Builtin.Slice.slicePlaces ((sIx n 0 lo:Nat):Int) ((sIx n n hi:Nat):Int) 1)) _ _ s;rw[QH];exact gn h
def Uz(xs:Array Value)(i k:Nat):((68 k).filterMap λ(m:Nat)=>xs[((i:Int)+(m:Int)*1).toNat]?).toArray=((xs.toList.drop i).take k).toArray:=by
 have e:(λ(m:Nat)=>xs[((i:Int)+(m:Int)*1).toNat]?)=λm=>xs[i+m]? := by
  funext m
  have:((i:Int)+(m:Int)*1).toNat=i+m:=by omega
  rw[this]
 rw[e];have:=pick_run xs i k;rw[List.filterMap_map]at this;have e2:((λx=>xs[x]?) ∘ λx=>i+x)=λm=>xs[i+m]? := rfl;rw[e2]at this;rw[this]
def getItem_tuple_cut{t sl:Addr}{items:Array Value}{vl vu:Value}{lo hi:Option Int}{Q:76}(ht:IsTup s.heap t items)(hs:s.heap.IsSliceOf sl vl vu .none)(pl:IsPart vl lo)(pu:IsPart vu hi)
 (hw:¬ (sIx items.size 0 lo=0/\sIx items.size items.size hi=items.size))
 (h:Q (.ref 59) { s with heap:=s.heap.push { cls:=.type "tuple",data:=.seq ((items.toList.drop (sIx items.size 0 lo)).take (sIx items.size items.size hi-sIx items.size 0 lo)).toArray } })
 (hsz:items.size<=sizeLine):wpAny 107 A (getItem (.ref t) (.ref sl)) Q E s:=by
 have htake:sizeOk (.seq ((items.toList.drop (sIx items.size 0 lo)).take (sIx items.size items.size hi-sIx items.size 0 lo)).toArray):=by
  show((items.toList.drop (sIx items.size 0 lo)).take (sIx items.size items.size hi-sIx items.size 0 lo)).toArray.size<=sizeLine;rw[gu,iH,length_drop,Array.length_toList];omega
 have hj:sIx items.size items.size hi<=items.size:=ZK _ _ (gk _) hi;obtain⟨os,hos,hcs,hds⟩:=id hs;have hTs:s.TypeIs (.ref sl) "slice":=⟨os,hos,hcs⟩
 unfold getItem
 try with_reducible refine ik ?_
 first|refine gj (gn ?_)|skip
 refine gj (wpAny_sequenceKey ht.typeIs 97 ?_);refine gj (wpAny_callSpecial?_slot (name:=Str.ofString "__getitem__") ht.typeIs PyProof.Rows.slot_tuple_getitem
  (jl PyProof.Rows.slot_tuple_getitem ht.typeIs entry_tuple_getitem ?_ (args_tuple_getitem _ _)))
 show wpAny _ _ (Builtin.Tuple.tupleItemsOf (.ref t) >>= _) _ _ s;refine gj (tupleItemsOf_ ht ?_);refine gj (wpAny_typeOf hTs ?_);rw[gb 97];refine gj (Ii hs pl pu ?_);have hno:¬ ((((sIx items.size 0 lo:Nat):Int)==0&&(1:Int)==1&&(sIx items.size items.size hi-sIx items.size 0 lo)==items.size)=true):=by
  intro q;rw[Bool.and_eq_true,Bool.and_eq_true]at q;have q1:((sIx items.size 0 lo:Nat):Int)=0:=eq_of_beq q.1.1;have q2:sIx items.size items.size hi-sIx items.size 0 lo=items.size:=eq_of_beq q.2;exact hw ⟨by omega,by omega⟩
 show wpAny _ _ (if(((sIx items.size 0 lo:Nat):Int)==0&&(1:Int)==1&&(sIx items.size items.size hi-sIx items.size 0 lo)==items.size)=true then _ else _) _ _ s;rw[gh hno,Uz]
 first
  |exact gj (m:=Builtin.Tuple.tupleExact _) (jb (gn ⟨_,rfl,gn h⟩) htake)
  |exact gj (m:=Builtin.Tuple.tupleExact _) (jb (gj (gn (gn ⟨_,rfl,gn h⟩))) htake)
  |exact gj (gj (m:=Builtin.Tuple.tupleExact _) (jb (gn (gn ⟨_,rfl,gn h⟩)) htake))
  |exact gj (gj (m:=Builtin.Tuple.tupleExact _) (jb (gn ⟨_,rfl,gn h⟩) htake))
end
end HT
namespace L2
open PySem PySem.Spec PyProof.Rows
noncomputable abbrev TO:=St->Hp->(Option Int->Hp->Prop)->Prop
def PO(X:Cx)(e:Option Expr)(t:TO):Prop:=
 ∀(pins:89) (s:96) (σ:St) (H:Hp) (Q:Option Int->Hp->Prop),Inv X pins σ H s->t σ H Q ->
   wpAny 69 X.A (evalPart e X.env) (λu s'=>∃o H',Inv X pins σ H' s'/\IsPart u o/\Q o H') X.xe s
noncomputable def KU:TO:=λ_ H Q=>Q none H
noncomputable def Pb(t:TE):TO:=λσ H Q=>t σ H λx H1=>∃i,x=.int i/\Q (some i) H1
def Qg{ns:92}:∀{us:79},Vals (ns.map V.int) us->IntsAre us ns:=by
 induction ns with
 |nil=>intro us r;rw[ie]at r;cases r;exact .nil
 |cons n ns ih=>
  intro us r;rw[gv]at r;cases r with
  |cons r1 r2=>
   obtain⟨t,e⟩:=r1;subst e;exact .cons n t (ih r2)
section
variable{X:Cx}{e:Expr}{te:TE}{lo hi:Option Expr}{tl th:TO}{pos p2:Pos}
def YC:PO X none KU:=by
 intro pins s σ H Q I h;rw[evalPart_none];exact gn ⟨none,H,I,.none,h⟩
def YB(h:PE X e te):PO X (some e) (Pb te):=by
 intro pins s σ H Q I hw;rw[evalPart_some];refine thn (h pins s σ H _ I hw) λu s1 ⟨x,H1,I1,r1,q1⟩=>?_;obtain⟨i,rfl,q⟩:=q1;obtain⟨t,rfl⟩:=r1;exact⟨some i,H1,I1,.int i t,q⟩
def SlR(X:Cx)(r:V->Option Int->Option Int->Hp->VK->Prop):Prop:=
 ∀(pins:89) (s:96) (σ:St) (H:Hp) (x:V) (v vl vu:Value) (lo hi:Option Int) (sl:Addr) (Q:VK),Inv X pins σ H s->RelV x v->s.heap.IsSliceOf sl vl vu .none->IsPart vl lo->IsPart vu hi->r x lo hi H Q ->
   ∃T id,typeLookup (.type T) "__getitem__"=pure (some (.builtin id))/\s.TypeIs v T/\wpAny 69 X.A (getItem v (.ref sl)) (EP X pins σ Q) X.xe s
noncomputable def tSl(r:V->Option Int->Option Int->Hp->VK->Prop)(te:TE)(tl th:TO):TE:=λσ H Q=>te σ H λx H1=>tl σ H1 λl H2=>th σ H2 λu H3=>r x l u H3 Q
def NI{r:V->Option Int->Option Int->Hp->VK->Prop}(hr:SlR X r)(he:PE X e te)(hl:PO X lo tl)(hu:PO X hi th):PE X (.Subscript e (.Slice lo hi none p2) pos) (tSl r te tl th):=by
 intro pins s σ H Q I h;refine Subscript_ (thn (he pins s σ H _ I h) λv s1 ⟨x,H1,I1,r1,q1⟩=>?_);refine wpAny_Slice (thn (hl pins s1 σ H1 _ I1 q1) λvl s2 ⟨l,H2,I2,pl,q2⟩=>thn (hu pins s2 σ H2 _ I2 q2) λvu s3 ⟨u,H3,I3,pu,q3⟩=>?_);rw[evalPart_none];refine gn ?_;have I4:Inv X pins σ H3 { s3 with heap:=s3.heap.push { cls:=.type "slice",data:=.fields #[vl,vu,.none] } }:=I3.kept (t':=s3.toks) λb ob q=>70 _ q;obtain⟨T,id,hT,ht,hg⟩:=hr pins { s3 with heap:=s3.heap.push { cls:=.type "slice",data:=.fields #[vl,vu,.none] } } σ H3 x v vl vu l u s3.heap.objs.size Q I4 r1 (Heap.IsSliceOf.new ..) pl pu q3;show wpAny 69 X.A (subscriptTail e (.Slice lo hi none p2) v (.ref s3.heap.objs.size)) (EP X pins σ Q) X.xe { s3 with heap:=s3.heap.push { cls:=.type "slice",data:=.fields #[vl,vu,.none] } };exact tail_any (ops:=[.ref s3.heap.objs.size,v]) ht hT hg (by with_unfolding_all rfl)
noncomputable def Fj(xs:List V)(lo hi:Option Int):List V:=(xs.drop (HT.sIx 88 0 lo)).take (HT.sIx 88 88 hi-HT.sIx 88 0 lo)
def IW(xs:List V)(lo hi:Option Int):(Fj xs lo hi).length<=xs.length:=by
 unfold Fj;rw[iH,length_drop];omega
def Q5(K:Frag):V->Option Int->Option Int->Hp->VK->Prop:=λx lo hi H Q=>∃a xs,x=.ref a/\SqT K H a xs /\
 ¬ (HT.sIx 88 0 lo=0/\HT.sIx 88 88 hi=88)/\∀p,H p=none->Q (.ref p) (upd H p (.tup (Fj xs lo hi)))
def ZH:SlR X (Q5 X.K):=by
 intro pins s σ H x v vl vu lo hi sl Q I rx hs pl pu h;obtain⟨a,xs,rfl,hx,hw,q⟩:=h;cases rx;obtain⟨its,r,ht,hz⟩:=I.tuple hx;have hlen:its.toArray.size=xs.length:=by rw[gu];exact r.length.symm
 refine⟨"tuple",_,PyProof.Rows.slot_tuple_getitem.lookup,ht.typeIs,?_⟩;refine HT.getItem_tuple_cut ht hs pl pu (by rw[hlen];exact hw) ?_ (by rw[hlen];exact hz);rw[hlen];refine⟨.ref 59,_,I.laid (t':=s.toks) (o:=.tup (Fj xs lo hi)) (λb ob q=>70 _ q) (gk _) ?_,rfl,q _ (I.hok.fresh (gk _))⟩;exact⟨gw (IW xs lo hi) hz,_,(r.drop (HT.sIx 88 0 lo)).take (HT.sIx 88 88 hi-HT.sIx 88 0 lo),IsTupD.new _ _⟩
noncomputable def Q8(K:Frag):R2:=λx y H Q=>∃a b xs ys,x=.ref a/\y=.ref b/\SqT K H a xs/\SqT K H b ys/\xs≠[]/\88+ys.length<=sizeLine /\
 (ys=[]->Q (.ref a) H)/\(ys≠[]->∀p,H p=none->Q (.ref p) (upd H p (.tup (xs++ys))))
def Vals.nil_iff{xs:List V}{us:79}(r:Vals xs us):us=[]↔xs=[]:=by
 cases r with
 |nil=>simp
 |cons _ _=>simp
def YO:OpR X (binaryOp .Add) (Q8 X.K):=by
 intro pins s σ H x y v u Q I rx ry h;obtain⟨a,b,xs,ys,rfl,rfl,ha,hb,hx,hz,q1,q2⟩:=h;cases rx;cases ry;obtain⟨its,r1,p1,_⟩:=I.tuple ha;obtain⟨its2,r2,p2,_⟩:=I.tuple hb;refine HT.cat_tup p1 p2 (λz=>hx (r1.nil_iff.mp z)) (λz=>⟨.ref a,H,I,rfl,q1 (r2.nil_iff.mp z)⟩) (λz=>?_) (by rw[<- r1.length,<- r2.length];exact hz);refine⟨.ref 59,_,I.laid (t':=s.toks) (o:=.tup (xs++ys)) (λb ob q=>70 _ q) (gk _) ?_,rfl,q2 (λw=>z (r2.nil_iff.mpr w)) _ (I.hok.fresh (gk _))⟩;exact⟨by rw[i9];exact hz,_,r1.append r2,IsTupD.new _ _⟩
end
noncomputable def ixN(n:Nat)(i:Int):Option Nat:=if 0<=i then(if i<n then some i.toNat else none)else if -(n:Int)<=i then some (i+n).toNat else none
def atI{α:Type}(xs:List α)(i:Int):Option α:=(ixN 88 i).bind λj=>xs[j]?
def Ks{n:Nat}{i:Int}{j:Nat}(h:ixN n i=some j):seqIndex? i n=some j/\j<n/\-(n:Int)<=i/\i<n:=by
 unfold ixN at h;by_cases h0:0<=i
 .rw[gb h0]at h;by_cases h1:i<n
  .rw[gb h1]at h;have e:i.toNat=j:=104 h;exact⟨by rw[seqIndex_of h0 h1,e],by omega,by omega,h1⟩
  .rw[gh h1]at h;cases h
 .rw[gh h0]at h;by_cases h1:-(n:Int)<=i
  .rw[gb h1]at h;have e:(i+n).toNat=j:=104 h;exact⟨by rw[seqIndex_neg 66 h1,e],by omega,h1,by omega⟩
  .rw[gh h1]at h;cases h
def LD{α:Type}{xs:List α}{i:Int}{v:α}(h:atI xs i=some v):∃j,seqIndex? i 88=some j/\xs[j]?=some v/\j<88/\-(xs.length:Int)<=i/\i<xs.length:=by
 unfold atI at h;cases e:ixN 88 i with
 |none=>rw[e]at h;cases h
 |some j=>
  rw[e]at h;obtain⟨h1,h2,h3,h4⟩:=Ks e;exact⟨j,h1,h,h2,h3,h4⟩
def BH{α:Type}{xs:List α}{j:Nat}{v:α}(h:xs[j]?=some v):atI xs (j:Int)=some v:=by
 have hj:j<xs.length:=(75 h).1;have e:ixN 88 (j:Int)=some j:=by
  unfold ixN;rw[gb 66,gb 66];simp
 unfold atI;rw[e];exact h
def Gi{α:Type}(xs:List α)(v:α):atI (xs++[v]) (-1)=some v:=by
 have hl:(xs++[v]).length=88+1:=by simp
 have e:ixN (xs++[v]).length (-1)=some xs.length:=by
  unfold ixN;rw[hl,gh 97,gb 66]
  congr 1
  omega
 unfold atI;rw[e];show(xs++[v])[88]?=some v;simp
def LF(b:Expr):Prop:=∀o i,subscripted b false o i=operate [o,i] (getItem o i)
def IxR(X:Cx)(r:R2):Prop:=
 ∀(value slice:Expr) (pins:89) (s:96) (σ:St) (H:Hp) (x y:V) (v u:Value) (Q:VK),Inv X pins σ H s->RelV x v->RelV y u->r x y H Q ->
   subscripted slice false v u=operate [v,u] (getItem v u)->wpAny 69 X.A (subscriptTail value slice v u) (EP X pins σ Q) X.xe s
def MtR(X:Cx)(id:String)(r:V->List V->Hp->VK->Prop):Prop:=
 ∀(pins:89) (s:96) (σ:St) (H:Hp) (x:V) (xs:List V) (v:Value) (us:79) (Q:VK),Inv X pins σ H s->RelV x v->Vals xs us->r x xs H Q ->
   wpAny 69 X.A (call (.builtin id) (v::us)) (EP X pins σ Q) X.xe s
section
variable{X:Cx}{a b:Expr}{ta tb:TE}{pos:Pos}
def IxR.or{r r':R2}(h:IxR X r)(h':IxR X r'):IxR X (λx y H Q=>r x y H Q∨r' x y H Q):=by
 intro value slice pins s σ H x y v u Q I rx ry q hs;rcases q with q|q
 .exact h value slice pins s σ H x y v u Q I rx ry q hs
 .exact h' value slice pins s σ H x y v u Q I rx ry q hs
def QK{r:R2}(hr:IxR X r)(ha:PE X a ta)(hb:PE X b tb)(hs:LF b):PE X (.Subscript a b pos) (tOp r ta tb):=by
 intro pins s σ H Q I h;exact Subscript_ (Vk ha hb I h λv u s2 x y H2 I2 rx ry q=>hr a b pins s2 σ H2 x y v u Q I2 rx ry q (hs _ _))
noncomputable def Iv(K:Frag):R2:=λx y H Q=>∃p xs i v,x=.ref p/\y=.int i/\SqL K H p xs/\atI xs i=some v/\Q v H
noncomputable def UZ(K:Frag):R2:=λx y H Q=>∃p xs i v,x=.ref p/\y=.int i/\SqT K H p xs/\atI xs i=some v/\Q v H
def P0:IxR X (Iv X.K):=by
 intro value slice pins s σ H x y v u Q I rx ry h hs;obtain⟨p,xs,i,z,rfl,rfl,hq,he,q⟩:=h;cases rx;obtain⟨t,rfl⟩:=ry;obtain⟨its,r,pl,hz⟩:=I.list hq;obtain⟨j,h1,h2,h3,h4,h5⟩:=LD he;obtain⟨w,ew,rw'⟩:=r.get h2;have hl:=r.length;have hn:=G4;have fin:EP X pins σ Q w s:=⟨z,H,I,rw',q⟩
 by_cases h0:0<=i
 .have hj:i.toNat=j:=by
   rw[seqIndex_of h0 h5]at h1;exact 104 h1
  exact item_listR pl.isList h0 66 (by rw[hj];simpa using ew) fin hs
 .have hj:(i+(its.toArray.size:Int)).toNat=j:=by
   rw[seqIndex_neg 66 h4]at h1;rw[gu,<- hl];exact 104 h1
  exact subscriptTail_builtinR (x:=w) pl.isList.typeIs slot_list_getitem.lookup
   (wpAny_getItem_list_neg (Q:=λr s'=>r=w/\EP X pins σ Q r s') pl.isList 66 (by rw[gu]<;>omega) 66 (by rw[hj];simpa using ew) ⟨rfl,fin⟩) hs
def cB:IxR X (UZ X.K):=by
 intro value slice pins s σ H x y v u Q I rx ry h hs;obtain⟨p,xs,i,z,rfl,rfl,hq,he,q⟩:=h;cases rx;obtain⟨t,rfl⟩:=ry;obtain⟨its,r,pl,hz⟩:=I.tuple hq;obtain⟨j,h1,h2,h3,h4,h5⟩:=LD he;obtain⟨w,ew,rw'⟩:=r.get h2;have hl:=r.length;have hn:=G4;have fin:EP X pins σ Q w s:=⟨z,H,I,rw',q⟩
 exact subscriptTail_builtinR (x:=w) pl.typeIs slot_tuple_getitem.lookup
  (getItem_tuple (j:=j) (Q:=λr s'=>r=w/\EP X pins σ Q r s') pl 66 66 (by rw[gu,<- hl];exact h1) (by simpa using ew) ⟨rfl,fin⟩) hs
def QV(its:79)(n j:Nat)(u:Value):Obj.mapSeq (·.setIfInBounds j u) { cls:=.type "list",data:=.seq 120 n }={ cls:=.type "list",data:=.seq (its.set j u).toArray n }:=by
 simp[Obj.mapSeq]
theorem Inv.lst{pins:89}{σ:St}{H:Hp}{s:96}{p:Addr}{xs:List V}(I:73)(h:H p=some (.lst xs)):
 ∃(its:79) (n:Nat),Vals xs its/\s.heap.get? p=some { cls:=.type "list",data:=.seq 120 n }/\88<=sizeLine:=by
 obtain⟨z,its,n,r,e⟩:=I.hok p _ h;exact⟨its,n,r,e,z⟩
def Inv.lstUpd{pins:89}{σ:St}{H:Hp}{s:96}{p:Addr}{xs ys:List V}{its its':79}{n n':Nat}{f:Obj->Obj}(I:73)(h:H p=some (.lst xs))
 (ho:s.heap.get? p=some { cls:=.type "list",data:=.seq 120 n }) (hf:f { cls:=.type "list",data:=.seq 120 n }={ cls:=.type "list",data:=.seq its'.toArray n' }) (r:Vals ys its') (hz:ys.length<=sizeLine) (t:Nat):
 Inv X pins σ (upd H p (.lst ys)) { s with heap:=s.heap.update p f,toks:=t }:=by
 have e:(s.heap.update p f).get? p=some { cls:=.type "list",data:=.seq its'.toArray n' }:=by
  rw[Heap.get?_update_self f ho (by rw[hf]<;>rfl),hf]
 refine I.write (x:=p) (e:=p) (by rw[h];trivial) (.inl rfl) (λb u hb q=>(Heap.get?_update_other _ _ (Ne.symm hb)).trans q) ⟨_,e⟩ ?_;exact⟨hz,its',n',r,e⟩
def Jm:V->V->V->Hp->(Hp->Prop)->Prop:=λo i v H Q=>∃p xs k j,o=.ref p/\i=.int k/\H p=some (.lst xs)/\ixN 88 k=some j/\Q (upd H p (.lst (xs.set j v)))
def Mv:Vp X Jm:=by
 intro pins s σ H o i v ov iv u Q I ro ri rv h;obtain⟨p,xs,k,j,rfl,rfl,hp,hj,q⟩:=h;cases ro;obtain⟨t,rfl⟩:=ri;obtain⟨its,n,r,ho,hz⟩:=I.lst hp;obtain⟨h1,h2,h3,h4⟩:=Ks hj;have hl:=r.length;have hn:=G4;have I':Inv X pins σ (upd H p (.lst (xs.set j v))) { s with heap:=s.heap.update p (Obj.mapSeq (·.setIfInBounds j u)) }:=
  I.lstUpd hp ho (QV its n j u) (r.set rv j) (by rw[List.length_set];exact hz) s.toks
 by_cases h0:0<=k
 .have hk:k.toNat=j:=by
   rw[seqIndex_of h0 h4]at h1;exact 104 h1
  exact PySem.W.ki_setAt ho h0 66 (by rw[gu,<- hl];exact h4) (by rw[hk];exact⟨_,I',q⟩)
 .have hk:(k+(its.toArray.size:Int)).toNat=j:=by
   rw[seqIndex_neg 66 h3]at h1;rw[gu,<- hl];exact 104 h1
  exact PySem.W.ki_setBack ho 66 (by rw[gu,<- hl];exact h3) 66 (by rw[hk];exact⟨_,I',q⟩)
def Mu(lo hi:Option Int)(n:Nat):(sliceBounds lo hi none n).1=((HT.sIx n 0 lo:Nat):Int)/\(sliceBounds lo hi none n).2.1=((HT.sIx n n hi:Nat):Int)/\(sliceBounds lo hi none n).2.2=1:=by
 refine⟨?_,?_,rfl⟩
 .cases lo with
  |none=>simp[sliceBounds,HT.sIx]
  |some i=>
   simp only[sliceBounds,HT.sIx,Option.getD_none,show(1:Int)>0 by decide,gz];by_cases h:i<0
   .simp only[h,gz]<;>omega
   .simp only[h,i5]<;>omega
 .cases hi with
  |none=>simp[sliceBounds,HT.sIx]
  |some i=>
   simp only[sliceBounds,HT.sIx,Option.getD_none,show(1:Int)>0 by decide,gz];by_cases h:i<0
   .simp only[h,gz]<;>omega
   .simp only[h,i5]<;>omega
def Lv(its:79)(lo hi:Option Int):slicePick 120 lo hi none=((its.drop (HT.sIx its.length 0 lo)).take (HT.sIx its.length its.length hi-HT.sIx its.length 0 lo)).toArray:=by
 obtain⟨h1,h2,h3⟩:=Mu lo hi its.toArray.size;unfold slicePick;rw[h1,h2,h3];simp only[sliceRange_one,pick_run,gu]<;>rfl
def Q6(K:Frag):V->Option Int->Option Int->Hp->VK->Prop:=λx lo hi H Q=>∃a xs,x=.ref a/\SqL K H a xs/\∀p,H p=none->Q (.ref p) (upd H p (.lst (Fj xs lo hi)))
def Ww:SlR X (Q6 X.K):=by
 intro pins s σ H x v vl vu lo hi sl Q I rx hs pl pu h;obtain⟨a,xs,rfl,hx,q⟩:=h;cases rx;obtain⟨its,r,ht,hz⟩:=I.list hx;have hlen:=r.length;refine⟨"list",_,slot_list_getitem.lookup,ht.isList.typeIs,?_⟩;refine wpAny_getItem_list_slice ht.isList hs pl pu .none 71 ?_ (by rw[gu]<;>omega);rw[Lv,<- hlen];refine⟨.ref 59,_,I.laid (t':=s.toks) (o:=.lst (Fj xs lo hi)) (λb ob q=>70 _ q) (gk _) ?_,rfl,q _ (I.hok.fresh (gk _))⟩;exact⟨gw (IW xs lo hi) hz,_,0,(r.drop (HT.sIx 88 0 lo)).take (HT.sIx 88 88 hi-HT.sIx 88 0 lo),87 _ rfl⟩
noncomputable def EF:V->Bool
 |.non=>true
 |.bl _=>true
 |.int _=>true
 |.str _=>true
 |_=>false
noncomputable def eqV:V->V->Bool
 |.non,.non=>true
 |.bl a,.bl b=>a==b
 |.bl a,.int b=>(if a then 1 else 0)==b
 |.int a,.bl b=>a==(if b then 1 else 0)
 |.int a,.int b=>a==b
 |.str a,.str b=>a==b
 |_,_=>false
def cW{A:Around}{s:96}{y x:V}{u v:Value}(ry:RelV y u)(rx:RelV x v)(fy:EF y=true)(fx:EF x=true):SeqAt.EqAt A s u v (eqV y x):=by
 cases y with
 |non=>
  cases ry;cases x with
  |non=>cases rx;exact SeqAt.EqAt.same _
  |bl b=>cases rx;exact SeqAt.EqAt.none_bool b
  |int b=>obtain⟨t,rfl⟩:=rx;exact SeqAt.EqAt.none_int b t
  |str b=>obtain⟨t,rfl⟩:=rx;exact SeqAt.EqAt.none_str b t
  |_=>exact absurd (show false=true from fx) 106
 |bl a=>
  cases ry;cases x with
  |non=>cases rx;exact SeqAt.EqAt.bool_none a
  |bl b=>cases rx;exact SeqAt.EqAt.bool_bool a b
  |int b=>obtain⟨t,rfl⟩:=rx;exact SeqAt.EqAt.bool_int a b t
  |str b=>obtain⟨t,rfl⟩:=rx;exact SeqAt.EqAt.bool_str a b t
  |_=>exact absurd (show false=true from fx) 106
 |int a=>
  obtain⟨t',rfl⟩:=ry;cases x with
  |non=>cases rx;exact SeqAt.EqAt.int_none a t'
  |bl b=>cases rx;exact SeqAt.EqAt.int_bool a t' b
  |int b=>obtain⟨t,rfl⟩:=rx;exact SeqAt.EqAt.int_int a t' b t
  |str b=>obtain⟨t,rfl⟩:=rx;exact SeqAt.EqAt.int_str a t' b t
  |_=>exact absurd (show false=true from fx) 106
 |str a=>
  obtain⟨t',rfl⟩:=ry;cases x with
  |non=>cases rx;exact SeqAt.EqAt.str_none a t'
  |bl b=>cases rx;exact SeqAt.EqAt.str_bool a t' b
  |int b=>obtain⟨t,rfl⟩:=rx;exact SeqAt.EqAt.str_int a t' b t
  |str b=>obtain⟨t,rfl⟩:=rx;exact SeqAt.EqAt.str_str a t' b t
  |_=>exact absurd (show false=true from fx) 106
 |_=>exact absurd (show false=true from fy) 106
def eqU(x:V)(u:Value):Bool:=match u with
 |.none=>eqV .non x
 |.bool b=>eqV (.bl b) x
 |.int i _=>eqV (.int i) x
 |.str z _=>eqV (.str z) x
 |_=>false
def T2{x y:V}{u:Value}(r:RelV y u)(f:EF y=true):eqU x u=eqV y x:=by
 cases y with
 |non=>cases r;rfl
 |bl b=>cases r;rfl
 |int i=>obtain⟨t,rfl⟩:=r;rfl
 |str z=>obtain⟨t,rfl⟩:=r;rfl
 |_=>exact absurd (show false=true from f) 106
theorem GC{x:V}:∀{xs:List V} {us:79},Vals xs us->xs.all EF=true->us.any (eqU x)=xs.any λy=>eqV y x
 |_,_,.nil,_=>rfl
 |y::xs,u::us,.cons r t,f=>by
  rw[all_cons,Bool.and_eq_true]at f;rw[iO,iO,T2 r f.1,GC t f.2]
theorem F8{A:Around}{s:96}{x:V}{v:Value}(rx:RelV x v)(fx:EF x=true):∀{xs:List V} {us:79},Vals xs us->xs.all EF=true->∀u∈us,SeqAt.EqAt A s u v (eqU x u)
 |_,_,.nil,_=>λu hu=>by cases hu
 |y::xs,u::us,.cons r t,f=>λu' hu=>by
  rw[all_cons,Bool.and_eq_true]at f;rcases mem_cons.mp hu with rfl|hu
  .rw[T2 r f.1];exact cW r rx f.1 fx
  .exact F8 rx fx t f.2 u' hu
def inV(x:V)(xs:List V):Bool:=xs.any λy=>eqV y x
def rIn(K:Frag)(neg:Bool):R2:=λx y H Q=>∃p xs,y=.ref p/\(SqL K H p xs∨SqT K H p xs)/\EF x=true/\xs.all EF=true/\Q (.bl (if neg then !inV x xs else inV x xs)) H
def SV:OpR X (compareOp .In) (rIn X.K false):=by
 intro pins s σ H x y v u Q I rx ry h;obtain⟨p,xs,rfl,hq,fx,fs,q⟩:=h;cases ry;rcases hq with hq|hq
 .obtain⟨its,r,pl,hz⟩:=I.list hq;refine SeqAt.in_listAt (eqU x) pl.isList (λw hw=>F8 rx fx r fs w (by simpa using hw)) ⟨.bl _,H,I,rfl,?_⟩;rw[show its.toArray.any (eqU x)=its.any (eqU x) by simp,GC r fs];exact q
 .obtain⟨its,r,pl,hz⟩:=I.tuple hq;refine SeqAt.in_tupleAt (eqU x) pl (λw hw=>F8 rx fx r fs w (by simpa using hw)) ⟨.bl _,H,I,rfl,?_⟩;rw[show its.toArray.any (eqU x)=its.any (eqU x) by simp,GC r fs];exact q
def NK:OpR X (compareOp .NotIn) (rIn X.K true):=by
 intro pins s σ H x y v u Q I rx ry h;obtain⟨p,xs,rfl,hq,fx,fs,q⟩:=h;cases ry;rcases hq with hq|hq
 .obtain⟨its,r,pl,hz⟩:=I.list hq;refine SeqAt.notIn_listAt (eqU x) pl.isList (λw hw=>F8 rx fx r fs w (by simpa using hw)) ⟨.bl _,H,I,rfl,?_⟩;rw[show its.toArray.any (eqU x)=its.any (eqU x) by simp,GC r fs];exact q
 .obtain⟨its,r,pl,hz⟩:=I.tuple hq;refine SeqAt.notIn_tupleAt (eqU x) pl (λw hw=>F8 rx fx r fs w (by simpa using hw)) ⟨.bl _,H,I,rfl,?_⟩;rw[show its.toArray.any (eqU x)=its.any (eqU x) by simp,GC r fs];exact q
def Ny:CallR X (.builtin "len") (λxs H Q=>∃p ys,xs=[.ref p]/\(SqL X.K H p ys∨SqT X.K H p ys)/\Q (.int ys.length) H):=by
 intro pins s σ H xs us Q I r h;obtain⟨p,ys,rfl,hq,q⟩:=h;obtain⟨u,rfl,rx⟩:=BU r;cases rx;have hn:=G4;rcases hq with hq|hq
 .obtain⟨its,r',pl,hz⟩:=I.list hq;have hlen:=r'.length;exact Calls.call_len_list pl.isList (by simp only[gu]<;>omega) ⟨.int ys.length,H,I.tok _,⟨s.toks+1,by rw[gu,hlen]⟩,q⟩
 .obtain⟨its,r',pl,hz⟩:=I.tuple hq;have hlen:=r'.length;exact len_tuple pl (by simp only[gu]<;>omega) ⟨.int ys.length,H,I.tok _,⟨s.toks+1,by rw[gu,hlen]⟩,q⟩
def CallR.or{f:Value}{r r':List V->Hp->VK->Prop}(h:CallR X f r)(h':CallR X f r'):CallR X f (λxs H Q=>r xs H Q∨r' xs H Q):=by
 intro pins s σ H xs us Q I rs q;rcases q with q|q
 .exact h pins s σ H xs us Q I rs q
 .exact h' pins s σ H xs us Q I rs q
def Nx:CallR X (.type "list") (λxs H Q=>∃p ys,xs=[.ref p]/\(SqL X.K H p ys∨SqT X.K H p ys)/\∀l,H l=none->Q (.ref l) (upd H l (.lst ys))):=by
 intro pins s σ H xs us Q I r h;obtain⟨p,ys,rfl,hq,q⟩:=h;obtain⟨u,rfl,rx⟩:=BU r;cases rx;have fin:∀(its:79),Vals ys its->ys.length<=sizeLine->∀(h':Heap) (c':Nat),(∀b o',s.heap.get? b=some o'->h'.get? b=some o') ->
  h'.get? 59=some { cls:=.type "list",dict:=none,data:=.seq 120 c',slots:=#[] }->EP X pins σ Q (.ref 59) { s with heap:=h' }:=λits r' hz h' c' kp e=>
  ⟨.ref 59,_,I.laid (t':=s.toks) kp (gk _) (show ObjOk X.prog X.w _ h' _ (.lst ys)from⟨hz,its,c',r',e⟩),rfl,q _ (I.hok.fresh (gk _))⟩
 rcases hq with hq|hq
 .obtain⟨its,r',pl,hz⟩:=I.list hq;have hlen:=r'.length;obtain⟨o,ho,hc,n,hd⟩:=pl.isList;exact call_list_seq p (.inl rfl) ho hc hd (λh' c' kp e=>fin its r' hz h' c' kp e) (by simp only[gu]<;>omega)
 .obtain⟨its,r',pl,hz⟩:=I.tuple hq;have hlen:=r'.length;obtain⟨o,ho,hc,n,hd⟩:=pl;exact call_list_seq p (.inr rfl) ho hc hd (λh' c' kp e=>fin its r' hz h' c' kp e) (by simp only[gu]<;>omega)
def M6:CallR X (.type "tuple") (λxs H Q=>∃p ys,xs=[.ref p]/\((SqL X.K H p ys/\∀l,H l=none->Q (.ref l) (upd H l (.tup ys)))∨(SqT X.K H p ys/\Q (.ref p) H))):=by
 intro pins s σ H xs us Q I r h;obtain⟨p,ys,rfl,h⟩:=h;obtain⟨u,rfl,rx⟩:=BU r;cases rx;rcases h with⟨hq,q⟩|⟨hq,q⟩
 .obtain⟨its,r',pl,hz⟩:=I.list hq;have hlen:=r'.length;refine call_tuple_list pl.isList (λh' kp=>?_) (by simp only[gu]<;>omega);have I1:Inv X pins σ H { s with heap:=h' }:=I.kept (t':=s.toks) kp;have I2:Inv X pins σ (upd H h'.objs.size (.tup ys)) { s with heap:=h'.push { cls:=.type "tuple",data:=.seq its.toArray } }:=
   I1.laid (t':=s.toks) (λb o e=>70 _ e) (gk _) (show ObjOk X.prog X.w _ _ _ (.tup ys)from⟨hz,its,r',IsTupD.new _ _⟩)
  exact⟨.ref h'.objs.size,_,I2,rfl,q _ (I1.hok.fresh (gk _))⟩
 .obtain⟨its,r',pl,hz⟩:=I.tuple hq;exact call_tuple_same pl ⟨.ref p,H,I,rfl,q⟩
def tyV(K:Frag)(T:String)(x:V)(H:Hp):Prop:=match x with
 |.str _=>T="str"
 |.int _=>T="int"
 |.ref p=>(T="list"/\∃xs,SqL K H p xs)∨(T="tuple"/\∃o,K.lookup p=some o/\o.cls=.type "tuple"/\o.dict=none) ∨
  (T="dict"/\((∃kvs,H p=some (.dK kvs))∨∃kvs,H p=some (.dT kvs)))∨(T="set"/\∃S n,H p=some (.set S n))
 |_=>False
def Rb{pins:89}{σ:St}{H:Hp}{s:96}{T:String}{x:V}{v:Value}(I:73)(r:RelV x v)(ty:tyV X.K T x H):
 s.TypeIs v T/\∀a,v=.ref a->∃ob,s.heap.get? a=some ob/\ob.dict=none:=by
 cases x with
 |str z=>
  obtain⟨t,rfl⟩:=r;cases(show T="str" from ty);exact⟨typeIs_str s z t,λ_ e=>nomatch e⟩
 |int i=>
  obtain⟨t,rfl⟩:=r;cases(show T="int" from ty);exact⟨iK s i t,λ_ e=>nomatch e⟩
 |ref p=>
  cases r;rcases ty with⟨rfl,xs,hq⟩|⟨rfl,o,hk,hc,hd⟩|⟨rfl,hk⟩|⟨rfl,S,n,hk⟩
  .obtain⟨its,_,pl,_⟩:=I.list hq;refine⟨pl.isList.typeIs,λa e=>?_⟩;cases e;obtain⟨o,n,e,c,hd,_⟩:=pl;exact⟨o,e,hd⟩
  .refine⟨⟨o,I.kIn p o hk,hc⟩,λa e=>?_⟩;cases e;exact⟨o,I.kIn _ o hk,hd⟩
  .have z:∃o,s.heap.get? p=some o/\o.ExactDict:=by
    rcases hk with⟨kvs,hk⟩|⟨kvs,hk⟩
    .obtain⟨_,_,_,_,o,_,_,e,ex,_⟩:=I.hok p _ hk;exact⟨o,e,ex⟩
    .obtain⟨_,_,_,_,o,_,_,e,ex,_⟩:=I.hok p _ hk;exact⟨o,e,ex⟩
   obtain⟨o,e,ex⟩:=z;refine⟨⟨o,e,ex.1⟩,λa e2=>?_⟩;cases e2;exact⟨o,e,ex.2.1⟩
  .obtain⟨o,_,_,_,e,ex,_⟩:=I.hok p _ hk;refine⟨⟨o,e,ex.1⟩,λa e2=>?_⟩;cases e2;exact⟨o,e,ex.2.1⟩
 |_=>exact False.elim ty
noncomputable def U2(K:Frag)(T:String)(r:V->List V->Hp->VK->Prop)(to:TE):TE:=λσ H Q=>to σ H λx H1=>tyV K T x H1/\r x [] H1 Q
noncomputable def tBM(K:Frag)(T:String)(r:V->List V->Hp->VK->Prop)(to:TE)(t:TA):TE:=λσ H Q=>to σ H λx H1=>tyV K T x H1/\t σ H1 λxs H2=>r x xs H2 Q
variable{o e:Expr}{es:List Expr}{to:TE}{t:TA}{name:Str}{apos cpos:Pos}{T id:String}{r:V->List V->Hp->VK->Prop}
def bM(pa:PlainAttrs T)(slot:Slot T name id)(hty:typeOf (.builtin id)=pure (.type "method_descriptor"))(hm:MtR X id r)(ho:PE X o to)
 (hbase:attributeBase o name X.env (eval o X.env)=eval o X.env:=by rfl) (hline:(apos.endLine==cpos.line)=true:=by rfl):PE X (.Call (.Attribute o name apos) [] [] cpos) (U2 X.K T r to):=by
 intro pins s σ H Q I h;refine wpAny_Call_method0_late hbase hline (thn (ho pins s σ H _ I h) λv s1 ⟨x,H1,I1,r1,ty,q1⟩=>?_);obtain⟨h1,h2⟩:=Rb I1 r1 ty;exact⟨T,id,pa,slot,hty,h1,h2,Calls.callWith_builtin rfl (PySem.evalArgs_none (hm pins s1 σ H1 x [] v [] Q I1 r1 .nil q1))⟩
def dZ(pa:PlainAttrs T)(slot:Slot T name id)(hty:typeOf (.builtin id)=pure (.type "method_descriptor"))(hm:MtR X id r)(ho:PE X o to)(ha:PA X (e::es) t)
 (hbase:attributeBase o name X.env (eval o X.env)=eval o X.env:=by rfl)
 (hfew:((backTo cpos (starEach (e::es) X.env)).all (λx=>!x.1)&&(backToKw cpos (keywordEach [] X.env)).all (λx=>x.1.isSome)
  && decide ((e::es).length+([]:List Keyword).length+(if([]:List Keyword).isEmpty then 0 else 1)<30))=true:=by rfl)
 (hline:(apos.endLine==cpos.line)=true:=by rfl) (hs:starEach (e::es) X.env=(false,eval e X.env)::starEach es X.env:=by rfl) (hplain:(backTo cpos (starEach es X.env)).any (·.1)=false:=by rfl):
 PE X (.Call (.Attribute o name apos) (e::es) [] cpos) (tBM X.K T r to t):=by
 intro pins s σ H Q I h;refine wpAny_Call_method_late hbase hfew hline rfl (thn (ho pins s σ H _ I h) λv s1 ⟨x,H1,I1,r1,ty,q1⟩=>?_);obtain⟨h1,h2⟩:=Rb I1 r1 ty;refine⟨T,id,pa,slot,hty,h1,h2,?_⟩;have hA:=ha cpos pins s1 σ H1 _ I1 q1;rw[hs]at hA ⊢;refine Calls.callWith_builtin (by show(false||(backTo cpos (starEach es X.env)).any (·.1))=false;rw[hplain]<;>rfl) (Calls.evalArgs_plain ?_);exact thn hA λus s2 ⟨vs,H2,I2,r2,q2⟩=>hm pins s2 σ H2 x vs v us Q I2 r1 r2 q2
end
def MtM(X:Cx)(id:String)(r:V->List V->Hp->VK->Prop):Prop:=
 ∀(pins:89) (s:96) (σ:St) (H:Hp) (x:V) (xs:List V) (v:Value) (us:79) (Q:VK),Inv X pins σ H s->RelV x v->Vals xs us->r x xs H Q ->
   wpAny 69 X.A (call (.builtin id) (v::us)) (EP X pins σ Q) X.xe s
def Vals.one{x:V}{us:79}(h:Vals [x] us):∃u,us=[u]/\RelV x u:=BU h
def Vals.zero:∀{us:79},Vals [] us->us=[]
 |_,.nil=>rfl
theorem Vals.dropLast{xs:List V}{us:79}(h:Vals xs us):Vals xs.dropLast us.dropLast:=by
 induction h with
 |nil=>exact .nil
 |cons r t ih=>
  cases t with
  |nil=>exact .nil
  |cons q t'=>exact .cons r ih
theorem Vals.eraseIdx{xs:List V}{us:79}(i:Nat)(h:Vals xs us):Vals (xs.eraseIdx i) (us.eraseIdx i):=by
 induction h generalizing i with
 |nil=>exact .nil
 |cons r t ih=>cases i with
  |zero=>exact t
  |succ i=>exact .cons r (ih i)
theorem Vals.rep{xs:List V}{us:79}(h:Vals xs us):∀k:Nat,Vals (List.replicate k xs).flatten (List.replicate k us).flatten
 |0=>.nil
 |k+1=>by
  rw[j5,j5,flatten_cons,flatten_cons];exact Vals.append h (Vals.rep h k)
def Qn{α:Type}(l:List α):l.eraseIdx (l.length-1)=l.dropLast:=by
 induction l with
 |nil=>rfl
 |cons a r ih=>
  cases r with
  |nil=>rfl
  |cons b r=>
   have e:(a::b::r).length-1=((b::r).length-1)+1:=by
    have h1:(a::b::r).length=r.length+2:=rfl;have h2:(b::r).length=r.length+1:=rfl;omega
   rw[e,List.eraseIdx_cons_succ,ih]
   all_goals rfl
theorem LV{α:Type}:∀(l:List α) (i:Nat),(l.eraseIdx i).length<=l.length
 |[],_=>gk _
 |_::_,0=>iN _
 |_::r,i+1=>Nat.succ_le_succ (LV r i)
theorem Lf(its:79):∀(k:Nat) (acc:79),
 List.foldl (λx1 x2=>x1++x2) acc.toArray (List.replicate k 120)=(acc++(List.replicate k its).flatten).toArray
 |0,acc=>by simp
 |k+1,acc=>by
  have e:acc.toArray++120=(acc++its).toArray:=by simp
  have e2:(acc++its)++(List.replicate k its).flatten=acc++(List.replicate (k+1) its).flatten:=by
   rw[j5,flatten_cons,iE]
  rw[<- e2,<- Lf its k (acc++its),<- e,j5,List.foldl_cons]
section
variable{X:Cx}{pins:89}{σ:St}{H:Hp}{s:96}{l b:Addr}{xs ys zs:List V}
def Inv.lset{its its':79}{n:Nat}{f:Array Value->Array Value}{t':Nat}(I:73)(hH:H l=some (.lst xs))
 (e:s.heap.get? l=some { cls:=.type "list",data:=.seq 120 n }) (hf:f 120=its'.toArray) (hv:Vals ys its') (hz:ys.length<=sizeLine):
 Inv X pins σ (upd H l (.lst ys)) { s with heap:=s.heap.update l (Obj.mapSeq f),toks:=t' }:=by
 have q:=PySem.IsL.update e f;rw[hf]at q;refine I.write (x:=l) (e:=l) (by rw[hH];exact trivial) (.inl rfl) (λb' u hb hu=>(Heap.get?_update_other s.heap (Obj.mapSeq f) (Ne.symm hb)).trans hu) ⟨_,q⟩ ?_;exact⟨hz,its',_,hv,q⟩
def Inv.lnew{its:79}{t':Nat}(I:73)(hv:Vals ys its)(hz:ys.length<=sizeLine):
 Inv X pins σ (upd H 59 (.lst ys)) { s with heap:=s.heap.push { cls:=.type "list",data:=.seq its.toArray },toks:=t' }:=
 I.laid (λ_ _ q=>70 _ q) (gk _) ⟨hz,its,0,hv,87 _ rfl⟩
theorem Inv.fresh(I:73):H 59=none:=I.hok.fresh (gk _)
def Inv.lstM(I:73)(hH:H l=some (.lst xs)):88<=sizeLine/\∃(its:79) (n:Nat),Vals xs its/\88=its.length/\s.heap.get? l=some { cls:=.type "list",data:=.seq 120 n }:=by
 obtain⟨z,its,n,r,e⟩:=I.hok l _ hH;exact⟨z,its,n,r,r.length,e⟩
def J7{n:Nat}(h:n<=sizeLine):Builtin.List.listTooLong n=false:=by
 unfold Builtin.List.listTooLong;exact iA 66
end
section
variable{X:Cx}
def Oh:V->List V->Hp->VK->Prop:=λx vs H Q=>∃l xs y,x=.ref l/\vs=[y]/\H l=some (.lst xs)/\88<sizeLine/\Q .non (upd H l (.lst (xs++[y])))
def LR:MtM X "list.append" Oh:=by
 intro pins s σ H x vs v us Q I rx rv h;obtain⟨l,xs,y,rfl,rfl,hH,hz,q⟩:=h;cases rx;obtain⟨u,rfl,ru⟩:=rv.one;obtain⟨z,its,n,r,hl,e⟩:=I.lstM hH;refine jd F.slot_list_append ⟨_,e,rfl⟩ F.entry_list_append (F.args_list_append_2 _ _) (PySem.list_append l 120 n u (by rw[gu];omega)) ⟨e,?_⟩;refine⟨.non,_,I.lset (its':=its++[u]) hH e 71 (r.append (.cons ru .nil)) ?_,rfl,q⟩;rw[i9,List.length_singleton];omega
def XZ:V->List V->Hp->VK->Prop:=λx vs H Q=>∃l b xs zs,x=.ref l/\vs=[.ref b]/\H l=some (.lst xs)/\H b=some (.lst zs)/\88+zs.length<=sizeLine/\Q .non (upd H l (.lst (xs++zs)))
def eN:MtM X "list.extend" XZ:=by
 intro pins s σ H x vs v us Q I rx rv h;obtain⟨l,b,xs,zs,rfl,rfl,hH,hB,hz,q⟩:=h;cases rx;obtain⟨u,rfl,ru⟩:=rv.one;cases ru;obtain⟨z,its,n,r,hl,e⟩:=I.lstM hH;obtain⟨z2,its2,n2,r2,hl2,e2⟩:=I.lstM hB;have hsz:its.toArray.size+its2.toArray.size<=sizeLine:=by rw[gu,gu];omega
 have hlong:¬ (!its.toArray.isEmpty&&Builtin.List.listTooLong (its.toArray.size+its2.toArray.size))=true:=by
  rw[J7 hsz,Bool.and_false];exact 106
 refine jd F.slot_list_extend ⟨_,e,rfl⟩ F.entry_list_extend (F.args_list_extend_2 _ _)
  (AutoSeq1.list_extend_list_list_0 l 120 n b its2.toArray n2 hlong (by rw[gu];omega) 66) ⟨e,e2,?_⟩
 refine⟨.non,_,I.lset (its':=its++its2) hH e 71 (r.append r2) ?_,rfl,q⟩;rw[i9];omega
def aB:V->List V->Hp->VK->Prop:=λx vs H Q=>∃l xs y,x=.ref l/\vs=[]/\H l=some (.lst xs)/\xs[88-1]?=some y/\Q y (upd H l (.lst xs.dropLast))
def bh:MtM X "list.pop" aB:=by
 intro pins s σ H x vs v us Q I rx rv h;obtain⟨l,xs,y,rfl,rfl,hH,hy,q⟩:=h;cases rx;have hus:=rv.zero;subst hus;obtain⟨z,its,n,r,hl,e⟩:=I.lstM hH;obtain⟨u,hu,ru⟩:=r.get hy;have hy':120[its.toArray.size-1]?=some u:=by
  show 120[its.length-1]?=some u;rw[<- Array.getElem?_toList,<- hl];exact hu
 refine jd F.slot_list_pop ⟨_,e,rfl⟩ F.entry_list_pop (F.args_list_pop_1 _) (MeetsSeq.list_pop_last l 120 n u hy' (by rw[gu];omega)) ⟨e,?_⟩;refine⟨y,_,I.lset (its':=its.dropLast) hH e ?_ r.dropLast ?_,ru,q⟩
 .show its.toArray.eraseIdxIfInBounds (its.toArray.size-1)=its.dropLast.toArray;rw[gu,List.eraseIdxIfInBounds_toArray,Qn]
 .rw[List.length_dropLast];omega
def SH:V->List V->Hp->VK->Prop:=λx vs H Q=>∃l xs i k y,x=.ref l/\vs=[.int i]/\H l=some (.lst xs)/\-(2^63)<=i/\i<2^63/\seqIndex? i 88=some k/\xs[k]?=some y/\Q y (upd H l (.lst (xs.eraseIdx k)))
def VF:MtM X "list.pop" SH:=by
 intro pins s σ H x vs v us Q I rx rv h;obtain⟨l,xs,i,k,y,rfl,rfl,hH,h1,h2,hk,hy,q⟩:=h;cases rx;obtain⟨u,rfl,ru⟩:=rv.one;obtain⟨t,rfl⟩:=ru;obtain⟨z,its,n,r,hl,e⟩:=I.lstM hH;obtain⟨w,hw,rw'⟩:=r.get hy;refine jd F.slot_list_pop ⟨_,e,rfl⟩ F.entry_list_pop (F.args_list_pop_2 _ _)
  (MeetsSeq.list_pop_at l 120 n i t k w (fitsIndex_both h1 h2) (by rw[gu,<- hl];exact hk) (by rw[<- Array.getElem?_toList];exact hw) (by rw[gu];omega)) ⟨e,?_⟩
 refine⟨y,_,I.lset (its':=its.eraseIdx k) hH e ?_ (r.eraseIdx k) ?_,rw',q⟩
 .show its.toArray.eraseIdxIfInBounds k=(its.eraseIdx k).toArray;rw[List.eraseIdxIfInBounds_toArray]
 .have:=LV xs k;omega
noncomputable def Ub:R2:=λx y H Q=>∃l b xs zs,x=.ref l/\y=.ref b/\H l=some (.lst xs)/\H b=some (.lst zs)/\88+zs.length<=sizeLine/\∀p,H p=none->Q (.ref p) (upd H p (.lst (xs++zs)))
def bY:OpR X (binaryOp .Add) Ub:=by
 intro pins s σ H x y v u Q I rx ry h;obtain⟨l,b,xs,zs,rfl,rfl,hH,hB,hz,q⟩:=h;cases rx;cases ry;obtain⟨z,its,n,r,hl,e⟩:=I.lstM hH;obtain⟨z2,its2,n2,r2,hl2,e2⟩:=I.lstM hB;refine PySem.P.add_list e e2 ?_ (by rw[gu,gu];omega);have ea:120++its2.toArray=(its++its2).toArray:=by simp
 rw[ea];exact⟨.ref _,_,I.lnew (t':=s.toks) (r.append r2) (by rw[i9];omega),rfl,q _ I.fresh⟩
noncomputable def UX:R2:=λx y H Q=>∃l k xs,x=.ref l/\y=.int k/\H l=some (.lst xs)/\-(2^63)<=k/\k<2^63/\88*k.toNat<=sizeLine /\
 ∀p,H p=none->Q (.ref p) (upd H p (.lst (List.replicate k.toNat xs).flatten))
def Yh{α:Type}(xs:List α)(k:Nat):(List.replicate k xs).flatten.length=k*xs.length:=by
 induction k with
 |zero=>simp
 |succ k ih=>rw[j5,flatten_cons,i9,ih,Nat.succ_mul,Nat.add_comm]
def bR:OpR X (binaryOp .Mult) UX:=by
 intro pins s σ H x y v u Q I rx ry h;obtain⟨l,k,xs,rfl,rfl,hH,h1,h2,hz,q⟩:=h;cases rx;obtain⟨t,rfl⟩:=ry;obtain⟨z,its,n,r,hl,e⟩:=I.lstM hH;have hlen:its.toArray.size*k.toNat<=sizeLine:=by rw[gu,<- hl];exact hz
 have hcap:¬ its.toArray.size*k.toNat>(2^63-1)/8:=by
  have:(sizeLine:Nat)<=(2^63-1)/8:=by decide
  omega
 have hfit:¬ (!Builtin.List.listFitsIndex k)=true:=by
  rw[fitsIndex_both h1 h2];exact 106
 have hlong:¬ Builtin.List.listTooLong (its.toArray.size*k.toNat)=true:=by
  rw[J7 hlen];exact 106
 have hnew:List.foldl (λx1 x2=>x1++x2) #[] (List.replicate (if its.toArray.isEmpty=true then 0 else k.toNat) 120)=(List.replicate k.toNat its).flatten.toArray:=by
  have f0:∀m:Nat,List.foldl (λx1 x2=>x1++x2) #[] (List.replicate m 120)=(List.replicate m its).flatten.toArray:=λm=>by
   have:=Lf its m [];rw[iL]at this;exact this
  rw[f0];cases its with
  |nil=>simp
  |cons a r'=>rw[gh 71]
 refine wpAny_binaryOp_repeat_ref (T:="list") (U:="int") 97 ⟨_,e,rfl⟩ (λs'=>iK s' k t) noFill_list_mul F.fills_int_mul F.slot_int_rmul repeat_list F.slot_int_index.lookup
  (jd F.slot_int_rmul (iK s k t) F.entry_int_rmul (F.args_int_rmul_2 _ _) (int___rmul___int_list k t l 120 n)
   ⟨e,rfl,⟨_,e,rfl⟩,jd F.slot_list_mul ⟨_,e,rfl⟩ F.entry_list_mul (F.args_list_mul_2 _ _) (AutoListH.list___mul___list_int_3 l 120 n k t hfit hcap hlong) ⟨e,?_⟩⟩)
 rw[hnew];exact⟨.ref _,_,I.lnew (t':=s.toks) (r.rep k.toNat) (by rw[Yh,Nat.mul_comm];exact hz),rfl,q _ I.fresh⟩
end
end L2
namespace Att
open PySem PySem.W PySem.Calls PyProof.Rows
def K1{P:Params}{h:Heap}:∀(ns:92) (vs:79),WellAll P h vs (ns.map WData.int)->IntsAre vs ns:=by
 intro ns
 induction ns with
 |nil=>
  intro vs w;rw[ie]at w;cases w;exact .nil
 |cons n ns ih=>
  intro vs w;rw[gv]at w;cases w with
  |cons a b=>
   cases a;exact .cons _ _ (ih _ b)
def Rm{l:OpenLaw}{n:Nat}(hn:l.most=some n){P:Params}{h:Heap}{args:List WData}{vals:79}
 (hpre:l.row.toRowW.claim.pre args=true) (hwl:WellAll P h vals args):
 ∃a vs ns,vals=[Value.ref a]/\args=[WData.list (ns.map WData.int)]/\h.get? a=some { cls:=.type "list",data:=.seq 78 }/\IntsAre vs ns/\ns.length<=n:=by
 have hsh:WShape.hasAll [] args [.list .int]=true:=(pre_splitW hpre).1;have hc:l.pre.holds [] { args:=args }=true:=(pre_splitW hpre).2;obtain⟨d,r,rfl,h1,h2⟩:=hasAllW_cons hsh;obtain rfl:=hasAllW_nil h2;obtain⟨xs,rfl,h3⟩:=hasW_list h1;obtain⟨ns,rfl⟩:=items_int h3;have hlen:ns.length<=n:=by
  unfold OpenLaw.pre at hc;have h4:(WTm.not (.lt (.lit (.int (n:Int))) (.len (.arg 0)))).holds [] { args:=[.list (ns.map .int)] }=true:=by
   have h4:=(holds_andW hc).1;rw[hn]at h4;exact h4
  have h5:=condW_of h4 (w_not (w_lt w_lit (w_len_list (w_arg rfl))));rw[gZ]at h5;refine Nat.le_of_not_lt λq=>?_;have q':(n:Int)<((ns.length:Nat):Int):=by omega
  first
   |(rw[iC q']at h5;exact absurd h5 97)
   |(simp at h5;omega)
 cases hwl with
 |cons w1 w2=>
  cases w2;cases w1 with
  |list ho hall=>exact⟨_,_,ns,rfl,rfl,ho,K1 ns _ hall,hlen⟩
def SM(l:OpenLaw)(args:List WData):l.row.toRowW.claim.post args (.bool true) args=true:=
 postW_of (r:=l.row.toRowW) (X:=(true==true))
  (show WShape.has [] (.bool true) .bool=true by first|rfl|decide|simp[WShape.has,WShape.arms,WShape.armsAll])
  (show(WTm.eq .res (.lit (.bool true))).value [] { args:=args,res:=some (.bool true),after:=args }=some (.bool (true==true))from w_eq_bool (w_res rfl) w_lit) rfl
def attach_call{l:OpenLaw}{n:Nat}{q:Program}{loose:List Str}{XP:(Str->Option Value)->Heap->Prop}{YP:World->Heap->Prop}{d:DefRec}
 (hn:l.most=some n) (hdf:d.params.defaults=[])
 (call:∀(w:World) (s₀ s₁:96) (mg mb:Str->Option Value) (fa:Addr) (o:Obj) (pm cd doc:Value) (a:Addr) (vs:79) (ns:92),
  Ground q loose [] XP w s₀ mg mb s₁.heap->YP w s₁.heap ->
  s₁.heap.get? fa=some o->o.data=.func (docDef d.name d.params d.body d.scope pm cd doc)->s₁.heap.CodeRec cd d.name->mg d.name=some (.ref fa) ->
  s₁.heap.get? a=some { cls:=.type "list",data:=.seq 78 }->IntsAre vs ns->ns.length<=n->s₁.gens=#[] ->
  codeAny (model l.prog w) callerA (.call (.ref fa) ⟨[.ref a],[]⟩) (λr s'=>r=.ok (.ret (.bool true))/\OldK s₁.heap s'.heap/\s'.os=s₁.os/\AllBare s'.gens) s₁):
 WalkO q loose XP YP l.row.toRowW d [] (λf vs=>PySem.call f vs):=by
 intro w s₀ s₁ mg mb G Y fa o pm cd doc dV kV ho hd hcd hD hmg hg args vals as hpre hlay hrd hwl hlo;obtain rfl:dV=.none:=Dflts.none hD hdf;obtain rfl:kV=.none:=Dflts.noKw hD;obtain⟨a,vs,ns,rfl,rfl,hobj,hints,hlen⟩:=Rm hn hpre hwl;refine enter_call (ja (call w s₀ s₁ mg mb fa o pm cd doc a vs ns G Y ho (fd_plain hd) hcd hmg hobj hints hlen hg) λr s' hq=>?_);obtain⟨rfl,h2,h3,h4⟩:=hq;exact⟨.inl ⟨.bool true,.bool true,[],rfl,λ_=>rfl,.bool true,SM l _,λ_=>⟨List.Pairwise.nil,λ_ hm=>(nomatch hm)⟩⟩,h2,h3,h4⟩
end Att
namespace L2
open PySem PySem.Spec PyProof.Rows
theorem Gz:∀{vs:79} {ns:92},IntsAre vs ns->Vals (ns.map V.int) vs
 |_,_,.nil=>.nil
 |_,_,.cons n t h=>.cons ⟨t,rfl⟩ (Gz h)
noncomputable def Ca(s:Stmt):Arguments:=match s with
 |.FunctionDef _ a _ _ _ _ _ _ _ _=>a
 |_=>{ posonlyargs:=[],args:=[],vararg:=none,kwonlyargs:=[],kw_defaults:=[],kwarg:=none,defaults:=[] }
noncomputable def BY(s:Stmt):List Stmt:=match s with
 |.FunctionDef _ _ b _ _ _ _ _ _ _=>b
 |_=>[]
noncomputable def AC(s:Stmt):Scope:=match s with
 |.FunctionDef _ _ _ _ _ _ sc _ _ _=>sc
 |_=>{ kind:=.function,names:=[],isGenerator:=false,isCoroutine:=false }
noncomputable abbrev CX0:CXT:=λ_ _ _ _ _ _=>False
noncomputable abbrev E0:XK:=λ_ _ _=>False
def de{X:Cx}:OA CX0 X E0:=λ_ _ _ _ _ _ _ h=>h.elim
structure Fun(K:Frag)(x qual:Str)(st:Stmt)(f:Addr)(fd:FuncData):Prop where
 ex:∃(oc:Value) (od:Option Addr) (kV doc pm:Value) (an:Option Addr) (cdv ct:Value) (osl:Array (Option Value)),
  fd=fnOf x qual (Ca st) (BY st) (AC st) .none kV doc pm an cdv ct/\K.lookup f=some ⟨oc,od,.func fd,osl⟩/\codeIn K cdv qual=true
 kp:keepIn K (.ref f)=true
section
variable{P:Program}{w:World}{K:Frag}{mg:Str->Option Value}{base:Heap}
def Fun.ok{x qual:Str}{st:Stmt}{f:Addr}{fd:FuncData}{N ps:List Str}{k:Nat}{sp:Sp}(F:Fun K x qual st f fd)(S:FnScope N ps (AC st))(len:∀vs H Q E,sp vs H Q E->116=ps.length)
 (hbody:∀(cdv:Value) (A:Around) (outer:List Env) (s:96) (H:Hp) (vs:List V) (Q:VK) (E:XK),Room k (A.deeper (envOfC qual (AC st) 59 f cdv))->sp vs H Q E ->
  ∃t,PSs (Fi CX0 P w K mg base N qual (AC st) f cdv A outer s H E).nox (BY st) t/\t { nx:=λ_ H'=>Q .non H',rt:=Q } (start N vs) H):FnOk P w K mg base CX0 (k+1) f fd ps sp:=by
 obtain⟨oc,od,kV,doc,pm,an,cdv,ct,osl,rfl,lk,hcd⟩:=F.ex;refine WN lk hcd S len λA outer s H vs Q E hr hsp=>?_;obtain⟨t,h,q⟩:=hbody cdv A outer s H vs Q E hr hsp;exact⟨t,h.nox,q⟩
def Fun.binds{x qual:Str}{st:Stmt}{f:Addr}{fd:FuncData}{ps:List Str}(F:Fun K x qual st f fd)
 (h:∀(kV doc pm:Value) (an:Option Addr) (cdv ct:Value) (us:79),us.length=ps.length->bindArgs (fnOf x qual (Ca st) (BY st) (AC st) .none kV doc pm an cdv ct) ⟨us,[]⟩=pure (ps.zip us)):Binds K fd ps []:=by
 obtain⟨oc,od,kV,doc,pm,an,cdv,ct,osl,rfl,lk,hcd⟩:=F.ex;exact .all (h kV doc pm an cdv ct)
def cI{x qual:Str}{st:Stmt}{f:Addr}{oc:Value}{od an:Option Addr}{osl:Array (Option Value)}{kV doc pm cdv ct:Value}(l:K.lookup f=some ⟨oc,od,.func (fnOf x qual (Ca st) (BY st) (AC st) .none kV doc pm an cdv ct),osl⟩)
 (c:codeIn K cdv qual=true) (k:keepIn K (.ref f)=true):Fun K x qual st f (fnOf x qual (Ca st) (BY st) (AC st) .none kV doc pm an cdv ct):=⟨⟨oc,od,kV,doc,pm,an,cdv,ct,osl,rfl,l,c⟩,k⟩
end
def ML{A:Around}{k:Nat}(hr:Room k A):A.units+1<cLine:=Nat.lt_of_le_of_lt (Nat.add_le_add_left (by decide:1<=64) _) hr.units
def HB{n:Nat}(h:n<=1000):n<sizeLine:=Nat.lt_of_le_of_lt h 97
section
variable{κ:Type}[DecidableEq κ]
noncomputable def E2(kvs:List (κ×V))(k:κ):Option V:=(kvs.find? λkv=>decide (kv.1=k)).map (·.2)
noncomputable def Cp(kvs:List (κ×V))(k:κ)(v:V):List (κ×V):=
 if(kvs.any λkv=>decide (kv.1=k))=true then kvs.map (λkv=>if kv.1=k then(kv.1,v)else kv)else kvs++[(k,v)]
def Ey{p:κ×V}{k:κ}(e:p.1=k):E2 (p::r) k=some p.2:=by simp[E2,iF,e]
def Ez{p:κ×V}{k:κ}(e:¬ p.1=k):E2 (p::r) k=E2 r k:=by simp[E2,iF,e]
theorem MY(k:κ):∀kvs:List (κ×V),(kvs.any λkv=>decide (kv.1=k))=(E2 kvs k).isSome
 |[]=>rfl
 |p::r=>by
  rw[iO];by_cases e:p.1=k
  .simp only[Ey e,iC e,Bool.true_or,Option.isSome_some]
  .rw[Ez e,iA e,Bool.false_or];exact MY k r
def Fa(kvs:List (κ×V))(k:κ)(v:V):(Cp kvs k v).length<=kvs.length+1:=by
 unfold Cp;split
 .rw[gZ];omega
 .rw[i9,i7,iB];omega
def RelO.isSome_eq(r:RelO o u):o.isSome=u.isSome:=by
 cases o with
 |none=>cases u with
  |none=>rfl
  |some _=>exact(show False from r).elim
 |some _=>cases u with
  |none=>exact(show False from r).elim
  |some _=>rfl
def KV.val(r:KV kvs vs)(k:κ):RelO (E2 kvs k) (valueAt vs k):=by
 unfold KV at r
 induction r with
 |nil=>exact True.intro
 |@cons p q ps qs h t ih=>
  obtain⟨h1,h2⟩:=h;by_cases e:p.1=k
  .have e':q.1=k:=h1.symm.trans e;have b:valueAt (q::qs) k=some q.2:=by simp[valueAt,iF,e']
   rw[Ey e,b];exact h2
  .have e':¬ q.1=k:=λz=>e (h1.trans z);have b:valueAt (q::qs) k=valueAt qs k:=by simp[valueAt,iF,e']
   rw[Ez e,b];exact ih
theorem KV.any(r:KV kvs vs)(k:κ):(kvs.any λkv=>decide (kv.1=k))=vs.any λkv=>decide (kv.1=k):=by
 unfold KV at r
 induction r with
 |nil=>rfl
 |cons h t ih=>rw[iO,iO,ih,h.1]
def KV.repl(r:KV kvs vs)(k:κ)(ry:RelV y u):
 KV (kvs.map λkv=>if kv.1=k then(kv.1,y)else kv) (vs.map λkv=>if kv.1=k then(kv.1,u)else kv):=by
 unfold KV at r ⊢
 induction r with
 |nil=>exact .nil
 |@cons p q ps qs h t ih=>
  rw[gv,gv];refine .cons ?_ ih;obtain⟨h1,h2⟩:=h;by_cases e:p.1=k
  .rw[gb e,gb (h1.symm.trans e)];exact⟨h1,ry⟩
  .rw[gh e,gh (λz=>e (h1.trans z))];exact⟨h1,h2⟩
def KV.put(r:KV kvs vs)(k:κ)(ry:RelV y u):KV (Cp kvs k y) (stored vs k u):=by
 unfold Cp stored;rw[r.any k];by_cases e:(vs.any λkv=>decide (kv.1=k))=true
 .rw[gb e,gb e];exact r.repl k ry
 .rw[gh e,gh e];exact Paired.snoc r ⟨rfl,ry⟩
theorem KV.length(r:KV kvs vs):kvs.length=vs.length:=Paired.length r
end
def IF(r:RelV (kV k) u):(Bf P w).is k u=true:=by
 cases k with
 |inl i=>obtain⟨t,e⟩:=(show ∃t,u=Value.int i t from r);subst e;exact OI P w i t
 |inr x=>obtain⟨t,e⟩:=(show ∃t,u=Value.str x t from r);subst e;exact OH P w x t
theorem La:∀{ks:List Key} {us:79},Vals (ks.map kV) us->ItemsAre (Bf P w) ks us
 |[],_,r=>by rw[ie]at r;cases r;exact .nil
 |k::ks,_,r=>by
  rw[gv]at r;cases r with
  |cons h t=>exact .cons (IF h) (La t)
abbrev KT(H:Hp):List (List Key×V)->List (List Key×Addr×Value)->Prop:=Paired λp q=>p.1=q.1/\H q.2.1=some (.tup (p.1.map kV))/\RelV p.2 q.2.2
def KT.val(r:KT H kvs xs)(k:List Key):RelO (E2 kvs k) ((atKey xs k).map (·.2)):=by
 induction r with
 |nil=>exact True.intro
 |@cons p q ps qs h t ih=>
  obtain⟨h1,_,h2⟩:=h;by_cases e:p.1=k
  .have e':q.1=k:=h1.symm.trans e;have b:atKey (q::qs) k=some q.2:=by simp[atKey,iF,e']
   rw[Ey e,b];exact h2
  .have e':¬ q.1=k:=λz=>e (h1.trans z);have b:atKey (q::qs) k=atKey qs k:=by simp[atKey,iF,e']
   rw[Ez e,b];exact ih
def KT.repl(r:KT H kvs xs)(k:List Key)(ry:RelV y u):
 KT H (kvs.map λkv=>if kv.1=k then(kv.1,y)else kv) (xs.map (putAt k u)):=by
 induction r with
 |nil=>exact .nil
 |@cons p q ps qs h t ih=>
  rw[gv,gv];refine .cons ?_ ih;obtain⟨h1,h2,h3⟩:=h;unfold putAt;by_cases e:p.1=k
  .rw[gb e,gb (h1.symm.trans e)];exact⟨h1,h2,ry⟩
  .rw[gh e,gh (λz=>e (h1.trans z))];exact⟨h1,h2,h3⟩
def KT.put(r:KT H kvs xs)(k:List Key)(hb:H b=some (.tup (k.map kV)))(ry:RelV y u):
 KT H (Cp kvs k y) (storedH xs k b u):=by
 have e:(kvs.any λkv=>decide (kv.1=k))=(atKey xs k).isSome:=by
  rw[MY,(r.val k).isSome_eq,isSome_map]
 unfold Cp storedH;rw[e];by_cases q:(atKey xs k).isSome=true
 .rw[gb q,gb q];exact r.repl k ry
 .rw[gh q,gh q];exact Paired.snoc r ⟨rfl,hb,ry⟩
def KT.keeps(r:KT H kvs xs)(ht:∀b ys,H b=some (.tup ys)->H' b=some (.tup ys)):KT H' kvs xs:=
 Paired.mapP r λ_ _ z=>⟨z.1,ht _ _ z.2.1,z.2.2⟩
section
def W1(ok:HOk P w H h)(e:Rd H a u):ObjOk P w H h a u:=e.ok ok
def K9(ok:HOk P w H h)(e:Rd H a (.dK kvs)):kvs.length<=sizeLine/\(a==sysModules)=false/\∃vs,KV kvs vs/\h.DictOf (Bf P w) a vs:=
 show ObjOk P w H h a (.dK kvs)from W1 ok e
def WU(ok:HOk P w H h)(e:H a=some (.dK kvs)):kvs.length<=sizeLine/\(a==sysModules)=false/\∃vs,KV kvs vs/\h.DictOf (Bf P w) a vs:=K9 ok (.inl e)
def HW{ks:List Key}(ok:HOk P w H h)(e:H a=some (.tup (ks.map kV))):(tupleKind (Bf P w)).is h ks a:=by
 obtain⟨_,its,r,o,h1,h2,⟨n,h3⟩,_⟩:=(show ObjOk P w H h a (.tup (ks.map kV))from ok a _ e)
 exact⟨o,120,n,h1,h2,h3,by simpa using La r⟩
def K7(ok:HOk P w H h)(e:Rd H a (.dT kvs)):kvs.length<=sizeLine/\(a==sysModules)=false /\
 ∃xs,KT H kvs xs/\h.DictOfH (tupleKind (Bf P w)) a xs:=by
 obtain⟨z,y,xs,r,o,es,ep,h1,h2,h3,h4,h5⟩:=(show ObjOk P w H h a (.dT kvs)from W1 ok e)
 refine⟨z,y,xs,r,o,es,ep,h1,h2,h3,h4,λx hx=>?_,h5⟩;have all:∀{l:List (List Key×V)} {m:List (List Key×Addr×Value)},KT H l m->∀x∈m,(tupleKind (Bf P w)).is h x.1 x.2.1:=by
  intro l m q
  induction q with
  |nil=>intro x hx;exact nomatch hx
  |@cons p q ps qs hq t ih=>
   intro x hx;rcases mem_cons.mp hx with e|hx
   .subst e;exact HW ok (by rw[<- hq.1];exact hq.2.1)
   .exact ih x hx
 exact all r x hx
def eC(ok:HOk P w H h)(e:H a=some (.dT kvs)):kvs.length<=sizeLine/\(a==sysModules)=false /\
 ∃xs,KT H kvs xs/\h.DictOfH (tupleKind (Bf P w)) a xs:=K7 ok (.inl e)
end
def DGet(H:Hp)(a:Addr)(y:V)(r:Option V):Prop:=
 (∃kvs k,Rd H a (.dK kvs)/\y=kV k/\r=E2 kvs k)∨∃kvs k b,Rd H a (.dT kvs)/\y=.ref b/\H b=some (.tup (k.map kV))/\r=E2 kvs k
def DPut(H:Hp)(a:Addr)(y v:V)(H':Hp):Prop:=
 (∃kvs k,H a=some (.dK kvs)/\y=kV k/\kvs.length<sizeLine/\H'=upd H a (.dK (Cp kvs k v))) ∨
 ∃kvs k b,H a=some (.dT kvs)/\y=.ref b/\H b=some (.tup (k.map kV))/\kvs.length<sizeLine/\H'=upd H a (.dT (Cp kvs k v))
theorem DGet.k{H:Hp}{a:Addr}{kvs:List (Key×V)}{k:Key}(e:H a=some (.dK kvs)):DGet H a (kV k) (E2 kvs k):=.inl ⟨kvs,k,.inl e,rfl,rfl⟩
theorem DPut.k{H:Hp}{a:Addr}{kvs:List (Key×V)}{k:Key}{v:V}(e:H a=some (.dK kvs))(hl:kvs.length<sizeLine):DPut H a (kV k) v (upd H a (.dK (Cp kvs k v))):=.inl ⟨kvs,k,e,rfl,hl,rfl⟩
section
variable{A:Around}{E:76}
def Inv.big(I:73):sysModules<s.heap.objs.size:=by
 have h:mainGlobals<s.heap.objs.size:=(I.mod.glob.keeps I.bk).lt;exact lt_trans 97 h
def T8{Q:76}(hu:A.units+1<cLine)(I:73)(g:DGet H a y (some v))(ry:RelV y u)(h:∀w' s',Inv X pins σ H s'->RelV v w'->Q w' s'):
 wpAny 69 A (getItem (.ref a) u) Q E s:=by
 rcases g with⟨kvs,k,e,ey,l⟩|⟨kvs,k,b,e,ey,eb,l⟩
 .subst ey;obtain⟨z,hd,vs,rel,dd⟩:=K9 I.hok e;obtain⟨w',hw,rw'⟩:=RelO.some_of (v:=v) (o:=valueAt vs k) (by rw[l];exact rel.val k);exact wpAny_getItem_of (IF ry) dd.mapOf hw (h w' _ (I.tok _) rw')
 .subst ey;cases(show u=Value.ref b from ry);obtain⟨z,hd,xs,rel,dd⟩:=K7 I.hok e;obtain⟨w',hw,rw'⟩:=RelO.some_of (v:=v) (o:=(atKey xs k).map (·.2)) (by rw[l];exact rel.val k);obtain⟨p,hp,hp2⟩:=gX hw;refine wpAny_getItem_heap (jm hu) (HW I.hok eb) dd hp ?_;rw[hp2];exact h w' _ (I.tok _) rw'
def fG{Q:76}(hu:A.units+1<cLine)(I:73)(g:DGet H a y o)(ry:RelV y u)(h:∀s',Inv X pins σ H s'->Q (.bool o.isSome) s'):
 wpAny 69 A (compareOp .In u (.ref a)) Q E s:=by
 rcases g with⟨kvs,k,e,ey,l⟩|⟨kvs,k,b,e,ey,eb,l⟩
 .subst ey;obtain⟨z,hd,vs,rel,dd⟩:=K9 I.hok e;refine wpAny_in_of (IF ry) hd dd.mapOf ?_;rw[<- (rel.val k).isSome_eq,<- l];exact h _ (I.tok _)
 .subst ey;cases(show u=Value.ref b from ry);obtain⟨z,hd,xs,rel,dd⟩:=K7 I.hok e;refine wpAny_in_heap (jm hu) (HW I.hok eb) hd dd ?_;have q:=(rel.val k).isSome_eq;rw[isSome_map]at q;rw[<- q,<- l];exact h _ (I.tok _)
def Z2{Q:76}(hu:A.units+1<cLine)(I:73)(g:DGet H a y o)(ry:RelV y u)(h:∀s',Inv X pins σ H s'->Q (.bool (!o.isSome)) s'):
 wpAny 69 A (compareOp .NotIn u (.ref a)) Q E s:=by
 rcases g with⟨kvs,k,e,ey,l⟩|⟨kvs,k,b,e,ey,eb,l⟩
 .subst ey;obtain⟨z,hd,vs,rel,dd⟩:=K9 I.hok e;refine wpAny_notIn_of (IF ry) hd dd.mapOf ?_;rw[<- (rel.val k).isSome_eq,<- l];exact h _ (I.tok _)
 .subst ey;cases(show u=Value.ref b from ry);obtain⟨z,hd,xs,rel,dd⟩:=K7 I.hok e;refine wpAny_notIn_heap (jm hu) (HW I.hok eb) hd dd ?_;have q:=(rel.val k).isSome_eq;rw[isSome_map]at q;rw[<- q,<- l];exact h _ (I.tok _)
def L7{t':Nat}(I:73)(mu:Mut (H a))(hs:Heap.SameBut a s.heap h')(he:∃q,h'.get? a=some q)(new:ObjOk X.prog X.w (upd H a ob) h' a ob):
 Inv X pins σ (upd H a ob) { s with heap:=h',toks:=t' }:=
 I.write (x:=a) (e:=a) mu (.inl rfl) (λb q hb z=>(hs.2 b hb).trans z) he new
def T4{h':Heap}{kvs:List (Key×V)}(z:kvs.length<=sizeLine)(hd:(a==sysModules)=false)(rel:KV kvs vs)(dd:h'.DictOf (Bf P w) a vs):
 ObjOk P w H' h' a (.dK kvs):=⟨z,hd,vs,rel,dd⟩
def T7{Q:Unit->Shared->Prop}(hu:A.units+1<cLine)(I:73)(g:DPut H a y v H')(ry:RelV y u)(rv:RelV v r)(h:∀s',Inv X pins σ H' s'->Q () s'):
 wpAny 69 A (setItem (.ref a) u r) Q E s:=by
 rcases g with⟨kvs,k,e,ey,l,eH⟩|⟨kvs,k,b,e,ey,eb,l,eH⟩
 .subst ey eH;obtain⟨z,hd,vs,rel,dd⟩:=WU I.hok e;have hz:116<=sizeLine:=by rw[<- rel.length];exact z
  have hl:(Cp kvs k v).length<=sizeLine:=by have:=Fa kvs k v;omega
  refine wpAny_setItem_pairs (hsz:=hz) (IF ry) dd λh' dd' hs=>h _ ?_;have he:∃q,h'.get? a=some q:=let ⟨q,_,_,hq,_⟩:=dd';⟨q,hq⟩
  exact L7 I (by rw[e];exact True.intro) hs he (T4 hl hd (rel.put k rv) dd')
 .subst ey eH;cases(show u=Value.ref b from ry);obtain⟨z,hd,xs,rel,dd⟩:=eC I.hok e;have hz:88<=sizeLine:=by rw[<- Paired.length rel];exact z
  have hl:(Cp kvs k v).length<=sizeLine:=by have:=Fa kvs k v;omega
  refine wpAny_setItem_heap (hsz:=hz) (jm hu) (HW I.hok eb) dd λh' dd' hs=>h _ ?_;obtain⟨q,es,ep,hq,h2,h3,h4,_,h5⟩:=dd';refine L7 I (by rw[e];exact True.intro) hs ⟨q,hq⟩ ⟨hl,hd,_,(rel.put k eb rv).keeps λc ys ec=>?_,q,es,ep,hq,h2,h3,h4,h5⟩;rw[upd_ne (dh ec e (λz=>nomatch z))];exact ec
end
def Vq(i:Expr):Prop:=∀ov iv,subscripted i false ov iv=operate [ov,iv] (getItem ov iv)
def Wq{E:76}{T id:String}{Q:76}
 (hl:typeLookup (.type T) "__getitem__"=pure (some (.builtin id))) (hs:Vq slice)
 (h:wpAny 107 A (eval value env) (λo s₁=>wpAny 107 A (eval slice env) (λi s₂=>s₂.TypeIs o T/\wpAny 107 A (getItem o i) Q E s₂) E s₁) E s):
 wpAny 107 A (eval (.Subscript value slice pos) env) Q E s:=by
 refine Subscript_ (i3 h (λo s₁ h₁=>i3 h₁ (λi s₂ h₂=>?_) λ_ _ x=>x) λ_ _ x=>x);obtain⟨hT,h₂⟩:=h₂;unfold subscriptTail;refine gj ?_;rw[getitemInPython_of_ne hT.not_modules];refine gj (wpAny_specialOf hT hl ?_);have fin:wpAny 107 A (subscripted slice false o i) (λr s₃=>wpAny 107 A (letTemporaryGo value o r >>= λ_=>pure r) Q E s₃) E s₂:=by
  rw[hs o i];exact wpAny_operating (i3 h₂ (λr s₃ h₃=>gj (wpAny_letTemporaryGo (gn h₃))) λ_ _ x=>x)
 first
  |exact gn (gj fin)
  |exact gj (gn (gj fin))
  |exact gj fin
def OO(I:73)(g:DGet H a y o):s.TypeIs (.ref a) "dict":=by
 rcases g with⟨kvs,k,e,_,_⟩|⟨kvs,k,b,e,_,_,_⟩
 .obtain⟨_,_,vs,_,dd⟩:=K9 I.hok e;exact dd.typeIs
 .obtain⟨_,_,xs,_,dd⟩:=K7 I.hok e;exact dd.typeIs
noncomputable def Pf(td ty:TE):TE:=λσ H Q=>td σ H λx H1=>ty σ H1 λy H2=>∃a v,x=.ref a/\DGet H2 a y (some v)/\Q v H2
noncomputable def U1(ty td:TE):TE:=λσ H Q=>ty σ H λy H1=>td σ H1 λx H2=>∃a o,x=.ref a/\DGet H2 a y o/\Q (.bl o.isSome) H2
noncomputable def KW(ty td:TE):TE:=λσ H Q=>ty σ H λy H1=>td σ H1 λx H2=>∃a o,x=.ref a/\DGet H2 a y o/\Q (.bl (!o.isSome)) H2
noncomputable def Pt(td ty tv:TE):TS:=λD σ H=>tv σ H λv H1=>td σ H1 λx H2=>ty σ H2 λy H3=>∃a H4,x=.ref a/\DPut H3 a y v H4/\D.nx σ H4
section
variable{X:Cx}
def YI(hu:X.A.units+1<cLine)(ho:PE X o td)(hi:PE X i ty)(hs:Vq i):PE X (.Subscript o i pos) (Pf td ty):=by
 intro pins s σ H Q I h;refine Wq PySem.F.slot_dict_getitem.lookup hs (thn (ho pins s σ H _ I h) λu s1 ⟨x,H1,I1,rx,q1⟩=>thn (hi pins s1 σ H1 _ I1 q1) λiv s2 ⟨y,H2,I2,ry,a,v,ex,g,q2⟩=>?_);subst ex;obtain rfl:u=Value.ref a:=rx;exact⟨OO I2 g,T8 hu I2 g ry λw' s3 I3 rw'=>⟨v,H2,I3,rw',q2⟩⟩
def bP(hu:X.A.units+1<cLine)(hi:PE X i ty)(ho:PE X o td):PC X .In i o (U1 ty td):=by
 intro pins s σ H Q I h;refine thn (hi pins s σ H _ I h) λiv s1 ⟨y,H1,I1,ry,q1⟩=>thn (ho pins s1 σ H1 _ I1 q1) λu s2 ⟨x,H2,I2,rx,a,ov,ex,g,q2⟩=>?_;subst ex;obtain rfl:u=Value.ref a:=rx;exact fG hu I2 g ry λs3 I3=>⟨.bl ov.isSome,H2,I3,rfl,q2⟩
def SR(hu:X.A.units+1<cLine)(hi:PE X i ty)(ho:PE X o td):PC X .NotIn i o (KW ty td):=by
 intro pins s σ H Q I h;refine thn (hi pins s σ H _ I h) λiv s1 ⟨y,H1,I1,ry,q1⟩=>thn (ho pins s1 σ H1 _ I1 q1) λu s2 ⟨x,H2,I2,rx,a,ov,ex,g,q2⟩=>?_;subst ex;obtain rfl:u=Value.ref a:=rx;exact Z2 hu I2 g ry λs3 I3=>⟨.bl (!ov.isSome),H2,I3,rfl,q2⟩
def Y9(hu:X.A.units+1<cLine)(ho:PE X o td)(hi:PE X i ty)(hv:PE X value tv)(hs:swapsWith value (some (.Subscript o i pos')) pos.line X.env=pure false):
 PS X (.Assign [.Subscript o i pos'] value pos) (Pt td ty tv):=by
 intro pins s σ H D I h;refine wpAny_Assign_Subscript (thn (hv pins s σ H _ I h) λr s1 ⟨v,H1,I1,rv,q1⟩=>thn (ho pins s1 σ H1 _ I1 q1) λu s2 ⟨x,H2,I2,rx,q2⟩=>thn (hi pins s2 σ H2 _ I2 q2) λiv s3 ⟨y,H3,I3,ry,a,H4,ex,g,q3⟩=>?_) hs;subst ex;obtain rfl:u=Value.ref a:=rx;exact T7 hu I3 g ry rv λs4 I4=>⟨σ,H4,I4,q3⟩
end
def No(h:Heap)(hb:sysModules<h.objs.size):ObjOk P w H (h.push { cls:=.type "dict",data:=.dict #[] }) h.objs.size (.dK []):=
 ⟨ir _,beq_eq_false_iff_ne.mpr (Ne.symm (hJ hb)),[],.nil,Heap.DictOf.new h⟩
noncomputable def Mi:TE:=λ_ H Q=>∀p,H p=none->Q (.ref p) (upd H p (.dK []))
section
def V3:PE X (.Dict [] [] pos) Mi:=λpins s σ H Q I h=>
 wpAny_Dict_empty ⟨.ref 59,_,I.laid (a:=59) (o:=.dK []) (t':=s.toks) (λ_ _ q=>70 _ q) (gk _) (No s.heap I.big),rfl,h _ (I.hok.fresh (gk _))⟩
end
noncomputable def Ab(cells:List (Str×Addr)):List (Str×NameKind)->List (Str×Addr)->List (Str×Addr)
 |[],acc=>acc
 |(n,k)::r,acc=>if k==.free then Ab cells r ((n,(cells.lookup n).getD 0)::acc)else Ab cells r acc
theorem GB(f:Str×NameKind->List (Str×Addr)->Sem (ForInStep (List (Str×Addr))))
 (hf:∀name kind cs,f (name,kind) cs=if(kind==NameKind.free)=true then(do let a <- cellOf env name;pure (ForInStep.yield ((name,a)::cs)))else pure (ForInStep.yield cs)):
 ∀(names:List (Str×NameKind)) (acc:List (Str×Addr)),(∀y∈names,y.2=.free->∃c,env.cells.lookup y.1=some c)->forIn names acc f=pure (Ab env.cells names acc)
 |[],acc,_=>rfl
 |(n,k)::r,acc,hy=>by
   rw[List.forIn_cons,hf];have ih:=λa=>GB f hf r a λz hz=>hy z (gp _ hz);by_cases hk:(k==NameKind.free)=true
   .obtain⟨c,hc⟩:=hy (n,k) gq (by simpa using hk);have hc:env.cells.lookup n=some c:=hc;have e1:cellOf env n=pure c:=by unfold cellOf;rw[hc]
    rw[gb hk,e1];show forIn r ((n,c)::acc) f=_;have e2:Ab env.cells ((n,k)::r) acc=Ab env.cells r ((n,c)::acc):=by
     rw[Ab,gb hk,hc];rfl
    rw[ih,e2]
   .rw[gh hk];show forIn r acc f=_;have e2:Ab env.cells ((n,k)::r) acc=Ab env.cells r acc:=by
     rw[Ab,gh hk]
    rw[ih,e2]
def Ec{scope:Scope}{env:Env}(h:∀y∈90,y.2=.free->∃c,env.cells.lookup y.1=some c):closureFor scope env=pure (Ab env.cells 90 []):=by
 unfold closureFor;dsimp only;rw[GB _ (λname kind cs=>rfl) scope.names [] h];rfl
theorem Dv{cells:List (Str×Addr)}:∀{names:List (Str×NameKind)} {acc:List (Str×Addr)},(∀y∈names,y.2=.free->∃c,cells.lookup y.1=some c)->(∀x c,acc.lookup x=some c->cells.lookup x=some c) ->
 ∀x c,(Ab cells names acc).lookup x=some c->cells.lookup x=some c
 |[],_,_,ha,x,c,e=>ha x c e
 |(n,k)::r,acc,hy,ha,x,c,e=>by
   unfold Ab at e;have hr:∀y∈r,y.2=.free->∃c,cells.lookup y.1=some c:=λz hz=>hy z (gp _ hz);by_cases hk:(k==NameKind.free)=true
   .rw[gb hk]at e;refine Dv hr (λz d q=>?_) x c e;obtain⟨c0,hc0⟩:=hy (n,k) gq (by simpa using hk);have hc0:cells.lookup n=some c0:=hc0;rw[hZ]at q;by_cases hz:(z==n)=true
    .rw[hz,hc0]at q;have:z=n:=by simpa using hz
     subst this;simpa [hc0]using q
    .have hz':(z==n)=false:=by simpa using hz
     rw[hz']at q;exact ha z d q
   .rw[gh hk]at e;exact Dv hr ha x c e
theorem D8:∀{names:List (Str×NameKind)} {acc:List (Str×Addr)} {x:Str},((acc.lookup x).isSome=true∨(x,NameKind.free)∈names)->((Ab cells names acc).lookup x).isSome=true
 |[],_,_,h=>h.elim id λz=>by cases z
 |(n,k)::r,acc,x,h=>by
   unfold Ab;by_cases hk:(k==NameKind.free)=true
   .rw[gb hk];refine D8 ?_;by_cases hx:(x==n)=true
    .exact .inl (by rw[hZ,hx];rfl)
    .have hx':(x==n)=false:=by simpa using hx
     rcases h with h|h
     .exact .inl (by rw[hZ,hx'];exact h)
     .rcases mem_cons.mp h with h|h
      .cases h;simp at hx
      .exact .inr h
   .rw[gh hk];refine D8 ?_;rcases h with h|h
    .exact .inl h
    .rcases mem_cons.mp h with h|h
     .cases h;simp at hk
     .exact .inr h
noncomputable def Cb:Nat->List (Str×NameKind)->List (Str×Addr)
 |_,[]=>[]
 |n,(x,k)::r=>if k==.cell then Cb (n+1) r++[(x,n)]else Cb n r
theorem Bv:∀(names:List (Str×NameKind)) (n:Nat) (acc:List (Str×Addr)),cellsFrom n names acc=Cb n names++acc
 |[],_,_=>rfl
 |(x,k)::r,n,acc=>by
   unfold cellsFrom Cb;by_cases hk:(k==NameKind.cell)=true
   .rw[gb hk,gb hk,Bv r (n+1),iE];rfl
   .rw[gh hk,gh hk,Bv r n]
theorem Iz:∀(names:List (Str×NameKind)) (n:Nat) (x:Str) (c:Addr),(Cb n names).lookup x=some c->(x,NameKind.cell)∈names
 |[],_,_,_,e=>by cases e
 |(y,k)::r,n,x,c,e=>by
   unfold Cb at e;by_cases hk:(k==NameKind.cell)=true
   .rw[gb hk]at e;have hk':k=.cell:=by simpa using hk
    rw[iP]at e;cases q:(Cb (n+1) r).lookup x with
    |some d=>exact gp _ (Iz r _ x d q)
    |none=>
     rw[q]at e;simp only[none_or,hZ]at e;by_cases hx:(x==y)=true
     .have:x=y:=by simpa using hx
      subst this;subst hk';exact gq
     .have hx':(x==y)=false:=by simpa using hx
      rw[hx']at e;cases e
   .rw[gh hk]at e;exact gp _ (Iz r n x c e)
theorem J0:∀(names:List (Str×NameKind)) (n:Nat) (x:Str),(x,NameKind.cell)∈names->∃c,(Cb n names).lookup x=some c
 |[],_,_,h=>by cases h
 |(y,k)::r,n,x,h=>by
   unfold Cb;by_cases hk:(k==NameKind.cell)=true
   .rw[gb hk,iP];rcases mem_cons.mp h with h|h
    .obtain⟨rfl,rfl⟩:=Prod.mk.inj h;cases q:(Cb (n+1) r).lookup x with
     |some d=>exact⟨d,rfl⟩
     |none=>exact⟨n,by simp[hZ]⟩
    .obtain⟨c,hc⟩:=J0 r (n+1) x h;exact⟨c,by rw[hc];rfl⟩
   .rw[gh hk];rcases mem_cons.mp h with h|h
    .cases h;simp at hk
    .exact J0 r n x h
noncomputable def cY(scope:Scope)(C:Addr)(env:Env):Env:=
 { scope:=relabel scope env,locals:=C,globals:=env.globals,cells:=cellsFrom (C+1) 90 (Ab env.cells 90 []),qual:=env.qual,func:=none,code:=env.code,frame:=env.frame,builtins:=env.builtins }
def YV{M:Model}{A:Around}{E:76}{s:96}{scope:Scope}{env:Env}{Q:Env->Shared->Prop}
 (hQ:∀h',(∀b o,s.heap.get? b=some o->h'.get? b=some o)->h'.Ns 59 (λ_=>none)->(∀x c,(Cb (59+1) 90).lookup x=some c->h'.IsCell c none/\59<c) ->
  ((Cb (59+1) 90).Pairwise λx y=>x.2≠y.2) ->
  Q { scope:=scope,locals:=59,globals:=env.globals,cells:=cellsFrom (59+1) 90 cl,qual:=env.qual,func:=none,code:=env.code,frame:=env.frame,builtins:=env.builtins } { s with heap:=h' }):
 wpAny M A (newFunctionEnv scope env.globals cl [] env.qual none .none (some env)) Q E s:=by
 simp only[newFunctionEnv,Option.isSome_some,gz];refine gj (wpAny_alloc ?_);refine gj (wpAny_layCells _ (λname kind cells=>by cases hkc:kind==NameKind.cell<;>simp[hkc]) _ _ _ _ ?_);have ok:=cellsFrom_ok 90 (s.heap.push { cls:=.type "dict",data:=.dict #[] }) (59+1) [] ⟨λ_ _ hm=>(nomatch hm),List.Pairwise.nil⟩ (by rw[Heap.size_push];exact gk _);rw[Heap.size_push,Bv,ic]at ok;rw[show({ s with heap:=s.heap.push { cls:=.type "dict",data:=.dict #[] } }:Shared).heap.objs.size=59+1 from Heap.size_push ..];refine gj (gn (gn ?_));exact hQ _ (λb o e=>pushCells_keeps _ _ b o (70 _ e)) ((Heap.Ns.new s.heap (.type "dict")).keeps (pushCells_keeps _ _)) (λx c hc=>⟨(ok.empty x c (mem_of_lookup hc)).1,(ok.empty x c (mem_of_lookup hc)).2⟩) ok.apart
theorem LQ:∀{names:List (Str×NameKind)} {x:Str} {k k':NameKind},(names.map (·.1)).Nodup->(x,k)∈names->(x,k')∈names->k=k'
 |[],_,_,_,_,h,_=>by cases h
 |(y,q)::r,x,k,k',nd,h,h'=>by
   have nd:(y::r.map (·.1)).Nodup:=nd;obtain⟨n1,n2⟩:=nodup_cons.mp nd;have out:∀{z:NameKind},(y,z)∈r->False:=λm=>n1 (mem_map.mpr ⟨_,m,rfl⟩);rcases mem_cons.mp h with e|e<;>rcases mem_cons.mp h' with e'|e'
   .cases e;cases e';rfl
   .cases e;exact(out e').elim
   .cases e';exact(out e).elim
   .exact LQ n2 e e'
theorem Gw{env:Env}{x:Str}:∀{names:List (Str×NameKind)},names.lookup x=some .free ->
 (names.map λ(n,k)=>if(k==NameKind.free&&env.scope.kind==.function&&env.kindOf n==some .cell)then(n,NameKind.cell)else(n,k)).lookup x=some .cell ∨
 (names.map λ(n,k)=>if(k==NameKind.free&&env.scope.kind==.function&&env.kindOf n==some .cell)then(n,NameKind.cell)else(n,k)).lookup x=some .free
 |[],h=>by simp at h
 |(n,k)::r,h=>by
   have ih:=@Gw env x r;show List.lookup x ((if(k==NameKind.free&&env.scope.kind==.function&&env.kindOf n==some .cell)=true then(n,NameKind.cell)else(n,k))::_)=_∨List.lookup x ((if(k==NameKind.free&&env.scope.kind==.function&&env.kindOf n==some .cell)=true then(n,NameKind.cell)else(n,k))::_)=_;cases hx:x==n with
   |true=>
    simp only[hZ,hx]at h;cases h;by_cases hc:(NameKind.free==NameKind.free&&env.scope.kind==.function&&env.kindOf n==some .cell)=true
    .rw[gb hc];exact .inl (by simp only[hZ,hx])
    .rw[gh hc];exact .inr (by simp only[hZ,hx])
   |false=>
    simp only[hZ,hx]at h;by_cases hc:(k==NameKind.free&&env.scope.kind==.function&&env.kindOf n==some .cell)=true
    .rw[gb hc];simp only[hZ,hx];exact ih h
    .rw[gh hc];simp only[hZ,hx];exact ih h
theorem HE{env:Env}{x:Str}:∀{names:List (Str×NameKind)},
 ((names.map λ(n,k)=>if(k==NameKind.free&&env.scope.kind==.function&&env.kindOf n==some .cell)then(n,NameKind.cell)else(n,k)).lookup x=some .cell ∨
 (names.map λ(n,k)=>if(k==NameKind.free&&env.scope.kind==.function&&env.kindOf n==some .cell)then(n,NameKind.cell)else(n,k)).lookup x=some .free) ->
 names.lookup x=some .cell∨names.lookup x=some .free
 |[],h=>by simp at h
 |(n,k)::r,h=>by
   have ih:=@HE env x r;have h:List.lookup x ((if(k==NameKind.free&&env.scope.kind==.function&&env.kindOf n==some .cell)=true then(n,NameKind.cell)else(n,k))::_)=_∨List.lookup x ((if(k==NameKind.free&&env.scope.kind==.function&&env.kindOf n==some .cell)=true then(n,NameKind.cell)else(n,k))::_)=_:=h;cases hx:x==n with
   |true=>
    by_cases hc:(k==NameKind.free&&env.scope.kind==.function&&env.kindOf n==some .cell)=true
    .have hk:k=.free:=by
      have:=(Bool.and_eq_true _ _ ▸ (Bool.and_eq_true _ _ ▸ hc).1:(k==NameKind.free)=true/\_).1;simpa using this
     exact .inr (by simp only[hZ,hx,hk])
    .rw[gh hc]at h;simp only[hZ,hx]at h ⊢;exact h
   |false=>
    simp only[hZ,hx];refine ih ?_;by_cases hc:(k==NameKind.free&&env.scope.kind==.function&&env.kindOf n==some .cell)=true
    .rw[gb hc]at h;simp only[hZ,hx]at h;exact h
    .rw[gh hc]at h;simp only[hZ,hx]at h;exact h
def cCx(X:Cx)(N':List Str)(scope:Scope)(s:96)(H:Hp)(ex:108):Cx:=
 { X with N:=N',s₀:=s,H₀:=H,env:=cY scope s.heap.objs.size X.env,outer:=X.stack,ex:=ex,fn:=λx=>decide ((x,NameKind.cell)∈90),pn:=[],xe:=λ_ _=>False }
structure CSc(X:Cx)(scope:Scope)(fr:List Str)(ix:77):Prop where
 kind:scope.kind=.function
 nd:(scope.names.map (·.1)).Nodup
 free:(scope.names.all λy=>y.2 != .free||X.env.kindOf y.1==some .cell||X.env.kindOf y.1==some .free)=true
 frs:(fr.all λx=>scope.names.lookup x==some .free)=true
 ixs:fr.map some=ix.map λi=>X.N[i]?
 loc:(scope.names.all λy=>y.2 != .local||scope.names.lookup y.1==some .local)=true
noncomputable def Hj(n:Nat)(ix:77)(σ:St):St:=List.replicate n none++ix.map λi=>(σ[i]?).join
section
def CSc.outer(S:CSc X scope fr ix)(hy:y∈90)(e:y.2=.free):X.env.kindOf y.1=some .cell∨X.env.kindOf y.1=some .free:=by
 have h:=all_eq_true.mp S.free y hy;rw[e]at h;simpa using h
def CSc.clos(S:CSc X scope fr ix)(ok:X.Ok):∀y∈90,y.2=.free->∃c,X.env.cells.lookup y.1=some c:=λy hy e=>ok.has y.1 (S.outer hy e)
def DJ(S:CSc X scope fr ix)(ok:X.Ok){n:Nat}(e:(cellsFrom n 90 (Ab X.env.cells 90 [])).lookup x=some c):
 (Cb n 90).lookup x=some c∨X.env.cells.lookup x=some c:=by
 rw[Bv,iP]at e;cases q:(Cb n 90).lookup x with
 |some d=>rw[q]at e;exact .inl e
 |none=>
  rw[q]at e;exact .inr (Dv (S.clos ok) (λ_ _ z=>by simp at z) x c e)
def VS(S:CSc X scope fr ix)(I:73)(hex:∀b∈ex,FpOk X pins H b){h':Heap}(hk:∀b o,s.heap.get? b=some o->h'.get? b=some o)(hn:h'.Ns 59 λ_=>none)
 (ho:∀x c,(Cb (59+1) 90).lookup x=some c->h'.IsCell c none/\59<c) (ha:(Cb (59+1) 90).Pairwise λx y=>x.2≠y.2) (hlt:∀b∈ex,b<59):
 Inv (cCx X (loc++fr) scope s H ex) [] (Hj loc.length ix σ) H { s with heap:=h' }:=by
 have old:∀x c,X.env.cells.lookup x=some c->c<s.heap.objs.size:=λx c e=>let ⟨v,z⟩:=I.cell x c e;z.lt
 have lenix:fr.length=ix.length:=by simpa using hX List.length S.ixs
 refine⟨⟨I.ok.mod,?_,I.ok.glob,I.ok.blt,gk _,?_,?_,?_,I.ok.hd,I.ok.frames,.inl rfl,?_,I.bs,gw I.ok.bsz I.sz,?_,?_,I.stack,I.stkFree⟩,rfl,I.bare,Un.kept hk,⟨_,hn,?_⟩,?_,I.hok.fresh (gk _),?_,?_,I.hok.kept hk,?_⟩
 .exact S.kind
 .intro x y c e1 e2;rcases DJ S I.ok e1 with a|a<;>rcases DJ S I.ok e2 with b|b
  .exact name_of_addr ha (PySem.mem_of_lookup a) (PySem.mem_of_lookup b)
  .exact absurd (lt_trans (ho x c a).2 (old y c b)) (iw _)
  .exact absurd (lt_trans (ho y c b).2 (old x c a)) (iw _)
  .exact I.ok.inj x y c a b
 .intro x hx;rcases HE hx with e|e
  .exact isSome_iff_exists.mp (PySem.W.cellsFrom_some _ _ _ (.inl e))
  .exact isSome_iff_exists.mp (PySem.W.cellsFrom_some _ _ _ (.inr (D8 (.inr (PySem.mem_of_lookup e)))))
 .intro x c hf e;have hf:(x,NameKind.cell)∈scope.names:=iD hf;obtain⟨d,hd⟩:=J0 90 (59+1) x hf;have e':(cellsFrom (59+1) 90 (Ab X.env.cells 90 [])).lookup x=some c:=e;rw[Bv,iP,hd]at e';cases e';exact iy (ho x _ hd).2
 .intro b hb;refine⟨hJ (hlt b hb),λx c e z=>?_⟩;rcases DJ S I.ok e with a|a
  .exact absurd (lt_trans (ho x c a).2 (by rw[z];exact hlt b hb)) (iw _)
  .exact(hex b hb).2.2.2.2.1 x c a z
 .intro b o e hb;rcases(hex b hb).2.2.2.1 with z|z
  .exact I.ok.noex b o e z
  .exact absurd (i8 (84 (I.ok.bs b o e).1) z) (iw _)
 .intro b hb hf;rcases mem_cons.mp (I.stkSub b hf)with z|z
  .exact(hex b hb).2.1 z
  .exact(hex b hb).2.2.1 z
 .intro i x v e1 e2 e3;have e1:(loc++fr)[i]?=some x:=e1;unfold Hj at e2;by_cases hi:i<loc.length
  .rw[List.getElem?_append_left (by simpa using hi),List.getElem?_replicate]at e2;split at e2<;>cases e2
  .have hi':loc.length<=i:=not_lt.mp hi;rw[List.getElem?_append_right (by simpa using hi')]at e2;rw[List.getElem?_append_right hi']at e1;rw[List.length_replicate,List.getElem?_map]at e2;generalize hj:i-loc.length=j at e1 e2;have e4:(fr.map some)[j]?=some (some x):=by rw[List.getElem?_map,e1];rfl
   rw[S.ixs,List.getElem?_map]at e4;cases q:ix[j]? with
   |none=>rw[q]at e2;cases e2
   |some k=>
    rw[q]at e2 e4;have e2:(σ[k]?).join=some v:=104 e2;have e4:X.N[k]?=some x:=104 e4;have e5:σ[k]?=some (some v):=by
     cases w:σ[k]? with
     |none=>rw[w]at e2;cases e2
     |some z=>rw[w]at e2;simpa using e2
    have hfx:=all_eq_true.mp S.frs x (i6 e1);have hfx:scope.names.lookup x=some .free:=by simpa using hfx
    have hmem:=PySem.mem_of_lookup hfx;have hout:=S.outer hmem rfl;obtain⟨m,hm,hl⟩:=I.loc;obtain⟨u,r,l⟩:=hl k x v e4 e5 (.inr hout);refine⟨u,r,.inr ⟨Gw hfx,?_⟩⟩;rcases l with⟨kk,_⟩|⟨kk,c,ec,z⟩
    .rcases hout with w|w
     .rw[kk]at w;cases w
     .rw[kk]at w;cases w
    .have own0:(Cb (59+1) 90).lookup x=none:=by
      cases w:(Cb (59+1) 90).lookup x with
      |none=>rfl
      |some d=>exact absurd (LQ S.nd (Iz _ _ _ _ w) hmem) 97
     have hc:(Ab X.env.cells 90 []).lookup x=some c:=by
      obtain⟨d,hd⟩:=isSome_iff_exists.mp (D8 (cells:=X.env.cells) (acc:=[]) (.inr hmem));have:=Dv (S.clos I.ok) (λ_ _ z=>by simp at z) x d hd;rw[ec]at this;cases this;exact hd
     refine⟨c,?_,z.keeps hk⟩;show(cellsFrom (59+1) 90 (Ab X.env.cells 90 [])).lookup x=some c;rw[Bv,iP,own0,hc];rfl
 .intro x c e;rcases DJ S I.ok e with a|a
  .exact⟨_,(ho x c a).1⟩
  .obtain⟨v,z⟩:=I.cell x c a;exact⟨v,z.keeps hk⟩
 .intro x c e;rcases DJ S I.ok e with a|a
  .exact I.hok.fresh (iy (ho x c a).2)
  .exact I.freeC x c a
 .intro p hp;cases hp
 .unfold Hj;show _=(loc++fr).length;simp[lenix]
end
section
variable{A:Around}{R:Result->Shared->Prop}
def TB{iter:Expr}{ifs:List Expr}{emit:Sem Unit}(I:Nat->Shared->Prop)
 (hden:(107).den (.compLoop e 0 it acc env)=(compTurn e 0 it acc env).onRaise (λx=>do noteFrame x env;theTreesLotGoes x))
 (hund:A.under (.compLoop e 0 it acc env)=A)
 (hturn:compTurn e 0 it acc env=(do
  standAt iter.pos
  match <- pyNext it with
  |none=>pure (.done .next)
  |some x=>
   letOwnedTupleGo target it x
   assign target env x
   let mut ok:=true
   for c in ifs do
    if ok then ok <- isTrue c env (eval c env)
   if ok then emit
   again (.compLoop e 0 it acc env)))
 (turn:∀n s,I n s->wpAny 107 A (pyNext it) (λr s₁=>match r with
  |none=>R (.ok .next) s₁
  | some v=>wpAny 107 A (letOwnedTupleGo target it v) (λ_ s₁=>wpAny 107 A (assign target env v) (λ_ s₂=>
   wpAny 107 A (forIn ifs true λc r=>if r=true then do let ok <- isTrue c env (eval c env);pure (ForInStep.yield ok)else pure (ForInStep.yield r)) (λok s₃=>
    if ok=true then wpAny 107 A emit (λ_ s₅=>∃m,m<n/\I m s₅) (λ_ _=>False) s₃
    else ∃m,m<n/\I m s₃) (λ_ _=>False) s₂) (λ_ _=>False) s₁) (λ_ _=>False) s₁) (λ_ _=>False) s)
 (n:Nat) (h:I n s):
 codeAny 107 A (.compLoop e 0 it acc env) R s:=by
 refine codeAny_loop rfl I (λn s hI=>?_) n h;rw[hden,hund];refine wpAny_noted ?_;rw[hturn];refine gj (iU (gj (i3 (turn n s hI) (λr s₁ h₁=>?_) λ_ _ h'=>h'.elim)));cases r with
 |none=>exact gn h₁
 |some v=>
  refine gj (i3 h₁ (λ_ s₁ h₁=>?_) λ_ _ h'=>h'.elim);refine gj (i3 h₁ (λ_ s₂ h₂=>gj (i3 h₂ (λok s₃ h₃=>?_) λ_ _ h'=>h'.elim)) λ_ _ h'=>h'.elim);cases ok with
  |false=>exact gn ⟨rfl,h₃⟩
  |true=>
   exact gj (i3 h₃ (λx s₄ h₄=>gn ⟨rfl,h₄⟩) λ_ _ h'=>h'.elim)
def Qt(hcl:clausesOf e=g::gs)(hasy:g.is_async=0)
 (hden:(107).den (.compStart e 0 it acc env)=(compStart e 0 it acc env).onRaise (λx=>do noteFrame x env;standAt theWindowsPlace))
 (hund:A.under (.compStart e 0 it acc env)=A)
 (h0:codeAny 107 A (.compLoop e 0 it acc env) R s)
 (h:wpAny 107 A (pyIter it) (λit' s'=>codeAny 107 A (.compLoop e 0 it' acc env) R s')
  (notedBy 107 A env λx s'=>R (.error x) s') s):
 codeAny 107 A (.compStart e 0 it acc env) R s:=by
 refine codeAny_of_tree ?_;rw[hden,hund];refine wpAny_notedAt ?_;have e1:((clausesOf e)[0]?).elim false (·.is_async != 0)=false:=by rw[hcl];simp[hasy]
 have e2:(clausesOf e)[0]?=some g:=by rw[hcl];rfl
 unfold compStart;rw[e1,e2];show wpAny _ _ (ask >>= _) _ _ s;refine gj (wpAny_askSetting (wpAny_ite ?_));split
 .first
   |exact gj (gn (gn (And.intro rfl h0)))
   |exact gn (And.intro rfl h0)
 .first
   |exact gj (wpAny_rule (gj (iU (gj (i3 h (λit' s' h'=>gn (And.intro rfl h')) λ_ _ x=>x)))))
   |(refine gj (wpAny_rule ?_);show wpAny _ _ (standAt g.iter.pos >>= _) _ _ s;exact gj (iU (gj (i3 h (λit' s' h'=>gn (And.intro rfl h')) λ_ _ x=>x))))
end
def PF(X:Cx)(ifs:List Expr)(t:TT):Prop:=
 ∀(pins:89) (s:96) (σ:St) (H:Hp) (Q:Bool->Hp->Prop),Inv X pins σ H s->t σ H Q ->
   wpAny 69 X.A (forIn ifs true λc r=>if r=true then do let ok <- isTrue c X.env (eval c X.env);pure (ForInStep.yield ok)else pure (ForInStep.yield r)) (TP X pins σ Q) X.xe s
noncomputable def To:TT:=λ_ H Q=>Q true H
def bD:PF X [] To:=λpins s σ H Q I h=>wpAny_tests_nil ⟨H,I,h⟩
def bC(h:PT X c t):PF X [c] t:=λpins s σ H Q I q=>wpAny_tests_one (h pins s σ H Q I q)
noncomputable abbrev TM:=Addr->St->Hp->(Hp->Prop)->Prop
def PM(X:Cx)(emit:Value->Env->Sem Unit)(t:TM):Prop:=
 ∀(D:Addr) (pins:89) (s:96) (σ:St) (H:Hp) (Q:Hp->Prop),Inv X pins σ H s->t D σ H Q->wpAny 69 X.A (emit (.ref D) X.env) (λ_ s'=>∃H',Inv X pins σ H' s'/\Q H') X.xe s
def TU(J:It)(D:Addr)(o:HO)(σ0:St)(H0:Hp)(g:TG)(tf:TT)(tm:TM)(Q:VK):Prop:=∃W:Nat->Nat->St->Hp->Prop,
 (∃m,W 0 m σ0 (upd H0 D o))/\∀i m σ H,W i m σ H ->
  ((J.stop i H/\Q (.ref D) H)∨(J.go i H/\∃N:St->Hp->Prop,(∀σ' H',N σ' H'->∃m',m'<m/\W (i+1) m' σ' H')/\
    ∀x H',J.yld i H x H'->g x σ H' λσ2 H2=>tf σ2 H2 λb H3=>
     if b=true then tm D σ2 H3 λH4=>N σ2 H4 else N σ2 H3))
noncomputable def Fs(o:HO)(n:Nat)(ix:77)(wi:TI)(g:TG)(tf:TT)(tm:TM):TE:=λσ H Q=>wi σ H λJ H1=>∀D,H1 D=none->TU J D o (Hj n ix σ) H1 g tf tm Q
section
def ci{D:Addr}{Q:76}{E:76}(I:73)(hD:H D=some (.lst ys))(r:RelV x u)(hz:ys.length<sizeLine)
 (h:∀v s',Inv X pins σ (upd H D (.lst (ys++[x]))) s'->Q v s'):wpAny 69 X.A (call (.builtin "list.append") [.ref D,u]) Q E s:=by
 have I':=I.wish λ_ _=>False;have q:=LR (X:=X.wish λ_ _=>False) pins s σ H (.ref D) [x] (.ref D) [u] (λv H'=>H'=upd H D (.lst (ys++[x]))) I' rfl (.cons r .nil) ⟨D,ys,x,rfl,rfl,hD,hz,rfl⟩;refine i3 q (λv s' ⟨v',H',I2,_,e⟩=>?_) λ_ _ z=>False.elim z;subst e;exact h v s' I2.unwish
structure Kd(X:Cx)(e tg iter:Expr)(ifs:List Expr)(emit:Value->Env->Sem Unit)(newAcc:Sem Value)(ho:HO):Prop where
 cl:clausesOf e=[⟨tg,iter,ifs,0⟩]
 turn:∀it acc env,compTurn e 0 it acc env=(do
  standAt iter.pos
  match <- pyNext it with
  |none=>pure (.done .next)
  |some x=>
   letOwnedTupleGo tg it x
   assign tg env x
   let mut ok:=true
   for c in ifs do
    if ok then ok <- isTrue c env (eval c env)
   if ok then emit acc env
   again (.compLoop e 0 it acc env))
 d1:∀it acc env,(69).den (.compLoop e 0 it acc env)=(compTurn e 0 it acc env).onRaise (λx=>do noteFrame x env;theTreesLotGoes x)
 d2:∀it acc env,(69).den (.compStart e 0 it acc env)=(compStart e 0 it acc env).onRaise (λx=>do noteFrame x env;standAt theWindowsPlace)
 u1:∀it acc env,X.A.under (.compLoop e 0 it acc env)=X.A
 u2:∀it acc env,X.A.under (.compStart e 0 it acc env)=X.A
 new:∀(pins:89) (s:96) (σ:St) (H:Hp) (E:76) (Q:76),Inv X pins σ H s->(∀ob,Inv X pins σ (upd H 59 ho) { s with heap:=s.heap.push ob }->Q (.ref 59) { s with heap:=s.heap.push ob })->wpAny 69 X.A newAcc Q E s
def KC{iter:Expr}{emit:Value->Env->Sem Unit}{tn:Nat->Heap->Prop}{s2:96}{E:76}
 {RR:Value->Addr->Result->Shared->Prop} (Z:Kd X e tg iter ifs emit newAcc ho) (hc:X.calm=true) (S:CSc X scope fr ix)
 (hg:∀s H ex,PG (cCx X (loc++fr) scope s H ex) tg g) (hf:∀s H ex,PF (cCx X (loc++fr) scope s H ex) ifs tf) (he:∀s H ex,PM (cCx X (loc++fr) scope s H ex) emit tm)
 (I2:Inv X pins σ H2 s2) (T:Turn X.prog X.w X.K tg J fp it tn) (st2:tn 0 s2.heap) (f2:∀b∈fp,FpOk X pins H2 b) (hW:∀D,H2 D=none->TU J D ho (Hj loc.length ix σ) H2 g tf tm Q)
 (hfin:∀(s3 s6:96) (H5:Hp) (σ5:St) (D:Addr),Inv X pins σ (upd H2 D ho) s3->Inv (cCx X (loc++fr) scope s3 (upd H2 D ho) fp) [] σ5 H5 s6->(∀b∈fp,FpOk X pins (upd H2 D ho) b)->Q (.ref D) H5->RR (.ref D) s3.heap.objs.size (.ok .next) s6):
 wpAny 69 X.A newAcc (λacc s₃=>wpAny 69 X.A (newFunctionEnv scope X.env.globals (Ab X.env.cells 90 []) [] X.env.qual none .none (some X.env)) (λcenv s₄=>
  codeAny 69 X.A (.compStart e 0 (.ref it) acc { cenv with scope:=relabel scope X.env }) (RR acc cenv.locals) s₄) E s₃) E s2:=by
 refine Z.new pins s2 σ H2 _ _ I2 λob I3=>?_;have fresh2:H2 s2.heap.objs.size=none:=I2.hok.fresh (gk _);obtain⟨W,⟨m0,w0⟩,turn⟩:=hW s2.heap.objs.size fresh2;have lt2:∀b∈fp,b<s2.heap.objs.size:=λb hb=>let ⟨o,e,_⟩:=T.obj 0 _ st2 b hb;84 e
 have f3:∀b∈fp,FpOk X pins (upd H2 s2.heap.objs.size ho) b:=λb hb=>⟨by rw[upd_ne (hJ (lt2 b hb))];exact(f2 b hb).1,(f2 b hb).2⟩
 have lt3:∀b∈fp,b<(s2.heap.push ob).objs.size:=λb hb=>by rw[Heap.size_push];exact Nat.lt_succ_of_lt (lt2 b hb)
 generalize hs3:({ s2 with heap:=s2.heap.push ob }:Shared)=s3 at *;have lt3:∀b∈fp,b<s3.heap.objs.size:=by rw[<- hs3];exact lt3
 have st3:tn 0 s3.heap:=T.keep _ _ _ st2 λb hb o e=>by rw[<- hs3];exact 70 _ e
 refine YV λh' hk hn ho' ha=>?_;have I4:=VS (loc:=loc) S I3 f3 hk hn ho' ha lt3;have fpX:∀{H':Hp},(∀b∈fp,H' b=none)->∀b∈fp,FpOk (cCx X (loc++fr) scope s3 (upd H2 s2.heap.objs.size ho) fp) [] H' b:=λhn b hb=>
  ⟨hn b hb,(I4.ok.exf b hb).1,I4.ok.exfs b hb,.inl hb,(I4.ok.exf b hb).2,λp hp=>by cases hp⟩
 have loop:codeAny 69 X.A (.compLoop e 0 (.ref it) (.ref s2.heap.objs.size) (cY scope s3.heap.objs.size X.env))
  (RR (.ref s2.heap.objs.size) s3.heap.objs.size) { s3 with heap:=h' }:=by
  refine TB (λn s'=>∃i σ' H',Inv (cCx X (loc++fr) scope s3 (upd H2 s2.heap.objs.size ho) fp) [] σ' H' s'/\tn i s'.heap/\(∀b∈fp,H' b=none)/\W i n σ' H') (Z.d1 _ _ _) (Z.u1 _ _ _) (Z.turn _ _ _) ?_ m0
   ⟨0,_,_,I4,T.keep _ _ _ st3 λb hb o e=>hk b o e,λb hb=>(f3 b hb).1,w0⟩
  rintro n s5 ⟨i,σ5,H5,I5,st5,fr5,w5⟩;have w5:=turn i n σ5 H5 w5;rcases w5 with⟨stop,qn⟩|⟨go,N,hN,step⟩
  .refine thn (T.done (cCx X (loc++fr) scope s3 (upd H2 s2.heap.objs.size ho) fp) rfl rfl rfl hc i [] s5 σ5 H5 _ I5 (fpX fr5) st5 stop) λr s6 ⟨hr,I6⟩=>?_;subst hr;exact hfin s3 s6 H5 σ5 s2.heap.objs.size I3 I6 f3 qn
  .refine thn (T.item (cCx X (loc++fr) scope s3 (upd H2 s2.heap.objs.size ho) fp) rfl rfl rfl hc i [] s5 σ5 H5 _ I5 (fpX fr5) st5 go) λr s6 ⟨u,hr,h6⟩=>?_;subst hr;refine thn h6 λ_ s7 ⟨x,H7,I7,r7,y7,st7,fr7⟩=>?_;have I7':=I7.pinned (fpX fr7) (T.obj _ _ st7);have keepI:∀{σ8:St} {H8:Hp} {s8:96},Inv (cCx X (loc++fr) scope s3 (upd H2 s2.heap.objs.size ho) fp) ([]++HF fp s7.heap) σ8 H8 s8->tn (i+1) s8.heap/\∀b∈fp,H8 b=none:=λ{σ8 H8 s8} I8=>by
    refine⟨T.keep _ _ _ st7 λb hb o e=>(I8.pin (b,o) (gy _ (gy _ (Eh hb e)))).1,λb hb=>?_⟩;obtain⟨o,e,d⟩:=T.obj _ _ st7 b hb;exact(I8.pin (b,o) (gy _ (gy _ (Eh hb e)))).2.1
   refine thn (hg s3 (upd H2 s2.heap.objs.size ho) fp _ s7 σ5 H7 x u _ I7' r7 (step x H7 y7)) λ_ s8 ⟨σ8,H8,I8,q8⟩=>?_;refine thn (hf s3 (upd H2 s2.heap.objs.size ho) fp _ s8 σ8 H8 _ I8 q8) λb s9 ⟨H9,I9,q9⟩=>?_;cases b with
   |false=>
    rw[gh Bool.false_ne_true]at q9 ⊢;obtain⟨m',hm,w9⟩:=hN _ _ q9;exact⟨m',hm,i+1,σ8,H9,I9.unpinned,(keepI I9).1,(keepI I9).2,w9⟩
   |true=>
    rw[gb rfl]at q9 ⊢;refine thn (he s3 (upd H2 s2.heap.objs.size ho) fp _ _ s9 σ8 H9 _ I9 q9) λe10 s10 ⟨H10,I10,n10⟩=>?_;obtain⟨m',hm,w10⟩:=hN _ _ n10;exact⟨m',hm,i+1,σ8,_,I10.unpinned,(keepI I10).1,(keepI I10).2,w10⟩
 exact Qt Z.cl rfl (Z.d2 _ _ _) (Z.u2 _ _ _) loop (T.self X.A 0 _ _ _ (T.keep _ _ _ st3 λb hb o e=>hk b o e) loop)
def Ia{s3:96}(I3:Inv X pins σ H3 s3)(I6:Inv (cCx X N' scope s3 H3 fp) [] σ5 H5 s6)(f3:∀b∈fp,FpOk X pins H3 b)
 (hs:Heap.SameBut s3.heap.objs.size s6.heap h''):Inv X pins σ H5 { s6 with heap:=h'' }:=by
 have neC:∀b o,s3.heap.get? b=some o->b≠s3.heap.objs.size:=λb o e=>hJ (84 e);have un:=I6.base;refine I3.call' (s':={ s6 with heap:=h'' }) (ch:=fp) I6.os ⟨λb o e n hb hx=>?_,λb o e n hb hx=>?_,un.free,λb o e hx=>?_,un.tups,un.frzs,un.tbls⟩ ?_ I6.bare ?_
 .exact(hs.2 b (neC b o e)).trans (un.keep b o e n hb hx)
 .obtain⟨sl,q⟩:=un.slot b o e n hb hx;exact⟨sl,(hs.2 b (neC b o e)).trans q⟩
 .obtain⟨o',q⟩:=un.there b o e hx;exact⟨o',(hs.2 b (neC b o e)).trans q⟩
 .intro b ob e;have hfree:H5 s3.heap.objs.size=none:=I6.free;refine(I6.hok b ob e).stay (λc w' hc q=>(hs.2 c ?_).trans q) (λ_ q=>q) λ_ _ q=>q;intro z;rcases hc with hc|hc
  .rw[<- hc,z,hfree]at e;cases e
  .rw[z,hfree]at hc;cases hc
 .intro b hb;obtain⟨_,a2,_,a4,a5,a6⟩:=f3 b hb;exact⟨a4,a2,a5,a6⟩
def Rq(S:CSc X scope fr ix):∀y∈90,y.2=.local->scope.names.lookup y.1=some .local:=λy hy e=>by
 have:=all_eq_true.mp S.loc y hy;rw[e]at this;simpa using this
def NJ{iter:Expr}{emit:Value->Env->Sem Unit}(Z:Kd X e tg iter ifs emit newAcc ho)
 (hc:X.calm=true) (S:CSc X scope fr ix) (hi:PI X tg iter wi)
 (hg:∀s H ex,PG (cCx X (loc++fr) scope s H ex) tg g) (hf:∀s H ex,PF (cCx X (loc++fr) scope s H ex) ifs tf) (he:∀s H ex,PM (cCx X (loc++fr) scope s H ex) emit tm)
 (hev:eval e X.env=comprehension e scope X.env pos newAcc false (eval iter X.env)) (hs:∀x,foldedSetIterable iter X.env x=pure x):PE X e (Fs ho loc.length ix wi g tf tm):=by
 intro pins s σ H Q I h;rw[hev];refine wpAny_comprehension_free (use:=none) Z.cl hs (Ec (S.clos I.ok)) S.kind (Rq S) (thn (hi pins s σ H _ I h) λv s1 h1=>thn h1 λitv s2 h2=>?_);obtain⟨it,fp,tn,J,H2,rfl,I2,T,st2,f2,hW⟩:=h2;refine KC (RR:=λacc C=>compPost 69 X.A X.xe none (EP X pins σ Q) acc C) Z hc S hg hf he I2 T st2 f2 hW λs3 s6 H5 σ5 L I3 I6 f3 q=>?_;obtain⟨m,hm,_⟩:=I6.loc;exact⟨m,hm,λh'' hs'=>⟨.ref L,H5,Ia I3 I6 f3 hs',rfl,q⟩⟩
noncomputable def Qc(te:TE):TM:=λD σ H Q=>te σ H λv H1=>∃ys,H1 D=some (.lst ys)/\ys.length<sizeLine/\Q (upd H1 D (.lst (ys++[v])))
noncomputable def Qo(elt:Expr):Value->Env->Sem Unit:=λacc env=>do let _ <- call (.builtin "list.append") [acc,<- eval elt env]
def Ol(he:PE X elt te):PM X (Qo elt) (Qc te):=by
 intro D pins s σ H Q I h;unfold Qo;refine gj (thn (he pins s σ H _ I h) λu s1 ⟨y,H1,I1,r1,ys,hD,hz,q⟩=>gj (ci I1 hD r1 hz λ_ s2 I2=>gn ⟨_,I2,q⟩))
def Oy{iter:Expr}:Kd X (.ListComp elt [⟨tg,iter,ifs,0⟩] scope pos) tg iter ifs (Qo elt) (newList []) (.lst []):=
 ⟨rfl,λ_ _ _=>compTurn_list ..,λ_ _ _=>rfl,λ_ _ _=>rfl,λ_ _ _=>rfl,λ_ _ _=>rfl,λpins s σ H E Q I h=>jb (h _ (I.lnew (its:=[]) (ys:=[]) (t':=s.toks) .nil (ir _)))⟩
noncomputable abbrev GJ(n:Nat)(ix:77)(wi:TI)(g:TG)(tf:TT)(te:TE):TE:=Fs (.lst []) n ix wi g tf (Qc te)
def YJ{iter:Expr}(hc:X.calm=true)(S:CSc X scope fr ix)(hi:PI X tg iter wi)
 (hg:∀s H ex,PG (cCx X (loc++fr) scope s H ex) tg g) (hf:∀s H ex,PF (cCx X (loc++fr) scope s H ex) ifs tf) (he:∀s H ex,PE (cCx X (loc++fr) scope s H ex) elt te)
 (hs:∀x,foldedSetIterable iter X.env x=pure x:=by intro _;rfl):PE X (.ListComp elt [⟨tg,iter,ifs,0⟩] scope pos) (GJ loc.length ix wi g tf te):=
 NJ Oy hc S hi hg hf (λs H ex=>Ol (he s H ex)) (eval_ListComp ..) hs
end
section
variable{X:Cx}
def Y6{i:Nat}{iter:Expr}{spos:Pos}(hN:X.N.Nodup)(hiN:X.N[i]?=some y)(hy:X.env.scope.names.lookup y=some .local)
 (hc:X.calm=true) (S:CSc X scope fr ix) (hi:PI X tg iter wi)
 (hg:∀s H ex,PG (cCx X (loc++fr) scope s H ex) tg g) (hf:∀s H ex,PF (cCx X (loc++fr) scope s H ex) ifs tf) (he:∀s H ex,PE (cCx X (loc++fr) scope s H ex) elt te)
 (hsw:swapsWith (.ListComp elt [⟨tg,iter,ifs,0⟩] scope pos) (some (.Name y py)) spos.line X.env=pure true:=by rfl) (hs:∀x,foldedSetIterable iter X.env x=pure x:=by intro _;rfl):
 PS X (.Assign [.Name y py] (.ListComp elt [⟨tg,iter,ifs,0⟩] scope pos) spos) (F0 (GJ loc.length ix wi g tf te) (EE i)):=by
 intro pins s σ H D I h;rw[exec_Assign_Name_used _ _ _ _ hsw];refine gj (iU (gj ?_));show wpAny _ _ (do let _ <- comprehension (.ListComp elt [⟨tg,iter,ifs,0⟩] scope pos) scope X.env _ (newList []) false (eval iter X.env) (some (assign (.Name y py) X.env))) _ _ s;refine gj (i3 (wpAny_comprehension_free (use:=some (assign (.Name y py) X.env)) (Q:=λ_ s'=>SP X pins D .next s') rfl hs (Ec (S.clos I.ok)) S.kind (Rq S)
  (thn (hi pins s σ H _ I h) λv s1 h1=>thn h1 λitv s2 h2=>?_)) (λ_ s' hq=>gn (gn hq)) λ_ _ e=>e)
 obtain⟨it,fp,tn,J,H2,rfl,I2,T,st2,f2,hW⟩:=h2;refine KC (RR:=λacc C=>compPost 69 X.A X.xe (some (assign (.Name y py) X.env)) (λ_ s'=>SP X pins D .next s') acc C) Oy hc S hg hf (λs H ex=>Ol (he s H ex)) I2 T st2 f2 hW λs3 s6 H5 σ5 L I3 I6 f3 q=>?_;have J6:Inv X pins σ H5 s6:=Ia (h'':=s6.heap) I3 I6 f3 (.refl ..);obtain⟨m,hm,_⟩:=I6.loc;have hm:s6.heap.Ns s3.heap.objs.size m:=hm;have hL:s3.heap.objs.size≠X.env.locals:=Ne.symm (hJ I3.lt);show wpAny _ _ (assign (.Name y py) X.env (.ref L)) _ _ s6;refine wpAny_assign_Name (LH (v:=.ref L) J6 hN hiN (.inl hy) rfl (λs7 I7 ⟨a,sb,ha⟩=>?_) (.inr hy));have hca:s3.heap.objs.size≠a:=by
  rcases ha with rfl|ha
  .exact hL
  .obtain⟨v,z⟩:=I3.cell y a ha;exact Ne.symm (hJ z.lt)
 refine⟨m,hm.sameBut sb hca,λh' hs'=>?_⟩;refine⟨_,H5,I7.turned (t':=s7.toks) (it:=s3.heap.objs.size) (λb o hb e=>(hs'.2 b hb).trans e) I6.free hL (.inr I3.sz) (λx c e z=>?_) (λp hp z=>?_),q⟩
 .obtain⟨v,w⟩:=I3.cell x c e;exact absurd w.lt (by rw[z];exact iw _)
 .exact absurd (84 (I3.pin p hp).1) (by rw[z];exact iw _)
end
mutual
def Rep(K:Frag)(H:Hp):PyData->V->Prop
 |.none,v=>v=.non
 |.bool b,v=>v=.bl b
 |.int i,v=>v=.int i
 |.str x,v=>v=.str x
 |.list ds,v=>∃a xs,v=.ref a/\SqL K H a xs/\CY K H ds xs
 |.tuple ds,v=>∃a xs,v=.ref a/\SqT K H a xs/\CY K H ds xs
 |.dict _,_=>False
def CY(K:Frag)(H:Hp):List PyData->List V->Prop
 |[],xs=>xs=[]
 |d::ds,xs=>∃x r,xs=x::r/\Rep K H d x/\CY K H ds r
end
section
mutual
theorem DW(I:73):∀(d:PyData) (v:V) (u:Value),Rep X.K H d v->RelV v u->∃as,Reads s.heap u d as
 |.none,v,u,h,r=>by
  have h:v=.non:=by simpa only[Rep]using h
  subst h;cases r;exact⟨_,.none⟩
 |.bool b,v,u,h,r=>by
  have h:v=.bl b:=by simpa only[Rep]using h
  subst h;cases r;exact⟨_,.bool b⟩
 |.int i,v,u,h,r=>by
  have h:v=.int i:=by simpa only[Rep]using h
  subst h;obtain⟨t,rfl⟩:=r;exact⟨_,.int i t⟩
 |.str x,v,u,h,r=>by
  have h:v=.str x:=by simpa only[Rep]using h
  subst h;obtain⟨t,rfl⟩:=r;exact⟨_,.str x t⟩
 |.list ds,v,u,h,r=>by
  have h:∃a xs,v=.ref a/\SqL X.K H a xs/\CY X.K H ds xs:=by simpa only[Rep]using h
  obtain⟨a,xs,rfl,hq,ha⟩:=h;cases r;obtain⟨its,rv,⟨o,n,e,c,_,dd⟩,hz⟩:=I.list hq;obtain⟨as,q⟩:=F6 I ds xs its ha rv;exact⟨_,.list e c dd (by simpa using q)⟩
 |.tuple ds,v,u,h,r=>by
  have h:∃a xs,v=.ref a/\SqT X.K H a xs/\CY X.K H ds xs:=by simpa only[Rep]using h
  obtain⟨a,xs,rfl,hq,ha⟩:=h;cases r;obtain⟨its,rv,⟨o,e,c,n,dd⟩,hz⟩:=I.tuple hq;obtain⟨as,q⟩:=F6 I ds xs its ha rv;exact⟨_,.tuple e c dd (by simpa using q)⟩
 |.dict _,v,u,h,r=>by
  have h:False:=by simpa only[Rep]using h
  exact h.elim
theorem F6(I:73):∀(ds:List PyData) (xs:List V) (us:79),CY X.K H ds xs->Vals xs us->∃as,ReadsAll s.heap us ds as
 |[],xs,us,h,r=>by
  have h:xs=[]:=by simpa only[CY]using h
  subst h;cases r;exact⟨_,.nil⟩
 |d::ds,xs,us,h,r=>by
  have h:∃x r,xs=x::r/\Rep X.K H d x/\CY X.K H ds r:=by simpa only[CY]using h
  obtain⟨x,rr,rfl,h1,h2⟩:=h;cases r with
  |cons r1 r2=>
   obtain⟨as,q1⟩:=DW I d _ _ h1 r1;obtain⟨bs,q2⟩:=F6 I ds _ _ h2 r2;exact⟨_,.cons q1 q2⟩
end
end
def Stb:HO->Prop
 |.tup _=>True
 |.frz _ _=>True
 |.ext _=>True
 |.xd _=>True
 |_=>False
structure Grow(H H':Hp):Prop where
 keep:∀b o,Stb o->H b=some o->H' b=some o
theorem Grow.tup(g:Grow H H'):∀b xs,H b=some (.tup xs)->H' b=some (.tup xs):=λb _ h=>g.keep b _ trivial h
theorem Grow.frz(g:Grow H H'):∀b o u,H b=some (.frz o u)->H' b=some (.frz o u):=λb _ _ h=>g.keep b _ trivial h
def Grow.refl:Grow H H:=⟨λ_ _ _ h=>h⟩
def Chg(H:Hp)(p:Addr):Prop:=∀o,Stb o->H p≠some o
def Grow.put(a:Grow H H')(h:Chg H' p):Grow H (upd H' p o):=⟨λc u s e=>by
 have q:=a.keep c u s e;have n:c≠p:=λz=>h u s (by rw[<- z];exact q);rw[upd_ne n];exact q⟩
def Grow.sq{K:Frag}(g:Grow H H')(h:SqT K H a xs):SqT K H' a xs:=by
 rcases h with(h|⟨o,h⟩)|h
 .exact .inl (.inl (g.tup _ _ h))
 .exact .inl (.inr ⟨o,g.frz _ _ _ h⟩)
 .exact .inr h
section
variable{X:Cx}
def Q7(K:Frag):List V->Hp->VK->Prop:=λxs H Q=>∃x d,xs=[x]/\Rep K H d x/\d.showable=true/\d.hasDict=false/\isDisplay d=true/\d.depth<=30/\d.shown.length<=sizeLine/\Q (.str d.shown) H
def Qw(hg:X.A.guards=some [])(hu:X.A.units+64<cLine):CallR X (.builtin "repr") (Q7 X.K):=by
 intro pins s σ H xs us Q I r h;obtain⟨x,d,rfl,hr,hs,hd,hi,hdep,hsz,q⟩:=h;obtain⟨u,rfl,ru⟩:=BU r;obtain⟨as,hR⟩:=DW I d x u hr ru;obtain⟨a,rfl⟩:=isRef_of_reads hR hi;exact repr_of_reads' hR hs (PyData.noDict_hsm hd) hg 66 (λ_ _ e=>e) (λh' u tk hk=>⟨.str d.shown,H,I.kept hk,⟨_,rfl⟩,q⟩) hsz
noncomputable def UY(K:Frag):R2:=λx y H Q=>∃d e,Rep K H d x/\Rep K H e y/\d.canLay0=true/\e.canLay0=true/\min d.depth e.depth<=60/\Q (.bl (!PyData.eqv d e)) H
noncomputable def Ua(K:Frag):R2:=λx y H Q=>∃d e,Rep K H d x/\Rep K H e y/\d.canLay0=true/\e.canLay0=true/\min d.depth e.depth<=60/\Q (.bl (PyData.eqv d e)) H
def bU(hu:X.A.units+64<cLine):OpR X (compareOp .NotEq) (UY X.K):=by
 intro pins s σ H x y v u Q I rx ry h;obtain⟨d,e,h1,h2,c1,c2,hm,q⟩:=h;obtain⟨as,q1⟩:=DW I d x v h1 rx;obtain⟨bs,q2⟩:=DW I e y u h2 ry;exact PySem.SeqAt.compareNe_reads q1 q2 c1 c2 66 ⟨.bl _,H,I,rfl,q⟩
def bX(hu:X.A.units+64<cLine):OpR X (compareOp .Eq) (Ua X.K):=by
 intro pins s σ H x y v u Q I rx ry h;obtain⟨d,e,h1,h2,c1,c2,hm,q⟩:=h;obtain⟨as,q1⟩:=DW I d x v h1 rx;obtain⟨bs,q2⟩:=DW I e y u h2 ry;exact PySem.SeqAt.compareEq_reads q1 q2 c1 c2 66 ⟨.bl _,H,I,rfl,q⟩
def Db{ns:92}(h:Vals (ns.map V.int) us):IntsAre us ns:=Qg h
def TD(hc:X.calm=true):CallR X (.builtin "sum") (λxs H Q=>∃(a:Addr) (ns:92),xs=[.ref a]/\SqL X.K H a (ns.map V.int)/\Q (.int ns.sum) H):=by
 intro pins s σ H xs us Q I r h;obtain⟨a,ns,rfl,hq,q⟩:=h;obtain⟨u,rfl,ru⟩:=BU r;cases ru;obtain⟨its,rv,p,hz⟩:=I.list hq;have hi:=Db rv;obtain⟨xs,hx⟩:=hi.allInts.items;have hl':s.heap.IsList a (intItems xs):=hx ▸ p.isList;refine sum_intListG (I.ok.hd hc) hl' λh' tk t' hk=>?_;have e1:ns=xs.toList.map (·.1):=by
  rw[<- jh,<- hx];exact(show numsOf its.toArray.toList=ns from hi.numsOf).symm
 have e2:preSum (numAt xs) xs.size=ns.sum:=by
  rw[preSum_eq,List.take_of_length_le 71,e1]
 rw[e2];exact⟨.int ns.sum,H,I.kept hk,⟨_,rfl⟩,q⟩
end
end L2
namespace L2
open PySem PySem.Spec PyProof.Rows
section
variable(K:Frag){X:Cx}
def NW(hK:X.K=K:=by rfl):IxR X (Iv K):=by subst hK;exact P0
def Oz(hK:X.K=K:=by rfl):IxR X (UZ K):=by subst hK;exact cB
def U7(hK:X.K=K:=by rfl):SlR X (Q6 K):=by subst hK;exact Ww
def Wv(hK:X.K=K:=by rfl):SlR X (Q5 K):=by subst hK;exact ZH
def NL(hK:X.K=K:=by rfl):OpR X (compareOp .In) (rIn K false):=by subst hK;exact SV
def SS(hK:X.K=K:=by rfl):OpR X (compareOp .NotIn) (rIn K true):=by subst hK;exact NK
def Ki(hu:X.A.units+64<cLine)(hK:X.K=K:=by rfl):OpR X (compareOp .Eq) (Ua K):=by subst hK;exact bX hu
def Kh(hu:X.A.units+64<cLine)(hK:X.K=K:=by rfl):OpR X (compareOp .NotEq) (UY K):=by subst hK;exact bU hu
def VB(hK:X.K=K:=by rfl):OpR X (binaryOp .Add) (Q8 K):=by subst hK;exact YO
def aC:List V->Hp->VK->Prop:=λxs H Q=>∃p ys,xs=[.ref p]/\(SqL K H p ys∨SqT K H p ys)/\Q (.int ys.length) H
def TJ(hK:X.K=K:=by rfl):CallR X (.builtin "len") (aC K):=by subst hK;exact Ny
def Kg:List V->Hp->VK->Prop:=λxs H Q=>∃p ys,xs=[.ref p]/\(SqL K H p ys∨SqT K H p ys)/\∀l,H l=none->Q (.ref l) (upd H l (.lst ys))
def Qy(hK:X.K=K:=by rfl):CallR X (.type "list") (Kg K):=by subst hK;exact Nx
def NC:List V->Hp->VK->Prop:=λxs H Q=>∃p ys,xs=[.ref p]/\((SqL K H p ys/\∀l,H l=none->Q (.ref l) (upd H l (.tup ys)))∨(SqT K H p ys/\Q (.ref p) H))
def IZ(hK:X.K=K:=by rfl):CallR X (.type "tuple") (NC K):=by subst hK;exact M6
def OQ(hg:X.A.guards=some [])(hu:X.A.units+64<cLine)(hK:X.K=K:=by rfl):CallR X (.builtin "repr") (Q7 K):=by subst hK;exact Qw hg hu
def W4:List V->Hp->VK->Prop:=λxs H Q=>∃(a:Addr) (ns:92),xs=[.ref a]/\SqL K H a (ns.map V.int)/\Q (.int ns.sum) H
def Lj(hc:X.calm=true)(hK:X.K=K:=by rfl):CallR X (.builtin "sum") (W4 K):=by subst hK;exact TD hc
def Iy(hl:PE X l tl)(hK:X.K=K:=by rfl):PI X tg l (GX K tl):=by subst hK;exact YE hl
def Om(hl:PE X l tl)(hK:X.K=K:=by rfl):PI X tg l (NZ K tl):=by subst hK;exact az hl
def YG{pos:Pos}{k:Nat}{n:Nat}(hc:X.calm=true)(h:PGs X es t)(hK:X.K=K:=by rfl)
 (hn:(assignEach es X.env).length=n:=by rfl) (hst:(assignEach es X.env).findIdx? (·.1)=none:=by rfl):PG X (.Tuple es k pos) (Qj K n t):=by
 subst hK;exact bA hc h hn hst
end
section
variable(K:Frag){X:Cx}
def TL{bs:List Bool}{us:79}{i:Nat}{v:Value}(h:Vals (bs.map V.bl) us)(e:us[i]?=some v):∃b,bs[i]?=some b/\v=.bool b:=by
 induction bs generalizing us i with
 |nil=>cases h;simp at e
 |cons b bs ih=>cases h with
  |cons r t=>cases i with
   |zero=>simp at e;subst e;exact⟨b,rfl,r⟩
   |succ i=>simpa using ih (i:=i) t (by simpa using e)
def aD:List V->Hp->VK->Prop:=λxs H Q=>∃(a:Addr) (bs:List Bool),xs=[.ref a]/\SqL K H a (bs.map V.bl)/\Q (.bl (bs.any id)) H
def Ln(hc:X.calm=true)(hK:X.K=K:=by rfl):CallR X (.builtin "any") (aD K):=by
 subst hK;intro pins s σ H xs us Q I r h;obtain⟨a,bs,rfl,hq,q⟩:=h;obtain⟨u,rfl,ru⟩:=BU r;cases ru;obtain⟨its,rv,p,hz⟩:=I.list hq;have hl:=p.isList;have hlen:=rv.length;have hlt:a<s.heap.objs.size:=by obtain⟨_,e,_⟩:=hl;exact 84 e
 refine call_any_walk (jk hl ?_);refine⟨59,[59,a],[59],its.toArray.size,_,_,λi=>(bs[i]?).getD false,rfl,Walks.list (A:=X.A.in1) (I.ok.hd hc) _ a (hJ hlt) 120,
  ⟨⟨_,87 _ rfl,rfl,rfl⟩,hl.push _⟩,λi v s' Q' E' hP hQ=>?_,λh' tk hk=>?_⟩
 .obtain⟨b,e,rfl⟩:=TL rv (by simpa using hP);simp only[e,getD_some]at hQ;exact iT hQ
 .have e:((68 its.toArray.size).any λi=>(bs[i]?).getD false)=bs.any id:=by
   rw[gu,<- hlen,gZ];exact LSm.range_any bs
  rw[e];exact⟨.bl _,H,I.kept (LSm.kept_iter hk),rfl,q⟩
def Kf:List V->Hp->VK->Prop:=λxs H Q=>∃(a:Addr) (ns:92),xs=[.ref a]/\SqL K H a (ns.map V.int)/\ns.length<64/\∀(p:Addr) (ns':92),H p=none->ns'.Perm ns->ns'.Pairwise (·<=·)->Q (.ref p) (upd H p (.lst (ns'.map V.int)))
def OU{ns:92}{us:79}(h:IntsAre us ns):Vals (ns.map V.int) us:=Gz h
def Nw(hK:X.K=K:=by rfl):CallR X (.builtin "sorted") (Kf K):=by
 subst hK;intro pins s σ H xs us Q I r h;obtain⟨a,ns,rfl,hq,h64,q⟩:=h;obtain⟨u,rfl,ru⟩:=BU r;cases ru;obtain⟨its,rv,p,hz⟩:=I.list hq;have hlen:=rv.length;rw[gZ]at hlen;refine sorted_ints p.isList (Db rv) 66 λout ns' a1 a2 a3=>?_;obtain⟨e,he⟩:=sortedAll_at s.heap its out;have hl':ns'.length=ns.length:=a2.length_eq;refine⟨.ref (59+1),_,I.laid (a:=59+1) (o:=.lst (ns'.map V.int)) (t':=s.toks) (λb o hb=>sortedAll_old hb) (iN _) ⟨?_,out.toList,e,OU a1,he⟩,rfl,q _ _ (I.hok.fresh (iN _)) a2 a3⟩;rw[gZ,hl'];exact iy (HB 66)
def W7:List V->Hp->VK->Prop:=λxs H Q=>∃(a:Addr) (ns:92),xs=[.ref a]/\SqL K H a (ns.map V.int)/\0<ns.length/\∀M:Int,M∈ns->(∀x∈ns,x<=M)->Q (.int M) H
def Lm(hc:X.calm=true)(hK:X.K=K:=by rfl):CallR X (.builtin "max") (W7 K):=by
 subst hK;intro pins s σ H xs us Q I r h;obtain⟨a,ns,rfl,hq,hne,q⟩:=h;obtain⟨u,rfl,ru⟩:=BU r;cases ru;obtain⟨its,rv,p,hz⟩:=I.list hq;have hi:=Db rv;obtain⟨ys,e⟩:=hi.allInts.items;have hns:ns=ys.toList.map (·.1):=by
  rw[<- hi.numsOf,<- jh,<- e]
 have hsz:0<ys.size:=by
  have h3:=hne;rw[hns,gZ,Array.length_toList]at h3;exact h3
 have hl:=p.isList;rw[e]at hl;refine max_intList (I.ok.hd hc) hl hsz λv h' tk hv hk=>?_;obtain⟨t,rfl⟩:=intItems_at hv;obtain⟨h1,h2⟩:=argBest_gt (numAt ys) (ys.size-1);refine⟨.int _,H,I.kept hk,⟨t,rfl⟩,q _ ?_ λx hx=>?_⟩
 .rw[hns,numAt_eq];exact getD_mem (by rw[gZ,Array.length_toList];omega)
 .rw[hns]at hx;obtain⟨j,hj,rfl⟩:=mem_getD hx;rw[gZ,Array.length_toList]at hj;rw[<- numAt_eq];exact h2 j 66
def W5:List V->Hp->VK->Prop:=λxs H Q=>∃(a:Addr) (ns:92),xs=[.ref a]/\SqL K H a (ns.map V.int)/\0<ns.length/\∀M:Int,M∈ns->(∀x∈ns,M<=x)->Q (.int M) H
def Ll(hc:X.calm=true)(hK:X.K=K:=by rfl):CallR X (.builtin "min") (W5 K):=by
 subst hK;intro pins s σ H xs us Q I r h;obtain⟨a,ns,rfl,hq,hne,q⟩:=h;obtain⟨u,rfl,ru⟩:=BU r;cases ru;obtain⟨its,rv,p,hz⟩:=I.list hq;have hi:=Db rv;obtain⟨ys,e⟩:=hi.allInts.items;have hns:ns=ys.toList.map (·.1):=by
  rw[<- hi.numsOf,<- jh,<- e]
 have hsz:0<ys.size:=by
  have h3:=hne;rw[hns,gZ,Array.length_toList]at h3;exact h3
 have hl:=p.isList;rw[e]at hl;refine min_intList (I.ok.hd hc) hl hsz λv h' tk hv hk=>?_;obtain⟨t,rfl⟩:=intItems_at hv;obtain⟨h1,h2⟩:=argBest_lt (numAt ys) (ys.size-1);refine⟨.int _,H,I.kept hk,⟨t,rfl⟩,q _ ?_ λx hx=>?_⟩
 .rw[hns,numAt_eq];exact getD_mem (by rw[gZ,Array.length_toList];omega)
 .rw[hns]at hx;obtain⟨j,hj,rfl⟩:=mem_getD hx;rw[gZ,Array.length_toList]at hj;rw[<- numAt_eq];exact h2 j 66
end
section
variable{E:76}{s:96}
def Gx{Q:76}(hl:s.heap.IsTuple l (intItems xs))
 (h:∀s₂:Shared,s₂={ s with heap:=s.heap.push { cls:=.type "tuple_iterator",data:=.fields #[.ref l,.int 0 0] } } ->
  (s₂.heap.IsTupleIter 59 l 0/\s₂.heap.IsTuple l (intItems xs))->(∀b∈[59,l],b<s₂.heap.objs.size)->l≠59->Q (.ref 59) s₂):
 wpAny 107 A (pyIter (.ref l)) Q E s:=by
 have hlt:l<s.heap.objs.size:=by obtain⟨_,e,_⟩:=hl;exact 84 e
 refine wpAny_pyIter_tuple hl (h _ rfl ⟨⟨_,87 _ rfl,rfl,rfl⟩,hl.push _⟩ (λb hb=>?_) (hJ hlt));show b<(s.heap.push _).objs.size;rw[Heap.size_push];rcases mem_cons.mp hb with rfl|hb
 .exact Nat.lt_succ_self _
 .rcases mem_cons.mp hb with rfl|hb
  .exact Nat.lt_succ_of_lt hlt
  .cases hb
def LO{h':Heap}(hk:∀b x,b∉[59]->(s.heap.push o).get? b=some x->h'.get? b=some x):∀b x,s.heap.get? b=some x->h'.get? b=some x:=
 λb x e=>hk b x (λhm=>by rw[mem_singleton.mp hm]at e;exact iw _ (84 e)) (70 _ e)
def Mm{Q:76}(hh:A.handled=none)(hl:s.heap.IsTuple l (intItems xs))
 (h:∀h' tk t',(∀b o,s.heap.get? b=some o->h'.get? b=some o)->Q (.int (preSum (numAt xs) xs.size) t') { s with heap:=h',toks:=tk }):
 wpAny 107 A (call (.builtin "sum") [.ref l]) Q E s:=by
 refine call_sum_walkG (Gx hl λs₂ e st hfp hlI=>?_);subst e;refine⟨_,_,_,_,_,_,numAt xs,rfl,Walks.tuple (A:=A.in1) hh _ l hlI (intItems xs),st,hfp,(λ_ _=>intItems_at),λh' tk t' hk=>?_⟩;have:=h h' tk t' (LO hk);simpa [intItems]using this
def NO{Q:76}(hh:A.handled=none)(hl:s.heap.IsTuple l (intItems xs))(hne:0<xs.size)
 (h:∀v h' tk,(intItems xs)[argBest (λi j=>decide (numAt xs i>numAt xs j)) (xs.size-1)]?=some v->(∀b o,s.heap.get? b=some o->h'.get? b=some o)->Q v { s with heap:=h',toks:=tk }):
 wpAny 107 A (call (.builtin "max") [.ref l]) Q E s:=by
 refine call_max_walk (Gx hl λs₂ e st hfp hlI=>?_);subst e;refine⟨_,_,_,_,_,_,_,rfl,Walks.tuple (A:=A.in1) hh _ l hlI (intItems xs),st,hfp,by simpa [intItems]using hne,CmpOf.ints_gt (numAt xs) (λ_ _=>intItems_at),λv h' tk hP hk=>?_⟩;exact h v h' tk (by simpa [intItems]using hP) (LO hk)
end
section
variable(K:Frag){X:Cx}
def W3:List V->Hp->VK->Prop:=λxs H Q=>∃(a:Addr) (ns:92),xs=[.ref a]/\SqT K H a (ns.map V.int)/\Q (.int ns.sum) H
def KI(hc:X.calm=true)(hK:X.K=K:=by rfl):CallR X (.builtin "sum") (W3 K):=by
 subst hK;intro pins s σ H xs us Q I r h;obtain⟨a,ns,rfl,hq,q⟩:=h;obtain⟨u,rfl,ru⟩:=BU r;cases ru;obtain⟨its,rv,p,hz⟩:=I.tuple hq;have hi:=Db rv;obtain⟨xs,hx⟩:=hi.allInts.items;have hl':s.heap.IsTuple a (intItems xs):=hx ▸ (show s.heap.IsTuple a 120 from p);refine Mm (I.ok.hd hc) hl' λh' tk t' hk=>?_;have e1:ns=xs.toList.map (·.1):=by
  rw[<- jh,<- hx];exact(show numsOf its.toArray.toList=ns from hi.numsOf).symm
 have e2:preSum (numAt xs) xs.size=ns.sum:=by
  rw[preSum_eq,List.take_of_length_le 71,e1]
 rw[e2];exact⟨.int ns.sum,H,I.kept hk,⟨_,rfl⟩,q⟩
def W6:List V->Hp->VK->Prop:=λxs H Q=>∃(a:Addr) (ns:92),xs=[.ref a]/\SqT K H a (ns.map V.int)/\0<ns.length/\∀M:Int,M∈ns->(∀x∈ns,x<=M)->Q (.int M) H
def KJ(hc:X.calm=true)(hK:X.K=K:=by rfl):CallR X (.builtin "max") (W6 K):=by
 subst hK;intro pins s σ H xs us Q I r h;obtain⟨a,ns,rfl,hq,hne,q⟩:=h;obtain⟨u,rfl,ru⟩:=BU r;cases ru;obtain⟨its,rv,p,hz⟩:=I.tuple hq;have hi:=Db rv;obtain⟨ys,e⟩:=hi.allInts.items;have hns:ns=ys.toList.map (·.1):=by
  rw[<- hi.numsOf,<- jh,<- e]
 have hsz:0<ys.size:=by
  have h3:=hne;rw[hns,gZ,Array.length_toList]at h3;exact h3
 have hl:s.heap.IsTuple a (intItems ys):=e ▸ (show s.heap.IsTuple a 120 from p);refine NO (I.ok.hd hc) hl hsz λv h' tk hv hk=>?_;obtain⟨t,rfl⟩:=intItems_at hv;obtain⟨h1,h2⟩:=argBest_gt (numAt ys) (ys.size-1);refine⟨.int _,H,I.kept hk,⟨t,rfl⟩,q _ ?_ λx hx=>?_⟩
 .rw[hns,numAt_eq];exact getD_mem (by rw[gZ,Array.length_toList];omega)
 .rw[hns]at hx;obtain⟨j,hj,rfl⟩:=mem_getD hx;rw[gZ,Array.length_toList]at hj;rw[<- numAt_eq];exact h2 j 66
end
structure DefAt(K:Frag)(mg:Str->Option Value)(x:Str)(st:Stmt)(f:Addr)(fd:FuncData)(ps:List Str):Prop where
 fn:Fun K x x st f fd
 mg:mg x=some (.ref f)
 bd:Binds K fd ps []
def QL{X:Cx}{j k:Nat}{st:Stmt}{p:Pos}(F:FnOk X.prog X.w X.K X.mg X.base CX0 j f fd ps sp)(hr:Room k X.A)(D:DefAt X.K X.mg x st f fd ps)(ha:PA X (e::es) t)
 (hjk:j<=k:=by decide) (hg:Gl X x:=by rfl) (hdb:(x==("__debug__":Str))=false:=by decide) (he:starEach (e::es) X.env=(false,eval e X.env)::starEach es X.env:=by rfl) (hpl:(backTo pos (starEach es X.env)).any (·.1)=false:=by rfl):
 PE X (.Call (.Name x p) (e::es) [] pos) (Dg sp [] E0 t):=
 YL (F.mono hjk) hr hg D.mg D.fn.kp D.bd .nil de ha hdb he hpl
def PK:bootBuiltins "list"=some (.type "list"):=by decide +kernel
def bt_tuple:bootBuiltins "tuple"=some (.type "tuple"):=by decide +kernel
def bt_int:bootBuiltins "int"=some (.type "int"):=by decide +kernel
def bt_len:bootBuiltins "len"=some (.builtin "len"):=by decide +kernel
def bt_repr:bootBuiltins "repr"=some (.builtin "repr"):=by decide +kernel
def bt_sum:bootBuiltins "sum"=some (.builtin "sum"):=by decide +kernel
def bt_min:bootBuiltins "min"=some (.builtin "min"):=by decide +kernel
def bt_max:bootBuiltins "max"=some (.builtin "max"):=by decide +kernel
def FV:bootBuiltins "sorted"=some (.builtin "sorted"):=by decide +kernel
def bt_any:bootBuiltins "any"=some (.builtin "any"):=by decide +kernel
def M7:bootBuiltins "isinstance"=some (.builtin "isinstance"):=by decide +kernel
def ne1:¬ (("cells":Str)="next"):=by decide +kernel
def ne2:¬ (("cells":Str)="left"):=by decide +kernel
mutual
theorem IY:∀ns:List Int,PyData.canLayAll0 (ns.map PyData.int)=true
 |[]=>by simp[PyData.canLayAll0]
 |n::ns=>by simp[PyData.canLayAll0,PyData.canLay0,IY ns]
end
end L2
namespace L2
open PySem PySem.Spec PyProof.Rows PySem.W
noncomputable def lCx(X:Cx)(A:Around)(N':List Str)(qual:Str)(scope:Scope)(f:Addr)(cd:Value)(cl:List (Str×Addr))(s:96)(H:Hp):Cx:=
 { X with N:=N',s₀:=s,H₀:=H,A:=A.deeper (envX qual scope s.heap.objs.size f cd cl),env:=envX qual scope s.heap.objs.size f cd cl,outer:=X.stack,stack:=envX qual scope s.heap.objs.size f cd cl::X.stack,ex:=[],fn:=λ_=>false,calm:=true,pn:=[],xe:=λ_ _=>False }
structure LSc(scope:Scope)(p:Str):Prop where
 nocell:(scope.names.all λy=>y.2 != .cell)=true
 par:scope.names.lookup p=some .local
 co:scope.isCoroutine=false
 gen:scope.isGenerator=false
section
def LSc.ne(L:LSc scope p):∀y∈90,y.2≠.cell:=λy hy e=>by
 have:=all_eq_true.mp L.nocell y hy;rw[e]at this
 revert this;decide
def Yq(S:CSc X scope fr ix)(L:LSc scope p)(I:73){A:Around}(hf:A.frames=X.A.frames)(hh:A.handled=none){h':Heap}{t':Nat}
 (hk:∀b o,s.heap.get? b=some o->h'.get? b=some o) (hn:h'.Ns 59 λy=>if y=p then some u else none) (r:RelV x u):
 Inv (lCx X A (p::fr) qual scope f cd (Ab X.env.cells 90 []) s H) [] (some x::ix.map λi=>(σ[i]?).join) H { s with heap:=h',toks:=t' }:=by
 have lenix:fr.length=ix.length:=by simpa using hX List.length S.ixs
 have co:∀x c,(Ab X.env.cells 90 []).lookup x=some c->X.env.cells.lookup x=some c:=λx c e=>Dv (S.clos I.ok) (λ_ _ z=>by simp at z) x c e;refine⟨⟨I.ok.mod,S.kind,rfl,rfl,gk _,?_,?_,?_,λ_=>hh,Around.frames_deeper (hf.trans I.ok.frames),.inr ⟨rfl,rfl⟩,?_,I.bs,gw I.ok.bsz I.sz,?_,?_,I.stack,I.stkFree⟩,rfl,I.bare,Un.kept hk,⟨_,hn,?_⟩,?_,I.hok.fresh (gk _),?_,?_,I.hok.kept hk,?_⟩
 .intro x y c e1 e2;exact I.ok.inj x y c (co x c e1) (co y c e2)
 .intro x hx;rcases hx with e|e
  .exact absurd rfl (L.ne (x,.cell) (PySem.mem_of_lookup e))
  .exact isSome_iff_exists.mp (D8 (.inr (PySem.mem_of_lookup e)))
 .intro x c hf;cases hf
 .intro b hb;cases hb
 .intro b o e hb;cases hb
 .intro b hb;cases hb
 .intro i y v e1 e2 e3;cases i with
  |zero=>
   have e1:some p=some y:=e1;have e2:some (some x)=some (some v):=e2;cases e1;cases e2;exact⟨u,r,.inl ⟨L.par,gb rfl⟩⟩
  |succ j=>
   have e1:fr[j]?=some y:=e1;have e2:(ix.map λi=>(σ[i]?).join)[j]?=some (some v):=e2;rw[List.getElem?_map]at e2;have e4:(fr.map some)[j]?=some (some y):=by rw[List.getElem?_map,e1];rfl
   rw[S.ixs,List.getElem?_map]at e4;cases q:ix[j]? with
   |none=>rw[q]at e2;cases e2
   |some k=>
    rw[q]at e2 e4;have e2:(σ[k]?).join=some v:=104 e2;have e4:X.N[k]?=some y:=104 e4;have e5:σ[k]?=some (some v):=by
     cases w:σ[k]? with
     |none=>rw[w]at e2;cases e2
     |some z=>rw[w]at e2;simpa using e2
    have hfx:=all_eq_true.mp S.frs y (i6 e1);have hfx:scope.names.lookup y=some .free:=by simpa using hfx
    have hmem:=PySem.mem_of_lookup hfx;have hout:=S.outer hmem rfl;obtain⟨m,hm,hl⟩:=I.loc;obtain⟨u',r',l⟩:=hl k y v e4 e5 (.inr hout);refine⟨u',r',.inr ⟨.inr hfx,?_⟩⟩;rcases l with⟨kk,_⟩|⟨kk,c,ec,z⟩
    .rcases hout with w|w
     .rw[kk]at w;cases w
     .rw[kk]at w;cases w
    .obtain⟨d,hd⟩:=isSome_iff_exists.mp (D8 (cells:=X.env.cells) (acc:=[]) (.inr hmem));have:=co y d hd;rw[ec]at this;cases this;exact⟨c,hd,z.keeps hk⟩
 .intro x c e;obtain⟨v,z⟩:=I.cell x c (co x c e);exact⟨v,z.keeps hk⟩
 .intro x c e;exact I.freeC x c (co x c e)
 .intro p hp;cases hp
 .show(_::_:List (Option V)).length=(p::fr).length;simp[lenix]
def NU(S:CSc X scope fr ix)(L:LSc scope p)(I:73){A:Around}(hf:A.frames=X.A.frames)(hr:Room 1 A){x:V}{u:Value}{tb:TE}{Q:VK}
 (ho:s.heap.get? f=some { cls:=.type "function",data:=.func (kla_fn "<lambda>" qual params body scope (Ab X.env.cells 90 []) pm cd ctv) }) (hcd:s.heap.CodeRec cd qual)
 (hb:∀us:Value,bindArgs (kla_fn "<lambda>" qual params body scope (Ab X.env.cells 90 []) pm cd ctv) ⟨[us],[]⟩=pure [(p,us)])
 (he:∀(s:96) (H:Hp),PE (lCx X A (p::fr) qual scope f cd (Ab X.env.cells 90 []) s H) body tb) (r:RelV x u) (h:tb (some x::ix.map λi=>(σ[i]?).join) H Q):
 wpAny 69 A (call (.ref f) [u]) (EP X pins σ Q) (λ_ _=>False) s:=by
 refine wpAny_call (ja (R:=λres s'=>match res with|.ok (.ret u)=>EP X pins σ Q u s'|_=>False) (kla_callFunE hr.depth ho rfl L.co L.gen rfl hcd ?_) ?_)
 .rw[hb];refine gn ?_;refine wpAny_newFunctionEnv L.ne (λy hy=>by rw[hE]at hy;subst hy;exact L.par) (λh' hns hsb=>⟨?_,?_⟩) S.kind
  .have hk:∀b o,s.heap.get? b=some o->h'.get? b=some o:=λb o e=>(hsb.2 b (hJ (84 e))).trans (70 _ e);exact I.nolimit.keeps hk
  .have hk:∀b o,s.heap.get? b=some o->h'.get? b=some o:=λb o e=>(hsb.2 b (hJ (84 e))).trans (70 _ e);have hns':h'.Ns 59 λy=>if y=p then some u else none:=by
    have e:(λy=>([(p,u)]:List (Str×Value)).reverse.lookup y)=λy=>if y=p then some u else none:=by
     funext y
     simp only[List.reverse_cons,List.reverse_nil,iL,hZ,List.lookup_nil];by_cases hy:y=p
     .subst hy;simp
     .have hb':(y==p)=false:=beq_eq_false_iff_ne.mpr hy;simp[hb',hy]
    rw[<- e];exact hns
   have J:=Yq (t':=s.toks+1) (qual:=qual) (f:=f) (cd:=cd) S L I hf hr.hd hk hns' r;refine kla_codeExpr (i3 (he s H [] _ _ H Q J h) (λv s' hv=>?_) λ_ _ z=>z.elim);obtain⟨y,H',J',ry,q⟩:=hv;obtain⟨hh,g,d,t,os'⟩:=s';obtain rfl:os'=s.os:=J'.os;exact⟨y,H',I.call (h':=hh) (g':=g) (d':=d) (t':=t) (ch:=[]) J'.base J'.hok J'.bare (λb z=>absurd z 71),ry,q⟩
 .intro res s' hq;cases res with
  |error e=>exact hq
  |ok fl=>
   cases fl with
   |ret u=>exact hq
   |next=>exact hq
   |brk=>exact hq
   |cont=>exact hq
end
def cdF(c:Addr)(q:Str):Heap->Prop:=λh=>h.CodeRec (.ref c) q
def EI(H:Hp)(q:Str)(pos:Pos)(ps:Array Value):Prop:=ps=#[]∨∃c,ps=#[rawInt pos.line,rawInt pos.col,.ref c]/\H c=some (.ext (cdF c q))
def TabStep(P:Addr)(q:Str)(pos:Pos)(H H':Hp):Prop:=H'=H∨∃c,H c=none/\c≠P/\H'=upd (upd H P (.tbl #[rawInt pos.line,rawInt pos.col,.ref c])) c (.ext (cdF c q))
structure LamAt(X:Cx)(c P:Addr):Prop where
 code:X.env.code=.ref c
 hd:CodeHd X.base c P
 bl:X.base.BuiltinsAt X.mg P
section
def Yp(I:73)(hP:H P=some (.tbl ps)){h':Heap}{t':Nat}(hx:∀b o,b≠P->s.heap.get? b=some o->h'.get? b=some o)(hc:59<=c')
 (hrec:h'.CodeRec (.ref c') q) (htb:h'.get? P=some (tabObj (ps++ps'))):Inv X pins σ (upd (upd H P (.tbl (ps++ps'))) c' (.ext (cdF c' q))) { s with heap:=h',toks:=t' }:=by
 have hcn:H c'=none:=I.hok.fresh hc;have hPc:P≠c':=AJ hP hcn;have nP:∀b,H b=none->b≠P:=λb n z=>by subst z;rw[hP]at n;cases n
 have other:∀b,b≠P->b≠c'->upd (upd H P (.tbl (ps++ps'))) c' (.ext (cdF c' q)) b=H b:=λb h1 h2=>by rw[upd_ne h2,upd_ne h1]
 have ne':∀b u,H b=some u->b≠c':=λb u e=>AJ e hcn;refine I.un (h':=h') (t':=t') ⟨λb o e n _ _=>hx b o (nP b n) e,λb o e n _ _=>⟨o.slots,hx b o (nP b n) e⟩,λb o e n _=>?_,λb o e _=>?_,λb xs e=>?_,λb o u e=>?_,λb qs e=>?_⟩ λb u e=>?_
 .rw[other b (nP b n) (hJ (i8 (Heap.lt_size e) hc))];exact n
 .by_cases z:b=P
  .subst z;exact⟨_,htb⟩
  .exact⟨o,hx b o z e⟩
 .rw[other b (λz=>by subst z;rw[hP]at e;cases e) (ne' b _ e)];exact e
 .rw[other b (λz=>by subst z;rw[hP]at e;cases e) (ne' b _ e)];exact e
 .by_cases z:b=P
  .subst z;rw[hP]at e;cases e;exact⟨ps',by rw[upd_ne hPc,AG]⟩
  .exact⟨#[],by rw[other b z (ne' b _ e),e];simp⟩
 .by_cases z:b=c'
  .subst z;rw[AG]at e;cases e;obtain⟨c0,o,vs,t,e0,r⟩:=id hrec;cases e0;refine⟨hrec,⟨o,r.1⟩,λh1 h2 q1 k=>?_⟩;obtain⟨c1,o1,vs1,t1,e1,g1,r1⟩:=q1;cases e1;exact⟨_,o1,vs1,t1,rfl,k _ g1,r1⟩
  .by_cases z2:b=P
   .subst z2;rw[upd_ne hPc,AG]at e;cases e;exact htb
   .rw[other b z2 z]at e;refine(I.hok b u e).stay (λd v hd q=>hx d v ?_ q) (λd q=>?_) λd xs q=>?_
    .rcases hd with rfl|hd
     .exact z2
     .intro y;subst y;rw[hP]at hd;cases hd
    .rw[other d (λy=>by subst y;rw[hP]at q;cases q) (ne' d _ q)];exact q
    .rw[other d (λy=>by subst y;rw[hP]at q;cases q) (ne' d _ q)];exact q
structure Made(X:Cx)(scope:Scope)(params:Arguments)(body:Expr)(P:Addr)(q:Str)(pos:Pos)(s:96)(H H':Hp)(f:Addr)(cd ctv:Value)(s':96):Prop where
 fn:s'.heap.get? f=some { cls:=.type "function",data:=.func (kla_fn "<lambda>" q params body scope (Ab X.env.cells 90 []) ((X.mg "__name__").getD .none) cd ctv) }
 cdc:∃c,cd=.ref c/\H' c=some (.ext (cdF c q))
 step:TabStep P q pos H H'
 new:59<=f
 fre:H' f=none
def JC(S:CSc X scope fr ix)(LA:LamAt X c P)(I:73){E:76}{Q:76}(hdef:defaultsOf params X.env=([],[]))
 (hP:H P=some (.tbl ps)) (hg:EI H 98 pos ps)
 (h:∀f cd ctv H' s',Inv X pins σ H' s'->Made X scope params body P 98 pos s H H' f cd ctv s'->Q (.ref f) s'):
 wpAny 69 A (eval (.Lambda params body scope pos) X.env) Q E s:=by
 have hcl:closureFor scope X.env=pure (Ab X.env.cells 90 []):=Ec (S.clos I.ok);have hns:=I.mod.glob.keeps I.bk;have hb:=LA.bl.keeps I.bk;have hcd:=LA.hd.keeps I.bk;have hobj:s.heap.get? P=some (tabObj ps):=I.hok P _ hP;have hgP:mainGlobals≠P:=λz=>by
  obtain⟨o,es,ep,e,hd,_⟩:=hns;rw[z,hobj]at e;cases e;cases hd
 refine kla_eval hdef ?_;rcases hg with rfl|⟨c',rfl,hc'⟩
 .refine kla_makeFunction hcl I.ok.glob hns LA.code hcd hobj trivial rfl hgP hb λc' ctv h' tk hx hge hlt hrec htb=>?_;have hx':∀b o,b≠P->s.heap.get? b=some o->(h'.push (kla_obj "<lambda>" 98 params body scope (Ab X.env.cells 90 []) ((X.mg "__name__").getD .none) c' ctv)).get? b=some o:=λb o n e=>70 _ (hx b o n e);have J:=Yp (t':=tk) I hP hx' hge (hrec.push _) (70 _ htb);refine h _ _ ctv _ _ J ⟨87 _ rfl,⟨c',rfl,AG⟩,.inr ⟨c',I.hok.fresh hge,(AJ hP (I.hok.fresh hge)).symm,?_⟩,?_,?_⟩
  .simp
  .exact gw hge (iy hlt)
  .have hs:59<=h'.objs.size:=gw hge (iy hlt);rw[upd_ne (ne_of_gt hlt),upd_ne (ne_of_gt (i8 (Heap.lt_size hobj) hs))];exact I.hok.fresh hs
 .have hrec:s.heap.CodeRec (.ref c') 98:=(I.hok c' _ hc').1;have hf:codeAmong pos (#[rawInt pos.line,rawInt pos.col,Value.ref c']:Array Value).toList=some (.ref c'):=by simp[codeAmong,rawInt]
  refine kla_makeFunctionHit hcl I.ok.glob hns LA.code hcd hobj (by simp[TriplesOk,rawInt]) hf hb λctv h' tk hk hsz=>?_;have hk':∀b o,s.heap.get? b=some o->(h'.push { cls:=.type "function",data:=.func (kla_fn "<lambda>" 98 params body scope (Ab X.env.cells 90 []) ((X.mg "__name__").getD .none) (.ref c') ctv) }).get? b=some o:=λb o e=>70 _ (hk b o e);exact h _ _ ctv _ _ (I.kept (t':=tk) hk') ⟨87 _ rfl,⟨c',rfl,hc'⟩,.inl rfl,hsz,I.hok.fresh hsz⟩
end
end L2
namespace L2
open PySem PySem.Spec PyProof.Rows
def Exo(h:Heap)(a C:Addr)(dx:Option Addr)(tb:Value):Prop:=∃vs sl,h.get? a=some ⟨.ref C,dx,.fields vs,sl⟩/\vs[1]?=some tb
end L2
namespace L2
open PySem PySem.Spec PyProof.Rows
open Builtin Builtin.ObjectAttr
def XO(a C:Addr)(dx:Option Addr)(h:Heap):Prop:=∃tb,Exo h a C dx tb
def XdAt(H:Hp):Option Addr->List (Str×V)->Prop
 |none,fs=>fs=[]
 |some d,fs=>H d=some (.xd fs)
end L2
namespace L2
open PySem PySem.Spec PyProof.Rows
def XdAt.grow(g:Grow H H')(h:XdAt H dx fs):XdAt H' dx fs:=by
 cases dx with
 |none=>exact h
 |some d=>exact g.keep _ _ trivial h
def ExR(K:Frag)(nm:Str)(fs:List Str)(H:Hp)(a:Addr)(xs:List V):Prop:=∃C dx,eG K nm=some C/\H a=some (.ext (XO a C dx))/\XdAt H dx (fs.zip xs)/\88=fs.length
theorem ExR.grow{K:Frag}(g:Grow H H')(h:ExR K nm fs H a xs):ExR K nm fs H' a xs:=
 let ⟨C,dx,h1,h2,h3,h4⟩:=h;⟨C,dx,h1,g.keep _ _ trivial h2,h3.grow g,h4⟩
end L2
namespace L2
open PySem PySem.Spec PyProof.Rows PySem.W
structure CapOk(q:Str)(params:Arguments)(scope:Scope)(body:Expr)(p1 p2 x:Str):Prop where
 ne:p1≠p2
 n1:p1≠x
 n2:p2≠x
 l1:LSc scope p1
 l2:LSc scope p2
 lx:scope.names.lookup x=some .free
 only:(scope.names.all λy=>y.2 != .free||y.1==x)=true
 kind:scope.kind=.function
 d1:(p1==("__debug__":Str))=false
 d2:(p1==("__classdict__":Str))=false
 d3:(x==("__debug__":Str))=false
 d4:(x==("__classdict__":Str))=false
 bind:∀(cl:List (Str×Addr)) (pm cd ctv u v:Value),bindArgs (kla_fn "<lambda>" q params body scope cl pm cd ctv) ⟨[u,v],[]⟩=pure [(p1,u),(p2,v)]
def fnG(f c:Addr)(q:Str)(cl:Addr):Heap->Prop:=λh=>∃params scope p1 p2 x px pp pos pm ctv,h.get? f=some { cls:=.type "function",data:=.func (kla_fn "<lambda>" q params (.Subscript (.Name x px) (.Name p1 pp) pos) scope [(x,cl)] pm (.ref c) ctv) }/\CapOk q params scope (.Subscript (.Name x px) (.Name p1 pp) pos) p1 p2 x
def KH(o:Obj)(a0:Addr):Prop:=o.data=.cell (some (.ref a0))
noncomputable abbrev Fk:HO:=.ext λ_=>True
def FvR(k:Nat)(H:Hp)(a:Addr)(xs:List V):Prop:=k=1/\∃c q cl a0 o1 o2,H a=some (.ext (fnG a c q cl))/\H c=some (.ext (cdF c q))/\KH o1 a0/\H cl=some (.frz o1 Fk)/\H a0=some (.frz o2 (.lst xs))
def FvR.grow{k:Nat}(g:Grow H H')(h:FvR k H a xs):FvR k H' a xs:=by
 obtain⟨h1,c,q,cl,a0,o1,o2,h2,h3,h4,h5,h6⟩:=h;exact⟨h1,c,q,cl,a0,o1,o2,g.keep _ _ trivial h2,g.keep _ _ trivial h3,h4,g.keep _ _ trivial h5,g.keep _ _ trivial h6⟩
noncomputable def del(H:Hp)(c:Addr):Hp:=λb=>if b=c then none else H b
def ER(h:b≠c):del H c b=H b:=gh h
def JN:del H c c=none:=gb rfl
def FH(h:H b=none):del H c b=none:=by unfold del;split<;>first|rfl|exact h
def JM(h:del H c b=some o):b≠c/\H b=some o:=by
 unfold del at h;split at h
 .cases h
 .next n=>exact⟨n,h⟩
theorem HOk.del(k:HOk P w H h)(e:H c=some (.frz o u)):HOk P w (del H c) h:=λa ho q=>by
 obtain⟨n,q⟩:=JM q;refine(k a ho q).stay (λ_ _ _ z=>z) (λb z=>?_) λb xs z=>?_
 .rw[ER λy=>by subst y;rw[e]at z;cases z];exact z
 .rw[ER λy=>by subst y;rw[e]at z;cases z];exact z
def HOk.undel(k:HOk P w (L2.del H c) h)(e:H c=some (.frz o Fk))(g:h.get? c=some o):HOk P w H h:=λa ho q=>by
 by_cases n:a=c
 .subst n;rw[e]at q;cases q;exact⟨g,trivial,⟨_,g⟩,λ_ _ _ _=>trivial⟩
 .exact(k a ho (by rw[ER n];exact q)).stay (λ_ _ _ z=>z) (λb z=>(JM z).2) λb xs z=>(JM z).2
section
def Yr(S:CapOk q params scope body p1 p2 xn)(I:73)(hl:H cl=some (.frz o1 Fk))(hc:KH o1 a0){A:Around}(hf:A.frames=X.A.frames)(hh:A.handled=none){h':Heap}{t':Nat}
 (hk:∀b o,s.heap.get? b=some o->h'.get? b=some o) (hn:h'.Ns 59 λz=>([(p1,u),(p2,v)]:List (Str×Value)).reverse.lookup z) (r:RelV x u) (r2:RelV y v):
 Inv (lCx X A [p1,p2,xn] qual scope f cd [(xn,cl)] s (del H cl)) [] [some x,some y,some (.ref a0)] (del H cl) { s with heap:=h',toks:=t' }:=by
 have gc:s.heap.get? cl=some o1:=(I.hok cl _ hl).1;have only:∀z c,([(xn,cl)]:List (Str×Addr)).lookup z=some c->z=xn/\c=cl:=λz c e=>by
  rw[hZ]at e;split at e
  .next h=>cases e;exact⟨eq_of_beq h,rfl⟩
  .cases e
 refine⟨⟨I.ok.mod,S.kind,rfl,rfl,gk _,?_,?_,?_,λ_=>hh,Around.frames_deeper (hf.trans I.ok.frames),.inr ⟨rfl,rfl⟩,?_,λb o e=>⟨(I.bs b o e).1,FH (I.bs b o e).2⟩,gw I.ok.bsz I.sz,?_,?_,I.stack,λb hb=>FH (I.stkFree b hb)⟩,rfl,I.bare,Un.kept hk,⟨_,hn,?_⟩,?_,FH (I.hok.fresh (gk _)),?_,?_,(I.hok.del hl).kept hk,?_⟩
 .intro x y c e1 e2;exact(only x c e1).1.trans (only y c e2).1.symm
 .intro x hx;rcases hx with e|e
  .exact absurd rfl (S.l1.ne (x,.cell) (PySem.mem_of_lookup e))
  .have:=all_eq_true.mp S.only _ (PySem.mem_of_lookup e);have hx:x=xn:=by simpa using this
   subst hx;exact⟨cl,by simp[lCx,envX]⟩
 .intro x c hf;cases hf
 .intro b hb;cases hb
 .intro b o e hb;cases hb
 .intro b hb;cases hb
 .intro i z w e1 e2 e3
  match i,e1,e2 with
  |0,e1,e2=>
   have e1:some p1=some z:=e1;have e2:some (some x)=some (some w):=e2;cases e1;cases e2;refine⟨u,r,.inl ⟨S.l1.par,?_⟩⟩;have hb:(p1==p2)=false:=beq_eq_false_iff_ne.mpr S.ne;simp[hZ,hb]
  |1,e1,e2=>
   have e1:some p2=some z:=e1;have e2:some (some y)=some (some w):=e2;cases e1;cases e2;exact⟨v,r2,.inl ⟨S.l2.par,by simp[hZ]⟩⟩
  |2,e1,e2=>
   have e1:some xn=some z:=e1;have e2:some (some (V.ref a0))=some (some w):=e2;cases e1;cases e2;exact⟨.ref a0,rfl,.inr ⟨.inr S.lx,cl,by simp[lCx,envX],o1,hk _ _ gc,hc⟩⟩
  |i+3,e1,e2=>cases e1
 .intro x c e;obtain⟨_,rfl⟩:=only x c e;exact⟨_,o1,hk _ _ gc,hc⟩
 .intro x c e;obtain⟨_,rfl⟩:=only x c e;exact JN
 .intro p hp;cases hp
 .rfl
def Vj(I:73){A:Around}(hf:A.frames=X.A.frames)(hr:Room 1 A){j:Int}(ho:H f=some (.ext (fnG f c q cl)))(hc:H c=some (.ext (cdF c q)))(h1:KH o1 a0)(hl:H cl=some (.frz o1 Fk))(ha:H a0=some (.frz o2 (.lst xs)))(rx:RelV (.int j) u)(ry:RelV y v)(hz:atI xs j=some z)(h:Q z H):
 wpAny 69 A (call (.ref f) [u,v]) (EP X pins σ Q) (λ_ _=>False) s:=by
 obtain⟨params,scope,p1,p2,xn,px,pp,pos,pm,ctv,ho',S⟩:=(I.hok f _ ho).1;have gc:s.heap.get? cl=some o1:=(I.hok cl _ hl).1;have hcd:s.heap.CodeRec (.ref c) q:=(I.hok c _ hc).1;have he:∀(s:96) (H:Hp),PE (lCx X A [p1,p2,xn] q scope f (.ref c) [(xn,cl)] s H) (.Subscript (.Name xn px) (.Name p1 pp) pos) (tOp (Iv X.K) (Mg 2) (Mg 0)):=λs H=>QK P0 (NH rfl (.inr (.inr S.lx)) S.d3 S.d4) (NH rfl (.inl S.l1.par) S.d1 S.d2) λ_ _=>rfl;have nac:a0≠cl:=λe=>by subst e;rw[hl]at ha;cases ha
 refine wpAny_call (ja (R:=λres s'=>match res with|.ok (.ret u)=>EP X pins σ Q u s'|_=>False) (kla_callFunE hr.depth ho' rfl S.l1.co S.l1.gen rfl hcd ?_) ?_)
 .rw[S.bind];refine gn ?_;refine wpAny_newFunctionEnv S.l1.ne (λy hy=>?_) (λh' hns hsb=>⟨?_,?_⟩) S.kind
  .rcases mem_cons.mp hy with rfl|hy
   .exact S.l1.par
   .rw[hE]at hy;subst hy;exact S.l2.par
  .have hk:∀b o,s.heap.get? b=some o->h'.get? b=some o:=λb o e=>(hsb.2 b (hJ (84 e))).trans (70 _ e);exact I.nolimit.keeps hk
  .have hk:∀b o,s.heap.get? b=some o->h'.get? b=some o:=λb o e=>(hsb.2 b (hJ (84 e))).trans (70 _ e);have J:=Yr (t':=s.toks+[(p1,u),(p2,v)].length) (qual:=q) (f:=f) (cd:=.ref c) S I hl h1 hf hr.hd hk hns rx ry;refine kla_codeExpr (i3 (he s (del H cl) [] _ [some (.int j),some y,some (.ref a0)] (del H cl) (λw H'=>H'=del H cl/\w=z) J ⟨.ref a0,rfl,.int j,rfl,a0,xs,j,z,rfl,rfl,.inl (.inr ⟨o2,by rw[ER nac];exact ha⟩),hz,rfl,rfl⟩) (λv s' hv=>?_) λ_ _ z=>z.elim);obtain⟨y,H',J',ry,rfl,rfl⟩:=hv;obtain⟨hh,g,d,t,os'⟩:=s';obtain rfl:os'=s.os:=J'.os;have nfr:cl∉frs X.stack:=λm=>by have:=I.stkFree cl m;rw[hl]at this;cases this
   have gc':hh.get? cl=some o1:=J'.base.keep cl o1 gc JN nfr (by intro m;cases m);have un:Un (frs X.stack) [] H H s.heap hh:=⟨λb o e n m1 m2=>J'.base.keep b o e (FH n) m1 m2,λb o e n m1 m2=>J'.base.slot b o e (FH n) m1 m2,λb o e n _=>n,λb o e m=>J'.base.there b o e m,λ_ _ q=>q,λ_ _ _ q=>q,λb ps q=>⟨#[],by rw[q];simp⟩⟩
   exact⟨_,H,I.call (h':=hh) (g':=g) (d':=d) (t':=t) (ch:=[]) un (J'.hok.undel hl gc') J'.bare (λb z=>absurd z 71),ry,h⟩
 .intro res s' hq;cases res with
  |error e=>exact hq
  |ok fl=>
   cases fl with
   |ret u=>exact hq
   |next=>exact hq
   |brk=>exact hq
   |cont=>exact hq
end
end L2
namespace L2
open PySem PySem.Spec PyProof.Rows
inductive I where
 |non|bl (b:Bool)|int (i:Int)|str (x:Str)|tup (ds:List I)
inductive D where
 |im (i:I)|mu (n:Nat)|tm (ds:List D)|ro (ns:92)|op (nm:Str) (fs:List Str) (ds:List D)|fv (k:Nat) (ds:List D)
inductive MO where
 |lst (ds:List D)|dic (kvs:List (Key×D))
noncomputable abbrev Hd:=List MO
noncomputable abbrev Ls:=List (Option D)
def RoL(K:Frag)(H:Hp)(a:Addr)(xs:List V):Prop:=(∃o,H a=some (.frz o (.lst xs))) ∨
 ∃(o:Obj) (its:Array Value) (n:Nat),K.lookup a=some o/\o.cls=.type "list"/\o.dict=none/\o.data=.seq its n/\its.size<=sizeLine/\Vals xs its.toList
def RoL.sq{K:Frag}(h:RoL K H a xs):SqL K H a xs:=by
 rcases h with⟨o,h⟩|h
 .exact .inl (.inr ⟨o,h⟩)
 .exact .inr h
def RoL.grow{K:Frag}(g:Grow H H')(h:RoL K H a xs):RoL K H' a xs:=by
 rcases h with⟨o,h⟩|h
 .exact .inl ⟨o,g.frz _ _ _ h⟩
 .exact .inr h
def Bh(n:Nat):Prop:=n<=sizeLine
def Dq(n:Nat):Prop:=n<sizeLine
def Eg(i j:Int):Prop:=(-(2^64)<i/\i<2^64)∨(-(2^64)<j/\j<2^64)
def QD(i j:Int):Prop:=0<=j/\j<=1000000/\i.natAbs<2^64
def MQ(j:Int):Prop:=0<j/\j<1073741824
def EC(j:Int):Prop:=0<j
def GN(j:Int):Prop:=-(2^62)<=j/\j<2^62
def gQ(i j:Int):Prop:=(-(2^62)<=i/\i<2^62)/\-(2^62)<=j/\j<2^62
def Ht(j:Int):Prop:=j<2^24/\-(2^62)<=j
def Vx(i j:Int):Prop:=(-(2^62)<=i/\i<2^62)/\(-(2^62)<=j/\j<2^62)/\(j-i).toNat<=2^24
def AO{n:Nat}(h:n<=1000000):Bh n:=gw h (by rw[ip];decide)
def BB{n:Nat}(h:n<1000000):Dq n:=i8 h (by rw[ip];decide)
def DZ{i j:Int}(a:-1000000000000<=i)(b:i<=1000000000000):Eg i j:=.inl ⟨by omega,by omega⟩
def Hy{i j:Int}(a:-1000000000000<=j)(b:j<=1000000000000):Eg i j:=.inr ⟨by omega,by omega⟩
def CA{j:Int}(a:-1000000000000<=j)(b:j<=1000000000000):GN j:=⟨by omega,by omega⟩
def Ip{j:Int}(a:-1000000000000<=j)(b:j<=1000000):Ht j:=⟨by omega,by omega⟩
section
variable(K:Frag)
mutual
def RI(H:Hp):I->V->Prop
 |.non,v=>v=.non
 |.bl b,v=>v=.bl b
 |.int i,v=>v=.int i
 |.str x,v=>v=.str x
 |.tup ds,v=>∃a xs,v=.ref a/\SqT K H a xs/\RIs H ds xs
def RIs(H:Hp):List I->List V->Prop
 |[],xs=>xs=[]
 |d::ds,xs=>∃x r,xs=x::r/\RI H d x/\RIs H ds r
end
mutual
def RD(ρ:108)(H:Hp):D->V->Prop
 |.im i,v=>RI K H i v
 |.mu n,v=>∃a,ρ[n]?=some a/\v=.ref a
 |.tm ds,v=>∃a xs,v=.ref a/\SqT K H a xs/\RDs ρ H ds xs
 |.ro ns,v=>∃a,v=.ref a/\RoL K H a (ns.map V.int)
 |.op nm fs ds,v=>∃a xs,v=.ref a/\ExR K nm fs H a xs/\RDs ρ H ds xs
 |.fv k ds,v=>∃a xs,v=.ref a/\FvR k H a xs/\RDs ρ H ds xs
def RDs(ρ:108)(H:Hp):List D->List V->Prop
 |[],xs=>xs=[]
 |d::ds,xs=>∃x r,xs=x::r/\RD ρ H d x/\RDs ρ H ds r
end
def RKs(ρ:108)(H:Hp):List (Key×D)->List (Key×V)->Prop
 |[],xs=>xs=[]
 |d::ds,xs=>∃x r,xs=x::r/\x.1=d.1/\RD K ρ H d.2 x.2/\RKs ρ H ds r
def RC(ρ:108)(H:Hp):MO->HO->Prop
 |.lst ds,o=>∃xs,o=.lst xs/\RDs K ρ H ds xs
 |.dic kvs,o=>∃kv,o=.dK kv/\RKs K ρ H kvs kv
noncomputable def MC:List Value->List (Addr×Str×Pos)
 |.ref P::.str q _::.int l _::.int c _::r=>(P,q,⟨l.toNat,c.toNat,0,0⟩)::MC r
 |_=>[]
noncomputable def d7(o:Obj):List (Addr×Str×Pos):=match o.cls,o.data with
 |.str _ _,.fields vs=>MC vs.toList
 |_,_=>[]
noncomputable def Cl(K:Frag):List (Addr×Str×Pos):=match K.getLast? with
 |some p=>d7 p.2
 |none=>[]
def TabsOk(K:Frag)(H:Hp):Prop:=∀x∈Cl K,∃ps,H x.1=some (.tbl ps)/\EI H x.2.1 x.2.2 ps
structure RH(ρ:108)(H:Hp)(hd:Hd):Prop where
 len:ρ.length=hd.length
 nd:ρ.Nodup
 tabs:TabsOk K H
 ob:∀(n:Nat) (o:MO) (a:Addr),hd[n]?=some o->ρ[n]?=some a->∃ho,H a=some ho/\RC K ρ H o ho
structure RL(ρ:108)(H:Hp)(ls:Ls)(σ:St):Prop where
 len:ls.length=σ.length
 ob:∀(i:Nat) (d:D),ls[i]?=some (some d)->∃v,σ[i]?=some (some v)/\RD K ρ H d v
end
structure Ext(ρ:108)(H:Hp)(ρ':108)(H':Hp):Prop where
 pre:∃r,ρ'=ρ++r/\∀b∈r,H b=none
 keep:∀b o,H b=some o->b∉ρ->(∀ps,o≠.tbl ps)->H' b=some o
 tab:∀b ps,H b=some (.tbl ps)->∃ps',H' b=some (.tbl ps')
def nt{o:HO}(h:match o with|.tbl _=>False|_=>True:=by trivial):∀ps,o≠.tbl ps:=λps e=>by subst e;exact h
theorem TabsOk.upd{K:Frag}(t:TabsOk K H)(h1:∀ps,H a≠some (.tbl ps))(h2:∀φ,H a≠some (.ext φ)):TabsOk K (upd H a ho):=λx hx=>by
 obtain⟨ps,e,g⟩:=t x hx;have ne:x.1≠a:=λz=>h1 ps (by rw[<- z];exact e);refine⟨ps,by rw[upd_ne ne];exact e,?_⟩;rcases g with g|⟨c,g1,g2⟩
 .exact .inl g
 .have nc:c≠a:=λz=>h2 _ (by rw[<- z];exact g2);exact .inr ⟨c,g1,by rw[upd_ne nc];exact g2⟩
section
variable{K:Frag}{hd':Hd}
mutual
theorem RI.grow(g:Grow H H'):∀{i:I} {v:V},RI K H i v->RI K H' i v
 |.non,v,h=>by simpa only[RI]using h
 |.bl b,v,h=>by simpa only[RI]using h
 |.int b,v,h=>by simpa only[RI]using h
 |.str b,v,h=>by simpa only[RI]using h
 |.tup ds,v,h=>by
  simp only[RI]at h ⊢;obtain⟨a,xs,e,q,r⟩:=h;exact⟨a,xs,e,g.sq q,RIs.grow g r⟩
theorem RIs.grow(g:Grow H H'):∀{i:List I} {v:List V},RIs K H i v->RIs K H' i v
 |[],v,h=>by simpa only[RIs]using h
 |d::ds,v,h=>by
  simp only[RIs]at h ⊢;obtain⟨x,r,e,q,z⟩:=h;exact⟨x,r,e,q.grow g,RIs.grow g z⟩
end
def RH.mut(h:RH K ρ H hd)(m:a∈ρ):(∃xs,H a=some (.lst xs))∨∃kv,H a=some (.dK kv):=by
 obtain⟨n,e⟩:=mem_iff_getElem?.mp m;have hn:n<hd.length:=by rw[<- h.len];exact(75 e).1
 obtain⟨ho,e1,e2⟩:=h.ob n hd[n] a (by simp[hn]) e;cases q:hd[n]with
 |lst ds=>rw[q]at e2;obtain⟨xs,rfl,_⟩:=e2;exact .inl ⟨xs,e1⟩
 |dic ds=>rw[q]at e2;obtain⟨xs,rfl,_⟩:=e2;exact .inr ⟨xs,e1⟩
def RH.stb_out(h:RH K ρ H hd)(s:Stb o)(e:H a=some o):a∉ρ:=λm=>by
 rcases h.mut m with⟨y,z⟩|⟨y,z⟩<;>(rw[e]at z;cases z;exact s)
def Mo(s:Stb o):∀ps,o≠.tbl ps:=λps e=>by subst e;exact s
def Ext.grow(e:Ext ρ H ρ' H')(h:RH K ρ H hd):Grow H H':=⟨λb o s q=>e.keep b _ q (h.stb_out s q) (Mo s)⟩
def Ext.refl:Ext ρ H ρ H:=⟨⟨[],by simp,by simp⟩,λ_ _ h _ _=>h,λ_ ps h=>⟨ps,h⟩⟩
def Ext.trans(e:Ext ρ H ρ1 H1)(h0:RH K ρ1 H1 hd1)(e2:Ext ρ1 H1 ρ2 H2):Ext ρ H ρ2 H2:=by
 obtain⟨r1,rfl,f1⟩:=e.pre;obtain⟨r2,rfl,f2⟩:=e2.pre;refine⟨⟨r1++r2,by simp,λb m=>?_⟩,λb o q n t=>?_,λb ps q=>?_⟩
 .rcases mem_append.mp m with m|m
  .exact f1 b m
  .have z:=f2 b m;cases q:H b with
   |none=>rfl
   |some o=>
    by_cases n:b∈ρ
    .rcases h0.mut (iu r1 n)with⟨y,w⟩|⟨y,w⟩<;>(rw[z]at w;cases w)
    .by_cases t:∃ps,o=.tbl ps
     .obtain⟨ps,rfl⟩:=t;obtain⟨ps',this⟩:=e.tab b ps q;rw[z]at this;cases this
     .have:=e.keep b o q n λps y=>t ⟨ps,y⟩;rw[z]at this;cases this
 .refine e2.keep b o (e.keep b o q n t) (λm=>?_) t;rcases mem_append.mp m with m|m
  .exact n m
  .have:=f1 b m;rw[q]at this;cases this
 .obtain⟨ps',q'⟩:=e.tab b ps q;exact e2.tab b ps' q'
mutual
theorem RD.mono(g:Grow H H')(r:108):∀{d:D} {v:V},RD K ρ H d v->RD K (ρ++r) H' d v
 |.im i,v,h=>by simp only[RD]at h ⊢;exact h.grow g
 |.mu n,v,h=>by
  simp only[RD]at h ⊢;obtain⟨a,e,q⟩:=h;exact⟨a,by rw[List.getElem?_append_left (List.getElem?_eq_some_iff.mp e).1];exact e,q⟩
 |.tm ds,v,h=>by
  simp only[RD]at h ⊢;obtain⟨a,xs,e,q,z⟩:=h;exact⟨a,xs,e,g.sq q,RDs.mono g r z⟩
 |.ro ns,v,h=>by
  simp only[RD]at h ⊢;obtain⟨a,e,q⟩:=h;exact⟨a,e,q.grow g⟩
 |.op nm fs ds,v,h=>by
  simp only[RD]at h ⊢;obtain⟨a,xs,e,q,z⟩:=h;exact⟨a,xs,e,q.grow g,RDs.mono g r z⟩
 |.fv k ds,v,h=>by
  simp only[RD]at h ⊢;obtain⟨a,xs,e,q,z⟩:=h;exact⟨a,xs,e,q.grow g,RDs.mono g r z⟩
theorem RDs.mono(g:Grow H H')(r:108):∀{d:List D} {v:List V},RDs K ρ H d v->RDs K (ρ++r) H' d v
 |[],v,h=>by simpa only[RDs]using h
 |d::ds,v,h=>by
  simp only[RDs]at h ⊢;obtain⟨x,r',e,q,z⟩:=h;exact⟨x,r',e,q.mono g r,RDs.mono g r z⟩
end
theorem RKs.mono(g:Grow H H')(r:108):∀{d:List (Key×D)} {v:List (Key×V)},RKs K ρ H d v->RKs K (ρ++r) H' d v
 |[],v,h=>by simpa only[RKs]using h
 |d::ds,v,h=>by
  simp only[RKs]at h ⊢;obtain⟨x,r',e,q1,q,z⟩:=h;exact⟨x,r',e,q1,q.mono g r,RKs.mono g r z⟩
theorem RC.mono(g:Grow H H')(r:108)(h:RC K ρ H o ho):RC K (ρ++r) H' o ho:=by
 cases o with
 |lst ds=>obtain⟨xs,e,q⟩:=h;exact⟨xs,e,q.mono g r⟩
 |dic ds=>obtain⟨xs,e,q⟩:=h;exact⟨xs,e,q.mono g r⟩
def RD.ext(h:RH K ρ H hd)(e:Ext ρ H ρ' H')(q:RD K ρ H d v):RD K ρ' H' d v:=by
 obtain⟨r,rfl,_⟩:=e.pre;exact q.mono (e.grow h) r
def RDs.ext(h:RH K ρ H hd)(e:Ext ρ H ρ' H')(q:RDs K ρ H d v):RDs K ρ' H' d v:=by
 obtain⟨r,rfl,_⟩:=e.pre;exact q.mono (e.grow h) r
theorem RL.ext(h:RH K ρ H hd)(e:Ext ρ H ρ' H')(q:RL K ρ H ls σ):RL K ρ' H' ls σ:=
 ⟨q.len,λi d z=>let ⟨v,a,b⟩:=q.ob i d z;⟨v,a,b.ext h e⟩⟩
theorem RDs.len:∀{ds:List D} {xs:List V},RDs K ρ H ds xs->88=83
 |[],xs,h=>by simp only[RDs]at h;rw[h];rfl
 |d::ds,xs,h=>by
  simp only[RDs]at h;obtain⟨x,r,rfl,_,z⟩:=h;simp[RDs.len z]
theorem RDs.get:∀{ds:List D} {xs:List V} {i:Nat} {d:D},RDs K ρ H ds xs->ds[i]?=some d->∃x,xs[i]?=some x/\RD K ρ H d x
 |[],xs,i,d,h,e=>by simp at e
 |d::ds,xs,0,e,h,q=>by
  simp only[RDs]at h;obtain⟨x,r,rfl,z,_⟩:=h;simp at q;subst q;exact⟨x,rfl,z⟩
 |d::ds,xs,i+1,e,h,q=>by
  simp only[RDs]at h;obtain⟨x,r,rfl,_,z⟩:=h;obtain⟨y,a,b⟩:=RDs.get (i:=i) z (by simpa using q);exact⟨y,by simpa using a,b⟩
def RDs.nil:RDs K ρ H [] []:=by simp[RDs]
def RDs.cons(h:RD K ρ H d v)(t:RDs K ρ H ds vs):RDs K ρ H (d::ds) (v::vs):=by
 simp only[RDs];exact⟨v,vs,rfl,h,t⟩
theorem RDs.app:∀{ds es:List D} {xs ys:List V},RDs K ρ H ds xs->RDs K ρ H es ys->RDs K ρ H (ds++es) (xs++ys)
 |[],es,xs,ys,h,t=>by simp only[RDs]at h;subst h;simpa using t
 |d::ds,es,xs,ys,h,t=>by
  simp only[RDs]at h;obtain⟨x,r,rfl,z,q⟩:=h;simp only[iI];exact .cons z (q.app t)
theorem RDs.set:∀{ds:List D} {xs:List V} {d:D} {v:V} (i:Nat),RDs K ρ H ds xs->RD K ρ H d v->RDs K ρ H (ds.set i d) (xs.set i v)
 |[],xs,d,v,i,h,t=>by simp only[RDs]at h;subst h;simp[RDs]
 |d::ds,xs,e,v,0,h,t=>by
  simp only[RDs]at h;obtain⟨x,r,rfl,z,q⟩:=h;simpa using RDs.cons t q
 |d::ds,xs,e,v,i+1,h,t=>by
  simp only[RDs]at h;obtain⟨x,r,rfl,z,q⟩:=h;simpa using RDs.cons z (q.set i t)
theorem RDs.drop:∀{ds:List D} {xs:List V} (n:Nat),RDs K ρ H ds xs->RDs K ρ H (ds.drop n) (xs.drop n)
 |ds,xs,0,h=>by simpa using h
 |[],xs,n+1,h=>by simp only[RDs]at h;subst h;simp[RDs]
 |d::ds,xs,n+1,h=>by
  simp only[RDs]at h;obtain⟨x,r,rfl,z,q⟩:=h;simpa using q.drop n
theorem RDs.take:∀{ds:List D} {xs:List V} (n:Nat),RDs K ρ H ds xs->RDs K ρ H (ds.take n) (xs.take n)
 |ds,xs,0,h=>by simp[RDs]
 |[],xs,n+1,h=>by simp only[RDs]at h;subst h;simp[RDs]
 |d::ds,xs,n+1,h=>by
  simp only[RDs]at h;obtain⟨x,r,rfl,z,q⟩:=h;simpa using RDs.cons z (q.take n)
theorem RIs.ds:∀{is:List I} {xs:List V},RIs K H is xs->RDs K ρ H (is.map D.im) xs
 |[],xs,h=>by simpa only[RIs,RDs,ie]using h
 |i::is,xs,h=>by
  simp only[RIs]at h;obtain⟨x,r,rfl,z,q⟩:=h;exact .cons (by simpa only[RD]using z) q.ds
theorem RDs.is:∀{is:List I} {xs:List V},RDs K ρ H (is.map D.im) xs->RIs K H is xs
 |[],xs,h=>by simpa only[RIs,RDs,ie]using h
 |i::is,xs,h=>by
  simp only[gv,RDs]at h;obtain⟨x,r,rfl,z,q⟩:=h;simp only[RIs];exact⟨x,r,rfl,by simpa only[RD]using z,q.is⟩
def RH.new(h:RH K ρ H hd)(ha:H a=none)(c:RC K ρ H o ho):RH K (ρ++[a]) (upd H a ho) (hd++[o])/\Ext ρ H (ρ++[a]) (upd H a ho):=by
 have out:a∉ρ:=λm=>by rcases h.mut m with⟨y,z⟩|⟨y,z⟩<;>(rw[ha]at z;cases z)
 have ex:Ext ρ H (ρ++[a]) (upd H a ho):=⟨⟨[a],rfl,λb m=>by simp at m;subst m;exact ha⟩,λb o q n _=>by rw[upd_ne (AJ q ha)];exact q,λb ps q=>⟨ps,by rw[upd_ne (AJ q ha)];exact q⟩⟩
 refine⟨⟨by simp[h.len],?_,h.tabs.upd (by simp[ha]) (by simp[ha]),λn o' b e1 e2=>?_⟩,ex⟩
 .rw[nodup_append];refine⟨h.nd,by simp,λx hx y hy z=>?_⟩;simp at hy;subst hy;subst z;exact out hx
 .have gr:=ex.grow h;by_cases hn:n<ρ.length
  .rw[List.getElem?_append_left hn]at e2;rw[List.getElem?_append_left (by rw[<- h.len];exact hn)]at e1;obtain⟨ho',q1,q2⟩:=h.ob n o' b e1 e2;exact⟨ho',by rw[upd_ne (AJ q1 ha)];exact q1,q2.mono gr [a]⟩
  .have hn':n=ρ.length:=by
    have:=(75 e2).1;simp at this;omega
   subst hn';simp at e2;rw[h.len]at e1;simp at e1;subst e1;subst e2;exact⟨ho,AG,c.mono gr [a]⟩
def RH.put(h:RH K ρ H hd){n:Nat}(hn:ρ[n]?=some a)(c:RC K ρ H o ho):RH K ρ (upd H a ho) (hd.set n o)/\Ext ρ H ρ (upd H a ho):=by
 have ha:=h.mut (i6 hn);have n1:∀ps,H a≠some (.tbl ps):=λps e=>by rcases ha with⟨y,z⟩|⟨y,z⟩<;>(rw[e]at z;cases z)
 have n2:∀φ,H a≠some (.ext φ):=λps e=>by rcases ha with⟨y,z⟩|⟨y,z⟩<;>(rw[e]at z;cases z)
 have ex:Ext ρ H ρ (upd H a ho):=⟨⟨[],by simp,by simp⟩,λb o q m _=>by
  have:b≠a:=λz=>m (by rw[z];exact i6 hn);rw[upd_ne this];exact q,λb ps q=>⟨ps,(upd_ne (show b≠a from λz=>n1 ps (by rw[<- z];exact q))).trans q⟩⟩
 have gr:=ex.grow h;refine⟨⟨by simp[h.len],h.nd,h.tabs.upd n1 n2,λm o' b e1 e2=>?_⟩,ex⟩;have hm:m<hd.length:=by rw[<- h.len];exact(75 e2).1
 by_cases hmn:m=n
 .subst hmn;rw[hn]at e2;cases e2;rw[List.getElem?_set_self hm]at e1;cases e1;exact⟨ho,AG,by simpa using c.mono gr []⟩
 .rw[List.getElem?_set_ne (λz=>hmn z.symm)]at e1;obtain⟨ho',q1,q2⟩:=h.ob m o' b e1 e2;have:b≠a:=λz=>by
   subst z;have l1:=(75 e2).1;have l2:=(75 hn).1;exact hmn ((List.getElem?_inj l1 h.nd).mp (e2.trans hn.symm))
  exact⟨ho',by rw[upd_ne this];exact q1,by simpa using q2.mono gr []⟩
theorem RH.lst(h:RH K ρ H hd){n:Nat}(hn:ρ[n]?=some a)(e:hd[n]?=some (.lst ds)):∃xs,H a=some (.lst xs)/\RDs K ρ H ds xs:=by
 obtain⟨ho,q,xs,rfl,r⟩:=h.ob n _ a e hn;exact⟨xs,q,r⟩
theorem RH.dic(h:RH K ρ H hd){n:Nat}(hn:ρ[n]?=some a)(e:hd[n]?=some (.dic ds)):∃xs,H a=some (.dK xs)/\RKs K ρ H ds xs:=by
 obtain⟨ho,q,xs,rfl,r⟩:=h.ob n _ a e hn;exact⟨xs,q,r⟩
def RH.hid(h:RH K ρ H hd)(ha:H a=none):RH K ρ (upd H a ho) hd/\Ext ρ H ρ (upd H a ho):=by
 have out:a∉ρ:=λm=>by rcases h.mut m with⟨y,z⟩|⟨y,z⟩<;>(rw[ha]at z;cases z)
 have ex:Ext ρ H ρ (upd H a ho):=⟨⟨[],by simp,by simp⟩,λb o q n _=>by rw[upd_ne (AJ q ha)];exact q,λb ps q=>⟨ps,by rw[upd_ne (AJ q ha)];exact q⟩⟩
 have gr:=ex.grow h;refine⟨⟨h.len,h.nd,h.tabs.upd (by simp[ha]) (by simp[ha]),λm o' b e1 e2=>?_⟩,ex⟩;obtain⟨ho',q1,q2⟩:=h.ob m o' b e1 e2;exact⟨ho',by rw[upd_ne (AJ q1 ha)];exact q1,by simpa using q2.mono gr []⟩
end
end L2
namespace L2
open PySem PySem.Spec PyProof.Rows
noncomputable abbrev ME:=Ls->Hd->Option (D×Hd)
noncomputable abbrev MT:=Ls->Hd->Option (Bool×Hd)
noncomputable abbrev MA:=Ls->Hd->Option (List D×Hd)
inductive Fl where
 |nx (ls:Ls)|rt (d:D)|bk (ls:Ls)|ct (ls:Ls)
noncomputable abbrev MS:=Ls->Hd->Option (Fl×Hd)
section
variable(K:Frag)
def RE(t:TE)(m:ME):Prop:=∀(ρ:108) (σ:St) (H:Hp) (hd:Hd) (ls:Ls) (Q:VK) (d:D) (hd':Hd),RH K ρ H hd->RL K ρ H ls σ->m ls hd=some (d,hd') ->
 (∀ρ' H' v,Ext ρ H ρ' H'->RH K ρ' H' hd'->RD K ρ' H' d v->Q v H')->t σ H Q
def RT(t:TT)(m:MT):Prop:=∀(ρ:108) (σ:St) (H:Hp) (hd:Hd) (ls:Ls) (Q:Bool->Hp->Prop) (d:Bool) (hd':Hd),RH K ρ H hd->RL K ρ H ls σ->m ls hd=some (d,hd') ->
 (∀ρ' H',Ext ρ H ρ' H'->RH K ρ' H' hd'->Q d H')->t σ H Q
def RA(t:TA)(m:MA):Prop:=∀(ρ:108) (σ:St) (H:Hp) (hd:Hd) (ls:Ls) (Q:List V->Hp->Prop) (d:List D) (hd':Hd),RH K ρ H hd->RL K ρ H ls σ->m ls hd=some (d,hd') ->
 (∀ρ' H' v,Ext ρ H ρ' H'->RH K ρ' H' hd'->RDs K ρ' H' d v->Q v H')->t σ H Q
def RN(t:TE)(m:MA):Prop:=∀(ρ:108) (σ:St) (H:Hp) (hd:Hd) (ls:Ls) (Q:VK) (d:List D) (hd':Hd),RH K ρ H hd->RL K ρ H ls σ->m ls hd=some (d,hd') ->
 (∀ρ' H' a xs,Ext ρ H ρ' H'->RH K ρ' H' hd'->H a=none->a∉ρ'->H' a=some (.lst xs)->RDs K ρ' H' d xs->Q (.ref a) H')->t σ H Q
def eL(E:Ends)(ρ:108)(H:Hp):Fl->Prop
 |.nx ls=>∀σ,RL K ρ H ls σ->E.nx σ H
 |.bk ls=>∀σ,RL K ρ H ls σ->E.bk σ H
 |.ct ls=>∀σ,RL K ρ H ls σ->E.ct σ H
 |.rt d=>∀v,RD K ρ H d v->E.rt v H
def RS(t:TS)(m:MS):Prop:=∀(ρ:108) (σ:St) (H:Hp) (hd:Hd) (ls:Ls) (E:Ends) (f:Fl) (hd':Hd),RH K ρ H hd->RL K ρ H ls σ->m ls hd=some (f,hd') ->
 (∀ρ' H',Ext ρ H ρ' H'->RH K ρ' H' hd'->eL K E ρ' H' f)->t E σ H
def RB(r:R2)(f:D->D->Hd->Option (D×Hd)):Prop:=∀(ρ:108) (H:Hp) (hd:Hd) (d e:D) (v u:V) (Q:VK) (z:D) (hd':Hd),RH K ρ H hd->RD K ρ H d v->RD K ρ H e u->f d e hd=some (z,hd') ->
 (∀ρ' H' w,Ext ρ H ρ' H'->RH K ρ' H' hd'->RD K ρ' H' z w->Q w H')->r v u H Q
def RF(r:List V->Hp->VK->Prop)(f:List D->Hd->Option (D×Hd)):Prop:=∀(ρ:108) (H:Hp) (hd:Hd) (ds:List D) (vs:List V) (Q:VK) (z:D) (hd':Hd),RH K ρ H hd->RDs K ρ H ds vs->f ds hd=some (z,hd') ->
 (∀ρ' H' w,Ext ρ H ρ' H'->RH K ρ' H' hd'->RD K ρ' H' z w->Q w H')->r vs H Q
def RG(tp:Bool)(r:List V->Hp->VK->Prop)(g:List D->Option D):Prop:=∀(ρ:108) (H:Hp) (hd:Hd) (a:Addr) (xs:List V) (ds:List D) (Q:VK) (z:D),RH K ρ H hd->(SqL K H a xs∨(tp=true/\SqT K H a xs))->RDs K ρ H ds xs->g ds=some z ->
 (∀H' w,Ext ρ H ρ H'->RH K ρ H' hd->RD K ρ H' z w->Q w H')->r [.ref a] H Q
end
structure QE(K:Frag)(X:Cx)(e:Expr)(t:TE)(m:ME):Prop where
 p:PE X e t
 r:RE K t m
structure QT(K:Frag)(X:Cx)(e:Expr)(t:TT)(m:MT):Prop where
 p:PT X e t
 r:RT K t m
structure QW(K:Frag)(X:Cx)(e:Expr)(t:TT)(m:MT):Prop where
 p:PW X e t
 r:RT K t m
structure QA(K:Frag)(X:Cx)(e:List Expr)(t:TA)(m:MA):Prop where
 p:PA X e t
 r:RA K t m
structure QN(K:Frag)(X:Cx)(e:Expr)(t:TE)(m:MA):Prop where
 p:PE X e t
 r:RN K t m
structure QS(K:Frag)(X:Cx)(e:Stmt)(t:TS)(m:MS):Prop where
 p:PS X e t
 r:RS K t m
structure QSs(K:Frag)(X:Cx)(e:List Stmt)(t:TS)(m:MS):Prop where
 p:PSs X e t
 r:RS K t m
noncomputable def AX:D->Option (List D)
 |.im (.tup is)=>some (is.map .im)
 |.tm ds=>some ds
 |_=>none
noncomputable def Ak(hd:Hd):D->Option (List D)
 |.mu n=>match hd[n]? with
  |some (.lst ds)=>some ds
  |_=>none
 |.ro ns=>some (ns.map λn=>.im (.int n))
 |_=>none
noncomputable def Az(hd:Hd)(d:D):Option (List D):=match AX d with
 |some ds=>some ds
 |none=>Ak hd d
noncomputable def B2:List D->Option (List I)
 |[]=>some []
 |.im i::r=>(B2 r).map (i::·)
 |_::_=>none
noncomputable def Au(ds:List D):D:=match B2 ds with
 |some is=>.im (.tup is)
 |none=>.tm ds
noncomputable def B1:List D->Option (List Int)
 |[]=>some []
 |.im (.int i)::r=>(B1 r).map (i::·)
 |_::_=>none
noncomputable def CO:List D->Option (List Bool)
 |[]=>some []
 |.im (.bl i)::r=>(CO r).map (i::·)
 |_::_=>none
section
variable{K:Frag}
theorem Gj:∀{ds:List D} {is:List I},B2 ds=some is->ds=is.map .im
 |[],is,h=>by simp[B2]at h;subst h;rfl
 |.im i::r,is,h=>by
  simp only[B2,Option.map_eq_some_iff]at h;obtain⟨js,e,rfl⟩:=h;simp[Gj e]
 |.mu _::_,is,h=>by simp[B2]at h
 |.tm _::_,is,h=>by simp[B2]at h
 |.ro _::_,is,h=>by simp[B2]at h
 |.op _ _ _::_,is,h=>by simp[B2]at h
 |.fv _ _::_,is,h=>by simp[B2]at h
theorem C7:∀{ds:List D} {is:92},B1 ds=some is->ds=is.map λi=>.im (.int i)
 |[],is,h=>by simp[B1]at h;subst h;rfl
 |.im (.int i)::r,is,h=>by
  simp only[B1,Option.map_eq_some_iff]at h;obtain⟨js,e,rfl⟩:=h;simp[C7 e]
 |.im (.bl _)::_,is,h=>by simp[B1]at h
 |.im (.str _)::_,is,h=>by simp[B1]at h
 |.im .non::_,is,h=>by simp[B1]at h
 |.im (.tup _)::_,is,h=>by simp[B1]at h
 |.mu _::_,is,h=>by simp[B1]at h
 |.tm _::_,is,h=>by simp[B1]at h
 |.ro _::_,is,h=>by simp[B1]at h
 |.op _ _ _::_,is,h=>by simp[B1]at h
 |.fv _ _::_,is,h=>by simp[B1]at h
theorem PL:∀{ds:List D} {is:List Bool},CO ds=some is->ds=is.map λi=>.im (.bl i)
 |[],is,h=>by simp[CO]at h;subst h;rfl
 |.im (.bl i)::r,is,h=>by
  simp only[CO,Option.map_eq_some_iff]at h;obtain⟨js,e,rfl⟩:=h;simp[PL e]
 |.im (.int _)::_,is,h=>by simp[CO]at h
 |.im (.str _)::_,is,h=>by simp[CO]at h
 |.im .non::_,is,h=>by simp[CO]at h
 |.im (.tup _)::_,is,h=>by simp[CO]at h
 |.mu _::_,is,h=>by simp[CO]at h
 |.tm _::_,is,h=>by simp[CO]at h
 |.ro _::_,is,h=>by simp[CO]at h
 |.op _ _ _::_,is,h=>by simp[CO]at h
 |.fv _ _::_,is,h=>by simp[CO]at h
@[simp] theorem allIm_map(is:List I):B2 (is.map .im)=some is:=by induction is<;>simp_all [B2]
@[simp] theorem Sm(is:92):B1 (is.map λi=>.im (.int i))=some is:=by induction is<;>simp_all [B1]
@[simp] theorem O1(is:List Bool):CO (is.map λi=>.im (.bl i))=some is:=by induction is<;>simp_all [CO]
theorem DX:∀{ns:92} {xs:List V},RDs K ρ H (ns.map λi=>.im (.int i)) xs->xs=ns.map V.int
 |[],xs,h=>by simpa [RDs]using h
 |n::ns,xs,h=>by
  simp only[gv,RDs,RD,RI]at h;obtain⟨x,r,rfl,rfl,z⟩:=h;rw[DX z];rfl
theorem E7:∀{ns:92},RDs K ρ H (ns.map λi=>.im (.int i)) (ns.map V.int)
 |[]=>by simp[RDs]
 |n::ns=>by simp only[gv];exact .cons (by simp[RD,RI]) E7
theorem SB:∀{ns:List Bool} {xs:List V},RDs K ρ H (ns.map λi=>.im (.bl i)) xs->xs=ns.map V.bl
 |[],xs,h=>by simpa [RDs]using h
 |n::ns,xs,h=>by
  simp only[gv,RDs,RD,RI]at h;obtain⟨x,r,rfl,rfl,z⟩:=h;rw[SB z];rfl
theorem RD.tup(h:RD K ρ H d v)(e:AX d=some ds):∃a xs,v=.ref a/\SqT K H a xs/\RDs K ρ H ds xs:=by
 cases d with
 |im i=>
  cases i with
  |tup is=>
   simp only[AX,Option.some.injEq]at e;subst e;simp only[RD,RI]at h;obtain⟨a,xs,rfl,q,r⟩:=h;exact⟨a,xs,rfl,q,r.ds⟩
  |_=>simp[AX]at e
 |tm es=>
  simp only[AX,Option.some.injEq]at e;subst e;simpa only[RD]using h
 |_=>simp[AX]at e
theorem RD.lst(hR:RH K ρ H hd)(h:RD K ρ H d v)(e:Ak hd d=some ds):∃a xs,v=.ref a/\SqL K H a xs/\RDs K ρ H ds xs:=by
 cases d with
 |mu n=>
  simp only[Ak]at e;simp only[RD]at h;obtain⟨a,hn,rfl⟩:=h;split at e
  .next q=>
   cases e;obtain⟨xs,e1,e2⟩:=hR.lst hn q;exact⟨a,xs,rfl,SqL.of e1,e2⟩
  .cases e
 |ro ns=>
  simp only[Ak,Option.some.injEq]at e;subst e;simp only[RD]at h;obtain⟨a,rfl,q⟩:=h;exact⟨a,_,rfl,q.sq,E7⟩
 |_=>simp[Ak]at e
def RD.seq(hR:RH K ρ H hd)(h:RD K ρ H d v)(e:Az hd d=some ds):∃a xs,v=.ref a/\(SqL K H a xs∨SqT K H a xs)/\RDs K ρ H ds xs:=by
 unfold Az at e;split at e
 .next q=>
  cases e;obtain⟨a,xs,e1,e2,e3⟩:=h.tup q;exact⟨a,xs,e1,.inr e2,e3⟩
 .obtain⟨a,xs,e1,e2,e3⟩:=h.lst hR e;exact⟨a,xs,e1,.inl e2,e3⟩
def Co(q:SqT K H a xs)(r:RDs K ρ H ds xs):RD K ρ H (Au ds) (.ref a):=by
 unfold Au;split
 .next e=>
  rw[Gj e]at r;simp only[RD,RI];exact⟨a,xs,rfl,q,r.is⟩
 .simp only[RD];exact⟨a,xs,rfl,q,r⟩
noncomputable def A0(i:Nat):ME:=λls hd=>match ls[i]? with
 |some (some d)=>some (d,hd)
 |_=>none
def Zk{i:Nat}:RE K (Mg i) (A0 i):=by
 and_intros;unfold A0 at hm;split at hm
 .next e=>
  cases hm;obtain⟨v,e1,e2⟩:=hL.ob i _ e;exact⟨v,e1,hQ ρ H v .refl hR e2⟩
 .cases hm
noncomputable def mC(i:I):ME:=λ_ hd=>some (.im i,hd)
def Pz(h:∀H,RI K H i v):RE K (tC v) (mC i):=by
 and_intros;cases hm;exact hQ ρ H v .refl hR (by simpa only[RD]using h H)
noncomputable def mOp(f:D->D->Hd->Option (D×Hd))(ma mb:ME):ME:=λls hd=>(ma ls hd).bind λp=>(mb ls p.2).bind λq=>f p.1 q.1 q.2
def MD{f:D->D->Hd->Option (D×Hd)}(hr:RB K r f)(ha:RE K ta ma)(hb:RE K tb mb):RE K (tOp r ta tb) (mOp f ma mb):=by
 and_intros;obtain⟨⟨d1,h1⟩,e1,hm⟩:=gW hm;obtain⟨⟨d2,h2⟩,e2,hm⟩:=gW hm;refine ha ρ σ H hd ls _ d1 h1 hR hL e1 λρ1 H1 v1 x1 R1 r1=>?_;refine hb ρ1 σ H1 h1 ls _ d2 h2 R1 (hL.ext hR x1) e2 λρ2 H2 v2 x2 R2 r2=>?_;exact hr ρ2 H2 h2 d1 d2 v1 v2 Q d hd' R2 (r1.ext R1 x2) r2 hm λρ' H' w x3 R3 r3=>hQ ρ' H' w ((85).trans R2 x3) R3 r3
noncomputable def Bj(ta tb:MT):MT:=λls hd=>(ta ls hd).bind λp=>if p.1=true then tb ls p.2 else some (false,p.2)
noncomputable def mOr(ta tb:MT):MT:=λls hd=>(ta ls hd).bind λp=>if p.1=true then some (true,p.2)else tb ls p.2
noncomputable def HN(ta:MT):MT:=λls hd=>(ta ls hd).bind λp=>some (!p.1,p.2)
def ZQ(ha:RT K ta ma)(hb:RT K tb mb):RT K (U5 ta tb) (Bj ma mb):=by
 and_intros;obtain⟨⟨d1,h1⟩,e1,hm⟩:=gW hm;refine ha ρ σ H hd ls _ d1 h1 hR hL e1 λρ1 H1 x1 R1=>?_;cases d1 with
 |true=>
  rw[gb rfl]at hm ⊢;exact hb ρ1 σ H1 h1 ls Q d hd' R1 (hL.ext hR x1) hm λρ2 H2 x2 R2=>hQ ρ2 H2 85 R2
 |false=>
  rw[gh Bool.false_ne_true]at hm ⊢;cases hm;exact hQ ρ1 H1 x1 R1
def dD(ha:RT K ta ma)(hb:RT K tb mb):RT K (tOr ta tb) (mOr ma mb):=by
 and_intros;obtain⟨⟨d1,h1⟩,e1,hm⟩:=gW hm;refine ha ρ σ H hd ls _ d1 h1 hR hL e1 λρ1 H1 x1 R1=>?_;cases d1 with
 |true=>
  rw[gb rfl]at hm ⊢;cases hm;exact hQ ρ1 H1 x1 R1
 |false=>
  rw[gh Bool.false_ne_true]at hm ⊢;exact hb ρ1 σ H1 h1 ls Q d hd' R1 (hL.ext hR x1) hm λρ2 H2 x2 R2=>hQ ρ2 H2 85 R2
def ZP(ha:RT K ta ma):RT K (Tt ta) (HN ma):=by
 and_intros;obtain⟨⟨d1,h1⟩,e1,hm⟩:=gW hm;cases hm;exact ha ρ σ H hd ls _ d1 h1 hR hL e1 λρ1 H1 x1 R1=>hQ ρ1 H1 x1 R1
open Classical in
noncomputable def CH(hd:Hd):D->Option Bool
 |.im .non=>some false
 |.im (.bl b)=>some b
 |.im (.int i)=>some (i != 0)
 |.im (.str x)=>if Bh x.length then some ((x.length:Int) != 0)else none
 |.im (.tup is)=>some (!is.isEmpty)
 |.tm is=>some (!is.isEmpty)
 |.ro ns=>some (!ns.isEmpty)
 |.op _ _ _=>none
 |.fv _ _=>none
 |.mu n=>match hd[n]? with
  |some (.lst ds)=>some (!ds.isEmpty)
  |some (.dic ds)=>some (!ds.isEmpty)
  |none=>none
def DH{α β:Type}{xs:List α}{ys:List β}(h:88=ys.length):xs.isEmpty=ys.isEmpty:=by
 cases xs<;>cases ys<;>simp_all
theorem RKs.len:∀{ds:List (Key×D)} {xs:List (Key×V)},RKs K ρ H ds xs->88=83
 |[],xs,h=>by simp only[RKs]at h;rw[h];rfl
 |d::ds,xs,h=>by
  simp only[RKs]at h;obtain⟨x,r,rfl,_,_,z⟩:=h;simp[RKs.len z]
def Wp{b:Bool}(hR:RH K ρ H hd)(h:RD K ρ H d v)(e:CH hd d=some b):O5 K v H b:=by
 cases d with
 |im i=>
  cases i with
  |non=>simp only[RD,RI]at h;subst h;simp only[CH,Option.some.injEq]at e;subst e;exact rfl
  |bl c=>simp only[RD,RI]at h;subst h;simp only[CH,Option.some.injEq]at e;subst e;exact rfl
  |int c=>simp only[RD,RI]at h;subst h;simp only[CH,Option.some.injEq]at e;subst e;exact rfl
  |str c=>
   simp only[RD,RI]at h;subst h;simp only[CH]at e;split at e
   .next z=>cases e;exact⟨z,rfl⟩
   .cases e
  |tup is=>
   obtain⟨a,xs,rfl,q,r⟩:=h.tup (ds:=is.map .im) rfl;simp only[CH,Option.some.injEq]at e;subst e;exact .inr (.inl ⟨xs,q,by rw[DH (show 88=is.length by simpa using r.len)]⟩)
 |tm ds=>
  obtain⟨a,xs,rfl,q,r⟩:=h.tup (ds:=ds) rfl;simp only[CH,Option.some.injEq]at e;subst e;exact .inr (.inl ⟨xs,q,by rw[DH r.len]⟩)
 |ro ns=>
  obtain⟨a,xs,rfl,q,r⟩:=h.lst hR (hd:=hd) (ds:=ns.map λn=>.im (.int n)) rfl;simp only[CH,Option.some.injEq]at e;subst e;exact .inl ⟨xs,q,by rw[DH (show 88=ns.length by simpa using r.len)]⟩
 |op _ _ _=>simp[CH]at e
 |fv _ _=>simp[CH]at e
 |mu n=>
  simp only[RD]at h;obtain⟨a,hn,rfl⟩:=h;simp only[CH]at e;split at e
  .next q=>
   cases e;obtain⟨xs,e1,e2⟩:=hR.lst hn q;exact .inl ⟨xs,SqL.of e1,by rw[DH e2.len]⟩
  .next q=>
   cases e;obtain⟨xs,e1,e2⟩:=hR.dic hn q;exact .inr (.inr ⟨xs,e1,by rw[DH e2.len]⟩)
  .cases e
noncomputable def DT(ma:ME):MT:=λls hd=>(ma ls hd).bind λp=>(CH p.2 p.1).map (·,p.2)
def UB(ha:RE K ta ma):RT K (λσ H Q=>ta σ H λx H'=>∃k,O5 K x H' k/\Q k H') (DT ma):=by
 and_intros;obtain⟨⟨d1,h1⟩,e1,hm⟩:=gW hm;obtain⟨b,e2,e3⟩:=gX hm;cases e3;exact ha ρ σ H hd ls _ d1 h1 hR hL e1 λρ1 H1 v x1 R1 r1=>⟨_,Wp R1 r1 e2,hQ ρ1 H1 x1 R1⟩
noncomputable def A8(ma:ME):MT:=λls hd=>(ma ls hd).bind λp=>match p.1 with
 |.im (.bl b)=>some (b,p.2)
 |_=>none
def DV(ha:RE K ta ma):RT K (FN ta) (A8 ma):=by
 and_intros;obtain⟨⟨d1,h1⟩,e1,hm⟩:=gW hm;dsimp only at hm;split at hm
 .cases hm;exact ha ρ σ H hd ls _ _ _ hR hL e1 λρ1 H1 v x1 R1 r1=>⟨_,by simpa only[RD,RI]using r1,hQ ρ1 H1 x1 R1⟩
 .cases hm
def UC(ha:RE K ta ma):RT K (tB ta) (A8 ma):=DV ha
noncomputable def mIf(c:MT)(ma mb:ME):ME:=λls hd=>(c ls hd).bind λp=>if p.1=true then ma ls p.2 else mb ls p.2
def dG(hc:RT K tc c)(ha:RE K ta ma)(hb:RE K tb mb):RE K (tIf tc ta tb) (mIf c ma mb):=by
 and_intros;obtain⟨⟨d1,h1⟩,e1,hm⟩:=gW hm;refine hc ρ σ H hd ls _ d1 h1 hR hL e1 λρ1 H1 x1 R1=>?_;cases d1 with
 |true=>
  rw[gb rfl]at hm ⊢;exact ha ρ1 σ H1 h1 ls Q d hd' R1 (hL.ext hR x1) hm λρ2 H2 v x2 R2 r2=>hQ ρ2 H2 v 85 R2 r2
 |false=>
  rw[gh Bool.false_ne_true]at hm ⊢;exact hb ρ1 σ H1 h1 ls Q d hd' R1 (hL.ext hR x1) hm λρ2 H2 v x2 R2 r2=>hQ ρ2 H2 v 85 R2 r2
noncomputable def IA(ma mb:ME):ME:=λls hd=>(A8 ma ls hd).bind λp=>if p.1=true then mb ls p.2 else some (.im (.bl false),p.2)
noncomputable def I0(ma:ME):ME:=λls hd=>(A8 ma ls hd).bind λp=>some (.im (.bl (!p.1)),p.2)
def XV(ha:RE K ta ma)(hb:RE K tb mb):RE K (Pj ta tb) (IA ma mb):=by
 and_intros;obtain⟨⟨d1,h1⟩,e1,hm⟩:=gW hm;refine DV ha ρ σ H hd ls (λc H1=>if c=true then tb σ H1 Q else Q (.bl false) H1) d1 h1 hR hL e1 λρ1 H1 x1 R1=>?_;cases d1 with
 |true=>
  rw[gb rfl]at hm ⊢;exact hb ρ1 σ H1 h1 ls Q d hd' R1 (hL.ext hR x1) hm λρ2 H2 v x2 R2 r2=>hQ ρ2 H2 v 85 R2 r2
 |false=>
  rw[gh Bool.false_ne_true]at hm ⊢;cases hm;exact hQ ρ1 H1 _ x1 R1 (by simp[RD,RI])
def XJ(ha:RE K ta ma):RE K (Pd ta) (I0 ma):=by
 and_intros;obtain⟨⟨d1,h1⟩,e1,hm⟩:=gW hm;cases hm;exact DV ha ρ σ H hd ls (λc H1=>Q (.bl (!c)) H1) d1 h1 hR hL e1 λρ1 H1 x1 R1=>hQ ρ1 H1 _ x1 R1 (by simp[RD,RI])
noncomputable def A4:MA:=λ_ hd=>some ([],hd)
noncomputable def A1(ma:ME)(mr:MA):MA:=λls hd=>(ma ls hd).bind λp=>(mr ls p.2).bind λq=>some (p.1::q.1,q.2)
def SG:RA K C5 A4:=by
 and_intros;cases hm;exact hQ ρ H [] .refl hR .nil
def XY(ha:RE K ta ma)(hr:RA K tr mr):RA K (Be ta tr) (A1 ma mr):=by
 and_intros;obtain⟨⟨d1,h1⟩,e1,hm⟩:=gW hm;obtain⟨⟨d2,h2⟩,e2,hm⟩:=gW hm;cases hm;refine ha ρ σ H hd ls _ d1 h1 hR hL e1 λρ1 H1 v1 x1 R1 r1=>?_;exact hr ρ1 σ H1 h1 ls _ d2 _ R1 (hL.ext hR x1) e2 λρ2 H2 v2 x2 R2 r2=>hQ ρ2 H2 _ 85 R2 (.cons (r1.ext R1 x2) r2)
open Classical in
noncomputable def Ae(ma:MA):ME:=λls hd=>(ma ls hd).bind λp=>if Bh p.1.length then some (Au p.1,p.2)else none
def Zl(h:RA K t m):RE K (Tq t) (Ae m):=by
 and_intros;obtain⟨⟨d1,h1⟩,e1,hm⟩:=gW hm;dsimp only at hm;split at hm
 .next z=>
  cases hm;refine h ρ σ H hd ls _ d1 _ hR hL e1 λρ1 H1 v1 x1 R1 r1=>⟨by rw[r1.len];exact z,λp hp=>?_⟩
  obtain⟨R2,x2⟩:=R1.hid (ho:=.tup v1) hp;exact hQ ρ1 _ _ 85 R2 (Co (SqT.of AG) (r1.ext R1 x2))
 .cases hm
open Classical in
noncomputable def Ac(ma:MA):MA:=λls hd=>(ma ls hd).bind λp=>if Bh p.1.length then some (p.1,p.2)else none
def RH.out(hR:RH K ρ H hd)(h:H a=none):a∉ρ:=λm=>by rcases hR.mut m with⟨y,z⟩|⟨y,z⟩<;>(rw[h]at z;cases z)
theorem Ext.none(e:Ext ρ H ρ' H')(hR:RH K ρ H hd)(h:H' a=none)(hR':RH K ρ' H' hd'):H a=none:=by
 cases q:H a with
 |none=>rfl
 |some o=>
  by_cases m:a∈ρ
  .obtain⟨r,rfl,_⟩:=e.pre;exact absurd (iu r m) (hR'.out h)
  .by_cases t:∃ps,o=.tbl ps
   .obtain⟨ps,rfl⟩:=t;obtain⟨ps',this⟩:=e.tab a ps q;rw[h]at this;cases this
   .rw[e.keep a o q m λps y=>t ⟨ps,y⟩]at h;cases h
def ZX(h:RA K t m):RN K (Tv t) (Ac m):=by
 and_intros;obtain⟨⟨d1,h1⟩,e1,hm⟩:=gW hm;dsimp only at hm;split at hm
 .next z=>
  cases hm;refine h ρ σ H hd ls _ _ _ hR hL e1 λρ1 H1 v1 x1 R1 r1=>⟨by rw[r1.len];exact z,λp hp=>?_⟩
  obtain⟨R2,x2⟩:=R1.hid (ho:=.lst v1) hp;exact hQ ρ1 _ p v1 85 R2 (x1.none hR hp R1) (R1.out hp) AG (r1.ext R1 x2)
 .cases hm
noncomputable def AV(ml:MA):ME:=λls hd=>(ml ls hd).bind λp=>some (.mu p.2.length,p.2++[.lst p.1])
def RH.name(hR:RH K ρ H hd)(out:a∉ρ)(e:H a=some (.lst xs))(r:RDs K ρ H ds xs):RH K (ρ++[a]) H (hd++[.lst ds]):=by
 have mono:∀{o:MO} {ho:HO},RC K ρ H o ho->RC K (ρ++[a]) H o ho:=λc=>c.mono Grow.refl [a];refine⟨by simp[hR.len],?_,hR.tabs,λn o' b e1 e2=>?_⟩
 .rw[nodup_append];refine⟨hR.nd,by simp,λx hx y hy z=>?_⟩;simp at hy;subst hy;subst z;exact out hx
 .by_cases hn:n<ρ.length
  .rw[List.getElem?_append_left hn]at e2;rw[List.getElem?_append_left (by rw[<- hR.len];exact hn)]at e1;obtain⟨ho',q1,q2⟩:=hR.ob n o' b e1 e2;exact⟨ho',q1,mono q2⟩
  .have hn':n=ρ.length:=by
    have:=(75 e2).1;simp at this;omega
   subst hn';simp at e2;rw[hR.len]at e1;simp at e1;subst e1;subst e2;exact⟨_,e,mono ⟨xs,rfl,r⟩⟩
def Ext.name(e:Ext ρ H ρ' H')(h:H a=Option.none):Ext ρ H (ρ'++[a]) H':=by
 obtain⟨r,rfl,f⟩:=e.pre;refine⟨⟨r++[a],by simp,λb m=>?_⟩,e.keep,e.tab⟩;rcases mem_append.mp m with m|m
 .exact f b m
 .simp at m;subst m;exact h
def S9(h:RN K t m):RE K t (AV m):=by
 and_intros;obtain⟨⟨d1,h1⟩,e1,hm⟩:=gW hm;cases hm;refine h ρ σ H hd ls Q d1 h1 hR hL e1 λρ1 H1 a xs x1 R1 na oa ea r1=>?_;refine hQ (ρ1++[a]) H1 _ (x1.name na) (R1.name oa ea r1) ?_;simp only[RD];exact⟨a,by rw[<- R1.len];simp,rfl⟩
end
section
variable{K:Frag}{ρ ρ':108}{H H':Hp}{hd hd':Hd}
noncomputable def fI(g:Int->Int->Option I):D->D->Hd->Option (D×Hd)
 |.im (.int i),.im (.int j),hd=>(g i j).map (.im ·,hd)
 |_,_,_=>none
def Q4{C:Int->Int->Prop}{g:Int->Int->V}{f:Int->Int->Option I}(h:∀i j z,f i j=some z->C i j/\∀H,RI K H z (g i j)):RB K (rI C g) (fI f):=by
 intro ρ H hd d e v u Q z hd' hR h1 h2 hf hQ;unfold fI at hf;split at hf
 .simp only[RD,RI]at h1 h2;subst h1 h2;obtain⟨w,e1,e2⟩:=gX hf;cases e2;obtain⟨c,r⟩:=h _ _ _ e1;exact⟨_,_,rfl,rfl,c,hQ ρ H _ .refl hR (by simpa only[RD]using r H)⟩
 .cases hf
def Hu{g:Int->Int->V}{f:Int->Int->I}(h:∀i j H,RI K H (f i j) (g i j)):RB K (rI0 g) (fI λi j=>some (f i j)):=by
 intro ρ H hd d e v u Q z hd' hR h1 h2 hf hQ;unfold fI at hf;split at hf
 .simp only[RD,RI]at h1 h2;subst h1 h2;cases hf;exact⟨_,_,rfl,rfl,hQ ρ H _ .refl hR (by simpa only[RD]using h _ _ H)⟩
 .cases hf
noncomputable def IH(f g:D->D->Hd->Option (D×Hd)):D->D->Hd->Option (D×Hd):=λd e hd=>match f d e hd with
 |some z=>some z
 |none=>g d e hd
def Fv{r r':R2}{f g:D->D->Hd->Option (D×Hd)}(h:RB K r f)(h':RB K r' g):RB K (λx y H Q=>r x y H Q∨r' x y H Q) (IH f g):=by
 intro ρ H hd d e v u Q z hd' hR h1 h2 hf hQ;unfold IH at hf;split at hf
 .next q=>cases hf;exact .inl (h ρ H hd d e v u Q z hd' hR h1 h2 q hQ)
 .exact .inr (h' ρ H hd d e v u Q z hd' hR h1 h2 hf hQ)
noncomputable abbrev Kv:D->D->Hd->Option (D×Hd):=fI λi j=>some (.int (i+j))
noncomputable abbrev Bs:D->D->Hd->Option (D×Hd):=fI λi j=>some (.int (i-j))
def aA:RB K (rI0 λi j=>.int (i+j)) Kv:=Hu λ_ _ _=>by simp[RI]
def Zw:RB K (rI0 λi j=>.int (i-j)) Bs:=Hu λ_ _ _=>by simp[RI]
open Classical in
noncomputable abbrev Bl:D->D->Hd->Option (D×Hd):=fI λi j=>if Eg i j then some (.int (i*j))else none
def Zy:RB K (rI CMul λi j=>.int (i*j)) Bl:=Q4 λi j z h=>by
 split at h
 .next q=>cases h;exact⟨q,λ_=>by simp[RI]⟩
 .cases h
open Classical in
noncomputable abbrev Cd:D->D->Hd->Option (D×Hd):=fI λi j=>if EC j then some (.int (i%j))else none
def Zz:RB K (rI (λ_ j=>0<j) λi j=>.int (i%j)) Cd:=Q4 λi j z h=>by
 split at h
 .next q=>cases h;exact⟨q,λ_=>by simp[RI]⟩
 .cases h
open Classical in
noncomputable abbrev Ga:D->D->Hd->Option (D×Hd):=fI λi j=>if MQ j then some (.int (i/j))else none
def XW:RB K (rI cu λi j=>.int (i/j)) Ga:=Q4 λi j z h=>by
 split at h
 .next q=>cases h;exact⟨q,λ_=>by simp[RI]⟩
 .cases h
open Classical in
noncomputable abbrev Qk:D->D->Hd->Option (D×Hd):=fI λi j=>if QD i j then some (.int (i^j.toNat))else none
def Zx:RB K (rI cr λi j=>.int (i^j.toNat)) Qk:=Q4 λi j z h=>by
 split at h
 .next q=>cases h;exact⟨q,λ_=>by simp[RI]⟩
 .cases h
abbrev gLt:D->D->Hd->Option (D×Hd):=fI λi j=>some (.bl (decide (i<j)))
abbrev gLe:D->D->Hd->Option (D×Hd):=fI λi j=>some (.bl (decide (i<=j)))
abbrev gGt:D->D->Hd->Option (D×Hd):=fI λi j=>some (.bl (decide (j<i)))
abbrev gGe:D->D->Hd->Option (D×Hd):=fI λi j=>some (.bl (decide (j<=i)))
def Q0:RB K (rI0 λi j=>.bl (decide (i<j))) gLt:=Hu λ_ _ _=>by simp[RI]
def Q2:RB K (rI0 λi j=>.bl (decide (i<=j))) gLe:=Hu λ_ _ _=>by simp[RI]
def W2:RB K (rI0 λi j=>.bl (decide (j<i))) gGt:=Hu λ_ _ _=>by simp[RI]
def dL:RB K (rI0 λi j=>.bl (decide (j<=i))) gGe:=Hu λ_ _ _=>by simp[RI]
noncomputable def scI:I->Option V
 |.non=>some .non
 |.bl b=>some (.bl b)
 |.int i=>some (.int i)
 |.str x=>some (.str x)
 |.tup _=>none
def Jd{i:I}{v w:V}(e:scI i=some w)(h:RI K H i v):v=w:=by
 cases i with
 |tup _=>simp[scI]at e
 |_=>simp only[scI,Option.some.injEq]at e;subst e;simpa only[RI]using h
noncomputable def Fb(neg:Bool):D->D->Hd->Option (D×Hd)
 |.im i,.im j,hd=>match scI i,scI j with
  |some x,some y=>if Mw x y=true then some (.im (.bl (if neg then !decide (x=y)else decide (x=y))),hd)else none
  |_,_=>none
 |_,_,_=>none
def SE:RB K rEq (Fb false):=by
 intro ρ H hd d e v u Q z hd' hR h1 h2 hf hQ;unfold Fb at hf;split at hf
 .split at hf
  .next x y e1 e2=>
   split at hf
   .next s=>
    cases hf;simp only[RD]at h1 h2;rw[Jd e1 h1,Jd e2 h2];exact⟨s,hQ ρ H _ .refl hR (by simp[RD,RI])⟩
   .cases hf
  .cases hf
 .cases hf
def SC:RB K rNe (Fb true):=by
 intro ρ H hd d e v u Q z hd' hR h1 h2 hf hQ;unfold Fb at hf;split at hf
 .split at hf
  .next x y e1 e2=>
   split at hf
   .next s=>
    cases hf;simp only[RD]at h1 h2;rw[Jd e1 h1,Jd e2 h2];exact⟨s,hQ ρ H _ .refl hR (by simp[RD,RI])⟩
   .cases hf
  .cases hf
 .cases hf
mutual
noncomputable def I.py:I->PyData
 |.non=>.none
 |.bl b=>.bool b
 |.int i=>.int i
 |.str x=>.str x
 |.tup ds=>.tuple (I.pys ds)
noncomputable def I.pys:List I->List PyData
 |[]=>[]
 |d::ds=>I.py d::I.pys ds
end
mutual
theorem RI.rep:∀{i:I} {v:V},RI K H i v->Rep K H i.py v
 |.non,v,h=>by simpa only[RI,I.py,Rep]using h
 |.bl _,v,h=>by simpa only[RI,I.py,Rep]using h
 |.int _,v,h=>by simpa only[RI,I.py,Rep]using h
 |.str _,v,h=>by simpa only[RI,I.py,Rep]using h
 |.tup ds,v,h=>by
  simp only[RI]at h;obtain⟨a,xs,e,q,r⟩:=h;simp only[I.py,Rep];exact⟨a,xs,e,q,RIs.rep r⟩
theorem RIs.rep:∀{i:List I} {v:List V},RIs K H i v->CY K H (I.pys i) v
 |[],v,h=>by simpa only[RIs,I.pys,CY]using h
 |d::ds,v,h=>by
  simp only[RIs]at h;obtain⟨x,r,e,q,z⟩:=h;simp only[I.pys,CY];exact⟨x,r,e,q.rep,RIs.rep z⟩
end
def pyD(hd:Hd):D->Option PyData
 |.im i=>some i.py
 |.mu n=>match hd[n]? with
  |some (.lst ds)=>(B2 ds).map λis=>.list (I.pys is)
  |_=>none
 |.ro ns=>some (.list (I.pys (ns.map I.int)))
 |_=>none
def Eo{d:D}{v:V}{p:PyData}(hR:RH K ρ H hd)(h:RD K ρ H d v)(e:pyD hd d=some p):Rep K H p v:=by
 cases d with
 |im i=>simp only[pyD,Option.some.injEq]at e;subst e;simp only[RD]at h;exact h.rep
 |mu n=>
  simp only[pyD]at e;simp only[RD]at h;obtain⟨a,hn,rfl⟩:=h;split at e
  .next q=>
   obtain⟨is,e1,rfl⟩:=gX e;obtain⟨xs,e2,e3⟩:=hR.lst hn q;rw[Gj e1]at e3;simp only[Rep];exact⟨a,xs,rfl,SqL.of e2,e3.is.rep⟩
  .cases e
 |ro ns=>
  simp only[pyD,Option.some.injEq]at e;subst e;obtain⟨a,xs,rfl,q,r⟩:=h.lst hR (hd:=hd) (ds:=ns.map λn=>.im (.int n)) rfl;simp only[Rep];refine⟨a,xs,rfl,q,RIs.rep (RDs.is (ρ:=ρ) ?_)⟩;rw[gY];exact r
 |tm _=>simp[pyD]at e
 |op _ _ _=>simp[pyD]at e
 |fv _ _=>simp[pyD]at e
noncomputable def Ku(neg:Bool):D->D->Hd->Option (D×Hd):=λd e hd=>match pyD hd d,pyD hd e with
 |some x,some y=>if x.canLay0=true/\y.canLay0=true/\min x.depth y.depth<=60 then some (.im (.bl (if neg then !PyData.eqv x y else PyData.eqv x y)),hd)else none
 |_,_=>none
def SF:RB K (Ua K) (Ku false):=by
 intro ρ H hd d e v u Q z hd' hR h1 h2 hf hQ;unfold Ku at hf;split at hf
 .next e1 e2=>
  split at hf
  .next c=>cases hf;exact⟨_,_,Eo hR h1 e1,Eo hR h2 e2,c.1,c.2.1,c.2.2,hQ ρ H _ .refl hR (by simp[RD,RI])⟩
  .cases hf
 .cases hf
def SD:RB K (UY K) (Ku true):=by
 intro ρ H hd d e v u Q z hd' hR h1 h2 hf hQ;unfold Ku at hf;split at hf
 .next e1 e2=>
  split at hf
  .next c=>cases hf;exact⟨_,_,Eo hR h1 e1,Eo hR h2 e2,c.1,c.2.1,c.2.2,hQ ρ H _ .refl hR (by simp[RD,RI])⟩
  .cases hf
 .cases hf
noncomputable abbrev gEq:=IH (Fb false) (Ku false)
noncomputable abbrev gNe:=IH (Fb true) (Ku true)
def gIx:D->D->Hd->Option (D×Hd)
 |d,.im (.int i),hd=>(Az hd d).bind λds=>(atI ds i).map (·,hd)
 |_,_,_=>none
def LB{α β:Type}{xs:List α}{ys:List β}{i:Int}{y:β}(h:88=ys.length)(e:atI ys i=some y):∃(j:Nat),ys[j]?=some y/\∀x,xs[j]?=some x->atI xs i=some x:=by
 unfold atI at e;obtain⟨j,e1,e2⟩:=gW e;exact⟨j,e2,λx q=>by unfold atI;rw[h,e1];exact q⟩
noncomputable def MF(K:Frag):R2:=λx y H Q=>Iv K x y H Q∨UZ K x y H Q
def dJ:RB K (MF K) gIx:=by
 intro ρ H hd d e v u Q z hd' hR h1 h2 hf hQ;unfold gIx at hf;split at hf
 .obtain⟨ds,e1,hf⟩:=gW hf;obtain⟨w,e2,e3⟩:=gX hf;cases e3;obtain⟨a,xs,rfl,q,r⟩:=h1.seq hR e1;simp only[RD,RI]at h2;subst h2;obtain⟨j,j1,j2⟩:=LB r.len e2;obtain⟨x,x1,x2⟩:=r.get j1;rcases q with q|q
  .exact .inl ⟨a,xs,_,x,rfl,rfl,q,j2 x x1,hQ ρ H x .refl hR x2⟩
  .exact .inr ⟨a,xs,_,x,rfl,rfl,q,j2 x x1,hQ ρ H x .refl hR x2⟩
 .cases hf
noncomputable def Eb(xs:List D)(lo hi:Option Int):List D:=(xs.drop (HT.sIx 88 0 lo)).take (HT.sIx 88 88 hi-HT.sIx 88 0 lo)
def PD{ds:List D}{xs:List V}{lo hi:Option Int}(r:RDs K ρ H ds xs):RDs K ρ H (Eb ds lo hi) (Fj xs lo hi):=by
 unfold Eb Fj;rw[r.len];exact(r.drop _).take _
noncomputable abbrev MO1:=Ls->Hd->Option (Option Int×Hd)
def RO1(K:Frag)(t:TO)(m:MO1):Prop:=∀(ρ:108) (σ:St) (H:Hp) (hd:Hd) (ls:Ls) (Q:Option Int->Hp->Prop) (d:Option Int) (hd':Hd),RH K ρ H hd->RL K ρ H ls σ->m ls hd=some (d,hd') ->
 (∀ρ' H',Ext ρ H ρ' H'->RH K ρ' H' hd'->Q d H')->t σ H Q
noncomputable def E5:MO1:=λ_ hd=>some (none,hd)
noncomputable def GR(m:ME):MO1:=λls hd=>(m ls hd).bind λp=>match p.1 with
 |.im (.int i)=>some (some i,p.2)
 |_=>none
def XB:RO1 K KU E5:=by
 and_intros;cases hm;exact hQ ρ H .refl hR
def XA{t:TE}{m:ME}(h:RE K t m):RO1 K (Pb t) (GR m):=by
 and_intros;obtain⟨⟨d1,h1⟩,e1,hm⟩:=gW hm;dsimp only at hm;split at hm
 .cases hm;exact h ρ σ H hd ls _ _ _ hR hL e1 λρ1 H1 v x1 R1 r1=>⟨_,by simpa only[RD,RI]using r1,hQ ρ1 H1 x1 R1⟩
 .cases hm
noncomputable def Kk(m:ME)(ml mh:MO1):ME:=λls hd=>(m ls hd).bind λp=>(ml ls p.2).bind λl=>(mh ls l.2).bind λh=>(AX p.1).bind λds=>
 if ¬ (HT.sIx 83 0 l.1=0/\HT.sIx 83 83 h.1=83)then some (Au (Eb ds l.1 h.1),h.2)else none
def Zm{t:TE}{tl th:TO}{m:ME}{ml mh:MO1}(h:RE K t m)(hl:RO1 K tl ml)(hh:RO1 K th mh):RE K (tSl (Q5 K) t tl th) (Kk m ml mh):=by
 and_intros;obtain⟨⟨d1,h1⟩,e1,hm⟩:=gW hm;obtain⟨⟨d2,h2⟩,e2,hm⟩:=gW hm;obtain⟨⟨d3,h3⟩,e3,hm⟩:=gW hm;obtain⟨ds,e4,hm⟩:=gW hm;dsimp only at e2 e3 e4 hm;split at hm
 .next c=>
  cases hm;refine h ρ σ H hd ls _ d1 h1 hR hL e1 λρ1 H1 v1 x1 R1 r1=>?_;refine hl ρ1 σ H1 h1 ls _ d2 h2 R1 (hL.ext hR x1) e2 λρ2 H2 x2 R2=>?_;refine hh ρ2 σ H2 h2 ls _ d3 _ R2 (hL.ext hR 85) e3 λρ3 H3 x3 R3=>?_;obtain⟨a,xs,rfl,q,r⟩:=((r1.ext R1 x2).ext R2 x3).tup e4;refine⟨a,xs,rfl,q,by rw[r.len];exact c,λp hp=>?_⟩;obtain⟨R4,x4⟩:=R3.hid (ho:=.tup (Fj xs d2 d3)) hp;exact hQ ρ3 _ _ (((85).trans R2 x3).trans R3 x4) R4 (Co (SqT.of AG) ((PD r).ext R3 x4))
 .cases hm
noncomputable def Kl(m:ME)(ml mh:MO1):MA:=λls hd=>(m ls hd).bind λp=>(ml ls p.2).bind λl=>(mh ls l.2).bind λh=>(Ak h.2 p.1).bind λds=>some (Eb ds l.1 h.1,h.2)
def ZV{t:TE}{tl th:TO}{m:ME}{ml mh:MO1}(h:RE K t m)(hl:RO1 K tl ml)(hh:RO1 K th mh):RN K (tSl (Q6 K) t tl th) (Kl m ml mh):=by
 and_intros;obtain⟨⟨d1,h1⟩,e1,hm⟩:=gW hm;obtain⟨⟨d2,h2⟩,e2,hm⟩:=gW hm;obtain⟨⟨d3,h3⟩,e3,hm⟩:=gW hm;obtain⟨ds,e4,hm⟩:=gW hm;dsimp only at e2 e3 e4 hm;cases hm;refine h ρ σ H hd ls _ d1 h1 hR hL e1 λρ1 H1 v1 x1 R1 r1=>?_;refine hl ρ1 σ H1 h1 ls _ d2 h2 R1 (hL.ext hR x1) e2 λρ2 H2 x2 R2=>?_;refine hh ρ2 σ H2 h2 ls _ d3 _ R2 (hL.ext hR 85) e3 λρ3 H3 x3 R3=>?_;obtain⟨a,xs,rfl,q,r⟩:=RD.lst R3 ((r1.ext R1 x2).ext R2 x3) e4;refine⟨a,xs,rfl,q,λp hp=>?_⟩;obtain⟨R4,x4⟩:=R3.hid (ho:=.lst (Fj xs d2 d3)) hp;have x123:=(85).trans R2 x3;exact hQ ρ3 _ p _ (x123.trans R3 x4) R4 (x123.none hR hp R3) (R3.out hp) AG ((PD r).ext R3 x4)
noncomputable def mCB(f:List D->Hd->Option (D×Hd))(ma:MA):ME:=λls hd=>(ma ls hd).bind λp=>f p.1 p.2
def W0{r:List V->Hp->VK->Prop}{f:List D->Hd->Option (D×Hd)}{t:TA}{m:MA}(hr:RF K r f)(h:RA K t m):RE K (tCB r t) (mCB f m):=by
 and_intros;obtain⟨⟨d1,h1⟩,e1,hm⟩:=gW hm;refine h ρ σ H hd ls _ d1 h1 hR hL e1 λρ1 H1 v1 x1 R1 r1=>?_;exact hr ρ1 H1 h1 d1 v1 Q d hd' R1 r1 hm λρ' H' w x2 R2 r2=>hQ ρ' H' w 85 R2 r2
noncomputable def f1(tp:Bool)(g:List D->Option D):List D->Hd->Option (D×Hd)
 |[d],hd=>((if tp then Az hd d else Ak hd d)).bind λds=>(g ds).map (·,hd)
 |_,_=>none
def Iq{tp:Bool}{r:List V->Hp->VK->Prop}{g:List D->Option D}(h:RG K tp r g):RF K r (f1 tp g):=by
 intro ρ H hd ds vs Q z hd' hR h1 hf hQ;unfold f1 at hf;split at hf
 .next d hd'=>
  obtain⟨es,e1,hf⟩:=gW hf;obtain⟨w,e2,e3⟩:=gX hf;cases e3;simp only[RDs]at h1;obtain⟨x,r,rfl,rx,rfl⟩:=h1;cases tp with
  |true=>
   rw[gb rfl]at e1;obtain⟨a,xs,rfl,q,rr⟩:=rx.seq hR e1;exact h ρ H hd a xs es Q z hR (q.imp id λq=>⟨rfl,q⟩) rr e2 λH' w x R r=>hQ ρ H' w x R r
  |false=>
   rw[gh Bool.false_ne_true]at e1;obtain⟨a,xs,rfl,q,rr⟩:=rx.lst hR e1;exact h ρ H hd a xs es Q z hR (.inl q) rr e2 λH' w x R r=>hQ ρ H' w x R r
 .cases hf
noncomputable def B7(g:List D->Option D)(ml:MA):ME:=λls hd=>(ml ls hd).bind λp=>(g p.1).map (·,p.2)
def SA{tp:Bool}{r:List V->Hp->VK->Prop}{g:List D->Option D}{t:TE}{m:MA}(hr:RG K tp r g)(h:RN K t m):RE K (tCB r (Be t C5)) (B7 g m):=by
 and_intros;obtain⟨⟨d1,h1⟩,e1,hm⟩:=gW hm;obtain⟨w,e2,e3⟩:=gX hm;cases e3;refine h ρ σ H hd ls _ d1 _ hR hL e1 λρ1 H1 a xs x1 R1 na oa ea r1=>?_;exact hr ρ1 H1 _ a xs d1 Q d R1 (.inl (SqL.of ea)) r1 e2 λH' w x R r=>hQ ρ1 H' w (x1.trans R1 x) R r
noncomputable def BE(ds:List D):Option D:=some (.im (.int 83))
def Zh:RG K true (aC K) BE:=by
 intro ρ H hd a xs ds Q z hR q r e hQ;cases e;refine⟨a,xs,rfl,q.imp id λq=>q.2,?_⟩;rw[r.len];exact hQ H _ .refl hR (by simp[RD,RI])
noncomputable def BD(ds:List D):Option D:=some (Au ds)
def NB:RG K true (NC K) BD:=by
 intro ρ H hd a xs ds Q z hR q r e hQ;cases e;refine⟨a,xs,rfl,?_⟩;rcases q with q|⟨_,q⟩
 .refine .inl ⟨q,λp hp=>?_⟩;obtain⟨R2,x2⟩:=hR.hid (ho:=.tup xs) hp;exact hQ _ _ x2 R2 (Co (SqT.of AG) (r.ext hR x2))
 .exact .inr ⟨q,hQ H _ .refl hR (Co q r)⟩
noncomputable def HY(ds:List D):Option D:=(B1 ds).map λns=>.im (.int ns.sum)
def eU(K:Frag):List V->Hp->VK->Prop:=λxs H Q=>W4 K xs H Q∨W3 K xs H Q
def S5:RG K true (eU K) HY:=by
 intro ρ H hd a xs ds Q z hR q r e hQ;obtain⟨ns,e1,rfl⟩:=gX e;rw[C7 e1]at r;have:=DX r;subst this;rcases q with q|⟨_,q⟩
 .exact .inl ⟨a,ns,rfl,q,hQ H _ .refl hR (by simp[RD,RI])⟩
 .exact .inr ⟨a,ns,rfl,q,hQ H _ .refl hR (by simp[RD,RI])⟩
noncomputable def JD(ds:List D):Option D:=(CO ds).map λbs=>.im (.bl (bs.any id))
def S8:RG K false (aD K) JD:=by
 intro ρ H hd a xs ds Q z hR q r e hQ;obtain⟨ns,e1,rfl⟩:=gX e;rw[PL e1]at r;have:=SB r;subst this;rcases q with q|⟨q,_⟩
 .exact⟨a,ns,rfl,q,hQ H _ .refl hR (by simp[RD,RI])⟩
 .cases q
noncomputable def CJ:List Int->Int
 |[]=>0
 |[x]=>x
 |x::r=>if CJ r>x then CJ r else x
noncomputable def Cc:List Int->Int
 |[]=>0
 |[x]=>x
 |x::r=>if Cc r<x then Cc r else x
theorem BF:∀{xs:92},xs≠[]->CJ xs∈xs/\∀x∈xs,x<=CJ xs
 |[],h=>absurd rfl h
 |[x],_=>by simp[CJ]
 |x::y::r,_=>by
  obtain⟨h1,h2⟩:=BF (xs:=y::r) 71;rw[CJ];split
  .next h=>exact⟨gp _ h1,λz m=>by rcases mem_cons.mp m with rfl|m;omega;exact h2 z m⟩
  .next h=>exact⟨gq,λz m=>by rcases mem_cons.mp m with rfl|m;omega;exact Int.le_trans (h2 z m) 66⟩
  .simp
theorem Bn:∀{xs:92},xs≠[]->Cc xs∈xs/\∀x∈xs,Cc xs<=x
 |[],h=>absurd rfl h
 |[x],_=>by simp[Cc]
 |x::y::r,_=>by
  obtain⟨h1,h2⟩:=Bn (xs:=y::r) 71;rw[Cc];split
  .next h=>exact⟨gp _ h1,λz m=>by rcases mem_cons.mp m with rfl|m;omega;exact h2 z m⟩
  .next h=>exact⟨gq,λz m=>by rcases mem_cons.mp m with rfl|m;omega;exact Int.le_trans 66 (h2 z m)⟩
  .simp
noncomputable def Do(ds:List D):Option D:=(B1 ds).bind λns=>if ns=[]then none else some (.im (.int (CJ ns)))
noncomputable def Dm(ds:List D):Option D:=(B1 ds).bind λns=>if ns=[]then none else some (.im (.int (Cc ns)))
def eX(K:Frag):List V->Hp->VK->Prop:=λxs H Q=>W7 K xs H Q∨W6 K xs H Q
def G5{α:Type}{xs:List α}(h:xs≠[]):0<xs.length:=by cases xs<;>simp_all
def S7:RG K true (eX K) Do:=by
 intro ρ H hd a xs ds Q z hR q r e hQ;obtain⟨ns,e1,e⟩:=gW e;split at e
 .cases e
 .next hn=>
  cases e;rw[C7 e1]at r;have:=DX r;subst this;have u:∀M:Int,M∈ns->(∀x∈ns,x<=M)->M=CJ ns:=λM m1 m2=>by
   obtain⟨n1,n2⟩:=BF hn;have:=n2 M m1;have:=m2 _ n1;omega
  rcases q with q|⟨_,q⟩
  .exact .inl ⟨a,ns,rfl,q,G5 hn,λM m1 m2=>by rw[u M m1 m2];exact hQ H _ .refl hR (by simp[RD,RI])⟩
  .exact .inr ⟨a,ns,rfl,q,G5 hn,λM m1 m2=>by rw[u M m1 m2];exact hQ H _ .refl hR (by simp[RD,RI])⟩
def S6:RG K false (W5 K) Dm:=by
 intro ρ H hd a xs ds Q z hR q r e hQ;obtain⟨ns,e1,e⟩:=gW e;split at e
 .cases e
 .next hn=>
  cases e;rw[C7 e1]at r;have:=DX r;subst this;have u:∀M:Int,M∈ns->(∀x∈ns,M<=x)->M=Cc ns:=λM m1 m2=>by
   obtain⟨n1,n2⟩:=Bn hn;have:=n2 M m1;have:=m2 _ n1;omega
  rcases q with q|⟨q,_⟩
  .exact⟨a,ns,rfl,q,G5 hn,λM m1 m2=>by rw[u M m1 m2];exact hQ H _ .refl hR (by simp[RD,RI])⟩
  .cases q
noncomputable def Dr:List D->Hd->Option (D×Hd)
 |[.im (.int i),.im (.int j)],hd=>some (.im (.int (if j>i then j else i)),hd)
 |_,_=>none
noncomputable def Gc:List D->Hd->Option (D×Hd)
 |[.im (.int i),.im (.int j)],hd=>some (.im (.int (if j<i then j else i)),hd)
 |_,_=>none
def XH:RF K (λxs H Q=>∃i j,xs=[.int i,.int j]/\Q (.int (if j>i then j else i)) H) Dr:=by
 intro ρ H hd ds vs Q z hd' hR h1 hf hQ;unfold Dr at hf;split at hf
 .cases hf;simp only[RDs,RD,RI]at h1;obtain⟨x,r,rfl,rfl,y,r2,rfl,rfl,rfl⟩:=h1;exact⟨_,_,rfl,hQ ρ H _ .refl hR (by simp[RD,RI])⟩
 .cases hf
def XG:RF K (λxs H Q=>∃i j,xs=[.int i,.int j]/\Q (.int (if j<i then j else i)) H) Gc:=by
 intro ρ H hd ds vs Q z hd' hR h1 hf hQ;unfold Gc at hf;split at hf
 .cases hf;simp only[RDs,RD,RI]at h1;obtain⟨x,r,rfl,rfl,y,r2,rfl,rfl,rfl⟩:=h1;exact⟨_,_,rfl,hQ ρ H _ .refl hR (by simp[RD,RI])⟩
 .cases hf
noncomputable def HP(ml:MA):MA:=ml
def UK{t:TE}{m:MA}(h:RN K t m):RN K (tCB (Kg K) (Be t C5)) (HP m):=by
 and_intros;refine h ρ σ H hd ls _ d _ hR hL hm λρ1 H1 a xs x1 R1 na oa ea r1=>?_;refine⟨a,xs,rfl,.inl (SqL.of ea),λl hl=>?_⟩;obtain⟨R2,x2⟩:=R1.hid (ho:=.lst xs) hl;exact hQ ρ1 _ l xs 85 R2 (x1.none hR hl R1) (R1.out hl) AG (r1.ext R1 x2)
def Fx(d:PyData):Prop:=d.showable=true/\d.hasDict=false/\isDisplay d=true/\d.depth<=30/\d.shown.length<=sizeLine
open Classical in
noncomputable def Ce:List D->Hd->Option (D×Hd)
 |[d],hd=>match pyD hd d with
  |some p=>if Fx p then some (.im (.str p.shown),hd)else none
  |none=>none
 |_,_=>none
def XF:RF K (Q7 K) Ce:=by
 intro ρ H hd ds vs Q z hd' hR h1 hf hQ;unfold Ce at hf;split at hf
 .split at hf
  .next p e=>
   split at hf
   .next c=>
    cases hf;simp only[RDs]at h1;obtain⟨x,r,rfl,rx,rfl⟩:=h1;exact⟨x,p,rfl,Eo hR rx e,c.1,c.2.1,c.2.2.1,c.2.2.2.1,c.2.2.2.2,hQ ρ H _ .refl hR (by simp[RD,RI])⟩
   .cases hf
  .cases hf
 .cases hf
noncomputable def Em:I->Option V
 |.non=>some .non
 |.bl b=>some (.bl b)
 |.int i=>some (.int i)
 |.str x=>some (.str x)
 |.tup _=>none
noncomputable def Bz:List D->Option (List V)
 |[]=>some []
 |.im i::r=>(Em i).bind λv=>(Bz r).map (v::·)
 |_::_=>none
def JE{i:I}{v w:V}(e:Em i=some w)(h:RI K H i v):v=w/\EF w=true:=by
 cases i with
 |tup _=>simp[Em]at e
 |_=>simp only[Em,Option.some.injEq]at e;subst e;exact⟨by simpa only[RI]using h,rfl⟩
theorem Ha:∀{ds:List D} {vs ws:List V},Bz ds=some ws->RDs K ρ H ds vs->vs=ws/\ws.all EF=true
 |[],vs,ws,e,h=>by simp[Bz]at e;subst e;simp only[RDs]at h;subst h;exact⟨rfl,rfl⟩
 |.im i::r,vs,ws,e,h=>by
  simp only[Bz]at e;obtain⟨v,e1,e⟩:=gW e;obtain⟨us,e2,rfl⟩:=gX e;simp only[RDs,RD]at h;obtain⟨x,y,rfl,h1,h2⟩:=h;obtain⟨rfl,f1⟩:=JE e1 h1;obtain⟨rfl,f2⟩:=Ha e2 h2;exact⟨rfl,by simp[f1,f2]⟩
 |.mu _::_,_,_,e,_=>by simp[Bz]at e
 |.tm _::_,_,_,e,_=>by simp[Bz]at e
 |.ro _::_,_,_,e,_=>by simp[Bz]at e
 |.op _ _ _::_,_,_,e,_=>by simp[Bz]at e
 |.fv _ _::_,_,_,e,_=>by simp[Bz]at e
def gIn(neg:Bool):D->D->Hd->Option (D×Hd)
 |.im i,e,hd=>(Em i).bind λx=>(Az hd e).bind λds=>(Bz ds).map λxs=>(.im (.bl (if neg then !inV x xs else inV x xs)),hd)
 |_,_,_=>none
def Q3{neg:Bool}:RB K (rIn K neg) (gIn neg):=by
 intro ρ H hd d e v u Q z hd' hR h1 h2 hf hQ;unfold gIn at hf;split at hf
 .obtain⟨x,e1,hf⟩:=gW hf;obtain⟨ds,e2,hf⟩:=gW hf;obtain⟨xs,e3,e4⟩:=gX hf;cases e4;simp only[RD]at h1;obtain⟨rfl,f1⟩:=JE e1 h1;obtain⟨a,ys,rfl,q,r⟩:=h2.seq hR e2;obtain⟨rfl,f2⟩:=Ha e3 r;exact⟨a,ys,rfl,q,f1,f2,hQ ρ H _ .refl hR (by simp[RD,RI])⟩
 .cases hf
noncomputable def mMt(f:D->List D->Hd->Option (D×Hd))(mo:ME)(ma:MA):ME:=λls hd=>(mo ls hd).bind λp=>match Ak p.2 p.1 with
 |some _=>(ma ls p.2).bind λq=>f p.1 q.1 q.2
 |none=>none
def RM(K:Frag)(r:V->List V->Hp->VK->Prop)(f:D->List D->Hd->Option (D×Hd)):Prop:=∀(ρ:108) (H:Hp) (hd:Hd) (d:D) (v:V) (ds:List D) (vs:List V) (Q:VK) (z:D) (hd':Hd),RH K ρ H hd->RD K ρ H d v->RDs K ρ H ds vs->f d ds hd=some (z,hd') ->
 (∀ρ' H' w,Ext ρ H ρ' H'->RH K ρ' H' hd'->RD K ρ' H' z w->Q w H')->r v vs H Q
def Vz{r:V->List V->Hp->VK->Prop}{f:D->List D->Hd->Option (D×Hd)}{to:TE}{t:TA}{mo:ME}{ma:MA}(hr:RM K r f)(ho:RE K to mo)(ha:RA K t ma):RE K (tBM K "list" r to t) (mMt f mo ma):=by
 and_intros;obtain⟨⟨d1,h1⟩,e1,hm⟩:=gW hm;dsimp only at hm;split at hm
 .next e=>
  obtain⟨⟨d2,h2⟩,e2,hm⟩:=gW hm;refine ho ρ σ H hd ls _ d1 h1 hR hL e1 λρ1 H1 v x1 R1 r1=>⟨?_,?_⟩
  .obtain⟨a,xs,rfl,q,_⟩:=r1.lst R1 e;exact .inl ⟨rfl,xs,q⟩
  .exact ha ρ1 σ H1 h1 ls _ d2 h2 R1 (hL.ext hR x1) e2 λρ2 H2 vs x2 R2 r2=>hr ρ2 H2 h2 d1 v d2 vs Q d hd' R2 (r1.ext R1 x2) r2 hm λρ' H' w x3 R3 r3=>hQ ρ' H' w ((85).trans R2 x3) R3 r3
 .cases hm
def Zo{r:V->List V->Hp->VK->Prop}{f:D->List D->Hd->Option (D×Hd)}{to:TE}{mo:ME}(hr:RM K r f)(ho:RE K to mo):RE K (U2 K "list" r to) (mMt f mo A4):=Vz (t:=C5) hr ho SG
open Classical in
noncomputable def Ad:D->List D->Hd->Option (D×Hd)
 |.mu n,[x],hd=>match hd[n]? with
  |some (.lst ds)=>if Dq 83 then some (.im .non,hd.set n (.lst (ds++[x])))else none
  |_=>none
 |_,_,_=>none
def S3:RM K Oh Ad:=by
 intro ρ H hd d v ds vs Q z hd' hR h1 h2 hf hQ;unfold Ad at hf;split at hf
 .split at hf
  .next q=>
   split at hf
   .next c=>
    cases hf;simp only[RD]at h1;obtain⟨a,hn,rfl⟩:=h1;simp only[RDs]at h2;obtain⟨x,r,rfl,rx,rfl⟩:=h2;obtain⟨xs,e1,e2⟩:=hR.lst hn q;obtain⟨R2,x2⟩:=hR.put hn (o:=.lst (_++[_])) (ho:=.lst (xs++[x])) ⟨_,rfl,e2.app (.cons rx .nil)⟩;exact⟨a,xs,x,rfl,rfl,e1,by rw[e2.len];exact c,hQ ρ _ _ x2 R2 (by simp[RD,RI])⟩
   .cases hf
  .cases hf
 .cases hf
noncomputable def Hc:D->List D->Hd->Option (D×Hd)
 |.mu n,[],hd=>match hd[n]? with
  |some (.lst ds)=>(ds[83-1]?).map λy=>(y,hd.set n (.lst ds.dropLast))
  |_=>none
 |_,_,_=>none
theorem RDs.dropLast{ds:List D}{xs:List V}(h:RDs K ρ H ds xs):RDs K ρ H ds.dropLast xs.dropLast:=by
 rw[List.dropLast_eq_take,List.dropLast_eq_take,h.len];exact h.take _
def Za:RM K aB Hc:=by
 intro ρ H hd d v ds vs Q z hd' hR h1 h2 hf hQ;unfold Hc at hf;split at hf
 .split at hf
  .next q=>
   obtain⟨y,e0,e3⟩:=gX hf;cases e3;simp only[RD]at h1;obtain⟨a,hn,rfl⟩:=h1;simp only[RDs]at h2;subst h2;obtain⟨xs,e1,e2⟩:=hR.lst hn q;obtain⟨x,x1,x3⟩:=e2.get e0;obtain⟨R2,x2⟩:=hR.put hn (o:=.lst _) (ho:=.lst xs.dropLast) ⟨_,rfl,e2.dropLast⟩;exact⟨a,xs,x,rfl,rfl,e1,by rw[e2.len];exact x1,hQ ρ _ _ x2 R2 (x3.ext hR x2)⟩
  .cases hf
 .cases hf
end
end L2
namespace L2
open PySem PySem.Spec PyProof.Rows
section
variable{K:Frag}{ρ ρ':108}{H H':Hp}{hd hd':Hd}
noncomputable def AU:MS:=λls hd=>some (.nx ls,hd)
def Ob:RS K JY AU:=by
 intro ρ σ H hd ls E f hd' hR hL hm hQ;cases hm;exact hQ ρ H .refl hR σ hL
noncomputable def A5(a b:MS):MS:=λls hd=>(a ls hd).bind λp=>match p.1 with
 |.nx ls1=>b ls1 p.2
 |f=>some (f,p.2)
def ZR(ha:RS K t a)(hb:RS K u b):RS K (Tr t u) (A5 a b):=by
 intro ρ σ H hd ls E f hd' hR hL hm hQ;obtain⟨⟨f1,h1⟩,e1,hm⟩:=gW hm;refine ha ρ σ H hd ls { E with nx:=u E } f1 h1 hR hL e1 λρ1 H1 x1 R1=>?_;cases f1 with
 |nx ls1=>
  intro σ1 L1;exact hb ρ1 σ1 H1 h1 ls1 E f hd' R1 L1 hm λρ2 H2 x2 R2=>hQ ρ2 H2 85 R2
 |bk ls1=>cases hm;exact hQ ρ1 H1 x1 R1
 |ct ls1=>cases hm;exact hQ ρ1 H1 x1 R1
 |rt d=>cases hm;exact hQ ρ1 H1 x1 R1
noncomputable def B0(m:ME):MS:=λls hd=>(m ls hd).bind λp=>some (.nx ls,p.2)
def X7(h:RE K t m):RS K (Pe t) (B0 m):=by
 intro ρ σ H hd ls E f hd' hR hL hm hQ;obtain⟨⟨d1,h1⟩,e1,hm⟩:=gW hm;cases hm;exact h ρ σ H hd ls _ d1 _ hR hL e1 λρ1 H1 v x1 R1 r1=>hQ ρ1 H1 x1 R1 σ (hL.ext hR x1)
noncomputable def AQ(m:ME):MS:=λls hd=>(m ls hd).bind λp=>some (.rt p.1,p.2)
def ZS(h:RE K t m):RS K (Ts t) (AQ m):=by
 intro ρ σ H hd ls E f hd' hR hL hm hQ;obtain⟨⟨d1,h1⟩,e1,hm⟩:=gW hm;cases hm;exact h ρ σ H hd ls _ d1 _ hR hL e1 λρ1 H1 v x1 R1 r1=>hQ ρ1 H1 x1 R1 v r1
noncomputable def Aa(c:MT)(a b:MS):MS:=λls hd=>(c ls hd).bind λp=>if p.1=true then a ls p.2 else b ls p.2
def dE(hc:RT K tc c)(ha:RS K t a)(hb:RS K u b):RS K (Tz tc t u) (Aa c a b):=by
 intro ρ σ H hd ls E f hd' hR hL hm hQ;obtain⟨⟨d1,h1⟩,e1,hm⟩:=gW hm;refine hc ρ σ H hd ls _ d1 h1 hR hL e1 λρ1 H1 x1 R1=>?_;cases d1 with
 |true=>
  rw[gb rfl]at hm ⊢;exact ha ρ1 σ H1 h1 ls E f hd' R1 (hL.ext hR x1) hm λρ2 H2 x2 R2=>hQ ρ2 H2 85 R2
 |false=>
  rw[gh Bool.false_ne_true]at hm ⊢;exact hb ρ1 σ H1 h1 ls E f hd' R1 (hL.ext hR x1) hm λρ2 H2 x2 R2=>hQ ρ2 H2 85 R2
noncomputable def FA:MS:=λ_ _=>none
def UF:RS K Mh FA:=by
 intro ρ σ H hd ls E f hd' hR hL hm hQ;cases hm
noncomputable abbrev MG:=D->Ls->Hd->Option Ls
noncomputable abbrev MGs:=List D->Ls->Hd->Option Ls
def RGt(K:Frag)(t:TG)(m:MG):Prop:=∀(ρ:108) (σ:St) (H:Hp) (hd:Hd) (ls ls':Ls) (d:D) (v:V) (Q:St->Hp->Prop),RH K ρ H hd->RL K ρ H ls σ->RD K ρ H d v->m d ls hd=some ls' ->
 (∀σ',RL K ρ H ls' σ'->Q σ' H)->t v σ H Q
def O9(K:Frag)(t:TGs)(m:MGs):Prop:=∀(ρ:108) (σ:St) (H:Hp) (hd:Hd) (ls ls':Ls) (d:List D) (v:List V) (Q:St->Hp->Prop),RH K ρ H hd->RL K ρ H ls σ->RDs K ρ H d v->m d ls hd=some ls' ->
 (∀σ',RL K ρ H ls' σ'->Q σ' H)->t v σ H Q
theorem RL.set(h:RL K ρ H ls σ)(i:Nat)(r:RD K ρ H d v):RL K ρ H (ls.set i (some d)) (σ.set i (some v)):=by
 refine⟨by simp[h.len],λj e q=>?_⟩;by_cases hij:i=j
 .subst hij;have hl:i<ls.length:=by
   have:=(75 q).1;simpa using this
  rw[List.getElem?_set_self hl]at q;cases q;exact⟨v,by rw[List.getElem?_set_self (by rw[<- h.len];exact hl)],r⟩
 .rw[List.getElem?_set_ne hij]at q;obtain⟨w,e1,e2⟩:=h.ob j e q;exact⟨w,by rw[List.getElem?_set_ne hij];exact e1,e2⟩
noncomputable def AA(i:Nat):MG:=λd ls _=>some (ls.set i (some d))
def Kb{i:Nat}:RGt K (EE i) (AA i):=by
 intro ρ σ H hd ls ls' d v Q hR hL hd hm hQ;cases hm;exact hQ _ (hL.set i hd)
noncomputable def BR:MGs:=λds ls _=>match ds with
 |[]=>some ls
 |_=>none
noncomputable def AT(m:MG)(r:MGs):MGs:=λds ls hd=>match ds with
 |d::es=>(m d ls hd).bind λls1=>r es ls1 hd
 |[]=>none
def XD:O9 K VZ BR:=by
 intro ρ σ H hd ls ls' d v Q hR hL hd hm hQ;cases d with
 |nil=>
  simp only[RDs]at hd;subst hd;cases hm;exact⟨rfl,hQ _ hL⟩
 |cons a b=>cases hm
def UM(h:RGt K t m)(h':O9 K u r):O9 K (Ql t u) (AT m r):=by
 intro ρ σ H hd ls ls' d v Q hR hL hd hm hQ;cases d with
 |nil=>cases hm
 |cons a b=>
  simp only[RDs]at hd;obtain⟨x,y,rfl,h1,h2⟩:=hd;obtain⟨ls1,e1,e2⟩:=gW hm;exact⟨x,y,rfl,h ρ σ H _ ls ls1 a x _ hR hL h1 e1 λσ1 L1=>h' ρ σ1 H _ ls1 ls' b y Q hR L1 h2 e2 hQ⟩
noncomputable def BO(n:Nat)(r:MGs):MG:=λd ls hd=>(AX d).bind λds=>if 83=n then r ds ls hd else none
def Zf{n:Nat}(h':O9 K u r):RGt K (Qj K n u) (BO n r):=by
 intro ρ σ H hd ls ls' d v Q hR hL hd hm hQ;obtain⟨ds,e1,hm⟩:=gW hm;split at hm
 .next c=>
  obtain⟨a,xs,rfl,q,rr⟩:=hd.tup e1;exact⟨a,xs,rfl,q,by rw[rr.len];exact c,h' ρ σ H _ ls ls' ds xs Q hR hL rr hm hQ⟩
 .cases hm
noncomputable def GU(m:ME)(g:MG):MS:=λls hd=>(m ls hd).bind λp=>(g p.1 ls p.2).map λls'=>(.nx ls',p.2)
def N8(h:RE K t m)(hg:RGt K g n):RS K (F0 t g) (GU m n):=by
 intro ρ σ H hd ls E f hd' hR hL hm hQ;obtain⟨⟨d1,h1⟩,e1,hm⟩:=gW hm;obtain⟨ls',e2,e3⟩:=gX hm;cases e3;exact h ρ σ H hd ls _ d1 _ hR hL e1 λρ1 H1 v x1 R1 r1=>hg ρ1 σ H1 _ ls ls' d1 v _ R1 (hL.ext hR x1) r1 e2 λσ' L'=>hQ ρ1 H1 x1 R1 σ' L'
noncomputable abbrev AE(i:Nat)(m:ME):MS:=GU m (AA i)
noncomputable abbrev Gd:=List (Nat×List D)
noncomputable abbrev MI:=Ls->Hd->Option ((List D×Gd)×Hd)
def GOk(hd:Hd)(g:Gd):Prop:=∀p∈g,hd[p.1]?=some (.lst p.2)
@[simp] theorem AK(hd:Hd):GOk hd []:=λp h=>by cases h
def O4(K:Frag)(ρ:108)(H:Hp)(J:It)(ds:List D)(g:Gd):Prop:=∀(ρ2:108) (H2:Hp) (hd2:Hd),Ext ρ H ρ2 H2->RH K ρ2 H2 hd2->GOk hd2 g ->
 ∀i:Nat,(i<83->J.go i H2/\∀x H3,J.yld i H2 x H3->∃ρ3 d,Ext ρ2 H2 ρ3 H3/\ρ3=ρ2/\RH K ρ3 H3 hd2/\ds[i]?=some d/\RD K ρ3 H3 d x)/\(i=83->J.stop i H2)
def RIt(K:Frag)(t:TI)(m:MI):Prop:=∀(ρ:108) (σ:St) (H:Hp) (hd:Hd) (ls:Ls) (Q:It->Hp->Prop) (d:List D) (g:Gd) (hd':Hd),RH K ρ H hd->RL K ρ H ls σ->m ls hd=some ((d,g),hd') ->
 (∀ρ' H' J,Ext ρ H ρ' H'->RH K ρ' H' hd'->GOk hd' g->O4 K ρ' H' J d g->Q J H')->t σ H Q
def PR(hR:RH K ρ H hd)(q:SqT K H a xs)(r:RDs K ρ H ds xs)(g:Gd):O4 K ρ H (Itt K a) ds g:=by
 intro ρ2 H2 hd2 x2 R2 _ i;have q2:=(x2.grow hR).sq q;have r2:=r.ext hR x2;have uniq:∀ys,SqT K H2 a ys->True:=λ_ _=>trivial;refine⟨λhi=>?_,λhi=>⟨xs,q2,by rw[r2.len,hi];exact gk _⟩⟩;have e:ds[i]?=some ds[i]:=by simp[hi]
 obtain⟨x,x1,x3⟩:=r2.get e;refine⟨⟨xs,x,q2,x1⟩,λy H3 ⟨e3,hy⟩=>?_⟩;subst e3;have:=hy xs q2;rw[x1]at this;cases this;exact⟨ρ2,_,.refl,rfl,R2,e,x3⟩
noncomputable def B5(m:ME):MI:=λls hd=>(m ls hd).bind λp=>(AX p.1).map λds=>((ds,[]),p.2)
def S4(h:RE K t m):RIt K (NZ K t) (B5 m):=by
 intro ρ σ H hd ls Q d g hd' hR hL hm hQ;obtain⟨⟨d1,h1⟩,e1,hm⟩:=gW hm;obtain⟨ds,e2,e3⟩:=gX hm;cases e3;refine h ρ σ H hd ls _ d1 _ hR hL e1 λρ1 H1 v x1 R1 r1=>?_;obtain⟨a,xs,rfl,q,r⟩:=r1.tup e2;exact⟨a,rfl,⟨xs,q⟩,hQ ρ1 H1 _ x1 R1 (AK _) (PR R1 q r [])⟩
noncomputable def BJ(m:ME):MI:=λls hd=>(m ls hd).bind λp=>match p.1 with
 |.mu n=>match p.2[n]? with
  |some (.lst ds)=>some ((ds,[(n,ds)]),p.2)
  |_=>none
 |.ro ns=>some ((ns.map λn=>.im (.int n),[]),p.2)
 |_=>none
def Od(h:RE K t m):RIt K (GX K t) (BJ m):=by
 intro ρ σ H hd ls Q d g hd' hR hL hm hQ;obtain⟨⟨d1,h1⟩,e1,hm⟩:=gW hm;dsimp only at hm;split at hm
 .next n=>
  split at hm
  .next ds q=>
   cases hm;refine h ρ σ H hd ls _ _ _ hR hL e1 λρ1 H1 v x1 R1 r1=>?_;simp only[RD]at r1;obtain⟨a,hn,rfl⟩:=r1;obtain⟨xs,e2,e3⟩:=R1.lst hn q;refine⟨a,rfl,⟨xs,SqL.of e2⟩,hQ ρ1 H1 _ x1 R1 (λp z=>by simp at z;subst z;exact q) ?_⟩;intro ρ2 H2 hd2 x2 R2 G2 i;have q2:=G2 (n,d) 71;have hn2:ρ2[n]?=some a:=by
    obtain⟨r,rfl,_⟩:=x2.pre;rw[List.getElem?_append_left (List.getElem?_eq_some_iff.mp hn).1];exact hn
   obtain⟨ys,e4,e5⟩:=R2.lst hn2 q2;refine⟨λhi=>?_,λhi=>⟨ys,SqL.of e4,by rw[e5.len,hi];exact gk _⟩⟩;have e:d[i]?=some d[i]:=by simp[hi]
   obtain⟨x,y1,y2⟩:=e5.get e;refine⟨⟨ys,x,SqL.of e4,y1⟩,λy H3 ⟨e6,hy⟩=>?_⟩;subst e6;have:=hy ys (SqL.of e4);rw[y1]at this;cases this;exact⟨ρ2,_,.refl,rfl,R2,e,y2⟩
  .cases hm
 .next ns=>
  cases hm;refine h ρ σ H hd ls _ _ _ hR hL e1 λρ1 H1 v x1 R1 r1=>?_;simp only[RD]at r1;obtain⟨a,rfl,q⟩:=r1;refine⟨a,rfl,⟨_,q.sq⟩,hQ ρ1 H1 _ x1 R1 (AK _) ?_⟩;intro ρ2 H2 hd2 x2 R2 G2 i;have q2:=(q.grow (x2.grow R1)).sq;have e5:RDs K ρ2 H2 (ns.map λn=>.im (.int n)) (ns.map V.int):=E7;refine⟨λhi=>?_,λhi=>⟨_,q2,by rw[e5.len,hi];exact gk _⟩⟩;have e:(ns.map λn=>D.im (.int n))[i]?=some ((ns.map λn=>D.im (.int n))[i]):=by simp[hi]
  obtain⟨x,y1,y2⟩:=e5.get e;refine⟨⟨_,x,q2,y1⟩,λy H3 ⟨e6,hy⟩=>?_⟩;subst e6;have:=hy _ q2;rw[y1]at this;cases this;exact⟨ρ2,_,.refl,rfl,R2,e,y2⟩
 .cases hm
noncomputable def Km(ml:MA):MI:=λls hd=>(ml ls hd).map λp=>((p.1,[]),p.2)
def Ze(h:RN K t m):RIt K (GX K t) (Km m):=by
 intro ρ σ H hd ls Q d g hd' hR hL hm hQ;obtain⟨⟨d1,h1⟩,e1,e3⟩:=gX hm;obtain⟨⟨rfl,rfl⟩,rfl⟩:=Prod.mk.inj e3 |>.imp Prod.mk.inj id;clear e3 hm;refine h ρ σ H hd ls _ _ _ hR hL e1 λρ1 H1 a xs x1 R1 na oa ea r1=>?_;refine⟨a,rfl,⟨xs,SqL.of ea⟩,hQ ρ1 H1 _ x1 R1 (AK _) ?_⟩;intro ρ2 H2 hd2 x2 R2 G2 i;have q2:SqL K H2 a xs:=SqL.of (x2.keep a _ ea oa nt);have r2:=r1.ext R1 x2;refine⟨λhi=>?_,λhi=>⟨xs,q2,by rw[r2.len,hi];exact gk _⟩⟩;have hi:i<d1.length:=hi;have e:d1[i]?=some d1[i]:=by simp[hi]
 obtain⟨x,y1,y2⟩:=r2.get e;refine⟨⟨xs,x,q2,y1⟩,λy H3 ⟨e6,hy⟩=>?_⟩;subst e6;have:=hy xs q2;rw[y1]at this;cases this;exact⟨ρ2,_,.refl,rfl,R2,e,y2⟩
noncomputable def Ah(lo:Int):Nat->List D
 |0=>[]
 |n+1=>.im (.int lo)::Ah (lo+1) n
@[simp] theorem Jk(lo:Int)(n:Nat):(Ah lo n).length=n:=by
 induction n generalizing lo with
 |zero=>rfl
 |succ n ih=>simp[Ah,ih]
def Jl{n:Nat}:∀{lo:Int} {i:Nat},i<n->(Ah lo n)[i]?=some (.im (.int (lo+i))):=by
 induction n with
 |zero=>intro lo i h;omega
 |succ n ih=>
  intro lo i h;cases i with
  |zero=>simp[Ah]
  |succ i=>
   simp only[Ah,List.getElem?_cons_succ];rw[ih 66]
   congr 3
   push_cast
   omega
def PU{lo:Int}{n:Nat}:O4 K ρ H (Itr lo n) (Ah lo n) g:=by
 intro ρ2 H2 hd2 x2 R2 G2 i;refine⟨λhi=>?_,λhi=>by rw[hi,Jk];exact gk _⟩;rw[Jk]at hi;refine⟨hi,λx H3 ⟨e1,e2⟩=>?_⟩;subst e1 e2;exact⟨ρ2,_,.refl,rfl,R2,Jl hi,by simp[RD,RI]⟩
open Classical in
noncomputable def Bo(m:MA):MI:=λls hd=>(m ls hd).bind λp=>match p.1 with
 |[.im (.int j)]=>if GN j then some ((Ah 0 j.toNat,[]),p.2)else none
 |_=>none
def XC(h:RA K t m):RIt K (Qh t) (Bo m):=by
 intro ρ σ H hd ls Q d g hd' hR hL hm hQ;obtain⟨⟨d1,h1⟩,e1,hm⟩:=gW hm;dsimp only at hm;split at hm
 .next j=>
  split at hm
  .next c=>
   cases hm;refine h ρ σ H hd ls _ _ _ hR hL e1 λρ1 H1 v x1 R1 r1=>?_;simp only[RDs,RD,RI]at r1;obtain⟨x,r,rfl,rfl,rfl⟩:=r1;exact⟨j,rfl,c.1,c.2,hQ ρ1 H1 _ x1 R1 (AK _) PU⟩
  .cases hm
 .cases hm
open Classical in
noncomputable def Bg(n:MG)(b:MS)(g:Gd):List D->Ls->Hd->Option (Fl×Hd)
 |[],ls,hd=>some (.nx ls,hd)
 |d::r,ls,hd=>(n d ls hd).bind λls1=>(b ls1 hd).bind λp=>match p.1 with
  |.nx ls2=>if GOk p.2 g then Bg n b g r ls2 p.2 else none
  |.ct ls2=>if GOk p.2 g then Bg n b g r ls2 p.2 else none
  |.bk ls2=>some (.nx ls2,p.2)
  |.rt d=>some (.rt d,p.2)
noncomputable def BC(mi:MI)(n:MG)(b:MS):MS:=λls hd=>(mi ls hd).bind λp=>Bg n b p.1.2 p.1.1 ls p.2
def ZT(hi:RIt K wi mi)(hg:RGt K g n)(hb:RS K tb b):RS K (U0 wi g tb) (BC mi n b):=by
 intro ρ σ H hd ls E f hd' hR hL hm hQ;obtain⟨⟨⟨ds,gd⟩,h1⟩,e1,hm⟩:=gW hm;refine hi ρ σ H hd ls _ ds gd h1 hR hL e1 λρ1 H1 J x1 R1 G1 Y=>?_;dsimp only at hm;refine⟨λi m σ2 H2=>m=83-i/\i<=83/\∃ρ2 ls2 hd2,Ext ρ1 H1 ρ2 H2/\RH K ρ2 H2 hd2/\RL K ρ2 H2 ls2 σ2/\GOk hd2 gd/\Bg n b gd (ds.drop i) ls2 hd2=some (f,hd'),
  ⟨83,by simp,ir _,ρ1,ls,h1,.refl,R1,hL.ext hR x1,G1,by simpa using hm⟩,?_⟩
 rintro i m σ2 H2 ⟨rfl,hi,ρ2,ls2,hd2,x2,R2,L2',G2,hm2⟩;obtain⟨Y1,Y2⟩:=Y ρ2 H2 hd2 x2 R2 G2 i;by_cases hlt:i<83
 .obtain⟨go,Y1⟩:=Y1 hlt;have ed:ds.drop i=ds[i]::ds.drop (i+1):=List.drop_eq_getElem_cons hlt;rw[ed]at hm2;unfold Bg at hm2;obtain⟨ls3,e3,hm2⟩:=gW hm2;obtain⟨⟨fl,hd4⟩,e4,hm2⟩:=gW hm2;refine .inr ⟨go,λσ' H'=>∃ρ2 ls2 hd2,Ext ρ1 H1 ρ2 H'/\RH K ρ2 H' hd2/\RL K ρ2 H' ls2 σ'/\GOk hd2 gd/\Bg n b gd (ds.drop (i+1)) ls2 hd2=some (f,hd'),λσ' H' z=>⟨83-(i+1),by omega,rfl,hlt,z⟩,λx H3 y=>?_⟩;obtain⟨ρ3,d3,x3,rfl,R3,e5,r3⟩:=Y1 x H3 y;have e6:d3=ds[i]:=by
   have:ds[i]?=some ds[i]:=by simp[hlt]
   rw[this]at e5;exact(104 e5).symm
  subst e6;refine hg ρ3 σ2 H3 hd2 ls2 ls3 _ x _ R3 (L2'.ext R2 x3) r3 e3 λσ4 L4=>?_;refine hb ρ3 σ4 H3 hd2 ls3 _ fl hd4 R3 L4 e4 λρ5 H5 x5 R5=>?_;have x15:=(x2.trans R2 x3).trans R3 x5;cases fl with
  |nx ls5=>
   intro σ5 L5;dsimp only at hm2;split at hm2
   .next c=>exact⟨ρ5,ls5,hd4,x15,R5,L5,c,hm2⟩
   .cases hm2
  |ct ls5=>
   intro σ5 L5;dsimp only at hm2;split at hm2
   .next c=>exact⟨ρ5,ls5,hd4,x15,R5,L5,c,hm2⟩
   .cases hm2
  |bk ls5=>
   intro σ5 L5;cases hm2;exact hQ ρ5 H5 (x1.trans R1 x15) R5 σ5 L5
  |rt d5=>
   intro v5 r5;cases hm2;exact hQ ρ5 H5 (x1.trans R1 x15) R5 v5 r5
 .have e:i=ds.length:=by omega
  subst e;rw[List.drop_length]at hm2;unfold Bg at hm2;cases hm2;exact .inl ⟨Y2 rfl,hQ ρ2 H2 85 R2 σ2 L2'⟩
open Classical in
noncomputable def CC(n:MG)(c:MT)(m:ME)(g:Gd):List D->Ls->Hd->Option (List D×Hd)
 |[],_,hd=>some ([],hd)
 |d::r,ls,hd=>(n d ls hd).bind λls1=>(c ls1 hd).bind λp=>if p.1=true then(m ls1 p.2).bind λq=>if GOk q.2 g then(CC n c m g r ls1 q.2).map λz=>(q.1::z.1,z.2)else none else if GOk p.2 g then CC n c m g r ls1 p.2 else none
noncomputable def Dw(k:Nat)(ix:77)(ls:Ls):Ls:=List.replicate k none++ix.map λi=>(ls[i]?).join
open Classical in
noncomputable def AW(k:Nat)(ix:77)(mi:MI)(n:MG)(c:MT)(m:ME):MA:=λls hd=>(mi ls hd).bind λp=>if Bh p.1.1.length then CC n c m p.1.2 p.1.1 (Dw k ix ls) p.2 else none
def Z4{k:Nat}(h:RL K ρ H ls σ):RL K ρ H (Dw k ix ls) (Hj k ix σ):=by
 refine⟨by simp[Dw,Hj],λi d e=>?_⟩;unfold Dw at e;unfold Hj;by_cases hi:i<k
 .rw[List.getElem?_append_left (by simpa using hi),List.getElem?_replicate]at e;split at e<;>cases e
 .have hi':k<=i:=not_lt.mp hi;rw[List.getElem?_append_right (by simpa using hi'),List.length_replicate,List.getElem?_map]at e ⊢;cases q:ix[i-k]? with
  |none=>rw[q]at e;cases e
  |some j=>
   rw[q]at e;simp only[i4,Option.some.injEq]at e ⊢;have e5:ls[j]?=some (some d):=by
    cases w:ls[j]? with
    |none=>rw[w]at e;cases e
    |some z=>rw[w]at e;simpa using e
   obtain⟨v,e6,e7⟩:=h.ob j d e5;exact⟨v,by rw[e6];rfl,e7⟩
def RH.hputO(h:RH K ρ H hd)(out:a∉ρ)(hl:H a=some o)(c:Chg H a)(n1:∀ps,o≠.tbl ps)(n2:∀φ,o≠.ext φ):RH K ρ (upd H a ho) hd:=by
 have gr:Grow H (upd H a ho):=Grow.refl.put c;refine⟨h.len,h.nd,h.tabs.upd (λps z=>n1 ps (104 (hl.symm.trans z))) (λps z=>n2 ps (104 (hl.symm.trans z))),λm o' b e1 e2=>?_⟩;obtain⟨ho',q1,q2⟩:=h.ob m o' b e1 e2;have:b≠a:=λz=>out (by rw[<- z];exact i6 e2);exact⟨ho',by rw[upd_ne this];exact q1,by simpa using q2.mono gr []⟩
def Ext.outk(x:Ext ρ H ρ' H')(h:H a=some o)(out:a∉ρ):a∉ρ':=by
 obtain⟨r,rfl,fr⟩:=x.pre;intro z;rcases mem_append.mp z with z|z
 .exact out z
 .have:=fr _ z;rw[h]at this;cases this
structure Acc(K:Frag)(α:Type)(o0:HO)(a0:α) where
 rel:List Addr->Hp->α->HO->Prop
 mono:∀{ρ:108} {H H':Hp} {a:α} {o:HO} (r:108),Grow H H'->rel ρ H a o->rel (ρ++r) H' a o
 chg:∀{ρ:108} {H:Hp} {a:α} {o:HO},rel ρ H a o->¬ Stb o
 chg2:∀{ρ:108} {H:Hp} {a:α} {o:HO},rel ρ H a o->(∀xs,o≠.tbl xs)/\∀z,o≠.ext z
 init:∀ρ H,rel ρ H a0 o0
noncomputable abbrev MM(α:Type):=Ls->Hd->α->Option (α×Hd)
def RM1{α:Type}{o0:HO}{a0:α}(B:Acc K α o0 a0)(t:TM)(m:MM α):Prop:=∀(ρ:108) (σ:St) (H:Hp) (hd:Hd) (ls:Ls) (a a':α) (hd':Hd) (Da:Addr) (o:HO) (Q:Hp->Prop),RH K ρ H hd->RL K ρ H ls σ->Da∉ρ->H Da=some o->B.rel ρ H a o ->
 m ls hd a=some (a',hd')->(∀ρ' H' o',Ext ρ H ρ' H'->RH K ρ' H' hd'->H' Da=some o->B.rel ρ' H' a' o'->Q (upd H' Da o'))->t Da σ H Q
open Classical in
noncomputable def mGo{α:Type}(n:MG)(c:MT)(me:MM α)(g:Gd):List D->Ls->Hd->α->Option (α×Hd)
 |[],_,hd,a=>some (a,hd)
 |d::r,ls,hd,a=>(n d ls hd).bind λls1=>(c ls1 hd).bind λp=>if p.1=true then(me ls1 p.2 a).bind λq=>if GOk q.2 g then mGo n c me g r ls1 q.2 q.1 else none else if GOk p.2 g then mGo n c me g r ls1 p.2 a else none
noncomputable def HQ{α:Type}(k:Nat)(ix:77)(mi:MI)(n:MG)(c:MT)(a0:α)(me:MM α):Ls->Hd->Option (α×Hd):=λls hd=>(mi ls hd).bind λp=>mGo n c me p.1.2 p.1.1 (Dw k ix ls) p.2 a0
def RNG{α:Type}{o0:HO}{a0:α}(B:Acc K α o0 a0)(t:TE)(m:Ls->Hd->Option (α×Hd)):Prop:=∀(ρ:108) (σ:St) (H:Hp) (hd:Hd) (ls:Ls) (Q:VK) (a:α) (hd':Hd),RH K ρ H hd->RL K ρ H ls σ->m ls hd=some (a,hd') ->
 (∀ρ' H' Da o,Ext ρ H ρ' H'->RH K ρ' H' hd'->H Da=none->Da∉ρ'->H' Da=some o->B.rel ρ' H' a o->Q (.ref Da) H')->t σ H Q
def N9{α:Type}{o0:HO}{a0:α}{B:Acc K α o0 a0}{k:Nat}{ix:77}{wi:TI}{g:TG}{tf:TT}{tm:TM}{mi:MI}{n:MG}{c:MT}{m:MM α}(hi:RIt K wi mi)(hg:RGt K g n)(hf:RT K tf c)(he:RM1 B tm m):RNG B (Fs o0 k ix wi g tf tm) (HQ k ix mi n c a0 m):=by
 intro ρ σ H hd ls Q out hd' hR hL hm hQ;obtain⟨⟨⟨ds,gd⟩,h1⟩,e1,hm⟩:=gW hm;dsimp only at hm;refine hi ρ σ H hd ls _ ds gd h1 hR hL e1 λρ1 H1 J x1 R1 G1 Y=>?_;intro Da hDa;obtain⟨R1',x1'⟩:=R1.hid (ho:=o0) hDa;have oD:Da∉ρ1:=R1.out hDa;have nD:H Da=none:=x1.none hR hDa R1;refine⟨λi mm σ2 H2=>mm=83-i/\i<=83/\∃ρ2 ls2 hd2 a2 o2,Ext ρ1 H1 ρ2 H2/\Da∉ρ2/\H2 Da=some o2/\RH K ρ2 H2 hd2/\RL K ρ2 H2 ls2 σ2/\B.rel ρ2 H2 a2 o2/\GOk hd2 gd/\mGo n c m gd (ds.drop i) ls2 hd2 a2=some (out,hd'),
  ⟨83,by simp,ir _,ρ1,_,h1,a0,o0,x1',oD,AG,R1',(Z4 ((hL.ext hR x1).ext R1 x1')),B.init _ _,G1,by simpa using hm⟩,?_⟩
 rintro i mm σ2 H2 ⟨rfl,hi,ρ2,ls2,hd2,a2,o2,x2,oD2,hD2,R2,L2',r2,G2,hm2⟩;obtain⟨Y1,Y2⟩:=Y ρ2 H2 hd2 x2 R2 G2 i;by_cases hlt:i<83
 .obtain⟨go,Y1⟩:=Y1 hlt;have ed:ds.drop i=ds[i]::ds.drop (i+1):=List.drop_eq_getElem_cons hlt;rw[ed]at hm2;unfold mGo at hm2;obtain⟨ls3,e3,hm2⟩:=gW hm2;obtain⟨⟨bb,hd4⟩,e4,hm2⟩:=gW hm2;refine .inr ⟨go,λσ' H'=>∃ρ2 ls2 hd2 a2 o2,Ext ρ1 H1 ρ2 H'/\Da∉ρ2/\H' Da=some o2/\RH K ρ2 H' hd2/\RL K ρ2 H' ls2 σ'/\B.rel ρ2 H' a2 o2/\GOk hd2 gd/\mGo n c m gd (ds.drop (i+1)) ls2 hd2 a2=some (out,hd'),λσ' H' z=>⟨83-(i+1),by omega,rfl,hlt,z⟩,λx H3 y=>?_⟩;obtain⟨ρ3,d3,x3,rfl,R3,e5,r3⟩:=Y1 x H3 y;have e6:d3=ds[i]:=by
   have:ds[i]?=some ds[i]:=by simp[hlt]
   rw[this]at e5;exact(104 e5).symm
  subst e6;refine hg ρ3 σ2 H3 hd2 ls2 ls3 _ x _ R3 (L2'.ext R2 x3) r3 e3 λσ4 L4=>?_;refine hf ρ3 σ4 H3 hd2 ls3 _ bb hd4 R3 L4 e4 λρ5 H5 x5 R5=>?_;have hD3:H3 Da=some o2:=x3.keep Da _ hD2 oD2 (B.chg2 r2).1;have hD5:H5 Da=some o2:=x5.keep Da _ hD3 oD2 (B.chg2 r2).1;have out5:Da∉ρ5:=x5.outk hD3 oD2;have y25:=x3.trans R3 x5;have r5:B.rel ρ5 H5 a2 o2:=by
   obtain⟨r,rfl,fr⟩:=y25.pre;exact B.mono r (y25.grow R2) r2
  cases bb with
  |false=>
   rw[gh Bool.false_ne_true]at hm2 ⊢;split at hm2
   .next g5=>exact⟨ρ5,ls3,hd4,a2,o2,x2.trans R2 y25,out5,hD5,R5,L4.ext R3 x5,r5,g5,hm2⟩
   .cases hm2
  |true=>
   rw[gb rfl]at hm2 ⊢;obtain⟨⟨z,hd6⟩,e6,hm2⟩:=gW hm2;dsimp only at hm2;split at hm2
   .next g6=>
    refine he ρ5 σ4 H5 hd4 ls3 a2 z hd6 Da o2 _ R5 (L4.ext R3 x5) out5 hD5 r5 e6 λρ6 H6 o6 x6 R6 hD6 r6=>?_;have out6:Da∉ρ6:=x6.outk hD5 out5;have c6:Chg H6 Da:=λu st z=>B.chg r5 (by rw[hD6]at z;cases z;exact st);have gr:Grow H6 (upd H6 Da o6):=Grow.refl.put c6;have R7:=R6.hputO (ho:=o6) out6 hD6 c6 (B.chg2 r5).1 (B.chg2 r5).2;have x12:=(x2.trans R2 y25).trans R5 x6;have ext7:Ext ρ1 H1 ρ6 (upd H6 Da o6):=⟨x12.pre,λb o q nb t=>by
     have:b≠Da:=AJ q hDa;rw[upd_ne this];exact x12.keep b o q nb t,λb ps q=>by
     have:b≠Da:=AJ q hDa;rw[upd_ne this];exact x12.tab b ps q⟩
    have L6:=(L4.ext R3 x5).ext R5 x6;exact⟨ρ6,ls3,hd6,z,o6,ext7,out6,AG,R7,⟨L6.len,λi d e=>let ⟨v,a,b⟩:=L6.ob i d e;⟨v,a,by simpa using b.mono gr []⟩⟩,by simpa using B.mono [] gr r6,g6,hm2⟩
   .cases hm2
 .have e:i=ds.length:=by omega
  subst e;rw[List.drop_length]at hm2;unfold mGo at hm2;cases hm2;exact .inl ⟨Y2 rfl,hQ ρ2 H2 Da o2 85 R2 nD oD2 hD2 r2⟩
noncomputable def fL(K:Frag):Acc K (List D) (.lst []) [] where
 rel:=λρ H a o=>∃xs,o=.lst xs/\RDs K ρ H a xs
 mono:=λr g ⟨xs,e,q⟩=>⟨xs,e,q.mono g r⟩
 chg:=λ⟨xs,e,q⟩ st=>by subst e;exact st
 chg2:=λ⟨xs,e,q⟩=>⟨λ_ z=>(by subst e;cases z),λ_ z=>(by subst e;cases z)⟩
 init:=λρ H=>⟨[],rfl,.nil⟩
noncomputable def Qb(m:ME):MM (List D):=λls hd a=>(m ls hd).bind λq=>if a.length<sizeLine then some (a++[q.1],q.2)else none
def Zb(he:RE K te m):RM1 (fL K) (Qc te) (Qb m):=by
 intro ρ σ H hd ls a a' hd' Da o Q hR hL out hD hrel hm hQ;obtain⟨⟨d1,h1⟩,e1,hm⟩:=gW hm;obtain⟨xs,rfl,r⟩:=hrel;dsimp only at hm;split at hm
 .next c=>
  cases hm;refine he ρ σ H hd ls _ d1 _ hR hL e1 λρ1 H1 v1 x1 R1 r1=>?_;have hD1:H1 Da=some (.lst xs):=x1.keep Da _ hD out nt;have r':=r.ext hR x1;exact⟨xs,hD1,by rw[r'.len];exact c,hQ ρ1 H1 _ x1 R1 hD1 ⟨_,rfl,r'.app (.cons r1 .nil)⟩⟩
 .cases hm
theorem NQ{n:MG}{c:MT}{m:ME}{g:Gd}{hd':Hd}:∀{ds:List D} {ls:Ls} {hd:Hd} {a rest:List D},a.length+83<=sizeLine->CC n c m g ds ls hd=some (rest,hd')->mGo n c (Qb m) g ds ls hd a=some (a++rest,hd')
 |[],ls,hd,a,rest,l,e=>by cases e;simp[mGo]
 |d::r,ls,hd,a,rest,l,e=>by
  rw[i7]at l;unfold CC at e;unfold mGo;obtain⟨ls1,e1,e⟩:=gW e;obtain⟨⟨b,h1⟩,e2,e⟩:=gW e;rw[e1,bind_some,e2,bind_some];cases b with
  |false=>
   simp only[Bool.false_eq_true,i5]at e ⊢;split at e
   .next q=>rw[gb q];exact NQ 66 e
   .cases e
  |true=>
   simp only[gz]at e ⊢;obtain⟨⟨z,h2⟩,e3,e⟩:=gW e;dsimp only at e;split at e
   .next q=>
    obtain⟨⟨zs,h3⟩,e4,e⟩:=gX e;cases e;simp only[Qb,e3,bind_some];rw[gb (show a.length<sizeLine by omega)];simp only[bind_some];rw[gb q,NQ 86 e4];simp
   .cases e
def Oc{k:Nat}{ix:77}{wi:TI}{g:TG}{tf:TT}{te:TE}{mi:MI}{n:MG}{c:MT}{m:ME}(hi:RIt K wi mi)(hg:RGt K g n)(hf:RT K tf c)(he:RE K te m):RN K (GJ k ix wi g tf te) (AW k ix mi n c m):=by
 intro ρ σ H hd ls Q out hd' hR hL hm hQ;obtain⟨⟨⟨ds,gd⟩,h1⟩,e1,hm⟩:=gW hm;dsimp only at hm;split at hm
 .next hlen=>
  have hlen:83<=sizeLine:=hlen;refine N9 hi hg hf (Zb he) ρ σ H hd ls Q out hd' hR hL (Option.bind_eq_some_iff.mpr ⟨_,e1,NQ (by simpa using hlen) hm⟩) λρ' H' Da o x R n1 n2 e r=>?_;obtain⟨xs,rfl,r⟩:=r;exact hQ ρ' H' Da xs x R n1 n2 e r
 .cases hm
end
mutual
noncomputable def clD(w:Nat):D->Bool
 |.im _=>true
 |.mu n=>decide (n<w)
 |.tm ds=>Aw w ds
 |.ro _=>true
 |.op _ _ ds=>Aw w ds
 |.fv _ ds=>Aw w ds
noncomputable def Aw(w:Nat):List D->Bool
 |[]=>true
 |d::ds=>clD w d&&Aw w ds
end
noncomputable def FJ(w:Nat):List (Key×D)->Bool
 |[]=>true
 |d::ds=>clD w d.2&&FJ w ds
noncomputable def clO(w:Nat):MO->Bool
 |.lst ds=>Aw w ds
 |.dic ds=>FJ w ds
section
variable{K:Frag}
@[simp] theorem fJ{w:Nat}(a b:List D):Aw w (a++b)=(Aw w a&&Aw w b):=by induction a<;>simp_all [Aw,Bool.and_assoc]
mutual
theorem RD.take(w:Nat):∀{d:D} {v:V},RD K ρ H d v->clD w d=true->RD K (ρ.take w) H d v
 |.im i,v,h,_=>by simp only[RD]at h ⊢;exact h
 |.mu n,v,h,c=>by
  simp only[RD]at h ⊢;obtain⟨a,e,q⟩:=h;exact⟨a,by rw[List.getElem?_take_of_lt (by simpa [clD]using c)];exact e,q⟩
 |.tm ds,v,h,c=>by
  simp only[RD]at h ⊢;obtain⟨a,xs,e,q,z⟩:=h;exact⟨a,xs,e,q,RDs.take' w z (by simpa [clD]using c)⟩
 |.ro ns,v,h,c=>by simp only[RD]at h ⊢;exact h
 |.op nm fs ds,v,h,c=>by
  simp only[RD]at h ⊢;obtain⟨a,xs,e,q,z⟩:=h;exact⟨a,xs,e,q,RDs.take' w z (by simpa [clD]using c)⟩
 |.fv k ds,v,h,c=>by
  simp only[RD]at h ⊢;obtain⟨a,xs,e,q,z⟩:=h;exact⟨a,xs,e,q,RDs.take' w z (by simpa [clD]using c)⟩
theorem RDs.take'(w:Nat):∀{d:List D} {v:List V},RDs K ρ H d v->Aw w d=true->RDs K (ρ.take w) H d v
 |[],v,h,_=>by simpa only[RDs]using h
 |d::ds,v,h,c=>by
  simp only[RDs]at h ⊢;obtain⟨x,r',e,q,z⟩:=h;have c:clD w d=true/\Aw w ds=true:=by simpa [Aw]using c
  exact⟨x,r',e,q.take w c.1,RDs.take' w z c.2⟩
end
theorem RKs.take(w:Nat):∀{d:List (Key×D)} {v:List (Key×V)},RKs K ρ H d v->FJ w d=true->RKs K (ρ.take w) H d v
 |[],v,h,_=>by simpa only[RKs]using h
 |d::ds,v,h,c=>by
  simp only[RKs]at h ⊢;obtain⟨x,r',e,q1,q,z⟩:=h;have c:clD w d.2=true/\FJ w ds=true:=by simpa [FJ]using c
  exact⟨x,r',e,q1,q.take w c.1,RKs.take w z c.2⟩
theorem RC.take(w:Nat)(h:RC K ρ H o ho)(c:clO w o=true):RC K (ρ.take w) H o ho:=by
 cases o with
 |lst ds=>obtain⟨xs,e,q⟩:=h;exact⟨xs,e,q.take' w c⟩
 |dic ds=>obtain⟨xs,e,q⟩:=h;exact⟨xs,e,q.take w c⟩
theorem RH.take(h:RH K ρ H hd)(w:Nat)(c:(hd.take w).all (clO w)=true):RH K (ρ.take w) H (hd.take w):=by
 refine⟨by simp[h.len],h.nd.sublist (List.take_sublist _ _),h.tabs,λn o a e1 e2=>?_⟩;have co:=all_eq_true.mp c o (i6 e1);have hn:n<w:=by
  have:=(75 e1).1;simp at this;omega
 rw[List.getElem?_take_of_lt hn]at e1 e2;obtain⟨ho,q1,q2⟩:=h.ob n o a e1 e2;exact⟨ho,q1,q2.take w co⟩
def RH.back(R1:RH K ρ1 H1 h1){w:Nat}(hw:w<=h1.length)(c1:(h1.take w).all (clO w)=true)(x:Ext (ρ1.take w) H1 ρ' H')(R':RH K ρ' H' h2)(c:(h2.take w).all (clO w)=true):
 RH K ρ1 H' (h2.take w++h1.drop w)/\Ext ρ1 H1 ρ1 H'/\ρ'.take w=ρ1.take w:=by
 obtain⟨r,rfl,fr⟩:=x.pre;have lw:(ρ1.take w).length=w:=by rw[iH,R1.len];omega
 have l2:w<=h2.length:=by rw[<- R'.len];simp[lw]
 have tk:(ρ1.take w++r).take w=ρ1.take w:=by rw[List.take_append_of_le_length 66,List.take_take];simp
 refine⟨⟨?_,R1.nd,R'.tabs,λn o a e1 e2=>?_⟩,⟨⟨[],by simp,by simp⟩,λb o q nb t=>x.keep b o q (λm=>nb (List.mem_of_mem_take m)) t,x.tab⟩,tk⟩
 .rw[i9,iH,length_drop,R1.len];omega
 .by_cases hn:n<w
  .rw[List.getElem?_append_left (by rw[iH];omega),List.getElem?_take_of_lt hn]at e1;have e3:(ρ1.take w++r)[n]?=some a:=by
    rw[List.getElem?_append_left 66,List.getElem?_take_of_lt hn];exact e2
   obtain⟨ho,q1,q2⟩:=R'.ob n o a e1 e3;have co:=all_eq_true.mp c o (by
    have:(h2.take w)[n]?=some o:=by rw[List.getElem?_take_of_lt hn];exact e1
    exact i6 this)
   have q3:=q2.take w co;rw[tk]at q3;have q4:=q3.mono (Grow.refl (H:=H')) (ρ1.drop w);rw[List.take_append_drop]at q4;exact⟨ho,q1,q4⟩
  .rw[List.getElem?_append_right (by rw[iH];omega),iH,List.getElem?_drop]at e1;have e1:h1[n]?=some o:=by
    have:w+(n-min w h2.length)=n:=by omega
    rw[this]at e1;exact e1
   obtain⟨ho,q1,q2⟩:=R1.ob n o a e1 e2;have out:a∉ρ1.take w:=λm=>by
    obtain⟨k,hk⟩:=mem_iff_getElem?.mp m;have kw:k<w:=by
     have:=(75 hk).1;rw[lw]at this;exact this
    rw[List.getElem?_take_of_lt kw]at hk;have:=(List.getElem?_inj (75 e2).1 R1.nd).mp (e2.trans hk.symm);omega
   have gr:=x.grow (R1.take w c1);exact⟨ho,x.keep a ho q1 out (λps z=>by rcases R1.mut (i6 e2)with⟨y,w⟩|⟨y,w⟩<;>(rw[q1,z]at w;cases w)),by simpa using q2.mono gr []⟩
noncomputable def spF(K:Frag)(k:Nat)(F:List D->Hd->Option (D×Hd)):Sp:=λvs H Q _=>116=k/\∃(ρ:108) (hd:Hd) (ds:List D) (d:D) (hd':Hd),RH K ρ H hd/\RDs K ρ H ds vs/\F ds hd=some (d,hd')/\
 ∀ρ' H' v,Ext ρ H ρ' H'->RH K ρ' H' hd'->RD K ρ' H' d v->Q v H'
noncomputable def mkF(k n:Nat)(m:MS):List D->Hd->Option (D×Hd):=λds hd=>if 83=k then(match m (ds.map some++List.replicate (n-k) none) hd with
 |some (.rt d,hd')=>some (d,hd')
 |some (.nx _,hd')=>some (.im .non,hd')
 | _=>none)else none
def NA{N:List Str}:∀{ds:List D} {vs:List V},RDs K ρ H ds vs->RL K ρ H (ds.map some++List.replicate (N.length-83) none) (start N vs):=by
 intro ds vs r;have hl:=r.len;refine⟨by simp[start,hl],λi d e=>?_⟩;unfold start;by_cases hi:i<83
 .rw[List.getElem?_append_left (by simpa using hi),List.getElem?_map]at e;have e':ds[i]?=some d:=by
   cases q:ds[i]? with
   |none=>rw[q]at e;cases e
   |some z=>rw[q]at e;simpa using e
  obtain⟨x,x1,x2⟩:=r.get e';exact⟨x,by rw[List.getElem?_append_left (by rw[gZ,hl];exact hi),List.getElem?_map,x1];rfl,x2⟩
 .rw[List.getElem?_append_right (by simpa using not_lt.mp hi),List.getElem?_replicate]at e;split at e<;>cases e
def OW{k:Nat}{N:List Str}(h:RS K t m)(s:spF K k (mkF k N.length m) vs H Q E):t { nx:=λ_ H'=>Q .non H',rt:=Q } (start N vs) H:=by
 obtain⟨hk,ρ,hd,ds,d,hd',hR,hr,hF,hQ⟩:=s;unfold mkF at hF;split at hF
 .next hl=>
  subst hl;split at hF
  .next q=>
   cases hF;exact h ρ _ H hd _ _ _ _ hR (NA hr) q λρ' H' x R v r=>hQ ρ' H' v x R r
  .next q=>
   cases hF;exact h ρ _ H hd _ _ _ _ hR (NA hr) q λρ' H' x R σ L=>hQ ρ' H' .non x R (by simp[RD,RI])
  .cases hF
 .cases hF
noncomputable def Bp(F:List D->Hd->Option (D×Hd))(ma:MA):ME:=λls hd=>(ma ls hd).bind λp=>F p.1 p.2
def UT{k:Nat}{F:List D->Hd->Option (D×Hd)}(h:RA K t m)(hk:∀ds hd z,F ds hd=some z->83=k):RE K (Dg (spF K k F) [] E0 t) (Bp F m):=by
 and_intros;obtain⟨⟨d1,h1⟩,e1,hm⟩:=gW hm;refine h ρ σ H hd ls _ d1 h1 hR hL e1 λρ1 H1 v1 x1 R1 r1=>?_;rw[ic];exact⟨by rw[r1.len];exact hk _ _ _ hm,ρ1,h1,d1,d,hd',R1,r1,hm,λρ' H' w x2 R2 r2=>hQ ρ' H' w 85 R2 r2⟩
def Op{k n:Nat}:∀ds hd z,mkF k n m ds hd=some z->83=k:=λds hd z h=>by
 unfold mkF at h;split at h
 .next e=>exact e
 .cases h
def fin(w:Nat)(d:D)(h2 rest:Hd):Option (D×Hd):=if(h2.take w).all (clO w)=true then(match d with
 | .mu k=>if k<w then some (.mu k,h2.take w++rest)else(match h2[k]? with
  |some (.lst ds)=>if Aw w ds=true then some (.mu (w+rest.length),h2.take w++rest++[.lst ds])else none
  | _=>none)
 | d=>if clD w d=true then some (d,h2.take w++rest)else none)else none
noncomputable def AD(w:Nat)(F:List D->Hd->Option (D×Hd))(ma:MA):ME:=λls hd=>(ma ls hd).bind λp=>
 if w<=p.2.length/\Aw w p.1=true/\(p.2.take w).all (clO w)=true then(F p.1 (p.2.take w)).bind λr=>fin w r.1 r.2 (p.2.drop w)else none
def UP{w k:Nat}{F:List D->Hd->Option (D×Hd)}(h:RA K t m)(hk:∀ds hd z,F ds hd=some z->83=k):RE K (Dg (spF K k F) [] E0 t) (AD w F m):=by
 and_intros;obtain⟨⟨d1,h1⟩,e1,hm⟩:=gW hm;dsimp only at hm;split at hm
 .next c=>
  obtain⟨c0,c1,c2⟩:=c;obtain⟨⟨d2,h2⟩,e2,hm⟩:=gW hm;refine h ρ σ H hd ls _ d1 h1 hR hL e1 λρ1 H1 v1 x1 R1 r1=>?_;rw[ic];refine⟨by rw[r1.len];exact hk _ _ _ e2,ρ1.take w,h1.take w,d1,d2,h2,R1.take w c2,r1.take' w c1,e2,λρ' H' v x2 R2 r2=>?_⟩;unfold fin at hm;dsimp only at hm;split at hm
  .next c3=>
   obtain⟨R3,x3,tk⟩:=R1.back c0 c2 x2 R2 c3;have up:∀{d:D} {v:V},RD K ρ' H' d v->clD w d=true->RD K ρ1 H' d v:=λr c=>by
    have q:=r.take w c;rw[tk]at q;have q:=q.mono (Grow.refl (H:=H')) (ρ1.drop w);rw[List.take_append_drop]at q;exact q
   have ups:∀{d:List D} {v:List V},RDs K ρ' H' d v->Aw w d=true->RDs K ρ1 H' d v:=λr c=>by
    have q:=r.take' w c;rw[tk]at q;have q:=q.mono (Grow.refl (H:=H')) (ρ1.drop w);rw[List.take_append_drop]at q;exact q
   split at hm
   .next k'=>
    split at hm
    .next hk'=>
     cases hm;exact hQ ρ1 H' v (x1.trans R1 x3) R3 (up r2 (by simpa [clD]using hk'))
    .next hk'=>
     split at hm
     .next ds q=>
      split at hm
      .next c4=>
       cases hm;simp only[RD]at r2;obtain⟨a,ea,rfl⟩:=r2;obtain⟨xs,l1,l2⟩:=R2.lst ea q;have len3:=R3.len;have out:a∉ρ1:=λm=>by
        -- a is one of those made behind the first w
        obtain⟨r,er,fr⟩:=x2.pre;have lw:(ρ1.take w).length=w:=by rw[iH,R1.len];omega
        have ma:a∈r:=by
         rw[er,List.getElem?_append_right (by rw[lw];omega)]at ea;exact i6 ea
        exact R1.out (fr a ma) m
       have na:H1 a=none:=by
        obtain⟨r,er,fr⟩:=x2.pre;have lw:(ρ1.take w).length=w:=by rw[iH,R1.len];omega
        have ma:a∈r:=by
         rw[er,List.getElem?_append_right (by rw[lw];omega)]at ea;exact i6 ea
        exact fr a ma
       refine hQ (ρ1++[a]) H' _ (x1.trans R1 (x3.name na)) (R3.name out l1 (ups l2 c4)) ?_;simp only[RD];refine⟨a,?_,rfl⟩;have:w+(List.drop w h1).length=ρ1.length:=by rw[length_drop,R1.len];omega
       rw[this];simp
      .cases hm
     .cases hm
   .next d' nd=>
    split at hm
    .next c4=>cases hm;exact hQ ρ1 H' v (x1.trans R1 x3) R3 (up r2 c4)
    .cases hm
  .cases hm
 .cases hm
noncomputable def B9(c:MT)(b:MS):Nat->Ls->Hd->Option (Fl×Hd)
 |0,_,_=>none
 | k+1,ls,hd=>(c ls hd).bind λp=>if p.1=true then(b ls p.2).bind λq=>(match q.1 with
  |.nx ls2=>B9 c b k ls2 q.2
  |.ct ls2=>B9 c b k ls2 q.2
  |.bk ls2=>some (.nx ls2,q.2)
  | .rt d=>some (.rt d,q.2))else some (.nx ls,p.2)
open Classical in
noncomputable def Cs(c:MT)(b:MS):MS:=λls hd=>if h:∃r k,B9 c b k ls hd=some r then some h.choose else none
theorem EA:∀{k j:Nat} {ls:Ls} {hd:Hd} {r:Fl×Hd},B9 c b k ls hd=some r->k<=j->B9 c b j ls hd=some r
 |0,_,_,_,_,h,_=>by cases h
 |k+1,0,_,_,_,_,hj=>by omega
 |k+1,j+1,ls,hd,r,h,hj=>by
  unfold B9 at h ⊢;obtain⟨p,e1,h⟩:=gW h;rw[e1];show(if p.1=true then _ else _)=_;split at h
  .next c=>
   rw[gb c];obtain⟨q,e2,h⟩:=gW h;rw[e2];obtain⟨f,hd2⟩:=q;cases f with
   |nx ls2=>exact EA h 66
   |ct ls2=>exact EA h 66
   |bk ls2=>exact h
   |rt d=>exact h
  .next c=>rw[gh c];exact h
def LU{k:Nat}(h:B9 c b k ls hd=some r):Cs c b ls hd=some r:=by
 unfold Cs;have ex:∃r k,B9 c b k ls hd=some r:=⟨r,k,h⟩
 rw[dif_pos ex];obtain⟨j,e⟩:=ex.choose_spec;have e1:=EA e (Nat.le_max_left j k);have e2:=EA h (Nat.le_max_right j k);rw[e1]at e2;exact e2
def UD(hc:RT K tc c)(hb:RS K tb b):RS K (Mf tc tb) (Cs c b):=by
 intro ρ σ H hd ls E f hd' hR hL hm hQ;obtain⟨k,hk⟩:∃k,B9 c b k ls hd=some (f,hd'):=by
  unfold Cs at hm;split at hm
  .next ex=>
   obtain⟨j,e⟩:=ex.choose_spec;exact⟨j,by rw[e];exact hm⟩
  .cases hm
 refine⟨λm σ2 H2=>∃ρ2 ls2 hd2,Ext ρ H ρ2 H2/\RH K ρ2 H2 hd2/\RL K ρ2 H2 ls2 σ2/\B9 c b m ls2 hd2=some (f,hd'),⟨k,ρ,ls,hd,.refl,hR,hL,hk⟩,?_⟩;rintro m σ2 H2 ⟨ρ2,ls2,hd2,x2,R2,L2',hm2⟩;cases m with
 |zero=>cases hm2
 |succ m=>
  unfold B9 at hm2;obtain⟨⟨bb,hd3⟩,e1,hm2⟩:=gW hm2;refine hc ρ2 σ2 H2 hd2 ls2 _ bb hd3 R2 L2' e1 λρ3 H3 x3 R3=>?_;cases bb with
  |false=>
   rw[gh Bool.false_ne_true]at hm2 ⊢;cases hm2;exact hQ ρ3 H3 (x2.trans R2 x3) R3 σ2 (L2'.ext R2 x3)
  |true=>
   rw[gb rfl]at hm2 ⊢;obtain⟨⟨fl,hd4⟩,e2,hm2⟩:=gW hm2;refine⟨λσ' H'=>∃ρ2 ls2 hd2,Ext ρ H ρ2 H'/\RH K ρ2 H' hd2/\RL K ρ2 H' ls2 σ'/\B9 c b m ls2 hd2=some (f,hd'),λσ' H' z=>⟨m,Nat.lt_succ_self m,z⟩,?_⟩;refine hb ρ3 σ2 H3 hd3 ls2 _ fl hd4 R3 (L2'.ext R2 x3) e2 λρ5 H5 x5 R5=>?_;have x15:=(x2.trans R2 x3).trans R3 x5;cases fl with
   |nx ls5=>intro σ5 L5;exact⟨ρ5,ls5,hd4,x15,R5,L5,hm2⟩
   |ct ls5=>intro σ5 L5;exact⟨ρ5,ls5,hd4,x15,R5,L5,hm2⟩
   |bk ls5=>intro σ5 L5;cases hm2;exact hQ ρ5 H5 x15 R5 σ5 L5
   |rt d5=>intro v5 r5;cases hm2;exact hQ ρ5 H5 x15 R5 v5 r5
noncomputable def BQ(kvs:List (Key×D))(k:Key):Option D:=(kvs.find? λkv=>decide (kv.1=k)).map (·.2)
noncomputable def DS(kvs:List (Key×D))(k:Key)(v:D):List (Key×D):=
 if(kvs.any λkv=>decide (kv.1=k))=true then kvs.map (λkv=>if kv.1=k then(kv.1,v)else kv)else kvs++[(k,v)]
theorem RKs.val:∀{kvs:List (Key×D)} {xs:List (Key×V)} {k:Key} {d:D},RKs K ρ H kvs xs->BQ kvs k=some d->∃v,E2 xs k=some v/\RD K ρ H d v
 |[],xs,k,d,h,e=>by simp[BQ]at e
 |p::kvs,xs,k,d,h,e=>by
  simp only[RKs]at h;obtain⟨x,r,rfl,e1,r1,r2⟩:=h;by_cases hk:p.1=k
  .rw[Ey (e1.trans hk)];simp[BQ,iF,hk]at e;subst e;exact⟨_,rfl,r1⟩
  .rw[Ez (by rw[e1];exact hk)];simp only[BQ,iF,hk,ji]at e;exact RKs.val r2 e
theorem RKs.valN:∀{kvs:List (Key×D)} {xs:List (Key×V)} {k:Key},RKs K ρ H kvs xs->(E2 xs k).isSome=(BQ kvs k).isSome
 |[],xs,k,h=>by simp only[RKs]at h;subst h;rfl
 |p::kvs,xs,k,h=>by
  simp only[RKs]at h;obtain⟨x,r,rfl,e1,r1,r2⟩:=h;by_cases hk:p.1=k
  .rw[Ey (e1.trans hk)];simp[BQ,iF,hk]
  .rw[Ez (by rw[e1];exact hk)];simp only[BQ,iF,hk,ji];exact RKs.valN r2
theorem RKs.any:∀{kvs:List (Key×D)} {xs:List (Key×V)} {k:Key},RKs K ρ H kvs xs->(xs.any λkv=>decide (kv.1=k))=(kvs.any λkv=>decide (kv.1=k))
 |[],xs,k,h=>by simp only[RKs]at h;subst h;rfl
 |p::kvs,xs,k,h=>by
  simp only[RKs]at h;obtain⟨x,r,rfl,e1,r1,r2⟩:=h;simp only[iO,e1,RKs.any r2]
theorem RKs.upd:∀{kvs:List (Key×D)} {xs:List (Key×V)} {k:Key} {d:D} {v:V},RKs K ρ H kvs xs->RD K ρ H d v->RKs K ρ H (kvs.map (λkv=>if kv.1=k then(kv.1,d)else kv)) (xs.map (λkv=>if kv.1=k then(kv.1,v)else kv))
 |[],xs,k,d,v,h,_=>by simp only[RKs]at h;subst h;simp[RKs]
 |p::kvs,xs,k,d,v,h,q=>by
  simp only[RKs]at h;obtain⟨x,r,rfl,e1,r1,r2⟩:=h;simp only[gv,RKs];refine⟨_,_,rfl,?_,?_,RKs.upd r2 q⟩
  .rw[e1];split<;>simp[e1]
  .rw[e1];split
   .exact q
   .exact r1
theorem RKs.app:∀{kvs ks:List (Key×D)} {xs ys:List (Key×V)},RKs K ρ H kvs xs->RKs K ρ H ks ys->RKs K ρ H (kvs++ks) (xs++ys)
 |[],ks,xs,ys,h,t=>by simp only[RKs]at h;subst h;simpa using t
 |d::ds,ks,xs,ys,h,t=>by
  simp only[RKs]at h;obtain⟨x,r,rfl,e,z,q⟩:=h;simp only[iI,RKs];exact⟨_,_,rfl,e,z,q.app t⟩
def RKs.put(h:RKs K ρ H kvs xs)(q:RD K ρ H d v):RKs K ρ H (DS kvs k d) (Cp xs k v):=by
 unfold DS Cp;rw[h.any];split
 .exact h.upd q
 .exact h.app (by simp only[RKs];exact⟨_,_,rfl,rfl,q,rfl⟩)
noncomputable def Cu:D->Option Key
 |.im (.int i)=>some (.inl i)
 |.im (.str x)=>some (.inr x)
 |_=>none
def G6(h:RD K ρ H d v)(e:Cu d=some k):v=kV k:=by
 cases d with
 |im i=>
  cases i with
  |int i=>simp only[Cu,Option.some.injEq]at e;subst e;simp only[RD,RI]at h;exact h
  |str i=>simp only[Cu,Option.some.injEq]at e;subst e;simp only[RD,RI]at h;exact h
  |_=>simp[Cu]at e
 |_=>simp[Cu]at e
noncomputable def CD(hd:Hd):D->Option (List (Key×D))
 |.mu n=>match hd[n]? with
  |some (.dic kvs)=>some kvs
  |_=>none
 |_=>none
theorem RD.dic(hR:RH K ρ H hd)(h:RD K ρ H d v)(e:CD hd d=some kvs):∃n a xs,d=.mu n/\v=.ref a/\ρ[n]?=some a/\H a=some (.dK xs)/\RKs K ρ H kvs xs:=by
 cases d with
 |mu n=>
  simp only[CD]at e;simp only[RD]at h;obtain⟨a,hn,rfl⟩:=h;split at e
  .next q=>
   cases e;obtain⟨xs,e1,e2⟩:=hR.dic hn q;exact⟨n,a,xs,rfl,rfl,hn,e1,e2⟩
  .cases e
 |_=>simp[CD]at e
noncomputable def CL:D->D->Hd->Option (D×Hd):=λd e hd=>(CD hd d).bind λkvs=>(Cu e).bind λk=>(BQ kvs k).map (·,hd)
def XT(hd:RE K td md)(hy:RE K ty my):RE K (Pf td ty) (mOp CL md my):=by
 intro ρ σ H hd0 ls Q d hd' hR hL hm hQ;obtain⟨⟨d1,h1⟩,e1,hm⟩:=gW hm;obtain⟨⟨d2,h2⟩,e2,hm⟩:=gW hm;obtain⟨kvs,e3,hm⟩:=gW hm;obtain⟨k,e4,hm⟩:=gW hm;obtain⟨w,e5,e6⟩:=gX hm;cases e6;refine hd ρ σ H hd0 ls _ d1 h1 hR hL e1 λρ1 H1 v1 x1 R1 r1=>?_;refine hy ρ1 σ H1 h1 ls _ d2 _ R1 (hL.ext hR x1) e2 λρ2 H2 v2 x2 R2 r2=>?_;obtain⟨n,a,xs,rfl,rfl,hn,l1,l2⟩:=RD.dic R2 (r1.ext R1 x2) e3;have:=G6 r2 e4;subst this;obtain⟨v,v1,v2⟩:=l2.val e5;exact⟨a,v,rfl,v1 ▸ DGet.k l1,hQ ρ2 H2 v 85 R2 v2⟩
noncomputable def Cw(neg:Bool):D->D->Hd->Option (D×Hd):=λe d hd=>(CD hd d).bind λkvs=>(Cu e).map λk=>(.im (.bl (if neg then !(BQ kvs k).isSome else(BQ kvs k).isSome)),hd)
def Zu(hd:RE K td md)(hy:RE K ty my):RE K (U1 ty td) (mOp (Cw false) my md):=by
 intro ρ σ H hd0 ls Q d hd' hR hL hm hQ;obtain⟨⟨d1,h1⟩,e1,hm⟩:=gW hm;obtain⟨⟨d2,h2⟩,e2,hm⟩:=gW hm;obtain⟨kvs,e3,hm⟩:=gW hm;obtain⟨k,e4,e6⟩:=gX hm;cases e6;refine hy ρ σ H hd0 ls _ d1 h1 hR hL e1 λρ1 H1 v1 x1 R1 r1=>?_;refine hd ρ1 σ H1 h1 ls _ d2 _ R1 (hL.ext hR x1) e2 λρ2 H2 v2 x2 R2 r2=>?_;obtain⟨n,a,xs,rfl,rfl,hn,l1,l2⟩:=RD.dic R2 r2 e3;have:=G6 r1 e4;subst this;refine⟨a,_,rfl,DGet.k l1,?_⟩;rw[l2.valN];exact hQ ρ2 H2 _ 85 R2 (by simp[RD,RI])
def XR(hd:RE K td md)(hy:RE K ty my):RE K (KW ty td) (mOp (Cw true) my md):=by
 intro ρ σ H hd0 ls Q d hd' hR hL hm hQ;obtain⟨⟨d1,h1⟩,e1,hm⟩:=gW hm;obtain⟨⟨d2,h2⟩,e2,hm⟩:=gW hm;obtain⟨kvs,e3,hm⟩:=gW hm;obtain⟨k,e4,e6⟩:=gX hm;cases e6;refine hy ρ σ H hd0 ls _ d1 h1 hR hL e1 λρ1 H1 v1 x1 R1 r1=>?_;refine hd ρ1 σ H1 h1 ls _ d2 _ R1 (hL.ext hR x1) e2 λρ2 H2 v2 x2 R2 r2=>?_;obtain⟨n,a,xs,rfl,rfl,hn,l1,l2⟩:=RD.dic R2 r2 e3;have:=G6 r1 e4;subst this;refine⟨a,_,rfl,DGet.k l1,?_⟩;rw[l2.valN];exact hQ ρ2 H2 _ 85 R2 (by simp[RD,RI])
open Classical in
noncomputable def Ej(md my mv:ME):MS:=λls hd=>(mv ls hd).bind λp=>(md ls p.2).bind λq=>(my ls q.2).bind λr=>(Cu r.1).bind λk=>match q.1 with
 |.mu n=>match r.2[n]? with
  |some (.dic kvs)=>if Dq kvs.length then some (.nx ls,r.2.set n (.dic (DS kvs k p.1)))else none
  |_=>none
 |_=>none
def X8(hd:RE K td md)(hy:RE K ty my)(hv:RE K tv mv):RS K (Pt td ty tv) (Ej md my mv):=by
 intro ρ σ H hd0 ls E f hd' hR hL hm hQ;obtain⟨⟨d1,h1⟩,e1,hm⟩:=gW hm;obtain⟨⟨d2,h2⟩,e2,hm⟩:=gW hm;obtain⟨⟨d3,h3⟩,e3,hm⟩:=gW hm;obtain⟨k,e4,hm⟩:=gW hm;dsimp only at hm;split at hm
 .split at hm
  .next q=>
   split at hm
   .next c=>
    cases hm;refine hv ρ σ H hd0 ls _ d1 h1 hR hL e1 λρ1 H1 v1 x1 R1 r1=>?_;refine hd ρ1 σ H1 h1 ls _ _ h2 R1 (hL.ext hR x1) e2 λρ2 H2 v2 x2 R2 r2=>?_;refine hy ρ2 σ H2 h2 ls _ d3 _ R2 (hL.ext hR 85) e3 λρ3 H3 v3 x3 R3 r3=>?_;have r2:=r2.ext R2 x3;simp only[RD]at r2;obtain⟨a,hn,rfl⟩:=r2;obtain⟨xs,l1,l2⟩:=R3.dic hn q;have:=G6 r3 e4;subst this;obtain⟨R4,x4⟩:=R3.put hn (o:=.dic (DS _ k d1)) (ho:=.dK (Cp xs k v1)) ⟨_,rfl,l2.put ((r1.ext R1 x2).ext R2 x3)⟩;have x13:=(85).trans R2 x3;exact⟨a,_,rfl,DPut.k l1 (by rw[l2.len];exact c),hQ ρ3 _ (x13.trans R3 x4) R4 σ ((hL.ext hR x13).ext R3 x4)⟩
   .cases hm
  .cases hm
 .cases hm
def RH.nameD(hR:RH K ρ H hd)(out:a∉ρ)(e:H a=some o)(hs:¬ Stb o)(r:RKs K ρ H kvs xs)(h1:∀ps,o≠.tbl ps:=by intro _ z;cases z)(h2:∀φ,o≠.ext φ:=by intro _ z;cases z):RH K (ρ++[a]) (upd H a (.dK xs)) (hd++[.dic kvs]):=by
 have gr:Grow H (upd H a (.dK xs)):=Grow.refl.put λu st z=>hs (by rw[e]at z;cases z;exact st);refine⟨by simp[hR.len],?_,hR.tabs.upd (λps z=>h1 ps (104 (e.symm.trans z))) (λps z=>h2 ps (104 (e.symm.trans z))),λn o' b e1 e2=>?_⟩
 .rw[nodup_append];refine⟨hR.nd,by simp,λx hx y hy z=>?_⟩;simp at hy;subst hy;subst z;exact out hx
 .by_cases hn:n<ρ.length
  .rw[List.getElem?_append_left hn]at e2;rw[List.getElem?_append_left (by rw[<- hR.len];exact hn)]at e1;obtain⟨ho',q1,q2⟩:=hR.ob n o' b e1 e2;have:b≠a:=λz=>out (by rw[<- z];exact i6 e2);exact⟨ho',by rw[upd_ne this];exact q1,q2.mono gr [a]⟩
  .have hn':n=ρ.length:=by
    have:=(75 e2).1;simp at this;omega
   subst hn';simp at e2;rw[hR.len]at e1;simp at e1;subst e1;subst e2;exact⟨_,AG,⟨xs,rfl,r.mono gr [_]⟩⟩
noncomputable def C8(mo mi mv:ME):MS:=λls hd=>(mv ls hd).bind λp=>(mo ls p.2).bind λq=>(mi ls q.2).bind λr=>match q.1,r.1 with
 |.mu n,.im (.int i)=>match r.2[n]? with
  |some (.lst ds)=>(ixN 83 i).map λj=>(.nx ls,r.2.set n (.lst (ds.set j p.1)))
  |_=>none
 |_,_=>none
def X5(ho:RE K to mo)(hi:RE K ti mi)(hv:RE K tv mv):RS K (F0 tv (VY to ti Jm)) (C8 mo mi mv):=by
 intro ρ σ H hd0 ls E f hd' hR hL hm hQ;obtain⟨⟨d1,h1⟩,e1,hm⟩:=gW hm;obtain⟨⟨d2,h2⟩,e2,hm⟩:=gW hm;obtain⟨⟨d3,h3⟩,e3,hm⟩:=gW hm;dsimp only at hm;split at hm
 .split at hm
  .next q=>
   obtain⟨j,e4,e5⟩:=gX hm;cases e5;refine hv ρ σ H hd0 ls _ d1 h1 hR hL e1 λρ1 H1 v1 x1 R1 r1=>?_;refine ho ρ1 σ H1 h1 ls _ _ h2 R1 (hL.ext hR x1) e2 λρ2 H2 v2 x2 R2 r2=>?_;refine hi ρ2 σ H2 h2 ls _ _ _ R2 (hL.ext hR 85) e3 λρ3 H3 v3 x3 R3 r3=>?_;have r2:=r2.ext R2 x3;simp only[RD]at r2;obtain⟨a,hn,rfl⟩:=r2;simp only[RD,RI]at r3;subst r3;obtain⟨xs,l1,l2⟩:=R3.lst hn q;obtain⟨R4,x4⟩:=R3.put hn (o:=.lst _) (ho:=.lst (xs.set j v1)) ⟨_,rfl,l2.set j ((r1.ext R1 x2).ext R2 x3)⟩;have x13:=(85).trans R2 x3;exact⟨a,xs,_,j,rfl,rfl,l1,by rw[l2.len];exact e4,hQ ρ3 _ (x13.trans R3 x4) R4 σ ((hL.ext hR x13).ext R3 x4)⟩
  .cases hm
 .cases hm
end
end L2
namespace L2
open PySem PySem.Spec PyProof.Rows
structure QG(K:Frag)(X:Cx)(e:Expr)(t:TG)(m:MG):Prop where
 p:PG X e t
 r:RGt K t m
structure QGs(K:Frag)(X:Cx)(e:List Expr)(t:TGs)(m:MGs):Prop where
 p:PGs X e t
 r:O9 K t m
structure QI(K:Frag)(X:Cx)(tg e:Expr)(t:TI)(m:MI):Prop where
 p:PI X tg e t
 r:RIt K t m
structure QF(K:Frag)(X:Cx)(e:List Expr)(t:TT)(m:MT):Prop where
 p:PF X e t
 r:RT K t m
structure QO(K:Frag)(X:Cx)(e:Option Expr)(t:TO)(m:MO1):Prop where
 p:PO X e t
 r:RO1 K t m
def Qv(a b:List D):Prop:=a≠[]/\Bh (a.length+b.length)
open Classical in
noncomputable def Gb:D->D->Hd->Option (D×Hd):=λd e hd=>(AX d).bind λa=>(AX e).bind λb=>if Qv a b then some (Au (a++b),hd)else none
def XX{K:Frag}:RB K (Q8 K) Gb:=by
 intro ρ H hd d e v u Q z hd' hR h1 h2 hf hQ;unfold Gb at hf;obtain⟨a,e1,hf⟩:=gW hf;obtain⟨b,e2,hf⟩:=gW hf;split at hf
 .next c=>
  cases hf;obtain⟨p,xs,rfl,q1,r1⟩:=h1.tup e1;obtain⟨p2,ys,rfl,q2,r2⟩:=h2.tup e2;have l1:=r1.len;have l2:=r2.len;refine⟨p,p2,xs,ys,rfl,rfl,q1,q2,λz=>c.1 (by rw[z]at l1;simpa using l1.symm),by rw[l1,l2];exact c.2,λz=>?_,λ_ p3 hp=>?_⟩
  .have:b=[]:=by rw[z]at l2;simpa using l2.symm
   subst this;exact hQ ρ H _ .refl hR (by rw[ic];exact Co q1 r1)
  .obtain⟨R2,x2⟩:=hR.hid (ho:=.tup (xs++ys)) hp;exact hQ ρ _ _ x2 R2 (Co (SqT.of AG) ((r1.app r2).ext hR x2))
 .cases hf
noncomputable abbrev Ag:=IH Kv Gb
noncomputable def FY(neg:Bool)(m:ME):ME:=λls hd=>(m ls hd).bind λp=>some (.im (.bl (match p.1 with
 |.im .non=>!neg
 | _=>neg)),p.2)
def f6{K:Frag}(h:RD K ρ H d v):decide (v=.non)=(match d with|.im .non=>true|_=>false):=by
 cases d with
 |im i=>
  cases i with
  |non=>simp only[RD,RI]at h;subst h;rfl
  |tup is=>simp only[RD,RI]at h;obtain⟨a,xs,rfl,_⟩:=h;rfl
  |_=>simp only[RD,RI]at h;subst h;rfl
 |mu n=>simp only[RD]at h;obtain⟨a,_,rfl⟩:=h;rfl
 |tm ds=>simp only[RD]at h;obtain⟨a,xs,rfl,_⟩:=h;rfl
 |ro ns=>simp only[RD]at h;obtain⟨a,rfl,_⟩:=h;rfl
 |op nm fs ds=>simp only[RD]at h;obtain⟨a,xs,rfl,_⟩:=h;rfl
 |fv k ds=>simp only[RD]at h;obtain⟨a,xs,rfl,_⟩:=h;rfl
def Zr{K:Frag}(h:RE K t m):RE K (Tx t) (FY false m):=by
 and_intros;obtain⟨⟨d1,h1⟩,e1,hm⟩:=gW hm;cases hm;refine h ρ σ H hd ls _ d1 _ hR hL e1 λρ1 H1 v x1 R1 r1=>?_;rw[f6 r1];refine hQ ρ1 H1 _ x1 R1 ?_;simp only[RD,RI];cases d1 with
 |im i=>cases i<;>rfl
 |_=>rfl
noncomputable def C6(m:ME):ME:=λls hd=>(m ls hd).bind λp=>match p.1 with
 |.im (.int i)=>some (.im (.int (-i)),p.2)
 |_=>none
def Zn{K:Frag}(h:RE K t m):RE K (tUn (rU λi=>.int (-i)) t) (C6 m):=by
 and_intros;obtain⟨⟨d1,h1⟩,e1,hm⟩:=gW hm;dsimp only at hm;split at hm
 .cases hm;exact h ρ σ H hd ls _ _ _ hR hL e1 λρ1 H1 v x1 R1 r1=>⟨_,by simpa only[RD,RI]using r1,hQ ρ1 H1 _ x1 R1 (by simp[RD,RI])⟩
 .cases hm
noncomputable def BS:MT:=λ_ hd=>some (true,hd)
def ZO{K:Frag}:RT K To BS:=by
 and_intros;cases hm;exact hQ ρ H .refl hR
section
variable(K:Frag){X:Cx}{tc:TE}{mc:ME}
def qv(i:Nat){pos:Pos}(hN:X.N[i]?=some x:=by rfl)(hv:Vis X.env.scope x:=by first|exact Or.inl rfl|exact Or.inr (Or.inl rfl)|exact Or.inr (Or.inr rfl))(hd:(x==("__debug__":Str))=false:=by decide)
 (hcd:(x==("__classdict__":Str))=false:=by decide):QE K X (.Name x pos) (Mg i) (A0 i):=⟨NH hN hv hd hcd,Zk⟩
def aj{i:Int}{j pos}:QE K X (.Constant (.int i) j pos) (tC (.int i)) (mC (.int i)):=⟨bL,Pz λ_=>by simp[RI]⟩
def dQ{i:Bool}{j pos}:QE K X (.Constant (.bool i) j pos) (tC (.bl i)) (mC (.bl i)):=⟨da,Pz λ_=>by simp[RI]⟩
def ae{j pos}:QE K X (.Constant .none j pos) (tC .non) (mC .non):=⟨bI,Pz λ_=>by simp[RI]⟩
def aZ{j pos}:QE K X (.Constant (.str x) j pos) (tC (.str x)) (mC (.str x)):=⟨bF,Pz λ_=>by simp[RI]⟩
def Hv{f:D->D->Hd->Option (D×Hd)}(ho:OpR X (binaryOp op) r)(hr:RB K r f)(ha:QE K X a ta ma)(hb:QE K X b tb mb):QE K X (.BinOp a op b pos) (tOp r ta tb) (mOp f ma mb):=⟨QJ ho ha.p hb.p,MD hr ha.r hb.r⟩
def ag(ha:QE K X a ta ma):QE K X (.UnaryOp .USub a pos) (tUn (rU λi=>.int (-i)) ta) (C6 ma):=⟨dY ZD ha.p,Zn ha.r⟩
def Jo{f:D->D->Hd->Option (D×Hd)}(ho:OpR X (compareOp op) r)(hr:RB K r f)(ha:QE K X a ta ma)(hb:QE K X b tb mb)(hm:behindInMarks op b=false:=by first|exact HJ _|rfl):QE K X (.Compare a [op] [b] pos) (tOp r ta tb) (mOp f ma mb):=⟨YK ho ha.p hb.p hm,MD hr ha.r hb.r⟩
def EN{f:D->D->Hd->Option (D×Hd)}(ho:OpR X (compareOp op) r)(hr:RB K r f)(ha:QE K X a ta ma)(hb:QE K X b tb mb)(hm:behindInMarks op b=false:=by first|exact HJ _|rfl):QT K X (.Compare a [op] [b] pos) (FN (tOp r ta tb)) (A8 (mOp f ma mb)):=⟨Hw ho ha.p hb.p hm,DV (MD hr ha.r hb.r)⟩
def aH{j pos'}(ha:QE K X a ta ma):QT K X (.Compare a [.Is] [.Constant .none j pos'] pos) (tB (Tx ta)) (A8 (FY false ma)):=⟨NF (bO ha.p),UC (Zr ha.r)⟩
def Uc(ha:QE K X a ta ma)(he:∀whole,isTrue a X.env whole=(do let v <- whole;standAt a.pos;holding [v] (truthy v)):=by intro _;rfl)(hK:X.K=K:=by rfl):
 QT K X a (λσ H Q=>ta σ H λx H'=>∃k,O5 K x H' k/\Q k H') (DT ma):=by
 subst hK;exact⟨Uu ha.p he,UB ha.r⟩
def aG(ha:QT K X a tA nA):QT K X (.UnaryOp .Not a pos) (Tt tA) (HN nA):=⟨ar ha.p,ZP ha.r⟩
def Xa(ha:QT K X a tA nA):QW K X (.BoolOp .And [a] pos) tA nA:=⟨Y3 ha.p,ha.r⟩
def aE(ha:QT K X a tA nA):QW K X (.BoolOp .Or [a] pos) tA nA:=⟨ao ha.p,ha.r⟩
def aF{rest:List Expr}(ha:QT K X a tA nA)(hb:QW K X (.BoolOp .And (b::rest) pos) tB' nB):QW K X (.BoolOp .And (a::b::rest) pos) (U5 tA tB') (Bj nA nB):=⟨ap ha.p hb.p,ZQ ha.r hb.r⟩
def dM{rest:List Expr}(ha:QT K X a tA nA)(hb:QW K X (.BoolOp .Or (b::rest) pos) tB' nB):QW K X (.BoolOp .Or (a::b::rest) pos) (tOr tA tB') (mOr nA nB):=⟨dU ha.p hb.p,dD ha.r hb.r⟩
def QW.toT{K:Frag}(h:QW K X e t m):QT K X e t m:=⟨h.p.pt,h.r⟩
def ac{op}(ha:QE K X a ta ma):QE K X (.BoolOp op [a] pos) ta ma:=⟨bG ha.p,ha.r⟩
def ak{rest:List Expr}(ha:QE K X a ta ma)(hb:QE K X (.BoolOp .And (b::rest) pos) tb mb):QE K X (.BoolOp .And (a::b::rest) pos) (Pj ta tb) (IA ma mb):=⟨bN ha.p hb.p,XV ha.r hb.r⟩
def ad(ha:QE K X a ta ma):QE K X (.UnaryOp .Not a pos) (Pd ta) (I0 ma):=⟨bH ha.p,XJ ha.r⟩
def Um(hc:QT K X c tA nA)(ha:QE K X a ta ma)(hb:QE K X b tb mb):QE K X (.IfExp c a b pos) (tIf tA ta tb) (mIf nA ma mb):=⟨V2 hc.p ha.p hb.p,dG hc.r ha.r hb.r⟩
def am:QA K X [] C5 A4:=⟨Cr,SG⟩
def Xz(ha:QE K X e te me)(hr:QA K X es t m)(hs:starEach (e::es) X.env=(false,eval e X.env)::starEach es X.env:=by rfl):QA K X (e::es) (Be te t) (A1 me m):=⟨CB ha.p hr.p hs,XY ha.r hr.r⟩
def aY{x1}(h:QA K X es t m):QE K X (.Tuple es x1 pos) (Tq t) (Ae m):=⟨bE h.p,Zl h.r⟩
def aQ(h:QA K X es t m):QN K X (.List es pos) (Tv t) (Ac m):=⟨bJ h.p,ZX h.r⟩
def af(h:QN K X e te m):QE K X e te (AV m):=⟨h.p,S9 h.r⟩
def dO(ha:QE K X a ta ma)(hb:QE K X b tb mb)(hs:LF b:=by exact λ_ _=>rfl)(hK:X.K=K:=by rfl):QE K X (.Subscript a b pos) (tOp (MF K) ta tb) (mOp gIx ma mb):=⟨QK ((NW K hK).or (Oz K hK)) ha.p hb.p hs,MD dJ ha.r hb.r⟩
def Xy(hu:X.A.units+1<cLine)(ha:QE K X a ta ma)(hb:QE K X b tb mb)(hs:Vq b:=by exact λ_ _=>rfl):QE K X (.Subscript a b pos) (Pf ta tb) (mOp CL ma mb):=⟨YI hu ha.p hb.p hs,XT ha.r hb.r⟩
def Xo:QO K X none KU E5:=⟨YC,XB⟩
def Xn(h:QE K X e te me):QO K X (some e) (Pb te) (GR me):=⟨YB h.p,XA h.r⟩
def aa{lo:Option Expr}(h:QE K X e te me)(hl:QO K X lo tl ml)(hh:QO K X hi th mh)(hK:X.K=K:=by rfl):QE K X (.Subscript e (.Slice lo hi none p2) pos) (tSl (Q5 K) te tl th) (Kk me ml mh):=⟨NI (Wv K hK) h.p hl.p hh.p,Zm h.r hl.r hh.r⟩
def aO{lo:Option Expr}(h:QE K X e te me)(hl:QO K X lo tl ml)(hh:QO K X hi th mh)(hK:X.K=K:=by rfl):QN K X (.Subscript e (.Slice lo hi none p2) pos) (tSl (Q6 K) te tl th) (Kl me ml mh):=⟨NI (U7 K hK) h.p hl.p hh.p,ZV h.r hl.r hh.r⟩
def Ef{id:String}{p:Pos}{r:List V->Hp->VK->Prop}{f:List D->Hd->Option (D×Hd)}(hc:CallR X (.builtin id) r)(hr:RF K r f)(hm:X.mg x=none)(hv:bootBuiltins x=some (.builtin id))(ha:QA K X (e::es) t m)(hg:Gl X x:=by rfl)(hn:x≠"__name__":=by decide)(hdb:(x==("__debug__":Str))=false:=by decide)
 (he:starEach (e::es) X.env=(false,eval e X.env)::starEach es X.env:=by rfl) (hpl:(backTo pos (starEach es X.env)).any (·.1)=false:=by rfl):QE K X (.Call (.Name x p) (e::es) [] pos) (tCB r t) (mCB f m):=⟨F7 hc hg hm hv ha.p hn hdb he hpl,W0 hr ha.r⟩
def WB{id:String}{p:Pos}{r:List V->Hp->VK->Prop}{f:List D->Hd->Option (D×Hd)}(hc:CallR X (.type id) r)(hr:RF K r f)(hm:X.mg x=none)(hv:bootBuiltins x=some (.type id))(ha:QA K X (e::es) t m)(hg:Gl X x:=by rfl)(hn:x≠"__name__":=by decide)(hdb:(x==("__debug__":Str))=false:=by decide)
 (he:starEach (e::es) X.env=(false,eval e X.env)::starEach es X.env:=by rfl) (hpl:(backTo pos (starEach es X.env)).any (·.1)=false:=by rfl):QE K X (.Call (.Name x p) (e::es) [] pos) (tCB r t) (mCB f m):=⟨Cq hc hg hm hv ha.p hn hdb he hpl,W0 hr ha.r⟩
def MH{id:String}{p:Pos}{r:List V->Hp->VK->Prop}{tp:Bool}{g:List D->Option D}(hc:CallR X (.builtin id) r)(hr:RG K tp r g)(hm:X.mg x=none)(hv:bootBuiltins x=some (.builtin id))(ha:QN K X e te m)(hg:Gl X x:=by rfl)(hn:x≠"__name__":=by decide)(hdb:(x==("__debug__":Str))=false:=by decide)
 (he:starEach [e] X.env=[(false,eval e X.env)]:=by rfl):QE K X (.Call (.Name x p) [e] [] pos) (tCB r (Be te C5)) (B7 g m):=⟨F7 hc hg hm hv (CB ha.p Cr he) hn hdb he rfl,SA hr ha.r⟩
def dP{id:String}{p:Pos}{r:List V->Hp->VK->Prop}{tp:Bool}{g:List D->Option D}(hc:CallR X (.type id) r)(hr:RG K tp r g)(hm:X.mg x=none)(hv:bootBuiltins x=some (.type id))(ha:QN K X e te m)(hg:Gl X x:=by rfl)(hn:x≠"__name__":=by decide)(hdb:(x==("__debug__":Str))=false:=by decide)
 (he:starEach [e] X.env=[(false,eval e X.env)]:=by rfl):QE K X (.Call (.Name x p) [e] [] pos) (tCB r (Be te C5)) (B7 g m):=⟨Cq hc hg hm hv (CB ha.p Cr he) hn hdb he rfl,SA hr ha.r⟩
def Uk(hm:X.mg "list"=none)(ha:QN K X e te m)(hg:Gl X "list":=by rfl)(he:starEach [e] X.env=[(false,eval e X.env)]:=by rfl)(hK:X.K=K:=by rfl):QN K X (.Call (.Name "list" p) [e] [] pos) (tCB (Kg K) (Be te C5)) (HP m):=⟨Cq (Qy K hK) hg hm PK (CB ha.p Cr he) 97 97 he rfl,UK ha.r⟩
def W9{id:String}{r:V->List V->Hp->VK->Prop}{f:D->List D->Hd->Option (D×Hd)}{apos cpos:Pos}(slot:Slot "list" name id)(hty:typeOf (.builtin id)=pure (.type "method_descriptor"))(hm:MtM X id r)(hr:RM K r f)(ho:QE K X o to mo)(ha:QA K X (e::es) t m)
 (hbase:attributeBase o name X.env (eval o X.env)=eval o X.env:=by rfl)
 (hfew:((backTo cpos (starEach (e::es) X.env)).all (λx=>!x.1)&&(backToKw cpos (keywordEach [] X.env)).all (λx=>x.1.isSome)
  && decide ((e::es).length+([]:List Keyword).length+(if([]:List Keyword).isEmpty then 0 else 1)<30))=true:=by rfl)
 (hline:(apos.endLine==cpos.line)=true:=by rfl) (hs:starEach (e::es) X.env=(false,eval e X.env)::starEach es X.env:=by rfl) (hplain:(backTo cpos (starEach es X.env)).any (·.1)=false:=by rfl) (hK:X.K=K:=by rfl):
 QE K X (.Call (.Attribute o name apos) (e::es) [] cpos) (tBM K "list" r to t) (mMt f mo m):=by
 subst hK;exact⟨dZ PySem.F.plainAttrs_list slot hty hm ho.p ha.p hbase hfew hline hs hplain,Vz hr ho.r ha.r⟩
def ah{id:String}{r:V->List V->Hp->VK->Prop}{f:D->List D->Hd->Option (D×Hd)}{apos cpos:Pos}(slot:Slot "list" name id)(hty:typeOf (.builtin id)=pure (.type "method_descriptor"))(hm:MtM X id r)(hr:RM K r f)(ho:QE K X o to mo)
 (hbase:attributeBase o name X.env (eval o X.env)=eval o X.env:=by rfl) (hline:(apos.endLine==cpos.line)=true:=by rfl) (hK:X.K=K:=by rfl):
 QE K X (.Call (.Attribute o name apos) [] [] cpos) (U2 K "list" r to) (mMt f mo A4):=by
 subst hK;exact⟨bM PySem.F.plainAttrs_list slot hty hm ho.p hbase hline,Zo hr ho.r⟩
def Uq(w:Nat){j k:Nat}{n:Nat}{F:List D->Hd->Option (D×Hd)}{st:Stmt}{p:Pos}(G:FnOk X.prog X.w X.K X.mg X.base CX0 j f fd ps (spF K n F))(hr:Room k X.A)(DA:DefAt X.K X.mg x st f fd ps)(ha:QA K X (e::es) t m)(hF:∀ds hd z,F ds hd=some z->83=n)
 (hjk:j<=k:=by decide) (hg:Gl X x:=by rfl) (hdb:(x==("__debug__":Str))=false:=by decide) (he:starEach (e::es) X.env=(false,eval e X.env)::starEach es X.env:=by rfl) (hpl:(backTo pos (starEach es X.env)).any (·.1)=false:=by rfl):
 QE K X (.Call (.Name x p) (e::es) [] pos) (Dg (spF K n F) [] E0 t) (AD w F m):=⟨QL G hr DA ha.p hjk hg hdb he hpl,UP ha.r hF⟩
def Ut{j k:Nat}{n:Nat}{F:List D->Hd->Option (D×Hd)}{st:Stmt}{p:Pos}(G:FnOk X.prog X.w X.K X.mg X.base CX0 j f fd ps (spF K n F))(hr:Room k X.A)(DA:DefAt X.K X.mg x st f fd ps)(ha:QA K X (e::es) t m)(hF:∀ds hd z,F ds hd=some z->83=n)
 (hjk:j<=k:=by decide) (hg:Gl X x:=by rfl) (hdb:(x==("__debug__":Str))=false:=by decide) (he:starEach (e::es) X.env=(false,eval e X.env)::starEach es X.env:=by rfl) (hpl:(backTo pos (starEach es X.env)).any (·.1)=false:=by rfl):
 QE K X (.Call (.Name x p) (e::es) [] pos) (Dg (spF K n F) [] E0 t) (Bp F m):=⟨QL G hr DA ha.p hjk hg hdb he hpl,UT ha.r hF⟩
def Xv{i:Nat}(hN:X.N.Nodup)(hi:X.N[i]?=some x)(hx:Loc X.env.scope x)(hf:X.fn x=true∨X.env.scope.names.lookup x=some .local:=by first|exact .inl rfl|exact .inr rfl|assumption):QG K X (.Name x pos) (EE i) (AA i):=⟨YH hN hi hx hf,Kb⟩
def Xu:QGs K X [] VZ BR:=⟨YF,XD⟩
def Ul(h1:QG K X e tg n)(h2:QGs K X es tgs ns)(hs:(assignEach (e::es) X.env).map (·.2)=assign e X.env::(assignEach es X.env).map (·.2):=by rfl):QGs K X (e::es) (Ql tg tgs) (AT n ns):=⟨V0 h1.p h2.p hs,UM h1.r h2.r⟩
def aV{k n:Nat}(hc:X.calm=true)(h:QGs K X es tgs ns)(hK:X.K=K:=by rfl)(hn:(assignEach es X.env).length=n:=by rfl)(hst:(assignEach es X.env).findIdx? (·.1)=none:=by rfl):QG K X (.Tuple es k pos) (Qj K n tgs) (BO n ns):=⟨YG K hc h.p hK hn hst,Zf h.r⟩
def aS(h:QE K X e te me)(hK:X.K=K:=by rfl):QI K X tg e (NZ K te) (B5 me):=⟨Om K h.p hK,S4 h.r⟩
def Xr(h:QE K X e te me)(hK:X.K=K:=by rfl):QI K X tg e (GX K te) (BJ me):=⟨Iy K h.p hK,Od h.r⟩
def aU(h:QN K X e te m)(hK:X.K=K:=by rfl):QI K X tg e (GX K te) (Km m):=⟨Iy K h.p hK,Ze h.r⟩
def Xq(hm:X.mg "range"=none)(ha:QA K X [a] t m)(hg:Gl X "range":=by rfl)(hs:starEach [a] X.env=[(false,eval a X.env)]:=by rfl):QI K X tg (.Call (.Name "range" p) [a] [] pos) (Qh t) (Bo m):=⟨SN hg hm ha.p hs,XC ha.r⟩
def aX:QF K X [] To BS:=⟨bD,ZO⟩
def aW(h:QT K X c tA nA):QF K X [c] tA nA:=⟨bC h.p,h.r⟩
def Xp{iter:Expr}(hc:X.calm=true)(S:CSc X scope fr ix)(hi:QI K X tg iter wi mi)
 (hg:∀s H ex,QG K (cCx X (loc++fr) scope s H ex) tg g n) (hf:∀s H ex,QF K (cCx X (loc++fr) scope s H ex) ifs tf mf) (he:∀s H ex,QE K (cCx X (loc++fr) scope s H ex) elt te mm)
 (hs:∀x,foldedSetIterable iter X.env x=pure x:=by intro _;rfl):QN K X (.ListComp elt [⟨tg,iter,ifs,0⟩] scope pos) (GJ loc.length ix wi g tf te) (AW loc.length ix mi n mf mm):=
 ⟨YJ hc S hi.p (λs H ex=>(hg s H ex).p) (λs H ex=>(hf s H ex).p) (λs H ex=>(he s H ex).p) hs,Oc hi.r (hg X.s₀ X.H₀ []).r (hf X.s₀ X.H₀ []).r (he X.s₀ X.H₀ []).r⟩
def Xe:QSs K X [] JY AU:=⟨Y5,Ob⟩
def Ue{st:Stmt}{rest:List Stmt}{m1:MS}(h1:QS K X st u m1)(h2:QSs K X rest v m2):QSs K X (st::rest) (Tr u v) (A5 m1 m2):=⟨Uw h1.p h2.p,ZR h1.r h2.r⟩
def Xd{st:Stmt}{m1:MS}(h1:QS K X st u m1):QSs K X [st] u m1:=⟨Y4 h1.p,h1.r⟩
def Xg:QS K X (.Pass pos) JY AU:=⟨Y7,Ob⟩
def Xj(he:QE K X e te me)(hs:swapsWith e none pos.line X.env=pure false:=by rfl):QS K X (.Expr e pos) (Pe te) (B0 me):=⟨Y8 he.p hs,X7 he.r⟩
def aL(he:QE K X e te me):QS K X (.Return (some e) pos) (Ts te) (AQ me):=⟨av he.p,ZS he.r⟩
def dN{m1:MS}(hc:QT K X c tA nA)(ha:QSs K X a u m1)(hb:QSs K X b v m2):QS K X (.If c a b pos) (Tz tA u v) (Aa nA m1 m2):=⟨dW hc.p ha.p hb.p,dE hc.r ha.r hb.r⟩
def Uh{st:Stmt}:QS K X st Mh FA:=⟨Uy,UF⟩
def aN(he:QE K X e te me)(hg:QG K X tg g n)(hs:swapsWithSole [tg] e pos.line X.env=pure false:=by rfl)(hw:swappedStores [tg] e X.env=pure none:=by rfl)
 (h1:(assignEach [tg] X.env).map (·.2)=[assign tg X.env]:=by rfl):QS K X (.Assign [tg] e pos) (F0 te g) (GU me n):=⟨SK he.p hg.p hs hw h1,N8 he.r hg.r⟩
def aK{i:Nat}(hN:X.N.Nodup)(hi:X.N[i]?=some x)(hx:Loc X.env.scope x)(he:QE K X e te me)(hs:swapsWith e (some (.Name x pos')) pos.line X.env=pure false:=by rfl)(hf:X.fn x=true∨X.env.scope.names.lookup x=some .local:=by first|exact .inl rfl|exact .inr rfl|assumption):
 QS K X (.Assign [.Name x pos'] e pos) (F0 te (EE i)) (AE i me):=⟨au hN hi hx he.p hs hf,N8 he.r Kb⟩
def Xf{i:Nat}{iter:Expr}{spos:Pos}(hN:X.N.Nodup)(hiN:X.N[i]?=some y)(hy:X.env.scope.names.lookup y=some .local)
 (hc:X.calm=true) (S:CSc X scope fr ix) (hi:QI K X tg iter wi mi)
 (hg:∀s H ex,QG K (cCx X (loc++fr) scope s H ex) tg g n) (hf:∀s H ex,QF K (cCx X (loc++fr) scope s H ex) ifs tf mf) (he:∀s H ex,QE K (cCx X (loc++fr) scope s H ex) elt te mm)
 (hsw:swapsWith (.ListComp elt [⟨tg,iter,ifs,0⟩] scope pos) (some (.Name y py)) spos.line X.env=pure true:=by rfl) (hs:∀x,foldedSetIterable iter X.env x=pure x:=by intro _;rfl):
 QS K X (.Assign [.Name y py] (.ListComp elt [⟨tg,iter,ifs,0⟩] scope pos) spos) (F0 (GJ loc.length ix wi g tf te) (EE i)) (AE i (AV (AW loc.length ix mi n mf mm))):=
 ⟨Y6 hN hiN hy hc S hi.p (λs H ex=>(hg s H ex).p) (λs H ex=>(hf s H ex).p) (λs H ex=>(he s H ex).p) hsw hs,N8 (S9 (Oc hi.r (hg X.s₀ X.H₀ []).r (hf X.s₀ X.H₀ []).r (he X.s₀ X.H₀ []).r)) Kb⟩
def Xk(hu:X.A.units+1<cLine)(ho:QE K X o td md)(hi:QE K X i ty my)(hv:QE K X value tv mv)(hs:swapsWith value (some (.Subscript o i pos')) pos.line X.env=pure false:=by rfl):
 QS K X (.Assign [.Subscript o i pos'] value pos) (Pt td ty tv) (Ej md my mv):=⟨Y9 hu ho.p hi.p hv.p hs,X8 ho.r hi.r hv.r⟩
def Xh(ho:QE K X o to mo)(hi:QE K X i ti mi)(hv:QE K X value tv mv)(hs:swapsWithSole [.Subscript o i pos'] value pos.line X.env=pure false:=by rfl)(hw:swappedStores [.Subscript o i pos'] value X.env=pure none:=by rfl)
 (h1:(assignEach [.Subscript o i pos'] X.env).map (·.2)=[assign (.Subscript o i pos') X.env]:=by rfl)
 (ha:∀v,assign (.Subscript o i pos') X.env v=(do
  let ov <- holding [v] (eval o X.env)
  let iv <- holding [v,ov] (eval i X.env)
  standAt pos'
  holding [v,ov,iv] (setItem ov iv v)
  release [v,ov,iv] []):=by intro _;rfl):QS K X (.Assign [.Subscript o i pos'] value pos) (F0 tv (VY to ti Jm)) (C8 mo mi mv):=⟨SK hv.p (bB ho.p hi.p Mv ha) hs hw h1,X5 ho.r hi.r hv.r⟩
def aM{iter:Expr}(hc:X.calm=true)(hi:QI K X tg iter wi mi)(hg:QG K X tg g n)(hb:QSs K X body tb mb)(hp:PassesOwn 69 X.A X.env X.xe:=by exact PassesOwn.never)
 (hs:∀x,foldedSetIterable iter X.env x=pure x:=by intro _;rfl):QS K X (.For tg iter body [] pos) (U0 wi g tb) (BC mi n mb):=⟨aw hp hc hi.p hg.p hb.p hs,ZT hi.r hg.r hb.r⟩
def Ug(hc:QT K X c tA nA)(hb:QSs K X body tb mb)(hp:PassesOwn 69 X.A X.env X.xe:=by exact PassesOwn.never):QS K X (.While c body [] pos) (Mf tA tb) (Cs nA mb):=⟨Ux hp hc.p hb.p,UD hc.r hb.r⟩
end
def YT{K:Frag}{mg:Str->Option Value}{st:Stmt}{j:Nat}(DA:DefAt K mg x st f fd ps)(S:FnScope N ps (AC st))
 (h:∀(cdv:Value) (A:Around) (outer:List Env) (s:96) (H:Hp) (E:XK),Room j (A.deeper (envOfC x (AC st) 59 f cdv))->∃t,QSs K (Fi CX0 P w K mg base N x (AC st) f cdv A outer s H E).nox (BY st) t m):
 FnOk P w K mg base CX0 (j+1) f fd ps (spF K ps.length (mkF ps.length N.length m)):=by
 refine DA.fn.ok S (λvs H Q E h=>h.1) (λcdv A outer s H vs Q E hr hs=>?_);obtain⟨t,q⟩:=h cdv A outer s H E hr;exact⟨t,q.p,OW q.r hs⟩
def gT(tp:Bool)(h:Heap)(it l:Addr)(k:Nat):Prop:=match tp with
 |true=>h.IsTupleIter it l k
 |false=>h.IsListIter it l k
def SqS(K:Frag)(tp:Bool)(H:Hp)(a:Addr)(xs:List V):Prop:=match tp with
 |true=>SqT K H a xs
 |false=>SqL K H a xs
def eK(K:Frag)(ρ:108)(H:Hp)(tp:Bool)(a:Addr)(ds:List D)(g:Gd):Prop:=∀(ρ2:108) (H2:Hp) (hd2:Hd),Ext ρ H ρ2 H2->RH K ρ2 H2 hd2->GOk hd2 g->∃xs,SqS K tp H2 a xs/\RDs K ρ2 H2 ds xs
def RRw(K:Frag)(tp:Bool)(t:TE)(m:MI):Prop:=∀(ρ:108) (σ:St) (H:Hp) (hd:Hd) (ls:Ls) (Q:VK) (d:List D) (g:Gd) (hd':Hd),RH K ρ H hd->RL K ρ H ls σ->m ls hd=some ((d,g),hd') ->
 (∀ρ' H' a,Ext ρ H ρ' H'->RH K ρ' H' hd'->GOk hd' g->eK K ρ' H' tp a d g->Q (.ref a) H')->t σ H Q
structure QR(K:Frag)(tp:Bool)(X:Cx)(e:Expr)(t:TE)(m:MI):Prop where
 p:PE X e t
 r:RRw K tp t m
section
variable{K:Frag}{ρ':108}{H':Hp}
def ZL(h:RE K t m):RRw K true t (B5 m):=by
 intro ρ σ H hd ls Q d g hd' hR hL hm hQ;obtain⟨⟨d1,h1⟩,e1,hm⟩:=gW hm;obtain⟨ds,e2,e3⟩:=gX hm;cases e3;refine h ρ σ H hd ls _ d1 _ hR hL e1 λρ1 H1 v x1 R1 r1=>?_;obtain⟨a,xs,rfl,q,r⟩:=r1.tup e2;exact hQ ρ1 H1 a x1 R1 (AK _) λρ2 H2 hd2 x2 R2 _=>⟨xs,(x2.grow R1).sq q,r.ext R1 x2⟩
def X2(h:RE K t m):RRw K false t (BJ m):=by
 intro ρ σ H hd ls Q d g hd' hR hL hm hQ;obtain⟨⟨d1,h1⟩,e1,hm⟩:=gW hm;dsimp only at hm;split at hm
 .next n=>
  split at hm
  .next ds q=>
   cases hm;refine h ρ σ H hd ls _ _ _ hR hL e1 λρ1 H1 v x1 R1 r1=>?_;simp only[RD]at r1;obtain⟨a,hn,rfl⟩:=r1;refine hQ ρ1 H1 a x1 R1 (λp z=>by simp at z;subst z;exact q) λρ2 H2 hd2 x2 R2 G2=>?_;have hn2:ρ2[n]?=some a:=by
    obtain⟨r,rfl,_⟩:=x2.pre;rw[List.getElem?_append_left (List.getElem?_eq_some_iff.mp hn).1];exact hn
   obtain⟨ys,e4,e5⟩:=R2.lst hn2 (G2 (n,d) 71);exact⟨ys,SqL.of e4,e5⟩
  .cases hm
 .next ns=>
  cases hm;refine h ρ σ H hd ls _ _ _ hR hL e1 λρ1 H1 v x1 R1 r1=>?_;simp only[RD]at r1;obtain⟨a,rfl,q⟩:=r1;exact hQ ρ1 H1 a x1 R1 (AK _) λρ2 H2 hd2 x2 R2 _=>⟨_,(q.grow (x2.grow R1)).sq,E7⟩
 .cases hm
end
section
variable(K:Frag)
def SJ(h:QE K X e te me):QR K true X e te (B5 me):=⟨h.p,ZL h.r⟩
def Xm(h:QE K X e te me):QR K false X e te (BJ me):=⟨h.p,X2 h.r⟩
end
section
variable{K:Frag}
noncomputable def GT(ml:MA)(mb:ME):ME:=λls hd=>(ml ls hd).bind λp=>(mb ls p.2).bind λq=>match q.1 with
 |.im (.int i)=>(atI p.1 i).map (·,q.2)
 |_=>none
def Zp(ha:RN K ta ml)(hb:RE K tb mb):RE K (tOp (MF K) ta tb) (GT ml mb):=by
 and_intros;obtain⟨⟨d1,h1⟩,e1,hm⟩:=gW hm;obtain⟨⟨d2,h2⟩,e2,hm⟩:=gW hm;dsimp only at hm;split at hm
 .obtain⟨w,e3,e4⟩:=gX hm;cases e4;refine ha ρ σ H hd ls _ d1 h1 hR hL e1 λρ1 H1 a xs x1 R1 na oa ea r1=>?_;refine hb ρ1 σ H1 h1 ls _ _ _ R1 (hL.ext hR x1) e2 λρ2 H2 v2 x2 R2 r2=>?_;simp only[RD,RI]at r2;subst r2;have r1':=r1.ext R1 x2;obtain⟨j,j1,j2⟩:=LB r1'.len e3;obtain⟨x,y1,y2⟩:=r1'.get j1;exact .inl ⟨a,xs,_,x,rfl,rfl,SqL.of (x2.keep a _ ea oa nt),j2 x y1,hQ ρ2 H2 x 85 R2 y2⟩
 .cases hm
noncomputable def Fc(neg:Bool)(x y:PyData)(hd:Hd):Option (D×Hd):=if x.canLay0=true/\y.canLay0=true/\min x.depth y.depth<=60 then some (.im (.bl (if neg then !PyData.eqv x y else PyData.eqv x y)),hd)else none
noncomputable def Br(neg:Bool)(ma:ME)(ml:MA):ME:=λls hd=>(ma ls hd).bind λp=>(ml ls p.2).bind λq=>(pyD q.2 p.1).bind λx=>(B2 q.1).bind λis=>Fc neg x (.list (I.pys is)) q.2
noncomputable def Ei(neg:Bool)(ml mk:MA):ME:=λls hd=>(ml ls hd).bind λp=>(mk ls p.2).bind λq=>(B2 p.1).bind λis=>(B2 q.1).bind λjs=>Fc neg (.list (I.pys is)) (.list (I.pys js)) q.2
noncomputable def rEN(K:Frag)(neg:Bool):R2:=λx y H Q=>∃d e,Rep K H d x/\Rep K H e y/\d.canLay0=true/\e.canLay0=true/\min d.depth e.depth<=60/\Q (.bl (if neg then !PyData.eqv d e else PyData.eqv d e)) H
def Kc(ea:H a=some (.lst xs))(r:RDs K ρ H ds xs)(e:B2 ds=some is):Rep K H (.list (I.pys is)) (.ref a):=by
 rw[Gj e]at r;simp only[Rep];exact⟨a,xs,rfl,SqL.of ea,r.is.rep⟩
def XQ{neg:Bool}(ha:RE K ta ma)(hb:RN K tb ml):RE K (tOp (rEN K neg) ta tb) (Br neg ma ml):=by
 and_intros;obtain⟨⟨d1,h1⟩,e1,hm⟩:=gW hm;obtain⟨⟨d2,h2⟩,e2,hm⟩:=gW hm;obtain⟨x,e3,hm⟩:=gW hm;obtain⟨is,e4,hm⟩:=gW hm;unfold Fc at hm;split at hm
 .next c=>
  cases hm;refine ha ρ σ H hd ls _ d1 h1 hR hL e1 λρ1 H1 v x1 R1 r1=>?_;refine hb ρ1 σ H1 h1 ls _ d2 _ R1 (hL.ext hR x1) e2 λρ2 H2 a xs x2 R2 na oa ea r2=>?_;exact⟨_,_,Eo R2 (r1.ext R1 x2) e3,Kc ea r2 e4,c.1,c.2.1,c.2.2,hQ ρ2 H2 _ 85 R2 (by simp[RD,RI])⟩
 .cases hm
def XN{neg:Bool}(ha:RN K ta ml)(hb:RN K tb mk):RE K (tOp (rEN K neg) ta tb) (Ei neg ml mk):=by
 and_intros;obtain⟨⟨d1,h1⟩,e1,hm⟩:=gW hm;obtain⟨⟨d2,h2⟩,e2,hm⟩:=gW hm;obtain⟨is,e4,hm⟩:=gW hm;obtain⟨js,e3,hm⟩:=gW hm;unfold Fc at hm;split at hm
 .next c=>
  cases hm;refine ha ρ σ H hd ls _ d1 h1 hR hL e1 λρ1 H1 a xs x1 R1 na oa ea r1=>?_;refine hb ρ1 σ H1 h1 ls _ d2 _ R1 (hL.ext hR x1) e2 λρ2 H2 b ys x2 R2 nb ob eb r2=>?_;exact⟨_,_,Kc (x2.keep a _ ea oa nt) (r1.ext R1 x2) e4,Kc eb r2 e3,c.1,c.2.1,c.2.2,hQ ρ2 H2 _ 85 R2 (by simp[RD,RI])⟩
 .cases hm
end
def SW(K:Frag){X:Cx}(hu:X.A.units+64<cLine)(hK:X.K=K:=by rfl):OpR X (compareOp .Eq) (rEN K false):=Ki K hu hK
def SU(K:Frag){X:Cx}(hu:X.A.units+64<cLine)(hK:X.K=K:=by rfl):OpR X (compareOp .NotEq) (rEN K true):=Kh K hu hK
section
variable(K:Frag){e:Expr}{te:TE}{me:ME}{neg:Bool}
def ai(ha:QN K X a ta m)(hb:QE K X b tb mb)(hs:LF b:=by exact λ_ _=>rfl)(hK:X.K=K:=by rfl):QE K X (.Subscript a b pos) (tOp (MF K) ta tb) (GT m mb):=⟨QK ((NW K hK).or (Oz K hK)) ha.p hb.p hs,Zp ha.r hb.r⟩
def Oj(ho:OpR X (compareOp op) (rEN K neg))(ha:QE K X a ta ma)(hb:QN K X b tb m)(hm:behindInMarks op b=false:=by first|exact HJ _|rfl):QT K X (.Compare a [op] [b] pos) (FN (tOp (rEN K neg) ta tb)) (A8 (Br neg ma m)):=⟨Hw ho ha.p hb.p hm,DV (XQ ha.r hb.r)⟩
def Oi(ho:OpR X (compareOp op) (rEN K neg))(ha:QN K X a ta m)(hb:QN K X b tb mk)(hm:behindInMarks op b=false:=by first|exact HJ _|rfl):QT K X (.Compare a [op] [b] pos) (FN (tOp (rEN K neg) ta tb)) (A8 (Ei neg m mk)):=⟨Hw ho ha.p hb.p hm,DV (XN ha.r hb.r)⟩
end
noncomputable def BM(lo:Int):Nat->List V
 |0=>[]
 |n+1=>.int lo::BM (lo+1) n
def Jj(lo:Int)(n:Nat):(BM lo n).length=n:=by
 induction n generalizing lo with
 |zero=>rfl
 |succ n ih=>simp[BM,ih]
def GP{K:Frag}(lo:Int)(n:Nat):RDs K ρ H (Ah lo n) (BM lo n):=by
 induction n generalizing lo with
 |zero=>simp[Ah,BM,RDs]
 |succ n ih=>exact .cons (by simp[RD,RI]) (ih _)
theorem Ji{lo:Int}:∀{n:Nat} {us:79},us.length=n->(∀(j:Nat) (v:Value),us[j]?=some v->∃t,v=.int (lo+j*1) t)->Vals (BM lo n) us
 |0,us,h,_=>by
  have:us=[]:=List.length_eq_zero_iff.mp h;subst this;exact .nil
 |n+1,[],h,_=>by simp at h
 |n+1,u::us,h,k=>by
  obtain⟨t,e⟩:=k 0 u rfl;refine .cons ⟨t,by rw[e];simp⟩ (Ji (by simpa using h) λj v q=>?_);obtain⟨t',e'⟩:=k (j+1) v (by simpa using q);exact⟨t',by rw[e'];congr 1;push_cast;omega⟩
section
variable{A:Around}{E:76}{s:96}
def IU{Q:List Value->Shared->Prop}{a b c:Int}{n:Nat}(hh:A.handled=none)(hr:IsRange s.heap r a b c t u v)(hsm:Builtin.Range.small a b c=true)(hn:Builtin.Range.rangeSize a b c=n)(hl:n<=2^24)
 (hQ:∀g tk (acc:Array Value),(∀b o,s.heap.get? b=some o->g.get? b=some o)->ItemsOf (λi v=>∃t,v=.int (a+i*c) t) acc n->Q acc.toList { s with heap:=g,toks:=tk }):
 wpAny 107 A (collect (.ref r)) Q E s:=by
 unfold collect;refine gj (wpAny_runValue (iZ F.entry_proto_collect ?_));rw[Around.under_plainId F.plain_proto_collect _];show wpAny _ A.in1 (newList [] >>= λl=>again (.builtin "list.__iadd__" ⟨[l,.ref r],[]⟩)) _ _ s;refine gj (jb (gn ⟨iV F.plain_list_iadd _,iZ F.entry_list_iadd ?_⟩));rw[Around.under_plainId F.plain_list_iadd _];show wpAny _ A.in1 (Builtin.List.listExtendWith (.ref 59) (.ref r) (.ref 59)) _ _ _;have e0:(s.heap.push { cls:=.type "list",data:=.seq ([]:List Value).toArray }).get? 59=some { cls:=.type "list",data:=.seq #[] 0 }:=87 _ rfl;have fin:∀g tk (acc:Array Value) c',(∀b o,b≠59->(s.heap.push { cls:=.type "list",data:=.seq ([]:List Value).toArray }).get? b=some o->g.get? b=some o)->g.get? 59=some { cls:=.type "list",dict:=none,data:=.seq acc c',slots:=#[] }->ItemsOf (λi v=>∃t,v=.int (a+i*c) t) acc n ->
  wpAny 107 A (load 59 >>= λo=>match o.data with|Data.seq xs epoch=>pure xs.toList|x=>unsupported "internal:collect") Q E { s with heap:=g,toks:=tk }:=λg tk acc c' kp eS it=>
  gj (wpAny_load eS (gn (hQ g tk acc (λb o q=>kp b o (hJ (84 q)) (70 _ q)) it)))
 refine i3 (wpAny_extend_range (A:=A) (R:=λr s'=>r=.ok (.ret (.ref 59))/\∃g tk,s'={ s with heap:=g,toks:=tk }/\wpAny 107 A (load 59 >>= λo=>match o.data with|Data.seq xs epoch=>pure xs.toList|x=>unsupported "internal:collect") Q E s')
  (s:={ s with heap:=s.heap.push { cls:=.type "list",data:=.seq ([]:List Value).toArray } }) hh (70 _ hr) hsm hn hl 59 (.ref 59) 0 e0 λg tk acc c' kp eS it=>⟨rfl,g,tk,rfl,fin g tk acc c' kp eS it⟩) (λfn s' h=>?_) (λe s' h=>absurd h.1 (by simp))
 cases fn with
 |done f=>
  obtain⟨e,_,_,_,q⟩:=h;cases e;exact q
 |again c'=>exact⟨h.1,ja h.2 λr s'' hr=>by obtain⟨rfl,_,_,_,q⟩:=hr;exact q⟩
def Mb(r:Addr)(a b c:Int)(t u v:Tok)(n:Nat)(hsm:Builtin.Range.small a b c=true)(hn:Builtin.Range.rangeSize a b c=n)(hl:n<=2^24):
 Meets (Builtin.«tuple.__new__» ⟨[.type "tuple",.ref r],[]⟩)
  (λ(A:Around) (R:Result->Shared->Prop) (s:96)=>A.handled=none/\IsRange s.heap r a b c t u v/\∀(g:Heap) (tk:Nat) (acc:Array Value),(∀b o,s.heap.get? b=some o->g.get? b=some o)->ItemsOf (λi v=>∃t,v=.int (a+i*c) t) acc n->R (.ok (.ret (.ref g.objs.size))) { s with heap:=g.push { cls:=.type "tuple",data:=.seq acc },toks:=tk }):=
 .of_wp λprog w A R s h=>by
  obtain⟨hp,gg,d,tk,os⟩:=s;obtain⟨hh,hr,h⟩:=h;have hsub:=sub_tuple_self;have hinit:=init_tuple_lookup;have hmh:=madeHere_tuple;have hT:Shared.TypeIs ⟨hp,gg,d,tk,os⟩ (.ref r) "range":=⟨_,hr,rfl⟩
  have hh':A.in1.handled=none:=hh
  wp_walk using wpAny_typeOf hT,wpAny_loadPart' hr,IU hh' hr hsm hn hl
  intro g tk2 acc kp it;show wpAny _ _ (Builtin.Tuple.tupleExact acc.toList.toArray >>= λv=>ret v) _ _ _;unfold Builtin.Tuple.tupleExact;refine gj (jb ?_ (by show acc.toList.toArray.size<=sizeLine;rw[ip];have:=it.1;simp only[Array.toArray_toList];omega));refine gn ⟨_,rfl,?_⟩;have e:acc.toList.toArray=acc:=by simp
  rw[e];exact h g tk2 acc kp it
end
def Og:List V->Hp->VK->Prop:=λxs H Q=>∃j:Int,xs=[.int j]/\∀p,H p=none->Q (.ref p) (upd H p (.rng 0 j))
def Of:List V->Hp->VK->Prop:=λxs H Q=>∃i j:Int,xs=[.int i,.int j]/\∀p,H p=none->Q (.ref p) (upd H p (.rng i j))
def ND:List V->Hp->VK->Prop:=λxs H Q=>∃a lo hi,xs=[.ref a]/\H a=some (.rng lo hi)/\(-(2^62)<=lo/\lo<2^62/\-(2^62)<=hi/\hi<2^62)/\(hi-lo).toNat<=2^24/\∀p,H p=none->Q (.ref p) (upd H p (.lst (BM lo (hi-lo).toNat)))
def Ke:List V->Hp->VK->Prop:=λxs H Q=>∃a lo hi,xs=[.ref a]/\H a=some (.rng lo hi)/\(-(2^62)<=lo/\lo<2^62/\-(2^62)<=hi/\hi<2^62)/\(hi-lo).toNat<=2^24/\∀p,H p=none->Q (.ref p) (upd H p (.tup (BM lo (hi-lo).toNat)))
section
def call_rng1:CallR X (.type "range") Og:=by
 intro pins s σ H xs us Q I r h;obtain⟨j,rfl,q⟩:=h;obtain⟨u,rfl,t,rfl⟩:=BU r;exact call_range_1 ⟨.ref 59,_,I.laid (a:=59) (o:=.rng 0 j) (λb o e=>70 _ e) (gk _) ⟨_,_,_,87 _ rfl⟩,rfl,q _ (I.hok.fresh (gk _))⟩
def Lk:CallR X (.type "range") Of:=by
 intro pins s σ H xs us Q I r h;obtain⟨i,j,rfl,q⟩:=h;obtain⟨u,v,rfl,⟨t,rfl⟩,⟨t',rfl⟩⟩:=PX r;exact call_range_2 ⟨.ref 59,_,I.laid (a:=59) (o:=.rng i j) (λb o e=>70 _ e) (gk _) ⟨_,_,_,87 _ rfl⟩,rfl,q _ (I.hok.fresh (gk _))⟩
def Pu{lo hi:Int}:Builtin.Range.rangeSize lo hi 1=((hi-lo).toNat:Nat):=by rw[rangeSize_one];split<;>omega
def GV{lo:Int}{n:Nat}(it:ItemsOf (λi v=>∃t,v=.int (lo+i*1) t) acc n):Vals (BM lo n) acc.toList:=Ji (by simpa using it.1) λj v q=>it.2 j v (by simpa using q)
def Qx(hc:X.calm=true):CallR X (.type "list") ND:=by
 intro pins s σ H xs us Q I r h;obtain⟨a,lo,hi,rfl,ha,⟨b1,b2,b3,b4⟩,hz,q⟩:=h;obtain⟨u,rfl,ru⟩:=BU r;cases ru;obtain⟨t,u,v,hr⟩:∃t u v,s.heap.get? a=some { cls:=.type "range",data:=.fields #[.int lo t,.int hi u,.int 1 v] }:=I.hok a _ ha;refine call_list_range (I.ok.hd hc) hr (small_one b1 b2 b3 b4) Pu hz λg tk acc c' kp e it=>?_;exact⟨.ref 59,_,I.laid (t':=tk) (o:=.lst _) kp (gk _) ⟨by rw[Jj,ip];omega,acc.toList,c',GV it,by simpa using e⟩,rfl,q _ (I.hok.fresh (gk _))⟩
def OP(hc:X.calm=true):CallR X (.type "tuple") Ke:=by
 intro pins s σ H xs us Q I r h;obtain⟨a,lo,hi,rfl,ha,⟨b1,b2,b3,b4⟩,hz,q⟩:=h;obtain⟨u,rfl,ru⟩:=BU r;cases ru;obtain⟨t,u,v,hr⟩:∃t u v,s.heap.get? a=some { cls:=.type "range",data:=.fields #[.int lo t,.int hi u,.int 1 v] }:=I.hok a _ ha;refine callType_new F.called_tuple 97 (F.typeCall_tuple_1 _) (F.newCall_tuple_1 _) (λobj=>F.args_object_init_2 obj _) F.entry_tuple_new (Mb a lo hi 1 t u v _ (small_one b1 b2 b3 b4) Pu hz)
  ⟨I.ok.hd hc,hr,λg tk acc kp it=>⟨⟨_,87 _ rfl,rfl⟩,?_⟩⟩
 have I1:Inv X pins σ H { s with heap:=g,toks:=tk }:=I.kept kp;exact⟨.ref g.objs.size,_,I1.laid (t':=tk) (o:=.tup (BM lo (hi-lo).toNat)) (λb o e=>70 _ e) (gk _) ⟨by rw[Jj,ip];omega,acc.toList,GV it,⟨_,87 _ rfl,rfl,⟨0,by simp⟩,rfl⟩⟩,rfl,q _ (I1.hok.fresh (gk _))⟩
end
section
variable{K:Frag}
open Classical in
noncomputable def HM(m:MA):MA:=λls hd=>(m ls hd).bind λp=>match p.1 with
 |[.im (.int j)]=>if Ht j then some (Ah 0 j.toNat,p.2)else none
 |[.im (.int i),.im (.int j)]=>if Vx i j then some (Ah i (j-i).toNat,p.2)else none
 |_=>none
def Jn:List V->Hp->VK->Prop:=λxs H Q=>Og xs H Q∨Of xs H Q
def UJ(h:RA K t m):RN K (tCB ND (Be (tCB Jn t) C5)) (HM m):=by
 and_intros;obtain⟨⟨d1,h1⟩,e1,hm⟩:=gW hm;dsimp only at hm;refine h ρ σ H hd ls _ d1 h1 hR hL e1 λρ1 H1 v x1 R1 r1=>?_;split at hm
 .next j=>
  split at hm
  .next c=>
   have c:j<2^24/\-(2^62)<=j:=c;cases hm;simp only[RDs,RD,RI]at r1;obtain⟨x,r,rfl,rfl,rfl⟩:=r1;refine .inl ⟨j,rfl,λp hp=>⟨p,0,j,rfl,AG,⟨by decide,by decide,c.2,by omega⟩,by omega,λl hl=>?_⟩⟩;obtain⟨R2,x2⟩:=R1.hid (ho:=.rng 0 j) hp;obtain⟨R3,x3⟩:=R2.hid (ho:=.lst (BM 0 (j-0).toNat)) hl;refine hQ ρ1 _ l (BM 0 (j-0).toNat) ((85).trans R2 x3) R3 ((85).none hR hl R2) (R2.out hl) AG ?_;rw[Int.sub_zero];exact GP 0 _
  .cases hm
 .next i j=>
  split at hm
  .next c=>
   cases hm;simp only[RDs,RD,RI]at r1;obtain⟨x,r,rfl,rfl,y,r2,rfl,rfl,rfl⟩:=r1;refine .inr ⟨i,j,rfl,λp hp=>⟨p,i,j,rfl,AG,⟨c.1.1,c.1.2,c.2.1.1,c.2.1.2⟩,c.2.2,λl hl=>?_⟩⟩;obtain⟨R2,x2⟩:=R1.hid (ho:=.rng i j) hp;obtain⟨R3,x3⟩:=R2.hid (ho:=.lst (BM i (j-i).toNat)) hl;exact hQ ρ1 _ l (BM i (j-i).toNat) ((85).trans R2 x3) R3 ((85).none hR hl R2) (R2.out hl) AG (GP i _)
  .cases hm
 .cases hm
noncomputable def Js(m:MA):ME:=λls hd=>(HM m ls hd).bind λp=>some (Au p.1,p.2)
def XI(h:RA K t m):RE K (tCB Ke (Be (tCB Jn t) C5)) (Js m):=by
 and_intros;obtain⟨⟨dd,h0⟩,e0,hm⟩:=gW hm;cases hm;obtain⟨⟨d1,h1⟩,e1,hm⟩:=gW e0;dsimp only at hm;refine h ρ σ H hd ls _ d1 h1 hR hL e1 λρ1 H1 v x1 R1 r1=>?_;split at hm
 .next j=>
  split at hm
  .next c=>
   have c:j<2^24/\-(2^62)<=j:=c;cases hm;simp only[RDs,RD,RI]at r1;obtain⟨x,r,rfl,rfl,rfl⟩:=r1;refine .inl ⟨j,rfl,λp hp=>⟨p,0,j,rfl,AG,⟨by decide,by decide,c.2,by omega⟩,by omega,λl hl=>?_⟩⟩;obtain⟨R2,x2⟩:=R1.hid (ho:=.rng 0 j) hp;obtain⟨R3,x3⟩:=R2.hid (ho:=.tup (BM 0 (j-0).toNat)) hl;refine hQ ρ1 _ _ ((85).trans R2 x3) R3 (Co (SqT.of AG) ?_);rw[Int.sub_zero];exact GP 0 _
  .cases hm
 .next i j=>
  split at hm
  .next c=>
   cases hm;simp only[RDs,RD,RI]at r1;obtain⟨x,r,rfl,rfl,y,r2,rfl,rfl,rfl⟩:=r1;refine .inr ⟨i,j,rfl,λp hp=>⟨p,i,j,rfl,AG,⟨c.1.1,c.1.2,c.2.1.1,c.2.1.2⟩,c.2.2,λl hl=>?_⟩⟩;obtain⟨R2,x2⟩:=R1.hid (ho:=.rng i j) hp;obtain⟨R3,x3⟩:=R2.hid (ho:=.tup (BM i (j-i).toNat)) hl;exact hQ ρ1 _ _ ((85).trans R2 x3) R3 (Co (SqT.of AG) (GP i _))
  .cases hm
 .cases hm
def D2:∀{xs ys:92},xs.Perm ys->xs.Pairwise (·<=·)->ys.Pairwise (·<=·)->xs=ys:=λ{xs ys} p a b=>
 p.eq_of_pairwise (le:=(·<=·)) (λ_ _ _ _ h1 h2=>j8 h1 h2) a b
noncomputable def AY(xs:92):List Int:=xs.mergeSort (λa b=>decide (a<=b))
def By(xs:92):(AY xs).Perm xs:=List.mergeSort_perm ..
def Cn(xs:92):(AY xs).Pairwise (·<=·):=by
 have:=List.pairwise_mergeSort (le:=λa b:Int=>decide (a<=b)) (by intro a b c h1 h2;simp at *;omega) (by intro a b;simp;omega) xs;exact this.imp 71
noncomputable def Bu(m:MI):MA:=λls hd=>(m ls hd).bind λp=>(B1 p.1.1).bind λns=>if ns.length<64 then some ((AY ns).map λi=>.im (.int i),p.2)else none
def Px(h:RRw K false t m):RN K (tCB (Kf K) (Be t C5)) (Bu m):=by
 and_intros;obtain⟨⟨⟨d1,g1⟩,h1⟩,e1,hm⟩:=gW hm;obtain⟨ns,e2,hm⟩:=gW hm;split at hm
 .next c=>
  cases hm;refine h ρ σ H hd ls _ d1 g1 _ hR hL e1 λρ1 H1 a x1 R1 G1 S1=>?_;obtain⟨xs,q,r⟩:=S1 ρ1 H1 _ .refl R1 G1;have e3:d1=ns.map λi=>.im (.int i):=C7 e2;rw[e3]at r;have:=DX r;subst this;refine⟨a,ns,rfl,q,c,λp ns' hp pm pw=>?_⟩;have:ns'=AY ns:=D2 (pm.trans (By ns).symm) pw (Cn ns);subst this;obtain⟨R2,x2⟩:=R1.hid (ho:=.lst ((AY ns).map V.int)) hp;exact hQ ρ1 _ p _ 85 R2 (x1.none hR hp R1) (R1.out hp) AG E7
 .cases hm
end
section
variable(K:Frag){X:Cx}{b:Expr}{ta tb:TE}{me:ME}
def Uj(hm:X.mg "list"=none)(hm2:X.mg "range"=none)(ha:QA K X (a::es) t m)(hc:X.calm=true:=by rfl)(hg:Gl X "list":=by rfl)(hg2:Gl X "range":=by rfl)(he2:starEach (a::es) X.env=(false,eval a X.env)::starEach es X.env:=by rfl)(hpl:(backTo pos2 (starEach es X.env)).any (·.1)=false:=by rfl)
 (he:starEach [.Call (.Name "range" p2) (a::es) [] pos2] X.env=[(false,eval (.Call (.Name "range" p2) (a::es) [] pos2) X.env)]:=by rfl):
 QN K X (.Call (.Name "list" p) [.Call (.Name "range" p2) (a::es) [] pos2] [] pos) (tCB ND (Be (tCB Jn t) C5)) (HM m):=
 ⟨Cq (Qx hc) hg hm PK (CB (Cq (call_rng1.or Lk) hg2 hm2 boot_range ha.p 97 97 he2 hpl) Cr he) 97 97 he rfl,UJ ha.r⟩
def Xw(hm:X.mg "tuple"=none)(hm2:X.mg "range"=none)(ha:QA K X (a::es) t m)(hc:X.calm=true:=by rfl)(hg:Gl X "tuple":=by rfl)(hg2:Gl X "range":=by rfl)(he2:starEach (a::es) X.env=(false,eval a X.env)::starEach es X.env:=by rfl)(hpl:(backTo pos2 (starEach es X.env)).any (·.1)=false:=by rfl)
 (he:starEach [.Call (.Name "range" p2) (a::es) [] pos2] X.env=[(false,eval (.Call (.Name "range" p2) (a::es) [] pos2) X.env)]:=by rfl):
 QE K X (.Call (.Name "tuple" p) [.Call (.Name "range" p2) (a::es) [] pos2] [] pos) (tCB Ke (Be (tCB Jn t) C5)) (Js m):=
 ⟨Cq (OP hc) hg hm bt_tuple (CB (Cq (call_rng1.or Lk) hg2 hm2 boot_range ha.p 97 97 he2 hpl) Cr he) 97 97 he rfl,XI ha.r⟩
def QC(hm:X.mg "sorted"=none)(ha:QR K false X e te mi)(hg:Gl X "sorted":=by rfl)(he:starEach [e] X.env=[(false,eval e X.env)]:=by rfl)(hK:X.K=K:=by rfl):QN K X (.Call (.Name "sorted" p) [e] [] pos) (tCB (Kf K) (Be te C5)) (Bu mi):=
 ⟨F7 (Nw K hK) hg hm FV (CB ha.p Cr he) 97 97 he rfl,Px ha.r⟩
end
end L2
namespace L2
structure BltA(mg:PySem.Str->Option PySem.Value):Prop where
 list:mg "list"=none
 tuple:mg "tuple"=none
 len:mg "len"=none
 range:mg "range"=none
 repr:mg "repr"=none
 sum:mg "sum"=none
 min:mg "min"=none
 max:mg "max"=none
 abs:mg "abs"=none
 all:mg "all"=none
 any:mg "any"=none
 sorted:mg "sorted"=none
 zip:mg "zip"=none
 isinstance:mg "isinstance"=none
 int:mg "int"=none
 bool:mg "bool"=none
 str:mg "str"=none
 set:mg "set"=none
 enumerate:mg "enumerate"=none
 reversed:mg "reversed"=none
 dict:mg "dict"=none
end L2
namespace L2
open PySem PySem.Spec PyProof.Rows
section
variable{ls:Ls}{hd:Hd}{a b c:MS}{ma mb mc:ME}{ta tb:MT}{m m1 m2:MA}{n:MG}{ns:MGs}{d e:D}
@[simp] theorem K4:A5 a b ls hd=(a ls hd).bind λp=>match p.1 with
 |.nx ls1=>b ls1 p.2
 |f=>some (f,p.2):=rfl
@[simp] theorem P6:AU ls hd=some (.nx ls,hd):=rfl
@[simp] theorem Yy:B0 ma ls hd=(ma ls hd).bind λp=>some (.nx ls,p.2):=rfl
@[simp] theorem Sy:AQ ma ls hd=(ma ls hd).bind λp=>some (.rt p.1,p.2):=rfl
@[simp] theorem Ni:Aa ta a b ls hd=(ta ls hd).bind λp=>if p.1=true then a ls p.2 else b ls p.2:=rfl
@[simp] theorem K6:GU ma n ls hd=(ma ls hd).bind λp=>(n p.1 ls p.2).map λls'=>(.nx ls',p.2):=rfl
@[simp] theorem Kx(i:Nat):AA i d ls hd=some (ls.set i (some d)):=rfl
@[simp] theorem fS(k:Nat):BO k ns d ls hd=(AX d).bind λds=>if 83=k then ns ds ls hd else none:=rfl
@[simp] theorem fC(d:D)(ds:List D):AT n ns (d::ds) ls hd=(n d ls hd).bind λls1=>ns ds ls1 hd:=rfl
@[simp] theorem fU:BR [] ls hd=some ls:=rfl
@[simp] theorem Ds(i:Nat):A0 i ls hd=match ls[i]? with
 |some (some d)=>some (d,hd)
 |_=>none:=rfl
@[simp] theorem gR(i:I):mC i ls hd=some (.im i,hd):=rfl
@[simp] theorem MN(f:D->D->Hd->Option (D×Hd)):mOp f ma mb ls hd=(ma ls hd).bind λp=>(mb ls p.2).bind λq=>f p.1 q.1 q.2:=rfl
@[simp] theorem Nk:Bj ta tb ls hd=(ta ls hd).bind λp=>if p.1=true then tb ls p.2 else some (false,p.2):=rfl
@[simp] theorem gJ:mOr ta tb ls hd=(ta ls hd).bind λp=>if p.1=true then some (true,p.2)else tb ls p.2:=rfl
@[simp] theorem fh:HN ta ls hd=(ta ls hd).bind λp=>some (!p.1,p.2):=rfl
@[simp] theorem K3:DT ma ls hd=(ma ls hd).bind λp=>(CH p.2 p.1).map (·,p.2):=rfl
@[simp] theorem II:A8 ma ls hd=(ma ls hd).bind λp=>match p.1 with
 |.im (.bl b)=>some (b,p.2)
 |_=>none:=rfl
@[simp] theorem gK:mIf ta ma mb ls hd=(ta ls hd).bind λp=>if p.1=true then ma ls p.2 else mb ls p.2:=rfl
@[simp] theorem fY:IA ma mb ls hd=(A8 ma ls hd).bind λp=>if p.1=true then mb ls p.2 else some (.im (.bl false),p.2):=rfl
@[simp] theorem fT:I0 ma ls hd=(A8 ma ls hd).bind λp=>some (.im (.bl (!p.1)),p.2):=rfl
@[simp] theorem K5:A4 ls hd=some ([],hd):=rfl
@[simp] theorem Kz:A1 ma m ls hd=(ma ls hd).bind λp=>(m ls p.2).bind λq=>some (p.1::q.1,q.2):=rfl
open Classical in
@[simp] theorem cL:Ae m ls hd=(m ls hd).bind λp=>if Bh p.1.length then some (Au p.1,p.2)else none:=rfl
open Classical in
@[simp] theorem cQ:Ac m ls hd=(m ls hd).bind λp=>if Bh p.1.length then some (p.1,p.2)else none:=rfl
@[simp] theorem cO:AV m ls hd=(m ls hd).bind λp=>some (.mu p.2.length,p.2++[.lst p.1]):=rfl
@[simp] theorem cP:C6 ma ls hd=(ma ls hd).bind λp=>match p.1 with
 |.im (.int i)=>some (.im (.int (-i)),p.2)
 |_=>none:=rfl
@[simp] theorem fj(neg:Bool):FY neg ma ls hd=(ma ls hd).bind λp=>some (.im (.bl (match p.1 with
 |.im .non=>!neg
 | _=>neg)),p.2):=rfl
@[simp] theorem gL(g:Int->Int->Option I)(i j:Int):fI g (.im (.int i)) (.im (.int j)) hd=(g i j).map (.im ·,hd):=rfl
@[simp] theorem Ky(f g:D->D->Hd->Option (D×Hd)):IH f g d e hd=match f d e hd with
 |some z=>some z
 |none=>g d e hd:=rfl
@[simp] theorem Nj(neg:Bool)(i j:Int):Fb neg (.im (.int i)) (.im (.int j)) hd=some (.im (.bl (if neg then !decide (i=j)else decide (i=j))),hd):=by
 have q:Mw (.int i) (.int j)=true:=rfl;simp[Fb,scI,q]
@[simp] theorem fm(neg:Bool)(i j:Str):Fb neg (.im (.str i)) (.im (.str j)) hd=some (.im (.bl (if neg then !decide (i=j)else decide (i=j))),hd):=by
 have q:Mw (.str i) (.str j)=true:=rfl;simp[Fb,scI,q]
@[simp] theorem WQ(i:Int):gIx d (.im (.int i)) hd=(Az hd d).bind λds=>(atI ds i).map (·,hd):=rfl
@[simp] theorem Z0:CL d e hd=(CD hd d).bind λkvs=>(Cu e).bind λk=>(BQ kvs k).map (·,hd):=rfl
@[simp] theorem gM(f:List D->Hd->Option (D×Hd)):mCB f m ls hd=(m ls hd).bind λp=>f p.1 p.2:=rfl
@[simp] theorem eB(tp:Bool)(g:List D->Option D):f1 tp g [d] hd=((if tp then Az hd d else Ak hd d)).bind λds=>(g ds).map (·,hd):=rfl
@[simp] theorem T0(g:List D->Option D):B7 g m ls hd=(m ls hd).bind λp=>(g p.1).map (·,p.2):=rfl
@[simp] theorem Qm(f:D->List D->Hd->Option (D×Hd)):mMt f ma m ls hd=(ma ls hd).bind λp=>match Ak p.2 p.1 with
 |some _=>(m ls p.2).bind λq=>f p.1 q.1 q.2
 |none=>none:=rfl
@[simp] theorem fW(i j:Int):Dr [.im (.int i),.im (.int j)] hd=some (.im (.int (if j>i then j else i)),hd):=rfl
@[simp] theorem fV(i j:Int):Gc [.im (.int i),.im (.int j)] hd=some (.im (.int (if j<i then j else i)),hd):=rfl
@[simp] theorem cR:GT m ma ls hd=(m ls hd).bind λp=>(ma ls p.2).bind λq=>match q.1 with
 |.im (.int i)=>(atI p.1 i).map (·,q.2)
 |_=>none:=rfl
@[simp] theorem cS:B5 ma ls hd=(ma ls hd).bind λp=>(AX p.1).map λds=>((ds,[]),p.2):=rfl
@[simp] theorem cU:Km m ls hd=(m ls hd).map λp=>((p.1,[]),p.2):=rfl
@[simp] theorem Sz:BJ ma ls hd=(ma ls hd).bind λp=>match p.1 with
 |.mu n=>match p.2[n]? with
  |some (.lst ds)=>some ((ds,[(n,ds)]),p.2)
  |_=>none
 |.ro ns=>some ((ns.map λn=>.im (.int n),[]),p.2)
 |_=>none:=rfl
open Classical in
@[simp] theorem cT:Bo m ls hd=(m ls hd).bind λp=>match p.1 with
 |[.im (.int j)]=>if GN j then some ((Ah 0 j.toNat,[]),p.2)else none
 |_=>none:=rfl
@[simp] theorem cV(mi:MI):BC mi n a ls hd=(mi ls hd).bind λp=>Bg n a p.1.2 p.1.1 ls p.2:=rfl
open Classical in
@[simp] theorem fX(k:Nat)(ix:77)(mi:MI):AW k ix mi n ta ma ls hd=(mi ls hd).bind λp=>if Bh p.1.1.length then CC n ta ma p.1.2 p.1.1 (Dw k ix ls) p.2 else none:=rfl
@[simp] theorem fe:BS ls hd=some (true,hd):=rfl
@[simp] theorem fE(F:List D->Hd->Option (D×Hd)):Bp F m ls hd=(m ls hd).bind λp=>F p.1 p.2:=rfl
@[simp] theorem eP:E5 ls hd=some (none,hd):=rfl
@[simp] theorem Yw:GR ma ls hd=(ma ls hd).bind λp=>match p.1 with
 |.im (.int i)=>some (some i,p.2)
 |_=>none:=rfl
@[simp] theorem fD:HP m ls hd=m ls hd:=rfl
@[simp] theorem fg(ml mh:MO1):Kl ma ml mh ls hd=(ma ls hd).bind λp=>(ml ls p.2).bind λl=>(mh ls l.2).bind λh=>(Ak h.2 p.1).bind λds=>some (Eb ds l.1 h.1,h.2):=rfl
@[simp] theorem cM(ml mh:MO1):Kk ma ml mh ls hd=(ma ls hd).bind λp=>(ml ls p.2).bind λl=>(mh ls l.2).bind λh=>(AX p.1).bind λds=>if ¬ (HT.sIx 83 0 l.1=0/\HT.sIx 83 83 h.1=83)then some (Au (Eb ds l.1 h.1),h.2)else none:=rfl
@[simp] theorem fR:Js m ls hd=(HM m ls hd).bind λp=>some (Au p.1,p.2):=rfl
open Classical in
@[simp] theorem cN:HM m ls hd=(m ls hd).bind λp=>match p.1 with
 |[.im (.int j)]=>if Ht j then some (Ah 0 j.toNat,p.2)else none
 |[.im (.int i),.im (.int j)]=>if Vx i j then some (Ah i (j-i).toNat,p.2)else none
 |_=>none:=rfl
@[simp] theorem Sw(mi:MI):Bu mi ls hd=(mi ls hd).bind λp=>(B1 p.1.1).bind λns=>if ns.length<64 then some ((AY ns).map λi=>.im (.int i),p.2)else none:=rfl
open Classical in
@[simp] theorem Yz:Ej ma mb mc ls hd=(mc ls hd).bind λp=>(ma ls p.2).bind λq=>(mb ls q.2).bind λr=>(Cu r.1).bind λk=>match q.1 with
 |.mu n=>match r.2[n]? with
  |some (.dic kvs)=>if Dq kvs.length then some (.nx ls,r.2.set n (.dic (DS kvs k p.1)))else none
  |_=>none
 |_=>none:=rfl
@[simp] theorem Yx:C8 ma mb mc ls hd=(mc ls hd).bind λp=>(ma ls p.2).bind λq=>(mb ls q.2).bind λr=>match q.1,r.1 with
 |.mu n,.im (.int i)=>match r.2[n]? with
  |some (.lst ds)=>(ixN 83 i).map λj=>(.nx ls,r.2.set n (.lst (ds.set j p.1)))
  |_=>none
 |_,_=>none:=rfl
@[simp] theorem fZ(is:List I):AX (.im (.tup is))=some (is.map .im):=rfl
@[simp] theorem fw(ds:List D):AX (.tm ds)=some ds:=rfl
@[simp] theorem gA(k:Nat):AX (.mu k)=none:=rfl
@[simp] theorem fz(k:92):AX (.ro k)=none:=rfl
@[simp] theorem Cm(is:List I):Az hd (.im (.tup is))=some (is.map .im):=rfl
@[simp] theorem gB(ds:List D):Az hd (.tm ds)=some ds:=rfl
@[simp] theorem Vt(k:Nat):Az hd (.mu k)=Ak hd (.mu k):=rfl
@[simp] theorem gD(k:92):Az hd (.ro k)=some (k.map λn=>.im (.int n)):=rfl
@[simp] theorem IB(k:Nat):Ak hd (.mu k)=match hd[k]? with
 |some (.lst ds)=>some ds
 |_=>none:=rfl
@[simp] theorem gE(k:92):Ak hd (.ro k)=some (k.map λn=>.im (.int n)):=rfl
@[simp] theorem gN(k:Nat):CD hd (.mu k)=match hd[k]? with
 |some (.dic ds)=>some ds
 |_=>none:=rfl
@[simp] theorem gG(i:Int):Cu (.im (.int i))=some (.inl i):=rfl
@[simp] theorem gF(i:Str):Cu (.im (.str i))=some (.inr i):=rfl
@[simp] theorem fu:B2 []=some []:=rfl
@[simp] theorem gP(i:I)(r:List D):B2 (.im i::r)=(B2 r).map (i::·):=rfl
@[simp] theorem fb:B1 []=some []:=rfl
@[simp] theorem fc(i:Int)(r:List D):B1 (.im (.int i)::r)=(B1 r).map (i::·):=rfl
@[simp] theorem ft:CO []=some []:=rfl
@[simp] theorem gO(i:Bool)(r:List D):CO (.im (.bl i)::r)=(CO r).map (i::·):=rfl
@[simp] theorem BX(is:List I):Au (is.map .im)=.im (.tup is):=by simp[Au]
@[simp] theorem eO:Au []=.im (.tup []):=rfl
@[simp] theorem Oo(i:I):Au [.im i]=.im (.tup [i]):=rfl
@[simp] theorem G0(i j:I):Au [.im i,.im j]=.im (.tup [i,j]):=rfl
@[simp] theorem Fz(i j k:I):Au [.im i,.im j,.im k]=.im (.tup [i,j,k]):=rfl
@[simp] theorem fQ(i j k l:I):Au [.im i,.im j,.im k,.im l]=.im (.tup [i,j,k,l]):=rfl
@[simp] theorem fq(w:Nat)(i:I):clD w (.im i)=true:=by simp[clD]
@[simp] theorem fo(w n:Nat):clD w (.mu n)=decide (n<w):=by simp[clD]
@[simp] theorem fH(w:Nat):Aw w []=true:=by simp[Aw]
@[simp] theorem TC(w:Nat)(d:D)(ds:List D):Aw w (d::ds)=(clD w d&&Aw w ds):=by simp[Aw]
@[simp] theorem Bc{α:Type}(x:α)(r:List α):atI (x::r) 0=some x:=BH (j:=0) rfl
@[simp] theorem DC{α:Type}(x y:α)(r:List α):atI (x::y::r) 1=some y:=BH (j:=1) rfl
@[simp] theorem E8{α:Type}(x y z:α)(r:List α):atI (x::y::z::r) 2=some z:=BH (j:=2) rfl
def L9{α:Type}{xs:List α}{i:Int}{k:Nat}{x:α}(hi:i=k)(h:xs[k]?=some x):atI xs i=some x:=by subst hi;exact BH h
@[simp] theorem CW:Bh 0:=AO 97
@[simp] theorem DI:Bh 1:=AO 97
@[simp] theorem Cy:Bh 2:=AO 97
@[simp] theorem C0:Bh 3:=AO 97
@[simp] theorem Nf:Bh 4:=AO 97
@[simp] theorem Nd:Bh 5:=AO 97
open Classical in
@[simp] theorem T1(k:Nat)(x:D):Ad (.mu k) [x] hd=match hd[k]? with
 |some (.lst ds)=>if Dq 83 then some (.im .non,hd.set k (.lst (ds++[x])))else none
 |_=>none:=rfl
def Hk{F:List D->Hd->Option (D×Hd)}(h1:m ls hd=some (ds,hd1))(hc:Aw 0 ds=true)(hF:F ds []=some (.im i,h2)):AD 0 F m ls hd=some (.im i,hd1):=by
 simp[AD,h1,hc,hF,fin]
def O0{w:Nat}{F:List D->Hd->Option (D×Hd)}{pre pre' rest:Hd}(hw:pre.length=w)(hw':pre'.length=w)(h1:m ls hd=some (ds,pre++rest))(hc:Aw w ds=true)(hp:pre.all (clO w)=true)(hp':pre'.all (clO w)=true)(hF:F ds pre=some (.im i,pre'++g)):AD w F m ls hd=some (.im i,pre'++rest):=by
 subst hw;have e1:(pre++rest).take pre.length=pre:=by simp
 have e2:(pre'++g).take pre.length=pre':=by rw[<- hw'];simp
 simp only[AD,h1,bind_some,e1,hc,hp,hF,fin,e2,hp'];simp
end
def NS:Bg n b g [] ls hd=some (.nx ls,hd):=by unfold Bg;rfl
def HU(h1:n d ls hd=some ls1)(h2:b ls1 hd=some (.nx ls2,hd2))(h3:GOk hd2 g):Bg n b g (d::r) ls hd=Bg n b g r ls2 hd2:=by
 conv=>lhs;unfold Bg
 simp[h1,h2,h3]
def VN(h1:n d ls hd=some ls1)(h2:b ls1 hd=some (.rt v,hd2)):Bg n b g (d::r) ls hd=some (.rt v,hd2):=by
 conv=>lhs;unfold Bg
 simp[h1,h2]
section
variable{K:Frag}
def Yu(G:GOk h g)(r:Hd):GOk (h++r) g:=λp hp=>by
 have:=G p hp;have hl:p.1<h.length:=(75 this).1;rw[List.getElem?_append_left hl];exact this
end
open Classical in
noncomputable def EX(ma mb:ME):MA:=λls hd=>(ma ls hd).bind λp=>(mb ls p.2).bind λq=>match p.1,q.1 with
 |.mu i,.mu j=>match q.2[i]?,q.2[j]? with
  |some (.lst xs),some (.lst ys)=>if Bh (88+ys.length)then some (xs++ys,q.2)else none
  |_,_=>none
 |_,_=>none
def ZY{K:Frag}(ha:RE K ta ma)(hb:RE K tb mb):RN K (tOp Ub ta tb) (EX ma mb):=by
 and_intros;obtain⟨⟨d1,h1⟩,e1,hm⟩:=gW hm;obtain⟨⟨d2,h2⟩,e2,hm⟩:=gW hm;dsimp only at hm;split at hm
 .next i j=>
  split at hm
  .next xs ys q1 q2=>
   split at hm
   .next c=>
    cases hm;refine ha ρ σ H hd ls _ _ h1 hR hL e1 λρ1 H1 v x1 R1 r1=>?_;refine hb ρ1 σ H1 h1 ls _ _ _ R1 (hL.ext hR x1) e2 λρ2 H2 u x2 R2 r2=>?_;have r1':=r1.ext R1 x2;simp only[RD]at r1' r2;obtain⟨a,ka,rfl⟩:=r1';obtain⟨b,kb,rfl⟩:=r2;obtain⟨vs,f1,f2⟩:=R2.lst ka q1;obtain⟨us,f3,f4⟩:=R2.lst kb q2;refine⟨a,b,vs,us,rfl,rfl,f1,f3,by rw[f2.len,f4.len];exact c,λp hp=>?_⟩;obtain⟨R3,x3⟩:=R2.hid (ho:=.lst (vs++us)) hp;have x12:=x1.trans R1 x2;exact hQ ρ2 _ p _ (x12.trans R2 x3) R3 (x12.none hR hp R2) (R2.out hp) AG ((f2.app f4).ext R2 x3)
   .cases hm
  .cases hm
 .cases hm
def aR(K:Frag)(ha:QE K X a ta ma)(hb:QE K X b tb mb):QN K X (.BinOp a .Add b pos) (tOp Ub ta tb) (EX ma mb):=⟨QJ bY ha.p hb.p,ZY ha.r hb.r⟩
end L2
namespace L2
open PySem PySem.Spec PyProof.Rows PySem.W
section
variable(r:72)(n:Nat)
def PWp{α:Type}:KasT α->(α->Prop)->Prop
 |.ret a,Q=>Q a
 |.ask i j k,Q=>i<n/\j<n/\PWp (k (decide (r i<r j))) Q
noncomputable def kv(p:Array Nat)(i:Nat):Int:=r (p.getD i 0)
def STo(p:Array Nat)(m:Nat):Prop:=∀i j,i<=j->j<m->kv r p i<=kv r p j
def DTo(p:Array Nat)(m:Nat):Prop:=∀i j,i<=j->j<m->kv r p j<=kv r p i
def EqL(p:Array Nat)(m q:Nat):Prop:=∀k,m-(q+1)<=k->k<m->kv r p k=kv r p (m-1)
def PAr(p:Array Nat):Prop:=p.Perm (68 n).toArray
end
section
variable{r:72}{n:Nat}
theorem PWp.bind{α β:Type}{f:α->KasT β}{Q:β->Prop}:∀{t:KasT α},PWp r n t (λa=>PWp r n (f a) Q)->PWp r n (t.bind f) Q
 |.ret _,h=>h
 |.ask i j k,h=>⟨h.1,h.2.1,PWp.bind h.2.2⟩
theorem PWp.mono{α:Type}{Q Q':α->Prop}:∀{t:KasT α},PWp r n t Q->(∀a,Q a->Q' a)->PWp r n t Q'
 |.ret _,h,q=>q _ h
 |.ask i j k,h,q=>⟨h.1,h.2.1,PWp.mono h.2.2 q⟩
theorem PWp.wp{α:Type}{cmp:Nat->Nat->(Bool->Shared->Prop)->Shared->Prop}{P:Shared->Prop}{Q:α->Shared->Prop}(hc:∀i j C s,i<n->j<n->P s->(∀s',P s'->C (decide (r i<r j)) s')->cmp i j C s):∀{t:KasT α} {s:96},PWp r n t (λa=>∀s,P s->Q a s)->P s->t.kasWp cmp Q s
 |.ret _,s,h,p=>h s p
 |.ask i j k,s,h,p=>hc i j _ s h.1 h.2.1 p λs' p'=>PWp.wp hc h.2.2 p'
theorem PAr.size(h:PAr n p):p.size=n:=by have:=h.size_eq;simpa using this
def PAr.lt(h:PAr n p){i:Nat}(hi:i<n):p.getD i 0<n:=by
 have hs:=h.size;have hi':i<p.size:=by omega
 have:p[i]∈(68 n).toArray:=h.mem_iff.mp (Array.getElem_mem hi');have e:p.getD i 0=p[i]:=by simp[Array.getD,hi']
 rw[e];simpa using this
def Jy{p:Array Nat}{i j:Nat}(hj:j<=p.size)(k:Nat):kv r (kas_rev p i j) k=if i<=k/\k<j then kv r p (i+j-1-k)else kv r p k:=by
 unfold kv kas_rev;simp only[Array.getD_eq_getD_getElem?];rw[getElem?_mirror_all hj];split<;>rfl
def PAr.rev(h:PAr n p)(i j:Nat):PAr n (kas_rev p i j):=(mirror_perm _ _ _ _).trans h
def Ou{p:Array Nat}{m q:Nat}(hj:m<=p.size)(hq:q+1<=m)(h:EqL r p m q)(k:Nat):kv r (kas_rev p (m-(q+1)) m) k=kv r p k:=by
 rw[Jy hj];split
 .next c=>rw[h _ 66 66,h k c.1 c.2]
 .rfl
theorem O2(pa:PAr n p):∀(f m:Nat),1<=m->m+f<=n->STo r p m->PWp r n (kas_asc p f m) λm'=>m<=m'/\m'<=m+f/\STo r p m'/\(m'<m+f->kv r p m'<kv r p (m'-1))
 |0,m,h1,hn,hs=>⟨gk _,gk _,hs,λh=>by omega⟩
 |f+1,m,h1,hn,hs=>by
  refine⟨pa.lt 66,pa.lt 66,?_⟩;by_cases c:r (p.getD m 0)<r (p.getD (m-1) 0)
  .rw[iC c];exact⟨gk _,by omega,hs,λ_=>c⟩
  .rw[iA c];refine(O2 pa f (m+1) 66 66 ?_).mono λm' h=>⟨by omega,by omega,h.2.2.1,λz=>h.2.2.2 66⟩
   intro i j hij hj;by_cases e:j<m
   .exact hs i j hij e
   .have:j=m:=by omega
    subst this;by_cases e2:i=j
    .subst e2;exact 110 _
    .have:=hs i (j-1) 66 66;have:kv r p (j-1)<=kv r p j:=by unfold kv;omega
     omega
def JL{m:Nat}(h1:1<=m)(h:DTo r p m)(c:kv r p m<=kv r p (m-1)):DTo r p (m+1):=by
 intro i j hij hj;by_cases e:j<m
 .exact h i j hij e
 .have:j=m:=by omega
  subst this;by_cases e2:i=j
  .subst e2;exact 110 _
  .have:=h i (j-1) 66 66;omega
theorem IJ:∀(f:Nat) (p:Array Nat) (m q:Nat),PAr n p->1<=m->q+1<=m->m+f<=n->DTo r p m->EqL r p m q ->
 PWp r n (kas_desc f p m q) λz=>PAr n z.1/\m<=z.2.1/\z.2.1<=m+f/\DTo r z.1 z.2.1/\EqL r z.1 z.2.1 z.2.2/\z.2.2+1<=z.2.1
 |0,p,m,q,pa,h1,hq,hn,hd,he=>⟨pa,gk _,gk _,hd,he,hq⟩
 |f+1,p,m,q,pa,h1,hq,hn,hd,he=>by
  refine⟨pa.lt 66,pa.lt 66,?_⟩;have sz:=pa.size;by_cases c:r (p.getD m 0)<r (p.getD (m-1) 0)
  .rw[iC c];have c':kv r p m<=kv r p (m-1):=by unfold kv;omega
   dsimp only;rw[gb rfl];by_cases hq0:q>0
   .rw[gb hq0];have sm:=Ou (r:=r) (p:=p) (m:=m) (q:=q) 66 hq he;refine(IJ f _ (m+1) 0 (pa.rev _ _) 66 66 66 ?_ ?_).mono λz h=>⟨h.1,by omega,by omega,h.2.2.2⟩
    .have:=JL h1 hd c';intro i j a b;rw[sm,sm];exact this i j a b
    .intro k a b;have:k=m:=by omega
     subst this;rfl
   .rw[gh hq0];refine(IJ f p (m+1) 0 pa 66 66 66 (JL h1 hd c') ?_).mono λz h=>⟨h.1,by omega,by omega,h.2.2.2⟩
    intro k a b;have:k=m:=by omega
    subst this;rfl
  .rw[iA c];dsimp only;rw[gh Bool.false_ne_true];refine⟨pa.lt 66,pa.lt 66,?_⟩;by_cases d:r (p.getD (m-1) 0)<r (p.getD m 0)
   .rw[iC d];exact⟨pa,gk _,by show m<=m+(f+1);omega,hd,he,hq⟩
   .rw[iA d];dsimp only;rw[gh Bool.false_ne_true];have e:kv r p m=kv r p (m-1):=by unfold kv;omega
    refine(IJ f p (m+1) (q+1) pa 66 66 66 (JL h1 hd 66) ?_).mono λz h=>⟨h.1,by omega,by omega,h.2.2.2⟩
    intro k a b;by_cases e2:k=m
    .subst e2;rfl
    .have:=he k 66 66;have e3:m+1-1=m:=rfl;rw[e3];omega
def Run(z:Nat×Array Nat)(r:72)(n:Nat):Prop:=PAr n z.2/\1<=z.1/\z.1<=n/\STo r z.2 z.1
def Me{m:Nat}(pa:PAr n p)(h1:1<=m)(hn:m<=n)(hd:DTo r p m):PWp r n (kas_tail3 m n p) λz=>Run z r n:=by
 have sz:=pa.size;have st:STo r (kas_rev p 0 m) m:=by
  intro i j a b;rw[Jy 66,Jy 66,gb ⟨by omega,by omega⟩,gb ⟨by omega,by omega⟩];exact hd _ _ 66 66
 refine PWp.bind ((O2 (pa.rev 0 m) (n-m) m h1 66 st).mono λm' h=>?_);exact⟨pa.rev 0 m,by show 1<=m';omega,by show m'<=n;omega,h.2.2.1⟩
def IV{m:Nat}(pa:PAr n p)(hn:m+1<=n)(hd:DTo r p (m+1)):PWp r n (kas_descPart m n p) λz=>Run z r n:=by
 refine PWp.bind ((IJ (n-(m+1)) p (m+1) 0 pa 66 66 66 hd ?_).mono λz h=>?_)
 .intro k a b;have:k=m:=by omega
  subst this;rfl
 .obtain⟨a,b,c,d,e,g⟩:=h;have sz:=a.size;by_cases hq:z.2.2>0
  .rw[gb hq];have sm:=Ou (r:=r) (p:=z.1) (m:=z.2.1) (q:=z.2.2) 66 g e;exact Me (a.rev _ _) 66 66 λi j x y=>by rw[sm,sm];exact d i j x y
  .rw[gh hq];exact Me a 66 66 d
def Vh(h1:1<=n):PWp r n (kas_count n (List.toArray (68 n))) λz=>Run z r n:=by
 have pa:PAr n (68 n).toArray:=.refl _;have sz:=pa.size;refine PWp.bind ((O2 pa (n-1) 1 66 66 λi j a b=>?_).mono λm h=>?_)
 .have:i=j:=by omega
  subst this;exact 110 _
 .obtain⟨a,b,c,d⟩:=h;by_cases e:(m==n)=true
  .rw[gb e];have:m=n:=by simpa using e
   exact⟨pa,by show 1<=m;omega,by show m<=n;omega,c⟩
  .rw[gh e];have hne:m≠n:=by simpa using e
   have dd:=d 66;by_cases h2:m>1
   .rw[gb h2];refine⟨pa.lt 66,pa.lt 66,?_⟩;by_cases g:r ((68 n).toArray.getD 0 0)<r ((68 n).toArray.getD (m-1) 0)
    .rw[iC g];exact⟨pa,by show 1<=m;omega,by show m<=n;omega,c⟩
    .rw[iA g];dsimp only;rw[gh Bool.false_ne_true];have g':kv r (68 n).toArray (m-1)<=kv r (68 n).toArray 0:=by unfold kv;omega
     have eq:∀k,k<m->kv r (68 n).toArray k=kv r (68 n).toArray 0:=λk hk=>by
      have x1:=c 0 k 66 hk;have x2:=c k (m-1) 66 66;omega
     have rv:∀k,kv r (kas_rev (68 n).toArray 0 m) k=kv r (68 n).toArray k:=λk=>by
      rw[Jy 66];split
      .next z=>rw[eq _ 66,eq k z.2]
      .rfl
     refine IV (pa.rev 0 m) 66 λi j x y=>?_;rw[rv,rv];by_cases z:j<m
     .rw[eq i 66,eq j z];exact 110 _
     .have:j=m:=by omega
      subst this;by_cases z2:i=j
      .subst z2;exact 110 _
      .rw[eq i 66];have:=eq (j-1) 66;omega
   .rw[gh h2];have:m=1:=by omega
    subst this;refine IV pa 66 λi j x y=>?_;by_cases z:i=j
    .subst z;exact 110 _
    .have:i=0:=by omega
     have:j=1:=by omega
     subst i j;have:kv r (68 n).toArray 1<kv r (68 n).toArray 0:=dd;omega
theorem Ix{k:Nat}(pa:PAr n p)(hk:k<n)(hs:STo r p k):∀(f l q:Nat),l<=q->q<=k->q-l<=f->(∀i,i<l->kv r p i<=kv r p k)->(∀i,q<=i->i<k->kv r p k<kv r p i) ->
 PWp r n (kas_place p k f l q) λm=>m<=k/\(∀i,i<m->kv r p i<=kv r p k)/\∀i,m<=i->i<k->kv r p k<kv r p i
 |0,l,q,a,b,c,d,e=>⟨by omega,d,λi x y=>e i 66 y⟩
 |f+1,l,q,a,b,c,d,e=>by
  unfold kas_place;by_cases h:l>=q
  .rw[gb h];exact⟨by omega,d,λi x y=>e i 66 y⟩
  .rw[gh h];refine⟨pa.lt 66,pa.lt 66,?_⟩;by_cases g:r (p.getD k 0)<r (p.getD ((l+q)/2) 0)
   .rw[iC g];dsimp only;rw[gb rfl];have g':kv r p k<kv r p ((l+q)/2):=g;refine Ix pa hk hs f l ((l+q)/2) 66 66 66 d λi x y=>?_;have:=hs ((l+q)/2) i x y;omega
   .rw[iA g];dsimp only;rw[gh Bool.false_ne_true];have g':kv r p ((l+q)/2)<=kv r p k:=by unfold kv;omega
    refine Ix pa hk hs f ((l+q)/2+1) q 66 66 66 (λi x=>?_) e;have:=hs i ((l+q)/2) 66 66;omega
def LX{p:Array Nat}{k d:Nat}(hk:k<p.size)(hd:d<=k)(i:Nat):kv r (bubble p k d) i=if i=k-d then kv r p k else if k-d<i/\i<=k then kv r p (i-1)else kv r p i:=by
 unfold kv;simp only[Array.getD_eq_getD_getElem?];rw[getElem?_bubble hk d hd];split
 .rfl
 .split<;>rfl
theorem TN:∀(f:Nat) (p:Array Nat) (k:Nat),PAr n p->k+f=n->STo r p k->PWp r n (kas_bin f p k) λz=>PAr n z/\STo r z n
 | 0,p,k,pa,e,hs=>⟨pa,by
  have:k=n:=by omega
  subst this;exact hs⟩
 |f+1,p,k,pa,e,hs=>by
  have sz:=pa.size;refine PWp.bind ((Ix pa 66 hs k 0 k 66 66 66 (λi h=>by omega) (λi a b=>by omega)).mono λm h=>?_);obtain⟨a,b,c⟩:=h;refine TN f _ (k+1) ((bubble_perm _ _ _).trans pa) 66 λi j x y=>?_;rw[LX 66 66,LX 66 66];have ek:k-(k-m)=m:=by omega
  rw[ek]
  repeat' split
  .exact 110 _
  .exact Int.le_of_lt (c _ 66 66)
  .omega
  .exact b _ 66
  .exact hs _ _ 66 66
  .omega
  .exact b _ 66
  .exact hs _ _ 66 66
  .exact hs _ _ 66 66
def OX(h1:1<=n):PWp r n (kas_sort n) λp=>PAr n p/\STo r p n:=by
 refine PWp.bind ((Vh h1).mono λz h=>?_);obtain⟨a,b,c,d⟩:=h;by_cases e:z.1<n
 .rw[gb e];have:max z.1 1=z.1:=by omega
  rw[this];exact TN _ _ _ a 66 d
 .rw[gh e];have:z.1=n:=by omega
  exact⟨a,this ▸ d⟩
end
def PairAt(h:Heap)(v:Value)(p:Int×Int):Prop:=∃(x:Addr) (o:Obj) (t u:Tok) (k:Nat),v=.ref x/\h.get? x=some o/\o.cls=.type "tuple"/\o.data=.seq #[.int p.1 t,.int p.2 u] k
noncomputable def B4(p:Int×Int):Int:=p.1*4000000000+p.2
def pok(p:Int×Int):Prop:=-1000000000<=p.1/\p.1<=1000000000/\-1000000000<=p.2/\p.2<=1000000000
section
variable{E:76}{s:96}
def Oq{C:Bool->Shared->Prop}(hx:PairAt s.heap x p)(hy:PairAt s.heap y q)(op:pok p)(oq:pok q)(h:C (decide (B4 p<B4 q)) s):
 wpAny 107 A (keyLt' (tuples' true) x y) C E s:=by
 obtain⟨a,o,t,u,k,rfl,ho,hc,hd⟩:=hx;obtain⟨a2,o2,t2,u2,k2,rfl,ho2,hc2,hd2⟩:=hy;obtain⟨p1,p2⟩:=p;obtain⟨q1,q2⟩:=q;unfold pok at op oq;unfold B4 at h;dsimp only at op oq h;refine kat_lt ho hd ho2 hd2 ?_;refine kat_cons (jg ?_);by_cases e1:p1=q1
 .have b1:(p1==q1)=true:=by simp[e1]
  rw[b1];refine kat_yes (kat_cons (jg ?_));by_cases e2:p2=q2
  .have b2:(p2==q2)=true:=by simp[e2]
   rw[b2];refine kat_yes (kat_nil ?_);have:decide (p1*4000000000+p2<q1*4000000000+q2)=false:=iA 66;rw[this]at h;exact h
  .have b2:(p2==q2)=false:=by simp[e2]
   rw[b2];refine kat_no (kat_one _ _ (lt_int ?_));have:decide (p1*4000000000+p2<q1*4000000000+q2)=decide (p2<q2):=decide_eq_decide.mpr 66;rw[this]at h;exact h
 .have b1:(p1==q1)=false:=by simp[e1]
  rw[b1];refine kat_no (oneLt_int ?_);have:decide (p1*4000000000+p2<q1*4000000000+q2)=decide (p1<q1):=decide_eq_decide.mpr 66;rw[this]at h;exact h
theorem KS:∀{vs:79} {ps:List (Int×Int)},116=ps.length->(∀(i:Nat) (v:Value) (p:Int×Int),vs[i]?=some v->ps[i]?=some p->PairAt h v p)->∃fs,KatTups h vs fs/\fs.length=116/\∀f∈fs,∃i t,f=.int i t
 |[],[],_,_=>⟨[],.nil,rfl,λ_ z=>by cases z⟩
 |v::vs,p::ps,hl,hp=>by
  obtain⟨fs,a,b,c⟩:=KS (vs:=vs) (ps:=ps) (by simpa using hl) λi v q e1 e2=>hp (i+1) v q (by simpa using e1) (by simpa using e2);obtain⟨x,o,t,u,k,rfl,ho,hc,hd⟩:=hp 0 v p rfl rfl;exact⟨.int p.1 t::fs,.cons ho hc hd rfl a,by simp[b],λf hf=>by
   rcases mem_cons.mp hf with rfl|hf
   .exact⟨_,_,rfl⟩
   .exact c f hf⟩
def Es(vs:79)(ps:List (Int×Int))(out:79):Prop:=∃zs:List (Value×(Int×Int)),zs.Perm (vs.zip ps)/\(zs.map λz=>B4 z.2).Pairwise (·<=·)/\out=zs.map (·.1)
def Rh{vs:79}{ps:List (Int×Int)}(hl:116=ps.length)(pa:PAr 116 p)(hs:STo (λi=>B4 (ps.getD i (0,0))) p 116):Es vs ps (p.toList.map λi=>vs.getD i Value.none):=by
 have sz:=pa.size;refine⟨p.toList.map λi=>(vs.getD i Value.none,ps.getD i (0,0)),?_,?_,by rw[gY];rfl⟩
 .have e:vs.zip ps=(68 116).map λi=>(vs.getD i Value.none,ps.getD i (0,0)):=by
   refine ext_getElem? λi=>?_;by_cases hi:i<116
   .have hi2:i<ps.length:=by omega
    rw[(List.getElem?_zip_eq_some (z:=(vs[i],ps[i]))).mpr ⟨by simp[hi],by simp[hi2]⟩];simp[hi,hi2]
   .rw[List.getElem?_eq_none 86,List.getElem?_eq_none 86]
  rw[e];have:=Array.perm_iff_toList_perm.mp pa;simpa using this.map _
 .rw[gY,List.pairwise_iff_getElem];intro i j hi hj hij;simp only[gZ,Array.length_toList]at hi hj;have:=hs i j 66 66;unfold kv at this;simpa [Array.getD,hi,hj]using this
def Pn{vs:79}{ps:List (Int×Int)}{n:Nat}{P:PySem.Fin->Shared->Prop}(ho:s.heap.get? a=some (seqObj "list" 78 n))(hl:116=ps.length)(h64:116<64)(hok:∀p∈ps,pok p)
 (hp:∀(i:Nat) (v:Value) (p:Int×Int),vs[i]?=some v->ps[i]?=some p->PairAt (s.heap.update a (Obj.mapSeq λ_=>#[])) v p)
 (h:∀out:List Value,Es vs ps out->P (.done (.ret .none)) { s with heap:=sortedHeap s.heap a vs out.toArray }):
 wpAny 107 A (Builtin.«list.sort» ⟨[.ref a],[]⟩) P E s:=by
 have ha:=84 ho;have line:116<=sizeLine:=by rw[ip];omega
 obtain⟨e1,ho1⟩:∃e1,(s.heap.update a (Obj.mapSeq λ_=>#[])).get? a=some (seqObj "list" #[] e1):=⟨_,jf ho _⟩
 rw[list_sort_plain];refine gj (listItems_at ho rfl (gj (j3 ho rfl (gj (seqEpoch_at ho1 rfl (gj (wpAny_newTuple (gj (je (ik ?_) (ir _))) line)))) (by rw[gu];exact line) (ir _))));have grow:∀b o,(s.heap.update a (Obj.mapSeq λ_=>#[])).get? b=some o->(((s.heap.update a (Obj.mapSeq λ_=>#[])).push (seqObj "tuple" 78 0)).push (seqObj "list" #[] 0)).get? b=some o:=λb o e=>70 _ (70 _ e);have ho6:=grow _ _ ho1;generalize h6:((s.heap.update a (Obj.mapSeq λ_=>#[])).push (seqObj "tuple" 78 0)).push (seqObj "list" #[] 0)=hp6 at *;have done:∀out:List Value,Es vs ps out->P (.done (.ret .none)) { s with heap:=hp6.update a (Obj.mapSeq λ_=>out.toArray) }:=λout z=>by
  have:=h out z;unfold sortedHeap at this;rw[h6]at this;exact this
 show wpAny 107 A _ P E { s with heap:=hp6 };dsimp only;have pairs6:∀(i:Nat) (v:Value) (p:Int×Int),vs[i]?=some v->ps[i]?=some p->PairAt hp6 v p:=λi v p x y=>by
  obtain⟨x',o,t,u,k,e,q,c,d⟩:=hp i v p x y;exact⟨x',o,t,u,k,e,grow _ _ q,c,d⟩
 by_cases h2:vs.toArray.size<2
 .rw[gb h2,gb h2];refine gj (gn ?_);rw[StateT.run_pure];refine gj (gn ?_);dsimp only;have hout:(arrOf (SortSt.mk' general' (vs.toArray.zip 78) #[] 7 none)).map (·.2)=vs.toArray:=by
   show(vs.toArray.zip 78).map (·.2)=78;apply Array.toList_inj.mp;simp only[Array.toList_map,Array.toList_zip];exact map_snd_zip (gk _)
  rw[hout];refine gj (seqEpoch_at ho6 rfl (gj (j3 ho6 rfl ?_ (ir _) (by rw[gu];omega))));simp only[bne_self_eq_false,Bool.false_eq_true,i5];refine gn (done vs ⟨vs.zip ps,.refl _,?_,?_⟩)
  .have hz:(vs.zip ps).length<2:=by simp at h2 ⊢;omega
   cases hh:vs.zip ps with
   |nil=>exact .nil
   |cons z r=>
    cases r with
    |nil=>exact List.pairwise_singleton _ _
    |cons y t=>rw[hh]at hz;exact absurd hz 71
  .rw[List.map_fst_zip 66]
 .rw[gh h2,gh h2];have h2':2<=vs.length:=by simp at h2;omega
  obtain⟨fs,t1,t2,t3⟩:=KS hl pairs6;have tT:∀f∈fs,Looks 107 hp6 (typeOf f) (Value.type "int"):=λf hf=>by
   obtain⟨i,t,rfl⟩:=t3 f hf;exact .of_pure rfl
  refine gj (kat_kind (s:={ s with heap:=hp6 }) t1 66 tT rfl ?_);have est:SortSt.mk' (tuples' true) (vs.toArray.zip 78) #[] 7 none=kas_st (tuples' true) (pairsOf vs) (List.toArray (68 116)):=by
   unfold kas_st;rw[<- pairsOf_size vs,kas_range];rfl
  have ask:(kas_sort 116).kasWp (kas_cmp prog w A (tuples' true) (pairsOf vs)) (λp s'=>s'={ s with heap:=hp6 }/\Es vs ps (p.toList.map λi=>vs.getD i Value.none)) { s with heap:=hp6 }:=by
   rw[<- kas_ask_eq];refine PWp.wp (n:=116) (r:=λi=>B4 (ps.getD i (0,0))) (P:=λs'=>s'={ s with heap:=hp6 }) (λi j C s' hi hj e hC=>?_) ((OX 66).mono λp z s' e=>⟨e,Rh hl z.1 z.2⟩) rfl;subst e;have pi:ps[i]?=some (ps.getD i (0,0)):=by simp[show i<ps.length by omega]
   have pj:ps[j]?=some (ps.getD j (0,0)):=by simp[show j<ps.length by omega]
   have vi:vs[i]?=some (vs.getD i Value.none):=by simp[hi]
   have vj:vs[j]?=some (vs.getD j Value.none):=by simp[hj]
   exact Oq (s:={ s with heap:=hp6 }) (pairs6 i _ _ vi pi) (pairs6 j _ _ vj pj) (hok _ (i6 pi)) (hok _ (i6 pj)) (hC _ rfl)
  have run:=kas_runs (E:=E) (Q:=λ_ st' s'=>∃p:Array Nat,p.size=116/\arrOf st'=p.map (kas_item (pairsOf vs))/\failedOf st'=none/\s'={ s with heap:=hp6 }/\Es vs ps (p.toList.map λi=>vs.getD i Value.none)) h2' h64 (λp st' s' x1 x2 x3 x4=>⟨p,x1,x2,x3,x4⟩) ask;rw[<- est]at run;refine gj (i3 run ?_ λ_ _ e=>e);rintro⟨⟨⟩,st'⟩ s' ⟨p,hsz,har,hf,rfl,so⟩;dsimp only;have hout:(arrOf st').map (·.2)=(p.toList.map λi=>vs.getD i Value.none).toArray:=by
   rw[har];apply Array.toList_inj.mp;simp only[Array.toList_map,gY];exact j6 λi _=>hX Prod.snd (kas_item_eq vs i)
  rw[hout];refine gj (seqEpoch_at ho6 rfl (gj (j3 ho6 rfl ?_ (ir _) (by simp[hsz];omega))));rw[hf];simp only[bne_self_eq_false,Bool.false_eq_true,i5];exact gn (done _ so)
end
def PairAt.keep{h h':Heap}(k:∀b o,h.get? b=some o->h'.get? b=some o)(q:PairAt h v p):PairAt h' v p:=by
 obtain⟨x,o,t,u,n,e,ho,c,d⟩:=q;exact⟨x,o,t,u,n,e,k _ _ ho,c,d⟩
section
variable{E:76}{s:96}
def Mp{vs:79}{ps:List (Int×Int)}{Q:76}(hl:s.heap.IsList l 78)(hlen:116=ps.length)(h64:116<64)(hok:∀p∈ps,pok p)
 (hp:∀(i:Nat) (v:Value) (p:Int×Int),vs[i]?=some v->ps[i]?=some p->PairAt s.heap v p)
 (h:∀out:List Value,Es vs ps out->Q (.ref (59+1)) { s with heap:=sortedAll s.heap vs out.toArray }):
 wpAny 107 A (call (.builtin "sorted") [.ref l]) Q E s:=by
 have line:116<=sizeLine:=by rw[ip];omega
 refine Calls.call_function_entry kind_sorted plain_sorted entry_sorted (args_sorted1 _) ?_;unfold Builtin.«sorted»;refine gj (m:=checkCount "sorted" 1 1 _) (gn (gj (collect_list hl (gj (je ?_ line)) line)));have sz:((s.heap.push (seqObj "list" #[] 0)).update 59 (Obj.mapSeq (·++78))).objs.size=59+1:=by rw[Heap.size_update,size_push']
 have at1:(((s.heap.push (seqObj "list" #[] 0)).update 59 (Obj.mapSeq (·++78))).push (seqObj "list" 78 0)).get? (59+1)=some (seqObj "list" 78 0):=by
  have:=Heap.get?_push_size ((s.heap.push (seqObj "list" #[] 0)).update 59 (Obj.mapSeq (·++78))) (o:=seqObj "list" 78 0) rfl
  rwa [sz]at this
 have old:∀b o,s.heap.get? b=some o->((((s.heap.push (seqObj "list" #[] 0)).update 59 (Obj.mapSeq (·++78))).push (seqObj "list" 78 0)).update (59+1) (Obj.mapSeq λ_=>#[])).get? b=some o:=λb o e=>by
  have lt:=84 e;rw[Heap.get?_update_ne _ _ _ _ (hJ (Nat.lt_succ_of_lt lt)),Heap.get?_push_ne _ _ _ (by rw[sz];exact hJ (Nat.lt_succ_of_lt lt)),Heap.get?_update_ne _ _ _ _ (hJ lt),Heap.get?_push_ne _ _ _ (hJ lt)];exact e
 show wpAny _ _ _ _ _ { s with heap:=((s.heap.push (seqObj "list" #[] 0)).update s.heap.objs.size (Obj.mapSeq (·++vs.toArray))).push (seqObj "list" vs.toArray 0) };rw[sz];refine gj (ik (jl slot_list_sort ⟨_,at1,rfl⟩ entry_list_sort (Pn at1 hlen h64 hok (λi v p a b=>(hp i v p a b).keep old) λout z=>⟨_,rfl,?_⟩) (args_list_sort _)));exact gn ⟨_,rfl,h out z⟩
end
section
variable(K:Frag){X:Cx}
def Iu:List V->Hp->VK->Prop:=λxs H Q=>∃(a:Addr) (us:List V) (ps:List (Int×Int)),xs=[.ref a]/\SqL K H a us/\us.length=ps.length/\us.length<64/\(∀q∈ps,pok q)/\
 (∀(i:Nat) (u:V) (q:Int×Int),us[i]?=some u->ps[i]?=some q->∃x,u=.ref x/\SqT K H x [.int q.1,.int q.2])/\
 ∀(p:Addr) (zs:List (V×(Int×Int))),H p=none->zs.Perm (us.zip ps)->(zs.map λz=>B4 z.2).Pairwise (·<=·)->Q (.ref p) (upd H p (.lst (zs.map (·.1))))
noncomputable def GO:Value->V
 |.ref x=>.ref x
 |_=>.non
def MX{i:Nat}(h:Vals us its)(e:us[i]?=some u):∃v,its[i]?=some v/\RelV u v:=Vals.get h e
def Nv(hK:X.K=K:=by rfl):CallR X (.builtin "sorted") (Iu K):=by
 subst hK;intro pins s σ H xs us0 Q I r h;obtain⟨a,us,ps,rfl,hq,hlen,h64,hok,hpr,q⟩:=h;obtain⟨u,rfl,ru⟩:=BU r;cases ru;obtain⟨its,rv,p,hz⟩:=I.list hq;have hl2:us.length=its.length:=rv.length;have point:∀(i:Nat) (v:Value) (q:Int×Int),its[i]?=some v->ps[i]?=some q->(∃x,us[i]?=some (.ref x)/\v=.ref x)/\PairAt s.heap v q:=by
  intro i v q e1 e2;have hi:i<us.length:=by rw[hl2];exact(75 e1).1
  have eu:us[i]?=some us[i]:=by simp[hi]
  obtain⟨x,ex,sq⟩:=hpr i _ q eu e2;obtain⟨v',ev,rel⟩:=MX rv eu;rw[e1]at ev;cases ev;rw[ex]at rel eu;have rel:v=Value.ref x:=rel;subst rel;refine⟨⟨x,eu,rfl⟩,?_⟩;obtain⟨jts,rj,⟨o,ho,hc,n,hd⟩,_⟩:=I.tuple sq;cases rj with
  |cons r1 t1=>
   cases t1 with
   |cons r2 t2=>
    cases t2;obtain⟨t,rfl⟩:=r1;obtain⟨t',rfl⟩:=r2;exact⟨x,o,t,t',n,rfl,ho,hc,hd⟩
 refine Mp (ps:=ps) p.isList 66 66 hok (λi v q a b=>(point i v q a b).2) λout z=>?_;obtain⟨zs,pm,pw,rfl⟩:=z;obtain⟨e,he⟩:=sortedAll_at s.heap its (zs.map (·.1)).toArray;have mz:∀z∈zs,∃x,z.1=.ref x:=λz hz=>by
  have:=pm.mem_iff.mp hz;obtain⟨i,hi⟩:=mem_iff_getElem?.mp this;obtain⟨e1,e2⟩:=List.getElem?_zip_eq_some.mp hi;obtain⟨⟨x,_,ex⟩,_⟩:=point i _ _ e1 e2;exact⟨x,ex⟩
 have vz:∀{zs:List (Value×(Int×Int))},(∀z∈zs,∃x,z.1=.ref x)->Vals (zs.map λz=>GO z.1) (zs.map (·.1)):=by
  intro zs
  induction zs with
  |nil=>intro _;exact .nil
  |cons z r ih=>
   intro h;obtain⟨x,ex⟩:=h z gq;refine .cons ?_ (ih λy hy=>h y (gp _ hy));show RelV (GO z.1) z.1;rw[ex];rfl
 have pm2:(zs.map λz=>(GO z.1,z.2)).Perm (us.zip ps):=by
  have:=pm.map λz:Value×(Int×Int)=>(GO z.1,z.2)
  have e:((its.zip ps).map λz:Value×(Int×Int)=>(GO z.1,z.2))=us.zip ps:=by
   refine ext_getElem? λi=>?_;by_cases hi:i<us.length
   .have h1:i<its.length:=by omega
    have h2:i<ps.length:=by omega
    have e1:its[i]?=some its[i]:=by simp[h1]
    have e2:ps[i]?=some ps[i]:=by simp[h2]
    obtain⟨⟨x,ex,ev⟩,_⟩:=point i _ _ e1 e2;rw[List.getElem?_map,(List.getElem?_zip_eq_some (z:=(its[i],ps[i]))).mpr ⟨e1,e2⟩,(List.getElem?_zip_eq_some (z:=(V.ref x,ps[i]))).mpr ⟨ex,e2⟩,i4,ev];rfl
   .rw[List.getElem?_eq_none 86,List.getElem?_eq_none 86]
  rwa [e]at this
 have pw2:((zs.map λz=>(GO z.1,z.2)).map λz:V×(Int×Int)=>B4 z.2).Pairwise (·<=·):=by rw[gY];exact pw
 have fin:=q (59+1) _ (I.hok.fresh (iN _)) pm2 pw2;have em:(zs.map λz=>(GO z.1,z.2)).map (·.1)=zs.map λz=>GO z.1:=by rw[gY];rfl
 rw[em]at fin;have zl:zs.length<64:=by rw[pm.length_eq];simp;omega
 refine⟨.ref (59+1),_,I.laid (a:=59+1) (o:=.lst (zs.map λz=>GO z.1)) (t':=s.toks) (λb o hb=>sortedAll_old hb) (iN _) ⟨?_,_,e,vz mz,he⟩,rfl,fin⟩;rw[gZ];exact iy (HB 66)
end
noncomputable def AZ(p:Int×Int):D:=.im (.tup [.int p.1,.int p.2])
noncomputable def DF:List D->Option (List (Int×Int))
 |[]=>some []
 |.im (.tup [.int a,.int b])::r=>(DF r).map ((a,b)::·)
 |_=>none
def HH:∀{ds:List D} {ps:List (Int×Int)},DF ds=some ps->ds=ps.map AZ:=by
 intro ds
 induction ds with
 |nil=>intro ps h;simp[DF]at h;subst h;rfl
 |cons d r ih=>
  intro ps h;unfold DF at h;split at h
  .next e=>cases e
  .next a b r' e=>
   cases e;obtain⟨qs,e1,rfl⟩:=gX h;rw[ih e1];rfl
  .cases h
@[simp] theorem QM(ps:List (Int×Int)):DF (ps.map AZ)=some ps:=by
 induction ps with
 |nil=>rfl
 |cons p r ih=>simp[DF,AZ]at ih ⊢;exact ih
noncomputable def Bx(ps:List (Int×Int)):List (Int×Int):=ps.mergeSort λa b=>decide (B4 a<=B4 b)
def GL(ps:List (Int×Int)):(Bx ps).Perm ps:=List.mergeSort_perm ..
def Ms(ps:List (Int×Int)):(Bx ps).Pairwise λa b=>B4 a<=B4 b:=by
 have:=List.pairwise_mergeSort (le:=λa b:Int×Int=>decide (B4 a<=B4 b)) (by intro a b c h1 h2;simp at *;omega) (by intro a b;simp;omega) ps;exact this.imp 71
def NG(a:pok p)(b:pok q)(h:B4 p=B4 q):p=q:=by
 unfold pok at a b;unfold B4 at h;exact Prod.ext 66 66
open Classical in
noncomputable def F9(m:MI):MA:=λls hd=>(m ls hd).bind λp=>(DF p.1.1).bind λps=>if ps.length<64/\∀q∈ps,pok q then some ((Bx ps).map AZ,p.2)else none
section
variable{K:Frag}
def Oe(h:RD K ρ H (AZ p) v):∃x,v=.ref x/\SqT K H x [.int p.1,.int p.2]:=by
 simp only[AZ,RD,RI,RIs]at h;obtain⟨a,xs,rfl,q,x,r,rfl,rfl,y,r2,rfl,rfl,rfl⟩:=h;exact⟨a,rfl,q⟩
def Pw(h:RRw K false t m):RN K (tCB (Iu K) (Be t C5)) (F9 m):=by
 and_intros;obtain⟨⟨⟨d1,g1⟩,h1⟩,e1,hm⟩:=gW hm;obtain⟨ps,e2,hm⟩:=gW hm;split at hm
 .next c=>
  cases hm;refine h ρ σ H hd ls _ d1 g1 _ hR hL e1 λρ1 H1 a x1 R1 G1 S1=>?_;obtain⟨xs,q,r⟩:=S1 ρ1 H1 _ .refl R1 G1;have e2:DF d1=some ps:=e2;rw[HH e2]at r;have hl:88=ps.length:=by simpa using r.len
  have each:∀(i:Nat) (u:V) (q:Int×Int),xs[i]?=some u->ps[i]?=some q->RD K ρ1 H1 (AZ q) u:=λi u q a b=>by
   obtain⟨x,e,z⟩:=r.get (i:=i) (d:=AZ q) (by simp[b]);rw[a]at e;cases e;exact z
  refine⟨a,xs,ps,rfl,q,hl,by rw[hl];exact c.1,c.2,λi u q a b=>Oe (each i u q a b),λp zs hp pm pw=>?_⟩;have es:zs.map (·.2)=Bx ps:=by
   have pp:(zs.map (·.2)).Perm ps:=by
    have:=pm.map (λz:V×(Int×Int)=>z.2)
    rwa [map_snd_zip 66]at this
   refine(pp.trans (GL ps).symm).eq_of_pairwise (le:=λa b=>B4 a<=B4 b) (λx y hx hy l1 l2=>NG (c.2 _ (pp.mem_iff.mp hx)) (c.2 _ ((GL ps).mem_iff.mp hy)) (j8 l1 l2)) ?_ (Ms ps);rw[iQ]at pw ⊢;exact pw
  obtain⟨R2,x2⟩:=R1.hid (ho:=.lst (zs.map (·.1))) hp;have all:∀z∈zs,RD K ρ1 H1 (AZ z.2) z.1:=λz hz=>by
   obtain⟨i,hi⟩:=mem_iff_getElem?.mp (pm.mem_iff.mp hz);obtain⟨a1,a2⟩:=List.getElem?_zip_eq_some.mp hi;exact each i _ _ a1 a2
  have rd:∀{zs:List (V×(Int×Int))},(∀z∈zs,RD K ρ1 H1 (AZ z.2) z.1)->RDs K ρ1 H1 ((zs.map (·.2)).map AZ) (zs.map (·.1)):=by
   intro zs
   induction zs with
   |nil=>intro _;exact .nil
   |cons z r ih=>intro h;exact .cons (h z gq) (ih λy hy=>h y (gp _ hy))
  have rz:=rd all;rw[es]at rz;exact hQ ρ1 _ p _ 85 R2 (x1.none hR hp R1) (R1.out hp) AG (rz.ext R1 x2)
 .cases hm
open Classical in
noncomputable def G7:D->List D->Hd->Option (D×Hd)
 |.mu n,[.im (.int i)],hd=>match hd[n]? with
  |some (.lst ds)=>if GN i then(ixN 83 i).bind λk=>(ds[k]?).map λy=>(y,hd.set n (.lst (ds.eraseIdx k)))else none
  |_=>none
 |_,_,_=>none
theorem RDs.erase:∀{ds:List D} {xs:List V} (k:Nat),RDs K ρ H ds xs->RDs K ρ H (ds.eraseIdx k) (xs.eraseIdx k)
 |[],_,_,h=>by simp only[RDs]at h;subst h;simp[RDs]
 |d::ds,_,0,h=>by simp only[RDs]at h;obtain⟨x,r,rfl,_,t⟩:=h;simpa using t
 |d::ds,_,k+1,h=>by
  simp only[RDs]at h;obtain⟨x,r,rfl,a,t⟩:=h;simpa using RDs.cons a (RDs.erase k t)
end
def UL{K:Frag}:RM K SH G7:=by
 intro ρ H hd d v ds vs Q z hd' hR h1 h2 hf hQ;unfold G7 at hf;split at hf
 .split at hf
  .next q=>
   split at hf
   .next c=>
    obtain⟨k,e0,hf⟩:=gW hf;obtain⟨y,e1,e3⟩:=gX hf;cases e3;simp only[RD]at h1;obtain⟨a,hn,rfl⟩:=h1;simp only[RDs,RD,RI]at h2;obtain⟨x,r,rfl,rfl,rfl⟩:=h2;obtain⟨xs,f1,f2⟩:=hR.lst hn q;obtain⟨x,x1,x3⟩:=f2.get e1;obtain⟨R2,x2⟩:=hR.put hn (o:=.lst _) (ho:=.lst (xs.eraseIdx k)) ⟨_,rfl,f2.erase k⟩;obtain⟨s1,s2,s3,s4⟩:=Ks e0;have sz:=f2.len;unfold GN at c;exact⟨a,xs,_,k,x,rfl,rfl,f1,by omega,by omega,by rw[sz];exact s1,x1,hQ ρ _ _ x2 R2 (x3.ext hR x2)⟩
   .cases hf
  .cases hf
 .cases hf
section
variable(K:Frag){X:Cx}
def QB(hm:X.mg "sorted"=none)(ha:QR K false X e te mi)(hg:Gl X "sorted":=by rfl)(he:starEach [e] X.env=[(false,eval e X.env)]:=by rfl)(hK:X.K=K:=by rfl):QN K X (.Call (.Name "sorted" p) [e] [] pos) (tCB (Iu K) (Be te C5)) (F9 mi):=
 ⟨F7 (Nv K hK) hg hm FV (CB ha.p Cr he) 97 97 he rfl,Pw ha.r⟩
end
section
open Classical in
@[simp] theorem Vc(k:Nat)(i:Int):G7 (.mu k) [.im (.int i)] hd=match hd[k]? with
 |some (.lst ds)=>if GN i then(ixN 83 i).bind λj=>(ds[j]?).map λy=>(y,hd.set k (.lst (ds.eraseIdx j)))else none
 |_=>none:=rfl
open Classical in
@[simp] theorem e9(mi:MI):F9 mi ls hd=(mi ls hd).bind λp=>(DF p.1.1).bind λps=>if ps.length<64/\∀q∈ps,pok q then some ((Bx ps).map AZ,p.2)else none:=rfl
end
noncomputable def Ct(m:ME):MI:=λls hd=>match B5 m ls hd with
 |some z=>some z
 |none=>BJ m ls hd
noncomputable def P4(K:Frag)(t:TE):TI:=λσ H R=>NZ K t σ H R∨GX K t σ H R
def Zd{K:Frag}(h:RE K t m):RIt K (P4 K t) (Ct m):=by
 intro ρ σ H hd ls Q d g hd' hR hL hm hQ;unfold Ct at hm;split at hm
 .next z e=>
  cases hm;exact .inl (S4 h ρ σ H hd ls Q d g hd' hR hL e hQ)
 .exact .inr (Od h ρ σ H hd ls Q d g hd' hR hL hm hQ)
def aT(K:Frag)(h:QE K X e t m)(hK:X.K=K:=by rfl):QI K X tg e (P4 K t) (Ct m):=
 ⟨λpins s σ H R I q=>q.elim (λq=>(Om K h.p hK) pins s σ H R I q) λq=>(Iy K h.p hK) pins s σ H R I q,Zd h.r⟩
section
def P1(e:m ls hd=some (.im (.tup is),hd')):Ct m ls hd=some ((is.map .im,[]),hd'):=by unfold Ct;simp[e]
def cC{k:Nat}(e:m ls hd=some (.mu k,hd'))(h:hd'[k]?=some (.lst ds)):Ct m ls hd=some ((ds,[(k,ds)]),hd'):=by unfold Ct;simp[e,h]
end
noncomputable def Fw(p:Int×Int):I:=.tup [.int p.1,.int p.2]
end L2
namespace L2
open PySem PySem.Spec PyProof.Rows
section
variable{prog:Program}{w:World}{R:Result->Shared->Prop}
def M5(k v target iter:Expr)(ifs:List Expr)(scope:Scope)(pos:Pos)(it acc:Value)(env:Env):
 compTurn (.DictComp k v [⟨target,iter,ifs,0⟩] scope pos) 0 it acc env=(do
  standAt iter.pos
  match <- pyNext it with
  |none=>pure (.done .next)
  |some x=>
   letOwnedTupleGo target it x
   assign target env x
   let mut ok:=true
   for c in ifs do
    if ok then ok <- isTrue c env (eval c env)
   if ok then
    (do
     let kv <- eval k env
     let vv <- holding [kv] (eval v env)
     match acc with
     |.ref d=>do
      standAt { k.pos with endLine:=v.pos.endLine,endCol:=v.pos.endCol }
      holding [kv,vv] (dictSet d kv vv)
     | _=>unsupported "internal:dictcomp")
   again (.compLoop (.DictComp k v [⟨target,iter,ifs,0⟩] scope pos) 0 it acc env)):=by rfl
end
section
noncomputable def Ju(tk tv:TE):TM:=λD σ H Q=>tk σ H λy H1=>tv σ H1 λv H2=>∃kvs k,H2 D=some (.dK kvs)/\y=kV k/\kvs.length<sizeLine/\Q (upd H2 D (.dK (Cp kvs k v)))
def T9{E:76}{Q:Unit->Shared->Prop}(I:73)(e:H a=some (.dK kvs))(l:kvs.length<sizeLine)(ry:RelV (kV k) u)(rv:RelV v r)(h:∀s',Inv X pins σ (upd H a (.dK (Cp kvs k v))) s'->Q () s'):
 wpAny 69 A (dictSet a u r) Q E s:=by
 obtain⟨z,hd,vs,rel,dd⟩:=WU I.hok e;have hz:116<=sizeLine:=by rw[<- rel.length];exact z
 have hl:(Cp kvs k v).length<=sizeLine:=by have:=Fa kvs k v;omega
 refine wpAny_dictSet_pairs (hsz:=hz) (IF ry) dd λh' dd' hs=>h _ ?_;have he:∃q,h'.get? a=some q:=let ⟨q,_,_,hq,_⟩:=dd';⟨q,hq⟩
 exact L7 I (by rw[e];exact True.intro) hs he (T4 hl hd (rel.put k rv) dd')
noncomputable def Qp(k v:Expr):Value->Env->Sem Unit:=λacc env=>do
 let kv <- eval k env
 let vv <- holding [kv] (eval v env)
 match acc with
 |.ref d=>do
  standAt { k.pos with endLine:=v.pos.endLine,endCol:=v.pos.endCol }
  holding [kv,vv] (dictSet d kv vv)
 |_=>unsupported "internal:dictcomp"
def YD(hk:PE X k tk)(hv:PE X v tv):PM X (Qp k v) (Ju tk tv):=by
 intro D pins s σ H Q I h;unfold Qp;refine gj (thn (hk pins s σ H _ I h) λu s1 ⟨y,H1,I1,r1,q1⟩=>?_);refine gj (ik (thn (hv pins s1 σ H1 _ I1 q1) λr s2 ⟨v,H2,I2,r2,kvs,k,e,ey,l,q2⟩=>?_));refine gj (iU (ik ?_));subst ey;exact T9 I2 e l r1 r2 λs' I'=>⟨_,I',q2⟩
def V5{iter:Expr}
 (hc:X.calm=true) (S:CSc X scope fr ix) (hi:PI X tg iter wi)
 (hg:∀s H ex,PG (cCx X (loc++fr) scope s H ex) tg g) (hf:∀s H ex,PF (cCx X (loc++fr) scope s H ex) ifs tf) (hk:∀s H ex,PE (cCx X (loc++fr) scope s H ex) k tk) (hv:∀s H ex,PE (cCx X (loc++fr) scope s H ex) v tv)
 (hs:∀x,foldedSetIterable iter X.env x=pure x:=by intro _;rfl):PE X (.DictComp k v [⟨tg,iter,ifs,0⟩] scope pos) (Fs (.dK []) loc.length ix wi g tf (Ju tk tv)):=by
 refine NJ (emit:=Qp k v) (newAcc:=newDict) (pos:=firstIterPos [⟨tg,iter,ifs,0⟩] pos) ⟨rfl,λit acc env=>M5 ..,λ_ _ _=>rfl,λ_ _ _=>rfl,λ_ _ _=>rfl,λ_ _ _=>rfl,λpins s σ H E Q I h=>?_⟩ hc S hi hg hf (λs H ex=>YD (hk s H ex) (hv s H ex)) rfl hs;simp only[newDict,newObj];refine gj (wpAny_alloc (gn (h _ ?_)));exact I.laid (a:=59) (o:=.dK []) (t':=s.toks) (λ_ _ q=>70 _ q) (gk _) (No s.heap I.big)
end
section
variable{K:Frag}{ρ ρ':108}{H H':Hp}{hd hd':Hd}
noncomputable def ck(K:Frag):Acc K (List (Key×D)) (.dK []) [] where
 rel:=λρ H a o=>∃xs,o=.dK xs/\RKs K ρ H a xs
 mono:=λr g ⟨xs,e,q⟩=>⟨xs,e,q.mono g r⟩
 chg:=λ⟨xs,e,q⟩ st=>by subst e;exact st
 chg2:=λ⟨xs,e,q⟩=>⟨λ_ z=>(by subst e;cases z),λ_ z=>(by subst e;cases z)⟩
 init:=λρ H=>⟨[],rfl,by simp[RKs]⟩
open Classical in
noncomputable def Hz(mk mv:ME):MM (List (Key×D)):=λls hd a=>(mk ls hd).bind λq=>(mv ls q.2).bind λz=>(Cu q.1).bind λk=>if Dq a.length then some (DS a k z.1,z.2)else none
def ZZ(hk:RE K tk mk)(hv:RE K tv mv):RM1 (ck K) (Ju tk tv) (Hz mk mv):=by
 intro ρ σ H hd ls a a' hd' Da o Q hR hL out hD hrel hm hQ;obtain⟨⟨d1,h1⟩,e1,hm⟩:=gW hm;obtain⟨⟨d2,h2⟩,e2,hm⟩:=gW hm;obtain⟨k,e4,hm⟩:=gW hm;obtain⟨xs,rfl,r⟩:=hrel;dsimp only at hm;split at hm
 .next c=>
  cases hm;refine hk ρ σ H hd ls _ d1 h1 hR hL e1 λρ1 H1 v1 x1 R1 r1=>?_;refine hv ρ1 σ H1 h1 ls _ d2 _ R1 (hL.ext hR x1) e2 λρ2 H2 v2 x2 R2 r2=>?_;have:=G6 r1 e4;subst this;have hD2:H2 Da=some (.dK xs):=x2.keep Da _ (x1.keep Da _ hD out nt) (x1.outk hD out) nt;have x12:=x1.trans R1 x2;have r':RKs K ρ2 H2 a xs:=by
   obtain⟨rr,rfl,fr⟩:=x12.pre;exact r.mono (x12.grow hR) rr
  exact⟨xs,k,hD2,rfl,by rw[r'.len];exact c,hQ ρ2 H2 _ x12 R2 hD2 ⟨_,rfl,r'.put r2⟩⟩
 .cases hm
noncomputable def Jv(m:Ls->Hd->Option (List (Key×D)×Hd)):ME:=λls hd=>(m ls hd).bind λp=>some (.mu p.2.length,p.2++[.dic p.1])
def XM{m:Ls->Hd->Option (List (Key×D)×Hd)}(h:RNG (ck K) t m):RE K t (Jv m):=by
 and_intros;obtain⟨⟨a,h1⟩,e1,hm⟩:=gW hm;cases hm;refine h ρ σ H hd ls Q a h1 hR hL e1 λρ1 H1 Da o x1 R1 nD oD hD ⟨xs,eo,r⟩=>?_;subst eo;have R2:=R1.nameD oD hD (λz=>z) r;have e0:upd H1 Da (.dK xs)=H1:=by
  funext b
  by_cases hb:b=Da
  .subst hb;rw[AG,hD]
  .rw[upd_ne hb]
 rw[e0]at R2;refine hQ (ρ1++[Da]) H1 _ (x1.name nD) R2 ?_;simp only[RD];exact⟨Da,by rw[<- R1.len];simp,rfl⟩
variable(K:Frag){X:Cx}
def Uo{iter:Expr}(hc:X.calm=true)(S:CSc X scope fr ix)(hi:QI K X tg iter wi mi)
 (hg:∀s H ex,QG K (cCx X (loc++fr) scope s H ex) tg g n) (hf:∀s H ex,QF K (cCx X (loc++fr) scope s H ex) ifs tf mf) (hk:∀s H ex,QE K (cCx X (loc++fr) scope s H ex) k tk mk) (hv:∀s H ex,QE K (cCx X (loc++fr) scope s H ex) v tv mv)
 (hs:∀x,foldedSetIterable iter X.env x=pure x:=by intro _;rfl):QE K X (.DictComp k v [⟨tg,iter,ifs,0⟩] scope pos) (Fs (.dK []) loc.length ix wi g tf (Ju tk tv)) (Jv (HQ loc.length ix mi n mf [] (Hz mk mv))):=
 ⟨V5 hc S hi.p (λs H ex=>(hg s H ex).p) (λs H ex=>(hf s H ex).p) (λs H ex=>(hk s H ex).p) (λs H ex=>(hv s H ex).p) hs,
  XM (N9 hi.r (hg X.s₀ X.H₀ []).r (hf X.s₀ X.H₀ []).r (ZZ (hk X.s₀ X.H₀ []).r (hv X.s₀ X.H₀ []).r))⟩
def aI(hu:X.A.units+1<cLine)(ha:QE K X a ta ma)(hb:QE K X b tb mb)(hmk:behindInMarks .In b=false:=by rfl):QT K X (.Compare a [.In] [b] pos) (tB (U1 ta tb)) (A8 (mOp (Cw false) ma mb)):=⟨NF (bP hu ha.p hb.p) hmk,UC (Zu hb.r ha.r)⟩
def Xc(hu:X.A.units+1<cLine)(ha:QE K X a ta ma)(hb:QE K X b tb mb)(hmk:behindInMarks .NotIn b=false:=by rfl):QT K X (.Compare a [.NotIn] [b] pos) (tB (KW ta tb)) (A8 (mOp (Cw true) ma mb)):=⟨NF (SR hu ha.p hb.p) hmk,UC (XR hb.r ha.r)⟩
end
def WP{α:Type}(o:Option (α×Hd))(Q:α->Hd->Prop):Prop:=∃z h,o=some (z,h)/\Q z h
abbrev WS(m:MS)(ls:Ls)(hd:Hd)(Q:Fl->Hd->Prop):Prop:=WP (m ls hd) Q
abbrev WE(m:ME)(ls:Ls)(hd:Hd)(Q:D->Hd->Prop):Prop:=WP (m ls hd) Q
abbrev WT(m:MT)(ls:Ls)(hd:Hd)(Q:Bool->Hd->Prop):Prop:=WP (m ls hd) Q
abbrev WA(m:MA)(ls:Ls)(hd:Hd)(Q:List D->Hd->Prop):Prop:=WP (m ls hd) Q
abbrev WO(m:MO1)(ls:Ls)(hd:Hd)(Q:Option Int->Hd->Prop):Prop:=WP (m ls hd) Q
abbrev WI(m:MI)(ls:Ls)(hd:Hd)(Q:List D×Gd->Hd->Prop):Prop:=WP (m ls hd) Q
abbrev WF(F:List D->Hd->Option (D×Hd))(ds:List D)(hd:Hd)(Q:D->Hd->Prop):Prop:=WP (F ds hd) Q
section
variable{α β:Type}{Q:α->Hd->Prop}{R:β->Hd->Prop}
theorem WP.some{z:α}(q:Q z h):WP (some (z,h)) Q:=⟨z,h,rfl,q⟩
def WP.mono{Q':α->Hd->Prop}(h:WP o Q)(k:∀z h,Q z h->Q' z h):WP o Q':=let ⟨z,x,e,q⟩:=h;⟨z,x,e,k z x q⟩
theorem WP.bind{f:α×Hd->Option (β×Hd)}(h:WP o λz x=>WP (f (z,x)) R):WP (o.bind f) R:=by
 obtain⟨z,x,e,q⟩:=h;rw[e];exact q
def WP.eq{z:α}(e:o=Option.some (z,h))(q:Q z h):WP o Q:=⟨z,h,e,q⟩
end
section
variable{ls:Ls}{hd:Hd}{a b:MS}{ma mb mc:ME}{ta tb:MT}{m m1 m2:MA}{n:MG}{ns:MGs}{mi:MI}{d e:D}{i j:Nat}{QS:Fl->Hd->Prop}{QE:D->Hd->Prop}{QT:Bool->Hd->Prop}{QA:List D->Hd->Prop}{QO:Option Int->Hd->Prop}{QI:List D×Gd->Hd->Prop}
def MB(b:MS)(Q:Fl->Hd->Prop):Fl->Hd->Prop
 |.nx l,h=>WS b l h Q
 |f,h=>Q f h
def AB(h:WS a ls hd (MB b QS)):WS (A5 a b) ls hd QS:=by
 obtain⟨f,x,e,q⟩:=h;show WP (A5 a b ls hd) QS;rw[K4,e];cases f<;>first|exact q|exact⟨_,_,rfl,q⟩
def A6(q:WS b l h QS):MB b QS (.nx l) h:=q
def GI(q:QS (.rt d) h):MB b QS (.rt d) h:=q
def Aj(h:QS (.nx ls) hd):WS AU ls hd QS:=⟨_,_,rfl,h⟩
def Av(h:WE ma ls hd λd x=>QS (.rt d) x):WS (AQ ma) ls hd QS:=WP.bind (h.mono λ_ _ q=>WP.some q)
def AS(h:WE ma ls hd λd x=>QS (.nx (ls.set i (some d))) x):WS (AE i ma) ls hd QS:=by
 obtain⟨d,x,e,q⟩:=h;exact⟨_,_,by simp only[K6,e,bind_some,Kx,i4],q⟩
def JR(h:WE ma ls hd λd x=>∃l,n d ls x=some l/\QS (.nx l) x):WS (GU ma n) ls hd QS:=by
 obtain⟨d,x,e,l,e2,q⟩:=h;exact⟨_,_,by simp only[K6,e,bind_some,e2,i4],q⟩
def Bt(h:WE ma ls hd λ_ x=>QS (.nx ls) x):WS (B0 ma) ls hd QS:=WP.bind (h.mono λ_ _ q=>WP.some q)
def Vr(h:WT ta ls hd λc x=>if c=true then WS a ls x QS else WS b ls x QS):WS (Aa ta a b) ls hd QS:=by
 refine WP.bind (h.mono λc x q=>?_);dsimp only;cases c<;>simpa using q
def B3(h:WT ta ls hd λc x=>(c=true->WS a ls x QS)/\(c=false->WS b ls x QS)):WS (Aa ta a b) ls hd QS:=
 Vr (h.mono λc x q=>by cases c<;>simp_all)
def WL(n:MG)(b:MS)(g:Gd)(ds:List D)(ls:Ls)(hd:Hd)(Q:Fl->Hd->Prop):Prop:=WP (Bg n b g ds ls hd) Q
def Bw(h:WI mi ls hd λp x=>WL n b p.2 p.1 ls x QS):WS (BC mi n b) ls hd QS:=WP.bind (h.mono λ_ _ q=>q)
def M9(g:Gd)(P:Ls->Hd->Prop)(Q:Fl->Hd->Prop):Fl->Hd->Prop
 |.nx l,h=>GOk h g/\P l h
 |.ct l,h=>GOk h g/\P l h
 |.bk l,h=>Q (.nx l) h
 |.rt d,h=>Q (.rt d) h
theorem BL(P:List D->Ls->Hd->Prop):∀{ds:List D} {ls:Ls} {hd:Hd},P ds ls hd ->
 (∀d r ls hd,P (d::r) ls hd->∃ls1,n d ls hd=some ls1/\WS b ls1 hd (M9 g (P r) QS))->(∀ls hd,P [] ls hd->QS (.nx ls) hd)->WL n b g ds ls hd QS
 |[],ls,hd,h,_,z=>⟨_,_,by unfold Bg;rfl,z _ _ h⟩
 |d::r,ls,hd,h,k,z=>by
  obtain⟨ls1,e1,f,x,e2,q⟩:=k d r ls hd h;unfold WL;unfold Bg;rw[e1,bind_some,e2,bind_some];cases f with
  |nx l=>exact(show GOk x g/\P r l x from q).1 |> λg1=>by dsimp only;rw[gb g1];exact BL P q.2 k z
  |ct l=>exact(show GOk x g/\P r l x from q).1 |> λg1=>by dsimp only;rw[gb g1];exact BL P q.2 k z
  |bk l=>exact⟨_,_,rfl,q⟩
  |rt l=>exact⟨_,_,rfl,q⟩
def A2(h:ls[i]?=some (some d))(q:QE d hd):WE (A0 i) ls hd QE:=⟨d,hd,by rw[Ds,h],q⟩
def AN{i:I}(q:QE (.im i) hd):WE (mC i) ls hd QE:=⟨_,_,rfl,q⟩
def A7{f:D->D->Hd->Option (D×Hd)}(h:WE ma ls hd λd x=>WE mb ls x λe y=>WP (f d e y) QE):WE (mOp f ma mb) ls hd QE:=WP.bind (h.mono λ_ _ q=>WP.bind (q.mono λ_ _ q=>q))
def cy(h:WT ta ls hd λc x=>if c=true then WE ma ls x QE else WE mb ls x QE):WE (mIf ta ma mb) ls hd QE:=by
 refine WP.bind (h.mono λc x q=>?_);dsimp only;cases c<;>simpa using q
def MW(h:WT ta ls hd λc x=>(c=true->WE ma ls x QE)/\(c=false->WE mb ls x QE)):WE (mIf ta ma mb) ls hd QE:=
 cy (h.mono λc x q=>by cases c<;>simp_all)
def BA(h:WA m ls hd λds x=>Bh 83/\QE (Au ds) x):WE (Ae m) ls hd QE:=WP.bind (h.mono λds x q=>by dsimp only;rw[gb q.1];exact WP.some q.2)
def Ar(h:WA m ls hd λds x=>QE (.mu x.length) (x++[.lst ds])):WE (AV m) ls hd QE:=WP.bind (h.mono λ_ _ q=>WP.some q)
def Bi{g:List D->Option D}(h:WA m ls hd λds x=>∃d,g ds=some d/\QE d x):WE (B7 g m) ls hd QE:=by
 obtain⟨ds,x,e,d,e2,q⟩:=h;exact⟨d,x,by simp only[T0,e,bind_some,e2,i4],q⟩
def JT(h:WA m ls hd λds x=>WE ma ls x λe y=>∃i d,e=.im (.int i)/\atI ds i=some d/\QE d y):WE (GT m ma) ls hd QE:=by
 obtain⟨ds,x,e,d,y,e2,i,z,rfl,e4,q⟩:=h;exact⟨z,y,by simp only[cR,e,bind_some,e2,e4,i4],q⟩
def B8{f:List D->Hd->Option (D×Hd)}(h:WA m ls hd λds x=>WP (f ds x) QE):WE (mCB f m) ls hd QE:=WP.bind (h.mono λ_ _ q=>q)
def EB{f:D->List D->Hd->Option (D×Hd)}(h:WE ma ls hd λd x=>(∃l,Ak x d=some l)/\WA m ls x λds y=>WP (f d ds y) QE):WE (mMt f ma m) ls hd QE:=by
 obtain⟨d,x,e,⟨l,hl⟩,q⟩:=h;unfold WE;rw[Qm,e,bind_some];dsimp only;rw[hl];exact WP.bind (q.mono λ_ _ q=>q)
def CG{F:List D->Hd->Option (D×Hd)}(h:WA m ls hd λds x=>WF F ds x QE):WE (Bp F m) ls hd QE:=WP.bind (h.mono λ_ _ q=>q)
def Ex(h:WE ma ls hd λd x=>∃i,d=.im (.int i)/\QE (.im (.int (-i))) x):WE (C6 ma) ls hd QE:=by
 obtain⟨d,x,e,i,rfl,q⟩:=h;exact⟨_,x,by simp only[cP,e,bind_some],q⟩
def Wn(h:WT (A8 ma) ls hd λc x=>if c=true then WE mb ls x QE else QE (.im (.bl false)) x):WE (IA ma mb) ls hd QE:=by
 refine WP.bind (h.mono λc x q=>?_);dsimp only;cases c
 .exact WP.some (by simpa using q)
 .simpa using q
def Wj(h:WT (A8 ma) ls hd λc x=>QE (.im (.bl (!c))) x):WE (I0 ma) ls hd QE:=WP.bind (h.mono λ_ _ q=>WP.some q)
def AI(h:WE ma ls hd λd x=>∃b,d=.im (.bl b)/\QT b x):WT (A8 ma) ls hd QT:=by
 obtain⟨d,x,e,b,rfl,q⟩:=h;exact⟨b,x,by simp only[II,e,bind_some],q⟩
def Fm(h:WE ma ls hd λd x=>∃b,CH x d=some b/\QT b x):WT (DT ma) ls hd QT:=by
 obtain⟨d,x,e,b,e2,q⟩:=h;exact⟨b,x,by simp only[K3,e,bind_some,e2,i4],q⟩
def Fp(h:WT ta ls hd λc x=>QT (!c) x):WT (HN ta) ls hd QT:=WP.bind (h.mono λ_ _ q=>WP.some q)
def DD(h:WT ta ls hd λc x=>if c=true then WT tb ls x QT else QT false x):WT (Bj ta tb) ls hd QT:=by
 refine WP.bind (h.mono λc x q=>?_);dsimp only;cases c
 .exact WP.some (by simpa using q)
 .simpa using q
def D1(h:WT ta ls hd λc x=>if c=true then QT true x else WT tb ls x QT):WT (mOr ta tb) ls hd QT:=by
 refine WP.bind (h.mono λc x q=>?_);dsimp only;cases c
 .simpa using q
 .exact WP.some (by simpa using q)
def BW(h:QT true hd):WT BS ls hd QT:=⟨_,_,rfl,h⟩
def A9(h:QA [] hd):WA A4 ls hd QA:=⟨_,_,rfl,h⟩
def A3(h:WE ma ls hd λd x=>WA m ls x λds y=>QA (d::ds) y):WA (A1 ma m) ls hd QA:=WP.bind (h.mono λ_ _ q=>WP.bind (q.mono λ_ _ q=>WP.some q))
def Bb(h:WA m ls hd λds x=>Bh 83/\QA ds x):WA (Ac m) ls hd QA:=WP.bind (h.mono λds x q=>by dsimp only;rw[gb q.1];exact WP.some q.2)
def Wo{k:Int}(e:m ls hd=some ([.im (.int k)],hd))(hk:Ht k)(q:QA (Ah 0 k.toNat) hd):WA (HM m) ls hd QA:=⟨_,_,by simp only[cN,e,bind_some,hk,gz],q⟩
def ZA(h:WE ma ls hd λd x=>WO ml ls x λl y=>WO mh ls y λu z=>∃ds,AX d=some ds/\¬ (HT.sIx 83 0 l=0/\HT.sIx 83 83 u=83)/\QE (Au (Eb ds l u)) z):WE (Kk ma ml mh) ls hd QE:=by
 obtain⟨d,x,e,l,y,e2,u,z,e3,ds,e4,c,q⟩:=h;exact⟨_,z,by simp only[cM,e,bind_some,e2,e3,e4];rw[gb c],q⟩
def cw(h:QO none hd):WO E5 ls hd QO:=⟨_,_,rfl,h⟩
def Wi(h:WE ma ls hd λd x=>∃i,d=.im (.int i)/\QO (some i) x):WO (GR ma) ls hd QO:=by
 obtain⟨d,x,e,i,rfl,q⟩:=h;exact⟨_,x,by simp only[Yw,e,bind_some],q⟩
def Ew(h:WA m ls hd λds x=>∃k,ds=[.im (.int k)]/\GN k/\QI (Ah 0 k.toNat,[]) x):WI (Bo m) ls hd QI:=by
 obtain⟨ds,x,e,k,rfl,c,q⟩:=h;exact⟨_,x,by simp only[cT,e,bind_some,c,gz],q⟩
def C4(h:WE ma ls hd λd x=>∃ds,AX d=some ds/\QI (ds,[]) x):WI (B5 ma) ls hd QI:=by
 obtain⟨d,x,e,ds,e2,q⟩:=h;exact⟨_,x,by simp only[cS,e,bind_some,e2,i4],q⟩
def PV(h:WA m ls hd λds x=>QI (ds,[]) x):WI (Km m) ls hd QI:=by
 obtain⟨ds,x,e,q⟩:=h;exact⟨_,x,by simp only[cU,e,i4],q⟩
def EU(h:WE ma ls hd λd x=>∃k ds,d=.mu k/\x[k]?=some (.lst ds)/\QI (ds,[(k,ds)]) x):WI (BJ ma) ls hd QI:=by
 obtain⟨d,x,e,k,ds,rfl,e2,q⟩:=h;exact⟨_,x,by simp only[Sz,e,bind_some,e2],q⟩
def Af{k:Nat}(h:WI mi ls hd λp x=>Bh p.1.length/\WP (CC n ta ma p.2 p.1 (Dw k ix ls) x) QA):WA (AW k ix mi n ta ma) ls hd QA:=WP.bind (h.mono λp x q=>by dsimp only;rw[gb q.1];exact q.2)
def C9{i j:Int}(q:QE (.im (.int (i+j))) hd):WP (Ag (.im (.int i)) (.im (.int j)) hd) QE:=⟨_,_,by simp,q⟩
def DE{i j:Int}(q:QE (.im (.int (i-j))) hd):WP (Bs (.im (.int i)) (.im (.int j)) hd) QE:=⟨_,_,by simp,q⟩
def Eu{i j:Int}(c:Eg i j)(q:QE (.im (.int (i*j))) hd):WP (Bl (.im (.int i)) (.im (.int j)) hd) QE:=⟨_,_,by simp[c],q⟩
def De{i j:Int}(c:EC j)(q:QE (.im (.int (i%j))) hd):WP (Cd (.im (.int i)) (.im (.int j)) hd) QE:=⟨_,_,by simp[c],q⟩
def KQ{i j:Int}(c:MQ j)(q:QE (.im (.int (i/j))) hd):WP (Ga (.im (.int i)) (.im (.int j)) hd) QE:=⟨_,_,by simp[c],q⟩
def GF{i j:Int}(q:QE (.im (.bl (decide (i<j)))) hd):WP (gLt (.im (.int i)) (.im (.int j)) hd) QE:=⟨_,_,by simp,q⟩
def FL{i j:Int}(q:QE (.im (.bl (decide (i<=j)))) hd):WP (gLe (.im (.int i)) (.im (.int j)) hd) QE:=⟨_,_,by simp,q⟩
def Ed{i j:Int}(q:QE (.im (.bl (decide (j<i)))) hd):WP (gGt (.im (.int i)) (.im (.int j)) hd) QE:=⟨_,_,by simp,q⟩
def M8{i j:Int}(q:QE (.im (.bl (decide (j<=i)))) hd):WP (gGe (.im (.int i)) (.im (.int j)) hd) QE:=⟨_,_,by simp,q⟩
def CU{i j:Int}(q:QE (.im (.bl (decide (i=j)))) hd):WP (gEq (.im (.int i)) (.im (.int j)) hd) QE:=⟨_,_,by simp,q⟩
def Gy{i j:Int}(q:QE (.im (.bl (!decide (i=j)))) hd):WP (gNe (.im (.int i)) (.im (.int j)) hd) QE:=⟨_,_,by simp,q⟩
def CT{i j:Str}(q:QE (.im (.bl (decide (i=j)))) hd):WP (gEq (.im (.str i)) (.im (.str j)) hd) QE:=⟨_,_,by simp,q⟩
def Fq{i j:Str}(q:QE (.im (.bl (!decide (i=j)))) hd):WP (gNe (.im (.str i)) (.im (.str j)) hd) QE:=⟨_,_,by simp,q⟩
def AF{i:Int}(e1:Az hd d=some ds)(e2:atI ds i=some e)(q:QE e hd):WP (gIx d (.im (.int i)) hd) QE:=⟨_,_,by rw[WQ,e1,bind_some,e2];rfl,q⟩
def Wc(e1:CD hd d=some kvs)(e2:Cu e=some k)(e3:BQ kvs k=some z)(q:QE z hd):WP (CL d e hd) QE:=⟨_,_,by rw[Z0,e1,bind_some,e2,bind_some,e3];rfl,q⟩
def Z8{neg:Bool}(e1:CD hd d=some kvs)(e2:Cu e=some k)(q:QE (.im (.bl (if neg then !(BQ kvs k).isSome else(BQ kvs k).isSome))) hd):WP (Cw neg e d hd) QE:=⟨_,_,by unfold Cw;rw[e1,bind_some,e2];rfl,q⟩
def Ho{i j:Int}(q:QE (.im (.int (max i j))) hd):WP (Dr [.im (.int i),.im (.int j)] hd) QE:=⟨_,_,rfl,by have:(if j>i then j else i)=max i j:=(by split<;>omega);rw[this];exact q⟩
def Hn{i j:Int}(q:QE (.im (.int (min i j))) hd):WP (Gc [.im (.int i),.im (.int j)] hd) QE:=⟨_,_,rfl,by have:(if j<i then j else i)=min i j:=(by split<;>omega);rw[this];exact q⟩
def BK{tp:Bool}{g:List D->Option D}(e1:(if tp then Az hd d else Ak hd d)=some ds)(e2:g ds=some z)(q:QE z hd):WP (f1 tp g [d] hd) QE:=⟨_,_,by rw[eB,e1,bind_some,e2];rfl,q⟩
def Ci{k:Nat}(e1:hd[k]?=some (.lst ds))(c:Dq 83)(q:QE (.im .non) (hd.set k (.lst (ds++[x])))):WP (Ad (.mu k) [x] hd) QE:=⟨_,_,by rw[T1,e1];simp only[c,gz],q⟩
def OS{w:Nat}(h:WE mc ls hd λp x=>WE ma ls x λq y=>WE mb ls y λr z=>∃w k kvs,q=.mu w/\Cu r=some k/\z[w]?=some (.dic kvs)/\Dq kvs.length/\QS (.nx ls) (z.set w (.dic (DS kvs k p)))):WS (Ej ma mb mc) ls hd QS:=by
 obtain⟨p,x,e1,q,y,e2,r,z,e3,w,k,kvs,rfl,e4,e5,c,qq⟩:=h;exact⟨_,_,by simp only[Yz,e1,bind_some,e2,e3,e4,e5,c,gz],qq⟩
def CZ(h:WE mc ls hd λp x=>WE ma ls x λq y=>WE mb ls y λr z=>∃w i j ds,q=.mu w/\r=.im (.int i)/\z[w]?=some (.lst ds)/\ixN 83 i=some j/\QS (.nx ls) (z.set w (.lst (ds.set j p)))):WS (C8 ma mb mc) ls hd QS:=by
 obtain⟨p,x,e1,q,y,e2,r,z,e3,w,i,j,ds,rfl,rfl,e5,c,qq⟩:=h;exact⟨_,_,by simp only[Yx,e1,bind_some,e2,e3,e5,c,i4],qq⟩
def Ax{k n:Nat}{m:MS}{ds:List D}{Q:D->Hd->Prop}(hl:83=k)(h:WS m (ds.map some++List.replicate (n-k) none) hd λf x=>match f with
 |.rt d=>Q d x
 |.nx _=>Q (.im .non) x
 | _=>False):WF (mkF k n m) ds hd Q:=by
 obtain⟨f,x,e,q⟩:=h;unfold WF mkF;rw[gb hl,e];cases f with
 |nx l=>exact⟨_,_,rfl,q⟩
 |rt l=>exact⟨_,_,rfl,q⟩
 |bk l=>exact q.elim
 |ct l=>exact q.elim
def Ap{F:List D->Hd->Option (D×Hd)}(h:WA m ls hd λds x=>Aw 0 ds=true/\WF F ds [] λd _=>∃i,d=.im i/\QE (.im i) x):WE (AD 0 F m) ls hd QE:=by
 obtain⟨ds,x,e,c,d,y,e2,i,rfl,q⟩:=h;exact⟨_,_,Hk e c e2,q⟩
end
structure Tap(T:Nat->MO->MO->Prop)(P:List D->Hd->Option (D×Hd)):Prop where
 cl:∀{k:Nat} {a b:MO},T k a b->clO 2 a=true/\clO 2 b=true
 le:∀{j k:Nat} {a b:MO},T k a b->j<=k->T j a b
 pick:∀{k:Nat} {a b:MO} {many:Int},T (k+1) a b->0<many->many<1073741824->∃r a' b',0<=r/\r<many/\P [.mu 1,.im (.int many)] [a,b]=some (.im (.int r),[a',b'])/\T k a' b'
section
variable{T:Nat->MO->MO->Prop}{P:List D->Hd->Option (D×Hd)}{rest:Hd}{QE:D->Hd->Prop}{n c:Nat}
def Tap.draw(t:Tap T P)(hT:T (n+1) a b){many:Int}(e:m ls hd=some ([.mu 1,.im (.int many)],a::b::rest))(h0:0<many)(h1:many<1073741824)
 (k:∀r a' b',T n a' b'->0<=r->r<many->QE (.im (.int r)) (a'::b'::rest)):WE (AD 2 P m) ls hd QE:=by
 obtain⟨r,a',b',p1,p2,e2,hT'⟩:=t.pick hT h0 h1;refine⟨_,_,O0 (w:=2) (ds:=[.mu 1,.im (.int many)]) (pre:=[a,b]) (pre':=[a',b']) (rest:=rest) (g:=[]) rfl rfl e 71 ?_ ?_ (by simpa using e2),k r a' b' hT' p1 p2⟩
 .simp[t.cl hT]
 .simp[t.cl hT']
end
section
variable{K:Frag}
noncomputable def GH(w:Nat)(ls:Ls):Ls:=ls.map λo=>match o with
 |some d=>if clD w d=true then some d else none
 |none=>none
noncomputable def Ee(w:Nat):Fl->Option Fl
 |.nx ls=>some (.nx (GH w ls))
 |.bk ls=>some (.bk (GH w ls))
 |.ct ls=>some (.ct (GH w ls))
 |.rt d=>if clD w d=true then some (.rt d)else none
noncomputable def Jt(w:Nat)(m:MS):MS:=λls hd=>if hd.length<=w then(m ls hd).bind λp=>if(p.2.take w).all (clO w)=true then(Ee w p.1).map λf=>(f,p.2.take w)else none else none
def RL.trim(h:RL K ρ H ls σ)(w:Nat):RL K (ρ.take w) H (GH w ls) σ:=by
 refine⟨by simp[GH,h.len],λi d e=>?_⟩;unfold GH at e;rw[List.getElem?_map]at e;cases q:ls[i]? with
 |none=>rw[q]at e;cases e
 |some o=>
  rw[q]at e;cases o with
  |none=>simp at e
  |some z=>
   simp only[i4,Option.some.injEq]at e;split at e
   .next c=>
    cases e;obtain⟨v,e1,e2⟩:=h.ob i _ q;exact⟨v,e1,e2.take w c⟩
   .cases e
def Ext.trim(x:Ext ρ H ρ' H'){w:Nat}(h:ρ.length<=w):Ext ρ H (ρ'.take w) H':=by
 obtain⟨r,rfl,fr⟩:=x.pre;refine⟨⟨r.take (w-ρ.length),?_,λb hb=>fr b (List.mem_of_mem_take hb)⟩,x.keep,x.tab⟩;rw[List.take_append,List.take_of_length_le h]
def X4(w:Nat)(h:RS K t m):RS K t (Jt w m):=by
 intro ρ σ H hd ls E f hd' hR hL hm hQ;unfold Jt at hm;split at hm
 .next hw=>
  obtain⟨⟨f1,h1⟩,e1,hm⟩:=gW hm;dsimp only at hm;split at hm
  .next c=>
   obtain⟨f2,e2,e3⟩:=gX hm;cases e3;refine h ρ σ H hd ls E f1 h1 hR hL e1 λρ1 H1 x1 R1=>?_;have q:=hQ (ρ1.take w) H1 (x1.trim (by rw[hR.len];exact hw)) (R1.take w c);cases f1 with
   |nx l=>simp only[Ee,Option.some.injEq]at e2;subst e2;exact λσ' L=>q σ' (L.trim w)
   |bk l=>simp only[Ee,Option.some.injEq]at e2;subst e2;exact λσ' L=>q σ' (L.trim w)
   |ct l=>simp only[Ee,Option.some.injEq]at e2;subst e2;exact λσ' L=>q σ' (L.trim w)
   |rt d=>
    simp only[Ee]at e2;split at e2
    .next c2=>cases e2;exact λv r=>q v (r.take w c2)
    .cases e2
  .cases hm
 .cases hm
def WZ{w:Nat}{Q:Fl->Hd->Prop}(hw:hd.length<=w)(h:WS m ls hd λf x=>(x.take w).all (clO w)=true/\∃f',Ee w f=some f'/\Q f' (x.take w)):WS (Jt w m) ls hd Q:=by
 obtain⟨f,x,e,c,f',e2,q⟩:=h;exact⟨f',x.take w,by unfold Jt;rw[gb hw,e,bind_some];dsimp only;rw[gb c,e2];rfl,q⟩
noncomputable def CV(m:MS):MS:=λls hd=>Jt hd.length m ls hd
def UE(h:RS K t m):RS K t (CV m):=λρ σ H hd ls E f hd' hR hL hm hQ=>X4 hd.length h ρ σ H hd ls E f hd' hR hL hm hQ
def SI(K:Frag){st:List Stmt}(h:QSs K X st t m):QSs K X st t (CV m):=⟨h.p,UE h.r⟩
def GD{Q:Fl->Hd->Prop}(h:WS m ls hd λf x=>(x.take hd.length).all (clO hd.length)=true/\∃f',Ee hd.length f=some f'/\Q f' (x.take hd.length)):WS (CV m) ls hd Q:=WZ (gk _) h
noncomputable def Jw:ME:=λ_ hd=>some (.mu hd.length,hd++[.dic []])
def XS:RE K Mi Jw:=by
 and_intros;cases hm;intro p hp;obtain⟨R0,x0⟩:=hR.new hp (o:=.dic []) (ho:=.dK []) ⟨[],rfl,by simp[RKs]⟩;refine hQ (ρ++[p]) _ _ x0 R0 ?_;simp only[RD];exact⟨p,by rw[<- hR.len];simp,rfl⟩
def Xx(K:Frag):QE K X (.Dict [] [] pos) Mi Jw:=⟨V3,XS⟩
def Fr{Q:D->Hd->Prop}(q:Q (.mu hd.length) (hd++[.dic []])):WE Jw ls hd Q:=⟨_,_,rfl,q⟩
end
mutual
theorem Nr{v w:Nat}(h:v<=w):∀{d:D},clD v d=true->clD w d=true
 |.im i,_=>by simp
 |.mu n,c=>by simp at c ⊢;omega
 |.tm ds,c=>by rw[clD]at c ⊢;exact ES h c
 |.ro ns,_=>by rw[clD]
 |.op _ _ ds,c=>by rw[clD]at c ⊢;exact ES h c
 |.fv _ ds,c=>by rw[clD]at c ⊢;exact ES h c
theorem ES{v w:Nat}(h:v<=w):∀{ds:List D},Aw v ds=true->Aw w ds=true
 |[],_=>by simp
 |d::ds,c=>by
  simp only[TC,Bool.and_eq_true]at c ⊢;exact⟨Nr h c.1,ES h c.2⟩
end
theorem Li{v w:Nat}(h:v<=w):∀{ds:List (Key×D)},FJ v ds=true->FJ w ds=true
 |[],_=>by simp[FJ]
 |d::ds,c=>by
  simp only[FJ,Bool.and_eq_true]at c ⊢;exact⟨Nr h c.1,Li h c.2⟩
def FI{v w:Nat}(h:v<=w)(c:clO v o=true):clO w o=true:=by
 cases o with
 |lst ds=>exact ES h c
 |dic ds=>exact Li h c
section
variable{T:Nat->MO->MO->Prop}{P:List D->Hd->Option (D×Hd)}{rest:Hd}{QE:D->Hd->Prop}
def Tap.callX(t:Tap T P){n c:Nat}(hT:T (n+c) a b)(ex:Hd){w:Nat}{F:List D->Hd->Option (D×Hd)}{R:I->Prop}(e:m ls hd=some (.mu 1::as,a::b::(ex++rest)))(hw:w=ex.length+2)(ha:Aw w as=true)(hx:ex.all (clO w)=true)
 (hF:∀a b,T (n+c) a b->WF F (.mu 1::as) (a::b::ex) λd x=>∃i a' b' g,d=.im i/\R i/\T n a' b'/\x=a'::b'::(ex++g))
 (k:∀i a' b',T n a' b'->R i->QE (.im i) (a'::b'::(ex++rest))):WE (AD w F m) ls hd QE:=by
 subst hw;have hcl:∀o,clO 2 o=true->clO (ex.length+2) o=true:=λo h=>FI 66 h;obtain⟨d,x,e2,i,a',b',g,rfl,hR,hT',rfl⟩:=hF a b hT;refine⟨_,_,O0 (w:=ex.length+2) (ds:=.mu 1::as) (pre:=a::b::ex) (pre':=a'::b'::ex) (rest:=rest) (g:=g) rfl rfl e (by simp[ha]) ?_ ?_ e2,k i a' b' hT' hR⟩
 .simp[hcl _ (t.cl hT).1,hcl _ (t.cl hT).2];simpa using hx
 .simp[hcl _ (t.cl hT').1,hcl _ (t.cl hT').2];simpa using hx
def Tap.call(t:Tap T P){n c:Nat}(hT:T (n+c) a b){F:List D->Hd->Option (D×Hd)}{R:I->Prop}(e:m ls hd=some (.mu 1::as,a::b::rest))(ha:Aw 2 as=true)
 (hF:∀a b,T (n+c) a b->WF F (.mu 1::as) [a,b] λd x=>∃i a' b' g,d=.im i/\R i/\T n a' b'/\x=a'::b'::g)
 (k:∀i a' b',T n a' b'->R i->QE (.im i) (a'::b'::rest)):WE (AD 2 F m) ls hd QE:=
 t.callX hT [] (w:=2) e rfl ha rfl hF k
end
end L2
namespace L2
open PySem PySem.Spec PyProof.Rows
section
variable{Q:Fl->Hd->Prop}{QE:D->Hd->Prop}
def cz(P:Ls->Hd->Prop)(Q:Fl->Hd->Prop):Fl->Hd->Prop
 |.nx l,h=>P l h
 |.ct l,h=>P l h
 |.bk l,h=>Q (.nx l) h
 |.rt d,h=>Q (.rt d) h
def MR(P:Nat->Ls->Hd->Prop){n:Nat}(h:P n ls hd)
 (k:∀n ls hd,P n ls hd->WT c ls hd λt x=>if t=true then WS b ls x (cz (λl y=>∃m,m<n/\P m l y) Q)else Q (.nx ls) x):WS (Cs c b) ls hd Q:=by
 have go:∀n ls hd,P n ls hd->∃j r,B9 c b j ls hd=some r/\Q r.1 r.2:=by
  intro n
  induction n using Nat.strongRecOn with
  |ind n ih=>
   intro ls hd h;obtain⟨t,x,e1,q⟩:=k n ls hd h;cases t with
   |false=>
    rw[gh Bool.false_ne_true]at q;exact⟨1,(.nx ls,x),by unfold B9;rw[e1];rfl,q⟩
   |true=>
    rw[gb rfl]at q;obtain⟨f,y,e2,q⟩:=q;cases f with
    |nx l=>
     obtain⟨m,hm,p⟩:=q;obtain⟨j,r,e3,q3⟩:=ih m hm l y p;exact⟨j+1,r,by unfold B9;rw[e1,bind_some,gb rfl,e2];exact e3,q3⟩
    |ct l=>
     obtain⟨m,hm,p⟩:=q;obtain⟨j,r,e3,q3⟩:=ih m hm l y p;exact⟨j+1,r,by unfold B9;rw[e1,bind_some,gb rfl,e2];exact e3,q3⟩
    |bk l=>exact⟨1,(.nx l,y),by unfold B9;rw[e1,bind_some,gb rfl,e2];rfl,q⟩
    |rt d=>exact⟨1,(.rt d,y),by unfold B9;rw[e1,bind_some,gb rfl,e2];rfl,q⟩
 obtain⟨j,⟨f,x⟩,e,q⟩:=go n ls hd h;exact⟨f,x,LU e,q⟩
def TW{k j:Nat}{i:Int}(e1:hd[k]?=some (.lst ds))(hr:GN i)(e2:ixN 83 i=some j)(e3:ds[j]?=some z)(q:QE z (hd.set k (.lst (ds.eraseIdx j)))):WP (G7 (.mu k) [.im (.int i)] hd) QE:=⟨_,_,by rw[Vc,e1];simp[hr,e2,e3],q⟩
end
end L2
namespace Bd
open PySem L2
@[reducible] noncomputable def Tp:MS:=(A5 (AE 2 109)
 (A5 (BC (B5 74) (BO 2 (AT (AA 3) (AT (AA 4) BR)))
  (A5 (Aa (A8 (mOp gGt (A0 3) (A0 1)))
  (AQ 121)
  AU)
 (AE 2 (A0 4))))
 (AQ 121)))
noncomputable def HR:List D->Hd->Option (D×Hd):=mkF 2 5 Tp
@[reducible] def gU:MS:=(A5 (AE 2 (mOp gIx 74 109))
 (A5 (Aa (A8 (mOp gEq 121 (mC (.str "steps"))))
  (AQ (AD 0 HR (A1 (mOp gIx 74 118) (A1 (A0 1) A4))))
  AU)
 (A5 (Aa (A8 (mOp gEq 121 (mC (.str "ends"))))
  (AQ (mOp Bl (mOp gIx 74 118) (A0 1)))
  AU)
 (A5 (AE 3 (mOp Bs (A0 1) (mOp gIx 74 118)))
 (A5 (Aa (A8 (mOp gEq 121 (mC (.str "late"))))
  (AQ (A0 3))
  AU)
 (A5 (Aa (A8 (mOp gLe (A0 3) 109))
  (AQ 109)
  AU)
 (A5 (Aa (A8 (mOp gEq 121 (mC (.str "tardy"))))
  (AQ (mOp Bl (mOp gIx 74 (mC (.int 2))) (A0 3)))
  AU)
 (AQ (mOp gIx 74 (mC (.int 2)))))))))))
noncomputable def F_cost_at:List D->Hd->Option (D×Hd):=mkF 2 4 gU
theorem E3:∀ns:List Int,I.pys (ns.map I.int)=ns.map PyData.int
 |[]=>by simp[I.pys]
 |n::ns=>by simp[I.pys,I.py,E3 ns]
def Dx(ns:92):B2 (ns.map λi=>D.im (.int i))=some (ns.map I.int):=by
 have:(ns.map λi=>D.im (.int i))=(ns.map I.int).map D.im:=by rw[gY];rfl
 rw[this];exact allIm_map _
def Z1(ns:92):PyData.eqv (.list (ns.map PyData.int)) (.list [])=decide (ns=[]):=by
 cases ns<;>simp[PyData.eqv,PyData.eqvAll]
def lay_ints(ns:92):(PyData.list (ns.map PyData.int)).canLay0=true:=by simp[PyData.canLay0,IY]
def PH(ns:92)(hd:Hd)(neg:Bool):Fc neg (.list (ns.map PyData.int)) (.list []) hd=some (.im (.bl (if neg then !decide (ns=[])else decide (ns=[]))),hd):=by
 unfold Fc;rw[gb,Z1];refine⟨lay_ints ns,by simp[PyData.canLay0,PyData.canLayAll0],?_⟩;have:(PyData.list []).depth<=1:=by simp[PyData.depth,PyData.depthAll]
 omega
def FR{x:Int}(m:Int)(h:0<m):0<=x%m/\x%m<m:=⟨Int.emod_nonneg _ 66,Int.emod_lt_of_pos _ h⟩
def eJ(h:xs≠[])(n:Int):∃c,atI (xs.map λi=>D.im (.int i)) (n%(xs.length:Int))=some (.im (.int c)):=by
 have hl:0<xs.length:=G5 h;obtain⟨a,b⟩:=FR (x:=n) (xs.length:Int) 66;obtain⟨k,hk⟩:=Int.eq_ofNat_of_zero_le a;have hk':k<xs.length:=by omega
 exact⟨xs[k],L9 hk (by simp[hk'])⟩
def po1:QD 10 18:=by unfold QD;decide
inductive Cost where
 |late (d:Int)|tardy (d w:Int)|miss (d w:Int)|ends (w:Int)|steps (rows:List (Int×Int))
noncomputable def GM(r:Int×Int):I:=.tup [.int r.1,.int r.2]
noncomputable def Ai:Cost->I
 |.late d=>.tup [.str "late",.int d]
 |.tardy d w=>.tup [.str "tardy",.int d,.int w]
 |.miss d w=>.tup [.str "miss",.int d,.int w]
 |.ends w=>.tup [.str "ends",.int w]
 |.steps rows=>.tup [.str "steps",.tup (rows.map GM)]
noncomputable def BP(t:Int):List (Int×Int)->Int->Int
 |[],told=>told
 |(b,a)::r,told=>if t<b then told else BP t r a
noncomputable def Cost.at:Cost->Int->Int
 |.late d,t=>t-d
 |.tardy d w,t=>if t-d<=0 then 0 else w*(t-d)
 |.miss d w,t=>if t-d<=0 then 0 else w
 |.ends w,t=>w*t
 |.steps rows,t=>BP t rows 0
def Cost.wok:Cost->Prop
 |.tardy _ w=>0<=w/\w<=1000000
 |.miss _ w=>0<=w/\w<=1000000
 |.ends w=>0<=w/\w<=1000000
 |_=>True
def n1:¬ (("late":Str)="steps"):=by decide +kernel
def n2:¬ (("tardy":Str)="steps"):=by decide +kernel
def n3:¬ (("miss":Str)="steps"):=by decide +kernel
def n4:¬ (("ends":Str)="steps"):=by decide +kernel
def n5:¬ (("late":Str)="ends"):=by decide +kernel
def n6:¬ (("tardy":Str)="ends"):=by decide +kernel
def n7:¬ (("miss":Str)="ends"):=by decide +kernel
def n8:¬ (("tardy":Str)="late"):=by decide +kernel
def n9:¬ (("miss":Str)="late"):=by decide +kernel
def n10:¬ (("miss":Str)="tardy"):=by decide +kernel
theorem Ja(t:Int)(z:D)(hd:Hd):∀(rows:List (Int×Int)) (told:Int) (x y:Option D),∃fl x' y',Bg (BO 2 (AT (AA 3) (AT (AA 4) BR))) (A5 (Aa (A8 (mOp gGt (A0 3) (A0 1))) (AQ 121) AU) (AE 2 (A0 4))) [] ((rows.map GM).map .im)
 [some z,some (.im (.int t)),some (.im (.int told)),x,y] hd=some (fl,hd)/\(fl=.rt (.im (.int (BP t rows told)))∨fl=.nx [some z,some (.im (.int t)),some (.im (.int (BP t rows told))),x',y'])
 |[],told,x,y=>⟨_,x,y,NS,.inr rfl⟩
 |(b,a)::rows,told,x,y=>by
   by_cases h:t<b
   .refine⟨_,x,y,VN (ls1:=[some z,some (.im (.int t)),some (.im (.int told)),some (.im (.int b)),some (.im (.int a))]) (by simp[GM]) (v:=.im (.int told)) (hd2:=hd) ?_,.inl ?_⟩
    .simp[h]
    .simp[BP,h]
   .obtain⟨fl,x',y',e,q⟩:=Ja t z hd rows a (some (.im (.int b))) (some (.im (.int a)));refine⟨fl,x',y',?_,?_⟩
    .rw[<- e];refine HU (ls1:=[some z,some (.im (.int t)),some (.im (.int told)),some (.im (.int b)),some (.im (.int a))]) (by simp[GM]) ?_ (AK _);simp[h]
    .simpa [BP,h]using q
def OC(rows:List (Int×Int))(t:Int):HR [.im (.tup (rows.map GM)),.im (.int t)] []=some (.im (.int (BP t rows 0)),[]):=by
 obtain⟨fl,x',y',e,q⟩:=Ja t (.im (.tup (rows.map GM))) [] rows 0 none none;rcases q with rfl|rfl
 .simp[HR,mkF]at e ⊢;simp[e]
 .simp[HR,mkF]at e ⊢;simp[e]
def KA(c:Cost)(t:Int)(h:c.wok):F_cost_at [.im (Ai c),.im (.int t)] []=some (.im (.int (c.at t)),[]):=by
 cases c with
 |late d=>simp[F_cost_at,mkF,Ai,n1,n5,Cost.at]
 |tardy d w=>
  have b1:∀j,Eg w j:=λj=>DZ (by obtain⟨a,b⟩:=h;omega) (by obtain⟨a,b⟩:=h;omega);by_cases q:t-d<=0
  .simp[F_cost_at,mkF,Ai,n2,n6,n8,Cost.at,q]
  .simp[F_cost_at,mkF,Ai,n2,n6,n8,Cost.at,q,b1]
 |miss d w=>
  by_cases q:t-d<=0
  .simp[F_cost_at,mkF,Ai,n3,n7,n9,Cost.at,q]
  .simp[F_cost_at,mkF,Ai,n3,n7,n9,n10,Cost.at,q]
 |ends w=>
  have b1:∀j,Eg w j:=λj=>DZ (by obtain⟨a,b⟩:=h;omega) (by obtain⟨a,b⟩:=h;omega);simp[F_cost_at,mkF,Ai,n4,Cost.at,b1]
 |steps rows=>
  have:=Hk (m:=A1 (mOp gIx 74 118) (A1 (A0 1) A4)) (ls:=[some (.im (Ai (.steps rows))),some (.im (.int t)),some (.im (.str "steps")),none]) (hd:=[]) (hd1:=[]) (F:=HR) (ds:=[.im (.tup (rows.map GM)),.im (.int t)]) (by simp[Ai]) 71 (OC rows t);simp[Ai]at this;simp[F_cost_at,mkF,Ai,Cost.at,this]
def CF(w:Nat)(ns:92):Aw w (ns.map λi=>D.im (.int i))=true:=by induction ns<;>simp_all [Aw,clD]
noncomputable abbrev Am(ks:77):I:=.tup (ks.map λk:Nat=>.int k)
end Bd
namespace L2
open PySem PySem.Spec PyProof.Rows
structure OkP(w dp:Nat)(d:PyData):Prop where
 sh:d.showable=true
 lay:d.canLay0=true
 it:d.intsShort 13=true
 dp:d.depth<=dp
 wt:d.weight<=w
structure OkPs(w dp n:Nat)(ds:List PyData):Prop where
 sh:PyData.showableAll ds=true
 lay:PyData.canLayAll0 ds=true
 it:PyData.intsShortAll 13 ds=true
 dp:PyData.depthAll ds<=dp
 wt:PyData.weightAll ds<=n*(w+1)
def sm(i:Int):Prop:=-1000000000<=i/\i<=1000000000
theorem OkP.int{i:Int}(h:sm i):OkP 40 0 (.int i):=by
 have h1:i.natAbs<10^10:=by obtain⟨a,b⟩:=h;omega
 have h0:i.natAbs<2^38:=by obtain⟨a,b⟩:=h;omega
 have lg:i.natAbs.log2<38:=by
  by_cases z:i.natAbs=0
  .rw[z];decide
  .exact(Nat.log2_lt z).mpr h0
 refine⟨?_,by simp[PyData.canLay0],?_,by simp[PyData.depth],?_⟩
 .simp only[PyData.showable];exact iC 66
 .simp only[PyData.intsShort,PyData.shown];refine iC ?_;have h2:=int_text_length_le10 (a:=i) (k:=10) 97 h1;rw[PySem.ofString_length];omega
 .simp only[PyData.weight];split<;>omega
def OkP.mono{w w' dp dp':Nat}(h:OkP w dp d)(a:w<=w')(b:dp<=dp'):OkP w' dp' d:=⟨h.sh,h.lay,h.it,gw h.dp b,gw h.wt a⟩
def OkPs.nil{w dp:Nat}:OkPs w dp 0 []:=⟨by simp[PyData.showableAll],by simp[PyData.canLayAll0],by simp[PyData.intsShortAll],by simp[PyData.depthAll],by simp[PyData.weightAll]⟩
def OkPs.cons{w dp n:Nat}(h:OkP w dp d)(t:OkPs w dp n ds):OkPs w dp (n+1) (d::ds):=by
 refine⟨by simp[PyData.showableAll,h.sh,t.sh],by simp[PyData.canLayAll0,h.lay,t.lay],by simp[PyData.intsShortAll,h.it,t.it],?_,?_⟩
 .simp only[PyData.depthAll];exact Nat.max_le.mpr ⟨h.dp,t.dp⟩
 .simp only[PyData.weightAll];have:=h.wt;have:=t.wt;rw[Nat.add_mul];omega
def OkPs.tup{w dp n:Nat}(t:OkPs w dp n ds):OkP (n*(w+1)) (dp+1) (.tuple ds):=by
 refine⟨?_,?_,?_,?_,?_⟩
 .rw[PyData.showable];exact t.sh
 .rw[PyData.canLay0];exact t.lay
 .rw[PyData.intsShort];exact t.it
 .rw[PyData.depth];have:=t.dp;omega
 .rw[PyData.weight];exact t.wt
def OkP.repr{w dp:Nat}(h:OkP w dp d)(hd:isDisplay d=true)(h1:dp<=30)(h2:w<=2^20):Fx d:=by
 have hl:d.layable0=true:=by
  unfold PyData.layable0;rw[h.lay,iC (show d.depth<=64 by have:=h.dp;omega),iC (show d.weight<=2^20 by have:=h.wt;omega)];rfl
 exact⟨h.sh,PyData.hasDict_of_canLay d h.lay,hd,gw h.dp h1,gw (PyProof.Rows.shown_le13 hl h.it) 97⟩
theorem SX{w dp:Nat}:∀{is:List I},(∀i∈is,OkP w dp i.py)->OkPs w dp is.length (I.pys is)
 |[],_=>by simp only[I.pys];exact OkPs.nil
 |i::is,h=>by simp only[I.pys,i7];exact(SX λj hj=>h j (gp _ hj)).cons (h i gq)
def DY{w dp:Nat}(h:∀i∈is,OkP w dp i.py):OkP (is.length*(w+1)) (dp+1) (I.py (.tup is)):=by
 rw[I.py];exact(SX h).tup
def Hx{i:Int}(h:sm i):OkP 40 0 (I.py (.int i)):=by rw[I.py];exact .int h
end L2
namespace Bd
open PySem L2
def YQ(x:Str)(h:x="late"∨x="tardy"∨x="miss"∨x="ends"∨x="steps"):OkP 40 0 (I.py (.str x)):=by
 rw[I.py];rcases h with rfl|rfl|rfl|rfl|rfl<;>exact⟨by decide +kernel,by decide +kernel,by decide +kernel,by decide +kernel,by decide +kernel⟩
def Vg(ns:92)(lo hi:Option Int):∃cs:List Int,Eb (ns.map λn=>.im (.int n)) lo hi=cs.map λn=>.im (.int n):=⟨(ns.drop _).take _,by unfold Eb;rw[map_take,List.map_drop]⟩
noncomputable abbrev AH(ks:77):List D:=ks.map λk:Nat=>D.im 105
def Yn{n:Nat}{i:Int}(a:0<=i)(b:i<n):ixN n i=some i.toNat:=by unfold ixN;rw[gb a,gb b]
theorem Jp:∀{a:77} {k x:Nat},a[k]?=some x->(x::a.eraseIdx k).Perm a
 |[],k,x,h=>by simp at h
 |y::r,0,x,h=>by simp at h;subst h;exact .refl _
 |y::r,k+1,x,h=>by
  have ih:=Jp (a:=r) (k:=k) (x:=x) (by simpa using h);exact(List.Perm.swap y x _).trans (ih.cons y)
theorem Lh{α β:Type}(f:α->β):∀(l:List α) (k:Nat),(l.map f).eraseIdx k=(l.eraseIdx k).map f
 |[],k=>rfl
 |y::r,0=>rfl
 |y::r,k+1=>by simp[Lh f r k]
def SQ{k x:Nat}(h:a[k]?=some x):(b++[x]++a.eraseIdx k).Perm (b++a):=by
 rw[iE];exact List.Perm.append_left b (Jp h)
noncomputable def MJ(p:Int×Int):I:=.tup [.int p.1,.int p.2]
def Along(seq:77)(ps:List (Int×Int)):Prop:=∀p∈ps,∃i j a b:Nat,i<j/\seq[i]?=some a/\seq[j]?=some b/\p=((a:Int),(b:Int))
def Sb{i a:Nat}(h:seq[i]?=some a):atI (AH seq) (i:Int)=some (.im (.int (a:Int))):=L9 rfl (by simp[h])
def Vf(xs:List D)(k:Nat):Eb xs none (some (k:Int))=xs.take k:=by
 unfold Eb;rw[HT.sIx_none,HT.sIx_nat,Nat.sub_zero,List.drop_zero];by_cases h:k<=88
 .rw[Nat.min_eq_left h]
 .rw[Nat.min_eq_right 66,List.take_length,List.take_of_length_le 66]
def CI(n:Nat):Ah 0 n=AH (68 n):=by
 refine ext_getElem? λi=>?_;by_cases h:i<n
 .rw[Jl h];simp[h]
 .rw[List.getElem?_eq_none 86,List.getElem?_eq_none 86]
theorem Along.pok{seq:77}{n:Nat}(hp:seq.Perm (68 n))(hn:n<=1000)(h:Along seq ps):∀p∈ps,pok p:=by
 intro p hp';obtain⟨i,j,a,b,_,ea,eb,rfl⟩:=h p hp';have ha:a<n:=by simpa using hp.mem_iff.mp (i6 ea)
 have hb:b<n:=by simpa using hp.mem_iff.mp (i6 eb)
 exact⟨by show -1000000000<=(a:Int);omega,by show(a:Int)<=1000000000;omega,by show -1000000000<=(b:Int);omega,by show(b:Int)<=1000000000;omega⟩
noncomputable abbrev intD(xs:92):List D:=xs.map λx=>D.im (.int x)
noncomputable abbrev F1:MS:=(Aa (Bj (A8 (mOp gEq (A0 5) (A0 4))) (A8 (mOp (gIn true) (A0 6) 121)))
 (A5 (B0 (mMt Ad 121 (A1 (A0 6) A4)))
 (B0 (mMt Ad (A0 3) (A1 (A0 6) A4))))
  AU)
noncomputable abbrev Na:MS:=(A5 (AE 4 (mMt Hc (A0 3) A4))
 (BC (Ct 74) (BO 2 (AT (AA 5) (AT (AA 6) BR))) F1))
@[reducible] noncomputable def Le:MS:=(A5 (AE 2 (AV (Ac A4)))
 (A5 (AE 3 (AV (Ac (A1 (A0 1) A4))))
 (A5 (Cs (DT (A0 3)) Na)
 (AQ (B7 BD (Bu (BJ 121)))))))
noncomputable def F_reached:List D->Hd->Option (D×Hd):=mkF 2 7 Le
def Ss(xs:92):Bz (intD xs)=some (xs.map V.int):=by
 induction xs with
 |nil=>rfl
 |cons x r ih=>simp[Bz,Em]at ih ⊢;exact ih
def VU(x:Int)(xs:92):inV (.int x) (xs.map V.int)=decide (x∈xs):=by
 unfold inV
 induction xs with
 |nil=>simp
 |cons y r ih=>
  simp only[gv,iO,ih,mem_cons];have:eqV (V.int y) (V.int x)=decide (x=y):=by
   unfold eqV;by_cases h:x=y
   .subst h;simp
   .have h':¬ y=x:=λz=>h z.symm;simp[h,h']
  rw[this,Bool.decide_or]
def in_ints(x:Int)(neg:Bool)(h:Az hd d=some (intD xs)):gIn neg (.im (.int x)) d hd=some (.im (.bl (if neg then !decide (x∈xs)else decide (x∈xs))),hd):=by
 simp only[gIn,Em,bind_some,h,Ss,i4,VU]
def g0(hd:Hd)(x y:MO):(hd++[x,y])[hd.length]?=some x:=by simp
def g1(hd:Hd)(x y:MO):(hd++[x,y])[hd.length+1]?=some y:=by simp
def t0(hd:Hd)(x y z:MO):(hd++[x,y]).set hd.length z=hd++[z,y]:=by simp
def t1(hd:Hd)(x y z:MO):(hd++[x,y]).set (hd.length+1) z=hd++[x,z]:=by simp
theorem HC(P:D)(hd:Hd)(g:Gd)(G:GOk hd g)(a at_:Int):∀(qs:List (Int×Int)) (found fresh:92) (z5 z6:Option D),found.length+qs.length<=1000->fresh.length+qs.length<=10000->∃(new:92) (y5 y6:Option D),
 Bg (BO 2 (AT (AA 5) (AT (AA 6) BR))) F1 g (qs.map AZ) [some P,some (.im (.int a)),some (.mu hd.length),some (.mu (hd.length+1)),some (.im (.int at_)),z5,z6] (hd++[.lst (intD found),.lst (intD fresh)]) =
  some (.nx [some P,some (.im (.int a)),some (.mu hd.length),some (.mu (hd.length+1)),some (.im (.int at_)),y5,y6],hd++[.lst (intD (found++new)),.lst (intD (fresh++new))])/\
 new.length<=qs.length/\new.Nodup/\(∀y∈new,y∉found/\(at_,y)∈qs)/\∀y,(at_,y)∈qs->y∈found++new
 |[],found,fresh,z5,z6,_,_=>⟨[],z5,z6,by simp[NS],by simp,.nil,λy h=>by simp at h,λy h=>by simp at h⟩
 |(u,v)::qs,found,fresh,z5,z6,hf,hr=>by
   simp only[i7]at hf hr;have gg:∀r:Hd,GOk (hd++r) g:=λr=>Yu G r;have nm:∀z5 z6:Option D,∀h:Hd,BO 2 (AT (AA 5) (AT (AA 6) BR)) (AZ (u,v)) [some P,some (.im (.int a)),some (.mu hd.length),some (.mu (hd.length+1)),some (.im (.int at_)),z5,z6] h=some [some P,some (.im (.int a)),some (.mu hd.length),some (.mu (hd.length+1)),some (.im (.int at_)),some (.im (.int u)),some (.im (.int v))]:=λz5 z6 h=>by simp[AZ]
   have sv:Az (hd++[.lst (intD found),.lst (intD fresh)]) (.mu hd.length)=some (intD found):=by rw[Vt,IB,g0]
   have gi:=in_ints v true sv;by_cases c:u=at_/\v∉found
   .obtain⟨new,y5,y6,q,l,nd,fr,al⟩:=HC P hd g G a at_ qs (found++[v]) (fresh++[v]) (some (.im (.int u))) (some (.im (.int v))) 86 86;refine⟨v::new,y5,y6,?_,by simp;omega,?_,λy hy=>?_,λy hy=>?_⟩
    .have e1:found++v::new=found++[v]++new:=by simp
     have e2:fresh++v::new=fresh++[v]++new:=by simp
     rw[e1,e2,<- q,gv];have f1:Dq found.length:=BB 66;have f2:Dq fresh.length:=BB 66;refine HU (nm _ _ _) ?_ (gg _);simp only[F1,Ni,Nk,II,MN,Ds,List.getElem?_cons_zero,List.getElem?_cons_succ,bind_some,Ky,Nj,c.1,decide_true,gz,Bool.false_eq_true,i5,gi,c.2,ji,Bool.not_false,K4,Yy,Qm,IB,g0,g1,Kz,K5,T1,gZ,f1,f2,t0,t1,ig,gv,ie]
    .refine nodup_cons.mpr ⟨λh=>(fr v h).1 71,nd⟩
    .rcases mem_cons.mp hy with rfl|hy
     .exact⟨c.2,by rw[c.1];exact gq⟩
     .have:=fr y hy;exact⟨λh=>this.1 (by simp[h]),gp _ this.2⟩
    .rcases mem_cons.mp hy with h|h
     .cases h;simp
     .have:=al y h;simp at this ⊢;rcases this with h|h|h
      .exact .inl h
      .exact .inr (.inl h)
      .exact .inr (.inr h)
   .obtain⟨new,y5,y6,q,l,nd,fr,al⟩:=HC P hd g G a at_ qs found fresh (some (.im (.int u))) (some (.im (.int v))) 66 66;refine⟨new,y5,y6,?_,by simp;omega,nd,λy hy=>⟨(fr y hy).1,gp _ (fr y hy).2⟩,λy hy=>?_⟩
    .rw[<- q,gv];refine HU (nm _ _ _) ?_ (gg _);by_cases c1:u=at_
     .have c2:v∈found:=Classical.not_not.mp λh=>c ⟨c1,h⟩;simp only[F1,Ni,Nk,II,MN,Ds,List.getElem?_cons_zero,List.getElem?_cons_succ,bind_some,Ky,Nj,c1,decide_true,gz,Bool.false_eq_true,i5,gi,c2,Bool.not_true,P6]
     .simp only[F1,Ni,Nk,II,MN,Ds,List.getElem?_cons_zero,List.getElem?_cons_succ,bind_some,Ky,Nj,c1,ji,gz,Bool.false_eq_true,i5,P6]
    .rcases mem_cons.mp hy with h|h
     .cases h;have c2:v∈found:=Classical.not_not.mp λh=>c ⟨rfl,h⟩;simp[c2]
     .exact al y h
end Bd
namespace L2
open PySem PySem.Spec PyProof.Rows
def Ck(p:Key×D)(r:List (Key×D))(k:Key):BQ (p::r) k=if p.1=k then some p.2 else BQ r k:=by
 unfold BQ;rw[iF];by_cases e:p.1=k<;>simp[e]
theorem Ma(k:Key):∀kvs:List (Key×D),(kvs.any λkv=>decide (kv.1=k))=(BQ kvs k).isSome
 |[]=>rfl
 |p::r=>by
  rw[iO,Ck];by_cases e:p.1=k
  .simp[e]
  .rw[gh e,iA e,Bool.false_or];exact Ma k r
theorem MZ(k j:Key)(y:D):∀kvs:List (Key×D),BQ (kvs.map λkv=>if kv.1=k then(kv.1,y)else kv) j=(BQ kvs j).map λx=>if j=k then y else x
 |[]=>rfl
 |p::r=>by
  have ih:=MZ k j y r;rw[gv,Ck,Ck,ih];by_cases h:p.1=k
  .rw[gb h];by_cases e:p.1=j
   .have:j=k:=e.symm.trans h;simp[e,this]
   .simp[e]
  .rw[gh h];by_cases e:p.1=j
   .have:¬ j=k:=λz=>h (e.trans z);simp[e,this]
   .simp[e]
theorem LG(k j:Key)(y:D):∀kvs:List (Key×D),BQ kvs k=none->BQ (kvs++[(k,y)]) j=if j=k then some y else BQ kvs j
 |[],_=>by
  rw[iL,Ck];by_cases e:k=j
  .subst e;simp
  .have:¬ j=k:=λz=>e z.symm;simp[e,this]
 |p::r,hn=>by
  rw[Ck]at hn;have hk:¬ p.1=k:=λz=>by rw[gb z]at hn;cases hn
  rw[gh hk]at hn;have ih:=LG k j y r hn;rw[iI,Ck,Ck,ih];by_cases e:p.1=j
  .have:¬ j=k:=λz=>hk (e.trans z);simp[e,this]
  .simp[e]
def Tg(kvs:List (Key×D))(k j:Key)(y:D):BQ (DS kvs k y) j=if j=k then some y else BQ kvs j:=by
 unfold DS;rw[Ma];by_cases a:(BQ kvs k).isSome=true
 .rw[gb a,MZ];by_cases e:j=k
  .subst e;obtain⟨x,hx⟩:=isSome_iff_exists.mp a;simp[hx]
  .simp[e]
 .rw[gh a];exact LG k j y kvs (by simpa using a)
def Iw(kvs:List (Key×D))(k:Key)(y:D):(DS kvs k y).length<=kvs.length+1:=by
 unfold DS;split<;>simp
def DicI(kvs:List (Key×D))(g:Nat->Option Int):Prop:=∀k:Nat,BQ kvs (.inl (k:Int))=(g k).map λv=>.im (.int v)
def DicI.nil:DicI [] λ_=>none:=λk=>rfl
def DicI.put{g:Nat->Option Int}(h:DicI kvs g)(k:Nat)(v:Int):DicI (DS kvs (.inl (k:Int)) (.im (.int v))) λj=>if j=k then some v else g j:=λj=>by
 rw[Tg];by_cases e:j=k
 .subst e;simp
 .have:¬ (Sum.inl (j:Int):Key)=Sum.inl (k:Int):=λz=>e (by have:=Sum.inl.inj z;omega);rw[gh this];dsimp only;rw[gh e];exact h j
section
variable{ls:Ls}{hd:Hd}{QE:D->Hd->Prop}{QI:List D×Gd->Hd->Prop}{ma:ME}{n:MG}{ta:MT}{mi:MI}{m:MA}
def DR{g:Nat->Option Int}{k:Nat}{v:Int}(e1:CD hd d=some kvs)(h:DicI kvs g)(e:g k=some v)(q:QE (.im (.int v)) hd):WP (CL d (.im 105) hd) QE:=
 Wc e1 rfl (by rw[h k,e];rfl) q
def Hr{g:Nat->Option Int}{k:Nat}{neg:Bool}(e1:CD hd d=some kvs)(h:DicI kvs g)(q:QE (.im (.bl (if neg then !(g k).isSome else(g k).isSome))) hd):WP (Cw neg (.im 105) d hd) QE:=
 Z8 e1 rfl (by rw[h k,isSome_map];exact q)
def Z7{x:Int}{neg:Bool}(e1:Az hd d=some (Bd.intD xs))(q:QE (.im (.bl (if neg then !decide (x∈xs)else decide (x∈xs)))) hd):WP (gIn neg (.im (.int x)) d hd) QE:=WP.eq (Bd.in_ints x neg e1) q
def eT(h:WE ma ls hd λd x=>(∃is,d=.im (.tup is)/\QI (is.map .im,[]) x)∨∃k ds,d=.mu k/\x[k]?=some (.lst ds)/\QI (ds,[(k,ds)]) x):WI (Ct ma) ls hd QI:=by
 obtain⟨d,x,e,h⟩:=h;rcases h with⟨is,rfl,q⟩|⟨k,ds,rfl,e2,q⟩
 .exact⟨_,_,P1 e,q⟩
 .exact⟨_,_,cC e e2,q⟩
def Wm{mm:Ls->Hd->Option (List (Key×D)×Hd)}(h:WP (mm ls hd) λkvs x=>QE (.mu x.length) (x++[.dic kvs])):WE (Jv mm) ls hd QE:=WP.bind (h.mono λ_ _ q=>WP.some q)
def TY{α:Type}{k:Nat}{ix:77}{a0:α}{me:MM α}{Q:α->Hd->Prop}(h:WI mi ls hd λp x=>WP (mGo n ta me p.2 p.1 (Dw k ix ls) x a0) Q):WP (HQ k ix mi n ta a0 me ls hd) Q:=WP.bind (h.mono λ_ _ q=>q)
theorem MU{α:Type}{me:MM α}{g:Gd}{Q:α->Hd->Prop}(P:List D->α->Ls->Hd->Prop):∀{ds:List D} {a:α} {ls:Ls} {hd:Hd},P ds a ls hd ->
 (∀d r a ls hd,P (d::r) a ls hd->∃ls1,n d ls hd=some ls1/\WT ta ls1 hd λc x=>if c=true then WP (me ls1 x a) λa' y=>GOk y g/\P r a' ls1 y else GOk x g/\P r a ls1 x) ->
 (∀a ls hd,P [] a ls hd->Q a hd)->WP (mGo n ta me g ds ls hd a) Q
 |[],a,ls,hd,h,k,z=>⟨_,_,by unfold mGo;rfl,z _ _ _ h⟩
 |d::r,a,ls,hd,h,k,z=>by
  obtain⟨ls1,e1,c,x,e2,q⟩:=k d r a ls hd h;unfold mGo;rw[e1,bind_some,e2,bind_some];cases c with
  |true=>
   rw[gb rfl]at q ⊢;obtain⟨a',y,e3,g3,p3⟩:=q;rw[e3,bind_some];dsimp only;rw[gb g3];exact MU P p3 k z
  |false=>
   rw[gh Bool.false_ne_true]at q ⊢;dsimp only;rw[gb q.1];exact MU P q.2 k z
def Z9{a:List (Key×D)}{Q:List (Key×D)->Hd->Prop}(h:WE mk ls hd λd x=>WE mv ls x λe y=>∃k,Cu d=some k/\Dq a.length/\Q (DS a k e) y):WP (Hz mk mv ls hd a) Q:=by
 obtain⟨d,x,e1,e,y,e2,k,e3,c,q⟩:=h;exact⟨_,_,by simp only[Hz,e1,bind_some,e2,e3,c,gz],q⟩
def As{α:Type}{g:Gd}{QA:List D->Hd->Prop}(inj:α->D)(f:α->Option D)(L:D->Ls->Prop)(l0:Ls){xs:List α}{hd:Hd}(hg:GOk hd g)
 (k:∀x∈xs,∀ls,ls=l0∨(∃d,L d ls)->∃ls1,n (inj x) ls hd=some ls1/\L (inj x) ls1/\WT ta ls1 hd λc y=>y=hd/\if c=true then ∃z,f x=some z/\WE ma ls1 hd λe y=>y=hd/\e=z else f x=none)
 (q:QA (xs.filterMap f) hd):WP (CC n ta ma g (xs.map inj) l0 hd) QA:=by
 have go:∀(xs':List α) (ls:Ls),(∀x∈xs',x∈xs)->(ls=l0∨∃d,L d ls)->CC n ta ma g (xs'.map inj) ls hd=some (xs'.filterMap f,hd):=by
  intro xs'
  induction xs' with
  |nil=>intro ls _ _;unfold CC;rfl
  |cons x r ih=>
   intro ls hs hl;obtain⟨ls1,e1,L1,c,y,e2,rfl,q⟩:=k x (hs x gq) ls hl;have ih:=ih ls1 (λz hz=>hs z (gp _ hz)) (.inr ⟨_,L1⟩);rw[gv];unfold CC;rw[e1,bind_some,e2,bind_some];cases c with
   |true=>
    rw[gb rfl]at q;obtain⟨z,ez,e,y,e3,rfl,rfl⟩:=q;rw[gb rfl,e3,bind_some];dsimp only;rw[gb hg,ih,iG,ez];rfl
   |false=>
    rw[gh Bool.false_ne_true]at q;rw[gh Bool.false_ne_true];dsimp only;rw[gb hg,ih,iG,q]
 exact⟨_,_,go xs l0 (λ_ h=>h) (.inl rfl),q⟩
end
mutual
noncomputable def shD(k:Nat):D->D
 |.im i=>.im i
 |.mu n=>.mu (n+k)
 |.tm ds=>.tm (EV k ds)
 |.ro ns=>.ro ns
 |.op nm fs ds=>.op nm fs (EV k ds)
 |.fv m ds=>.fv m (EV k ds)
noncomputable def EV(k:Nat):List D->List D
 |[]=>[]
 |d::ds=>shD k d::EV k ds
end
noncomputable def Ij(k:Nat):List (Key×D)->List (Key×D)
 |[]=>[]
 |d::ds=>(d.1,shD k d.2)::Ij k ds
noncomputable def shO(k:Nat):MO->MO
 |.lst ds=>.lst (EV k ds)
 |.dic kvs=>.dic (Ij k kvs)
section
variable{K:Frag}
mutual
theorem RD.shift(ρ1:108):∀{d:D} {v:V},RD K ρ H d v->RD K (ρ1++ρ) H (shD ρ1.length d) v
 |.im i,v,h=>by simp only[RD,shD]at h ⊢;exact h
 |.mu n,v,h=>by
  simp only[RD,shD]at h ⊢;obtain⟨a,e,q⟩:=h;exact⟨a,by rw[List.getElem?_append_right 66,Nat.add_sub_cancel];exact e,q⟩
 |.tm ds,v,h=>by
  simp only[RD,shD]at h ⊢;obtain⟨a,xs,e,q,z⟩:=h;exact⟨a,xs,e,q,RDs.shift ρ1 z⟩
 |.ro ns,v,h=>by simp only[RD,shD]at h ⊢;exact h
 |.op nm fs ds,v,h=>by
  simp only[RD,shD]at h ⊢;obtain⟨a,xs,e,q,z⟩:=h;exact⟨a,xs,e,q,RDs.shift ρ1 z⟩
 |.fv k ds,v,h=>by
  simp only[RD,shD]at h ⊢;obtain⟨a,xs,e,q,z⟩:=h;exact⟨a,xs,e,q,RDs.shift ρ1 z⟩
theorem RDs.shift(ρ1:108):∀{d:List D} {v:List V},RDs K ρ H d v->RDs K (ρ1++ρ) H (EV ρ1.length d) v
 |[],v,h=>by simpa only[RDs,EV]using h
 |d::ds,v,h=>by
  simp only[RDs,EV]at h ⊢;obtain⟨x,r',e,q,z⟩:=h;exact⟨x,r',e,q.shift ρ1,RDs.shift ρ1 z⟩
end
theorem RKs.shift(ρ1:108):∀{d:List (Key×D)} {v:List (Key×V)},RKs K ρ H d v->RKs K (ρ1++ρ) H (Ij ρ1.length d) v
 |[],v,h=>by simpa only[RKs,Ij]using h
 |d::ds,v,h=>by
  simp only[RKs,Ij]at h ⊢;obtain⟨x,r',e,q1,q,z⟩:=h;exact⟨x,r',e,q1,q.shift ρ1,RKs.shift ρ1 z⟩
theorem RC.shift(ρ1:108)(h:RC K ρ H o ho):RC K (ρ1++ρ) H (shO ρ1.length o) ho:=by
 cases o with
 |lst ds=>obtain⟨xs,e,q⟩:=h;exact⟨xs,e,q.shift ρ1⟩
 |dic ds=>obtain⟨xs,e,q⟩:=h;exact⟨xs,e,q.shift ρ1⟩
def RH.join(R1:RH K ρ H h1)(x:Ext [] H ρ' H')(R2:RH K ρ' H' h2):RH K (ρ++ρ') H' (h1++h2.map (shO ρ.length))/\Ext ρ H (ρ++ρ') H':=by
 obtain⟨r,er,fr⟩:=x.pre;have er:ρ'=r:=by simpa using er
 subst er;have kp:∀b o,H b=some o->(∀ps,o≠.tbl ps)->H' b=some o:=λb o e t=>x.keep b o e 71 t;have gr:Grow H H':=⟨λb o s e=>kp b _ e (Mo s)⟩
 refine⟨⟨by simp[R1.len,R2.len],?_,R2.tabs,λn o a e1 e2=>?_⟩,⟨⟨ρ',rfl,fr⟩,λb o e _ t=>kp b o e t,x.tab⟩⟩
 .rw[nodup_append];refine⟨R1.nd,R2.nd,λa ha b hb z=>?_⟩;subst z;exact R1.out (fr a hb) ha
 .by_cases hn:n<ρ.length
  .rw[List.getElem?_append_left hn]at e2;rw[List.getElem?_append_left (by rw[<- R1.len];exact hn)]at e1;obtain⟨ho,q1,q2⟩:=R1.ob n o a e1 e2;exact⟨ho,kp a ho q1 (λps z=>by rcases R1.mut (i6 e2)with⟨y,w⟩|⟨y,w⟩<;>(rw[q1,z]at w;cases w)),q2.mono gr ρ'⟩
  .have hn':ρ.length<=n:=not_lt.mp hn;rw[List.getElem?_append_right hn']at e2;rw[List.getElem?_append_right (by rw[<- R1.len];exact hn'),List.getElem?_map,<- R1.len]at e1;cases q:h2[n-ρ.length]? with
   |none=>rw[q]at e1;cases e1
   |some o2=>
    rw[q]at e1;cases e1;obtain⟨ho,q1,q2⟩:=R2.ob _ o2 a q e2;exact⟨ho,q1,q2.shift ρ⟩
noncomputable def Dk(F:List D->Hd->Option (D×Hd))(ma:MA):ME:=λls hd=>(ma ls hd).bind λp=>if Aw 0 p.1=true then(F p.1 []).map λr=>(shD p.2.length r.1,p.2++r.2.map (shO p.2.length))else none
def UR{k:Nat}{F:List D->Hd->Option (D×Hd)}(h:RA K t m)(hk:∀ds hd z,F ds hd=some z->83=k):RE K (Dg (spF K k F) [] E0 t) (Dk F m):=by
 and_intros;obtain⟨⟨d1,h1⟩,e1,hm⟩:=gW hm;dsimp only at hm;split at hm
 .next c1=>
  obtain⟨⟨d2,h2⟩,e2,e3⟩:=gX hm;cases e3;refine h ρ σ H hd ls _ d1 h1 hR hL e1 λρ1 H1 v1 x1 R1 r1=>?_;rw[ic];have R0:RH K [] H1 []:=by simpa using R1.take 0 71
  have r0:RDs K [] H1 d1 v1:=by simpa using r1.take' 0 c1
  refine⟨by rw[r1.len];exact hk _ _ _ e2,[],[],d1,d2,h2,R0,r0,e2,λρ' H' v x2 R2 r2=>?_⟩;obtain⟨R3,x3⟩:=R1.join x2 R2;rw[R1.len]at R3;refine hQ (ρ1++ρ') H' v (x1.trans R1 x3) R3 ?_;have:=r2.shift ρ1;rw[R1.len]at this;exact this
 .cases hm
def Us(K:Frag){X:Cx}{j k:Nat}{n:Nat}{F:List D->Hd->Option (D×Hd)}{st:Stmt}{p:Pos}(G:FnOk X.prog X.w X.K X.mg X.base CX0 j f fd ps (spF K n F))(hr:Room k X.A)(DA:DefAt X.K X.mg x st f fd ps)(ha:QA K X (e::es) t m)(hF:∀ds hd z,F ds hd=some z->83=n)
 (hjk:j<=k:=by decide) (hg:Gl X x:=by rfl) (hdb:(x==("__debug__":Str))=false:=by decide) (he:starEach (e::es) X.env=(false,eval e X.env)::starEach es X.env:=by rfl) (hpl:(backTo pos (starEach es X.env)).any (·.1)=false:=by rfl):
 QE K X (.Call (.Name x p) (e::es) [] pos) (Dg (spF K n F) [] E0 t) (Dk F m):=⟨QL G hr DA ha.p hjk hg hdb he hpl,UR ha.r hF⟩
noncomputable def Ko(neg:Bool)(ma:ME)(ml:MA):ME:=λls hd=>(ma ls hd).bind λp=>(ml ls p.2).bind λq=>match p.1 with
 |.im i=>(Em i).bind λx=>(Bz q.1).map λxs=>(.im (.bl (if neg then !inV x xs else inV x xs)),q.2)
 |_=>none
def Zt{neg:Bool}(ha:RE K ta ma)(hb:RN K tb ml):RE K (tOp (rIn K neg) ta tb) (Ko neg ma ml):=by
 and_intros;obtain⟨⟨d1,h1⟩,e1,hm⟩:=gW hm;obtain⟨⟨d2,h2⟩,e2,hm⟩:=gW hm;dsimp only at hm;split at hm
 .obtain⟨x,e3,hm⟩:=gW hm;obtain⟨xs,e4,e5⟩:=gX hm;cases e5;refine ha ρ σ H hd ls _ _ h1 hR hL e1 λρ1 H1 v1 x1 R1 r1=>?_;refine hb ρ1 σ H1 h1 ls _ d2 _ R1 (hL.ext hR x1) e2 λρ2 H2 a ys x2 R2 na oa ea r2=>?_;have r1:=r1.ext R1 x2;simp only[RD]at r1;obtain⟨rfl,f1⟩:=JE e3 r1;obtain⟨rfl,f2⟩:=Ha e4 r2;exact⟨a,ys,rfl,.inl (SqL.of ea),f1,f2,hQ ρ2 H2 _ 85 R2 (by simp[RD,RI])⟩
 .cases hm
def Xb(K:Frag){neg:Bool}(ho:OpR X (compareOp op) (rIn K neg))(ha:QE K X a ta ma)(hb:QN K X b tb ml)(hm:behindInMarks op b=false:=by first|exact HJ _|rfl):QT K X (.Compare a [op] [b] pos) (FN (tOp (rIn K neg) ta tb)) (A8 (Ko neg ma ml)):=⟨Hw ho ha.p hb.p hm,DV (Zt ha.r hb.r)⟩
open Classical in
noncomputable def JB(ml:MA)(mb:ME):MA:=λls hd=>(ml ls hd).bind λp=>(mb ls p.2).bind λq=>match q.1 with
 |.im (.int k)=>if(0<=k/\k<=1000)/\Bh (p.1.length*k.toNat)then some ((List.replicate k.toNat p.1).flatten,q.2)else none
 |_=>none
theorem RDs.rep(r:RDs K ρ H ds xs):∀n,RDs K ρ H (List.replicate n ds).flatten (List.replicate n xs).flatten
 |0=>by simp[RDs]
 |n+1=>by
  simp only[j5,flatten_cons];exact r.app (r.rep n)
def ZW(ha:RN K ta ml)(hb:RE K tb mb):RN K (tOp UX ta tb) (JB ml mb):=by
 and_intros;obtain⟨⟨d1,h1⟩,e1,hm⟩:=gW hm;obtain⟨⟨d2,h2⟩,e2,hm⟩:=gW hm;dsimp only at hm;split at hm
 .next k=>
  split at hm
  .next c=>
   cases hm;refine ha ρ σ H hd ls _ d1 h1 hR hL e1 λρ1 H1 a xs x1 R1 na oa ea r1=>?_;refine hb ρ1 σ H1 h1 ls _ _ _ R1 (hL.ext hR x1) e2 λρ2 H2 v2 x2 R2 r2=>?_;simp only[RD,RI]at r2;subst r2;have ea2:=x2.keep a _ ea oa nt;refine⟨a,k,xs,rfl,rfl,ea2,by omega,by omega,by rw[r1.len];exact c.2,λp hp=>?_⟩;obtain⟨R3,x3⟩:=R2.hid (ho:=.lst (List.replicate k.toNat xs).flatten) hp;have x12:=x1.trans R1 x2;exact hQ ρ2 _ p _ (x12.trans R2 x3) R3 (x12.none hR hp R2) (R2.out hp) AG (((r1.ext R1 x2).rep k.toNat).ext R2 x3)
  .cases hm
 .cases hm
def aP(K:Frag)(ha:QN K X a ta ml)(hb:QE K X b tb mb):QN K X (.BinOp a .Mult b pos) (tOp UX ta tb) (JB ml mb):=⟨QJ bR ha.p hb.p,ZW ha.r hb.r⟩
end
section
variable{mb:ME}{QE:D->Hd->Prop}{QA:List D->Hd->Prop}
def Ic{F:List D->Hd->Option (D×Hd)}(h:WA m ls hd λds x=>Aw 0 ds=true/\WF F ds [] λd y=>QE (shD x.length d) (x++y.map (shO x.length))):WE (Dk F m) ls hd QE:=by
 obtain⟨ds,x,e,c,d,y,e2,q⟩:=h;exact⟨_,_,by simp only[Dk,e,bind_some,c,gz,e2,i4],q⟩
def ZB{neg:Bool}(h:WE ma ls hd λd x=>WA ml ls x λds y=>∃i v vs,d=.im i/\Em i=some v/\Bz ds=some vs/\QE (.im (.bl (if neg then !inV v vs else inV v vs))) y):WE (Ko neg ma ml) ls hd QE:=by
 obtain⟨d,x,e1,ds,y,e2,i,v,vs,rfl,e3,e4,q⟩:=h;exact⟨_,_,by simp only[Ko,e1,bind_some,e2,e3,e4,i4],q⟩
end
end L2
namespace L2
open PySem PySem.Spec PyProof.Rows
noncomputable abbrev blD(bs:List Bool):List D:=bs.map λb=>D.im (.bl b)
inductive Ty where
 |int|bool|str|tuple|list
 deriving DecidableEq
noncomputable def Ty.nm:Ty->String
 |.int=>"int" | .bool=>"bool" | .str=>"str" | .tuple=>"tuple" | .list=>"list"
def IsT(K:Frag)(T:Ty)(H:Hp)(v:V)(b:Bool):Prop:=
 (v=.non/\b=false)∨(∃x,v=.bl x/\b=decide (T=.int∨T=.bool))∨(∃i,v=.int i/\b=decide (T=.int))∨(∃x,v=.str x/\b=decide (T=.str)) ∨
 (∃a xs,v=.ref a/\SqL K H a xs/\b=decide (T=.list))∨∃a xs,v=.ref a/\SqT K H a xs/\b=decide (T=.tuple)
section
variable{E:76}{Q:76}
def cD{T:Ty}{b:Bool}(I:73)(r:RelV v u)(h:IsT X.K T H v b)(q:∀tk,Q (.bool b) { s with toks:=tk }):wpAny 69 A (call (.builtin "isinstance") [u,.type T.nm]) Q E s:=by
 have q0:=q s.toks;have q1:=q (s.toks+1);rcases h with⟨rfl,rfl⟩|⟨x,rfl,rfl⟩|⟨i,rfl,rfl⟩|⟨x,rfl,rfl⟩|⟨a,xs,rfl,hl,rfl⟩|⟨a,xs,rfl,ht,rfl⟩
 .cases(show u=Value.none from r);cases T
  .exact IsiPair.NoneType_int q1
  .exact IsiPair.NoneType_bool q1
  .exact IsiPair.NoneType_str q1
  .exact IsiPair.NoneType_tuple q1
  .exact IsiPair.NoneType_list q1
 .cases(show u=Value.bool x from r);cases T
  .first|exact IsiPair.bool_int q0|exact IsiPair.bool_int q1
  .first|exact IsiPair.bool_bool q0|exact IsiPair.bool_bool q1
  .exact IsiPair.bool_str q1
  .exact IsiPair.bool_tuple q1
  .exact IsiPair.bool_list q1
 .obtain⟨t,rfl⟩:=(show ∃t,u=Value.int i t from r)
  cases T
  .exact IsiPair.int_int q0
  .exact IsiPair.int_bool q1
  .exact IsiPair.int_str q1
  .exact IsiPair.int_tuple q1
  .exact IsiPair.int_list q1
 .obtain⟨t,rfl⟩:=(show ∃t,u=Value.str x t from r)
  cases T
  .exact IsiPair.str_int q1
  .exact IsiPair.str_bool q1
  .exact IsiPair.str_str q0
  .exact IsiPair.str_tuple q1
  .exact IsiPair.str_list q1
 .cases(show u=Value.ref a from r);obtain⟨its,_,⟨o,n,e,c,_,_⟩,_⟩:=I.list hl;cases T
  .exact IsiPair.list_int e c q1
  .exact IsiPair.list_bool e c q1
  .exact IsiPair.list_str e c q1
  .exact IsiPair.list_tuple e c q1
  .exact IsiPair.list_list e c q0
 .cases(show u=Value.ref a from r);obtain⟨its,_,⟨o,e,c,_⟩,_⟩:=I.tuple ht;cases T
  .exact IsiPair.tuple_int e c q1
  .exact IsiPair.tuple_bool e c q1
  .exact IsiPair.tuple_str e c q1
  .exact IsiPair.tuple_tuple e c q0
  .exact IsiPair.tuple_list e c q1
end
noncomputable def Tw(K:Frag)(T:Ty)(te:TE):TE:=λσ H Q=>te σ H λv H1=>∃b,IsT K T H1 v b/\Q (.bl b) H1
def bK(K:Frag){X:Cx}(T:Ty)(hm:X.mg "isinstance"=none)(hmT:X.mg x=none)(hvT:bootBuiltins x=some (.type T.nm))(he:PE X e te)
 (hv:bootBuiltins "isinstance"=some (.builtin "isinstance")) (hK:X.K=K) (hg:Gl X "isinstance") (hgT:Gl X x) (hnT:x≠"__name__") (hdT:(x==("__debug__":Str))=false)
 (hs:starEach [e,.Name x px] X.env=[(false,eval e X.env),(false,eval (.Name x px) X.env)]) (hs2:starEach [.Name x px] X.env=[(false,eval (.Name x px) X.env)]):PE X (.Call (.Name "isinstance" p) [e,.Name x px] [] pos) (Tw K T te):=by
 subst hK;intro pins s σ H Q I h;refine iY (FC I hg hm hv ?_);have go:wpAny 69 X.A (spliced (backTo pos (starEach [e,.Name x px] X.env))) (λvs s₁=>wpAny 69 X.A (call (.builtin "isinstance") vs) (EP X pins σ Q) X.xe s₁) X.xe s:=by
  rw[hs];show wpAny _ _ (spliced ((false,eval e X.env)::backTo pos [(false,eval (.Name x px) X.env)])) _ _ s;refine Calls.spliced_cons (thn (he pins s σ H _ I h) λu s1 ⟨v,H1,I1,r1,b,ib,q1⟩=>?_);show wpAny _ _ (spliced ((false,eval (.Name x px) X.env)::backTo pos [])) _ _ s1;refine Calls.spliced_cons (FC I1 hgT hmT hvT ?_ hnT hdT);refine Calls.spliced_nil ?_;exact cD I1 r1 ib λtk=>⟨.bl b,H1,I1.tok _,rfl,q1⟩
 exact PyProof.Rows.callWith_builtin1 go (by rw[hs,hs2]) (by rw[hs2];rfl)
section
variable{K:Frag}
noncomputable def isD(T:Ty)(hd:Hd):D->Option Bool
 |.im .non=>some false
 |.im (.bl _)=>some (decide (T=.int∨T=.bool))
 |.im (.int _)=>some (decide (T=.int))
 |.im (.str _)=>some (decide (T=.str))
 |.im (.tup _)=>some (decide (T=.tuple))
 |.tm _=>some (decide (T=.tuple))
 |.ro _=>some (decide (T=.list))
 |.op _ _ _=>none
 |.fv _ _=>none
 |.mu n=>match hd[n]? with
  |some (.lst _)=>some (decide (T=.list))
  |_=>none
def cE{T:Ty}{b:Bool}(hR:RH K ρ H hd)(h:RD K ρ H d v)(e:isD T hd d=some b):IsT K T H v b:=by
 cases d with
 |im i=>
  cases i with
  |non=>simp only[RD,RI]at h;subst h;simp only[isD,Option.some.injEq]at e;exact .inl ⟨rfl,e.symm⟩
  |bl c=>simp only[RD,RI]at h;subst h;simp only[isD,Option.some.injEq]at e;exact .inr (.inl ⟨c,rfl,e.symm⟩)
  |int c=>simp only[RD,RI]at h;subst h;simp only[isD,Option.some.injEq]at e;exact .inr (.inr (.inl ⟨c,rfl,e.symm⟩))
  |str c=>simp only[RD,RI]at h;subst h;simp only[isD,Option.some.injEq]at e;exact .inr (.inr (.inr (.inl ⟨c,rfl,e.symm⟩)))
  |tup is=>
   obtain⟨a,xs,rfl,q,r⟩:=h.tup (ds:=is.map .im) rfl;simp only[isD,Option.some.injEq]at e;exact .inr (.inr (.inr (.inr (.inr ⟨a,xs,rfl,q,e.symm⟩))))
 |tm ds=>
  obtain⟨a,xs,rfl,q,r⟩:=h.tup (ds:=ds) rfl;simp only[isD,Option.some.injEq]at e;exact .inr (.inr (.inr (.inr (.inr ⟨a,xs,rfl,q,e.symm⟩))))
 |ro ns=>
  obtain⟨a,xs,rfl,q,r⟩:=h.lst hR (hd:=hd) (ds:=ns.map λn=>.im (.int n)) rfl;simp only[isD,Option.some.injEq]at e;exact .inr (.inr (.inr (.inr (.inl ⟨a,xs,rfl,q,e.symm⟩))))
 |op _ _ _=>simp[isD]at e
 |fv _ _=>simp[isD]at e
 |mu n=>
  simp only[isD]at e;split at e
  .next q=>
   cases e;simp only[RD]at h;obtain⟨a,hn,rfl⟩:=h;obtain⟨xs,e1,e2⟩:=hR.lst hn q;exact .inr (.inr (.inr (.inr (.inl ⟨a,xs,rfl,SqL.of e1,rfl⟩))))
  .cases e
noncomputable def EW(T:Ty)(ma:ME):ME:=λls hd=>(ma ls hd).bind λp=>(isD T p.2 p.1).map λb=>(.im (.bl b),p.2)
def Zq{T:Ty}(h:RE K te me):RE K (Tw K T te) (EW T me):=by
 and_intros;obtain⟨⟨d1,h1⟩,e1,hm⟩:=gW hm;obtain⟨b,e2,e3⟩:=gX hm;cases e3;exact h ρ σ H hd ls _ d1 _ hR hL e1 λρ1 H1 v x1 R1 r1=>⟨b,cE R1 r1 e2,hQ ρ1 H1 _ x1 R1 (by simp[RD,RI])⟩
def KK:∀T:Ty,bootBuiltins T.nm=some (.type T.nm)
 |.int=>by decide +kernel
 |.bool=>by decide +kernel
 |.str=>by decide +kernel
 |.tuple=>by decide +kernel
 |.list=>by decide +kernel
def NE(K:Frag){X:Cx}(T:Ty){p px pos:Pos}(hm:X.mg "isinstance"=none)(hmT:X.mg x=none)(he:QE K X e te me)(hx:bootBuiltins x=some (.type T.nm):=by first|exact KK .int|exact KK .bool|exact KK .str|exact KK .tuple|exact KK .list)(hK:X.K=K:=by rfl)(hg:Gl X "isinstance":=by rfl)(hgT:Gl X x:=by rfl)
 (hnT:x≠"__name__":=by decide) (hdT:(x==("__debug__":Str))=false:=by decide)
 (hs:starEach [e,.Name x px] X.env=[(false,eval e X.env),(false,eval (.Name x px) X.env)]:=by rfl) (hs2:starEach [.Name x px] X.env=[(false,eval (.Name x px) X.env)]:=by rfl):QE K X (.Call (.Name "isinstance" p) [e,.Name x px] [] pos) (Tw K T te) (EW T me):=
 ⟨bK K T hm hmT hx he.p M7 hK hg hgT hnT hdT hs hs2,Zq he.r⟩
noncomputable def GS(mo mi me:ME)(f:Int->Int->Int):MS:=λls hd=>(mo ls hd).bind λp=>(mi ls p.2).bind λq=>match p.1,q.1 with
 |.mu n,.im (.int i)=>match q.2[n]? with
  |some (.lst ds)=>(ixN 83 i).bind λj=>match ds[j]? with
   |some (.im (.int x))=>(me ls q.2).bind λr=>match r.1,r.2[n]? with
    |.im (.int y),some (.lst ds')=>if ds'.length=83 then some (.nx ls,r.2.set n (.lst (ds'.set j (.im (.int (f x y))))))else none
    |_,_=>none
   |_=>none
  |_=>none
 |_,_=>none
def RDs.ints{ns:92}(h:RDs K ρ H (ns.map λx=>D.im (.int x)) xs):xs=ns.map V.int:=DX h
def SO(K:Frag){X:Cx}(hK:X.K=K:=by rfl):cq X (Iv K):=by
 subst hK;intro pins s σ H o i ov iv Q I ro ri h;obtain⟨p,xs,k,z,rfl,rfl,hq,he,q⟩:=h;cases ro;obtain⟨t,rfl⟩:=ri;obtain⟨its,r,pl,hz⟩:=I.list hq;obtain⟨j,h1,h2,h3,h4,h5⟩:=LD he;obtain⟨w,ew,rw'⟩:=r.get h2;have hl:=r.length;have hn:=G4;have fin:EP X pins σ Q w s:=⟨z,H,I,rw',q⟩
 by_cases h0:0<=k
 .have hj:k.toNat=j:=by
   rw[seqIndex_of h0 h5]at h1;exact 104 h1
  exact wpAny_getItem_list pl.isList h0 66 (by rw[hj];simpa using ew) fin
 .have hj:(k+(its.toArray.size:Int)).toNat=j:=by
   rw[seqIndex_neg 66 h4]at h1;rw[gu,<- hl];exact 104 h1
  exact wpAny_getItem_list_neg pl.isList 66 (by rw[gu]<;>omega) 66 (by rw[hj];simpa using ew) fin
def Yv(x:Ext ρ H ρ' H'){n:Nat}(h:ρ[n]?=some a):ρ'[n]?=some a:=by
 obtain⟨r,rfl,_⟩:=x.pre;rw[List.getElem?_append_left (List.getElem?_eq_some_iff.mp h).1];exact h
def X6{f:Int->Int->Int}(ho:RE K to mo)(hi:RE K ti mi)(he:RE K te me):RS K (Pi to ti te (Iv K) (ipI f) Jm) (GS mo mi me f):=by
 intro ρ σ H hd0 ls E fl hd' hR hL hm hQ;obtain⟨⟨d1,h1⟩,e1,hm⟩:=gW hm;obtain⟨⟨d2,h2⟩,e2,hm⟩:=gW hm;dsimp only at hm;split at hm
 .split at hm
  .next ds q=>
   obtain⟨j,e4,hm⟩:=gW hm;split at hm
   .next x ex=>
    obtain⟨⟨d3,h3⟩,e3,hm⟩:=gW hm;dsimp only at hm;split at hm
    .next y ds' q'=>
     split at hm
     .next el=>
      cases hm;refine ho ρ σ H hd0 ls _ _ h1 hR hL e1 λρ1 H1 v1 x1 R1 r1=>?_;refine hi ρ1 σ H1 h1 ls _ _ _ R1 (hL.ext hR x1) e2 λρ2 H2 v2 x2 R2 r2=>?_;have r1':=r1.ext R1 x2;simp only[RD]at r1';obtain⟨a,hn,rfl⟩:=r1';simp only[RD,RI]at r2;subst r2;obtain⟨xs,l1,l2⟩:=R2.lst hn q;obtain⟨w,ew,rw'⟩:=l2.get ex;simp only[RD,RI]at rw';subst rw';refine⟨a,xs,_,.int x,rfl,rfl,SqL.of l1,?_,?_⟩
      .unfold atI;rw[l2.len];rw[e4];exact ew
      refine he ρ2 σ H2 h2 ls _ _ h3 R2 (hL.ext hR 85) e3 λρ3 H3 v3 x3 R3 r3=>?_;simp only[RD,RI]at r3;subst r3;refine⟨x,y,rfl,rfl,?_⟩;have hn3:=Yv x3 hn;obtain⟨xs3,l3,l4⟩:=R3.lst hn3 q';obtain⟨R4,x4⟩:=R3.put hn3 (o:=.lst _) (ho:=.lst (xs3.set j (.int (f x y)))) ⟨_,rfl,l4.set j (d:=.im (.int (f x y))) (by simp[RD,RI])⟩;have x13:=(85).trans R2 x3;exact⟨a,xs3,_,j,rfl,rfl,l3,by rw[l4.len,el];exact e4,hQ ρ3 _ (x13.trans R3 x4) R4 σ ((hL.ext hR x13).ext R3 x4)⟩
     .cases hm
    .cases hm
   .cases hm
  .cases hm
 .cases hm
def Xi(K:Frag){f:Int->Int->Int}{tpos pos:Pos}(ho:QE K X o to mo)(hi:QE K X i ti mi)(he:QE K X e te me)(hp:PIp X op (ipI f))(hK:X.K=K:=by rfl)
 (ha:∀ov iv new,augStore i ov iv new=(do holding [new,ov,iv] (setItem ov iv new);release [new,ov,iv] [];pure .next):=by intros;rfl):QS K X (.AugAssign (.Subscript o i tpos) op e pos) (Pi to ti te (Iv K) (ipI f) Jm) (GS mo mi me f):=
 ⟨YA ho.p hi.p (SO K hK) he.p hp Mv ha,X6 ho.r hi.r he.r⟩
end
section
variable{mo mi me:ME}{QE:D->Hd->Prop}{QS:Fl->Hd->Prop}
def JU{T:Ty}(h:WE ma ls hd λd x=>∃b,isD T x d=some b/\QE (.im (.bl b)) x):WE (EW T ma) ls hd QE:=by
 obtain⟨d,x,e,b,e2,q⟩:=h;exact⟨_,_,by simp only[EW,e,bind_some,e2,i4],q⟩
end
section
variable{E:76}{s:96}
def IX{vs:79}{Q:List Value->Shared->Prop}(hl:IsTup s.heap l 78)
 (h:Q vs { s with heap:=(s.heap.push (seqObj "list" #[] 0)).update s.heap.objs.size (Obj.mapSeq (·++vs.toArray)) }) (hsz:116<=sizeLine:=by size_fits):
 wpAny 107 A (collect (.ref l)) Q E s:=by
 obtain⟨o,ho,hc,n,hd⟩:=id hl;unfold collect;refine gj (wpAny_runValue (iZ entry_proto_collect' ?_));show wpAny _ _ (do again (.builtin "list.__iadd__" ⟨[<- newList [],.ref l],[]⟩)) _ _ s;refine gj (je (gn ⟨Code.quiet_builtin _ (by decide +kernel),iZ entry_list_iadd' ?_⟩));show wpAny _ _ (Builtin.List.listExtendWith (.ref 59) (.ref l) (.ref 59)) _ _ { s with heap:=s.heap.push (seqObj "list" #[] 0) };unfold Builtin.List.listExtendWith;have ho':(s.heap.push (seqObj "list" #[] 0)).get? l=some o:=70 _ ho;refine gj (wpAny_typeOf (T:="tuple") ⟨o,ho',hc⟩ ?_);have ht:(Value.type "tuple"==Value.type "tuple")=true:=by rfl
 rw[gb (by rw[ht];simp)];refine gj (listItems_at ho' hd ?_);refine gj (listItems_at (xs:=#[]) (n:=0) (87 _ rfl) rfl ?_);rw[gh 71];refine gj (j3 (xs:=#[]) (n:=0) (87 _ rfl) rfl ?_ (ir _) (by show(#[]++78).size<=sizeLine+1;simp only[Array.size_append,gu,iB];omega));refine gn ?_;show wpAny 107 A (do
  let o <- load 59
  match o.data with
  |.seq xs _=>pure xs.toList
  | _=>unsupported "internal:collect") Q E { s with heap:=(s.heap.push (seqObj "list" #[] 0)).update s.heap.objs.size (Obj.mapSeq (·++vs.toArray)) }
 refine gj (wpAny_load (jf (87 _ rfl) _) ?_);show wpAny _ _ (pure ((#[]:Array Value)++78).toList) Q E _;rw[show((#[]:Array Value)++78).toList=vs by simp];exact gn h
def Mq{vs:79}{Q:76}(hl:IsTup s.heap l 78)(hI:IntsAre vs ns)(h64:116<64)
 (h:∀(out:Array Value) (ns':92),IntsAre out.toList ns'->ns'.Perm ns->ns'.Pairwise (·<=·)->Q (.ref (59+1)) { s with heap:=sortedAll s.heap vs out }):
 wpAny 107 A (call (.builtin "sorted") [.ref l]) Q E s:=by
 refine Calls.call_function_entry kind_sorted plain_sorted entry_sorted (args_sorted1 _) ?_;unfold Builtin.«sorted»;refine gj (m:=checkCount "sorted" 1 1 _) (gn ?_);refine gj (IX hl ?_);refine gj (je ?_);have hsz:((s.heap.push (seqObj "list" #[] 0)).update 59 (Obj.mapSeq (·++78))).objs.size=59+1:=by
  rw[Heap.size_update,size_push']
 have hoL:(((s.heap.push (seqObj "list" #[] 0)).update 59 (Obj.mapSeq (·++78))).push (seqObj "list" 78 0)).get? (59+1)=some (seqObj "list" 78 0):=by
  rw[<- hsz];exact 87 _ rfl
 show wpAny _ _ _ _ _ { s with heap:=((s.heap.push (seqObj "list" #[] 0)).update s.heap.objs.size (Obj.mapSeq (·++vs.toArray))).push (seqObj "list" vs.toArray 0) };rw[hsz];refine gj (ik (jl slot_list_sort ⟨_,hoL,rfl⟩ entry_list_sort (list_sort_tree hoL hI h64 λout ns' a1 a2 a3=>⟨_,rfl,?_⟩) (args_list_sort _)));exact gn ⟨_,rfl,h out ns' a1 a2 a3⟩
end
section
variable(K:Frag){X:Cx}
def Ir:List V->Hp->VK->Prop:=λxs H Q=>∃(a:Addr) (ns:92),xs=[.ref a]/\SqT K H a (ns.map V.int)/\ns.length<64/\∀(p:Addr) (ns':92),H p=none->ns'.Perm ns->ns'.Pairwise (·<=·)->Q (.ref p) (upd H p (.lst (ns'.map V.int)))
def Nu(hK:X.K=K:=by rfl):CallR X (.builtin "sorted") (Ir K):=by
 subst hK;intro pins s σ H xs us Q I r h;obtain⟨a,ns,rfl,hq,h64,q⟩:=h;obtain⟨u,rfl,ru⟩:=BU r;cases ru;obtain⟨its,rv,p,hz⟩:=I.tuple hq;have hlen:=rv.length;rw[gZ]at hlen;refine Mq p (Db rv) 66 λout ns' a1 a2 a3=>?_;obtain⟨e,he⟩:=sortedAll_at s.heap its out;have hl':ns'.length=ns.length:=a2.length_eq;refine⟨.ref (59+1),_,I.laid (a:=59+1) (o:=.lst (ns'.map V.int)) (t':=s.toks) (λb o hb=>sortedAll_old hb) (iN _) ⟨?_,out.toList,e,OU a1,he⟩,rfl,q _ _ (I.hok.fresh (iN _)) a2 a3⟩;rw[gZ,hl'];exact iy (HB 66)
end
section
variable{K:Frag}
def Pv(h:RRw K true t m):RN K (tCB (Ir K) (Be t C5)) (Bu m):=by
 and_intros;obtain⟨⟨⟨d1,g1⟩,h1⟩,e1,hm⟩:=gW hm;obtain⟨ns,e2,hm⟩:=gW hm;split at hm
 .next c=>
  cases hm;refine h ρ σ H hd ls _ d1 g1 _ hR hL e1 λρ1 H1 a x1 R1 G1 S1=>?_;obtain⟨xs,q,r⟩:=S1 ρ1 H1 _ .refl R1 G1;have e3:d1=ns.map λi=>.im (.int i):=C7 e2;rw[e3]at r;have:=DX r;subst this;refine⟨a,ns,rfl,q,c,λp ns' hp pm pw=>?_⟩;have:ns'=AY ns:=D2 (pm.trans (By ns).symm) pw (Cn ns);subst this;obtain⟨R2,x2⟩:=R1.hid (ho:=.lst ((AY ns).map V.int)) hp;exact hQ ρ1 _ p _ 85 R2 (x1.none hR hp R1) (R1.out hp) AG E7
 .cases hm
def Q9(K:Frag){X:Cx}(hm:X.mg "sorted"=none)(ha:QR K true X e te mi)(hg:Gl X "sorted":=by rfl)(he:starEach [e] X.env=[(false,eval e X.env)]:=by rfl)(hK:X.K=K:=by rfl):QN K X (.Call (.Name "sorted" p) [e] [] pos) (tCB (Ir K) (Be te C5)) (Bu mi):=
 ⟨F7 (Nu K hK) hg hm FV (CB ha.p Cr he) 97 97 he rfl,Pv ha.r⟩
end
section
variable{K:Frag}{ρ':108}{H':Hp}
noncomputable def Nh:List D->Hd->Option (D×Hd)
 |[.im (.int i)],hd=>some (.im (.int i),hd)
 |[.im (.bl b)],hd=>some (.im (.int (if b then 1 else 0)),hd)
 |_,_=>none
def Zi:RF K (λxs H Q=>(∃i,xs=[.int i]/\Q (.int i) H)∨∃k,xs=[.bl k]/\Q (.int (if k then 1 else 0)) H) Nh:=by
 intro ρ H hd ds vs Q z hd' hR h1 hf hQ;unfold Nh at hf;split at hf
 .cases hf;simp only[RDs,RD,RI]at h1;obtain⟨x,r,rfl,rfl,rfl⟩:=h1;exact .inl ⟨_,rfl,hQ ρ H _ .refl hR (by simp[RD,RI])⟩
 .cases hf;simp only[RDs,RD,RI]at h1;obtain⟨x,r,rfl,rfl,rfl⟩:=h1;exact .inr ⟨_,rfl,hQ ρ H _ .refl hR (by simp[RD,RI])⟩
 .cases hf
end
end L2
namespace L2
open PySem PySem.Spec PyProof.Rows PySem.W
inductive KeysOk(h:Heap):List Value->List Int->Prop
 |kI {ks:79} {kz:92}:IntsAre ks kz->KeysOk h ks kz
 |kP {ks:79} {ps:List (Int×Int)}:ks.length=ps.length->(∀(i:Nat) (v:Value) (p:Int×Int),ks[i]?=some v->ps[i]?=some p->PairAt h v p)->(∀p∈ps,pok p)->KeysOk h ks (ps.map B4)
def KeysOk.len(K:KeysOk h ks kz):kz.length=ks.length:=by
 cases K with
 |kI i=>have:=i.length;omega
 |kP hl _ _=>simp[hl]
theorem GW:∀{ks:79} {kz:92} {i:Nat},IntsAre ks kz->i<ks.length->∃t,ks.getD i .none=.int (kz.getD i 0) t
 |_,_,0,.cons ..,_=>⟨_,rfl⟩
 |_,_,i+1,.cons _ _ h,hi=>by
  obtain⟨t,e⟩:=GW (i:=i) h (by simpa using hi);exact⟨t,by simpa using e⟩
section
variable{E:76}{s:96}
def VQ(K:KeysOk s.heap ks kz)(h2:2<=ks.length){Q:SortKind->Shared->Prop}
 (h:∀κ,(∀(i j:Nat) (C:Bool->Shared->Prop),i<ks.length->j<ks.length->C (decide (kz.getD i 0<kz.getD j 0)) s->wpAny 107 A (keyLt' κ (ks.getD i .none) (ks.getD j .none)) C (λ_ _=>False) s)->Q κ s):
 wpAny 107 A (keyKind' ks.toArray) Q E s:=by
 cases K with
 |kI hk=>
  rw[ksk_kind (kz:=kz) (by simpa using hk) (by simpa using h2)];refine gn (h _ λi j C hi hj hC=>?_);obtain⟨t,e1⟩:=GW hk hi;obtain⟨u,e2⟩:=GW hk hj;rw[e1,e2];exact kat_lt_int hC
 |@kP ps hl hp hok=>
  obtain⟨fs,t1,t2,t3⟩:=KS hl hp;have tT:∀f∈fs,Looks 107 s.heap (typeOf f) (Value.type "int"):=λf hf=>by
   obtain⟨i,t,rfl⟩:=t3 f hf;exact .of_pure rfl
  refine kat_kind t1 66 tT rfl (h _ λi j C hi hj hC=>?_);have pi:ps[i]?=some (ps.getD i (0,0)):=by simp[show i<ps.length by omega]
  have pj:ps[j]?=some (ps.getD j (0,0)):=by simp[show j<ps.length by omega]
  have vi:ks[i]?=some (ks.getD i Value.none):=by simp[hi]
  have vj:ks[j]?=some (ks.getD j Value.none):=by simp[hj]
  have ei:(ps.map B4).getD i 0=B4 (ps.getD i (0,0)):=by simp[show i<ps.length by omega]
  have ej:(ps.map B4).getD j 0=B4 (ps.getD j (0,0)):=by simp[show j<ps.length by omega]
  rw[ei,ej]at hC;exact Oq (hp i _ _ vi pi) (hp j _ _ vj pj) (hok _ (i6 pi)) (hok _ (i6 pj)) hC
def Yl{vs:79}{kz:92}(hl:kz.length=116)(pa:PAr 116 p)(hs:STo (λi=>kz.getD i 0) p 116):KskOut false kz vs (p.toList.map λi=>vs.getD i Value.none):=by
 have sz:=pa.size;refine⟨p.toList.map λi=>(kz.getD i 0,vs.getD i Value.none),?_,by rw[gY];rfl,?_⟩
 .have e:kz.zip vs=(68 116).map λi=>(kz.getD i 0,vs.getD i Value.none):=by
   refine ext_getElem? λi=>?_;by_cases hi:i<116
   .have hi2:i<kz.length:=by omega
    rw[(List.getElem?_zip_eq_some (z:=(kz[i],vs[i]))).mpr ⟨by simp[hi2],by simp[hi]⟩];simp[hi,hi2]
   .rw[List.getElem?_eq_none 86,List.getElem?_eq_none 86]
  rw[e];have:=Array.perm_iff_toList_perm.mp pa;simpa using this.map _
 .rw[iQ,List.pairwise_iff_getElem];intro i j hi hj hij;simp only[Array.length_toList]at hi hj;have:=hs i j 66 66;unfold kv at this;simpa [Array.getD,hi,hj]using this
def Ym{e e1:Nat}{ks vs:79}{P:PySem.Fin->Shared->Prop}(nk:s.heap.get? kS=some (seqObj "list" ks.toArray e))(na:s.heap.get? a=some (seqObj "list" #[] e1))(hka:kS≠a)(K:KeysOk s.heap ks kz)(hl:ks.length=116)(h64:116<64)
 (h:∀out:List Value,KskOut false kz vs out->P (.done (.ret .none)) { s with heap:=(s.heap.update kS (Obj.mapSeq λ_=>#[])).update a (Obj.mapSeq λ_=>out.toArray) }):
 wpAny 107 A (ksk_end a false 78 e1 (.ref kS) ks.toArray) P E s:=by
 have hz:kz.length=vs.length:=by have:=K.len;omega
 have s1:=Heap.SameBut.update s.heap kS (Obj.mapSeq λ_=>(#[]:Array Value));have na1:(s.heap.update kS (Obj.mapSeq λ_=>(#[]:Array Value))).get? a=some (seqObj "list" #[] e1):=(s1.2 a hka.symm).trans na;have tail:∀(st:SortSt) (out:79),(arrOf st).map (·.2)=out.toArray->out.length=116->failedOf st=none->KskOut false kz vs out->wpAny 107 A (ksk_tail a false e1 (.ref kS) st) P E s:=by
  intro st out ho hlo hf so;unfold ksk_tail;dsimp only;refine gj (j3 nk rfl ?_ (by simp[ip];omega) (ir _));refine gj (wpAny_letGo ?_);refine gj (seqEpoch_at na1 rfl ?_);simp only[Bool.false_eq_true,i5];rw[ho];refine gj (j3 na1 rfl ?_ (ir _) (by rw[gu,ip];omega));rw[hf];simp only[bne_self_eq_false,Bool.false_eq_true,i5];exact gn (h out so)
 unfold ksk_end;simp only[Bool.false_eq_true,i5];by_cases h2:vs.toArray.size<2
 .rw[gb h2,gb h2];refine gj (gn ?_);rw[StateT.run_pure];refine gj (gn ?_);dsimp only;refine tail _ vs ?_ rfl rfl ⟨kz.zip vs,.refl _,?_,?_⟩
  .show(ks.toArray.zip 78).map (·.2)=78;apply Array.toList_inj.mp;simp only[Array.toList_map,Array.toList_zip];exact map_snd_zip 66
  .exact(map_snd_zip 66).symm
  .have hzl:(kz.zip vs).length<2:=by simp at h2 ⊢;omega
   cases hh:kz.zip vs with
   |nil=>exact .nil
   |cons z r=>
    cases r with
    |nil=>exact List.pairwise_singleton _ _
    |cons y t=>rw[hh]at hzl;exact absurd hzl 71
 .rw[gh h2,gh h2];have h2':2<=vs.length:=by simp at h2;omega
  refine gj (VQ K 66 λκ cmp=>?_);have hsz:(ks.toArray.zip 78).size=vs.length:=by simp[hl]
  have it:∀i,i<116->kas_item (ks.toArray.zip 78) i=(ks.getD i .none,vs.getD i .none):=λi hi=>by
   unfold kas_item;have h1:i<ks.length:=by omega
   have h3:i<(ks.toArray.zip 78).size:=by omega
   have e:(ks.toArray.zip 78).getD i (Value.none,Value.none)=(ks.toArray.zip 78)[i]:=by simp only[Array.getD,h3,dite_true];rfl
   have e2:(ks.toArray.zip 78)[i]=(ks[i],vs[i]):=by rw[Array.getElem_zip];simp
   rw[e,e2];simp[h1,hi]
  have est:SortSt.mk' κ (ks.toArray.zip 78) #[] 7 none=kas_st κ (ks.toArray.zip 78) (List.toArray (68 116)):=by
   unfold kas_st;rw[<- hsz,kas_range]
  have ask:(kas_sort 116).kasWp (kas_cmp prog w A κ (ks.toArray.zip 78)) (λp s'=>s'=s/\PAr 116 p/\STo (λi=>kz.getD i 0) p 116) s:=by
   refine PWp.wp (n:=116) (r:=λi=>kz.getD i 0) (P:=λs'=>s'=s) (λi j C s' hi hj e hC=>?_) ((OX 66).mono λp z s' e=>⟨e,z.1,z.2⟩) rfl;subst e;unfold kas_cmp;rw[it i hi,it j hj];exact cmp i j C 66 66 (hC _ rfl)
  have run:=kas_runs (E:=E) (Q:=λ_ st' s'=>∃p:Array Nat,arrOf st'=p.map (kas_item (ks.toArray.zip 78))/\failedOf st'=none/\s'=s/\PAr 116 p/\STo (λi=>kz.getD i 0) p 116) h2' h64 (λp st' s' x1 x2 x3 x4=>⟨p,x2,x3,x4⟩) ask;rw[<- est]at run;refine gj (i3 run ?_ λ_ _ e=>e);rintro⟨⟨⟩,st'⟩ s' ⟨p,har,hf,rfl,pa,so⟩;dsimp only;refine tail st' (p.toList.map λi=>vs.getD i Value.none) ?_ ?_ hf (Yl hz pa so)
  .rw[har];apply Array.toList_inj.mp;simp only[Array.toList_map,gY,List.toList_toArray];refine j6 λi hi=>?_;have hi':i<vs.length:=by
    have:=(Array.perm_iff_toList_perm.mp pa).mem_iff.mp hi;simpa using this
   exact hX Prod.snd (it i hi')
  .simp[pa.size]
end
def IE(G:Hp->Prop)(tb:TE)(cap:St):List Int->Hp->(List V->Hp->Prop)->Prop
 |[],H,Q=>Q [] H
 |n::r,H,Q=>G H/\tb (some (.int n)::cap) H λk H1=>IE G tb cap r H1 λks H2=>Q (k::ks) H2
def IL(K:Frag)(H:Hp)(ks:List V)(kz:92):Prop:=ks=kz.map V.int∨∃ps:List (Int×Int),kz=ps.map B4/\(∀p∈ps,pok p)/\ks.length=ps.length/\∀(i:Nat) (k:V) (p:Int×Int),ks[i]?=some k->ps[i]?=some p->∃x,k=.ref x/\SqT K H x [.int p.1,.int p.2]
def JQ(kz ns ms:92):Prop:=∃zs:List (Int×Int),zs.Perm (kz.zip ns)/\zs.Pairwise (λa b=>a.1<=b.1)/\ms=zs.map (·.2)
noncomputable def ED:Value->Int
 |.int n _=>n
 |_=>0
theorem NX:∀{vs:79} {ns:92},IntsAre vs ns->vs.map ED=ns
 |_,_,.nil=>rfl
 |_,_,.cons _ _ h=>by rw[gv,NX h];rfl
theorem NY:∀{vs:79} {ns:92},IntsAre vs ns->∀v∈vs,∃t,v=.int (ED v) t
 |_,_,.nil,v,h=>by cases h
 |_,_,.cons _ _ h,v,hv=>by
  rcases mem_cons.mp hv with rfl|hv
  .exact⟨_,rfl⟩
  .exact NY h v hv
def HZ{ns:92}(e:xs=ns.map V.int)(h:Vals xs vs):IntsAre vs ns:=Db (e ▸ h)
theorem JW:∀{vs:79},(∀v∈vs,∃t,v=Value.int (ED v) t)->Vals ((vs.map ED).map V.int) vs
 |[],_=>.nil
 |v::r,h=>by
  refine .cons ?_ (JW λw hw=>h w (gp _ hw));obtain⟨t,e⟩:=h v gq;exact⟨t,e⟩
def df(hi:IntsAre vs ns)(so:KskOut false kz vs out):JQ kz ns (out.map ED)/\∀v∈out,∃t,v=Value.int (ED v) t:=by
 obtain⟨zs,pm,rfl,pw⟩:=so;refine⟨⟨zs.map λz=>(z.1,ED z.2),?_,?_,by rw[gY,gY];rfl⟩,?_⟩
 .have:=pm.map λz:Int×Value=>(z.1,ED z.2)
  have e:((kz.zip vs).map λz:Int×Value=>(z.1,ED z.2))=kz.zip ns:=by
   rw[<- NX hi,List.zip_map_right];rfl
  rwa [e]at this
 .rw[iQ];exact pw.imp λh=>by simpa using h
 .intro v hv;obtain⟨z,hz,rfl⟩:=mem_map.mp hv;have:=pm.mem_iff.mp hz;exact NY hi _ (of_mem_zip this).2
section
def Inv.adopt(I:73)(f:FpOk X pins H a)(h0:X.s₀.heap.objs.size<=a)(new:ObjOk X.prog X.w (upd H a o) s.heap a o):Inv X pins σ (upd H a o) s:=by
 obtain⟨hn,hL,hfs,_,hc,hp⟩:=f;have nb:∀b u,H b=some u->b≠a:=λb u e=>AJ e hn;have n0:∀b o,X.s₀.heap.get? b=some o->b≠a:=λb o e=>hJ (i8 (84 e) h0);refine⟨I.ok,I.os,I.bare,⟨I.base.keep,I.base.slot,λb o e n hx=>?_,I.base.there,λb xs e=>?_,λb o u e=>?_,λb ps e=>?_⟩,I.loc,I.cell,?_,λx c e=>?_,λp hp'=>?_,λb u e=>?_,I.len⟩
 .rw[upd_ne (n0 b o e)];exact I.base.free b o e n hx
 .have:=I.base.tups b xs e;rw[upd_ne (nb b _ this)];exact this
 .have:=I.base.frzs b o u e;rw[upd_ne (nb b _ this)];exact this
 .obtain⟨m,e1⟩:=I.base.tbls b ps e;exact⟨m,by rw[upd_ne (nb b _ e1)];exact e1⟩
 .rw[upd_ne (λz=>hL z.symm)];exact I.free
 .rw[upd_ne (hc x c e)];exact I.freeC x c e
 .obtain⟨q1,q2,q3⟩:=I.pin p hp';exact⟨q1,by rw[upd_ne (hp p hp')];exact q2,q3⟩
 .by_cases z:b=a
  .subst z;rw[AG]at e;cases e;exact new
  .rw[upd_ne z]at e;exact(I.hok b u e).stay (λ_ _ _ q=>q) (λd q=>by rw[upd_ne (nb d _ q)];exact q) λd xs q=>by rw[upd_ne (nb d _ q)];exact q
def Yk(I:73)(k:IL X.K H ks kz)(r:Vals ks us):KeysOk s.heap us kz:=by
 rcases k with rfl|⟨ps,rfl,hok,hl,hp⟩
 .exact .kI (HZ rfl r)
 .refine .kP (by rw[<- r.length];exact hl) (λi v p e1 e2=>?_) hok;have hi:i<ks.length:=by rw[hl];exact(75 e2).1
  have ek:ks[i]?=some ks[i]:=by simp[hi]
  obtain⟨x,ex,sq⟩:=hp i _ p ek e2;obtain⟨v',ev,rel⟩:=MX r ek;rw[e1]at ev;cases ev;rw[ex]at rel;have rel:v=Value.ref x:=rel;subst rel;obtain⟨jts,rj,⟨o,ho,hc,n,hd⟩,_⟩:=I.tuple sq;cases rj with
  |cons r1 t1=>
   cases t1 with
   |cons r2 t2=>
    cases t2;obtain⟨t,rfl⟩:=r1;obtain⟨t',rfl⟩:=r2;exact⟨x,o,t,t',n,rfl,ho,hc,hd⟩
end
section
def Inv.turn1{t':Nat}(I:Inv X ((b,o)::pins) σ H s)(f:FpOk X pins H b)(hs:Heap.SameBut b s.heap h'):Inv X pins σ H { s with heap:=h',toks:=t' }:=by
 have J:Inv X pins σ H s:=I.pins_of λp hp=>I.pin p (gy _ (gp _ hp));obtain⟨hn,hL,_,h1,h2,h3⟩:=f;exact J.turned (λc u n e=>(hs.2 c n).trans e) hn hL h1 h2 h3
def FpOk.more(f:FpOk X pins H b)(h:c≠b):FpOk X ((c,o)::pins) H b:=by
 obtain⟨a1,a2,a3,a4,a5,a6⟩:=f;refine⟨a1,a2,a3,a4,a5,λp hp=>?_⟩;rcases mem_append.mp hp with q|q
 .exact a6 p (iu _ q)
 .rcases mem_cons.mp q with rfl|q
  .exact h
  .exact a6 p (gy _ q)
def Inv.repin(I:73)(f:FpOk X pins H b)(e:s.heap.get? b=some o)(hd:∀v,o.data≠.cell v):Inv X ((b,o)::pins) σ H s:=
 I.pins_of λp hp=>by
  rcases mem_cons.mp hp with rfl|hp
  .exact⟨e,f.1,f.2.1,f.2.2.1,hd⟩
  .exact I.pin p (gy _ hp)
def Pm{f:Addr}{ns:92}{G:Hp->Prop}{tb:TE}{cap:St}{E:76}(I:73)(h64:ns.length<64)
 (hcol:∀(Q:List Value->Shared->Prop) (E:76),(∀(g:Heap) (tk:Nat) (vs:79),(∀b o,s.heap.get? b=some o->g.get? b=some o)->IntsAre vs ns->Q vs { s with heap:=g,toks:=tk })->wpAny 69 X.A.in1 (collect l) Q E s)
 (turn:∀(pins':89) (H1:Hp) (s1:96) (n:Int) (u:Value) (Q1:VK),(∀p∈pins,p∈pins')->Inv X pins' σ H1 s1->RelV (.int n) u->G H1->tb (some (.int n)::cap) H1 Q1->wpAny 69 X.A.in1.in1 (call (.ref f) [u]) (EP X pins' σ Q1) (λ_ _=>False) s1)
 (h:IE G tb cap ns H λks H3=>∃kz,IL X.K H3 ks kz/\∀p ms,H3 p=none->JQ kz ns ms->Q (.ref p) (upd H3 p (.lst (ms.map V.int)))):
 wpAny 69 X.A (call (.builtin "sorted") [l] [(Str.ofString "key",.ref f)]) (EP X pins σ Q) E s:=by
 refine call_function_entry_kw kind_sorted plain_sorted entry_sorted (ksk_s1 _ _) ?_;unfold Builtin.«sorted»;refine gj (m:=checkCount "sorted" 1 1 _) (gn ?_);refine gj (hcol _ _ λg tk vs keep0 hi=>?_)
 replace I:Inv X pins σ H { s with heap:=g,toks:=tk }:=I.kept (t':=tk) keep0
 clear hcol;generalize { s with heap:=g,toks:=tk }=s at I ⊢;clear keep0 g tk;have line:116<=sizeLine:=by have:=hi.length;rw[ip];omega
 have h64:116<64:=by have:=hi.length;omega
 refine gj (je ?_ line);show wpAny _ _ _ _ _ { s with heap:=s.heap.push (seqObj "list" vs.toArray 0) };have hoL:(s.heap.push (seqObj "list" 78 0)).get? 59=some (seqObj "list" 78 0):=87 _ rfl;have keep1:∀b o,s.heap.get? b=some o->(s.heap.push (seqObj "list" 78 0)).get? b=some o:=λb o q=>70 _ q;have sz1:(s.heap.push (seqObj "list" 78 0)).objs.size=59+1:=by rw[size_push']
 generalize s.heap.push (seqObj "list" 78 0)=h1 at hoL keep1 sz1 ⊢;have fa:∀H',H' 59=none->FpOk X pins H' s.heap.objs.size:=λH' hn=>I.fpOk (gk _) hn;have fk:∀H',H' (59+2)=none->FpOk X pins H' (59+2):=λH' hn=>I.fpOk 66 hn;refine gj (ik (wpAny_call_entry_kw slot_list_sort ⟨_,hoL,rfl⟩ entry_list_sort ?_ (ksk_l1 _ _)));show wpAny 69 X.A.in1.in1 (Builtin.«list.sort» ⟨[.ref (59)],[(Str.ofString "key",.ref f)]⟩) _ _ _;rw[ksk_t1];have u1:=Heap.SameBut.update h1 (59) (Obj.mapSeq λ_=>(#[]:Array Value));obtain⟨e1,ho1⟩:∃e1,(h1.update (s.heap.objs.size) (Obj.mapSeq λ_=>(#[]:Array Value))).get? (s.heap.objs.size)=some (seqObj "list" #[] e1):=⟨_,jf hoL λ_=>#[]⟩
 have sz2:(h1.update (59) (Obj.mapSeq λ_=>(#[]:Array Value))).objs.size=59+1:=by rw[Heap.size_update,sz1]
 have keep2:∀b o,s.heap.get? b=some o->(h1.update (59) (Obj.mapSeq λ_=>(#[]:Array Value))).get? b=some o:=λb o q=>(u1.2 b (hJ (84 q))).trans (keep1 b o q);unfold ksk_tree;refine gj (listItems_at hoL rfl ?_);refine gj (j3 hoL rfl ?_ (by rw[gu,ip];omega) (ir _));refine gj (seqEpoch_at ho1 rfl ?_);generalize h1.update (59) (Obj.mapSeq λ_=>(#[]:Array Value))=h2 at ho1 sz2 keep2 ⊢;refine gj (wpAny_newTuple ?_ (by show 116<=_;exact line));refine gj (je ?_ (ir _));have sz3:(h2.push (seqObj "tuple" 78 0)).objs.size=59+2:=by rw[size_push',sz2]
 have okS:((h2.push (seqObj "tuple" 78 0)).push (seqObj "list" #[] 0)).get? (59+2)=some (seqObj "list" #[] 0):=by rw[<- sz3];exact 87 _ rfl
 have oa4:((h2.push (seqObj "tuple" 78 0)).push (seqObj "list" #[] 0)).get? (59)=some (seqObj "list" #[] e1):=70 _ (70 _ ho1);have keep4:∀b o,s.heap.get? b=some o->((h2.push (seqObj "tuple" 78 0)).push (seqObj "list" #[] 0)).get? b=some o:=λb o q=>70 _ (70 _ (keep2 b o q));have ekS:∀o:Obj,Value.ref ((({ s with heap:=h2.push o }:Shared)).heap.objs.size)=Value.ref (h2.push o).objs.size:=λ_=>rfl;refine ik ?_;have goal:∀kS:Addr,kS=59+2->wpAny 69 X.A.in1.in1 (ksk_rest (59) (.ref f) false 78 e1 (.ref kS)) (λfin s'=>∃v,fin=PySem.Fin.done (.ret v)/\wpAny 69 X.A.in1 (ret (.ref (59))) (λfin s'=>∃v,fin=PySem.Fin.done (.ret v)/\EP X pins σ Q v s') E s') E { s with heap:=(h2.push (seqObj "tuple" vs.toArray 0)).push (seqObj "list" #[] 0) }:=by
  intro kS ek;rw[ek];have fresh0:H (59)=none/\H (59+2)=none:=⟨I.hok.fresh 66,I.hok.fresh 66⟩
  have I4:Inv X pins σ H { s with heap:=(h2.push (seqObj "tuple" vs.toArray 0)).push (seqObj "list" #[] 0) }:=I.kept (t':=s.toks) keep4;have nak:59≠59+2:=by omega
  have I5:=(I4.repin (fk H fresh0.2) okS (λv z=>by cases z)).repin ((fa H fresh0.1).more nak.symm) oa4 (λv z=>by cases z);unfold ksk_rest;refine gj (wpAny_rule ?_)
  first
   |rw[List.forIn_toArray]
   |(rw[<- Array.forIn_toList];simp only[List.toList_toArray])
   |rw[<- Array.forIn_toList]
  refine gj (ksk_fold (λi s'=>∃(H':Hp) (kA:Array Value) (e:Nat) (ks:List V),Inv X ((59,seqObj "list" #[] e1)::(59+2,seqObj "list" kA e)::pins) σ H' s'/\Vals ks kA.toList/\kA.size=i /\
   IE G tb cap (ns.drop i) H' λks' H3=>∃kz,IL X.K H3 (ks++ks') kz/\∀p ms,H3 p=none->JQ kz ns ms->Q (.ref p) (upd H3 p (.lst (ms.map V.int)))) vs 0 _ ⟨H,#[],0,[],I5,.nil,rfl,h⟩ ?step ?done)
  case step=>
   rintro j x s' hx ⟨H',kA,e,ks,J,rk,hsz,hgo⟩;simp only[Nat.zero_add]at hsz hgo ⊢;have hj:j<vs.length:=(75 hx).1;have hjn:j<ns.length:=by have:=hi.length;omega
   have enx:ns[j]?=some ns[j]:=by simp[hjn]
   have edr:ns.drop j=ns[j]::ns.drop (j+1):=List.drop_eq_getElem_cons hjn;rw[edr]at hgo;obtain⟨hG,hgo⟩:=hgo;have rx:RelV (.int ns[j]) x:=by
    obtain⟨t,et⟩:=GW hi hj;have:vs.getD j .none=x:=by simp[List.getD,hx]
    rw[this]at et;have:ns.getD j 0=ns[j]:=by simp[hjn]
    rw[this]at et;exact⟨t,et⟩
   refine gj (wpAny_attempt (i3 (turn _ H' s' ns[j] x _ (λp hp=>gp _ (gp _ hp)) J rx hG hgo) (λv s'' he=>?_) λ_ _ hF=>hF.elim));obtain⟨k,H2,J2,r2,hgo2⟩:=he;dsimp only;have pk:=J2.pin (59+2,seqObj "list" kA e) (gy _ (gp _ gq));have pa:=J2.pin (59,seqObj "list" #[] e1) (gy _ gq);have u2:=Heap.SameBut.update s''.heap (59+2) (Obj.mapSeq (·.push v));obtain⟨c2,hc2⟩:∃c2,(s''.heap.update (s.heap.objs.size+2) (Obj.mapSeq (·.push v))).get? (s.heap.objs.size+2)=some (seqObj "list" (kA.push v) c2):=⟨_,jf pk.1 (·.push v)⟩
   refine gj (j3 pk.1 rfl ?_ (by rw[ip];omega) (gw (Nat.le_of_eq (Array.size_push ..)) (by rw[ip];omega)));have J3:Inv X ((59+2,seqObj "list" kA e)::pins) σ H2 s'':=J2.pins_of λp hp=>J2.pin p (gy _ (gp _ hp));have J4:Inv X pins σ H2 { s'' with heap:=s''.heap.update (s.heap.objs.size+2) (Obj.mapSeq (·.push v)) }:=J3.turn1 (t':=s''.toks) (fk H2 pk.2.1) u2;have oa:(s''.heap.update (59+2) (Obj.mapSeq (·.push v))).get? (59)=some (seqObj "list" #[] e1):=(u2.2 _ nak).trans pa.1;have J5:=(J4.repin (fk H2 pk.2.1) hc2 (λv z=>by cases z)).repin ((fa H2 pa.2.1).more nak.symm) oa (λv z=>by cases z);refine gn ⟨rfl,H2,kA.push v,c2,ks++[k],J5,?_,by simp[hsz],?_⟩
   .rw[Array.toList_push];exact rk.append (.cons r2 .nil)
   .simpa [iE]using hgo2
  case done=>
   rintro s' ⟨H',kA,e,ks,J,rk,hsz,hgo⟩;have hdr:ns.drop (0+116)=[]:=List.drop_of_length_le (by have:=hi.length;omega);rw[hdr]at hgo;obtain⟨kz,kv,fin⟩:∃kz,IL X.K H' (ks++[]) kz/\∀p ms,H' p=none->JQ kz ns ms->Q (.ref p) (upd H' p (.lst (ms.map V.int))):=hgo;rw[ic]at kv;have pk:=J.pin (59+2,seqObj "list" kA e) (gy _ (gp _ gq));have pa:=J.pin (59,seqObj "list" #[] e1) (gy _ gq);refine gj (listItems_at pk.1 rfl ?_);have ekA:kA=kA.toList.toArray:=by simp
   rw[ekA]at pk ⊢;have lk:kA.toList.length=vs.length:=by rw[Array.length_toList];omega
   refine Ym pk.1 pa.1 nak.symm (Yk J kv rk) lk h64 λout so=>⟨_,rfl,gn ⟨_,rfl,?_⟩⟩
   obtain⟨on,oi⟩:=df hi so;have u5:=Heap.SameBut.update s'.heap (59+2) (Obj.mapSeq λ_=>(#[]:Array Value));have oa:(s'.heap.update (59+2) (Obj.mapSeq λ_=>(#[]:Array Value))).get? (59)=some (seqObj "list" #[] e1):=(u5.2 _ nak).trans pa.1;have u6:=Heap.SameBut.update (s'.heap.update (59+2) (Obj.mapSeq λ_=>(#[]:Array Value))) (59) (Obj.mapSeq λ_=>out.toArray);obtain⟨c6,hc6⟩:∃c6,((s'.heap.update (s.heap.objs.size+2) (Obj.mapSeq λ_=>(#[]:Array Value))).update (s.heap.objs.size) (Obj.mapSeq λ_=>out.toArray)).get? (s.heap.objs.size)=some (seqObj "list" out.toArray c6):=⟨_,jf oa λ_=>out.toArray⟩
   have J3:Inv X ((59+2,seqObj "list" kA e)::pins) σ H' s':=J.pins_of λp hp=>J.pin p (gy _ (gp _ hp));have J4:Inv X pins σ H' { s' with heap:=s'.heap.update (s.heap.objs.size+2) (Obj.mapSeq λ_=>(#[]:Array Value)) }:=J3.turn1 (t':=s'.toks) (fk H' pk.2.1) u5;have J5:Inv X pins σ H' { s' with heap:=(s'.heap.update (s.heap.objs.size+2) (Obj.mapSeq λ_=>(#[]:Array Value))).update (s.heap.objs.size) (Obj.mapSeq λ_=>out.toArray) }:=(J4.repin (fa H' pa.2.1) oa (λv z=>by cases z)).turn1 (t':=s'.toks) (fa H' pa.2.1) u6;have lo:out.length<64:=by
    obtain⟨zs,pm,rfl,_⟩:=so;have:=pm.length_eq;simp at this ⊢;omega
   have J6:=J5.adopt (o:=.lst ((out.map ED).map V.int)) (fa H' pa.2.1) (I.sz) ⟨by simp[ip];omega,out,c6,JW oi,hc6⟩;exact⟨.ref _,_,J6,rfl,fin _ _ pa.2.1 on⟩
 exact goal _ sz3
end
def Src(K:Frag)(H:Hp)(a:Addr)(ns:92):Prop:=SqT K H a (ns.map V.int)∨∃n:Nat,n<64/\H a=some (.rng 0 n)/\ns=(68 n).map λk:Nat=>(k:Int)
noncomputable def JX(K:Frag)(P:Addr)(q:Str)(pos:Pos)(ix:77)(te tb:TE):TE:=λσ H Q=>te σ H λv H1=>∃(a:Addr) (ns:92) (ps:Array Value),v=.ref a/\Src K H1 a ns/\ns.length<64/\H1 P=some (.tbl ps)/\EI H1 q pos ps /\
 ∀H2 c,TabStep P q pos H1 H2->H2 c=some (.ext (cdF c q))->IE (λH=>H c=some (.ext (cdF c q))) tb (ix.map λi=>(σ[i]?).join) ns H2 λks H3=>∃kz,IL K H3 ks kz/\∀p ms,H3 p=none->JQ kz ns ms->Q (.ref p) (upd H3 p (.lst (ms.map V.int)))
def TabStep.rd(t:TabStep P q pos H H')(hP:H P=some (.tbl ps))(r:Rd H a (.tup xs)):Rd H' a (.tup xs):=by
 rcases t with rfl|⟨c,hc,_,rfl⟩
 .exact r
 .have ne:∀u,H a=some u->(∀ps,u≠.tbl ps)->upd (upd H P (.tbl #[rawInt pos.line,rawInt pos.col,.ref c])) c (.ext (cdF c q)) a=some u:=λu e n=>by
   rw[upd_ne (AJ e hc),upd_ne (λz=>by subst z;rw[hP]at e;cases e;exact n _ rfl)];exact e
  rcases r with r|⟨o,r⟩
  .exact .inl (ne _ r λps z=>by cases z)
  .exact .inr ⟨o,ne _ r λps z=>by cases z⟩
def TabStep.sqt{K:Frag}(t:TabStep P q pos H H')(hP:H P=some (.tbl ps))(r:SqT K H a xs):SqT K H' a xs:=by
 rcases r with r|r
 .exact .inl (t.rd hP r)
 .exact .inr r
def TabStep.src{K:Frag}(t:TabStep P q pos H H')(hP:H P=some (.tbl ps))(r:Src K H a ns):Src K H' a ns:=by
 rcases r with r|⟨n,h,e,z⟩
 .exact .inl (t.sqt hP r)
 .refine .inr ⟨n,h,?_,z⟩;rcases t with rfl|⟨c,hc,_,rfl⟩
  .exact e
  .rw[upd_ne (AJ e hc),upd_ne (λz=>by subst z;rw[hP]at e;cases e)];exact e
def Qf{n:Nat}(it:ItemsOf (λi v=>∃t,v=.int (0+i*1) t) acc n):IntsAre acc.toList ((68 n).map λk:Nat=>(k:Int)):=by
 have:=GV (lo:=0) it;have e:BM 0 n=((68 n).map λk:Nat=>(k:Int)).map V.int:=by
  have:∀(lo:Nat) (n:Nat),BM (lo:Int) n=((List.range' lo n).map λk:Nat=>(k:Int)).map V.int:=by
   intro lo n
   induction n generalizing lo with
   |zero=>rfl
   |succ n ih=>rw[BM,List.range'_succ];simp only[gv];rw[<- ih (lo+1)];rfl
  rw[List.range_eq_range'];exact this 0 n
 rw[e]at this;exact HZ rfl this
section
def V1(LA:LamAt X c P)(S:CSc X scope fr ix)(L:LSc scope prm)(hr:Room 3 X.A)(hcm:X.calm=true)(hg:Gl X "sorted")(hm:X.mg "sorted"=none)
 (hbind:∀(cl:List (Str×Addr)) (pm cd ctv us:Value),bindArgs (kla_fn "<lambda>" 98 params body scope cl pm cd ctv) ⟨[us],[]⟩=pure [(prm,us)])
 (he:PE X e te) (hb:∀(f:Addr) (cd:Value) (s:96) (H:Hp),PE (lCx X X.A.in1.in1 (prm::fr) 98 scope f cd (Ab X.env.cells 90 []) s H) body tb)
 (hdef:defaultsOf params X.env=([],[]):=by rfl) (hs:starEach [e] X.env=[(false,eval e X.env)]:=by rfl):
 PE X (.Call (.Name "sorted" p) [e] [⟨some "key",.Lambda params body scope lpos,kpos⟩] pos) (JX X.K P 98 lpos ix te tb):=by
 intro pins s σ H Q I h;have PAe:PA X [e] (Be te C5):=CB he Cr hs;refine iY (FC (u:=.builtin "sorted") I hg hm FV ?_);have pl:(backTo pos (starEach [e] X.env)).any (·.1)=false:=by rw[hs];rfl
 refine callWith_builtin_kwB pl rfl (evalArgs_kw2 (env:=X.env) (e:=e) (rest:=[]) (kws:=[⟨some "key",.Lambda params body scope lpos,kpos⟩]) rfl (thn (PAe pos pins s σ H (λvs H1=>match vs with
  |[v]=>∃(a:Addr) (ns:92) (ps:Array Value),v=.ref a/\Src X.K H1 a ns/\ns.length<64/\H1 P=some (.tbl ps)/\EI H1 98 lpos ps /\
   ∀H2 c,TabStep P 98 lpos H1 H2->H2 c=some (.ext (cdF c 98))->IE (λH=>H c=some (.ext (cdF c 98))) tb (ix.map λi=>(σ[i]?).join) ns H2 λks H3=>∃kz,IL X.K H3 ks kz/\∀p ms,H3 p=none->JQ kz ns ms->Q (.ref p) (upd H3 p (.lst (ms.map V.int)))
  | _=>False) I h) λus s1 hq=>?_) hs)
 obtain⟨vs,H1,I1,r,q⟩:=hq;rcases vs with _|⟨v,_|_⟩<;>try exact(q:False).elim
 obtain⟨a,ns,ps,rfl,sq,h64,hP,hg1,go⟩:=q;obtain⟨u,rfl,ru⟩:=BU r;cases ru;show wpAny _ _ (evalAll [(do let v <- eval (.Lambda params body scope lpos) X.env;standAt pos;pure v)]) _ _ s1;refine wpAny_evalAll_cons (gj (JC S LA I1 hdef hP hg1 λf cd ctv H2 s2 I2 M=>gj (iU (gn (wpAny_evalAll_nil ?_)))));show wpAny _ _ (call (.builtin "sorted") [.ref a] [(Str.ofString "key",.ref f)]) _ _ s2;have sq2:=M.step.src hP sq;obtain⟨c',rfl,hc'⟩:=M.cdc;have ff:FpOk X pins H2 f:=I1.fpOk M.new M.fre;have I3:=I2.repin ff M.fn (λv z=>by cases z);refine i3 (Pm (pins:=(f,_)::pins) I3 h64 (λQ E hq=>?_) (λpins' H' s' n u Q1 sub J ru hG hq=>?_) (go H2 c' M.step hc')) (λv s' hv=>?_) λ_ _ z=>z
 .rcases sq2 with sq2|⟨n,hn,er,rfl⟩
  .obtain⟨its,rv,tp,_⟩:=I2.tuple sq2;have hi:IntsAre its ns:=HZ rfl rv;have hlen:its.length<=sizeLine:=by have:=hi.length;rw[ip];omega
   refine IX tp (hq _ s2.toks its (λb o q=>?_) hi) hlen;have hlt:b<s2.heap.objs.size:=84 q;rw[Heap.get?_update_ne _ _ _ _ (hJ hlt),Heap.get?_push_ne _ _ _ (hJ hlt)];exact q
  .obtain⟨t,u,v,hr'⟩:∃t u v,s2.heap.get? a=some { cls:=.type "range",data:=.fields #[.int 0 t,.int n u,.int 1 v] }:=I2.hok a _ er;refine IU (n:=n) (I2.ok.hd hcm) hr' (small_one 66 66 66 66) (by rw[Pu];omega) 66 λg tk acc kp it=>hq g tk _ kp (Qf it)
 .have pf:=J.pin (f,_) (gy _ (sub _ gq));exact NU (A:=X.A.in1.in1) (f:=f) S L J rfl hr.in1.in1 pf.1 (J.hok c' _ hG).1 (λus=>hbind _ _ _ _ us) (λs H=>hb f _ s H) ru hq
 .obtain⟨y,H',J,ry,qy⟩:=hv;exact⟨y,H',J.pins_of λp hp=>J.pin p (gy _ (gp _ hp)),ry,qy⟩
end
def IK(K:Frag)(P:Addr)(q:Str)(pos:Pos):Prop:=∃p':Pos,(P,q,p')∈Cl K/\((Cl K).map (·.1)).Nodup/\p'.line=pos.line/\p'.col=pos.col
open Classical in
noncomputable def EQ(ds:List D):Option (List Int):=match B1 ds with
 |some ns=>some ns
 |none=>match DF ds with
  |some ps=>if ∀p∈ps,pok p then some (ps.map B4)else none
  |none=>none
open Classical in
noncomputable def El(mb:ME)(cap:Ls)(hd:Hd):List Int->Option (List D)
 |[]=>some []
 |n::r=>match mb (some (.im (.int n))::cap) hd with
  |some (k,h)=>match El mb cap hd r with
   |some ks=>if h=hd then some (k::ks)else none
   |none=>none
  |none=>none
theorem LZ:∀{ns:92} {ks:List D},El mb cap hd ns=some ks->ks.length=ns.length
 |[],ks,e=>by cases e;rfl
 |n::r,ks,e=>by
  unfold El at e;split at e
  .split at e
   .next ks' e2=>
    split at e
    .cases e;simp[LZ e2]
    .cases e
   .cases e
  .cases e
def Qd(e:EQ ds=some kz):kz.length=ds.length:=by
 unfold EQ at e;split at e
 .next ns e6=>cases e;rw[C7 e6];simp
 .split at e
  .next ps e6=>
   split at e
   .cases e;rw[HH e6];simp
   .cases e
  .cases e
noncomputable def FO(kz ns:92):List Int:=((kz.zip ns).mergeSort λa b=>decide (a.1<=b.1)).map (·.2)
def VA{kz ns:92}(nd:kz.Nodup)(hl:kz.length=ns.length)(o:JQ kz ns ms):ms=FO kz ns:=by
 obtain⟨zs,pm,pw,rfl⟩:=o;have pm2:((kz.zip ns).mergeSort λa b=>decide (a.1<=b.1)).Perm (kz.zip ns):=List.mergeSort_perm ..;have pw2:((kz.zip ns).mergeSort λa b=>decide (a.1<=b.1)).Pairwise λa b=>a.1<=b.1:=by
  have:=List.pairwise_mergeSort (le:=λa b:Int×Int=>decide (a.1<=b.1)) (by intro a b c h1 h2;simp at *;omega) (by intro a b;simp;omega) (kz.zip ns);exact this.imp 71
 have inj:∀a∈kz.zip ns,∀b∈kz.zip ns,a.1=b.1->a=b:=by
  intro a ha b hb e;obtain⟨i,hi⟩:=mem_iff_getElem?.mp ha;obtain⟨j,hj⟩:=mem_iff_getElem?.mp hb;obtain⟨i1,i2⟩:=List.getElem?_zip_eq_some.mp hi;obtain⟨j1,j2⟩:=List.getElem?_zip_eq_some.mp hj;rw[e]at i1;have:i=j:=(List.getElem?_inj (75 i1).1 nd).mp (i1.trans j1.symm);subst this;rw[i2]at j2;exact Prod.ext e (104 j2)
 have:zs=(kz.zip ns).mergeSort λa b=>decide (a.1<=b.1):=
  (pm.trans pm2.symm).eq_of_pairwise (le:=λa b=>a.1<=b.1) (λa b ha hb h1 h2=>inj a (pm.mem_iff.mp ha) b (pm2.mem_iff.mp hb) (j8 h1 h2)) pw pw2
 rw[this];rfl
noncomputable def MK(mi:ME):Ls->Hd->Option (List Int×Hd):=λls hd=>(mi ls hd).bind λp=>(AX p.1).bind λds=>(B1 ds).bind λns=>some (ns,p.2)
open Classical in
noncomputable def EO(src:Ls->Hd->Option (List Int×Hd))(ix:77)(mb:ME):MA:=λls hd=>(src ls hd).bind λp=>(El mb (ix.map λi=>(ls[i]?).join) p.2 p.1).bind λks=>(EQ ks).bind λkz=>
 if p.1.length<64/\kz.Nodup then some ((FO kz p.1).map λi=>.im (.int i),p.2)else none
noncomputable abbrev Sd(mi:ME)(ix:77)(mb:ME):MA:=EO (MK mi) ix mb
def Vo(K:Frag)(te:TE)(src:Ls->Hd->Option (List Int×Hd)):Prop:=∀(ρ:108) (σ:St) (H:Hp) (hd:Hd) (ls:Ls) (Q:VK) (ns:92) (hd':Hd),RH K ρ H hd->RL K ρ H ls σ->src ls hd=some (ns,hd') ->
 (∀ρ1 H1 a,Ext ρ H ρ1 H1->RH K ρ1 H1 hd'->Src K H1 a ns->Q (.ref a) H1)->te σ H Q
section
variable{K:Frag}
def Ig(R:RH K ρ H hd)(hP:H P=some (.tbl ps))(t:TabStep P q pos H H2)(TI:IK K P q pos):RH K ρ H2 hd/\Ext ρ H ρ H2:=by
 rcases t with rfl|⟨c,hc,ncP,rfl⟩
 .exact⟨R,.refl⟩
 .obtain⟨p',et,nd,e1,e2⟩:=TI;have nP:∀b,b∈ρ->b≠P:=λb hb z=>by
   subst z;rcases R.mut hb with⟨y,w⟩|⟨y,w⟩<;>(rw[hP]at w;cases w)
  have nc:∀b u,H b=some u->b≠c:=λb u e=>AJ e hc;have ex:Ext ρ H ρ (upd (upd H P (.tbl #[rawInt pos.line,rawInt pos.col,.ref c])) c (.ext (cdF c q))):=by
   refine⟨⟨[],by simp,by simp⟩,λb o e nb nt'=>?_,λb ps e=>?_⟩
   .rw[upd_ne (nc b _ e),upd_ne (λz=>by subst z;rw[hP]at e;cases e;exact nt' _ rfl)];exact e
   .by_cases z:b=P
    .subst z;exact⟨_,by rw[upd_ne (nc _ _ hP),AG]⟩
    .exact⟨ps,by rw[upd_ne (nc b _ e),upd_ne z];exact e⟩
  refine⟨⟨R.len,R.nd,λx hx=>?_,λn o a h1 h2=>?_⟩,ex⟩
  .by_cases hxP:x.1=P
   .have ex:x=(P,q,p'):=by
     obtain⟨i,hi⟩:=mem_iff_getElem?.mp hx;obtain⟨j,hj⟩:=mem_iff_getElem?.mp et;have i1:((Cl K).map (·.1))[i]?=some P:=by rw[List.getElem?_map,hi];simp[hxP]
     have j1:((Cl K).map (·.1))[j]?=some P:=by rw[List.getElem?_map,hj];rfl
     have:i=j:=(List.getElem?_inj (75 i1).1 nd).mp (i1.trans j1.symm);subst this;exact 104 (hi.symm.trans hj)
    subst ex;refine⟨#[rawInt pos.line,rawInt pos.col,.ref c],by rw[upd_ne (nc _ _ hP),AG],.inr ⟨c,?_,AG⟩⟩;show #[rawInt pos.line,rawInt pos.col,Value.ref c]=#[rawInt p'.line,rawInt p'.col,Value.ref c];rw[e1,e2]
   .obtain⟨ps',hx1,hG⟩:=R.tabs x hx;refine⟨ps',by rw[upd_ne (nc _ _ hx1),upd_ne hxP];exact hx1,?_⟩;rcases hG with g|⟨c',g1,g2⟩
    .exact .inl g
    .exact .inr ⟨c',g1,by rw[upd_ne (nc _ _ g2),upd_ne (λz=>by subst z;rw[hP]at g2;cases g2)];exact g2⟩
  .obtain⟨ho,q1,q2⟩:=R.ob n o a h1 h2;exact⟨ho,by rw[upd_ne (nc a _ q1),upd_ne (nP a (i6 h2))];exact q1,by simpa using q2.mono (ex.grow R) []⟩
theorem Ox{ix:77}(hb:RE K tb mb):∀{ns:92} {kds:List D} {ρ:108} {H:Hp} {Q:List V->Hp->Prop},RH K ρ H hd->RL K ρ H ls σ->H c=some (.ext (cdF c q)) ->
 El mb (ix.map λi=>(ls[i]?).join) hd ns=some kds->(∀ρ' H' ks,Ext ρ H ρ' H'->RH K ρ' H' hd->RDs K ρ' H' kds ks->Q ks H')->IE (λH=>H c=some (.ext (cdF c q))) tb (ix.map λi=>(σ[i]?).join) ns H Q
 |[],kds,ρ,H,Q,R,L,hc,e,k=>by
  cases e;exact k ρ H [] .refl R (by simp[RDs])
 |n::r,kds,ρ,H,Q,R,L,hc,e,k=>by
  unfold El at e;split at e
  .next kd h e1=>
   split at e
   .next ks e2=>
    split at e
    .next eh=>
     cases e;rw[eh]at e1;refine⟨hc,hb ρ _ H _ (some (.im (.int n))::ix.map λi=>(ls[i]?).join) _ kd _ R ⟨by simp,λi d ei=>?_⟩ e1 λρ1 H1 v1 x1 R1 r1=>?_⟩
     .cases i with
      |zero=>cases ei;exact⟨.int n,rfl,by simp[RD,RI]⟩
      |succ j=>
       have ei:(ix.map λi=>(ls[i]?).join)[j]?=some (some d):=ei;rw[List.getElem?_map]at ei;cases qj:ix[j]? with
       |none=>rw[qj]at ei;cases ei
       |some m=>
        rw[qj]at ei;have ei:(ls[m]?).join=some d:=104 ei;have em:ls[m]?=some (some d):=by
         cases w:ls[m]? with
         |none=>rw[w]at ei;cases ei
         |some z=>rw[w]at ei;simpa using ei
        obtain⟨v,ev,rv⟩:=L.ob m d em;refine⟨v,?_,rv⟩;show(ix.map λi=>(σ[i]?).join)[j]?=some (some v);rw[List.getElem?_map,qj];simp[ev]
     .have oc:c∉ρ:=λm=>by rcases R.mut m with⟨y,w⟩|⟨y,w⟩<;>(rw[hc]at w;cases w)
      refine Ox hb R1 (L.ext R x1) (x1.keep c _ hc oc nt) e2 λρ2 H2 ks2 x2 R2 r2=>?_;exact k ρ2 H2 (v1::ks2) 85 R2 (.cons (r1.ext R1 x2) r2)
    .cases e
   .cases e
  .cases e
def Ws(hi:RE K te mi):Vo K te (MK mi):=by
 intro ρ σ H hd ls Q ns hd' hR hL hm k;obtain⟨⟨d1,h1⟩,e1,hm⟩:=gW hm;obtain⟨ds,e2,hm⟩:=gW hm;obtain⟨ns,e3,hm⟩:=gW hm;cases hm;refine hi ρ σ H hd ls _ d1 _ hR hL e1 λρ1 H1 v1 x1 R1 r1=>?_;obtain⟨a,xs,rfl,sq,rs⟩:=r1.tup e2;rw[C7 e3]at rs;have exs:xs=ns.map V.int:=rs.ints;subst exs;exact k ρ1 H1 a x1 R1 (.inl sq)
def UI{src:Ls->Hd->Option (List Int×Hd)}(hi:Vo K te src)(hb:RE K tb mb)(TI:IK K P q pos):RN K (JX K P q pos ix te tb) (EO src ix mb):=by
 and_intros;obtain⟨⟨ns,h1⟩,e1,hm⟩:=gW hm;obtain⟨kds,e4,hm⟩:=gW hm;obtain⟨kz,e5,hm⟩:=gW hm;dsimp only at hm e4;split at hm
 .next cc=>
  cases hm;refine hi ρ σ H hd ls _ ns _ hR hL e1 λρ1 H1 a x1 R1 sq=>?_;obtain⟨p',et,_,l1,l2⟩:=id TI;obtain⟨ps,hP,hG⟩:=R1.tabs (P,q,p') et;have hG':EI H1 q pos ps:=by
   rcases hG with g|⟨c,g1,g2⟩
   .exact .inl g
   .refine .inr ⟨c,?_,g2⟩;rw[g1];show #[rawInt p'.line,rawInt p'.col,Value.ref c]=_;rw[l1,l2]
  refine⟨a,ns,ps,rfl,sq,cc.1,hP,hG',λH2 c step hc=>?_⟩;obtain⟨R2,x2⟩:=Ig R1 hP step TI;have x12:=x1.trans R1 x2;refine Ox hb R2 (hL.ext hR x12) hc e4 λρ3 H3 ks x3 R3 r3=>?_;have x13:=x12.trans R2 x3;refine⟨kz,?_,λp ms hp out=>?_⟩
  .unfold EQ at e5;split at e5
   .next ns' e6=>
    cases e5;rw[C7 e6]at r3;exact .inl r3.ints
   .split at e5
    .next ps' e6=>
     split at e5
     .next ok=>
      cases e5;rw[HH e6]at r3;refine .inr ⟨ps',rfl,ok,by have:=r3.len;simp at this;omega,λi k p ek ep=>?_⟩;obtain⟨w,ew,rw_⟩:=r3.get (i:=i) (d:=AZ p) (by rw[List.getElem?_map,ep];rfl);rw[ek]at ew;cases ew;exact Oe rw_
     .cases e5
    .cases e5
  .have lz:kz.length=ns.length:=by
    rw[Qd e5,LZ e4]
   have:=VA cc.2 lz out;subst this;obtain⟨R4,x4⟩:=R3.hid (ho:=.lst ((FO kz ns).map V.int)) hp;exact hQ ρ3 _ p _ (x13.trans R3 x4) R4 (x13.none hR hp R3) (R3.out hp) AG E7
 .cases hm
end
structure LamC(K:Frag)(mg:Str->Option Value)(base:Heap)(fd:FuncData)(c P:Addr)(q:Str)(pos:Pos):Prop where
 code:fd.code=.ref c
 hd:CodeHd base c P
 bl:base.BuiltinsAt mg P
 ti:IK K P q pos
structure QSrc(K:Frag)(X:Cx)(e:Expr)(te:TE)(src:Ls->Hd->Option (List Int×Hd)):Prop where
 p:PE X e te
 r:Vo K te src
def Uf(K:Frag)(h:QE K X e te mi):QSrc K X e te (MK mi):=⟨h.p,Ws h.r⟩
def Ui(K:Frag){src:Ls->Hd->Option (List Int×Hd)}{p pos kpos:Pos}{k:Nat}(LA:LamAt X c P)(TI:IK K P 98 lpos)(S:CSc X scope fr ix)(L:LSc scope prm)(hr:Room k X.A)(h3:3<=k)(hm:X.mg "sorted"=none)
 (he:QSrc K X e te src) (hb:∀(f:Addr) (cd:Value) (s:96) (H:Hp),QE K (lCx X X.A.in1.in1 (prm::fr) 98 scope f cd (Ab X.env.cells 90 []) s H) body tb mb)
 (hbind:∀(cl:List (Str×Addr)) (pm cd ctv us:Value),bindArgs (kla_fn "<lambda>" 98 params body scope cl pm cd ctv) ⟨[us],[]⟩=pure [(prm,us)])
 (hcm:X.calm=true:=by rfl) (hg:Gl X "sorted":=by rfl) (hdef:defaultsOf params X.env=([],[]):=by rfl) (hs:starEach [e] X.env=[(false,eval e X.env)]:=by rfl) (hK:X.K=K:=by rfl):
 QN K X (.Call (.Name "sorted" p) [e] [⟨some "key",.Lambda params body scope lpos,kpos⟩] pos) (JX K P 98 lpos ix te tb) (EO src ix mb):=by
 subst hK;exact⟨V1 LA S L (hr.mono h3) hcm hg hm hbind he.p (λf cd s H=>(hb f cd s H).p) hdef hs,UI he.r (hb 0 .none X.s₀ X.H₀).r TI⟩
def VC{K:Frag}{mg:Str->Option Value}{st:Stmt}{j:Nat}(DA:DefAt K mg x st f fd ps)(S:FnScope N ps (AC st))
 (h:∀(cdv:Value) (A:Around) (outer:List Env) (s:96) (H:Hp) (E:XK),fd.code=cdv->Room j (A.deeper (envOfC x (AC st) 59 f cdv))->∃t,QSs K (Fi CX0 P w K mg base N x (AC st) f cdv A outer s H E).nox (BY st) t m):
 FnOk P w K mg base CX0 (j+1) f fd ps (spF K ps.length (mkF ps.length N.length m)):=by
 obtain⟨F,hmg,bd⟩:=DA;obtain⟨⟨oc,od,kV,doc,pm,an,cdv,ct,osl,rfl,lk,hcd⟩,kp⟩:=F;refine WN lk hcd S (λvs H Q E h=>h.1) λA outer s H vs Q E hr hs=>?_;obtain⟨t,q⟩:=h cdv A outer s H E rfl hr;exact⟨t,q.p.nox,OW q.r hs⟩
def Po(g:Int->Int)(ns:92):(FO (ns.map g) ns).Perm ns/\(FO (ns.map g) ns).Pairwise λa b=>g a<=g b:=by
 have pm:(((ns.map g).zip ns).mergeSort λa b=>decide (a.1<=b.1)).Perm ((ns.map g).zip ns):=List.mergeSort_perm ..;have pw:(((ns.map g).zip ns).mergeSort λa b=>decide (a.1<=b.1)).Pairwise λa b=>a.1<=b.1:=by
  have:=List.pairwise_mergeSort (le:=λa b:Int×Int=>decide (a.1<=b.1)) (by intro a b c h1 h2;simp at *;omega) (by intro a b;simp;omega) ((ns.map g).zip ns);exact this.imp 71
 have ez:(ns.map g).zip ns=ns.map λn=>(g n,n):=by
  clear pm pw
  induction ns with
  |nil=>rfl
  |cons n r ih=>simp[ih]
 have el:∀a∈(((ns.map g).zip ns).mergeSort λa b=>decide (a.1<=b.1)),a.1=g a.2:=λa ha=>by
  have:=pm.mem_iff.mp ha;rw[ez]at this;obtain⟨n,_,rfl⟩:=mem_map.mp this;rfl
 refine⟨?_,?_⟩
 .have:=pm.map (·.2);unfold FO;refine this.trans ?_;rw[ez,gY];have:((λx:Int×Int=>x.2) ∘ λn=>(g n,n))=id:=rfl;rw[this,List.map_id]
 .unfold FO;rw[iQ];exact pw.imp_of_mem λ{a b} ha hb h=>by rw[<- el a ha,<- el b hb];exact h
theorem LY(kf:Int->D):∀{ns:92},(∀n∈ns,mb (some (.im (.int n))::cap) hd=some (kf n,hd))->El mb cap hd ns=some (ns.map kf)
 |[],_=>rfl
 |n::r,h=>by
  unfold El;rw[h n gq,LY kf λm hm=>h m (gp _ hm)];simp
def NV(hne:ps≠[])(hok:∀p∈ps,pok p):EQ (ps.map AZ)=some (ps.map B4):=by
 unfold EQ;have:B1 (ps.map AZ)=none:=by
  cases ps with
  |nil=>exact absurd rfl hne
  |cons p r=>rfl
 rw[this,QM];simp only[gb hok]
def Sa{g:Int->Int}{ns:92}(nd:ns.Nodup)(h:∀a∈ns,∀b∈ns,g a=g b->a=b):(ns.map g).Nodup:=by
 rw[List.nodup_iff_pairwise_ne,iQ];exact(List.nodup_iff_pairwise_ne.mp nd).imp_of_mem λ{a b} ha hb hne e=>hne (h a ha b hb e)
def Te{src:Ls->Hd->Option (List Int×Hd)}{ix:77}{QA:List D->Hd->Prop}(h:∃ns x,src ls hd=some (ns,x)/\∃(kf:Int->Int×Int),ns.length<64/\ns.Nodup/\(∀n∈ns,pok (kf n))/\(∀a∈ns,∀b∈ns,B4 (kf a)=B4 (kf b)->a=b)/\
 (∀n∈ns,mb (some (.im (.int n))::ix.map λi=>(ls[i]?).join) x=some (AZ (kf n),x))/\∀ms:List Int,ms.Perm ns->ms.Pairwise (λa b=>B4 (kf a)<=B4 (kf b))->QA (ms.map λn=>.im (.int n)) x):WA (EO src ix mb) ls hd QA:=by
 obtain⟨ns,x,e,kf,h64,nd,ok,inj,ek,q⟩:=h;have e2:=LY (λn=>AZ (kf n)) ek;by_cases hne:ns=[]
 .subst hne;refine⟨[],x,?_,q [] (.refl _) .nil⟩;simp[EO,e,B1,El,EQ,FO]
 .have e3:EQ (ns.map λn=>AZ (kf n))=some (ns.map λn=>B4 (kf n)):=by
   have:=NV (ps:=ns.map kf) (by simpa using hne) (by simpa using ok);rw[gY,gY]at this;exact this
  have sp:=Po (λn=>B4 (kf n)) ns;refine⟨_,x,?_,q _ sp.1 sp.2⟩;simp only[EO,e,bind_some,e2,e3,h64,Sa nd inj,and_self,gz]
def Tf{ix:77}{QA:List D->Hd->Prop}(h:WE mi ls hd λd x=>∃(ns:92) (kf:Int->Int×Int),AX d=some (ns.map λn=>.im (.int n))/\ns.length<64/\ns.Nodup/\(∀n∈ns,pok (kf n))/\(∀a∈ns,∀b∈ns,B4 (kf a)=B4 (kf b)->a=b)/\
 (∀n∈ns,mb (some (.im (.int n))::ix.map λi=>(ls[i]?).join) x=some (AZ (kf n),x))/\∀ms:List Int,ms.Perm ns->ms.Pairwise (λa b=>B4 (kf a)<=B4 (kf b))->QA (ms.map λn=>.im (.int n)) x):WA (Sd mi ix mb) ls hd QA:=by
 obtain⟨d,x,e,ns,kf,e1,h⟩:=h;refine Te ⟨ns,x,?_,kf,h⟩;have ei:B1 (ns.map λn=>D.im (.int n))=some ns:=by
  clear e1 h
  induction ns with
  |nil=>rfl
  |cons n r ih=>simp[B1]at ih ⊢
 simp only[MK,e,bind_some,e1,ei]
end L2
namespace HS
open PySem PyProof.Rows
open PySem.AutoSeq1 (wpAny_loadPart')
open Sem (wp)
abbrev st(t:Tok):List (Str×Value):=[(Str.ofString "start",.int 1 t)]
end HS
namespace L2
open PySem PySem.Spec PyProof.Rows PySem.W
def SqY(y:Bool)(K:Frag):Hp->Addr->List V->Prop:=bif y then SqL K else SqT K
def IsY(y:Bool)(h:Heap)(l:Addr)(a:Array Value):Prop:=bif y then h.IsList l a else h.IsTuple l a
noncomputable def oY(y:Bool)(l:Addr)(j:Nat):Obj:={ cls:=.type (bif y then "list_iterator" else "tuple_iterator"),data:=.fields #[.ref l,.int j 0] }
def ItY(y:Bool)(h:Heap)(a l:Addr)(j:Nat):Prop:=∃o,h.get? a=some o/\o.cls=(oY y l j).cls/\o.data=(oY y l j).data
structure Wy(κ:Type) where
 z:Bool
 y:Bool
 op:κ->κ->Bool
 KR:Frag->Hp->V->κ->Prop
 kp:I->Option κ
 rd:∀{K ρ H v i n},kp i=some n->RD K ρ H (.im i) v->KR K H v n
 cmp:∀{X pins σ H s k n v m u w} {Q:76} {E},X.A.in1.units<cLine->Inv X pins σ H s->KR X.K H k n->KR X.K H v m->RelV k u->RelV v w->Q (.bool (op n m)) s->wpAny 69 X.A.in1 (richCompare (bif z then .Gt else .Lt) u w) Q E s
section
variable{E:76}{s:96}{i:Nat}
def eR(y:Bool){Q:76}(hl:IsY y s.heap l items)(hQ:Q (.ref 59) { s with heap:=s.heap.push (oY y l 0) }):wpAny 107 A (pyIter (.ref l)) Q E s:=by
 cases y
 .exact wpAny_pyIter_tuple hl hQ
 .exact jk hl hQ
def eQ(y:Bool){Q:Option Value->Shared->Prop}(ht:ItY y s.heap it l i)(hl:IsY y s.heap l items)(hx:items[i]?=some x)
 (hQ:∀h',ItY y h' it l (i+1)->Heap.SameBut it s.heap h'->Q (some x) { s with heap:=h' }):wpAny 107 A (pyNext (.ref it)) Q E s:=by
 cases y
 .exact wpAny_pyNext_tuple_item ht hl hx hQ
 .exact wpAny_pyNext_list_item ht hl hx hQ
def cv(y:Bool){Q:Option Value->Shared->Prop}(hh:A.handled=none)(ht:ItY y s.heap it l i)(hl:IsY y s.heap l items)(hx:items[i]?=none)
 (hQ:∀h',Heap.ExtBut it s.heap h'->Q none { s with heap:=h' }):wpAny 107 A (pyNext (.ref it)) Q E s:=by
 cases y
 .exact wpAny_pyNext_tuple_end hh ht hl hx hQ
 .exact wpAny_pyNext_list_end hh ht hl hx hQ
end
section
variable{κ:Type}(KR:Hp->V->κ->Prop)(op:κ->κ->Bool)(src:Hp->List V->Prop)(G:Hp->Prop)(tb:TE)(cap:St)
def ET:Nat->Nat->Option (V×V×κ)->Hp->VK->Prop
 |0,j,o,H,Q=>(∃xs,src H xs/\88=j)/\∃p,o=some p/\Q p.1 H
 |m+1,j,o,H,Q=>∃xs x,src H xs/\xs[j]?=some x/\G H/\tb (some x::cap) H λk H1=>∃n:κ,KR H1 k n/\match o with
  |none=>ET m (j+1) (some (x,k,n)) H1 Q
  |some p=>KR H1 p.2.1 p.2.2/\ET m (j+1) (if op n p.2.2=true then some (x,k,n)else o) H1 Q
end
noncomputable def Ph{κ:Type}(W:Wy κ)(K:Frag)(P:Addr)(q:Str)(pos:Pos)(ix:77)(te tb:TE):TE:=λσ H Q=>te σ H λv H1=>∃(a:Addr) (m:Nat) (ps:Array Value),v=.ref a/\H1 P=some (.tbl ps)/\EI H1 q pos ps /\
 ∀H2 c,TabStep P q pos H1 H2->H2 c=some (.ext (cdF c q))->ET (W.KR K) W.op (λH xs=>SqY W.y K H a xs) (λH=>H c=some (.ext (cdF c q))) tb (ix.map λi=>(σ[i]?).join) m 0 none H2 Q
def Inv.turnE{h':Heap}{t':Nat}(I:Inv X ((b,o)::pins) σ H s)(f:FpOk X pins H b)(hs:∀c u,c≠b->s.heap.get? c=some u->h'.get? c=some u):Inv X pins σ H { s with heap:=h',toks:=t' }:=by
 have J:Inv X pins σ H s:=I.pins_of λp hp=>I.pin p (gy _ (gp _ hp));obtain⟨hn,hL,_,h1,h2,h3⟩:=f;exact J.turned (λc u n e=>hs c u n e) hn hL h1 h2 h3
def fO{κ:Type}(o:Option (V×V×κ))(it:Array Value):Prop:=match o with
 |none=>it=#[]
 |some p=>∃vb vk,it=#[vb,vk]/\RelV p.1 vb/\RelV p.2.1 vk
section
variable{κ:Type}{X:Cx}{It:Addr}{src:Hp->List V->Prop}{G:Hp->Prop}{E:76}
set_option maxHeartbeats 1600000 in
def TQ(W:Wy κ)(hu:X.A.in1.units<cLine)(hh:X.A.handled=none)
 (hsrc:∀pins' H' s' xs,Inv X pins' σ H' s'->src H' xs->∃its:List Value,Vals xs its/\IsY W.y s'.heap l 120) (hSI:S≠It) (hI0:∀H',H' It=none->FpOk X pins H' It) (hS0:∀H',H' S=none->FpOk X pins H' S)
 (turn:∀(pins':89) (H1:Hp) (s1:96) (x:V) (u:Value) (Q1:VK),(∀p∈pins,p∈pins')->Inv X pins' σ H1 s1->RelV x u->G H1->tb (some x::cap) H1 Q1->wpAny 69 X.A.in1 (call (.ref f) [u]) (EP X pins' σ Q1) (λ_ _=>False) s1):
 ∀(m j:Nat) (o:Option (V×V×κ)) (it:Array Value) (c:Nat) (oI:Obj) (H:Hp) (s:96),Inv X ((S,seqObj "list" it c)::(It,oI)::pins) σ H s->ItY W.y s.heap It l j->fO o it ->
   ET (W.KR X.K) W.op src G tb cap m j o H Q->codeAny 69 X.A (.builtin (bif W.z then "max.loop" else "min.loop") ⟨[.ref It,.ref f,.ref S],[]⟩) (λr s'=>match r with|.ok (.ret v)=>EP X pins σ Q v s'|.ok _=>False|.error e=>E e s') s:=by
 obtain⟨z,y,op,KR,kp,rd,cmp⟩:=W;have hname:(toString "max"++toString ".loop":String)="max.loop":=by decide
 have hnam2:(toString "min"++toString ".loop":String)="min.loop":=by decide
 obtain⟨b,hb⟩:∃b,b=z:=⟨z,rfl⟩
 cases z<;>dsimp only[cond]at cmp hsrc ⊢
 all_goals
  intro m
  induction m with
  |zero=>
   intro j o it c oI H s J hit ro hgo;obtain⟨⟨xs,hG,hje⟩,p,rfl,hQ⟩:=hgo;obtain⟨vb,vk,rfl,rb,_⟩:=ro;have nS:=J.pin (S,seqObj "list" #[vb,vk] c) (gy _ gq);have nI:=J.pin (It,oI) (gy _ (gp _ gq))
   first|(guard_hyp hb:b=true;refine iZ PySem.F.entry_max_loop ?_;rw[Around.under_plainId PySem.F.plain_max_loop _])|(refine iZ PySem.F.entry_min_loop ?_;rw[Around.under_plainId PySem.F.plain_min_loop _])
   show wpAny _ X.A.in1 (seqItems? (.ref S) >>= _) _ _ _;refine gj (wpAny_seqItems nS.1 rfl ?_);show wpAny _ X.A.in1 (tryCatch (pyNext (.ref It)) _ >>= _) _ _ _;obtain⟨its,hv,hil⟩:=hsrc _ _ _ _ J hG;have hlen:=hv.length;refine gj (wpAny_tryCatch (cv y hh hit hil 86 λh' hk'=>?_));have hS':=hk' S _ hSI nS.1;have s1:=Heap.SameBut.update h' S (Obj.mapSeq λ_=>(#[]:Array Value));show wpAny _ X.A.in1 (updateSeq S (λ_=>#[]) >>= _) _ _ _;refine gj (wpAny_updateSeq hS' rfl (gj (wpAny_letGo (gn ?_))));have J1:Inv X ((It,oI)::pins) σ H s:=J.pins_of λp hp=>J.pin p (gy _ (gp _ hp));have J2:Inv X pins σ H { s with heap:=h',toks:=s.toks }:=J1.turnE (hI0 H nI.2.1) λc u n e=>hk' c u n e;exact⟨p.1,H,(J2.repin (hS0 H nS.2.1) hS' (λv z=>by cases z)).turnE (t':=s.toks) (hS0 H nS.2.1) λc u n e=>(s1.2 c n).trans e,rb,hQ⟩
  |succ m ih=>
   intro j o it c oI H s J hit ro hgo;obtain⟨xs,x,hsr,hxj,hG,hgo⟩:=hgo;obtain⟨its,hv,hil⟩:=hsrc _ _ _ _ J hsr;obtain⟨u,hu9,ru⟩:=hv.get hxj;have nS:=J.pin (S,seqObj "list" it c) (gy _ gq);have nI:=J.pin (It,oI) (gy _ (gp _ gq))
   first|(guard_hyp hb:b=true;refine iZ PySem.F.entry_max_loop ?_;rw[Around.under_plainId PySem.F.plain_max_loop _])|(refine iZ PySem.F.entry_min_loop ?_;rw[Around.under_plainId PySem.F.plain_min_loop _])
   show wpAny _ X.A.in1 (seqItems? (.ref S) >>= _) _ _ _;refine gj (wpAny_seqItems nS.1 rfl ?_);show wpAny _ X.A.in1 (tryCatch (pyNext (.ref It)) _ >>= _) _ _ _;refine gj (wpAny_tryCatch (eQ y hit hil (x:=u) (by simpa using hu9) λh' hit' hs'=>?_));obtain⟨oI',hoI',hoc,hod⟩:=id hit';have hSh':h'.get? S=some (seqObj "list" it c):=(hs'.2 S hSI).trans nS.1;have dI:∀v,oI'.data≠.cell v:=λv z=>by rw[hod]at z;cases z
   have J1:Inv X ((It,oI)::pins) σ H s:=J.pins_of λp hp=>J.pin p (gy _ (gp _ hp));have J2:Inv X pins σ H { s with heap:=h',toks:=s.toks }:=J1.turnE (hI0 H nI.2.1) λc u n e=>(hs'.2 c n).trans e;have J3:=(J2.repin (hI0 H nI.2.1) hoI' dI).repin ((hS0 H nS.2.1).more hSI.symm) hSh' (λv z=>by cases z);show wpAny _ X.A.in1 (tryCatch (holding [u] (call (.ref f) [u])) _ >>= _) _ _ _;refine gj (wpAny_tryCatch (ik (i3 (turn _ H _ x u _ (λp hp=>gp _ (gp _ hp)) J3 ru hG hgo) (λw s2 he=>?_) λ_ _ hF=>hF.elim)));obtain⟨k,H2,J4,rk,n,hn,hgo2⟩:=he;have nS2:=J4.pin (S,seqObj "list" it c) (gy _ gq);have nI2:=J4.pin (It,oI') (gy _ (gp _ gq));have put:ET (KR X.K) op src G tb cap m (j+1) (some (x,k,n)) H2 Q->codeAny 69 X.A (.builtin (bif b then "max.loop" else "min.loop") ⟨[.ref It,.ref f,.ref S],[]⟩) (λr s'=>match r with|.ok (.ret v)=>EP X pins σ Q v s'|.ok _=>False|.error e=>E e s') { s2 with heap:=s2.heap.update S (Obj.mapSeq λ_=>#[u,w]),toks:=s2.toks }:=λhg=>by
    have s1:=Heap.SameBut.update s2.heap S (Obj.mapSeq λ_=>#[u,w]);obtain⟨c2,hc2⟩:∃c2,(s2.heap.update S (Obj.mapSeq λ_=>#[u,w])).get? S=some (seqObj "list" #[u,w] c2):=⟨_,jf nS2.1 λ_=>#[u,w]⟩
    have J5:Inv X ((S,seqObj "list" it c)::pins) σ H2 s2:=J4.pins_of λp hp=>by
     rcases mem_cons.mp hp with rfl|hp
     .exact nS2
     .exact J4.pin p (gy _ (gp _ (gp _ hp)))
    have J6:Inv X pins σ H2 { s2 with heap:=s2.heap.update S (Obj.mapSeq λ_=>#[u,w]),toks:=s2.toks }:=J5.turnE (hS0 H2 nS2.2.1) λc u n e=>(s1.2 c n).trans e;have gI:(s2.heap.update S (Obj.mapSeq λ_=>#[u,w])).get? It=some oI':=(s1.2 It hSI.symm).trans nI2.1;rw[hb];exact ih (j+1) (some (x,k,n)) _ c2 oI' H2 _ ((J6.repin (hI0 H2 nI2.2.1) gI dI).repin ((hS0 H2 nS2.2.1).more hSI.symm) hc2 (λv z=>by cases z)) ⟨oI',gI,hoc,hod⟩ ⟨u,w,rfl,ru,rk⟩ hg
   cases o with
   |none=>
    cases ro;show wpAny _ X.A.in1 (updateSeq S (λ_=>#[u,w]) >>= _) _ _ _;refine gj (wpAny_updateSeq nS2.1 rfl ?_);subst hb
    first|rw[hname]|rw[hnam2]
    exact gn ⟨(by first|exact iV PySem.F.plain_max_loop _|exact iV PySem.F.plain_min_loop _),put hgo2⟩
   |some p=>
    obtain⟨vb,vk,rfl,rb,r0⟩:=ro;obtain⟨hn0,hgo2⟩:=hgo2;show wpAny _ X.A.in1 (tryCatch (holding [u,w] (richCompare _ w vk >>= _)) _ >>= _) _ _ _;refine gj (wpAny_tryCatch (ik (gj (cmp hu J4 hn hn0 rk r0 ?_))));refine gj (ik (iT (gj (wpAny_letGo (gn ?_)))));subst hb;cases hb':op n p.2.2
    .simp only[hb',Bool.false_eq_true,i5]at hgo2 ⊢;refine gj (wpAny_letGo ?_)
     first|rw[hname]|rw[hnam2]
     exact gn ⟨(by first|exact iV PySem.F.plain_max_loop _|exact iV PySem.F.plain_min_loop _),ih (j+1) (some p) _ c oI' H2 _ J4 ⟨oI',nI2.1,hoc,hod⟩ ⟨vb,vk,rfl,rb,r0⟩ hgo2⟩
    .simp only[hb',gz]at hgo2 ⊢;refine gj (wpAny_updateSeq nS2.1 rfl (gj (wpAny_letGo ?_)))
     first|rw[hname]|rw[hnam2]
     exact gn ⟨(by first|exact iV PySem.F.plain_max_loop _|exact iV PySem.F.plain_min_loop _),put hgo2⟩
set_option maxHeartbeats 800000 in
def Vl(W:Wy κ)(hu:X.A.in1.units<cLine)(hh:X.A.handled=none)(I:73)(hsrc:∀pins' H' s' xs,Inv X pins' σ H' s'->src H' xs->∃its:List Value,Vals xs its/\IsY W.y s'.heap l 120)
 (turn:∀(pins':89) (H1:Hp) (s1:96) (x:V) (u:Value) (Q1:VK),(∀p∈pins,p∈pins')->Inv X pins' σ H1 s1->RelV x u->G H1->tb (some x::cap) H1 Q1->wpAny 69 X.A.in1 (call (.ref f) [u]) (EP X pins' σ Q1) (λ_ _=>False) s1)
 {m:Nat} (h:ET (W.KR X.K) W.op src G tb cap m 0 none H Q):wpAny 69 X.A (call (.builtin (bif W.z then "max" else "min")) [.ref l] [(Str.ofString "key",.ref f)]) (EP X pins σ Q) E s:=by
 have hname:(toString "max"++toString ".loop":String)="max.loop":=by decide
 have hnam2:(toString "min"++toString ".loop":String)="min.loop":=by decide
 obtain⟨xs,hsr⟩:∃xs,src H xs:=by
  cases m with
  |zero=>obtain⟨⟨xs,h,_⟩,_⟩:=h;exact⟨xs,h⟩
  |succ m=>obtain⟨xs,_,h,_⟩:=h;exact⟨xs,h⟩
 obtain⟨_,_,hls⟩:=hsrc _ _ _ _ I hsr;obtain⟨z,y,op,KR,kp,rd,cmp⟩:=W;obtain⟨b,hb⟩:∃b,b=z:=⟨z,rfl⟩
 cases z<;>dsimp only[cond]at h hls hsrc ⊢
 all_goals
  first|(guard_hyp hb:b=true;refine kmk_tree PySem.F.kind_max PySem.F.plain_max PySem.F.entry_max (kmk_max_key _ _) ?_;show wpAny _ X.A.in1 (Builtin.Builtins.bindParams "max" ["key","default"] 0 ⟨[],[(Str.ofString "key",.ref f)]⟩ >>= _) _ _ s;refine gj (wpAny_of_eq (show Builtin.Builtins.bindParams "max" ["key","default"] 0 ⟨[],[(Str.ofString "key",.ref f)]⟩=pure [some (.ref f),none]from rfl) ?_))|(refine kmk_tree PySem.F.kind_min PySem.F.plain_min PySem.F.entry_min (kmk_min_key _ _) ?_;show wpAny _ X.A.in1 (Builtin.Builtins.bindParams "min" ["key","default"] 0 ⟨[],[(Str.ofString "key",.ref f)]⟩ >>= _) _ _ s;refine gj (wpAny_of_eq (show Builtin.Builtins.bindParams "min" ["key","default"] 0 ⟨[],[(Str.ofString "key",.ref f)]⟩=pure [some (.ref f),none]from rfl) ?_))
  refine gj (gn (gj (eR y hls (gj (je ?_ (ir _))))))
  first|rw[hname]|rw[hnam2]
  generalize hIt:oY y l 0=oIt;have dI:∀v,oIt.data≠.cell v:=λv z=>by subst hIt;cases z
  have hS:(s.heap.push oIt).objs.size=59+1:=size_push' ..;rw[hS];have gI:((s.heap.push oIt).push (seqObj "list" #[] 0)).get? 59=some oIt:=
   70 _ (87 _ (by subst hIt;rfl))
  have gS:((s.heap.push oIt).push (seqObj "list" #[] 0)).get? (59+1)=some (seqObj "list" #[] 0):=by rw[<- hS];exact 87 _ rfl
  have I1:Inv X pins σ H { s with heap:=(s.heap.push oIt).push (seqObj "list" #[] 0),toks:=s.toks }:=I.kept (t':=s.toks) λb o e=>70 _ (70 _ e);have hSI:59+1≠s.heap.objs.size:=ne_of_gt (Nat.lt_succ_self _);have hI0:∀H',H' 59=none->FpOk X pins H' s.heap.objs.size:=λH' hn=>I.fpOk (gk _) hn;have hS0:∀H',H' (59+1)=none->FpOk X pins H' (59+1):=λH' hn=>I.fpOk (iN _) hn;exact gn ⟨(by first|exact iV PySem.F.plain_max_loop _|exact iV PySem.F.plain_min_loop _),TQ ⟨_,y,op,KR,kp,rd,cmp⟩ hu hh hsrc hSI hI0 hS0 turn m 0 none #[] 0 oIt H _ ((I1.repin (hI0 H (I.hok.fresh (gk _))) gI dI).repin ((hS0 H (I.hok.fresh (iN _))).more hSI.symm) gS (λv z=>by cases z)) ⟨oIt,gI,by rw[hIt],by rw[hIt]⟩ rfl h⟩
end
section
variable{κ:Type}
def YM(W:Wy κ)(LA:LamAt X c P)(S:CSc X scope fr ix)(L:LSc scope prm)(hr:Room 3 X.A)(hcm:X.calm=true)(hg:Gl X (bif W.z then "max" else "min"))(hm:X.mg (bif W.z then "max" else "min")=none)
 (hbind:∀(cl:List (Str×Addr)) (pm cd ctv us:Value),bindArgs (kla_fn "<lambda>" 98 params body scope cl pm cd ctv) ⟨[us],[]⟩=pure [(prm,us)])
 (he:PE X e te) (hb:∀(f:Addr) (cd:Value) (s:96) (H:Hp),PE (lCx X X.A.in1 (prm::fr) 98 scope f cd (Ab X.env.cells 90 []) s H) body tb)
 (hdef:defaultsOf params X.env=([],[])) (hs:starEach [e] X.env=[(false,eval e X.env)]):
 PE X (.Call (.Name (bif W.z then "max" else "min") p) [e] [⟨some "key",.Lambda params body scope lpos,kpos⟩] pos) (Ph W X.K P 98 lpos ix te tb):=by
 intro pins s σ H Q I h;have PAe:PA X [e] (Be te C5):=CB he Cr hs;have pl:(backTo pos (starEach [e] X.env)).any (·.1)=false:=by rw[hs];rfl
 have bt:bootBuiltins (bif W.z then "max" else "min")=some (.builtin (bif W.z then "max" else "min")):=by
  cases W.z
  .exact bt_min
  .exact bt_max
 refine iY (FC (u:=.builtin (bif W.z then "max" else "min")) I hg hm bt ?_ (by cases W.z<;>decide) (by cases W.z<;>decide));refine callWith_builtin_kwB pl rfl (evalArgs_kw2 (env:=X.env) (e:=e) (rest:=[]) (kws:=[⟨some "key",.Lambda params body scope lpos,kpos⟩]) rfl (thn (PAe pos pins s σ H (λvs H1=>match vs with
  |[v]=>∃(a:Addr) (m:Nat) (ps:Array Value),v=.ref a/\H1 P=some (.tbl ps)/\EI H1 98 lpos ps /\
   ∀H2 c,TabStep P 98 lpos H1 H2->H2 c=some (.ext (cdF c 98))->ET (W.KR X.K) W.op (λH xs=>SqY W.y X.K H a xs) (λH=>H c=some (.ext (cdF c 98))) tb (ix.map λi=>(σ[i]?).join) m 0 none H2 Q
  | _=>False) I h) λus s1 hq=>?_) hs)
 obtain⟨vs,H1,I1,r,q⟩:=hq;rcases vs with _|⟨v,_|_⟩<;>try exact(q:False).elim
 obtain⟨a,m,ps,rfl,hP,hg1,go⟩:=q;obtain⟨u,rfl,ru⟩:=BU r;cases ru;show wpAny _ _ (evalAll [(do let v <- eval (.Lambda params body scope lpos) X.env;standAt pos;pure v)]) _ _ s1;refine wpAny_evalAll_cons (gj (JC S LA I1 hdef hP hg1 λf cd ctv H2 s2 I2 M=>gj (iU (gn (wpAny_evalAll_nil ?_)))));show wpAny _ _ (call (.builtin (bif W.z then "max" else "min")) [.ref a] [(Str.ofString "key",.ref f)]) _ _ s2;obtain⟨c',rfl,hc'⟩:=M.cdc;have ff:FpOk X pins H2 f:=I1.fpOk M.new M.fre;have I3:=I2.repin ff M.fn (λv z=>by cases z);refine i3 (Vl W hr.in1.units0 (pins:=(f,_)::pins) (I3.ok.hd hcm) I3 (λpins' H' s' xs J hG=>?_) (λpins' H' s' x u Q1 sub J ru hG hq=>?_) (go H2 c' M.step hc')) (λv s' hv=>?_) λ_ _ z=>z
 .revert hG
  unfold SqY IsY;cases W.y<;>intro hG
  .obtain⟨its,rv,pl2,hz⟩:=J.tuple hG;exact⟨its,rv,pl2⟩
  .obtain⟨its,rv,pl2,hz⟩:=J.list hG;exact⟨its,rv,pl2.isList⟩
 .have pf:=J.pin (f,_) (gy _ (sub _ gq));exact NU (A:=X.A.in1) (f:=f) S L J rfl (hr.in1.mono 97) pf.1 (J.hok c' _ hG).1 (λus=>hbind _ _ _ _ us) (λs H=>hb f _ s H) ru hq
 .obtain⟨y,H',J,ry,qy⟩:=hv;exact⟨y,H',J.pins_of λp hp=>J.pin p (gy _ (gp _ hp)),ry,qy⟩
end
section
variable{κ:Type}
open Classical in
noncomputable def IC(kp:I->Option κ)(mb:ME)(cap:Ls)(hd:Hd):List D->Option (List κ)
 |[]=>some []
 |d::r=>match mb (some d::cap) hd with
  |some (.im i,h)=>match kp i,IC kp mb cap hd r with
   |some n,some ks=>if h=hd then some (n::ks)else none
   |_,_=>none
  |_=>none
noncomputable def BV(op:κ->κ->Bool):List D->List κ->D->κ->D
 |x::r,n::ns,b,kb=>if op n kb=true then BV op r ns x n else BV op r ns b kb
 |_,_,b,_=>b
noncomputable def EH(op:κ->κ->Bool):List D->List κ->Option (D×κ)->Option D
 |x::r,n::ns,none=>EH op r ns (some (x,n))
 |x::r,n::ns,some p=>EH op r ns (if op n p.2=true then some (x,n)else some p)
 |_,_,o=>o.map (·.1)
theorem PP(op:κ->κ->Bool):∀(r:List D) (ns:List κ) (b:D) (kb:κ),EH op r ns (some (b,kb))=some (BV op r ns b kb)
 |[],_,_,_=>by simp[EH,BV]
 |_::_,[],_,_=>by simp[EH,BV]
 |x::r,n::ns,b,kb=>by
  unfold EH BV;split<;>exact PP op r ns _ _
noncomputable def FB(vw:Hd->D->Option (List D))(kp:I->Option κ)(op:κ->κ->Bool)(mi:ME)(ix:77)(mb:ME):ME:=λls hd=>(mi ls hd).bind λp=>(vw p.2 p.1).bind λds=>(IC kp mb (ix.map λi=>(ls[i]?).join) p.2 ds).bind λkz=>(EH op ds kz none).map (·,p.2)
noncomputable def vwY(y:Bool):Hd->D->Option (List D):=bif y then Ak else λ_ d=>AX d
noncomputable def mKI(i:I):Option Int:=match i with
 |.int n=>some n
 |_=>none
noncomputable def NR(op:Int->Int->Bool)(mi:ME)(ix:77)(mb:ME):ME:=FB Ak mKI op mi ix mb
noncomputable def Kp(op:Int->Int->Bool)(mi:ME)(ix:77)(mb:ME):ME:=FB (λ_ d=>AX d) mKI op mi ix mb
section
variable{K:Frag}
def Zc{ix:77}(L:RL K ρ H ls σ)(r:RD K ρ H d v):RL K ρ H (some d::ix.map λi=>(ls[i]?).join) (some v::ix.map λi=>(σ[i]?).join):=by
 refine⟨by simp,λi d' ei=>?_⟩;cases i with
 |zero=>cases ei;exact⟨v,rfl,r⟩
 |succ j=>
  have ei:(ix.map λi=>(ls[i]?).join)[j]?=some (some d'):=ei;rw[List.getElem?_map]at ei;cases qj:ix[j]? with
  |none=>rw[qj]at ei;cases ei
  |some m=>
   rw[qj]at ei;have ei:(ls[m]?).join=some d':=104 ei;have em:ls[m]?=some (some d'):=by
    cases w:ls[m]? with
    |none=>rw[w]at ei;cases ei
    |some z=>rw[w]at ei;simpa using ei
   obtain⟨v,ev,rv⟩:=L.ob m d' em;refine⟨v,?_,rv⟩;show(ix.map λi=>(σ[i]?).join)[j]?=some (some v);rw[List.getElem?_map,qj];simp[ev]
def RO(kp:I->Option κ)(K:Frag)(ρ:108)(H:Hp):Option (D×κ)->Option (V×V×κ)->Prop
 |none,none=>True
 |some d,some p=>RD K ρ H d.1 p.1/\d.2=p.2.2/\∃i,kp i=some d.2/\RD K ρ H (.im i) p.2.1
 |_,_=>False
theorem PN(W:Wy κ){ix:77}(hb:RE K tb mb)(ev:∀ρ H,RH K ρ H hd->RD K ρ H d1 (.ref a)->∃xs,SqY W.y K H a xs/\RDs K ρ H ds xs):∀(rs:List D) (ns:List κ) (j:Nat) (od:Option (D×κ)) (o:Option (V×V×κ)) (ρ:108) (H:Hp) (Q:VK) (z:D),ds.drop j=rs->j<=83 ->
 IC W.kp mb (ix.map λi=>(ls[i]?).join) hd rs=some ns->EH W.op rs ns od=some z->RH K ρ H hd->RL K ρ H ls σ->H c=some (.ext (cdF c q))->RD K ρ H d1 (.ref a)->RO W.kp K ρ H od o ->
 (∀ρ' H' v,Ext ρ H ρ' H'->RH K ρ' H' hd->RD K ρ' H' z v->Q v H') ->
 ET (W.KR K) W.op (λH xs=>SqY W.y K H a xs) (λH=>H c=some (.ext (cdF c q))) tb (ix.map λi=>(σ[i]?).join) rs.length j o H Q
 |[],ns,j,od,o,ρ,H,Q,z,hr,hj,e,ez,R,L,hc,r1,rb,k=>by
  obtain⟨xs,sq,rs⟩:=ev ρ H R r1;have hl:=rs.len;have hd0:=hX List.length hr;simp at hd0;cases od with
  |none=>simp[EH]at ez
  |some d=>cases o with
   |none=>exact rb.elim
   |some p=>
    simp only[EH,i4,Option.some.injEq]at ez;subst ez;exact⟨⟨xs,sq,by omega⟩,p,rfl,k ρ H _ .refl R rb.1⟩
 |x::r,ns,j,od,o,ρ,H,Q,z,hr,hj,e,ez,R,L,hc,r1,rb,k=>by
  obtain⟨xs,sq,rs⟩:=ev ρ H R r1;have hjl:j<ds.length:=by
   have:=hX List.length hr;simp at this;omega
  rw[List.drop_eq_getElem_cons hjl]at hr;obtain⟨hxj,hr'⟩:=List.cons.inj hr;obtain⟨v,hv,rv⟩:=rs.get ((List.getElem?_eq_getElem hjl).trans (hX some hxj));unfold IC at e;split at e
  .next i h e1=>
   split at e
   .next n ks e0 e2=>
    split at e
    .next eh=>
     cases e;rw[eh]at e1;refine⟨xs,v,sq,hv,hc,hb ρ _ H _ _ _ (.im i) _ R (Zc L rv) e1 λρ1 H1 v1 x1 R1 rk=>?_⟩;have oc:c∉ρ:=λm=>by rcases R.mut m with⟨y,w⟩|⟨y,w⟩<;>(rw[hc]at w;cases w)
     have go:=λod o hz ho=>PN W hb ev r ks (j+1) od o ρ1 H1 Q z hr' hjl e2 hz R1 (L.ext R x1) (x1.keep c _ hc oc nt) (r1.ext R x1) ho λρ2 H2 w x2 R2 r2=>k ρ2 H2 w 85 R2 r2;have new:RO W.kp K ρ1 H1 (some (x,n)) (some (v,v1,n)):=⟨rv.ext R x1,rfl,i,e0,rk⟩
     refine⟨n,W.rd e0 rk,?_⟩;cases od with
     |none=>cases o with
      |none=>exact go _ _ ez new
      |some p=>exact rb.elim
     |some d=>cases o with
      |none=>exact rb.elim
      |some p=>
       obtain⟨b1,b2,i0,b3,b4⟩:=rb;have b4:=b4.ext R x1;rw[b2]at b3;refine⟨W.rd b3 b4,go _ _ ez ?_⟩;rw[b2];split
       .exact new
       .exact⟨b1.ext R x1,b2,i0,b2 ▸ b3,b4⟩
    .cases e
   .cases e
  .cases e
def XU(W:Wy κ)(hi:RE K te mi)(hb:RE K tb mb)(TI:IK K P q pos):RE K (Ph W K P q pos ix te tb) (FB (vwY W.y) W.kp W.op mi ix mb):=by
 have hvw:∀{ρ H hd d v ds},RH K ρ H hd->RD K ρ H d v->vwY W.y hd d=some ds->∃a xs,v=.ref a/\SqY W.y K H a xs/\RDs K ρ H ds xs:=by
  unfold vwY SqY;cases W.y
  .exact λ_ r e=>RD.tup r e
  .exact λR r e=>RD.lst R r e
 and_intros;obtain⟨⟨d1,h1⟩,e1,hm⟩:=gW hm;obtain⟨ds,e2,hm⟩:=gW hm;obtain⟨kz,e3,hm⟩:=gW hm;obtain⟨z,ez,hm⟩:=gX hm;cases hm;refine hi ρ σ H hd ls _ d1 _ hR hL e1 λρ1 H1 v1 x1 R1 r1=>?_;obtain⟨a,xs,rfl,sq,rs⟩:=hvw R1 r1 e2;obtain⟨p',et,_,l1,l2⟩:=id TI;obtain⟨ps,hP,hG⟩:=R1.tabs (P,q,p') et;have hG':EI H1 q pos ps:=by
  rcases hG with g|⟨c,g1,g2⟩
  .exact .inl g
  .refine .inr ⟨c,?_,g2⟩;rw[g1];show #[rawInt p'.line,rawInt p'.col,Value.ref c]=_;rw[l1,l2]
 refine⟨a,83,ps,rfl,hP,hG',λH2 c step hc=>?_⟩;obtain⟨R2,x2⟩:=Ig R1 hP step TI;have x12:=x1.trans R1 x2;exact PN W hb (λρ H R r=>by obtain⟨a2,xs,ea,sq,rs⟩:=hvw R r e2;cases ea;exact⟨xs,sq,rs⟩) ds kz 0 none none ρ1 H2 Q d rfl (ir _) e3 ez R2 (hL.ext hR x12) hc (r1.ext R1 x2) trivial λρ4 H4 w x4 R4 r4=>hQ ρ4 H4 w (x12.trans R2 x4) R4 r4
end
end
def wI(z y:Bool)(op:Int->Int->Bool)(ho:∀n m,op n m=bif z then decide (n>m)else decide (n<m)):Wy Int where
 z:=z
 y:=y
 op:=op
 KR:=λ_ _ k n=>k=.int n
 kp:=mKI
 rd:=λ{_ _ _ _ i _} e r=>by
  cases i<;>cases e;simpa only[RD,RI]using r
 cmp:=λ{_ _ _ _ s _ n _ m _ _ _ _} _ _ h1 h2 r1 r2 q=>by
  subst h1 h2;obtain⟨t1,rfl⟩:=r1;obtain⟨t2,rfl⟩:=r2;rw[ho]at q;cases z
  .exact jo (op:=.Lt) (iK s _ t1) (iK s _ t2) F.slot_int_lt F.entry_int_lt (F.args_int_lt_2 _ _) (gives_int_lt _ _ t1 t2) (λx=>nomatch x) q
  .exact jo (op:=.Gt) (iK s _ t1) (iK s _ t2) F.slot_int_gt F.entry_int_gt (F.args_int_gt_2 _ _) (gives_int_gt _ _ t1 t2) (λx=>nomatch x) q
abbrev wMx:=wI true true (λn m=>decide (n>m)) λ_ _=>rfl
abbrev wMn:=wI false true (λn m=>decide (n<m)) λ_ _=>rfl
abbrev wMt:=wI false false (λn m=>decide (n<m)) λ_ _=>rfl
def Ie{κ:Type}{vw:Hd->D->Option (List D)}{kp:I->Option κ}{op:κ->κ->Bool}{ix:77}{Q:D->Hd->Prop}(h:WE mi ls hd λd x=>∃(e:D) (es:List D) (kf:D->κ),vw x d=some (e::es)/\(∀y∈e::es,∃i,kp i=some (kf y)/\mb (some y::ix.map λi=>(ls[i]?).join) x=some (.im i,x))/\Q (BV op es (es.map kf) e (kf e)) x):WE (FB vw kp op mi ix mb) ls hd Q:=by
 obtain⟨d,x,e1,e,es,kf,e2,ek,q⟩:=h;have go:∀ys:List D,(∀y∈ys,∃i,kp i=some (kf y)/\mb (some y::ix.map λi=>(ls[i]?).join) x=some (.im i,x))->IC kp mb (ix.map λi=>(ls[i]?).join) x ys=some (ys.map kf):=by
  intro ys
  induction ys with
  |nil=>intro _;rfl
  |cons y r ih=>
   intro h;obtain⟨i,e3,e4⟩:=h y gq;unfold IC;rw[e4,ih λz hz=>h z (gp _ hz)];simp[e3]
 refine⟨_,x,?_,q⟩;simp only[FB,e1,bind_some,e2,go _ ek,gv];exact hX (Option.map (·,x)) (PP op es _ e (kf e))
def Td{op:Int->Int->Bool}{ix:77}{QE:D->Hd->Prop}(h:WE mi ls hd λd x=>∃(e:D) (es:List D) (kf:D->Int),Ak x d=some (e::es)/\(∀y∈e::es,mb (some y::ix.map λi=>(ls[i]?).join) x=some (.im (.int (kf y)),x))/\QE (BV op es (es.map kf) e (kf e)) x):WE (NR op mi ix mb) ls hd QE:=
 Ie (h.mono λ_ _ ⟨e,es,kf,h1,h2,h3⟩=>⟨e,es,kf,h1,λy hy=>⟨_,rfl,h2 y hy⟩,h3⟩)
theorem JP(kf:D->Int):∀(es:List D) (b:D),BV (λn m=>decide (n>m)) es (es.map kf) b (kf b)∈b::es/\∀y∈b::es,kf y<=kf (BV (λn m=>decide (n>m)) es (es.map kf) b (kf b))
 |[],b=>⟨gq,λy hy=>by rw[hE]at hy;subst hy;exact 110 _⟩
 |e::es,b=>by
  rw[gv,BV];by_cases h:kf e>kf b
  .rw[gb (by simpa using h)];obtain⟨h1,h2⟩:=JP kf es e;refine⟨gp _ h1,λy hy=>?_⟩;rcases mem_cons.mp hy with rfl|hy
   .have:=h2 e gq;omega
   .exact h2 y hy
  .rw[gh (by simpa using h)];obtain⟨h1,h2⟩:=JP kf es b;refine⟨?_,λy hy=>?_⟩
   .rcases mem_cons.mp h1 with q|q
    .rw[q];exact gq
    .exact gp _ (gp _ q)
   .rcases mem_cons.mp hy with rfl|hy
    .exact h2 y gq
    .rcases mem_cons.mp hy with rfl|hy
     .have:=h2 b gq;omega
     .exact h2 y (gp _ hy)
def RY{op:Int->Int->Bool}{ix:77}{QE:D->Hd->Prop}(h:WE mi ls hd λd x=>∃(e:D) (es:List D) (kf:D->Int),AX d=some (e::es)/\(∀y∈e::es,mb (some y::ix.map λi=>(ls[i]?).join) x=some (.im (.int (kf y)),x))/\QE (BV op es (es.map kf) e (kf e)) x):WE (Kp op mi ix mb) ls hd QE:=
 Ie (h.mono λ_ _ ⟨e,es,kf,h1,h2,h3⟩=>⟨e,es,kf,h1,λy hy=>⟨_,rfl,h2 y hy⟩,h3⟩)
theorem JO(kf:D->Int):∀(es:List D) (b:D),BV (λn m=>decide (n<m)) es (es.map kf) b (kf b)∈b::es/\∀y∈b::es,kf (BV (λn m=>decide (n<m)) es (es.map kf) b (kf b))<=kf y
 |[],b=>by simp[BV]
 |x::r,b=>by
  rw[gv,BV];by_cases h:decide (kf x<kf b)=true
  .rw[gb h];have h:=iD h;obtain⟨h1,h2⟩:=JO kf r x;refine⟨gp _ h1,λy hy=>?_⟩;rcases mem_cons.mp hy with rfl|hy
   .have:=h2 x gq;omega
   .exact h2 y hy
  .rw[gh h];have h:¬ kf x<kf b:=λz=>h (iC z);obtain⟨h1,h2⟩:=JO kf r b;refine⟨?_,λy hy=>?_⟩
   .rcases mem_cons.mp h1 with e|e
    .rw[e];exact gq
    .exact gp _ (gp _ e)
   .rcases mem_cons.mp hy with rfl|hy
    .exact h2 y gq
    .rcases mem_cons.mp hy with rfl|hy
     .have:=h2 b gq;omega
     .exact h2 y (gp _ hy)
end L2
namespace L2
open PySem PySem.Spec PyProof.Rows
def Lx:seqSlot? (.type "list") (dunderI "add")=pure (some (.builtin "list.__iadd__")):=PySem.seqSlot_of F.slot_list_iadd.lookup (by decide +kernel)
def TX{E:76}{s:96}{Q:76}(ha:s.TypeIs a "list")(hb:s.TypeIs b "list")
 (hc:wpAny M A (call (.builtin "list.__iadd__") [a,b]) Q E s):wpAny M A (inplaceOp .Add a b) Q E s:=by
 unfold inplaceOp;refine ik ?_;have hfi:fillsInplaceSlot (.type "list") "add" (Operator.Add==.Add)=pure false:=by
  unfold fillsInplaceSlot;show(typeLookup (.type "list") (dunderI "add") >>= λfi=>pure (fi.isSome&&!isSeqSlot fi))=pure false;rw[F.slot_list_iadd.lookup,pure_bind];have:isSeqSlot (some (.builtin "list.__iadd__"))=true:=by decide +kernel
  rw[this];rfl
 refine gj (wpAny_typeOf ha (gj (wpAny_of_eq hfi ?_)));show wpAny M A (if false=true then _ else _) Q E s;rw[gh Bool.false_ne_true];refine gj (wpAny_binaryOp1_none (nm:="add") ha hb noFill_list_add ?_);refine gj (wpAny_of_eq Lx ?_);exact gj (wpAny_rule hc)
def ipL:TIp:=λx y H Q=>∃l b xs zs,x=.ref l/\y=.ref b/\H l=some (.lst xs)/\H b=some (.lst zs)/\88+zs.length<=sizeLine/\Q (.ref l) (upd H l (.lst (xs++zs)))
def Yo:PIp X .Add ipL:=by
 intro pins s σ H x y v u Q I rx ry h;obtain⟨l,b,xs,zs,rfl,rfl,hH,hB,hz,q⟩:=h;cases rx;cases ry;obtain⟨z,its,n,r,hl,e⟩:=I.lstM hH;obtain⟨z2,its2,n2,r2,hl2,e2⟩:=I.lstM hB;have hsz:its.toArray.size+its2.toArray.size<=sizeLine:=by rw[gu,gu];omega
 have hlong:¬ (!its.toArray.isEmpty&&Builtin.List.listTooLong (its.toArray.size+its2.toArray.size))=true:=by
  rw[J7 hsz,Bool.and_false];exact 106
 refine TX ⟨_,e,rfl⟩ ⟨_,e2,rfl⟩ (jd F.slot_list_iadd ⟨_,e,rfl⟩ F.entry_list_iadd (F.args_list_iadd_2 _ _)
  (AutoSeq1.list___iadd___list_list_0 l 120 n b its2.toArray n2 hlong (by rw[gu];omega) 66) ⟨e,e2,?_⟩)
 refine⟨.ref l,_,I.lset (its':=its++its2) hH e 71 (r.append r2) ?_,rfl,q⟩;rw[i9];omega
section
variable{K:Frag}
open Classical in
noncomputable def gH:D->List D->Hd->Option (D×Hd)
 |.mu n,[d],hd=>match hd[n]?,AX d with
  |some (.lst ds),some es=>if Bh (83+es.length)then some (.im .non,hd.set n (.lst (ds++es)))else none
  |_,_=>none
 |_,_,_=>none
open Classical in
noncomputable def FS(i:Nat)(m:ME):MS:=λls hd=>match ls[i]? with
 |some (some (.mu n))=>(m ls hd).bind λp=>match p.1 with
  |.mu k=>match p.2[n]?,p.2[k]? with
   |some (.lst ds),some (.lst es)=>if Bh (83+es.length)then some (.nx (ls.set i (some (.mu n))),p.2.set n (.lst (ds++es)))else none
   |_,_=>none
  |_=>none
 |_=>none
def X9{i:Nat}(h:RE K t m):RS K (U4 i t ipL) (FS i m):=by
 intro ρ σ H hd0 ls E f hd' hR hL hm hQ;unfold FS at hm;split at hm
 .next n e0=>
  obtain⟨⟨d1,h1⟩,e1,hm⟩:=gW hm;dsimp only at hm;split at hm
  .next k=>
   split at hm
   .next ds es q1 q2=>
    split at hm
    .next c=>
     cases hm;obtain⟨v,v1,v2⟩:=hL.ob i _ e0;refine⟨_,v1,h ρ σ H hd0 ls _ _ _ hR hL e1 λρ1 H1 w x1 R1 r1=>?_⟩;have v3:=v2.ext hR x1;simp only[RD]at v3 r1;obtain⟨a,hn,rfl⟩:=v3;obtain⟨b,hm,rfl⟩:=r1;obtain⟨xs,f1,f2⟩:=R1.lst hn q1;obtain⟨ys,g1,g2⟩:=R1.lst hm q2;have l1:=f2.len;have l2:=g2.len;obtain⟨R2,x2⟩:=R1.put hn (o:=.lst (ds++es)) (ho:=.lst (xs++ys)) ⟨_,rfl,f2.app g2⟩;refine⟨a,b,xs,ys,rfl,rfl,f1,g1,by rw[l1,l2];exact c,hQ ρ1 _ 85 R2 _ ((hL.ext hR 85).set i ?_)⟩;simp only[RD];exact⟨a,hn,rfl⟩
    .cases hm
   .cases hm
  .cases hm
 .cases hm
def Xl{X:Cx}{i:Nat}{pos pos':Pos}(hN:X.N.Nodup)(hi:X.N[i]?=some x)(hx:Loc X.env.scope x)(he:QE K X e te me)(hf:X.fn x=true∨X.env.scope.names.lookup x=some .local:=by first|exact .inl rfl|exact .inr rfl|assumption):
 QS K X (.AugAssign (.Name x pos') .Add e pos) (U4 i te ipL) (FS i me):=⟨ax hN hi hx he.p Yo hf,X9 he.r⟩
noncomputable def DG(f g:D->D->Hd->Option (D×Hd))(ma mb mc:ME):ME:=λls hd=>(ma ls hd).bind λp=>(mb ls p.2).bind λq=>(f p.1 q.1 q.2).bind λr=>match r.1 with
 |.im (.bl k)=>if k=true then(mc ls r.2).bind λu=>g q.1 u.1 u.2 else some (.im (.bl false),r.2)
 |_=>none
def UO{f g:D->D->Hd->Option (D×Hd)}(hr:RB K r f)(hr':RB K r' g)(ha:RE K ta ma)(hb:RE K tb mb)(hc:RE K tc mc):RE K (Mj r r' ta tb tc) (DG f g ma mb mc):=by
 and_intros;obtain⟨⟨d1,h1⟩,e1,hm⟩:=gW hm;obtain⟨⟨d2,h2⟩,e2,hm⟩:=gW hm;obtain⟨⟨d3,h3⟩,e3,hm⟩:=gW hm;dsimp only at hm;refine ha ρ σ H hd ls _ d1 h1 hR hL e1 λρ1 H1 v1 x1 R1 r1=>?_;refine hb ρ1 σ H1 h1 ls _ d2 h2 R1 (hL.ext hR x1) e2 λρ2 H2 v2 x2 R2 r2=>?_;refine hr ρ2 H2 h2 d1 d2 v1 v2 _ d3 h3 R2 (r1.ext R1 x2) r2 e3 λρ3 H3 w x3 R3 r3=>?_;have X3:=(85).trans R2 x3;split at hm
 .next k=>
  simp only[RD,RI]at r3;refine⟨k,r3,?_⟩;cases k with
  |false=>
   simp only[Bool.false_eq_true,i5]at hm ⊢;cases hm;exact hQ ρ3 H3 _ X3 R3 (by simp[RD,RI])
  |true=>
   simp only[gz]at hm ⊢;obtain⟨⟨d4,h4⟩,e4,hm⟩:=gW hm;refine hc ρ3 σ H3 h3 ls _ d4 h4 R3 (hL.ext hR X3) e4 λρ4 H4 v4 x4 R4 r4=>?_;exact hr' ρ4 H4 h4 d2 d4 v2 v4 Q d hd' R4 ((r2.ext R2 x3).ext R3 x4) r4 hm λρ' H' w x5 R5 r5=>hQ ρ' H' w ((X3.trans R3 x4).trans R4 x5) R5 r5
 .cases hm
def Ud{f g:D->D->Hd->Option (D×Hd)}(ho:OpR X (compareOp op) r)(hr:RB K r f)(ho':OpR X (compareOp op') r')(hr':RB K r' g)(ha:QE K X a ta ma)(hb:QE K X b tb mb)(hc:QE K X c tc mc)
 (hm:lastMarks [op,op'] [b,c]=false:=by with_unfolding_all rfl):QT K X (.Compare a [op,op'] [b,c] pos) (FN (Mj r r' ta tb tc)) (A8 (DG f g ma mb mc)):=⟨Uv ho ho' ha.p hb.p hc.p hm,DV (UO hr hr' ha.r hb.r hc.r)⟩
def Ta{f g:D->D->Hd->Option (D×Hd)}{Q:D->Hd->Prop}(h:WE ma ls hd λd x=>WE mb ls x λe y=>WP (f d e y) λr z=>∃k,r=.im (.bl k)/\(k=true->WE mc ls z λu w=>WP (g e u w) Q)/\(k=false->Q (.im (.bl false)) z)):WE (DG f g ma mb mc) ls hd Q:=by
 obtain⟨d,x,e1,e,y,e2,r,z,e3,k,rfl,h1,h2⟩:=h;cases k with
 |false=>exact⟨_,_,by simp only[DG,e1,e2,e3,bind_some,Bool.false_eq_true,i5],h2 rfl⟩
 |true=>
  obtain⟨u,w,e4,v,t,e5,q⟩:=h1 rfl;exact⟨v,t,by simp only[DG,e1,e2,e3,bind_some,gz,e4,e5],q⟩
def OT{i n:Nat}{Q:Fl->Hd->Prop}(e:ls[i]?=some (some (.mu n)))(h:WE m ls hd λd y=>∃k ds es,d=.mu k/\y[n]?=some (.lst ds)/\y[k]?=some (.lst es)/\Bh (83+es.length)/\Q (.nx (ls.set i (some (.mu n)))) (y.set n (.lst (ds++es)))):WS (FS i m) ls hd Q:=by
 obtain⟨d,y,e1,k,ds,es,rfl,q1,q2,c,q⟩:=h;exact⟨_,_,by unfold FS;rw[e];simp only[e1,bind_some,q1,q2,c,gz],q⟩
end
end L2
namespace L2
open PySem PySem.W
noncomputable def tg1:Expr->List Str
 |.Name x _=>[x]
 |_=>[]
def tg2:Expr->List Str
 |.Tuple es _ _=>es.flatMap tg1
 |e=>tg1 e
def tgN:Expr->List Str
 |.Tuple es _ _=>es.flatMap tg2
 |e=>tg1 e
noncomputable def frN(X:Cx)(ix:77):List Str:=ix.filterMap λi=>X.N[i]?
noncomputable def ndB:List Str->Bool
 |[]=>true
 |x::xs=>!xs.elem x&&ndB xs
theorem Fy:∀{l:List Str},ndB l=true->l.Nodup
 |[],_=>List.nodup_nil
 |x::xs,h=>by
  obtain⟨h1,h2⟩:=Bool.and_eq_true_iff.mp h;refine nodup_cons.mpr ⟨λhm=>?_,Fy h2⟩;rw[List.elem_eq_true_of_mem hm]at h1;cases h1
section
variable{K:Frag}{X:Cx}{iter:Expr}{spos:Pos}{k i:Nat}
def qgA(hN:ndB X.N=true:=by kernel_rfl)(hi:X.N[i]?=some x:=by rfl)(hx:Loc X.env.scope x:=by first|exact Or.inl rfl|exact Or.inr rfl)(hf:X.fn x=true∨X.env.scope.names.lookup x=some .local:=by first|exact .inl rfl|exact .inr rfl):QG K X (.Name x pos) (EE i) (AA i):=Xv K (Fy hN) hi hx hf
def qnA(hi:QI K X tg iter wi mi)(hg:∀s H ex,QG K (cCx X (tgN tg++frN X ix) scope s H ex) tg g n)(hf:∀s H ex,QF K (cCx X (tgN tg++frN X ix) scope s H ex) ifs tf mf)(he:∀s H ex,QE K (cCx X (tgN tg++frN X ix) scope s H ex) elt te me)
 (hc:X.calm=true:=by rfl) (S:CSc X scope (frN X ix) ix:=by exact⟨rfl,by decide +kernel,rfl,rfl,rfl,by decide +kernel⟩) (hs:∀x,foldedSetIterable iter X.env x=pure x:=by intro _;rfl) (hk:(tgN tg).length=k:=by rfl):
 QN K X (.ListComp elt [⟨tg,iter,ifs,0⟩] scope pos) (GJ k ix wi g tf te) (AW k ix mi n mf me):=by
 subst hk;exact Xp K hc S hi hg hf he hs
def eY(hi:QI K X tg iter wi mi)(hg:∀s H ex,QG K (cCx X (tgN tg++frN X ix) scope s H ex) tg g n)(hf:∀s H ex,QF K (cCx X (tgN tg++frN X ix) scope s H ex) ifs tf mf)(he:∀s H ex,QE K (cCx X (tgN tg++frN X ix) scope s H ex) elt te me)
 (hsw:swapsWith (.ListComp elt [⟨tg,iter,ifs,0⟩] scope pos) (some (.Name y py)) spos.line X.env=pure true:=by rfl) (hN:ndB X.N=true:=by kernel_rfl) (hiN:X.N[i]?=some y:=by rfl) (hy:X.env.scope.names.lookup y=some .local:=by rfl)
 (hc:X.calm=true:=by rfl) (S:CSc X scope (frN X ix) ix:=by exact⟨rfl,by decide +kernel,rfl,rfl,rfl,by decide +kernel⟩) (hs:∀x,foldedSetIterable iter X.env x=pure x:=by intro _;rfl) (hk:(tgN tg).length=k:=by rfl):
 QS K X (.Assign [.Name y py] (.ListComp elt [⟨tg,iter,ifs,0⟩] scope pos) spos) (F0 (GJ k ix wi g tf te) (EE i)) (AE i (AV (AW k ix mi n mf me))):=by
 subst hk;exact Xf K (Fy hN) hiN hy hc S hi hg hf he hsw hs
def qdA(hi:QI K X tg iter wi mi)(hg:∀s H ex,QG K (cCx X (tgN tg++frN X ix) scope s H ex) tg g n)(hf:∀s H ex,QF K (cCx X (tgN tg++frN X ix) scope s H ex) ifs tf mf)(hkk:∀s H ex,QE K (cCx X (tgN tg++frN X ix) scope s H ex) k' tk mk)(hv:∀s H ex,QE K (cCx X (tgN tg++frN X ix) scope s H ex) v tv mv)
 (hc:X.calm=true:=by rfl) (S:CSc X scope (frN X ix) ix:=by exact⟨rfl,by decide +kernel,rfl,rfl,rfl,by decide +kernel⟩) (hs:∀x,foldedSetIterable iter X.env x=pure x:=by intro _;rfl) (hk:(tgN tg).length=k:=by rfl):
 QE K X (.DictComp k' v [⟨tg,iter,ifs,0⟩] scope pos) (Fs (.dK []) k ix wi g tf (Ju tk tv)) (Jv (HQ k ix mi n mf [] (Hz mk mv))):=by
 subst hk;exact Uo K hc S hi hg hf hkk hv hs
def qsA(he:QE K X e te me)(hs:swapsWith e (some (.Name x pos')) pos.line X.env=pure false:=by rfl)(hN:ndB X.N=true:=by kernel_rfl)(hi:X.N[i]?=some x:=by rfl)(hx:Loc X.env.scope x:=by first|exact Or.inl rfl|exact Or.inr rfl)(hf:X.fn x=true∨X.env.scope.names.lookup x=some .local:=by first|exact .inl rfl|exact .inr rfl):
 QS K X (.Assign [.Name x pos'] e pos) (F0 te (EE i)) (AE i me):=aK K (Fy hN) hi hx he hs hf
end
end L2
namespace L2
open PySem PySem.Spec PyProof.Rows PySem.W
noncomputable abbrev Tb:=Addr×Str×Nat×Nat
noncomputable def Yc(ts:List Tb):Obj:={ cls:=.str "tables" 0,data:=.fields (ts.flatMap λt=>[.ref t.1,.str t.2.1 0,.int t.2.2.1 0,.int t.2.2.2 0]).toArray }
noncomputable def BZ(K:Frag)(ts:List Tb):Frag:=(K.filter λp=>!(ts.map (·.1)).contains p.1)++[(mainGlobals,Yc ts)]
theorem Rg:∀ts:List Tb,MC (ts.flatMap λt=>[Value.ref t.1,.str t.2.1 0,.int t.2.2.1 0,.int t.2.2.2 0])=ts.map λt=>(t.1,t.2.1,⟨t.2.2.1,t.2.2.2,0,0⟩)
 |[]=>rfl
 |t::r=>by
  rw[List.flatMap_cons,gv,<- Rg r];rfl
def HA(K:Frag)(ts:List Tb):Cl (BZ K ts)=ts.map λt=>(t.1,t.2.1,⟨t.2.2.1,t.2.2.2,0,0⟩):=by
 unfold Cl BZ;rw[List.getLast?_concat];show MC _=_;rw[<- Rg ts]
theorem FZ{L:108}{a:Addr}(ha:a∉L):∀K:Frag,(K.filter λp=>!L.contains p.1).lookup a=K.lookup a
 |[]=>rfl
 |(b,o)::r=>by
   have ih:=FZ ha r;rw[iM];by_cases hb:b∈L
   .have h1:(!L.contains (b,o).1)=false:=by simp[hb]
    have h2:(a==b)=false:=beq_eq_false_iff_ne.mpr λz=>ha (z ▸ hb);rw[gh (by rw[h1];decide),hZ,h2,ih]
   .have h1:(!L.contains (b,o).1)=true:=by simp[hb]
    rw[gb h1,hZ,hZ,ih]
theorem HV{L:108}{P:Addr}(hP:P∈L):∀K:Frag,(K.filter λp=>!L.contains p.1).lookup P=none
 |[]=>rfl
 |(b,o)::r=>by
   have ih:=HV hP r;rw[iM];by_cases hb:b∈L
   .rw[gh (by simp[hb])];exact ih
   .have h2:(P==b)=false:=beq_eq_false_iff_ne.mpr λz=>hb (z ▸ hP);rw[gb (by simp[hb]),hZ,h2];exact ih
section
variable{K:Frag}{ts:List Tb}
def HK{a:Addr}{o:Obj}(ha:a∉ts.map (·.1))(e:K.lookup a=some o):(BZ K ts).lookup a=some o:=by
 unfold BZ;rw[iP,FZ ha,e];rfl
def Yb{h:Heap}(X:K.In h){g:Obj}(hg:K.lookup mainGlobals=some g)(hP:mainGlobals∉ts.map (·.1)):(BZ K ts).In h:=λa o e=>by
 unfold BZ at e;rw[iP]at e;by_cases ha:a∈ts.map (·.1)
 .rw[HV ha,none_or]at e;have h2:(a==mainGlobals)=false:=beq_eq_false_iff_ne.mpr λz=>hP (z ▸ ha);rw[hZ,h2]at e;cases e
 .rw[FZ ha]at e;cases k:K.lookup a with
  |some o'=>rw[k]at e;cases e;exact X _ _ k
  |none=>
   rw[k,none_or,hZ]at e;by_cases hm:a=mainGlobals
   .subst hm;rw[hg]at k;cases k
   .rw[beq_eq_false_iff_ne.mpr hm]at e;cases e
def YZ(hM:mainGlobals∉ts.map (·.1)){P:Addr}(hP:P∈ts.map (·.1)):(BZ K ts).lookup P=none:=by
 unfold BZ;have h2:(P==mainGlobals)=false:=beq_eq_false_iff_ne.mpr λz=>hM (z ▸ hP);rw[iP,HV hP,none_or,hZ,h2];rfl
def Fun.mark{st:Stmt}(D:Fun K x qual st f fd)(X:K.In h)(hP:∀P∈ts.map (·.1),h.get? P=some (tabObj #[])):Fun (BZ K ts) x qual st f fd:=by
 have neP:∀a o,K.lookup a=some o->o≠tabObj #[]->a∉ts.map (·.1):=λa o e n z=>by
  have:=X _ _ e;rw[hP a z]at this;exact n (104 this).symm
 obtain⟨⟨oc,od,kV,doc,pm,an,cdv,ct,osl,rfl,lk,hcd⟩,kp⟩:=D;have hf:f∉ts.map (·.1):=neP f _ lk (λz=>by cases z);refine⟨⟨oc,od,kV,doc,pm,an,cdv,ct,osl,rfl,HK hf lk,?_⟩,?_⟩
 .unfold codeIn at hcd ⊢;split at hcd
  .next c0=>
   split at hcd
   .next vs sl k=>
    have hc:c0∉ts.map (·.1):=neP c0 _ k (λz=>by
     have:vs=#[]:=by injection z with _ _ z _;injection z
     rw[this]at hcd;cases hcd)
    simp only[HK hc k];exact hcd
   .cases hcd
  .cases hcd
 .unfold keepIn;simp only[HK hf lk]
end
def dF{K:Frag}(hS:SqL K H a xs)(hO:∀ys,H a≠some (.lst ys)):RoL K H a xs:=by
 rcases hS with(h|h)|h
 .exact absurd h (hO xs)
 .exact .inl h
 .exact .inr h
def Sg{Pg:Program}{w:World}{K:Frag}{mg mb:Str->Option Value}{k:Nat}{fa:Addr}{fd:FuncData}{ts:List Tb}{s₁:96}{vs:79}{F:List D->Hd->Option (D×Hd)}
 (KX:K.In s₁.heap) (hns:s₁.heap.Ns mainGlobals mg) (hb:s₁.heap.Ns builtinsNs mb) (hbb:∀x:Str,x≠"__name__"->mb x=bootBuiltins x) (hlim:s₁.heap.NoLimit) (hg:s₁.gens=#[])
 (ha:s₁.heap.get? a=some { cls:=.type "list",data:=.seq 78 }) (hi:IntsAre vs ns) (hl:ns.length<=sizeLine) (hr:Room k callerA)
 (hT:∀P∈ts.map (·.1),∃cc,s₁.heap.TableAt cc P #[]) (hPK:∀P∈ts.map (·.1),K.lookup P=none) (htab:Cl K=ts.map λt=>(t.1,t.2.1,⟨t.2.2.1,t.2.2.2,0,0⟩))
 (Fn:∀base:Heap,K.In base->base.Ns mainGlobals mg->(∀b o,b∉ts.map (·.1)->b≠a->s₁.heap.get? b=some o->base.get? b=some o)->FnOk Pg w K mg base CX0 k fa fd [x] (spF K 1 F)) (hbind:∀(s:96) (u:Value),BindsTo s fd ⟨[u],[]⟩ [(x,u)])
 (hF:∃hd',F [.ro ns] []=some (.im (.bl true),hd')):
 codeAny (model Pg w) callerA (.call (.ref fa) ⟨[.ref a],[]⟩) (λr s'=>r=.ok (.ret (.bool true))/\OldK s₁.heap s'.heap/\s'.os=s₁.os/\AllBare s'.gens) s₁:=by
 have rv:=Gz hi;have lenV:=hi.length;have hP:∀P∈ts.map (·.1),s₁.heap.get? P=some (tabObj #[]):=λP h=>let ⟨cc,t⟩:=hT P h;t.2
 have haP:a∉ts.map (·.1):=λz=>by rw[hP a z]at ha;cases ha
 have core:∀H:Hp,(∀b,b∉ts.map (·.1)->H b=none∨∃o xs,H b=some (.frz o (.lst xs)))->(∀P∈ts.map (·.1),H P=some (.tbl #[]))->SqL K H a (ns.map V.int)->HOk Pg w H s₁.heap->(∀b,H b≠none->b=a∨b∈ts.map (·.1))->(H a≠none->K.lookup a=none) ->
  codeAny (model Pg w) callerA (.call (.ref fa) ⟨[.ref a],[]⟩) (λr s'=>r=.ok (.ret (.bool true))/\OldK s₁.heap s'.heap/\s'.os=s₁.os/\AllBare s'.gens) s₁:=by
  intro H hO hHP hS hok hA hK;have base_of:∀{b:Addr} {o:Obj},s₁.heap.get? b=some o->H b=none->(GY s₁.heap H).get? b=some o:=λe n=>VV e n;have noA:∀{b:Addr} {o:Obj} {es:Array DictEntry} {ep:Nat},s₁.heap.get? b=some o->o.data=.dict es ep->H b=none:=λ{b o es ep} e d=>by
   cases q:H b with
   |none=>rfl
   |some u=>
    rcases hA b (by rw[q];simp)with e'|e'
    .subst e';rw[ha]at e;cases e;have d':Data.seq 78 _=Data.dict es ep:=d;cases d'
    .rw[hP b e']at e;cases e;cases d
  have nsK:∀{b:Addr} {m:Str->Option Value},s₁.heap.Ns b m->(GY s₁.heap H).Ns b m:=λ{b m} ⟨o,es,ep,e,d,r⟩=>⟨o,es,ep,base_of e (noA e d),d,r⟩
  have hKb:K.In (GY s₁.heap H):=λb o e=>base_of (KX b o e) (by
   cases q:H b with
   |none=>rfl
   |some u=>
    rcases hA b (by rw[q];simp)with e'|e'
    .subst e';rw[hK (by rw[q];simp)]at e;cases e
    .rw[hPK b e']at e;cases e)
  have hM:Mod K mg (GY s₁.heap H):=⟨hKb,nsK hns,⟨mb,nsK hb,hbb⟩,let ⟨mc,h1,h2⟩:=hlim;⟨mc,nsK h1,h2⟩⟩
  have e0:Env0 Pg w K mg (GY s₁.heap H) callerA [] s₁ H:=⟨rfl,hM,λb o e=>YU e,Nat.le_of_eq (Sn _ _),trivial,λb hb=>absurd (show b∈([]:List Addr)from hb) 71,hok,.of_eq hg⟩
  have hsp:spF K 1 F [.ref a] H (λv _=>v=.bl true) λ_ _ _=>False:=by
   obtain⟨hd',e⟩:=hF;refine⟨rfl,[],[],[.ro ns],.im (.bl true),hd',⟨rfl,List.nodup_nil,λy hy=>?_,λn o a h=>by simp at h⟩,?_,e,λρ' H' v _ _ r=>?_⟩
   .rw[htab]at hy;obtain⟨t,ht,rfl⟩:=mem_map.mp hy;exact⟨#[],hHP t.1 (mem_map.mpr ⟨t,ht,rfl⟩),.inl rfl⟩
   .simp only[RDs,RD];refine⟨_,_,rfl,⟨a,rfl,dF hS λys z=>?_⟩,rfl⟩;rcases hO a haP with q|⟨o,ys,q⟩<;>(rw[q]at z;cases z)
   .simpa only[RD,RI]using r
  refine ja ((Fn _ hKb (nsK hns) λb o n1 n2 e=>base_of e (by
   cases q:H b with
   |none=>rfl
   |some u=>
    rcases hA b (by rw[q];simp)with e'|e'
    .exact absurd e' n2
    .exact absurd e' n1)).run callerA [] s₁ H ⟨[.ref a],[]⟩ [.ref a] [.ref a] _ _ hr e0 (hbind s₁ (.ref a)) (.cons rfl .nil) hsp) λr s' h=>?_
  cases r with
  |error e=>exact h.elim
  |ok fl=>
   cases fl with
   |next=>exact False.elim h
   |brk=>exact False.elim h
   |cont=>exact False.elim h
   |ret u=>
    obtain⟨v,H',os,bare,un,hok',r',q⟩:=h;have q':v=.bl true:=q;subst q';obtain rfl:u=Value.bool true:=r';have keep:∀b o,b∉ts.map (·.1)->s₁.heap.get? b=some o->s'.heap.get? b=some o:=λb o nb e=>by
     cases q:H b with
     |none=>exact un.keep b o e q (by intro z;exact absurd (show b∈([]:List Addr)from z) 71) 71
     |some u=>
      rcases hO b nb with z|⟨ob,xs,z⟩
      .rw[q]at z;cases z
      .have z2:=un.frzs b ob _ z;obtain⟨e1,_⟩:=hok b _ z;obtain⟨e2,_⟩:=hok' b _ z2;rw[e]at e1;cases e1;exact e2
    refine⟨rfl,⟨λb o e=>?_,λb o e=>?_⟩,os,bare⟩
    .by_cases nb:b∈ts.map (·.1)
     .obtain⟨cc,tb⟩:=hT b nb;obtain⟨more,hm⟩:=un.tbls b #[] (hHP b nb);have hb':s'.heap.get? b=some (tabObj (#[]++more)):=hok' b _ hm;rw[hP b nb]at e;cases e;exact .inr (.inl ⟨tb.isCodeTable,rfl,#[],more,rfl,hb'⟩)
     .exact .inl (keep b o nb e)
    .by_cases nb:b∈ts.map (·.1)
     .obtain⟨more,hm⟩:=un.tbls b #[] (hHP b nb);exact⟨_,hok' b _ hm⟩
     .exact⟨o,keep b o nb e⟩
 cases hk:K.lookup a with
 |some o=>
  have e:=KX a o hk;rw[ha]at e;cases e;refine core (λb=>if b∈ts.map (·.1)then some (.tbl #[])else none) (λb nb=>.inl (gh nb)) (λP hp=>gb hp) (.inr ⟨_,78,_,hk,rfl,rfl,rfl,by rw[gu,lenV];exact hl,by simpa using rv⟩) (λb u z=>?_) (λb z=>?_) λz=>absurd (gh haP) z
  .by_cases hb:b∈ts.map (·.1)
   .have z':=(gb hb).symm.trans z;cases z';exact hP b hb
   .have z':=(gh hb).symm.trans z;cases z'
  .by_cases hb:b∈ts.map (·.1)
   .exact .inr hb
   .exact absurd (gh hb) z
 |none=>
  refine core (λb=>if b∈ts.map (·.1)then some (.tbl #[])else if b=a then some (.frz { cls:=.type "list",data:=.seq 78 } (.lst (ns.map V.int)))else none) (λb nb=>?_) (λP hp=>gb hp) (.inl (.inr ⟨{ cls:=.type "list",data:=.seq 78 },(gh haP).trans (gb rfl)⟩)) (λb u z=>?_) (λb z=>?_) λ_=>hk
  .rw[gh nb];by_cases hb:b=a
   .exact .inr ⟨_,_,gb hb⟩
   .exact .inl (gh hb)
  .by_cases hp:b∈ts.map (·.1)
   .have z':=(gb hp).symm.trans z;cases z';exact hP b hp
   .have z:=(gh hp).symm.trans z;by_cases hb:b=a
    .have z':=(gb hb).symm.trans z;cases z';subst hb;exact⟨ha,by rw[gZ];exact hl,vs,_,rv,ha⟩
    .have z':=(gh hb).symm.trans z;cases z'
  .by_cases hp:b∈ts.map (·.1)
   .exact .inr hp
   .by_cases hb:b=a
    .exact .inl hb
    .exact absurd ((gh hp).trans (gh hb)) z
def walkL{l:OpenLaw}{n k:Nat}{XP:(Str->Option Value)->Heap->Prop}{YP:World->Heap->Prop}{d:DefRec}{K:Params->Frag}{F:List D->Hd->Option (D×Hd)}(xs:List (Str×Str×Nat×Nat))
 (hn:l.most=some n) (hn2:n<=sizeLine) (hdf:d.params.defaults=[]) (hr:Room k callerA) (hdr:∀x∈xs,∃dr,(recsOf q).find? (λe=>e.name==x.1)=some dr)
 (hF:∀ns:List Int,∃hd',F [.ro ns] []=some (.im (.bl true),hd'))
 (hY:∀(w:World) (h:Heap),YP w h->(K w.params).In h)
 (G:∀(w:World) (mg:Str->Option Value) (fa:Addr) (h:Heap) (c P:Str->Addr),(K w.params).In h->h.Ns mainGlobals mg->mg d.name=some (.ref fa) ->
  (∀x∈xs,h.get? (P x.1)=some (tabObj #[])/\CodeHd h (c x.1) (P x.1)/\∃a o fd,mg x.1=some (.ref a)/\h.get? a=some o/\o.data=.func fd/\fd.code=.ref (c x.1)) ->
  (∃g,(K w.params).lookup mainGlobals=some g)/\∃fd:FuncData,(∀(s:96) (u:Value),BindsTo s fd ⟨[u],[]⟩ [("_law_script",u)])/\
   ∀base:Heap,(BZ (K w.params) (xs.map λx=>(P x.1,x.2))).In base->base.Ns mainGlobals mg->(∀x∈xs,CodeHd base (c x.1) (P x.1))->(∀x∈xs,base.BuiltinsAt mg (P x.1))->FnOk l.prog w (BZ (K w.params) (xs.map λx=>(P x.1,x.2))) mg base CX0 k fa fd ["_law_script"] (spF (BZ (K w.params) (xs.map λx=>(P x.1,x.2))) 1 F)):
 PySem.W.WalkO q loose XP YP l.row.toRowW d [] (λf vs=>PySem.call f vs):=by
 refine Att.attach_call hn hdf λw s₀ s₁ mg mb fa o pm cd doc a vs ns Gr Y ho hd hcd hmg hobj hints hlen hg=>?_;have KX:=hY w _ Y;have each:∀x:Str,∃cp:Addr×Addr,(∃y∈xs,y.1=x)->(∃cc,s₁.heap.TableAt cc cp.2 #[])/\CodeHd s₁.heap cp.1 cp.2/\∃a o fd,mg x=some (.ref a)/\s₁.heap.get? a=some o/\o.data=.func fd/\fd.code=.ref cp.1:=by
  intro x;by_cases hx:∃y∈xs,y.1=x
  .obtain⟨y,hy,rfl⟩:=hx;obtain⟨dr,hdr⟩:=hdr y hy;have hnm:dr.name=y.1:=beq_iff_eq.mp (List.find?_some (p:=λe:DefRec=>e.name==y.1) hdr);obtain⟨a',o',fd',c,P,h1,h2,h3,h4,h5,h6⟩:=Gr.T.tab dr (List.mem_of_find?_eq_some hdr);rw[hnm]at h1;exact⟨(c,P),λ_=>⟨⟨_,h6⟩,CodeHd.of h5 h6,a',o',fd',h1,h2,h3,h4⟩⟩
  .exact⟨(0,0),λh=>absurd h hx⟩
 obtain⟨cp,hcp⟩:=Classical.skolem.mp each;have hcp:∀x∈xs,(∃cc,s₁.heap.TableAt cc (cp x.1).2 #[])/\CodeHd s₁.heap (cp x.1).1 (cp x.1).2/\∃a o fd,mg x.1=some (.ref a)/\s₁.heap.get? a=some o/\o.data=.func fd/\fd.code=.ref (cp x.1).1:=λx hx=>hcp x.1 ⟨x,hx,rfl⟩;have hts:∀P∈(xs.map λx=>((cp x.1).2,x.2)).map (·.1),∃x∈xs,P=(cp x.1).2:=λP hP=>by
  obtain⟨t,ht,rfl⟩:=mem_map.mp hP;obtain⟨x,hx,rfl⟩:=mem_map.mp ht;exact⟨x,hx,rfl⟩
 have hP:∀x∈xs,s₁.heap.get? (cp x.1).2=some (tabObj #[]):=λx hx=>by
  obtain⟨⟨cc,t⟩,_⟩:=hcp x hx;exact t.2
 have hmP:mainGlobals∉(xs.map λx=>((cp x.1).2,x.2)).map (·.1):=λz=>by
  obtain⟨x,hx,ez⟩:=hts _ z;obtain⟨o,es,ep,e,dd,_⟩:=Gr.T.g;rw[ez,hP x hx]at e;cases e;cases dd
 obtain⟨⟨g,hgl⟩,fd,hb,hFn⟩:=G w mg fa _ (λx=>(cp x).1) (λx=>(cp x).2) KX Gr.T.g hmg λx hx=>⟨hP x hx,(hcp x hx).2⟩
 refine Sg (ts:=xs.map λx=>((cp x.1).2,x.2)) (K:=BZ (K w.params) (xs.map λx=>((cp x.1).2,x.2))) (Yb KX hgl hmP) Gr.T.g Gr.T.b Gr.T.builtins Gr.T.nolimit hg hobj hints (gw hlen hn2) hr (λP hp=>by obtain⟨x,hx,rfl⟩:=hts P hp;exact(hcp x hx).1) (λP hp=>YZ hmP hp) (HA _ _) (λbase kb nb keep=>hFn base kb nb (λx hx=>?_) λx hx=>?_) hb (hF ns)
 .obtain⟨oc,vs',file,tf,flags,tg,inF,text,tt,e1,r1,r2,r3,r4,r5,r6,r7,r8,hne⟩:=(hcp x hx).2.1;have hn:(cp x.1).1∉(xs.map λx=>((cp x.1).2,x.2)).map (·.1):=λz=>by
   obtain⟨y,hy,ez⟩:=hts _ z;rw[ez,hP y hy]at e1;cases e1;cases r1
  exact⟨oc,vs',file,tf,flags,tg,inF,text,tt,keep (cp x.1).1 oc hn (λz=>by rw[z,hobj]at e1;cases e1;exact absurd (show Value.type "list"=Value.type "code" from r1) 97) e1,r1,r2,r3,r4,r5,r6,r7,r8,hne⟩
 .obtain⟨bm,ob,b1,b2,b3,b4,b5,b6⟩:=Gr.T.bmain;have nP:∀y∈xs,bm≠(cp y.1).2:=λy hy z=>by rw[z,hP y hy]at b3;cases b3;cases b4
  have hn:bm∉(xs.map λx=>((cp x.1).2,x.2)).map (·.1):=λz=>by
   obtain⟨y,hy,ez⟩:=hts _ z;exact nP y hy ez
  refine⟨bm,ob,b1,b2,λz=>?_,nP x hx,keep bm ob hn (λz=>by rw[z,hobj]at b3;cases b3;exact absurd (show Value.type "list"=Value.type "module" from b4) 97) b3,b4,b5,b6⟩;obtain⟨o,es,ep,e,dd,_⟩:=Gr.T.g;rw[<- z,b3]at e;cases e;rw[b6]at dd;cases dd
noncomputable def Tm(o:Obj):Option Addr:=match o.data with
 | .fields vs=>(match (vs[11]?:Option Value)with
  |some (Value.ref P)=>some P
  | _=>none)
 |_=>none
def ZG{K:Frag}(X:K.In h)(hc:CodeHd h c P)(k:K.lookup c=some o)(e:Tm o=some p):P=p:=by
 obtain⟨o',vs,file,tf,flags,tg,inF,text,tt,e1,e2,e3,e4,_⟩:=hc;have:=X _ _ k;rw[e1]at this;cases this;simp only[Tm,e3,e4]at e;exact 104 e
end L2
namespace L2
open PySem PySem.W PyProof.Rows
noncomputable abbrev FD:=List D->Hd->Option (D×Hd)
structure EnK where
 P:Program
 w:World
 K:Frag
 mg:Str->Option Value
 base:Heap
structure Df where
 x:Str
 st:Stmt
 ps:List Str
 k:Nat
 F:FD
def Dn(E:EnK)(e:Df):Prop:=∃f fd,DefAt E.K E.mg e.x e.st f fd e.ps
def Dl(E:EnK)(e:Df)(ps:Pos):Prop:=∃f fd c P,DefAt E.K E.mg e.x e.st f fd e.ps/\LamC E.K E.mg E.base fd c P ((e.x++".<locals>.")++"<lambda>") ps
def Kn(E:EnK)(e:Df):Prop:=∃f fd,DefAt E.K E.mg e.x e.st f fd e.ps/\FnOk E.P E.w E.K E.mg E.base CX0 e.k f fd e.ps (spF E.K e.ps.length e.F)/\∀ds hd z,e.F ds hd=some z->83=e.ps.length
def okK{st:Stmt}{j k:Nat}(D:Dn E ⟨x,st,ps,k,F⟩)(S:FnScope N ps (AC st))(hF:F=mkF ps.length N.length m)(hk:k=j+1)
 (h:∀(f:Addr) (cdv:Value) (A:Around) (outer:List Env) (s:96) (H:Hp) (Ek:XK),Room j (A.deeper (envOfC x (AC st) 59 f cdv))->∃t,QSs E.K (Fi CX0 E.P E.w E.K E.mg E.base N x (AC st) f cdv A outer s H Ek).nox (BY st) t m):Kn E ⟨x,st,ps,k,F⟩:=by
 obtain⟨f,fd,D⟩:=D;subst hF;subst hk;exact⟨f,fd,D,YT D S (h f),Op⟩
def okL{st:Stmt}{j k:Nat}(D:Dl E ⟨x,st,ps,k,F⟩ pos)(S:FnScope N ps (AC st))(hF:F=mkF ps.length N.length m)(hk:k=j+1)
 (h:∀(f c P:Addr) (fd:FuncData) (LC:LamC E.K E.mg E.base fd c P ((x++".<locals>.")++"<lambda>") pos) (cdv:Value) (A:Around) (outer:List Env) (s:96) (H:Hp) (Ek:XK),fd.code=cdv->Room j (A.deeper (envOfC x (AC st) 59 f cdv))->∃t,QSs E.K (Fi CX0 E.P E.w E.K E.mg E.base N x (AC st) f cdv A outer s H Ek).nox (BY st) t m):Kn E ⟨x,st,ps,k,F⟩:=by
 obtain⟨f,fd,c,P,D,LC⟩:=D;subst hF;subst hk;exact⟨f,fd,D,VC D S (h f c P fd LC),Op⟩
def ok0{st:Stmt}{k k':Nat}(D:Dn E ⟨x,st,ps,k',F⟩):Kn E ⟨x,st,ps,k,λ_ _=>none⟩:=by
 obtain⟨f,fd,D⟩:=D;refine⟨f,fd,D,⟨λvs H Q E h=>h.1,λA outer s H args us vs Q E hr e0 hb hv h=>?_⟩,λ_ _ _ h=>nomatch h⟩;obtain⟨_,_,_,_,_,_,_,_,e,_⟩:=h;cases e
section
variable{K:Frag}{X:Cx}{j k:Nat}{st:Stmt}
def qcW(w:Nat)(G:Kn ⟨X.prog,X.w,X.K,X.mg,X.base⟩ ⟨x,st,ps,j,F⟩)(hr:Room k X.A)(ha:QA K X (e::es) t m)
 (hjk:j<=k:=by first|decide|omega) (hg:Gl X x:=by rfl) (hdb:(x==("__debug__":Str))=false:=by decide) (he:starEach (e::es) X.env=(false,eval e X.env)::starEach es X.env:=by rfl) (hpl:(backTo pos (starEach es X.env)).any (·.1)=false:=by rfl) (hK:X.K=K:=by rfl):
 QE K X (.Call (.Name x p) (e::es) [] pos) (Dg (spF K ps.length F) [] E0 t) (AD w F m):=by
 subst hK;obtain⟨f,fd,D,G,l⟩:=G;exact Uq _ w G hr D ha l hjk hg hdb he hpl
def qcG(G:Kn ⟨X.prog,X.w,X.K,X.mg,X.base⟩ ⟨x,st,ps,j,F⟩)(hr:Room k X.A)(ha:QA K X (e::es) t m)
 (hjk:j<=k:=by first|decide|omega) (hg:Gl X x:=by rfl) (hdb:(x==("__debug__":Str))=false:=by decide) (he:starEach (e::es) X.env=(false,eval e X.env)::starEach es X.env:=by rfl) (hpl:(backTo pos (starEach es X.env)).any (·.1)=false:=by rfl) (hK:X.K=K:=by rfl):
 QE K X (.Call (.Name x p) (e::es) [] pos) (Dg (spF K ps.length F) [] E0 t) (Bp F m):=by
 subst hK;obtain⟨f,fd,D,G,l⟩:=G;exact Ut _ G hr D ha l hjk hg hdb he hpl
def qcS(G:Kn ⟨X.prog,X.w,X.K,X.mg,X.base⟩ ⟨x,st,ps,j,F⟩)(hr:Room k X.A)(ha:QA K X (e::es) t m)
 (hjk:j<=k:=by first|decide|omega) (hg:Gl X x:=by rfl) (hdb:(x==("__debug__":Str))=false:=by decide) (he:starEach (e::es) X.env=(false,eval e X.env)::starEach es X.env:=by rfl) (hpl:(backTo pos (starEach es X.env)).any (·.1)=false:=by rfl) (hK:X.K=K:=by rfl):
 QE K X (.Call (.Name x p) (e::es) [] pos) (Dg (spF K ps.length F) [] E0 t) (Dk F m):=by
 subst hK;obtain⟨f,fd,D,G,l⟩:=G;exact Us _ G hr D ha l hjk hg hdb he hpl
noncomputable def Di(a:Arguments):Str:=match a.args with
 |x::_=>x.arg
 |[]=>""
def qbA{κ:Type}(W:Wy κ)(LC:LamC X.K X.mg X.base fd c P q lpos)(hcd:fd.code=cdv)(hr:Room k X.A)(hm:X.mg (bif W.z then "max" else "min")=none)(he:QE K X e te mi)
 (hb:∀(f:Addr) (cd:Value) (s:96) (H:Hp),QE K (lCx X X.A.in1 (Di params::frN X ix) 98 scope f cd (Ab X.env.cells 90 []) s H) body tb mb)
 (hcv:X.env.code=cdv:=by rfl) (hq:q=X.env.qual++"<lambda>":=by rfl) (S:CSc X scope (frN X ix) ix:=by exact⟨rfl,by decide +kernel,rfl,rfl,rfl,by decide +kernel⟩) (L:LSc scope (Di params):=by exact⟨rfl,rfl,rfl,rfl⟩) (h3:3<=k:=by decide)
 (hbind:∀(cl:List (Str×Addr)) (pm cd ctv us:Value),bindArgs (kla_fn "<lambda>" 98 params body scope cl pm cd ctv) ⟨[us],[]⟩=pure [(Di params,us)]:=by exact λ_ _ _ _ _=>rfl)
 (hcm:X.calm=true:=by rfl) (hg:Gl X (bif W.z then "max" else "min"):=by rfl) (hdef:defaultsOf params X.env=([],[]):=by rfl) (hs:starEach [e] X.env=[(false,eval e X.env)]:=by rfl) (hK:X.K=K:=by rfl):
 QE K X (.Call (.Name (bif W.z then "max" else "min") p) [e] [⟨some "key",.Lambda params body scope lpos,kpos⟩] pos) (Ph W K P 98 lpos ix te tb) (FB (vwY W.y) W.kp W.op mi ix mb):=by
 subst hq;subst hK;exact⟨YM W ⟨hcv.trans (hcd.symm.trans LC.code),LC.hd,LC.bl⟩ S L (hr.mono h3) hcm hg hm hbind he.p (λf cd s H=>(hb f cd s H).p) hdef hs,XU W he.r (hb 0 .none X.s₀ X.H₀).r LC.ti⟩
def aJ{src:Ls->Hd->Option (List Int×Hd)}(LC:LamC X.K X.mg X.base fd c P q lpos)(hcd:fd.code=cdv)(hr:Room k X.A)(hm:X.mg "sorted"=none)(he:QSrc K X e te src)
 (hb:∀(f:Addr) (cd:Value) (s:96) (H:Hp),QE K (lCx X X.A.in1.in1 (Di params::frN X ix) 98 scope f cd (Ab X.env.cells 90 []) s H) body tb mb)
 (hcv:X.env.code=cdv:=by rfl) (hq:q=X.env.qual++"<lambda>":=by rfl) (S:CSc X scope (frN X ix) ix:=by exact⟨rfl,by decide +kernel,rfl,rfl,rfl,by decide +kernel⟩) (L:LSc scope (Di params):=by exact⟨rfl,rfl,rfl,rfl⟩) (h3:3<=k:=by decide)
 (hbind:∀(cl:List (Str×Addr)) (pm cd ctv us:Value),bindArgs (kla_fn "<lambda>" 98 params body scope cl pm cd ctv) ⟨[us],[]⟩=pure [(Di params,us)]:=by exact λ_ _ _ _ _=>rfl)
 (hcm:X.calm=true:=by rfl) (hg:Gl X "sorted":=by rfl) (hdef:defaultsOf params X.env=([],[]):=by rfl) (hs:starEach [e] X.env=[(false,eval e X.env)]:=by rfl) (hK:X.K=K:=by rfl):
 QN K X (.Call (.Name "sorted" p) [e] [⟨some "key",.Lambda params body scope lpos,kpos⟩] pos) (JX K P 98 lpos ix te tb) (EO src ix mb):=by
 subst hq;exact Ui K ⟨hcv.trans (hcd.symm.trans LC.code),LC.hd,LC.bl⟩ (hK ▸ LC.ti) S L hr h3 hm he hb hbind hcm hg hdef hs hK
end
def FnAt(K:Frag)(n:Str)(s:Stmt)(f:Addr)(cd:Value):Prop:=∃oc kV dc pm ct od an sl,PySem.W.nsIn K mainGlobals n=some (some (.ref f))/\K.lookup f=some ⟨oc,od,.func (fnOf n n (Ca s) (BY s) (AC s) .none kV dc pm an cd ct),sl⟩/\codeIn K cd n=true/\keepIn K (.ref f)=true
def Fe(K:Frag)(e:Df):Prop:=∃f cd,FnAt K e.x e.st f cd
def Fla(K:Frag)(e:Df)(p:Addr):Prop:=∃f ca ob,FnAt K e.x e.st f (.ref ca)/\K.lookup ca=some ob/\Tm ob=some p
noncomputable abbrev Xs:=List (Str×Str×Nat×Nat)
def HX(xs:Xs)(mg:Str->Option Value)(h:Heap)(c P:Str->Addr):Prop:=∀x∈xs,h.get? (P x.1)=some (tabObj #[])/\CodeHd h (c x.1) (P x.1)/\∃a o fd,mg x.1=some (.ref a)/\h.get? a=some o/\o.data=.func fd/\fd.code=.ref (c x.1)
noncomputable abbrev tbs(xs:Xs)(P:Str->Addr):List Tb:=xs.map λx=>(P x.1,x.2)
abbrev enM(l:OpenLaw)(w:World)(K:Frag)(xs:Xs)(P:Str->Addr)(mg:Str->Option Value)(base:Heap):EnK:=⟨l.prog,w,BZ K (tbs xs P),mg,base⟩
def Bd(e:Df):Prop:=∀(kV doc pm:Value) (an:Option Addr) (cdv ct:Value) (us:79),us.length=e.ps.length->bindArgs (fnOf e.x e.x (Ca e.st) (BY e.st) (AC e.st) .none kV doc pm an cdv ct) ⟨us,[]⟩=pure (e.ps.zip us)
section
variable{K:Frag}{mg:Str->Option Value}{c P:Str->Addr}(X:K.In h)(G:h.Ns mainGlobals mg)(hx:HX xs mg h c P)
include hx in
theorem f9:∀P'∈(tbs xs P).map (·.1),h.get? P'=some (tabObj #[]):=λP' hp=>by
 obtain⟨t,ht,rfl⟩:=mem_map.mp hp;obtain⟨x,hxx,rfl⟩:=mem_map.mp ht;exact(hx x hxx).1
include X G hx in
theorem FnAt.def{e:Df}(H:FnAt K e.x e.st f cd)(b:Bd e):∃fd,DefAt (BZ K (tbs xs P)) mg e.x e.st f fd e.ps/\fd.code=cd:=by
 obtain⟨oc,kV,dc,pm,ct,od,an,sl,a,l,cc,k⟩:=H;have F:=Fun.mark (ts:=tbs xs P) (cI (st:=e.st) l cc k) X (f9 hx);exact⟨_,⟨F,PySem.W.mg_of X G a,F.binds b⟩,rfl⟩
include X G hx in
theorem Fe.dn(H:Fe K e)(b:Bd e)(l:OpenLaw)(w:World)(base:Heap):Dn (enM l w K xs P mg base) e:=by
 obtain⟨f,cd,H⟩:=H;obtain⟨fd,D,_⟩:=H.def X G hx b;exact⟨f,fd,D⟩
include X G hx in
theorem Fla.code(H:Fla K e p){i j:Nat}(hm:(e.x,q,i,j)∈xs):P e.x=p/\∃f,FnAt K e.x e.st f (.ref (c e.x)):=by
 obtain⟨f,ca,ob,⟨oc,kV,dc,pm,ct,od,an,sl,a,l,cc,k⟩,t,v⟩:=H;obtain⟨_,hh,a',ob',fd,h1,h2,h3,h4⟩:=hx _ hm;have e1:=h1.symm.trans (PySem.W.mg_of X G a);cases e1;have e2:=h2.symm.trans (X _ _ l);cases e2;cases h3;have e3:Value.ref ca=.ref (c e.x):=h4;cases e3;exact⟨ZG X hh t v,f,⟨_,_,_,_,_,_,_,_,a,l,cc,k⟩⟩
include X G hx in
theorem Fla.dl(H:Fla K e p)(b:Bd e){i j:Nat}(hm:(e.x,q,i,j)∈xs){i' j':Nat}(l:OpenLaw)(w:World)(hd:∀x∈xs,CodeHd base (c x.1) (P x.1))(bl:∀x∈xs,base.BuiltinsAt mg (P x.1))(nd:((Cl (BZ K (tbs xs P))).map (·.1)).Nodup)(hq:q=(e.x++".<locals>.")++"<lambda>"):
 Dl (enM l w K xs P mg base) e ⟨i,j,i',j'⟩:=by
 obtain⟨_,f,H⟩:=H.code X G hx hm;obtain⟨fd,D,e1⟩:=H.def X G hx b;subst hq;exact⟨f,fd,_,_,D,⟨e1,hd _ hm,bl _ hm,⟨i,j,0,0⟩,by rw[HA];exact mem_map.mpr ⟨(P e.x,_,i,j),mem_map.mpr ⟨_,hm,rfl⟩,rfl⟩,nd,rfl,rfl⟩⟩
def di(h:(xs.map λx=>P x.1)=ps)(n:ps.Nodup):((Cl (BZ K (tbs xs P))).map (·.1)).Nodup:=by
 rw[HA,gY,gY];subst h;exact n
end
def Zs(K:Frag):Prop:=∀n∈(["list","tuple","len","range","repr","sum","min","max","abs","all","any","sorted","zip","isinstance","int","bool","str","set","enumerate","reversed","dict"]:List Str),PySem.W.nsIn K mainGlobals n=some none
def Zs.blt{K:Frag}(Z:Zs K){mg:Str->Option Value}(X:K.In h)(G:h.Ns mainGlobals mg):BltA mg:=by
 constructor<;>exact PySem.W.mg_none_of X G (Z _ 71)
def bd1{e:Df}(hl:e.ps.length=1:=by rfl)(h:∀(kV doc pm:Value) (an:Option Addr) (cdv ct:Value) a,bindArgs (fnOf e.x e.x (Ca e.st) (BY e.st) (AC e.st) .none kV doc pm an cdv ct) ⟨[a],[]⟩=pure (e.ps.zip [a]):=by intros;rfl):Bd e:=by
 intro _ _ _ _ _ _ us hu;rcases us with _|⟨_,_|⟨_,_⟩⟩<;>first|exact h .. | cases hu.trans hl
def bd2{e:Df}(hl:e.ps.length=2:=by rfl)(h:∀(kV doc pm:Value) (an:Option Addr) (cdv ct:Value) a b,bindArgs (fnOf e.x e.x (Ca e.st) (BY e.st) (AC e.st) .none kV doc pm an cdv ct) ⟨[a,b],[]⟩=pure (e.ps.zip [a,b]):=by intros;rfl):Bd e:=by
 intro _ _ _ _ _ _ us hu;rcases us with _|⟨_,_|⟨_,_|⟨_,_⟩⟩⟩<;>first|exact h .. | cases hu.trans hl
def bd3{e:Df}(hl:e.ps.length=3:=by rfl)(h:∀(kV doc pm:Value) (an:Option Addr) (cdv ct:Value) a b c,bindArgs (fnOf e.x e.x (Ca e.st) (BY e.st) (AC e.st) .none kV doc pm an cdv ct) ⟨[a,b,c],[]⟩=pure (e.ps.zip [a,b,c]):=by intros;rfl):Bd e:=by
 intro _ _ _ _ _ _ us hu;rcases us with _|⟨_,_|⟨_,_|⟨_,_|⟨_,_⟩⟩⟩⟩<;>first|exact h .. | cases hu.trans hl
def bd4{e:Df}(hl:e.ps.length=4:=by rfl)(h:∀(kV doc pm:Value) (an:Option Addr) (cdv ct:Value) a b c d,bindArgs (fnOf e.x e.x (Ca e.st) (BY e.st) (AC e.st) .none kV doc pm an cdv ct) ⟨[a,b,c,d],[]⟩=pure (e.ps.zip [a,b,c,d]):=by intros;rfl):Bd e:=by
 intro _ _ _ _ _ _ us hu;rcases us with _|⟨_,_|⟨_,_|⟨_,_|⟨_,_|⟨_,_⟩⟩⟩⟩⟩<;>first|exact h .. | cases hu.trans hl
def B6{ps:List Str}{sc:Scope}(h:(decide (sc.kind=.function)&&!sc.isCoroutine&&!sc.isGenerator&&ndB N&&(N.take ps.length==ps)&&(ps.all λx=>sc.names.lookup x==some .local||sc.names.lookup x==some .cell)&&sc.names.all λy=>y.2 != .free)=true):FnScope N ps sc:=by
 simp only[Bool.and_eq_true,all_eq_true,Bool.or_eq_true,beq_iff_eq,j4,Bool.not_eq_true',bne_iff_ne]at h;obtain⟨⟨⟨⟨⟨⟨h1,h2⟩,h3⟩,h4⟩,h5⟩,h6⟩,h7⟩:=h;exact⟨h1,h2,h3,Fy h4,h5,h6,h7⟩
abbrev HG(l:OpenLaw)(w:World)(K:Frag)(xs:Xs)(mg:Str->Option Value)(c P:Str->Addr)(fa:Addr)(e:Df):Prop:=(∃g,K.lookup mainGlobals=some g)/\∃fd:FuncData,(∀(s:96) (v:Value),BindsTo s fd ⟨[v],[]⟩ [("_law_script",v)])/\∀base:Heap,(BZ K (tbs xs P)).In base->base.Ns mainGlobals mg->(∀x∈xs,CodeHd base (c x.1) (P x.1))->(∀x∈xs,base.BuiltinsAt mg (P x.1))->FnOk l.prog w (BZ K (tbs xs P)) mg base CX0 e.k fa fd ["_law_script"] (spF (BZ K (tbs xs P)) 1 e.F)
def VW{K:Frag}{mg:Str->Option Value}{c P:Str->Addr}{e:Df}(X:K.In h)(G:h.Ns mainGlobals mg)(hfa:mg e.x=some (.ref fa))(hx:HX xs mg h c P)(H:Fe K e)(b:Bd e)(hps:e.ps=(["_law_script"]:List Str))
 (ok:∀base:Heap,(∀x∈xs,CodeHd base (c x.1) (P x.1))->(∀x∈xs,base.BuiltinsAt mg (P x.1))->Kn (enM l w K xs P mg base) e):
 HG l w K xs mg c P fa e:=by
 obtain⟨f,cd,H⟩:=H;obtain⟨fd,D,_⟩:=H.def X G hx b;obtain⟨oc,kV,dc,pm,ct,od,an,sl,a,lk,cc,k⟩:=H;have hg:∃g,K.lookup mainGlobals=some g:=by
  cases e:K.lookup mainGlobals with
  |some g=>exact⟨g,rfl⟩
  |none=>unfold PySem.W.nsIn at a;rw[e]at a;cases a
 have e1:=hfa.symm.trans D.mg;cases e1;refine⟨hg,fd,λs v=>?_,λbase _ _ hd bl=>?_⟩
 .obtain⟨⟨oc',od',kV',dc',pm',an',cd',ct',sl',rfl,_,_⟩,_⟩:=D.fn;have:=b kV' dc' pm' an' cd' ct' [v] (by rw[hps];rfl);rw[hps]at this;exact .of_eq this
 .obtain⟨f',fd',D',F',_⟩:=ok base hd bl;have e2:=D.mg.symm.trans D'.mg;cases e2;obtain⟨⟨oc',od',kV',dc',pm',an',cd',ct',sl',h1,h2,_⟩,_⟩:=D.fn;obtain⟨⟨oc2,od2,kV2,dc2,pm2,an2,cd2,ct2,sl2,h3,h4,_⟩,_⟩:=D'.fn;have e3:=h2.symm.trans h4;cases e3;rw[hps]at F';exact F'
end L2
namespace L2
open PySem PySem.Spec PyProof.Rows PySem.W
noncomputable def ltZ(p q:Int×Int):Bool:=decide (p.1<q.1∨p.1=q.1/\p.2<q.2)
def TPair(h:Heap)(a:Addr)(p:Int×Int):Prop:=∃(o:Obj) (n:Nat) (t u:Tok),h.get? a=some o/\o.cls=.type "tuple"/\o.data=.seq #[.int p.1 t,.int p.2 u] n
section
variable{E:76}{s:96}
def TPair.typeIs(h:TPair s.heap a p):s.TypeIs (.ref a) "tuple":=let ⟨o,_,_,_,h1,h2,_⟩:=h;⟨o,h1,h2⟩
def Tj{P:PySem.Fin->Shared->Prop}(ha:TPair s.heap a p)(hb:TPair s.heap b q)(h:P (.done (.ret (.bool (ltZ p q)))) s):
 wpAny 107 A (Builtin.«tuple.__lt__» ⟨[.ref a,.ref b],[]⟩) P E s:=by
 have hTb:=hb.typeIs;obtain⟨oa,na,t1,t2,hoa,_,hda⟩:=ha;obtain⟨ob,nb,u1,u2,hob,_,hdb⟩:=hb;show wpAny _ _ (isInstance (.ref b) (.type "tuple") >>= _) _ _ s;refine gj (wpAny_isInstance hTb isSubtype_tuple_tuple ?_);simp only[Bool.not_true,Bool.false_eq_true,i5];refine gj (wpAny_tupleItemsOf hoa hda ?_);refine gj (wpAny_tupleItemsOf hob hdb ?_);refine gj ?_;have neq:∀(x y:Int) (t u:Tok),x≠y->P (.done (.ret (.bool (ltZ p q)))) s->decide (x<y)=ltZ p q->True:=λ_ _ _ _ _ _ _=>trivial;refine wpAny_forIn_list _
  (λrest r s'=>r.1=none/\s'=s/\(rest=[(.int p.1 t1,.int q.1 u1),(.int p.2 t2,.int q.2 u2)]∨rest=[(.int p.2 t2,.int q.2 u2)]/\p.1=q.1∨rest=[]/\p.1=q.1/\p.2=q.2))
  _ ?_ ?_ _ _ ⟨rfl,rfl,.inl rfl⟩
 .rintro⟨u,v⟩ rest r s' ⟨hr,rfl,hz⟩;rcases hz with hz|⟨hz,e1⟩|⟨hz,e1⟩
  .simp only[List.cons.injEq,Prod.mk.injEq]at hz;obtain⟨⟨rfl,rfl⟩,rfl⟩:=hz;refine gj (jg ?_);by_cases hk:p.1=q.1
   .rw[beq_iff_eq.mpr hk];simp only[Bool.not_true,Bool.false_eq_true,i5];exact gn ⟨rfl,rfl,.inr (.inl ⟨by trivial,hk⟩)⟩
   .rw[beq_eq_false_iff_ne.mpr hk];simp only[Bool.not_false,gz];have hf:ltZ p q=decide (p.1<q.1):=by unfold ltZ;simp[hk]
    rw[hf]at h;refine gj (gj (wpAny_rule (gn (gj (jo (op:=.Lt) (iK _ _ _) (iK _ _ _) F.slot_int_lt F.entry_int_lt (F.args_int_lt_2 _ _) (gives_int_lt _ _ _ _) (λx=>nomatch x) ?_)))));exact gn (gn h)
  .simp only[List.cons.injEq,Prod.mk.injEq]at hz;obtain⟨⟨rfl,rfl⟩,rfl⟩:=hz;refine gj (jg ?_);by_cases hk:p.2=q.2
   .rw[beq_iff_eq.mpr hk];simp only[Bool.not_true,Bool.false_eq_true,i5];exact gn ⟨rfl,rfl,.inr (.inr ⟨by trivial,e1,hk⟩)⟩
   .rw[beq_eq_false_iff_ne.mpr hk];simp only[Bool.not_false,gz];have hf:ltZ p q=decide (p.2<q.2):=by unfold ltZ;simp[e1]
    rw[hf]at h;refine gj (gj (wpAny_rule (gn (gj (jo (op:=.Lt) (iK _ _ _) (iK _ _ _) F.slot_int_lt F.entry_int_lt (F.args_int_lt_2 _ _) (gives_int_lt _ _ _ _) (λx=>nomatch x) ?_)))));exact gn (gn h)
  .cases hz
 .rintro⟨r1,r2⟩ s' ⟨hr,rfl,hz⟩;simp only at hr;subst hr;refine gn ?_;rcases hz with hz|⟨hz,e1⟩|⟨hz,e1,e2⟩
  .cases hz
  .cases hz
  .have hf:ltZ p q=false:=by unfold ltZ;simp[e1,e2]
   rw[hf]at h;exact h
def Tk{Q:76}(hu:A.units<cLine)(ha:TPair s.heap a p)(hb:TPair s.heap b q)(h:Q (.bool (ltZ p q)) s):wpAny 107 A (richCompare .Lt (.ref a) (.ref b)) Q E s:=
 wpAny_richCompare_same_room (op:=.Lt) ha.typeIs hb.typeIs F.slot_tuple_lt
  (jl F.slot_tuple_lt ha.typeIs F.entry_tuple_lt (Tj ha hb ⟨_,rfl,(λe=>nomatch e),h⟩) (F.args_tuple_lt_2 _ _)) hu
end
section
variable{E:76}
def Nz{rest:List Expr}{Q:76}
 (h:wpAny M A (spliced (backTo pos (starEach (e::rest) env))) (λvs s₁=>(∃(o:Obj) (fd:FuncData),s₁.heap.get? a=some o/\o.data=.func fd)/\wpAny M A (call (.ref a) vs) Q E s₁) E s)
 (he:starEach (e::rest) env=(false,eval e env)::starEach rest env:=by rfl):
 wpAny M A (callWith pos (.ref a) [] (backTo pos (starEach (e::rest) env)) []) Q E s:=by
 rw[he]at h ⊢;unfold callWith;refine gj (ik (i3 (Calls.evalArgs_plain (Q:=λx s₁=>(∃(o:Obj) (fd:FuncData),s₁.heap.get? a=some o/\o.data=.func fd)/\wpAny M A (call (.ref a) ([]++x.pos) x.kw) Q E s₁) (i3 h (λvs s₁ h₁=>h₁) λ_ _ x=>x)) (λx s₁ h₁=>gj (iU ?_)) λ_ _ x=>x));obtain⟨⟨o,fd,g1,g2⟩,g3⟩:=h₁;have tail:∀{t:Sem Value},wpAny M A t Q E s₁->wpAny M A (t >>= λr=>holding [r] point >>= λ_=>pure r) Q E s₁:=
  λht=>gj (i3 ht (λr s₂ hr=>gj (ik (wpAny_point (gn hr)))) λ_ _ x=>x)
 cases hs:((backTo pos ((false,eval e env)::starEach rest env)).any (·.1)||([]:List (Option Str×Sem Value)).any (·.1.isNone))<;>refine gj (m:=keeperOf (.ref a)) ?_<;>unfold keeperOf<;>refine gj (wpAny_load g1 ?_)<;>rw[g2]<;>refine gn ?_
 .first|refine wpAny_ite ?_|skip
  split<;>first|exact tail g3|exact tail (by unfold callMarked;exact Calls.wpAny_keep g3)
 .first|exact tail (by unfold callMarked;exact Calls.wpAny_keep g3)|exact tail g3
end
noncomputable def Mk(tf:TE)(ta:TA):TE:=λσ H Q=>tf σ H λv H1=>∃f,v=.ref f/\ta σ H1 λvs H2=>∃x y,vs=[x,y]/\∃c q cl a0 o1 o2 xs j z,x=.int j/\H2 f=some (.ext (fnG f c q cl))/\H2 c=some (.ext (cdF c q))/\KH o1 a0/\H2 cl=some (.frz o1 Fk)/\H2 a0=some (.frz o2 (.lst xs))/\atI xs j=some z/\Q z H2
section
variable{X:Cx}{P:Addr}{fr:List Str}{ix:77}{lpos:Pos}
def V6{pos:Pos}(hr:Room 1 X.A)(hf:PE X (.Name x p) tf)(ha:PA X (e::es) ta)(he:starEach (e::es) X.env=(false,eval e X.env)::starEach es X.env:=by rfl):
 PE X (.Call (.Name x p) (e::es) [] pos) (Mk tf ta):=by
 intro pins s σ H Q I h;refine iY (thn (hf pins s σ H _ I h) λu s1 hu=>?_);obtain⟨v,H1,I1,rv,q⟩:=hu;obtain⟨f,rfl,q⟩:=q;cases rv;refine Nz (thn (ha pos pins s1 σ H1 _ I1 q) λus s2 hus=>?_) he;obtain⟨vs,H2,I2,r,x,y,rfl,hQ⟩:=hus;obtain⟨u0,u1,rfl,r0,r1⟩:∃u0 u1,us=[u0,u1]/\RelV x u0/\RelV y u1:=by
  cases r with
  |cons a b=>cases b with
   |cons a2 b2=>cases b2;exact⟨_,_,rfl,a,a2⟩
 obtain⟨c,q,cl,a0,o1,o2,xs,j,z,rfl,g1,g2,g3,g4,g5,g6,hQ⟩:=hQ;obtain⟨params,scope,p1,p2,xn,px,pp,pos',pm,ctv,ho',S⟩:=(I2.hok f _ g1).1;refine⟨⟨_,_,ho',rfl⟩,?_⟩;exact i3 (Vj I2 rfl hr g1 g2 g3 g4 g5 r0 r1 g6 hQ) (λ_ _ z=>z) λ_ _ z=>z.elim
end
def WY(K:Frag)(H:Hp)(k:V)(n:Int×Int):Prop:=∃a,k=.ref a/\SqT K H a [.int n.1,.int n.2]
def On{n:Int×Int}(I:73)(h:SqT X.K H a [.int n.1,.int n.2]):TPair s.heap a n:=by
 obtain⟨jts,rj,⟨o,ho,hc,m,hd⟩,_⟩:=I.tuple h;cases rj with
 |cons a1 b1=>cases b1 with
  |cons a2 b2=>
   cases b2;obtain⟨t,rfl⟩:=a1;obtain⟨u,rfl⟩:=a2;exact⟨o,m,t,u,ho,hc,hd⟩
def V9{K:Frag}{a b:Int}(h:RD K ρ H (.im (.tup [.int a,.int b])) k):WY K H k (a,b):=by
 simp only[RD,RI,RIs]at h;obtain⟨p,xs,rfl,sq,x,r,rfl,rfl,y,r',rfl,rfl,rfl⟩:=h;exact⟨p,rfl,sq⟩
noncomputable def mKP(i:I):Option (Int×Int):=match i with
 |.tup [.int a,.int b]=>some (a,b)
 |_=>none
def wMp:Wy (Int×Int) where
 z:=false
 y:=true
 op:=ltZ
 KR:=WY
 kp:=mKP
 rd:=λ{_ _ _ _ _ _} e r=>by
  unfold mKP at e;split at e<;>cases e;exact V9 r
 cmp:=λhu I h1 h2 r1 r2 q=>by
  obtain⟨a,rfl,sa⟩:=h1;obtain⟨b,rfl,sb⟩:=h2;cases r1;cases r2;exact Tk hu (On I sa) (On I sb) q
noncomputable def Dj(mf:ME)(ma:MA):ME:=λls hd=>(mf ls hd).bind λp=>match p.1 with
 |.fv 1 ds=>(ma ls p.2).bind λr=>match r.1 with
  |[.im (.int j),_]=>(atI ds j).map (·,r.2)
  |_=>none
 |_=>none
def UQ{K:Frag}(hf:RE K tf mf)(ha:RA K ta ma):RE K (Mk tf ta) (Dj mf ma):=by
 and_intros;obtain⟨⟨d1,h1⟩,e1,hm⟩:=gW hm;dsimp only at hm;split at hm
 .next es=>
  obtain⟨⟨ds,h2⟩,e2,hm⟩:=gW hm;dsimp only at hm;split at hm
  .next l0 j d0=>
   obtain⟨w,ew,e3⟩:=gX hm;cases e3;refine hf ρ σ H hd ls _ _ _ hR hL e1 λρ1 H1 v1 x1 R1 r1=>?_;simp only[RD]at r1;obtain⟨f,xs,rfl,⟨_,c,q,cl,a0,o1,o2,g1,g2,g3,g4,g5⟩,rs⟩:=r1;refine⟨f,rfl,ha ρ1 σ H1 _ ls _ _ _ R1 (hL.ext hR x1) e2 λρ2 H2 vs x2 R2 r2=>?_⟩;simp only[RDs]at r2;obtain⟨x,r,rfl,q1,y,r',rfl,q2,rfl⟩:=r2;simp only[RD,RI]at q1;subst q1;have rs2:=rs.ext R1 x2;have gr:=x2.grow R1;obtain⟨n,n1,n2⟩:=LB rs2.len ew;obtain⟨z,ez,rz⟩:=rs2.get n1;exact⟨_,y,rfl,c,q,cl,a0,o1,o2,xs,j,z,rfl,gr.keep _ _ trivial g1,gr.keep _ _ trivial g2,g3,gr.keep _ _ trivial g4,gr.keep _ _ trivial g5,n2 z ez,hQ ρ2 H2 z 85 R2 rz⟩
  .cases hm
 .cases hm
noncomputable def Jx(mi:ME)(ix:77)(mb:ME):ME:=FB Ak mKP ltZ mi ix mb
def Ur(K:Frag){X:Cx}{pos:Pos}{k:Nat}(hr:Room k X.A)(hf:QE K X (.Name x p) tf mf)(ha:QA K X (e::es) ta ma)(hk:1<=k:=by decide)(he:starEach (e::es) X.env=(false,eval e X.env)::starEach es X.env:=by rfl):
 QE K X (.Call (.Name x p) (e::es) [] pos) (Mk tf ta) (Dj mf ma):=⟨V6 (hr.mono hk) hf.p ha.p he,UQ hf.r ha.r⟩
section
variable{Q:D->Hd->Prop}
def RW(h:WE mf ls hd λd x=>d=.fv 1 es/\WA ma ls x λds y=>∃(j:Int) (b c:D),ds=[.im (.int j),b]/\atI es j=some c/\Q c y):WE (Dj mf ma) ls hd Q:=by
 obtain⟨d,x,e1,rfl,ds,y,e2,j,b,c,rfl,e3,q⟩:=h;refine⟨_,_,?_,q⟩;simp only[Dj,e1,bind_some,e2,e3,i4]
def Tc{ix:77}(h:WE mi ls hd λd x=>∃(e:D) (es:List D) (kf:D->Int×Int),Ak x d=some (e::es)/\(∀y∈e::es,mb (some y::ix.map λi=>(ls[i]?).join) x=some (.im (.tup [.int (kf y).1,.int (kf y).2]),x))/\Q (BV ltZ es (es.map kf) e (kf e)) x):WE (Jx mi ix mb) ls hd Q:=
 Ie (h.mono λ_ _ ⟨e,es,kf,h1,h2,h3⟩=>⟨e,es,kf,h1,λy hy=>⟨_,rfl,h2 y hy⟩,h3⟩)
def leP(p q:Int×Int):Prop:=ltZ q p=false
def VP(p:Int×Int):leP p p:=by unfold leP ltZ;simp
def LW(h:leP p q)(h':leP q r):leP p r:=by
 unfold leP ltZ at *;simp only[jq,not_or,not_and,Int.not_lt]at *;omega
theorem Hm(kf:D->Int×Int):∀(es:List D) (b:D),BV ltZ es (es.map kf) b (kf b)∈b::es/\∀y∈b::es,leP (kf (BV ltZ es (es.map kf) b (kf b))) (kf y)
 |[],b=>⟨gq,λy hy=>by rw[hE]at hy;subst hy;exact VP _⟩
 |e::es,b=>by
  rw[gv,BV];by_cases h:ltZ (kf e) (kf b)=true
  .rw[gb h];obtain⟨h1,h2⟩:=Hm kf es e;refine⟨gp _ h1,λy hy=>?_⟩;rcases mem_cons.mp hy with rfl|hy
   .refine LW (h2 e gq) ?_;unfold leP ltZ at *;simp only[j4,jq,not_or,not_and,Int.not_lt]at *;omega
   .exact h2 y hy
  .rw[gh h];obtain⟨h1,h2⟩:=Hm kf es b;refine⟨?_,λy hy=>?_⟩
   .rcases mem_cons.mp h1 with q|q
    .rw[q];exact gq
    .exact gp _ (gp _ q)
   .rcases mem_cons.mp hy with rfl|hy
    .exact h2 y gq
    .rcases mem_cons.mp hy with rfl|hy
     .refine LW (h2 b gq) ?_;unfold leP;simpa using h
     .exact h2 y (gp _ hy)
end
def VT{bs:92}{us:79}{i:Nat}{v:Value}(h:Vals (bs.map V.int) us)(e:us[i]?=some v):∃b t,bs[i]?=some b/\v=.int b t:=by
 induction bs generalizing us i with
 |nil=>cases h;simp at e
 |cons b bs ih=>cases h with
  |cons r t=>cases i with
   |zero=>simp at e;subst e;obtain⟨t,rfl⟩:=r;exact⟨b,t,rfl,rfl⟩
   |succ i=>simpa using ih (i:=i) t (by simpa using e)
def W8(K:Frag):List V->Hp->VK->Prop:=λxs H Q=>∃(a:Addr) (bs:92),xs=[.ref a]/\SqL K H a (bs.map V.int)/\Q (.bl (bs.any λn=>n != 0)) H
theorem any_map(bs:92):((68 bs.length).any λi=>((bs[i]?).getD 0) != 0)=bs.any λn=>n != 0:=by
 have:=LSm.range_any (bs.map λn=>n != 0);rw[gZ,List.any_map]at this;rw[show(id ∘ λn:Int=>n != 0)=λn:Int=>n != 0 from rfl]at this;rw[<- this,Bool.eq_iff_iff,List.any_eq_true,List.any_eq_true];constructor
 .rintro⟨i,hi,h⟩;have hi':i<bs.length:=by simpa using hi
  exact⟨i,hi,by simpa [hi']using h⟩
 .rintro⟨i,hi,h⟩;have hi':i<bs.length:=by simpa using hi
  exact⟨i,hi,by simpa [hi']using h⟩
def Qz(K:Frag){X:Cx}(hc:X.calm=true)(hK:X.K=K:=by rfl):CallR X (.builtin "any") (W8 K):=by
 subst hK;intro pins s σ H xs us Q I r h;obtain⟨a,bs,rfl,hq,q⟩:=h;obtain⟨u,rfl,ru⟩:=BU r;cases ru;obtain⟨its,rv,p,hz⟩:=I.list hq;have hl:=p.isList;have hlen:=rv.length;have hlt:a<s.heap.objs.size:=by obtain⟨_,e,_⟩:=hl;exact 84 e
 refine call_any_walk (jk hl ?_);refine⟨59,[59,a],[59],its.toArray.size,_,_,λi=>((bs[i]?).getD 0) != 0,rfl,Walks.list (A:=X.A.in1) (I.ok.hd hc) _ a (hJ hlt) 120,
  ⟨⟨_,87 _ rfl,rfl,rfl⟩,hl.push _⟩,λi v s' Q' E' hP hQ=>?_,λh' tk hk=>?_⟩
 .obtain⟨b,t,e,rfl⟩:=VT rv (by simpa using hP);simp only[e,getD_some]at hQ;exact P.truthy_int hQ
 .have e:((68 its.toArray.size).any λi=>((bs[i]?).getD 0) != 0)=bs.any λn=>n != 0:=by
   rw[gu,<- hlen,gZ];exact any_map bs
  rw[e];exact⟨.bl _,H,I.kept (LSm.kept_iter hk),rfl,q⟩
noncomputable def Jz(ds:List D):Option D:=(B1 ds).map λns=>.im (.bl (ns.any λn=>n != 0))
def XE{K:Frag}:RG K false (W8 K) Jz:=by
 intro ρ H hd a xs ds Q z hR q r e hQ;obtain⟨ns,e1,rfl⟩:=gX e;rw[C7 e1]at r;have:=DX r;subst this;rcases q with q|⟨q,_⟩
 .exact⟨a,ns,rfl,q,hQ H _ .refl hR (by simp[RD,RI])⟩
 .cases q
def ice(H:Hp)(cl:Addr)(o1:Obj)(a0:Addr)(o2:Obj)(xs:List V):Hp:=upd (upd H cl (.frz o1 Fk)) a0 (.frz o2 (.lst xs))
def thaw(H:Hp)(cl a0:Addr)(xs:List V):Hp:=upd (del H cl) a0 (.lst xs)
noncomputable def Ml(sp:Sp)(P:Addr)(q:Str)(pos:Pos)(i:Nat)(t1 t2:TE):TE:=λσ H Q=>t1 σ H λx1 H1=>t2 σ H1 λx2 H2=>∃ps a0 xs,H2 P=some (.tbl ps)/\EI H2 q pos ps/\σ[i]?=some (some (.ref a0))/\H2 a0=some (.lst xs)/\
 ∀H3 c f cl o1 o2,TabStep P q pos H2 H3->H3 c=some (.ext (cdF c q))->H3 f=none->H3 cl=none->cl≠f->H3 a0=some (.lst xs)->KH o1 a0->sp [x1,x2,.ref f] (ice (upd H3 f (.ext (fnG f c q cl))) cl o1 a0 o2 xs) (λv H'=>Q v (thaw H' cl a0 xs)) E0
theorem TabStep.lst(t:TabStep P q pos H H')(hP:H P=some (.tbl ps))(h:H a=some (.lst xs)):H' a=some (.lst xs):=by
 rcases t with rfl|⟨c,hc,_,rfl⟩
 .exact h
 .rw[upd_ne (AJ h hc),upd_ne (λe=>by subst e;rw[hP]at h;cases h)];exact h
section
theorem HOk.ice(k:HOk P w H h)(h1:H cl=none)(h2:H a0=some (.lst xs))(g1:h.get? cl=some o1)(g2:h.get? a0=some o2):HOk P w (ice H cl o1 a0 o2 xs) h:=by
 have nac:a0≠cl:=AJ h2 h1;have oth:∀b ho,H b=some ho->b≠a0->L2.ice H cl o1 a0 o2 xs b=some ho:=λb ho e n=>by
  unfold L2.ice;rw[upd_ne n,upd_ne (AJ e h1)];exact e
 have st:∀b ho,ObjOk P w H h b ho->ObjOk P w (L2.ice H cl o1 a0 o2 xs) h b ho:=λb ho x=>x.stay (λ_ _ _ z=>z) (λb z=>oth b _ z λe=>by subst e;rw[h2]at z;cases z) λb ys z=>oth b _ z λe=>by subst e;rw[h2]at z;cases z
 intro b ho e;by_cases n:b=a0
 .subst n;unfold L2.ice at e;rw[AG]at e;cases e;exact⟨g2,st _ _ (k _ _ h2)⟩
 .by_cases m:b=cl
  .subst m;unfold L2.ice at e;rw[upd_ne n,AG]at e;cases e;exact⟨g1,trivial,⟨_,g1⟩,λ_ _ _ _=>trivial⟩
  .have e2:H b=some ho:=by
    unfold L2.ice at e;rw[upd_ne n,upd_ne m]at e;exact e
   exact st _ _ (k b ho e2)
theorem HOk.thaw(k:HOk P w H h)(h1:H cl=some (.frz o1 Fk))(h2:H a0=some (.frz o2 (.lst xs))):HOk P w (thaw H cl a0 xs) h:=by
 have d:=k.del h1;have nac:a0≠cl:=λe=>by subst e;rw[h1]at h2;cases h2
 have e0:L2.del H cl a0=some (.frz o2 (.lst xs)):=by rw[ER nac];exact h2
 have st:∀b ho,ObjOk P w (L2.del H cl) h b ho->ObjOk P w (L2.thaw H cl a0 xs) h b ho:=λb ho x=>x.stay (λ_ _ _ z=>z) (λb z=>by unfold L2.thaw;rw[upd_ne λe=>by subst e;rw[e0]at z;cases z];exact z) λb ys z=>by unfold L2.thaw;rw[upd_ne λe=>by subst e;rw[e0]at z;cases z];exact z
 intro b ho e;by_cases n:b=a0
 .subst n;unfold L2.thaw at e;rw[AG]at e;cases e;exact st _ _ (d _ _ e0).2
 .unfold L2.thaw at e;rw[upd_ne n]at e;exact st _ _ (d b ho e)
theorem Un.thaw(u:Un fs [] (ice H cl o1 a0 o2 xs) H' h h')(h1:H cl=none)(h2:H a0=some (.lst xs))(g1:h.get? cl=some o1)(g1':h'.get? cl=some o1):Un fs [] H (thaw H' cl a0 xs) h h':=by
 have nac:a0≠cl:=AJ h2 h1;have n0:∀b,H b=none->b≠cl->L2.ice H cl o1 a0 o2 xs b=none:=λb n m=>by
  unfold L2.ice;rw[upd_ne (AJ h2 n).symm,upd_ne m];exact n
 have s0:∀b ho,H b=some ho->(∀ys,ho≠.lst ys)->L2.ice H cl o1 a0 o2 xs b=some ho:=λb ho e n=>by
  unfold L2.ice;rw[upd_ne (λz=>by subst z;rw[h2]at e;exact n xs (104 e).symm),upd_ne (AJ e h1)];exact e
 have t0:∀b ho,H b≠none->H' b=some ho->b≠a0->L2.thaw H' cl a0 xs b=some ho:=λb ho e q n=>by
  unfold L2.thaw;rw[upd_ne n,ER λz=>by subst z;exact e h1];exact q
 refine⟨λb o e n m1 m2=>?_,λb o e n m1 m2=>?_,λb o e n m=>?_,λb o e m=>u.there b o e m,λb ys e=>?_,λb o v e=>?_,λb ps e=>?_⟩
 .by_cases z:b=cl
  .subst z;rw[g1]at e;cases e;exact g1'
  .exact u.keep b o e (n0 b n z) m1 m2
 .by_cases z:b=cl
  .subst z;rw[g1]at e;cases e;exact⟨_,g1'⟩
  .exact u.slot b o e (n0 b n z) m1 m2
 .unfold L2.thaw;rw[upd_ne (AJ h2 n).symm];by_cases z:b=cl
  .subst z;exact JN
  .rw[ER z];exact u.free b o e (n0 b n z) m
 .exact t0 b _ (by rw[e];simp) (u.tups b ys (s0 b _ e λ_ z=>by cases z)) λz=>by subst z;rw[h2]at e;cases e
 .exact t0 b _ (by rw[e];simp) (u.frzs b o v (s0 b _ e λ_ z=>by cases z)) λz=>by subst z;rw[h2]at e;cases e
 .obtain⟨more,q⟩:=u.tbls b ps (s0 b _ e λ_ z=>by cases z);exact⟨more,t0 b _ (by rw[e];simp) q λz=>by subst z;rw[h2]at e;cases e⟩
end
section
variable{X:Cx}{k:Nat}{i:Nat}{e1 e2:Expr}{t1:TE}
def V7(F:FnOk X.prog X.w X.K X.mg X.base CX0 k fa fd ps sp)(hr:Room k X.A)(hg:Gl X x)(hm:X.mg x=some (.ref fa))(hk:keepIn X.K (.ref fa)=true)(hb:Binds X.K fd ps [])(h1:PE X e1 t1)(h2:PE X e2 t2)(hN:X.N[i]?=some nm)
 (LA:LamAt X c P) (S:CSc X scope fr ix) (L:CapOk 98 params scope (.Subscript (.Name nm px) (.Name p1 pp) spos) p1 p2 nm) (hkind:X.env.scope.names.lookup nm=some .cell) (hfn:X.fn nm=true)
 (hcl:Ab X.env.cells 90 []=[(nm,(X.env.cells.lookup nm).getD 0)]:=by rfl) (hdef:defaultsOf params X.env=([],[]):=by rfl) (hdb:(x==("__debug__":Str))=false:=by decide)
 (hs1:starEach [e1,e2,.Lambda params (.Subscript (.Name nm px) (.Name p1 pp) spos) scope lpos] X.env=(false,eval e1 X.env)::starEach [e2,.Lambda params (.Subscript (.Name nm px) (.Name p1 pp) spos) scope lpos] X.env:=by rfl)
 (hs2:starEach [e2,.Lambda params (.Subscript (.Name nm px) (.Name p1 pp) spos) scope lpos] X.env=[(false,eval e2 X.env),(false,eval (.Lambda params (.Subscript (.Name nm px) (.Name p1 pp) spos) scope lpos) X.env)]:=by rfl) (hpl:(backTo pos (starEach [e2,.Lambda params (.Subscript (.Name nm px) (.Name p1 pp) spos) scope lpos] X.env)).any (·.1)=false:=by rfl):
 PE X (.Call (.Name x p) [e1,e2,.Lambda params (.Subscript (.Name nm px) (.Name p1 pp) spos) scope lpos] [] pos) (Ml sp P 98 lpos i t1 t2):=by
 intro pins s σ H Q I h;refine iY (Os I hg hm ?_ hdb);refine PySem.W.callWith_K (h₀:=X.base) I.ok.mod.kin hk ?_ hs1 hpl;rw[hs1,hs2];show wpAny _ _ (spliced ((false,eval e1 X.env)::backTo pos [(false,eval e2 X.env),(false,eval (.Lambda params (.Subscript (.Name nm px) (.Name p1 pp) spos) scope lpos) X.env)])) _ _ s;refine Calls.spliced_cons (thn (h1 pins s σ H _ I h) λu1 s1 ⟨x1,H1,I1,r1,q1⟩=>?_);refine Calls.spliced_cons (thn (h2 pins s1 σ H1 _ I1 q1) λu2 s2 ⟨x2,H2,I2,r2,q2⟩=>?_);obtain⟨psT,a0,xs,hP,hgd,hσ,hx,go⟩:=q2;refine Calls.spliced_cons (JC S LA I2 hdef hP hgd λf cd ctv H3 s3 I3 M=>?_);refine Calls.spliced_nil ?_;obtain⟨c',rfl,hc'⟩:=M.cdc;have ho:=M.fn;rw[hcl]at ho;have hx3:=M.step.lst hP hx;have ff:FpOk X pins H3 f:=I2.fpOk M.new M.fre;obtain⟨m,hn,hlk⟩:=I3.loc;obtain⟨u0,ru,lk⟩:=hlk i nm (.ref a0) hN hσ (.inr (.inl hkind));cases ru;obtain⟨cl,ecl,o1,g1,ho1⟩:∃cl,X.env.cells.lookup nm=some cl/\∃o,s3.heap.get? cl=some o/\o.data=.cell (some (.ref a0)):=by
  rcases lk with⟨kk,_⟩|⟨_,c,ec,hc⟩
  .have kk:X.env.scope.names.lookup nm=some .local:=kk;rw[hkind]at kk;cases kk
  .exact⟨c,ec,hc⟩
 rw[ecl,getD_some]at ho;have J:=I3.adopt (o:=.ext (fnG f c' 98 cl)) ff (gw I2.sz M.new) ⟨⟨_,_,_,_,_,_,_,_,_,_,ho,L⟩,⟨_,ho⟩,λh1 h2 q k=>by
  obtain⟨b1,b2,b3,b4,b5,b6,b7,b8,b9,b10,g,z⟩:=q;exact⟨b1,b2,b3,b4,b5,b6,b7,b8,b9,b10,k _ g,z⟩⟩
 have cn:H3 cl=none:=I3.freeC nm cl ecl;have J1:=J.freeC nm cl ecl;have ncf:cl≠f:=λe=>by subst e;rw[AG]at J1;cases J1
 have nfa:a0≠f:=AJ hx3 M.fre;have J2:upd H3 f (.ext (fnG f c' 98 cl)) a0=some (.lst xs):=by rw[upd_ne nfa];exact hx3
 obtain⟨o2,g2⟩:∃o2,s3.heap.get? a0=some o2:=by
  obtain⟨_,its,n,_,e⟩:=J.hok a0 _ J2;exact⟨_,e⟩
 have hsp:=go H3 c' f cl o1 o2 M.step hc' M.fre cn ncf hx3 ho1;have ok0:=J.hok.ice J1 J2 g1 g2;have cge:X.s₀.heap.objs.size<=cl:=J.ok.cab nm cl hfn ecl;have nice:∀b,upd H3 f (.ext (fnG f c' 98 cl)) b=none->b≠cl->ice (upd H3 f (.ext (fnG f c' 98 cl))) cl o1 a0 o2 xs b=none:=λb n z=>by
  unfold ice;rw[upd_ne (AJ J2 n).symm,upd_ne z];exact n
 have nac:a0≠cl:=AJ J2 J1;refine⟨J.kIn,wpAny_call (ja (F.run X.A X.stack s3 _ ⟨[u1,u2,.ref f],[]⟩ ([u1,u2,.ref f]++[]) _ _ E0 hr ⟨J.ok.frames,J.ok.mod,λb o e=>⟨(J.bs b o e).1,nice b (J.bs b o e).2 λz=>?_⟩,gw J.ok.bsz J.sz,J.stack,λb hbb=>nice b (J.stkFree b hbb) λz=>?_,ok0,J.bare⟩ (hb s3 _ J.kIn (F.len _ _ _ _ hsp)) (.cons r1 (.cons r2 (.cons (show RelV (.ref f) (Value.ref f)from rfl) .nil))) hsp) λr s' hq=>?_)⟩
 .subst z;have l1:=84 e;have l2:=J.ok.bsz;exact iw _ (i8 l1 (gw l2 cge))
 .subst z;rcases mem_cons.mp (J.stkSub b hbb)with e|hbb
  .obtain⟨od,es,ep,e1,e2,e3,_⟩:=hn;rw[<- e,g1]at e1;cases e1;rw[ho1]at e2;cases e2
  .obtain⟨_,o,e1,_⟩:=J.ok.funs.mem hbb;exact iw _ (i8 (84 e1) cge)
 .cases r with
  |error e=>exact False.elim hq
  |ok fl=>
   cases fl with
   |ret u=>
    obtain⟨v,H',os,bare,un,hok,r,q⟩:=hq;have e1:H' cl=some (.frz o1 Fk):=un.frzs cl o1 Fk (by unfold ice;rw[upd_ne nac.symm,AG]);have e2:H' a0=some (.frz o2 (.lst xs)):=un.frzs a0 o2 _ (by unfold ice;rw[AG]);exact J.after ⟨v,thaw H' cl a0 xs,os,bare,un.thaw J1 J2 g1 (hok cl _ e1).1,hok.thaw e1 e2,r,q⟩
   |next=>exact False.elim hq
   |brk=>exact False.elim hq
   |cont=>exact False.elim hq
end
noncomputable def G3(F:List D->Hd->Option (D×Hd))(i:Nat)(m1 m2:ME):ME:=λls hd=>(m1 ls hd).bind λp=>(m2 ls p.2).bind λr=>match (ls[i]?).join with
 | some (.mu n)=>(match r.2[n]? with
  | some (.lst es)=>if Aw 0 [p.1,r.1]=true/\Aw 0 es=true then(match F [p.1,r.1,.fv 1 es] []with
   |some (.im z,_)=>some (.im z,r.2)
   | _=>none)else none
  | _=>none)
 |_=>none
section
variable{K:Frag}(g:∀a xs,SqT K H a xs->SqT K H' a xs)
include g
mutual
theorem RI.sq:∀{i:I} {v:V},RI K H i v->RI K H' i v
 |.non,v,h=>by simpa only[RI]using h
 |.bl b,v,h=>by simpa only[RI]using h
 |.int b,v,h=>by simpa only[RI]using h
 |.str b,v,h=>by simpa only[RI]using h
 |.tup ds,v,h=>by
  simp only[RI]at h ⊢;obtain⟨a,xs,e,q,r⟩:=h;exact⟨a,xs,e,g _ _ q,RIs.sq r⟩
theorem RIs.sq:∀{i:List I} {v:List V},RIs K H i v->RIs K H' i v
 |[],v,h=>by simpa only[RIs]using h
 |d::ds,v,h=>by
  simp only[RIs]at h ⊢;obtain⟨x,r,e,q,z⟩:=h;exact⟨x,r,e,RI.sq q,RIs.sq z⟩
end
end
def US{K:Frag}{i:Nat}{F:List D->Hd->Option (D×Hd)}{t1:TE}{m1:ME}(TI:IK K P q pos)(h1:RE K t1 m1)(h2:RE K t2 m2):RE K (Ml (spF K 3 F) P q pos i t1 t2) (G3 F i m1 m2):=by
 and_intros;obtain⟨⟨d1,hd1⟩,e1,hm⟩:=gW hm;obtain⟨⟨d2,hd2⟩,e2,hm⟩:=gW hm;dsimp only at hm e2;split at hm
 .next n el=>
  split at hm
  .next es eh=>
   split at hm
   .next c0=>
    split at hm
    .next z hF ef=>
     cases hm;refine h1 ρ σ H hd ls _ d1 hd1 hR hL e1 λρ1 H1 v1 x1 R1 r1=>?_;refine h2 ρ1 σ H1 hd1 ls _ d2 hd' R1 (hL.ext hR x1) e2 λρ2 H2 v2 x2 R2 r2=>?_;obtain⟨p',et,_,l1,l2⟩:=id TI;obtain⟨ps,hP,hG⟩:=R2.tabs (P,q,p') et;have hG':EI H2 q pos ps:=by
      rcases hG with g|⟨c,g1,g2⟩
      .exact .inl g
      .refine .inr ⟨c,?_,g2⟩;rw[g1];show #[rawInt p'.line,rawInt p'.col,Value.ref c]=_;rw[l1,l2]
     have el':ls[i]?=some (some (.mu n)):=by
      cases w:ls[i]? with
      |none=>rw[w]at el;cases el
      |some y=>rw[w]at el;simpa using el
     obtain⟨v,ev,rv⟩:=(hL.ext hR 85).ob i (.mu n) el';simp only[RD]at rv;obtain⟨a0,ea,rfl⟩:=rv;obtain⟨xs,ex,rs⟩:=R2.lst ea eh;refine⟨ps,a0,xs,hP,hG',ev,ex,λH3 c f cl o1 o2 step hc hf hcl ncf hx3 ho1=>?_⟩;obtain⟨R3,x3⟩:=Ig R2 hP step TI;obtain⟨R4,x4⟩:=R3.hid hf (ho:=.ext (fnG f c q cl));have ncc:c≠f:=λz=>by subst z;rw[hf]at hc;cases hc
     have ffq:upd H3 f (.ext (fnG f c q cl)) f=some (.ext (fnG f c q cl)):=AG;have fcq:upd H3 f (.ext (fnG f c q cl)) c=some (.ext (cdF c q)):=by rw[upd_ne ncc];exact hc
     have J1:upd H3 f (.ext (fnG f c q cl)) cl=none:=by rw[upd_ne ncf];exact hcl
     have J2:upd H3 f (.ext (fnG f c q cl)) a0=some (.lst xs):=by rw[upd_ne (AJ hx3 hf)];exact hx3
     have x04:=x3.trans R3 x4;generalize upd H3 f (.ext (fnG f c q cl))=H4 at *;have nac:a0≠cl:=AJ J2 J1;have to5:∀b o,H4 b=some o->b≠a0->ice H4 cl o1 a0 o2 xs b=some o:=λb o e n=>by
      unfold ice;rw[upd_ne n,upd_ne (AJ e J1)];exact e
     have st5:∀b o,Stb o->H4 b=some o->b≠a0:=λb o s e z=>by subst z;rw[J2]at e;cases e;exact s
     have g5:Grow H4 (ice H4 cl o1 a0 o2 xs):=⟨λb o s e=>to5 b o e (st5 b o s e)⟩
     have T5:TabsOk K (ice H4 cl o1 a0 o2 xs):=λy hy=>by
      obtain⟨ps,e,g⟩:=R4.tabs y hy;refine⟨ps,to5 _ _ e (λz=>by rw[z,J2]at e;cases e),?_⟩;rcases g with g|⟨c,g1,g2⟩
      .exact .inl g
      .exact .inr ⟨c,g1,g5.keep _ _ trivial g2⟩
     have R0:RH K [] (ice H4 cl o1 a0 o2 xs) []:=⟨rfl,.nil,T5,λn o a e=>by cases e⟩
     have i1:ice H4 cl o1 a0 o2 xs cl=some (.frz o1 Fk):=by unfold ice;rw[upd_ne nac.symm,AG]
     have i2:ice H4 cl o1 a0 o2 xs a0=some (.frz o2 (.lst xs)):=by unfold ice;rw[AG]
     have rA:RDs K [] (ice H4 cl o1 a0 o2 xs) [d1,d2] [v1,v2]:=by
      have q1:RDs K ρ2 H4 [d1,d2] [v1,v2]:=.cons ((r1.ext R1 x2).ext R2 x04) (.cons (r2.ext R2 x04) .nil);simpa using (q1.take' 0 c0.1).mono g5 []
     have rE:RDs K [] (ice H4 cl o1 a0 o2 xs) es xs:=by
      have q1:=rs.ext R2 x04;simpa using (q1.take' 0 c0.2).mono g5 []
     have rV:RD K [] (ice H4 cl o1 a0 o2 xs) (.fv 1 es) (.ref f):=by
      simp only[RD];exact⟨f,xs,rfl,⟨rfl,c,q,cl,a0,o1,o2,g5.keep _ _ trivial ffq,g5.keep _ _ trivial fcq,ho1,i1,i2⟩,rE⟩
     refine⟨rfl,[],[],[d1,d2,.fv 1 es],.im z,_,R0,rA.app (.cons rV .nil),ef,λρ' H' v x5 R5 r5=>?_⟩;have k5:∀b o,ice H4 cl o1 a0 o2 xs b=some o->(∀ps,o≠.tbl ps)->H' b=some o:=λb o e t=>x5.keep b o e 71 t;have j1:=k5 _ _ i1 (nt);have j2:=k5 _ _ i2 (nt);have t6:∀b o,H' b=some o->b≠cl->b≠a0->thaw H' cl a0 xs b=some o:=λb o e n1 n2=>by
      unfold thaw;rw[upd_ne n2,ER n1];exact e
     have a6:thaw H' cl a0 xs a0=some (.lst xs):=by unfold thaw;rw[AG]
     have s6:∀b o,H4 b=some o->b≠a0->(∀ps,o≠.tbl ps)->thaw H' cl a0 xs b=some o:=λb o e n t=>t6 b o (k5 b o (to5 b o e n) t) (AJ e J1) n;have g6:Grow H4 (thaw H' cl a0 xs):=⟨λb o s e=>s6 b o e (st5 b o s e) (Mo s)⟩
     have x6:Ext ρ2 H4 ρ2 (thaw H' cl a0 xs):=⟨⟨[],by simp,by simp⟩,λb o e n t=>s6 b o e (λz=>n (by rw[z];exact i6 ea)) t,λb ps e=>by
      have n:b≠a0:=λz=>by subst z;rw[J2]at e;cases e
      obtain⟨ps',e'⟩:=x5.tab b ps (to5 b _ e n);exact⟨ps',t6 b _ e' (AJ e J1) n⟩⟩
     have R6:RH K ρ2 (thaw H' cl a0 xs) hd':=by
      refine⟨R4.len,R4.nd,λy hy=>?_,λm o a e1 e2=>?_⟩
      .obtain⟨ps,e,g⟩:=R5.tabs y hy;have n1:y.1≠cl:=λz=>by rw[z,j1]at e;cases e
       have n2:y.1≠a0:=λz=>by rw[z,j2]at e;cases e
       refine⟨ps,t6 _ _ e n1 n2,?_⟩;rcases g with g|⟨c,g1,g2⟩
       .exact .inl g
       .exact .inr ⟨c,g1,t6 _ _ g2 (λz=>by rw[z,j1]at g2;cases g2) (λz=>by rw[z,j2]at g2;cases g2)⟩
      .obtain⟨ho,q1,q2⟩:=R4.ob m o a e1 e2;have q3:=q2.mono g6 [];rw[ic]at q3;by_cases n:a=a0
       .subst n;rw[J2]at q1;cases q1;exact⟨_,a6,q3⟩
       .refine⟨ho,s6 a ho q1 n λps z=>?_,q3⟩;rcases R4.mut (i6 e2)with⟨y,w⟩|⟨y,w⟩<;>(rw[q1,z]at w;cases w)
     refine hQ ρ2 _ v ((85).trans R2 (x04.trans R4 x6)) R6 ?_;simp only[RD]at r5 ⊢;refine r5.sq λa ys sq=>?_;rcases sq with(sq|⟨o,sq⟩)|sq
     .exact .inl (.inl (t6 a _ sq (λz=>by rw[z,j1]at sq;cases sq) (λz=>by rw[z,j2]at sq;cases sq)))
     .exact .inl (.inr ⟨o,t6 a _ sq (λz=>by rw[z,j1]at sq;cases sq) (λz=>by rw[z,j2]at sq;cases sq)⟩)
     .exact .inr sq
    .cases hm
   .cases hm
  .cases hm
 .cases hm
end L2
namespace L2
open PySem PySem.W PyProof.Rows
noncomputable def eZ(a:Arguments):Str:=match a.args with
 |_::x::_=>x.arg
 |_=>""
section
variable{K:Frag}{X:Cx}{e1 e2:Expr}{t1:TE}{m1:ME}{i j k:Nat}{st:Stmt}
def qcL(LC:LamC X.K X.mg X.base fd c P q lpos)(hcd:fd.code=cdv)(G:Kn ⟨X.prog,X.w,X.K,X.mg,X.base⟩ ⟨x,st,ps,j,F⟩)(hr:Room k X.A)(h1:QE K X e1 t1 m1)(h2:QE K X e2 t2 m2)(i:Nat)
 (hN:X.N[i]?=some nm:=by rfl) (h3:ps.length=3:=by rfl) (hkind:X.env.scope.names.lookup nm=some .cell:=by rfl) (hfn:X.fn nm=true:=by rfl)
 (hcv:X.env.code=cdv:=by rfl) (hq:q=X.env.qual++"<lambda>":=by rfl) (S:CSc X scope (frN X []) []:=by exact⟨rfl,by decide +kernel,rfl,rfl,rfl,by decide +kernel⟩)
 (L:CapOk q params scope (.Subscript (.Name nm px) (.Name (Di params) pp) spos) (Di params) (eZ params) nm:=by exact⟨by decide,by decide,by decide,⟨rfl,rfl,rfl,rfl⟩,⟨rfl,rfl,rfl,rfl⟩,rfl,rfl,rfl,by decide,by decide,by decide,by decide,λ_ _ _ _ _ _=>rfl⟩)
 (hcl:Ab X.env.cells 90 []=[(nm,(X.env.cells.lookup nm).getD 0)]:=by rfl) (hdef:defaultsOf params X.env=([],[]):=by rfl)
 (hjk:j<=k:=by first|decide|omega) (hg:Gl X x:=by rfl) (hdb:(x==("__debug__":Str))=false:=by decide)
 (hs1:starEach [e1,e2,.Lambda params (.Subscript (.Name nm px) (.Name (Di params) pp) spos) scope lpos] X.env=(false,eval e1 X.env)::starEach [e2,.Lambda params (.Subscript (.Name nm px) (.Name (Di params) pp) spos) scope lpos] X.env:=by rfl)
 (hs2:starEach [e2,.Lambda params (.Subscript (.Name nm px) (.Name (Di params) pp) spos) scope lpos] X.env=[(false,eval e2 X.env),(false,eval (.Lambda params (.Subscript (.Name nm px) (.Name (Di params) pp) spos) scope lpos) X.env)]:=by rfl)
 (hpl:(backTo pos (starEach [e2,.Lambda params (.Subscript (.Name nm px) (.Name (Di params) pp) spos) scope lpos] X.env)).any (·.1)=false:=by rfl) (hK:X.K=K:=by rfl):
 QE K X (.Call (.Name x p) [e1,e2,.Lambda params (.Subscript (.Name nm px) (.Name (Di params) pp) spos) scope lpos] [] pos) (Ml (spF K 3 F) P 98 lpos i t1 t2) (G3 F i m1 m2):=by
 subst hK;subst hq;obtain⟨f,fd',D,G,l⟩:=G;rw[h3]at G;exact⟨V7 (G.mono hjk) hr hg D.mg D.fn.kp D.bd h1.p h2.p hN ⟨hcv.trans (hcd.symm.trans LC.code),LC.hd,LC.bl⟩ S L hkind hfn hcl hdef hdb hs1 hs2 hpl,US LC.ti h1.r h2.r⟩
end
section
variable{Q:D->Hd->Prop}
def RX{F:List D->Hd->Option (D×Hd)}{i:Nat}{m1:ME}(h:WE m1 ls hd λd1 x=>WE m2 ls x λd2 y=>∃n es,ls[i]?=some (some (.mu n))/\y[n]?=some (.lst es)/\Aw 0 [d1,d2]=true/\Aw 0 es=true/\WF F [d1,d2,.fv 1 es] [] λd _=>∃z,d=.im z/\Q (.im z) y):WE (G3 F i m1 m2) ls hd Q:=by
 obtain⟨d1,x,e1,d2,y,e2,n,es,e3,e4,c1,c2,d,w,e5,z,rfl,q⟩:=h;refine⟨_,y,?_,q⟩;unfold G3;rw[e1];dsimp only[bind_some];rw[e2];dsimp only[bind_some];rw[e3];show(match y[n]? with|some (.lst es)=>_|_=>none)=_;rw[e4];dsimp only;rw[gb ⟨c1,c2⟩,e5]
end
end L2
namespace Hds
open PySem L2 Bd
structure IsHead(S:Nat->Prop)(c l:72)(W:95)(h:72):Prop where
 lo:∀k,S k->c k<=h k
 up:∀p∈W,S p.2->h p.1+l p.1<=h p.2
 eq:∀k,S k->h k=c k∨∃p∈W,p.2=k/\h k=h p.1+l p.1
structure Rk(S:Nat->Prop)(W:95)(rk:Nat->Nat):Prop where
 ins:∀p∈W,S p.1/\S p.2
 lt:∀p∈W,rk p.1<rk p.2
def IsHead.le{S:Nat->Prop}{c l:72}{rk:Nat->Nat}(R:Rk S W rk){h h':72}(a:IsHead S c l W h)(b:IsHead S c l W h'):∀n k,rk k=n->S k->h k<=h' k:=by
 intro n
 induction n using Nat.strongRecOn with
 |ind n ih=>
  intro k hk hS;rcases a.eq k hS with e|⟨p,hp,e1,e2⟩
  .rw[e];exact b.lo k hS
  .have lt:=R.lt p hp;rw[e1,hk]at lt;have q:=ih (rk p.1) lt p.1 rfl (R.ins p hp).1;have u:=b.up p hp (by rw[e1];exact hS);rw[e1]at u;omega
def IsHead.bound{S:Nat->Prop}{c l:72}{rk:Nat->Nat}(R:Rk S W rk){h:72}(a:IsHead S c l W h){B m:Int}(hc:∀k,S k->c k<=B)(hl:∀k,S k->l k<=m)(hm:0<=m):∀n k,rk k=n->S k->h k<=B+m*n:=by
 intro n
 induction n using Nat.strongRecOn with
 |ind n ih=>
  intro k hk hS;have hn:0<=m*(n:Int):=Int.mul_nonneg hm 66;rcases a.eq k hS with e|⟨p,hp,e1,e2⟩
  .rw[e];have:=hc k hS;omega
  .have lt:=R.lt p hp;rw[e1,hk]at lt;have q:=ih (rk p.1) lt p.1 rfl (R.ins p hp).1;have:=hl p.1 (R.ins p hp).1;have g:m*(rk p.1:Int)+m<=m*(n:Int):=by
    have:m*((rk p.1:Int)+1)<=m*(n:Int):=Int.mul_le_mul_of_nonneg_left 66 hm;rw[Int.mul_add,Int.mul_one]at this;exact this
   omega
def Vn{seq:77}{n:Nat}(pm:seq.Perm (68 n))(h:Along seq ps):∃W:List (Nat×Nat),ps=(W.map λp=>((p.1:Int),(p.2:Int)))/\Rk (λk=>k<n) W (λk=>seq.idxOf k)/\∀k,k<n->seq.idxOf k<n:=by
 have nd:seq.Nodup:=pm.nodup_iff.mpr iR;have sl:seq.length=n:=by simpa using pm.length_eq
 have ix:∀{i a:Nat},seq[i]?=some a->seq.idxOf a=i:=λ{i a} e=>by
  obtain⟨hi,e⟩:=75 e;subst e;exact nd.idxOf_getElem i hi
 refine⟨ps.map λp=>(p.1.toNat,p.2.toNat),?_,⟨?_,?_⟩,?_⟩
 .rw[gY];refine(List.map_id' ps).symm.trans (j6 λp hp=>?_);obtain⟨i,j,a,b,_,_,_,rfl⟩:=h p hp;simp
 .intro q hq;obtain⟨p,hp,rfl⟩:=mem_map.mp hq;obtain⟨i,j,a,b,_,ea,eb,rfl⟩:=h p hp;exact⟨by simpa using pm.mem_iff.mp (i6 ea),by simpa using pm.mem_iff.mp (i6 eb)⟩
 .intro q hq;obtain⟨p,hp,rfl⟩:=mem_map.mp hq;obtain⟨i,j,a,b,hij,ea,eb,rfl⟩:=h p hp;show seq.idxOf (a:Int).toNat<seq.idxOf (b:Int).toNat
  simp only[ia];rw[ix ea,ix eb];exact hij
 .intro k hk;have:k∈seq:=pm.mem_iff.mpr (by simpa using hk);have:=List.idxOf_lt_length_iff.mpr this;omega
end Hds
namespace Bd
open PySem L2
inductive Rc(ps:List (Int×Int)):Int->Int->Prop
 |one {x y:Int}:(x,y)∈ps->Rc ps x y
 |step {x y z:Int}:Rc ps x y->(y,z)∈ps->Rc ps x z
theorem LP:∀{l m:92},l.Nodup->(∀x∈l,x∈m)->l.length<=m.length
 |[],m,_,_=>by simp
 |x::r,m,nd,h=>by
  obtain⟨n1,n2⟩:=nodup_cons.mp nd;have hx:=h x gq;have:=LP (l:=r) (m:=m.erase x) n2 λy hy=>(List.mem_erase_of_ne (λe=>n1 (by rw[<- e];exact hy))).mpr (h y (gp _ hy));rw[List.length_erase_of_mem hx]at this;have:=List.length_pos_of_mem hx;simp only[i7];omega
structure Found(ps:List (Int×Int))(a:Int)(found fresh:92):Prop where
 nd:found.Nodup
 rc:∀x∈found,Rc ps a x
 fr:∀x∈fresh,x=a∨x∈found
 cl:∀x,(x=a∨x∈found)->x∈fresh∨∀y,(x,y)∈ps->y∈found
def Rc.snd{x y:Int}(h:Rc ps x y):y∈ps.map (·.2):=by
 cases h with
 |one h=>exact mem_map.mpr ⟨_,h,rfl⟩
 |step _ h=>exact mem_map.mpr ⟨_,h,rfl⟩
def Found.len{a:Int}{fresh:92}(h:Found ps a found fresh):found.length<=ps.length:=by
 have:=LP h.nd λx hx=>(h.rc x hx).snd;simpa using this
def Found.iff{a:Int}(h:Found ps a found [])(x:Int):x∈found↔Rc ps a x:=by
 refine⟨h.rc x,λr=>?_⟩
 induction r with
 |one e=>exact(h.cl a (.inl rfl)).elim (λz=>by cases z) λz=>z _ e
 |step _ e ih=>exact(h.cl _ (.inr ih)).elim (λz=>by cases z) λz=>z _ e
def VX(P:D)(hd:Hd)(g:Gd)(G:GOk hd g)(ps:List (Int×Int))(hp:ps.length<=500)(a:Int)
 (hP:∀(z1 z2 z3 z4 z5 z6:Option D) (r:Hd),Ct 74 [some P,z1,z2,z3,z4,z5,z6] (hd++r)=some ((ps.map AZ,g),hd++r)):∀(N:Nat) (found fresh:92) (z4 z5 z6:Option D),fresh.length+(ps.length-found.length)<=N->fresh.length<=1+found.length->Found ps a found fresh->∃(k:Nat) (found':92) (y4 y5 y6:Option D),
 B9 (DT (A0 3)) Na k [some P,some (.im (.int a)),some (.mu hd.length),some (.mu (hd.length+1)),z4,z5,z6] (hd++[.lst (intD found),.lst (intD fresh)]) =
  some (.nx [some P,some (.im (.int a)),some (.mu hd.length),some (.mu (hd.length+1)),y4,y5,y6],hd++[.lst (intD found'),.lst []])/\Found ps a found' []:=by
 intro N
 induction N with
 |zero=>
  intro found fresh z4 z5 z6 hN _ F;have:fresh=[]:=List.length_eq_zero_iff.mp 66;subst this;refine⟨1,found,z4,z5,z6,?_,F⟩;simp only[B9,K3,Ds,List.getElem?_cons_zero,List.getElem?_cons_succ,bind_some,CH,g1,ie,List.isEmpty_nil,Bool.not_true,i4,Bool.false_eq_true,i5]
 |succ N ih=>
  intro found fresh z4 z5 z6 hN hfr F;rcases List.eq_nil_or_concat fresh with rfl|⟨fr,x,rfl⟩
  .refine⟨1,found,z4,z5,z6,?_,F⟩;simp only[B9,K3,Ds,List.getElem?_cons_zero,List.getElem?_cons_succ,bind_some,CH,g1,ie,List.isEmpty_nil,Bool.not_true,i4,Bool.false_eq_true,i5]
  .rw[List.concat_eq_append]at *;have fl:=F.len;simp only[i9,i7,iB]at hN hfr;obtain⟨new,y5,y6,q,l,nd,frh,al⟩:=HC P hd g G a x ps found fr z5 z6 66 66;have F2:Found ps a (found++new) (fr++new):=by
    have rx:∀y∈new,Rc ps a y:=λy hy=>by
     rcases F.fr x 71 with rfl|h
     .exact .one (frh y hy).2
     .exact .step (F.rc x h) (frh y hy).2
    refine⟨nodup_append.mpr ⟨F.nd,nd,λu hu w hw e=>(frh w hw).1 (e ▸ hu)⟩,λy hy=>?_,λy hy=>?_,λw hw=>?_⟩
    .rcases mem_append.mp hy with h|h
     .exact F.rc y h
     .exact rx y h
    .rcases mem_append.mp hy with h|h
     .rcases F.fr y (by simp[h])with h|h
      .exact .inl h
      .exact .inr (iu _ h)
     .exact .inr (gy _ h)
    .by_cases hn:w∈new
     .exact .inl (gy _ hn)
     .have hw':w=a∨w∈found:=by
       rcases hw with h|h
       .exact .inl h
       .rcases mem_append.mp h with h|h
        .exact .inr h
        .exact absurd h hn
      rcases F.cl w hw' with h|h
      .rcases mem_append.mp h with h|h
       .exact .inl (iu _ h)
       .have:w=x:=by simpa using h
        subst this;exact .inr al
      .exact .inr λy hy=>iu _ (h y hy)
   have fl2:=F2.len;simp only[i9]at fl2;obtain⟨k,found',y4,w5,w6,e,F3⟩:=ih (found++new) (fr++new) (some (.im (.int x))) y5 y6 (by simp only[i9];omega) (by simp only[i9];omega) F2;refine⟨k+1,found',y4,w5,w6,?_,F3⟩;have pop:Hc (.mu (hd.length+1)) [] (hd++[.lst (intD found),.lst (intD (fr++[x]))])=some (.im (.int x),hd++[.lst (intD found),.lst (intD fr)]):=by
    simp only[Hc,g1,ig,gv,ie,i9,i7,iB,gZ];simp
   have ne:(intD (fr++[x])).isEmpty=false:=by simp
   unfold B9;simp only[K3,Ds,List.getElem?_cons_zero,List.getElem?_cons_succ,bind_some,CH,g1,ne,Bool.not_false,i4,gz,Na,K4,K6,Qm,IB,K5,pop,Kx,set_cons_succ,set_cons_zero,cV,hP,q,e]
def Py(P:D)(hd:Hd)(g:Gd)(G:GOk hd g)(ps:List (Int×Int))(hp:ps.length<64)(a:Int)
 (hP:∀(z1 z2 z3 z4 z5 z6:Option D) (r:Hd),Ct 74 [some P,z1,z2,z3,z4,z5,z6] (hd++r)=some ((ps.map AZ,g),hd++r)):∃(found:92) (r:Hd),F_reached [P,.im (.int a)] hd=some (.im (.tup ((AY found).map I.int)),hd++r)/\found.Nodup/\(∀x,x∈found↔Rc ps a x)/\found.length<=ps.length:=by
 obtain⟨k,found,y4,y5,y6,e,F⟩:=VX P hd g G ps 66 a hP (1+ps.length) [] [a] none none none 71 71 ⟨.nil,(λx h=>by cases h),(λx h=>Or.inl (by simpa using h)),(λx h=>Or.inl (by simpa using h))⟩;have e:=LU e;have fl:=F.len;refine⟨found,[.lst (intD found),.lst []],?_,F.nd,F.iff,fl⟩;have mk:Au ((AY found).map λi=>D.im (.int i))=.im (.tup ((AY found).map I.int)):=by
  have:((AY found).map λi=>D.im (.int i))=((AY found).map I.int).map D.im:=by rw[gY];rfl
  rw[this,BX]
 simp only[ie,gv]at e;have lt:found.length<64:=by omega
 simp only[F_reached,mkF,Le,K4,K6,cO,cQ,Kz,K5,Ds,gv,ie,i7,iB,iI,iL,List.replicate,Nat.reduceAdd,Nat.reduceSub,gz,List.getElem?_cons_zero,List.getElem?_cons_succ,bind_some,CW,DI,Kx,i4,set_cons_succ,set_cons_zero,i9,iE,e,Sy,T0,Sw,Sz,g0,Sm,lt,BD,mk]
end Bd
namespace Rw
open PySem L2 Bd
@[reducible] noncomputable def Le:MS:=(A5 (AE 2 (AV (Ac A4)))
 (A5 (AE 3 (AV (Ac (A1 (A0 1) A4))))
 (A5 (Cs (DT (A0 3))
  (A5 (AE 4 (mMt Hc (A0 3) A4))
 (BC (Ct 74) (BO 2 (AT (AA 5) (AT (AA 6) BR)))
  (Aa (Bj (A8 (mOp gEq (A0 5) (A0 4))) (A8 (mOp (gIn true) (A0 6) 121)))
  (A5 (B0 (mMt Ad 121 (A1 (A0 6) A4)))
 (B0 (mMt Ad (A0 3) (A1 (A0 6) A4))))
  AU))))
 (AQ (B7 BD (Bu (BJ 121)))))))
noncomputable def F_reached:List D->Hd->Option (D×Hd):=mkF 2 7 Le
@[reducible] noncomputable def ab:MS:=(AQ (AD 0 F_reached (A1 (A0 1) (A1 121 A4))))
noncomputable def F_behind:List D->Hd->Option (D×Hd):=mkF 3 3 ab
def V8(ps:List (Int×Int)):(ps.map Fw).map D.im=ps.map AZ:=by rw[gY];rfl
noncomputable abbrev wI(ps:List (Int×Int)):I:=.tup (ps.map Fw)
def Sv:F_reached=Bd.F_reached:=rfl
def behind_eq{ps:List (Int×Int)}(hp:ps.length<64)(n a:Int):∃(found:92) (g:Hd),F_behind [.im (.int n),.im (wI ps),.im (.int a)] []=some (.im (.tup ((AY found).map I.int)),g)/\found.Nodup/\∀x,x∈found↔Rc ps a x:=by
 obtain⟨found,r,e,nd,mem,_⟩:=Py (.im (wI ps)) [] [] (AK _) ps hp a λz1 z2 z3 z4 z5 z6 r=>by
  have:=P1 (m:=A0 0) (ls:=[some (.im (wI ps)),z1,z2,z3,z4,z5,z6]) (hd:=[]++r) (hd':=[]++r) (is:=ps.map Fw) rfl;rw[this,V8]
 refine⟨found,[],?_,nd,mem⟩;have c:=Hk (m:=A1 (A0 1) (A1 121 A4)) (F:=Bd.F_reached) (ls:=[some (.im (.int n)),some (.im (wI ps)),some (.im (.int a))]) (hd:=[]) (ds:=[.im (wI ps),.im (.int a)]) (hd1:=[]) 71 71 e;simp only[F_behind,mkF,ab,Sv,Sy,gv,ie,i7,iB,iI,iL,List.replicate,Nat.reduceAdd,Nat.reduceSub,gz,c,bind_some]
end Rw
namespace L2
open PySem PySem.Spec PyProof.Rows
section
variable{QE:D->Hd->Prop}
def Wb(e:pyD hd d=some p)(ok:Fx p)(q:QE (.im (.str p.shown)) hd):WP (Ce [d] hd) QE:=⟨_,_,by simp[Ce,e,ok],q⟩
def GE{i:I}(ok:Fx i.py)(q:QE (.im (.str i.py.shown)) hd):WP (Ce [.im i] hd) QE:=Wb rfl ok q
end
end L2
namespace Sx
open L2
noncomputable def S(l:72)(C:77):Int:=(C.map l).sum
noncomputable def cst(C:77):List Int:=C.map λk:Nat=>(k:Int)
noncomputable abbrev Blk:=Int×Int×List Int
noncomputable def Aq(h l:72)(e:Int):List Nat->List Nat×List Nat
 |[]=>([],[])
 |m::r=>if e<=h m then([],m::r)else(m::(Aq h l (e+l m) r).1,(Aq h l (e+l m) r).2)
def spl(h l:72)(b e:Int)(C:77):List Nat->List Blk
 |[]=>[(b,e,AY (cst C))]
 |m::r=>if e<=h m then(b,e,AY (cst C))::spl h l (h m) (h m+l m) [m] r else spl h l b (e+l m) (C++[m]) r
noncomputable def GK(h l:72):List Nat->List Blk
 |[]=>[]
 |m::r=>spl h l (h m) (h m+l m) [m] r
def WX(l:72)(C D:77):S l (C++D)=S l C+S l D:=by simp[S]
def S_cons(l:72)(m:Nat)(D:77):S l (m::D)=l m+S l D:=by simp[S]
def O7{l:72}{C D:77}(p:C.Perm D):S l C=S l D:=by
 induction p with
 |nil=>rfl
 |cons x _ ih=>rw[S_cons,S_cons,ih]
 |swap x y r=>simp only[S_cons];omega
 |trans _ _ a b=>exact a.trans b
theorem LJ{h l:72}:∀(r:77) (b e:Int) (C:77),spl h l b e C r=(b,e+S l (Aq h l e r).1,AY (cst (C++(Aq h l e r).1)))::GK h l (Aq h l e r).2
 |[],b,e,C=>by simp[spl,Aq,GK,S]
 |m::r,b,e,C=>by
  unfold spl Aq;by_cases q:e<=h m
  .rw[gb q,gb q];simp[GK,S]
  .rw[gh q,gh q,LJ r b (e+l m) (C++[m])];simp only[S_cons,iE,iI,iL];rw[show e+l m+S l (Aq h l (e+l m) r).1=e+(l m+S l (Aq h l (e+l m) r).1) by omega]
structure ChOk(h l:72)(b:Int)(C R:77):Prop where
 fst:∃c C',C=c::C'/\h c=b
 lo:∀x∈C,b<=h x
 step:∀(D:77) (x:Nat) (E:77),C=D++x::E->D≠[]->h x<b+S l D
 rest:∀x∈R,b+S l C<=h x
theorem Hi{h l:72}:∀(r:77) (e:Int),(Aq h l e r).1++(Aq h l e r).2=r
 |[],e=>rfl
 |m::r,e=>by
  unfold Aq;split
  .rfl
  .simp[Hi r (e+l m)]
theorem KF{h l:72}:∀(r:77) (e:Int) (D:77) (x:Nat) (E:77),(Aq h l e r).1=D++x::E->h x<e+S l D
 |[],e,D,x,E,q=>by simp[Aq]at q
 |m::r,e,D,x,E,q=>by
  unfold Aq at q;split at q
  .simp at q
  .next c=>
   cases D with
   |nil=>
    simp at q;obtain⟨rfl,_⟩:=q;simp[S];omega
   |cons d D=>
    simp at q;obtain⟨rfl,q⟩:=q;have:=KF r (e+l m) D x E q;rw[S_cons];omega
theorem KG{h l:72}:∀(r:77) (e:Int),r.Pairwise (λa b=>h a<=h b)->∀x∈(Aq h l e r).2,e+S l (Aq h l e r).1<=h x
 |[],e,_,x,hx=>by simp[Aq]at hx
 |m::r,e,pw,x,hx=>by
  rw[pairwise_cons]at pw;unfold Aq at hx ⊢;split at hx
  .next c=>
   rw[gb c];simp only[S,ie,List.sum_nil,Int.add_zero];rcases mem_cons.mp hx with rfl|hx
   .exact c
   .have:=pw.1 x hx;omega
  .next c=>
   rw[gh c];have:=KG r (e+l m) pw.2 x hx;simp only[S_cons];omega
def Vi{h l:72}{m:Nat}(pw:(m::r).Pairwise λa b=>h a<=h b):ChOk h l (h m) (m::(Aq h l (h m+l m) r).1) (Aq h l (h m+l m) r).2:=by
 rw[pairwise_cons]at pw;refine⟨⟨m,_,rfl,rfl⟩,λx hx=>?_,λD x E e ne=>?_,λx hx=>?_⟩
 .rcases mem_cons.mp hx with rfl|hx
  .exact 110 _
  .exact pw.1 x (by rw[<- Hi r (h m+l m)];exact iu _ hx)
 .cases D with
  |nil=>exact absurd rfl ne
  |cons d D=>
   simp at e;obtain⟨rfl,e⟩:=e;have:=KF r (h m+l m) D x E e;rw[S_cons];omega
 .have:=KG r (h m+l m) pw.2 x hx;rw[S_cons];omega
theorem KM{l:72}(hl:∀k,0<=l k):∀{C T:77},C.Nodup->(∀x∈C,x∈T)->S l C<=S l T
 |[],T,_,_=>by
  have:∀T:List Nat,0<=S l T:=λT=>by
   induction T with
   |nil=>simp[S]
   |cons x r ih=>rw[S_cons];have:=hl x;omega
  simpa [S]using this T
 |c::C,T,nd,hs=>by
  rw[nodup_cons]at nd;have hc:c∈T:=hs c 71;have:=KM hl (C:=C) (T:=T.erase c) nd.2 λx hx=>(List.mem_erase_of_ne (λz=>nd.1 (by rw[<- z];exact hx))).mpr (hs x (by simp[hx]));rw[S_cons,O7 (List.perm_cons_erase hc),S_cons];omega
inductive Rows(h l:72):List Nat->List Blk->Prop
 |nil:Rows h l [] []
 |cons {left C R:List Nat} {b:Int} {bs:List Blk}:left.Perm (C++R)->ChOk h l b C R->Rows h l (left.filter λk=>!decide (k∈C)) bs->Rows h l left ((b,b+S l C,cst (left.filter λk=>decide (k∈C)))::bs)
def Sl{left:77}(hs:left.Pairwise (·<·))(pf:(left.filter λk=>decide (k∈C)).Perm C):AY (cst C)=cst (left.filter λk=>decide (k∈C)):=by
 refine D2 ((By _).trans (pf.symm.map _)) (Cn _) ?_;unfold cst;rw[iQ];exact(hs.sublist iq).imp λq=>by omega
def rows_stret{h l:72}(hl:∀k,1<=l k):∀(n:Nat) (ms left:77),ms.length=n->left.Pairwise (·<·)->ms.Perm left->ms.Pairwise (λa b=>h a<=h b)->Rows h l left (GK h l ms):=by
 intro n
 induction n using Nat.strongRecOn with
 |_ n ih=>
  intro ms left hn hs pm pw;cases ms with
  |nil=>
   have:left=[]:=by simpa using pm.symm
   subst this;exact .nil
  |cons m r=>
   have ca:=Hi (h:=h) (l:=l) r (h m+l m);have K:=Vi (h:=h) (l:=l) pw;have nd:left.Nodup:=hs.imp λq=>by omega
   have ep:left.Perm ((m::(Aq h l (h m+l m) r).1)++(Aq h l (h m+l m) r).2):=by
    have:(m::(Aq h l (h m+l m) r).1)++(Aq h l (h m+l m) r).2=m::r:=by rw[iI,ca]
    rw[this];exact pm.symm
   have ndC:=ep.nodup_iff.mp nd;have pf:(left.filter λk=>decide (k∈m::(Aq h l (h m+l m) r).1)).Perm (m::(Aq h l (h m+l m) r).1):=by
    refine(List.perm_ext_iff_of_nodup (nd.sublist iq) (ndC.sublist (List.sublist_append_left _ _))).mpr λx=>?_;rw[mem_filter];constructor
    .intro q;simpa using q.2
    .intro q;exact⟨ep.mem_iff.mpr (iu _ q),by simpa using q⟩
   have pr:(Aq h l (h m+l m) r).2.Perm (left.filter λk=>!decide (k∈m::(Aq h l (h m+l m) r).1)):=by
    refine(List.perm_ext_iff_of_nodup (ndC.sublist (List.sublist_append_right _ _)) (nd.sublist iq)).mpr λx=>?_;rw[mem_filter];constructor
    .intro q;refine⟨ep.mem_iff.mpr (gy _ q),?_⟩;have:x∉m::(Aq h l (h m+l m) r).1:=λz=>(nodup_append.mp ndC).2.2 x z x q rfl;simpa using this
    .intro q;rcases mem_append.mp (ep.mem_iff.mp q.1)with z|z
     .have:=q.2;simp at this z;exact absurd z (by simpa using this)
     .exact z
   have lt:(Aq h l (h m+l m) r).2.length<n:=by
    have:=hX List.length ca;simp at this hn;omega
   have pw2:(Aq h l (h m+l m) r).2.Pairwise λa b=>h a<=h b:=by
    rw[pairwise_cons]at pw;have:=pw.2;rw[<- ca]at this;exact this.sublist (List.sublist_append_right _ _)
   have R:=ih _ lt _ _ rfl (hs.sublist iq) pr pw2;show Rows h l left (spl h l (h m) (h m+l m) [m] r);rw[LJ,iI,iL,Sl hs pf,show h m+l m+S l (Aq h l (h m+l m) r).1=h m+S l (m::(Aq h l (h m+l m) r).1) by rw[S_cons];omega];exact .cons ep K R
end Sx
namespace Bk
open L2 Sx
noncomputable def upd(f:72)(k:Nat)(v:Int):Nat->Int:=λj=>if j=k then v else f j
def upd_self(f:72)(k:Nat)(v:Int):upd f k v k=v:=by simp[upd]
def upd_ne{f:72}{k j:Nat}{v:Int}(h:j≠k):upd f k v j=f j:=by simp[upd,h]
structure Hs(n:Nat)(c l:72)(W:95)(h:72):Prop where
 pos:∀k,k<n->1<=l k
 ins:∀p∈W,p.1<n/\p.2<n
 lo:∀k,k<n->c k<=h k
 st:∀p∈W,h p.1+l p.1<=h p.2
 eq:∀k,k<n->h k=c k∨∃p∈W,p.2=k/\h k=h p.1+l p.1
noncomputable def dn(l left:72)(ks:77):Int:=(ks.map λk=>l k-left k).sum
structure Inv(n:Nat)(l h:72)(W:95)(left en:72)(t:Int):Prop where
 lo:∀k,k<n->0<=left k/\left k<=l k
 et:∀k,k<n->left k<l k->en k<=t
 bd:∀ks:List Nat,ks.Nodup->(∀k∈ks,k<n)->∀b:Int,(∀k∈ks,b<=h k)->(∀k∈ks,left k=l k)∨∃u∈ks,left u<l u/\b+dn l left ks<=en u
 wi:∀p∈W,left p.2<l p.2->left p.1=0/\en p.1<en p.2
def Inv.start{n:Nat}{l h:72}(ins:∀p∈W,p.1<n/\p.2<n){left en:72}{t:Int}(pos:∀k,k<n->1<=l k)(hl:∀k,k<n->left k=l k):Inv n l h W left en t where
 lo k hk:=by have:=pos k hk;rw[hl k hk];omega
 et k hk q:=by rw[hl k hk]at q;omega
 bd ks _ hk b _:=.inl λk hk'=>hl k (hk k hk')
 wi p hp q:=by rw[hl p.2 (ins p hp).2]at q;omega
theorem K8{l left:72}{k:Nat}{v:Int}:∀{ks:77},ks.Nodup->dn l (upd left k v) ks=dn l left ks+if k∈ks then left k-v else 0
 |[],_=>by simp[dn]
 |x::r,nd=>by
  obtain⟨h1,h2⟩:=nodup_cons.mp nd;have ih:=K8 (l:=l) (left:=left) (k:=k) (v:=v) h2;unfold dn at ih ⊢;simp only[gv,sum_cons,ih];by_cases e:x=k
  .subst e;rw[upd_self,gh h1,gb 71];omega
  .rw[upd_ne e];by_cases q:k∈r
   .rw[gb q,gb (by simp[q])];omega
   .rw[gh q,gh (by simp[q];exact λz=>e z.symm)];omega
theorem G9{l left:72}:∀{ks:77},(∀k∈ks,left k=l k)->dn l left ks=0
 |[],_=>rfl
 |x::r,h=>by
  have ih:=G9 (l:=l) (left:=left) (ks:=r) λk hk=>h k (by simp[hk]);have h0:=h x 71;unfold dn at ih ⊢;simp only[gv,sum_cons,ih];omega
def Inv.head{n:Nat}{c l h:72}(H:Hs n c l W h){left en:72}{t:Int}(I:Inv n l h W left en t){k:Nat}(hk:k<n){x:Int}(tx:t<=x)(cx:c k<=x)(hf:∀p∈W,p.2=k->left p.1=0):h k<=x:=by
 rcases H.eq k hk with e|⟨p,hp,e1,e2⟩
 .omega
 .have l0:=hf p hp e1;have pn:=(H.ins p hp).1;have lp:=H.pos p.1 pn;rcases I.bd [p.1] 71 (by simpa using pn) (h p.1) 71 with q|⟨u,hu,_,q⟩
  .have:=q p.1 71;omega
  .rw[hE]at hu;subst hu;have:=I.et p.1 pn 66;simp[dn]at q;omega
def Inv.step{n:Nat}{c l h:72}(H:Hs n c l W h){left en:72}{t:Int}(I:Inv n l h W left en t){k:Nat}(hk:k<n){x m:Int}(tx:t<=x)(cx:c k<=x)(hf:∀p∈W,p.2=k->left p.1=0)(m1:1<=m)(m2:m<=left k):
 Inv n l h W (upd left k (left k-m)) (upd en k (x+m)) (x+m):=by
 have hx:=I.head H hk tx cx hf;have lk:=I.lo k hk;refine⟨λj hj=>?_,λj hj q=>?_,λks nd hn b hb=>?_,λp hp q=>?_⟩
 .by_cases e:j=k
  .subst e;rw[upd_self];omega
  .rw[upd_ne e];exact I.lo j hj
 .by_cases e:j=k
  .subst e;rw[upd_self];exact 110 _
  .rw[upd_ne e]at q ⊢;have:=I.et j hj q;omega
 .rw[K8 nd];have ob:=I.bd ks nd hn b hb;by_cases e:k∈ks
  .refine .inr ⟨k,e,by rw[upd_self];omega,?_⟩;rw[upd_self,gb e];have bk:=hb k e;rcases ob with q|⟨u,hu,q1,q2⟩
   .rw[G9 q];omega
   .have:=I.et u (hn u hu) q1;omega
  .rw[gh e];rcases ob with q|⟨u,hu,q1,q2⟩
   .refine .inl λj hj=>?_;rw[upd_ne (λz:j=k=>e (z ▸ hj))];exact q j hj
   .have ne:u≠k:=λz=>e (z ▸ hu);exact .inr ⟨u,hu,by rw[upd_ne ne];exact q1,by rw[upd_ne ne];omega⟩
 .by_cases e:p.2=k
  .have l0:=hf p hp e;have ne:p.1≠k:=λz=>by rw[z]at l0;omega
   rw[upd_ne ne,upd_ne ne,e,upd_self];refine⟨l0,?_⟩;have pn:=(H.ins p hp).1;have:=H.pos p.1 pn;have:=I.et p.1 pn 66;omega
  .rw[upd_ne e]at q;obtain⟨q1,q2⟩:=I.wi p hp q;have ne:p.1≠k:=λz=>by rw[z]at q1;omega
   rw[upd_ne ne,upd_ne ne,upd_ne e];exact⟨q1,q2⟩
theorem P7{l left:72}:∀{ks:77},(∀k∈ks,left k=0)->dn l left ks=S l ks
 |[],_=>rfl
 |x::r,h=>by
  have ih:=P7 (l:=l) (left:=left) (ks:=r) λk hk=>h k (by simp[hk]);have h0:=h x 71;rw[S_cons];unfold dn at ih ⊢;simp only[gv,sum_cons,ih];omega
def Vm(f:72):∀ks:List Nat,ks≠[]->∃u∈ks,∀v∈ks,f v<=f u:=by
 intro ks
 induction ks with
 |nil=>intro h;exact absurd rfl h
 |cons x r ih=>
  intro _;by_cases hr:r=[]
  .subst hr;exact⟨x,by simp,by simp⟩
  .obtain⟨u,hu,hm⟩:=ih hr;by_cases q:f u<=f x
   .refine⟨x,by simp,λv hv=>?_⟩;rcases mem_cons.mp hv with rfl|hv
    .exact 110 _
    .exact Int.le_trans (hm v hv) q
   .refine⟨u,by simp[hu],λv hv=>?_⟩;rcases mem_cons.mp hv with rfl|hv
    .omega
    .exact hm v hv
def Inv.low{n:Nat}{c l h:72}(H:Hs n c l W h){left en:72}{t:Int}(I:Inv n l h W left en t)(h0:∀k,k<n->left k=0)(hne:ks≠[])(nd:ks.Nodup)(hn:∀k∈ks,k<n){b:Int}(hb:∀k∈ks,b<=h k):
 ∃u∈ks,b+S l ks<=en u/\∀v∈ks,en v<=en u:=by
 obtain⟨u,hu,hm⟩:=Vm en ks hne;refine⟨u,hu,?_,hm⟩;rcases I.bd ks nd hn b hb with q|⟨v,hv,_,q⟩
 .have:=q u hu;have:=h0 u (hn u hu);have:=H.pos u (hn u hu);omega
 .rw[P7 λk hk=>h0 k (hn k hk)]at q;exact Int.le_trans q (hm v hv)
noncomputable abbrev Pc:=Nat×Int×Int
noncomputable def tot(k:Nat):List Pc->Int
 |[]=>0
 |p::r=>(if p.1=k then p.2.2-p.2.1 else 0)+tot k r
noncomputable def E6:List Pc->Int
 |[]=>0
 |p::r=>(p.2.2-p.2.1)+E6 r
noncomputable def gf(u:Nat)(at_ e:Int):List Pc->List Pc
 |[]=>[(u,at_,e)]
 |q::r=>(if at_<q.2.1 then [(u,at_,q.2.1)]else [])++q::gf u q.2.2 e r
theorem tot_app(k:Nat):∀a b:List Pc,tot k (a++b)=tot k a+tot k b
 |[],b=>by simp[tot]
 |p::r,b=>by simp only[iI,tot,tot_app k r b];omega
theorem tot_none{k:Nat}:∀{a:List Pc},(∀p∈a,p.1≠k)->tot k a=0
 |[],_=>rfl
 |p::r,h=>by
  rw[tot,gh (h p 71),tot_none λq hq=>h q (by simp[hq])];rfl
theorem tot_nn{k:Nat}:∀{a:List Pc},(∀p∈a,p.2.1<p.2.2)->0<=tot k a
 |[],_=>110 _
 |p::r,h=>by
  have h1:=h p 71;have h2:=tot_nn (k:=k) (a:=r) λq hq=>h q (by simp[hq]);rw[tot];split<;>omega
def Row(b:Int):List Pc->Prop
 |[]=>True
 |p::r=>b<=p.2.1/\p.2.1<p.2.2/\Row p.2.2 r
def Row.mono{b b':Int}(h:b'<=b):∀{ps:List Pc},Row b ps->Row b' ps
 |[],_=>trivial
 |p::r,q=>⟨by have:=q.1;omega,q.2.1,q.2.2⟩
theorem Row.ge{b:Int}:∀{ps:List Pc},Row b ps->∀p∈ps,b<=p.2.1/\p.2.1<p.2.2
 |[],_,p,hp=>by cases hp
 |q::r,h,p,hp=>by
  rcases mem_cons.mp hp with rfl|hp
  .exact⟨h.1,h.2.1⟩
  .have:=h.2.2.ge p hp;have:=h.1;have:=h.2.1;exact⟨by omega,by omega⟩
theorem Row.app{e:Int}:∀{ps qs:List Pc} {b:Int},Row b ps->b<=e->(∀p∈ps,p.2.2<=e)->Row e qs->Row b (ps++qs)
 |[],qs,b,_,h1,_,h=>h.mono h1
 |p::r,qs,b,h,h1,h2,h3=>⟨h.1,h.2.1,Row.app h.2.2 (h2 p 71) (λq hq=>h2 q (by simp[hq])) h3⟩
theorem Io{P:Pc->Prop}[DecidablePred P]{g:Int}:∀{ps:List Pc} {b:Int},Row b ps->b<=g->(∀p∈ps,P p->p.2.2<=g)->E6 (ps.filter λp=>decide (P p))<=g-b
 |[],b,_,h,_=>by simp[E6];omega
 |p::r,b,h,hb,hp=>by
  have h1:=h.1;have h2:=h.2.1;by_cases q:P p
  .have e:=hp p 71 q;have ih:=Io (P:=P) h.2.2 e λx hx=>hp x (by simp[hx]);rw[iW (by simpa using q),E6];omega
  .rw[j7 (by simpa using q)];exact Io (P:=P) (h.2.2.mono 66) hb λx hx=>hp x (by simp[hx])
theorem LS{d:Nat}{D:77}(hd:d∉D):∀ps:List Pc,E6 (ps.filter λp=>decide (p.1∈d::D))=tot d ps+E6 (ps.filter λp=>decide (p.1∈D))
 |[]=>rfl
 |p::r=>by
  have ih:=LS hd r;rw[tot];by_cases e:p.1=d
  .rw[iW (by simp[e]),j7 (by simpa [e]using hd),E6,ih,gb e];omega
  .by_cases q:p.1∈D
   .rw[iW (by simp[q]),iW (by simp[q]),E6,E6,ih,gh e];omega
   .rw[j7 (by simp[q,e]),j7 (by simp[q]),ih,gh e];omega
theorem NN{l:72}:∀{D:77},D.Nodup->(∀d∈D,tot d ps=l d)->E6 (ps.filter λp=>decide (p.1∈D))=S l D
 |[],_,_=>by
  have:(ps.filter λp=>decide (p.1∈([]:List Nat)))=[]:=by simp
  rw[this];rfl
 |d::D,nd,h=>by
  obtain⟨h1,h2⟩:=nodup_cons.mp nd;rw[LS h1,NN h2 λx hx=>h x (by simp[hx]),S_cons,h d 71]
def VG{ps:List Pc}{D:77}(h:∀p∈ps,p.1∈D):(ps.filter λp=>decide (p.1∈D))=ps:=
 List.filter_eq_self.mpr λp hp=>by simpa using h p hp
theorem Sr{u:Nat}{e:Int}:∀{qs:List Pc} {a:Int},Row a qs->(∀q∈qs,q.2.2<e)->a<e->∀p∈gf u a e qs,p∈qs∨(p.1=u/\a<=p.2.1/\p.2.1<p.2.2/\p.2.2<=e/\∀q∈qs,q.2.2<=p.2.1∨p.2.2<=q.2.1)
 |[],a,_,_,h,p,hp=>by
  rw[gf,hE]at hp;subst hp;exact .inr ⟨rfl,110 _,h,110 _,by simp⟩
 |q::r,a,hr,he,h,p,hp=>by
  have h1:=hr.1;have h2:=hr.2.1;have he1:=he q 71;have rg:=hr.2.2.ge;rw[gf]at hp;rcases mem_append.mp hp with hp|hp
  .by_cases c:a<q.2.1
   .rw[gb c,hE]at hp;subst hp;refine .inr ⟨rfl,110 _,c,by show q.2.1<=e;omega,λx hx=>.inr ?_⟩;show q.2.1<=x.2.1;rcases mem_cons.mp hx with rfl|hx
    .exact 110 _
    .have:=rg x hx;omega
   .rw[gh c]at hp;cases hp
  .rcases mem_cons.mp hp with rfl|hp
   .exact .inl 71
   .rcases Sr hr.2.2 (λx hx=>he x (by simp[hx])) he1 p hp with z|⟨z1,z2,z3,z4,z5⟩
    .exact .inl (by simp[z])
    .refine .inr ⟨z1,by omega,z3,z4,λx hx=>?_⟩;rcases mem_cons.mp hx with rfl|hx
     .exact .inl z2
     .exact z5 x hx
theorem Sq{u:Nat}{e:Int}:∀{qs:List Pc} {a:Int},Row a qs->(∀q∈qs,q.2.2<e)->a<e->Row a (gf u a e qs)
 |[],a,_,_,h=>⟨110 _,h,trivial⟩
 |q::r,a,hr,he,h=>by
  have ih:=Sq (u:=u) hr.2.2 (λx hx=>he x (by simp[hx])) (he q 71);rw[gf];by_cases c:a<q.2.1
  .rw[gb c];exact⟨110 _,c,110 _,hr.2.1,ih⟩
  .rw[gh c];exact⟨hr.1,hr.2.1,ih⟩
theorem Nc{u:Nat}{e:Int}:∀{qs:List Pc} {a:Int},Row a qs->(∀q∈qs,q.2.2<e)->∀y,a<=y->y<e->∃p∈gf u a e qs,p.2.1<=y/\y<p.2.2
 |[],a,_,_,y,h1,h2=>⟨(u,a,e),by simp[gf],h1,h2⟩
 |q::r,a,hr,he,y,h1,h2=>by
  rw[gf];by_cases c:y<q.2.1
  .exact⟨(u,a,q.2.1),iu _ (by rw[gb 66];simp),h1,c⟩
  .by_cases c2:y<q.2.2
   .exact⟨q,by simp,by omega,c2⟩
   .obtain⟨p,hp,z⟩:=Nc (u:=u) hr.2.2 (λx hx=>he x (by simp[hx])) y 66 h2;exact⟨p,gy _ (gp _ hp),z⟩
theorem So{u:Nat}{e:Int}:∀{qs:List Pc} {a:Int},Row a qs->(∀q∈qs,q.1≠u)->tot u (gf u a e qs)=e-a-E6 qs
 |[],a,_,_=>by simp[gf,tot,E6]
 |q::r,a,hr,hu=>by
  have ih:=So (e:=e) hr.2.2 λx hx=>hu x (by simp[hx]);have h1:=hr.1;rw[gf,tot_app,tot,gh (hu q 71),ih,E6];by_cases c:a<q.2.1
  .rw[gb c];simp[tot];omega
  .rw[gh c];simp[tot];omega
theorem Lc{u k:Nat}(h:k≠u){e:Int}:∀{qs:List Pc} {a:Int},tot k (gf u a e qs)=tot k qs
 |[],a=>by simp only[gf,tot];rw[gh λz:u=k=>h z.symm];rfl
 |q::r,a=>by
  have ih:=Lc h (e:=e) (qs:=r) (a:=q.2.2);rw[gf,tot_app,tot,tot,ih];by_cases c:a<q.2.1
  .rw[gb c];simp only[tot];rw[gh λz:u=k=>h z.symm];omega
  .rw[gh c];simp[tot]
theorem FX{P:Nat->Prop}[DecidablePred P]:∀{C:77},(∃c∈C,¬ P c)->∃D x E,C=D++x::E/\(∀d∈D,P d)/\¬ P x
 |[],h=>by obtain⟨c,hc,_⟩:=h;cases hc
 |c::r,h=>by
  by_cases q:P c
  .obtain⟨D,x,E,e,h1,h2⟩:=FX (C:=r) (P:=P) (by
    obtain⟨d,hd,z⟩:=h;rcases mem_cons.mp hd with rfl|hd
    .exact absurd q z
    .exact⟨d,hd,z⟩)
   refine⟨c::D,x,E,by rw[e];rfl,λd hd=>?_,h2⟩;rcases mem_cons.mp hd with rfl|hd
   .exact q
   .exact h1 d hd
  .exact⟨[],c,r,rfl,by simp,q⟩
def Wd(h l:72)(M:77)(e:Int):Prop:=(∃c∈M,e=h c+S l M)/\∀c∈M,e<=h c+S l M
inductive Brk(h l:72)(ch:List Nat->Int->Nat->Prop):List Nat->List Pc->List (List Nat)->Prop
 |nil:Brk h l ch [] [] []
 |cons {left C R:List Nat} {b:Int} {u:Nat} {qs ps:List Pc} {ts ss:List (List Nat)} (pm:left.Perm (C++R)) (K:ChOk h l b C R) (hc:ch (left.filter λk=>decide (k∈C)) (b+S l C) u) (hu:u∈C) (inn:Brk h l ch ((left.filter λk=>decide (k∈C)).filter λk=>decide (k≠u)) qs ts) (rst:Brk h l ch (left.filter λk=>!decide (k∈C)) ps ss):
  Brk h l ch left (gf u b (b+S l C) qs++ps) (((left.filter λk=>decide (k∈C))::ts)++ss)
structure Ok(h l:72)(W:95)(ch:List Nat->Int->Nat->Prop)(left:77)(ps:List Pc)(ss:List (List Nat)):Prop where
 mem:∀p∈ps,p.1∈left/\h p.1<=p.2.1
 row:∀b,(∀k∈left,b<=h k)->Row b ps
 tot:∀k∈left,tot k ps=l k
 wis:∀w∈W,w.1∈left->w.2∈left->∀q∈ps,∀r∈ps,q.1=w.1->r.1=w.2->q.2.2<=r.2.1
 fre:∀x,(∀q∈ps,q.2.2<=x∨x<q.2.1)->∀q∈ps,h q.1<=x->q.2.2<=x
 blk:∀q∈ps,∃(b':Int) (D:77),D.Nodup/\(∀d∈D,d∈left)/\(∀d∈D,b'<=h d)/\(∃d∈D,h d=b')/\q.2.2<=b'+S l D
 cst:∀k∈left,∃M∈ss,∃e,ch M e k/\Wd h l M e/\∀q∈ps,q.1=k->q.2.2<=e
 set:∀M∈ss,M≠[]/\M.Sublist left
def eI{h l:72}(hl:∀k,1<=l k){b:Int}(K:ChOk h l b C R){x:Nat}(hx:x∈C):h x<b+S l C:=by
 obtain⟨D,E,e⟩:=List.append_of_mem hx;have h0:0<=S l E:=by have:=KM (l:=l) (λk=>by have:=hl k;omega) (C:=[]) (T:=E) .nil 71;simpa [S]using this
 have hx1:=hl x;rw[e,WX,S_cons];by_cases q:D=[]
 .subst q;obtain⟨c,C',e1,e2⟩:=K.fst;rw[e]at e1;have:x=c:=(List.cons.inj e1).1;subst this;simp[S]at *;omega
 .have:=K.step D x E e q;omega
def Brk.ok{h l:72}(hl:∀k,1<=l k)(hW:∀w∈W,h w.1+l w.1<=h w.2){ch:List Nat->Int->Nat->Prop}(hch:∀M e u,ch M e u->∀w∈W,w.1=u->w.2∉M){left:77}(B:Brk h l ch left ps ss):left.Nodup->Ok h l W ch left ps ss:=by
 have hl0:∀k,0<=l k:=λk=>by have:=hl k;omega
 induction B with
 |nil=>intro _;exact⟨by simp,λ_ _=>trivial,by simp,by simp,by simp,by simp,by simp,by simp⟩
 |@cons left C R b u qs ps ts ss pm K hc hu inn rst ihI ihR=>
  intro nd;have ndC:(C++R).Nodup:=pm.nodup_iff.mp nd;have nC:C.Nodup:=ndC.sublist (List.sublist_append_left _ _);have cl:∀k∈C,k∈left:=λk hk=>pm.mem_iff.mpr (iu _ hk);have mM:∀k,k∈left.filter (λk=>decide (k∈C))↔k∈C:=λk=>by
   rw[mem_filter];exact⟨λz=>by simpa using z.2,λz=>⟨cl k z,by simpa using z⟩⟩
  have mN:∀k,k∈(left.filter λk=>decide (k∈C)).filter (λk=>decide (k≠u))↔k∈C/\k≠u:=λk=>by
   rw[mem_filter,mM];simp
  have mR:∀k,k∈left.filter (λk=>!decide (k∈C))->k∈left/\k∉C/\b+S l C<=h k:=λk z=>by
   obtain⟨z1,z2⟩:=mem_filter.mp z;have z2:k∉C:=by simpa using z2
   refine⟨z1,z2,K.rest k ?_⟩;rcases mem_append.mp (pm.mem_iff.mp z1)with q|q
   .exact absurd q z2
   .exact q
  have inR:∀k,k∈left->k∉C->k∈left.filter (λk=>!decide (k∈C)):=λk z1 z2=>mem_filter.mpr ⟨z1,by simpa using z2⟩;have ndM:(left.filter λk=>decide (k∈C)).Nodup:=nd.sublist iq;have ndN:=ndM.sublist (iq (p:=λk=>decide (k≠u)));have I:=ihI ndN;have Rt:=ihR (nd.sublist iq);clear ihI ihR;have sM:S l (left.filter λk=>decide (k∈C))=S l C:=O7 ((List.perm_ext_iff_of_nodup ndM nC).mpr mM);have sN:S l ((left.filter λk=>decide (k∈C)).filter λk=>decide (k≠u))+l u=S l C:=by
   have:(u::(left.filter λk=>decide (k∈C)).filter λk=>decide (k≠u)).Perm C:=by
    refine(List.perm_ext_iff_of_nodup (nodup_cons.mpr ⟨λz=>((mN u).mp z).2 rfl,ndN⟩) nC).mpr λk=>?_;rw[mem_cons,mN];constructor
    .rintro(rfl|z)
     .exact hu
     .exact z.1
    .intro z;by_cases q:k=u
     .exact .inl q
     .exact .inr ⟨z,q⟩
   rw[<- O7 this,S_cons];omega
  have lu:=hl u;have rq:Row b qs:=I.row b λk hk=>K.lo k ((mN k).mp hk).1;have frst:∀{D:77} {x:Nat} {E:77},C=D++x::E->b<h x->D≠[]:=by
   intro D x E e q z;subst z;obtain⟨c,C',e1,e2⟩:=K.fst;rw[e]at e1;have:x=c:=(List.cons.inj e1).1;subst this;omega
  have g2:∀q∈qs,q.2.2<b+S l C:=by
   intro q hq;obtain⟨b',D,ndD,subD,loD,⟨d0,hd0,e0⟩,hqe⟩:=I.blk q hq;have dC:∀d∈D,d∈C:=λd hd=>((mN d).mp (subD d hd)).1;have bb:b<=b':=by rw[<- e0];exact K.lo d0 (dC d0 hd0)
   by_cases eb:b'=b
   .have:=KM hl0 ndD subD;omega
   .obtain⟨D0,x,E,e,h1,h2⟩:=FX (P:=λc=>h c<b') (C:=C) ⟨d0,dC d0 hd0,by omega⟩;have st:=K.step D0 x E e (frst e 66);have nd0:D0.Nodup:=nC.sublist (by rw[e];exact List.sublist_append_left _ _);have:=KM hl0 (C:=D0++D) (T:=C) (nodup_append.mpr ⟨nd0,ndD,λa ha c hc z=>by
     subst z;have:=h1 a ha;have:=loD a hc;omega⟩) λy hy=>by
     rcases mem_append.mp hy with q|q
     .rw[e];simp[q]
     .exact dC y q
    rw[WX]at this;omega
  have snn:0<=S l ((left.filter λk=>decide (k∈C)).filter λk=>decide (k≠u)):=by
   have:=KM hl0 (C:=[]) (T:=(left.filter λk=>decide (k∈C)).filter λk=>decide (k≠u)) .nil 71;simpa [S]using this
  have be:b<b+S l C:=by omega
  have gm:=Sr (u:=u) rq g2 be;have nq:∀q∈qs,q.1∈C/\q.1≠u:=λq hq=>(mN _).mp (I.mem q hq).1;have gC:∀p∈gf u b (b+S l C) qs,p.1∈C/\p.2.2<=b+S l C:=λp hp=>by
   rcases gm p hp with z|z
   .exact⟨(nq p z).1,Int.le_of_lt (g2 p z)⟩
   .exact⟨z.1 ▸ hu,z.2.2.2.1⟩
  have pR:∀p∈ps,p.1∈left/\p.1∉C/\b+S l C<=h p.1:=λp hp=>mR _ (Rt.mem p hp).1;have g3:∀p∈gf u b (b+S l C) qs,p.1=u->h u<=p.2.1/\∀q∈qs,q.2.2<=p.2.1∨p.2.1<q.2.1:=by
   intro p hp eu;rcases gm p hp with z|⟨_,z2,z3,z4,z5⟩
   .exact absurd eu (nq p z).2
   have free:∀q∈qs,q.2.2<=p.2.1∨p.2.1<q.2.1:=λq hq=>by
    rcases z5 q hq with y|y
    .exact .inl y
    .exact .inr 66
   refine⟨Classical.byContradiction λhn=>?_,free⟩;obtain⟨D0,x,E,e,h1,h2⟩:=FX (P:=λc=>h c<=p.2.1) (C:=C) ⟨u,hu,hn⟩;have st:=K.step D0 x E e (frst e 66);have nd0:D0.Nodup:=nC.sublist (by rw[e];exact List.sublist_append_left _ _);have d0N:∀d∈D0,d∈(left.filter λk=>decide (k∈C)).filter (λk=>decide (k≠u)):=λd hd=>
    (mN d).mpr ⟨by rw[e];simp[hd],λy=>by subst y;exact hn (h1 d hd)⟩
   have m1:=Io (P:=λq:Pc=>q.1∈D0) (g:=p.2.1) rq z2 λq hq hqD=>I.fre _ free q hq (h1 _ hqD);rw[NN nd0 λd hd=>I.tot d (d0N d hd)]at m1;omega
  refine⟨λp hp=>?_,λb0 hb0=>?_,λk hk=>?_,λw hw h1 h2 q hq r hr eq er=>?_,λx hx q hq hqx=>?_,λq hq=>?_,λk hk=>?_,λM hM=>?_⟩
  .rcases mem_append.mp hp with z|z
   .refine⟨cl _ (gC p z).1,?_⟩;rcases gm p z with y|y
    .exact(I.mem p y).2
    .rw[y.1];exact(g3 p z y.1).1
   .exact⟨(pR p z).1,(Rt.mem p z).2⟩
  .obtain⟨c,C',e1,e2⟩:=K.fst;have bl:b0<=b:=by rw[<- e2];exact hb0 c (cl c (by rw[e1];simp))
   exact Row.app ((Sq (u:=u) rq g2 be).mono bl) 66 (λp hp=>(gC p hp).2) (Rt.row _ λk hk=>(mR k hk).2.2)
  .rw[tot_app];by_cases q:k∈C
   .rw[tot_none λp hp z=>(pR p hp).2.1 (z ▸ q),Int.add_zero];by_cases eu:k=u
    .subst eu;rw[So rq λx hx=>(nq x hx).2];have m1:=NN (l:=l) ndN I.tot;rw[VG λp hp=>(I.mem p hp).1]at m1;omega
    .rw[Lc eu];exact I.tot k ((mN k).mpr ⟨q,eu⟩)
   .rw[tot_none λp hp (z:p.1=k)=>q (z ▸ (gC p hp).1),Int.zero_add];exact Rt.tot k (inR k hk q)
  .have hw':=hW w hw;have l1:=hl w.1;rcases mem_append.mp hq with zq|zq
   .have qC:=gC q zq;rcases mem_append.mp hr with zr|zr
    .have rC:=gC r zr;have nu:w.1≠u:=λz=>hch _ _ _ hc w hw z ((mM _).mpr (er ▸ rC.1));have qin:q∈qs:=by
      rcases gm q zq with y|y
      .exact y
      .exact absurd (eq ▸ y.1) nu
     rcases gm r zr with y|y
     .exact I.wis w hw (eq ▸ (I.mem q qin).1) (er ▸ (I.mem r y).1) q qin r y eq er
     .obtain⟨y1,y2⟩:=g3 r zr y.1;refine I.fre _ y2 q qin ?_;rw[eq];rw[<- er,y.1]at hw';omega
    .have:=(pR r zr).2.2;have:=(Rt.mem r zr).2;have:=qC.2;omega
   .have pq:=pR q zq;rcases mem_append.mp hr with zr|zr
    .have:=eI hl K (gC r zr).1;rw[er]at this;have p2:=pq.2.2;rw[eq]at p2;omega
    .exact Rt.wis w hw (eq ▸ (Rt.mem q zq).1) (er ▸ (Rt.mem r zr).1) q zq r zr eq er
  .rcases mem_append.mp hq with z|z
   .have qC:=gC q z;have lo:=K.lo _ qC.1;by_cases c:x<b+S l C
    .obtain⟨p,hp,y1,y2⟩:=Nc (u:=u) rq g2 x 66 c;rcases hx p (iu _ hp)with y|y<;>omega
    .have:=qC.2;omega
   .exact Rt.fre x (λy hy=>hx y (gy _ hy)) q z hqx
  .rcases mem_append.mp hq with z|z
   .obtain⟨c,C',e1,e2⟩:=K.fst;exact⟨b,C,nC,cl,K.lo,⟨c,by rw[e1];simp,e2⟩,(gC q z).2⟩
   .obtain⟨b',D,y1,y2,y3⟩:=Rt.blk q z;exact⟨b',D,y1,λd hd=>(mR d (y2 d hd)).1,y3⟩
  .by_cases q:k∈C
   .by_cases eu:k=u
    .subst eu;refine⟨_,by simp,_,hc,⟨?_,λc hc'=>?_⟩,λp hp e=>?_⟩
     .obtain⟨c,C',e1,e2⟩:=K.fst;exact⟨c,(mM c).mpr (by rw[e1];simp),by rw[e2,sM]⟩
     .rw[sM];have:=K.lo c ((mM c).mp hc');omega
     .rcases mem_append.mp hp with z|z
      .exact(gC p z).2
      .exact absurd (e ▸ q) (pR p z).2.1
    .obtain⟨M,hM,e,y1,y2,y3⟩:=I.cst k ((mN k).mpr ⟨q,eu⟩);refine⟨M,by simp[hM],e,y1,y2,λp hp z=>?_⟩;rcases mem_append.mp hp with y|y
     .rcases gm p y with x|x
      .exact y3 p x z
      .exact absurd (z ▸ x.1) eu
     .exact absurd (z ▸ q) (pR p y).2.1
   .obtain⟨M,hM,e,y1,y2,y3⟩:=Rt.cst k (inR k hk q);refine⟨M,by simp[hM],e,y1,y2,λp hp z=>?_⟩;rcases mem_append.mp hp with y|y
    .exact absurd (z ▸ (gC p y).1) q
    .exact y3 p y z
  .rcases mem_append.mp hM with z|z
   .rcases mem_cons.mp z with rfl|z
    .exact⟨iS ((mM u).mpr hu),iq⟩
    .exact⟨(I.set M z).1,(I.set M z).2.trans (filter_sublist.trans iq)⟩
   .exact⟨(Rt.set M z).1,(Rt.set M z).2.trans iq⟩
end Bk
namespace Du
open Bk
open Sx (S S_cons)
noncomputable def addP(P:List Pc)(k:Nat)(b e:Int):List Pc:=match P.getLast? with
 |some p=>if p.1=k/\p.2.2=b then P.dropLast++[(k,p.2.1,e)]else P++[(k,b,e)]
 |none=>P++[(k,b,e)]
def nil_or(P:List Pc):P=[]∨∃P' p,P=P'++[p]:=by
 rcases List.eq_nil_or_concat P with h|⟨P',p,h⟩
 .exact .inl h
 .exact .inr ⟨P',p,by rw[h,List.concat_eq_append]⟩
def addP_snoc(P:List Pc)(p:Pc)(k:Nat)(b e:Int):addP (P++[p]) k b e=if p.1=k/\p.2.2=b then P++[(k,p.2.1,e)]else P++[p]++[(k,b,e)]:=by
 unfold addP;rw[List.getLast?_concat,List.dropLast_concat]
def KL(P:List Pc)(k:Nat)(b e:Int):∃I b0,addP P k b e=I++[(k,b0,e)]/\(I=P/\b0=b∨P=I++[(k,b0,b)]):=by
 rcases nil_or P with rfl|⟨P',p,rfl⟩
 .exact⟨[],b,rfl,.inl ⟨rfl,rfl⟩⟩
 .rw[addP_snoc];by_cases c:p.1=k/\p.2.2=b
  .rw[gb c];exact⟨P',p.2.1,rfl,.inr (by obtain⟨p1,p2,p3⟩:=p;obtain⟨rfl,rfl⟩:=c;rfl)⟩
  .rw[gh c];exact⟨P'++[p],b,rfl,.inl ⟨rfl,rfl⟩⟩
noncomputable def sel(n:Nat)(h dd:72)(D t0:Int):List Nat:=(68 n).filter λk=>decide (dd k<=D)&&decide (t0<=h k)
def sel_mem{n:Nat}{h dd:72}{D t0:Int}{k:Nat}:k∈sel n h dd D t0↔k<n/\dd k<=D/\t0<=h k:=by simp[sel]
def Rl(n:Nat)(h dd:72)(D t0:Int):(sel n h dd D t0).Nodup:=nodup_range.sublist iq
theorem MP{l lf:72}:∀{ks:77},(∀k∈ks,lf k<=l k)->0<=dn l lf ks
 |[],_=>by simp[dn]
 |x::r,h=>by
  have ih:=MP (l:=l) (lf:=lf) (ks:=r) λk hk=>h k (by simp[hk]);have h0:=h x 71;unfold dn at ih ⊢;simp only[gv,sum_cons];omega
theorem dn_S{l lf:72}:∀{ks:77},(∀k∈ks,0<=lf k)->dn l lf ks<=S l ks
 |[],_=>by simp[dn,S]
 |x::r,h=>by
  have ih:=dn_S (l:=l) (lf:=lf) (ks:=r) λk hk=>h k (by simp[hk]);have h0:=h x 71;rw[S_cons];unfold dn at ih ⊢;simp only[gv,sum_cons];omega
structure St(n:Nat)(h l dd:72)(W:95)(lf:72)(P:List Pc)(t:Int):Prop where
 lo:∀k,k<n->0<=lf k/\lf k<=l k
 mem:∀p∈P,p.1<n/\h p.1<=p.2.1/\p.2.1<p.2.2/\p.2.2<=t
 pw:P.Pairwise λp q=>p.2.2<=q.2.1
 has:∀p∈P,lf p.1<l p.1
 tt:∀j,j<n->tot j P=l j-lf j
 wis:∀w∈W,∀p∈P,∀q∈P,p.1=w.1->q.1=w.2->p.2.2<=q.2.1
 beg:∀w∈W,lf w.2<l w.2->lf w.1=0
 th:∀D,∃t0,t0<=t/\(∀k,k<n->0<lf k->dd k<=D->t0<=h k)/\t-t0<=dn l lf (sel n h dd D t0)
 fin:∀j,j<n->lf j=0->∃t0 e,(∀p∈P,p.1=j->p.2.2<=e)/\t0<e/\e-t0<=S l (sel n h dd (dd j) t0)
structure Tn(n:Nat)(h dd lf:72)(t t':Int)(k:Nat)(s:Int):Prop where
 tt:t<=t'
 idle:t<t'->∀j,j<n->0<lf j->t'<=h j
 kn:k<n
 k0:0<lf k
 kc:h k<=t'
 km:∀j,j<n->0<lf j->h j<=t'->dd k<dd j∨dd k=dd j/\k<=j
 s0:t'<s
 s1:s<=t'+lf k
 s2:∀j,j<n->0<lf j->t'<h j->s<=h j
 s3:s=t'+lf k∨∃j,j<n/\0<lf j/\t'<h j/\s=h j
noncomputable def mu(n:Nat)(h lf:72)(t:Int):Nat:=(68 n).countP (λj=>decide (0<lf j))+(68 n).countP (λj=>decide (0<lf j/\t<h j))
def mu_le(n:Nat)(h lf:72)(t:Int):mu n h lf t<=2*n:=by
 unfold mu;have h1:=List.countP_le_length (p:=λj=>decide (0<lf j)) (l:=68 n);have h2:=List.countP_le_length (p:=λj=>decide (0<lf j/\t<h j)) (l:=68 n);simp only[iX]at h1 h2;omega
theorem Nq{p q:Nat->Bool}:∀{L:77},(∀i∈L,p i=true->q i=true)->(∃i∈L,q i=true/\p i=false)->L.countP p<L.countP q
 |[],_,h=>by obtain⟨_,h,_⟩:=h;cases h
 |x::r,h,⟨i,hi,h1,h2⟩=>by
  rw[List.countP_cons,List.countP_cons];rcases mem_cons.mp hi with rfl|hi
  .have:=List.countP_mono_left (l:=r) λj hj=>h j (by simp[hj]);rw[h1,h2];simp;omega
  .have ih:=Nq (p:=p) (q:=q) (L:=r) (λj hj=>h j (by simp[hj])) ⟨i,hi,h1,h2⟩;have hx:=h x 71;by_cases px:p x=true
   .rw[px,hx px];simp;omega
   .have px:p x=false:=by simpa using px
    rw[px];simp;split<;>omega
section
variable{n:Nat}{h l dd:72}{lf:72}{t:Int}
def St.start(pos:∀k,k<n->1<=l k)(h0:∀k,k<n->0<=h k)(ins:∀w∈W,w.1<n/\w.2<n):St n h l dd W l [] 0 where
 lo k hk:=by have:=pos k hk;omega
 mem:=by simp
 pw:=.nil
 has:=by simp
 tt j _:=by simp[tot]
 wis:=by simp
 beg w _ q:=by omega
 th D:=⟨0,110 _,λk hk _ _=>h0 k hk,by rw[G9 λ_ _=>rfl];omega⟩
 fin j hj q:=by have:=pos j hj;omega
theorem Tn.mu(X:Tn n h dd lf t t' k s):mu n h (upd lf k (lf k-(s-t'))) s<mu n h lf t:=by
 have tt:=X.tt;have s0:=X.s0;have s1:=X.s1;have k0:=X.k0;have up:∀i,0<upd lf k (lf k-(s-t')) i->0<lf i:=λi q=>by
  unfold upd at q;split at q
  .next e=>rw[e];exact k0
  .exact q
 unfold Du.mu;have le1:(68 n).countP (λj=>decide (0<upd lf k (lf k-(s-t')) j))<=(68 n).countP (λj=>decide (0<lf j)):=List.countP_mono_left λi _ q=>by
  simp only[j4]at q ⊢;exact up i q
 have le2:(68 n).countP (λj=>decide (0<upd lf k (lf k-(s-t')) j/\s<h j))<=(68 n).countP (λj=>decide (0<lf j/\t<h j)):=List.countP_mono_left λi _ q=>by
  simp only[j4]at q ⊢;exact⟨up i q.1,by omega⟩
 rcases X.s3 with e|⟨j,jn,j0,jc,e⟩
 .have:(68 n).countP (λj=>decide (0<upd lf k (lf k-(s-t')) j))<(68 n).countP (λj=>decide (0<lf j)):=by
   refine Nq (λi _ q=>by simp only[j4]at q ⊢;exact up i q) ⟨k,by simpa using X.kn,by simpa using k0,?_⟩;simp only[jq,upd_self];omega
  omega
 .have:(68 n).countP (λj=>decide (0<upd lf k (lf k-(s-t')) j/\s<h j))<(68 n).countP (λj=>decide (0<lf j/\t<h j)):=by
   refine Nq (λi _ q=>?_) ⟨j,by simpa using jn,by simp only[j4];omega,?_⟩
   .simp only[j4]at q ⊢;exact⟨up i q.1,by omega⟩
   .simp only[jq];omega
  omega
def St.turn(pos:∀k,k<n->1<=l k)(hs:∀w∈W,w.1<n/\w.2<n/\h w.1+l w.1<=h w.2)(hd:∀w∈W,dd w.1<=dd w.2-l w.2)(T:St n h l dd W lf P t)(X:Tn n h dd lf t t' k s):St n h l dd W (upd lf k (lf k-(s-t'))) (addP P k t' s) s/\(addP P k t' s).length<=P.length+1:=by
 have tt:=X.tt;have s0:=X.s0;have s1:=X.s1;have k0:=X.k0;have kn:=X.kn;have kc:=X.kc;have lk:=T.lo k kn;obtain⟨I,b0,eA,cA⟩:=KL P k t' s;have sub:∀p∈I,p∈P:=λp hp=>by
  rcases cA with⟨rfl,_⟩|e
  .exact hp
  .rw[e];simp[hp]
 have bb:h k<=b0/\b0<=t':=by
  rcases cA with⟨_,rfl⟩|e
  .exact⟨kc,110 _⟩
  .have:=T.mem (k,b0,t') (by rw[e];simp);exact⟨this.2.1,Int.le_of_lt this.2.2.1⟩
 have bef:∀p∈I,p.2.2<=b0:=λp hp=>by
  rcases cA with⟨_,rfl⟩|e
  .have:=(T.mem p (sub p hp)).2.2.2;omega
  .have pw:=T.pw;rw[e,List.pairwise_append]at pw;exact pw.2.2 p hp (k,b0,t') 71
 have key:∀D,∃t0,t0<=s/\(∀j,j<n->0<upd lf k (lf k-(s-t')) j->dd j<=D->t0<=h j)/\s-t0<=dn l (upd lf k (lf k-(s-t'))) (sel n h dd D t0)/\(dd k<=D->t0<=t'):=λD=>by
  have up:∀i,0<upd lf k (lf k-(s-t')) i->0<lf i:=λi q=>by
   unfold upd at q;split at q
   .next e=>rw[e];exact k0
   .exact q
  by_cases c:dd k<=D
  .obtain⟨t0,a1,a2,a3⟩:∃t0,t0<=t'/\(∀j,j<n->0<lf j->dd j<=D->t0<=h j)/\t'-t0<=dn l lf (sel n h dd D t0):=by
    by_cases q:t<t'
    .exact⟨t',110 _,λj hj j0 _=>X.idle q j hj j0,by have:=MP (l:=l) (lf:=lf) (ks:=sel n h dd D t') (λk hk=>(T.lo k (sel_mem.mp hk).1).2);omega⟩
    .obtain⟨t0,a1,a2,a3⟩:=T.th D;exact⟨t0,by omega,a2,by omega⟩
   refine⟨t0,by omega,λj hj q1 q2=>a2 j hj (up j q1) q2,?_,λ_=>a1⟩;rw[K8 (Rl _ _ _ _ _),gb (sel_mem.mpr ⟨kn,c,a2 k kn k0 c⟩)];omega
  .refine⟨s,110 _,λj hj q1 q2=>?_,?_,λq=>absurd q c⟩
   .have j0:=up j q1;by_cases q:h j<=t'
    .have:=X.km j hj j0 q;omega
    .exact X.s2 j hj j0 66
   .have:=MP (l:=l) (lf:=upd lf k (lf k-(s-t'))) (ks:=sel n h dd D s) λi hi=>by
     have:=T.lo i (sel_mem.mp hi).1;unfold upd;split
     .next e=>subst e;omega
     .exact this.2
    omega
 have lo':∀i,i<n->0<=upd lf k (lf k-(s-t')) i/\upd lf k (lf k-(s-t')) i<=l i:=λi hi=>by
  have:=T.lo i hi;unfold upd;split
  .next e=>subst e;omega
  .exact this
 rw[eA];refine⟨⟨lo',λp hp=>?_,?_,λp hp=>?_,λj hj=>?_,λw hw p hp q hq e1 e2=>?_,λw hw q=>?_,λD=>?_,λj hj q=>?_⟩,?_⟩
 .rcases mem_append.mp hp with q|q
  .have:=T.mem p (sub p q);exact⟨this.1,this.2.1,this.2.2.1,by omega⟩
  .rw[hE]at q;subst q;exact⟨kn,bb.1,by show b0<s;omega,110 _⟩
 .rw[List.pairwise_append];refine⟨?_,List.pairwise_singleton _ _,λp hp q hq=>?_⟩
  .have pw:=T.pw;rcases cA with⟨rfl,_⟩|e
   .exact pw
   .rw[e,List.pairwise_append]at pw;exact pw.1
  .rw[hE]at hq;subst hq;exact bef p hp
 .rcases mem_append.mp hp with q|q
  .have:=T.has p (sub p q);unfold upd;split
   .next e=>rw[e]at this ⊢;omega
   .exact this
  .rw[hE]at q;subst q;show upd lf k _ k<l k;rw[upd_self];omega
 .have h1:=T.tt j hj;rw[tot_app];have e2:tot j I+(if k=j then t'-b0 else 0)=tot j P:=by
   rcases cA with⟨rfl,rfl⟩|e
   .split<;>omega
   .rw[e,tot_app];simp[tot]
  show tot j I+((if k=j then s-b0 else 0)+0)=_;by_cases q:j=k
  .subst q;rw[upd_self,gb rfl];rw[gb rfl]at e2;omega
  .rw[upd_ne q,gh λz=>q z.symm];rw[gh λz=>q z.symm]at e2;omega
 .rcases mem_append.mp hp with a|a
  .rcases mem_append.mp hq with b|b
   .exact T.wis w hw p (sub p a) q (sub q b) e1 e2
   .rw[hE]at b;subst b;exact bef p a
  .rw[hE]at a;subst a;have ek:k=w.1:=e1;rcases mem_append.mp hq with b|b
   .have:=T.has q (sub q b);rw[e2]at this;have:=T.beg w hw this;rw[<- ek]at this;omega
   .rw[hE]at b;subst b;have e2:k=w.2:=e2;have:=hs w hw;rw[<- ek,<- e2]at this;have:=pos k kn;omega
 .have:=hs w hw;have p1:=pos w.1 this.1;by_cases c:w.2=k
  .have ne:w.1≠k:=λz=>by rw[z,c]at this;rw[z]at p1;omega
   rw[upd_ne ne];refine Classical.byContradiction λz=>?_;have lo1:=T.lo w.1 this.1;have h1:=X.km w.1 this.1 66 (by rw[c]at this;omega);have h2:=hd w hw;have h3:=pos w.2 this.2.1;rw[c]at h2 h3;omega
  .rw[upd_ne c]at q;have b:=T.beg w hw q;rw[upd_ne λz=>by rw[z]at b;omega];exact b
 .obtain⟨t0,a1,a2,a3,_⟩:=key D;exact⟨t0,a1,a2,a3⟩
 .by_cases c:j=k
  .subst c;obtain⟨t0,a1,a2,a3,a4⟩:=key (dd j);refine⟨t0,s,λp hp e=>?_,by have:=a4 (110 _);omega,Int.le_trans a3 (dn_S λi hi=>(lo' i (sel_mem.mp hi).1).1)⟩;rcases mem_append.mp hp with q|q
   .have:=bef p q;omega
   .rw[hE]at q;subst q;exact 110 _
  .rw[upd_ne c]at q;obtain⟨t0,e,a1,a2,a3⟩:=T.fin j hj q;refine⟨t0,e,λp hp ej=>?_,a2,a3⟩;rcases mem_append.mp hp with q|q
   .exact a1 p (sub p q) ej
   .rw[hE]at q;subst q;exact absurd ej.symm c
 .rcases cA with⟨rfl,_⟩|e
  .simp
  .rw[e];simp
theorem S2{t:Int}:∀{P:List Pc} {b:Int},(∀p∈P,b<=p.2.1/\p.2.1<p.2.2)->P.Pairwise (λp q=>p.2.2<=q.2.1)->Row b P
 |[],_,_,_=>trivial
 |p::r,b,h1,h2=>by
  rw[pairwise_cons]at h2;have:=h1 p 71;exact⟨this.1,this.2,S2 (t:=t) (λq hq=>⟨h2.1 q hq,(h1 q (by simp[hq])).2⟩) h2.2⟩
structure Pk(n:Nat)(h l:72)(W:95)(P:List Pc):Prop where
 mem:∀p∈P,p.1<n/\h p.1<=p.2.1
 row:Row 0 P
 tot:∀j,j<n->tot j P=l j
 wis:∀w∈W,∀p∈P,∀q∈P,p.1=w.1->q.1=w.2->p.2.2<=q.2.1
def St.pk(T:St n h l dd W lf P t)(h0:∀k,k<n->0<=h k)(z:∀j,j<n->lf j=0):Pk n h l W P where
 mem p hp:=⟨(T.mem p hp).1,(T.mem p hp).2.1⟩
 row:=S2 (t:=t) (λp hp=>by have:=T.mem p hp;have:=h0 _ this.1;exact⟨by omega,by omega⟩) T.pw
 tot j hj:=by rw[T.tt j hj,z j hj];omega
 wis:=T.wis
structure Tu(n:Nat)(l d:72)(W:95)(rk:Nat->Nat)(v:72)(t:Nat):Prop where
 le:∀k,k<n->v k<=d k
 wt:∀en:Nat->Int,(∀w∈W,en w.1+l w.2<=en w.2)->∀a,a<n->∃m,m<n/\en a-v a<=en m-d m
 sd:∀w∈W,n<=rk w.1+1+t->v w.1<=v w.2-l w.2
def Tu.start{d:72}{rk:Nat->Nat}(hr:∀w∈W,rk w.1<rk w.2/\rk w.2<n):Tu n l d W rk d 0:=
 ⟨λ_ _=>110 _,λen _ a ha=>⟨a,ha,110 _⟩,λw hw q=>by have:=hr w hw;omega⟩
structure Ti(n:Nat)(l d:72)(W:95)(rk:Nat->Nat)(v:72)(t:Nat)(A:95):Prop where
 T:Tu n l d W rk v t
 nw:∀w∈A,n<=rk w.1+1+(t+1)->v w.1<=v w.2-l w.2
def Ti.step{d v:72}{rk:Nat->Nat}{t:Nat}(hr:∀w∈W,(w.1<n/\w.2<n)/\rk w.1<rk w.2)(I:Ti n l d W rk v t A)(sub:∀w∈A,w∈W)(hq:q∈W):Ti n l d W rk (upd v q.1 (min (v q.1) (v q.2-l q.2))) t (A++[q]):=by
 have rq:=hr q hq;have mono:∀k,upd v q.1 (min (v q.1) (v q.2-l q.2)) k<=v k:=λk=>by
  unfold upd;split
  .next e=>subst e;omega
  .exact 110 _
 -- an edge whose far end is settled keeps
 have keep:∀w∈W,n<=rk w.1+1+(t+1)->v w.1<=v w.2-l w.2->upd v q.1 (min (v q.1) (v q.2-l q.2)) w.1<=upd v q.1 (min (v q.1) (v q.2-l q.2)) w.2-l w.2:=λw hw hn hv=>by
  have m1:=mono w.1;have rw_:=hr w hw;by_cases e:w.2=q.1
  .have:=I.T.sd q hq (by rw[<- e];omega);have e2:upd v q.1 (min (v q.1) (v q.2-l q.2)) w.2=v w.2:=by
    rw[e,upd_self];omega
   rw[e2];omega
  .rw[upd_ne e];omega
 refine⟨⟨λk hk=>Int.le_trans (mono k) (I.T.le k hk),λen he a ha=>?_,λw hw hn=>keep w hw 66 (I.T.sd w hw hn)⟩,λw hw hn=>?_⟩
 .by_cases e:a=q.1
  .subst e;rw[upd_self];by_cases c:v q.1<=v q.2-l q.2
   .rw[show min (v q.1) (v q.2-l q.2)=v q.1 by omega];exact I.T.wt en he q.1 ha
   .rw[show min (v q.1) (v q.2-l q.2)=v q.2-l q.2 by omega];obtain⟨m,hm,q1⟩:=I.T.wt en he q.2 rq.1.2;have:=he q hq;exact⟨m,hm,by omega⟩
  .rw[upd_ne e];exact I.T.wt en he a ha
 .rcases mem_append.mp hw with a|a
  .exact keep w (sub w a) hn (I.nw w a hn)
  .rw[hE]at a;subst a;have ne:w.2≠w.1:=λz=>by have:=rq.2;rw[z]at this;omega
   rw[upd_self,upd_ne ne];omega
def Ti.next{d v:72}{rk:Nat->Nat}{t:Nat}(I:Ti n l d W rk v t W):Tu n l d W rk v (t+1):=⟨I.T.le,I.T.wt,λw hw hn=>I.nw w hw hn⟩
def Tu.done{d v:72}{rk:Nat->Nat}(T:Tu n l d W rk v n):∀w∈W,v w.1<=v w.2-l w.2:=λw hw=>T.sd w hw 66
structure Wr(n:Nat)(l h:72)(W:95)(left en:72)(t:Int):Prop where
 I:Inv n l h W left en t
 wh:∀k,k<n->left k=l k∨left k=0
 wd:∀w∈W,left w.2<l w.2->en w.1+l w.2<=en w.2
def beat{c:72}(H:Hs n c l W h){left en:72}{τ:Int}(R:Wr n l h W left en τ)(z:∀k,k<n->left k=0){d:72}{rk:Nat->Nat}(U:Tu n l d W rk dd n)(T:St n h l dd W lf P t){j:Nat}(hj:j<n)(lj:lf j=0){e:Int}(he:∃p∈P,p.1=j/\e=p.2.2):∃m,m<n/\e-d j<=en m-d m:=by
 obtain⟨t0,e',a1,a2,a3⟩:=T.fin j hj lj;obtain⟨p,hp,pj,rfl⟩:=he;have pe:=a1 p hp pj;have ne:sel n h dd (dd j) t0≠[]:=λq=>by rw[q]at a3;simp[S]at a3;omega
 obtain⟨u,hu,b1,_⟩:=R.I.low H z ne (Rl _ _ _ _ _) (λk hk=>(sel_mem.mp hk).1) (λk hk=>(sel_mem.mp hk).2.2);have su:=sel_mem.mp hu;obtain⟨m,hm,b2⟩:=U.wt en (λw hw=>R.wd w hw (by have:=H.pos w.2 (H.ins w hw).2;have:=z w.2 (H.ins w hw).2;omega)) u su.1;have:=U.le j hj;exact⟨m,hm,by omega⟩
end
end Du
namespace Du
open Bk
open Sx (S)
inductive Dc(n:Nat)(h dd l:72):(Nat->Int)->List Pc->Nat->Prop
 |nil:Dc n h dd l l [] 0
 |idle {lf:72} {P:List Pc} {t:Nat} (C:Dc n h dd l lf P t) (no:∀j,j<n->0<lf j->(t:Int)<h j):Dc n h dd l lf P (t+1)
 |work {lf:72} {P:List Pc} {t k:Nat} (C:Dc n h dd l lf P t) (kn:k<n) (k0:0<lf k) (kc:h k<=t) (km:∀j,j<n->0<lf j->h j<=t->dd k<dd j∨dd k=dd j/\k<=j):Dc n h dd l (upd lf k (lf k-1)) (addP P k t (t+1)) (t+1)
section
variable{n:Nat}{h dd l lf lf':72}{t τ τ':Nat}
def TR(P:List Pc)(k:Nat)(b e f:Int):addP (addP P k b e) k e f=addP P k b f:=by
 rcases nil_or P with rfl|⟨P',p,rfl⟩
 .show addP ([]++[(k,b,e)]) k e f=_;rw[addP_snoc,gb ⟨rfl,rfl⟩];rfl
 .rw[addP_snoc,addP_snoc];by_cases c:p.1=k/\p.2.2=b
  .rw[gb c,gb c,addP_snoc,gb ⟨rfl,rfl⟩]
  .rw[gh c,gh c,addP_snoc,gb ⟨rfl,rfl⟩]
def Dc.idles(C:Dc n h dd l lf P τ){u:Int}(no:(τ:Int)<u->∀j,j<n->0<lf j->u<=h j) (m:Nat):((τ+m:Nat):Int)<=u->Dc n h dd l lf P (τ+m):=by
 induction m with
 |zero=>exact λ_=>C
 |succ m ih=>exact λhm=>.idle (t:=τ+m) (ih 66) λj hj q=>by have:=no 66 j hj q;omega
theorem Dc.works(C:Dc n h dd l lf P τ){t0 s:Int}{k:Nat}(X:Tn n h dd lf t0 τ k s):∀m:Nat,((τ+(m+1):Nat):Int)<=s->Dc n h dd l (upd lf k (lf k-((m+1:Nat):Int))) (addP P k τ ((τ+(m+1):Nat):Int)) (τ+(m+1))
 |0,_=>by
  have:=C.work X.kn X.k0 X.kc X.km;exact this
 |m+1,hm=>by
  have ih:=Dc.works C X m 66;have s1:=X.s1;have kc:=X.kc;have st:=ih.work (k:=k) X.kn (by rw[upd_self];omega) 66 λj hj q hc=>by
   by_cases e:j=k
   .subst e;exact .inr ⟨rfl,gk _⟩
   .rw[upd_ne e]at q;refine X.km j hj q ?_;refine Classical.byContradiction λz=>?_;have:=X.s2 j hj q 66;omega
  have e1:upd (upd lf k (lf k-((m+1:Nat):Int))) k (upd lf k (lf k-((m+1:Nat):Int)) k-1)=upd lf k (lf k-((m+1+1:Nat):Int)):=by
   funext j
   by_cases e:j=k
   .subst e;simp only[upd_self];omega
   .simp only[upd_ne e]
  rw[e1,TR]at st;exact st
def Dc.turn{u u' s:Int}{k:Nat}(u0:0<=u)(C:Dc n h dd l lf P u.toNat)(X:Tn n h dd lf u u' k s):Dc n h dd l (upd lf k (lf k-(s-u'))) (addP P k u' s) s.toNat:=by
 have tt:=X.tt;have s0:=X.s0;obtain⟨m,hm⟩:∃m:Nat,u'=((u.toNat+m:Nat):Int):=⟨(u'-u).toNat,by omega⟩
 have C1:=C.idles (u:=u') (λq j hj q2=>X.idle 66 j hj q2) m 66;rw[hm]at X;obtain⟨i,hi⟩:∃i:Nat,s=((u.toNat+m+(i+1):Nat):Int):=⟨(s-u').toNat-1,by omega⟩
 have C2:=C1.works X i 66;rw[hm,hi];rw[show((u.toNat+m+(i+1):Nat):Int)-((u.toNat+m:Nat):Int)=((i+1:Nat):Int) by omega,ia];exact C2
def Dc.stay(C:Dc n h dd l lf P τ)(z:∀j,j<n->lf j=0)(m:Nat):Dc n h dd l lf P (τ+m):=by
 induction m with
 |zero=>exact C
 |succ m ih=>exact .idle ih λj hj q=>by have:=z j hj;omega
def Dc.det(C:Dc n h dd l lf P τ):∀{lf':72} {P':List Pc},Dc n h dd l lf' P' τ->lf=lf'/\P=P':=by
 induction C with
 |nil=>intro lf' P' C';cases C';exact⟨rfl,rfl⟩
 |idle C no ih=>
  intro lf' P' C';cases C' with
  |idle C' _=>exact ih C'
  |work C' kn k0 kc km=>
   obtain⟨rfl,rfl⟩:=ih C';have:=no _ kn k0;omega
 |@work lf P t k C kn k0 kc km ih=>
  intro lf' P' C';cases C' with
  |idle C' no=>
   obtain⟨rfl,rfl⟩:=ih C';have:=no _ kn k0;omega
  |work C' kn' k0' kc' km'=>
   obtain⟨rfl,rfl⟩:=ih C';have a:=km _ kn' k0' kc';have b:=km' _ kn k0 kc
   rename_i k'
   have:k=k':=by omega
   subst this;exact⟨rfl,rfl⟩
def Dc.fin(C:Dc n h dd l lf P τ)(z:∀j,j<n->lf j=0)(C':Dc n h dd l lf' P' τ')(z':∀j,j<n->lf' j=0):P=P':=by
 have a:=C.stay z τ';have b:=C'.stay z' τ;rw[Nat.add_comm]at b;exact(a.det b).2
def Dc.congr{h' dd':72}(e1:∀k,k<n->h k=h' k)(e2:∀k,k<n->dd k=dd' k)(C:Dc n h dd l lf P τ):Dc n h' dd' l lf P τ:=by
 induction C with
 |nil=>exact .nil
 |idle C no ih=>exact .idle ih λj hj q=>by rw[<- e1 j hj];exact no j hj q
 |work C kn k0 kc km ih=>
  refine .work ih kn k0 (by rw[<- e1 _ kn];exact kc) λj hj q hc=>?_;rw[<- e2 _ kn,<- e2 _ hj];exact km j hj q (by rw[e1 j hj];exact hc)
structure Dcb(n:Nat)(l:72)(M:Int)(lf:72)(P:List Pc)(τ:Nat):Prop where
 lo:∀j,j<n->0<=lf j/\lf j<=l j
 tm:(∀j,j<n->lf j=0)∨(τ:Int)<=M+dn l lf (68 n)
 ln:(P.length:Int)<=dn l lf (68 n)
 pc:∀p∈P,p.1<n/\(0<=p.2.1/\p.2.1<=τ)/\0<=p.2.2/\p.2.2<=τ
def Dc.bnd{M:Int}(M0:0<=M)(hM:∀k,k<n->h k<=M)(hl:∀k,k<n->0<=l k)(C:Dc n h dd l lf P τ):Dcb n l M lf P τ:=by
 induction C with
 |nil=>exact⟨λj hj=>⟨hl j hj,110 _⟩,.inr (by rw[G9 λ_ _=>rfl];omega),by rw[G9 λ_ _=>rfl];simp,by simp⟩
 |@idle lf P t C no ih=>
  refine⟨ih.lo,?_,ih.ln,λp hp=>by have:=ih.pc p hp;omega⟩;by_cases c:∃j,j<n/\0<lf j
  .obtain⟨j,hj,q⟩:=c;have a:=no j hj q;have b:=hM j hj;have:=MP (l:=l) (lf:=lf) (ks:=68 n) λk hk=>(ih.lo k (by simpa using hk)).2;exact .inr 66
  .exact .inl λj hj=>by
    have:=(ih.lo j hj).1;refine Classical.byContradiction λq=>c ⟨j,hj,by omega⟩
 |@work lf P t k C kn k0 kc km ih=>
  have e:dn l (upd lf k (lf k-1)) (68 n)=dn l lf (68 n)+1:=by
   rw[K8 iR,gb (by simpa using kn)];omega
  obtain⟨I,b0,eA,cA⟩:=KL P k t (t+1);have sub:∀p∈I,p∈P:=λp hp=>by
   rcases cA with⟨rfl,_⟩|e
   .exact hp
   .rw[e];simp[hp]
  have bb:0<=b0/\b0<=t:=by
   rcases cA with⟨_,rfl⟩|e
   .exact⟨by omega,110 _⟩
   .have:=ih.pc (k,b0,t) (by rw[e];simp);exact this.2.1
  have il:I.length<=P.length:=by
   rcases cA with⟨rfl,_⟩|e
   .exact gk _
   .rw[e];simp
  refine⟨λj hj=>?_,?_,?_,?_⟩
  .have:=ih.lo j hj;unfold upd;split
   .next e=>subst e;omega
   .exact this
  .rw[e];rcases ih.tm with z|z
   .have:=z k kn;omega
   .exact .inr 66
  .rw[e,eA];have:=ih.ln;simp;omega
  .rw[eA];intro p hp;rcases mem_append.mp hp with q|q
   .have:=ih.pc p (sub p q);omega
   .rw[hE]at q;subst q;refine⟨kn,?_,?_⟩<;>dsimp only<;>omega
def tu_eq{d v w:72}{rk:Nat->Nat}(hr:∀p∈W,(p.1<n/\p.2<n)/\rk p.1<rk p.2)(rn:∀k,k<n->rk k<n)(U:Tu n l d W rk v n)(le:∀k,k<n->w k<=d k)(up:∀p∈W,w p.1<=w p.2-l p.2)(eq:∀k,k<n->w k=d k∨∃p∈W,p.1=k/\w k=w p.2-l p.2):∀k,k<n->v k=w k:=by
 have a:∀k,k<n->w k<=v k:=λk hk=>by
  obtain⟨m,hm,q⟩:=U.wt w (λp hp=>by have:=up p hp;omega) k hk;have:=le m hm;omega
 have b:∀i k,k<n->n-rk k<=i->v k<=w k:=by
  intro i
  induction i with
  |zero=>intro k hk q;have:=rn k hk;omega
  |succ i ih=>
   intro k hk q;rcases eq k hk with e|⟨p,hp,rfl,e⟩
   .rw[e];exact U.le k hk
   .have h1:=U.done p hp;have h2:=hr p hp;have:=ih p.2 h2.1.2 66;omega
 exact λk hk=>j8 (b _ k hk (gk _)) (a k hk)
end
end Du
namespace L2
open PySem PySem.W PyProof.Rows
def feE{K:Frag}{e:Df}(h:Ea.Fe K n s)(hn:e.x=n:=by rfl)(hs:e.st=s:=by rfl):Fe K e:=by subst hn;subst hs;exact h
def flE{K:Frag}{e:Df}(h:Ea.Fl K n s p)(hn:e.x=n:=by rfl)(hs:e.st=s:=by rfl):Fla K e p:=by subst hn;subst hs;exact h
def zsE{K:Frag}(h:Ea.Zs K):Zs K:=h
end L2
namespace T26
open PySem L2
noncomputable abbrev N4:Stmt:=top 1
def Rp:FnScope ["works","wishes","some","t","told","within","turn","a","b"] ["works","wishes","some","t"] (AC N4):=B6 119
@[reducible] noncomputable def VJ:MS:=(A5 (AE 4 (Jv (HQ 1 [0,3] (B5 121) (AA 0) BS [] (Hz 74 (mCB Dr (A1 (mOp gIx (mOp gIx (A0 1) 74) 118) (A1 121 A4)))))))
 (A5 (AE 5 (AV (AW 2 [4] (B5 (A0 1)) (BO 2 (AT (AA 0) (AT (AA 1) BR))) (Bj (A8 (mOp (Cw false) 74 121)) (A8 (mOp (Cw false) (A0 1) 121))) (Ae (A1 74 (A1 (A0 1) A4))))))
 (A5 (BC (B5 121) (AA 6)
  (BC (BJ (A0 5)) (BO 2 (AT (AA 7) (AT (AA 8) BR)))
  (Ej (A0 4) (A0 8) (mCB Dr (A1 (mOp CL (A0 4) (A0 8)) (A1 (mOp Ag (mOp CL (A0 4) (A0 7)) (mOp gIx (mOp gIx 74 (A0 7)) 109)) A4))))))
 (AQ (B7 BD (AW 1 [4] (B5 121) (AA 0) BS (mOp CL (A0 1) 74)))))))
noncomputable def Gn:FD:=mkF 4 9 VJ
noncomputable abbrev JH:Df:=⟨"raised",N4,["works","wishes","some","t"],1,Gn⟩
noncomputable abbrev OZ:Stmt:=top 2
def U9:FnScope ["works","wishes"] ["works","wishes"] (AC OZ):=B6 119
@[reducible] noncomputable def Ye:MS:=(AQ (AD 0 Gn (A1 74 (A1 (A0 1) (A1 (Js (A1 (mCB (f1 true BE) (A1 74 A4)) A4)) (A1 109 A4))))))
noncomputable def Et:FD:=mkF 2 2 Ye
noncomputable abbrev G8:Df:=⟨"heads",OZ,["works","wishes"],2,Et⟩
noncomputable abbrev Fu:Stmt:=top 4
def Jc:FnScope ["works","wishes","some","begins","told","work","begin","end","members"] ["works","wishes","some"] (AC Fu):=B6 119
@[reducible] noncomputable def Kj:MS:=(A5 (AE 3 (AD 0 Et (A1 74 (A1 (A0 1) A4))))
 (A5 (AE 4 (AV (Ac A4)))
 (A5 (BC (Km (Sd 121 [3] (Ae (A1 (mOp gIx (A0 1) 74) (A1 74 A4))))) (AA 5)
  (Aa (mOr (A8 (Br false (A0 4) (Ac A4))) (A8 (mOp gGe (mOp gIx (A0 3) (A0 5)) (mOp gIx (mOp gIx (A0 4) (C6 118)) 118))))
  (B0 (mMt Ad (A0 4) (A1 (Ae (A1 (mOp gIx (A0 3) (A0 5)) (A1 (mOp Ag (mOp gIx (A0 3) (A0 5)) (mOp gIx (mOp gIx 74 (A0 5)) 109)) (A1 (Ae (A1 (A0 5) A4)) A4)))) A4)))
  (A5 (GU (mOp gIx (A0 4) (C6 118)) (BO 3 (AT (AA 6) (AT (AA 7) (AT (AA 8) BR)))))
 (C8 (A0 4) (C6 118) (Ae (A1 (A0 6) (A1 (mOp Ag (A0 7) (mOp gIx (mOp gIx 74 (A0 5)) 109)) (A1 (B7 BD (Bu (B5 (mOp Ag (A0 8) (Ae (A1 (A0 5) A4)))))) A4))))))))
 (AQ (A0 4)))))
noncomputable def D9:FD:=mkF 3 9 Kj
noncomputable abbrev D7:Df:=⟨"stretches_of",Fu,["works","wishes","some"],4,D9⟩
noncomputable abbrev Je:Stmt:=top 9
def OD:FnScope ["rows","t","told","begin","amount"] ["rows","t"] (AC Je):=B6 119
@[reducible] noncomputable def Tp:MS:=(A5 (AE 2 109)
 (A5 (BC (B5 74) (BO 2 (AT (AA 3) (AT (AA 4) BR)))
  (A5 (Aa (A8 (mOp gGt (A0 3) (A0 1)))
  (AQ 121)
  AU)
 (AE 2 (A0 4))))
 (AQ 121)))
noncomputable def HR:FD:=mkF 2 5 Tp
noncomputable abbrev Ge:Df:=⟨"steps_at",Je,["rows","t"],1,HR⟩
noncomputable abbrev LN:Stmt:=top 10
def Ps:FnScope ["cost","t","word","above"] ["cost","t"] (AC LN):=B6 119
@[reducible] def gU:MS:=(A5 (AE 2 (mOp gIx 74 109))
 (A5 (Aa (A8 (mOp gEq 121 (mC (.str "steps"))))
  (AQ (AD 0 HR (A1 (mOp gIx 74 118) (A1 (A0 1) A4))))
  AU)
 (A5 (Aa (A8 (mOp gEq 121 (mC (.str "ends"))))
  (AQ (mOp Bl (mOp gIx 74 118) (A0 1)))
  AU)
 (A5 (AE 3 (mOp Bs (A0 1) (mOp gIx 74 118)))
 (A5 (Aa (A8 (mOp gEq 121 (mC (.str "late"))))
  (AQ (A0 3))
  AU)
 (A5 (Aa (A8 (mOp gLe (A0 3) 109))
  (AQ 109)
  AU)
 (A5 (Aa (A8 (mOp gEq 121 (mC (.str "tardy"))))
  (AQ (mOp Bl (mOp gIx 74 (mC (.int 2))) (A0 3)))
  AU)
 (AQ (mOp gIx 74 (mC (.int 2)))))))))))
noncomputable def F_cost_at:FD:=mkF 2 4 gU
noncomputable abbrev FU:Df:=⟨"cost_at",LN,["cost","t"],2,F_cost_at⟩
noncomputable abbrev IQ:Stmt:=top 11
def My:FnScope ["cost","days"] ["cost","days"] (AC IQ):=B6 119
@[reducible] noncomputable def OK:MS:=(A5 (Aa (mOr (A8 (mOp gEq (mOp gIx 74 109) (mC (.str "ends")))) (A8 (mOp gEq (mOp gIx 74 109) (mC (.str "steps")))))
 FA
 AU)
 (AQ (mOp Ag (Ae (A1 (mOp gIx 74 109) (A1 (mOp Ag (mOp gIx 74 118) (A0 1)) A4))) (Kk 74 (GR (mC (.int 2))) E5))))
noncomputable def EK:FD:=mkF 2 2 OK
noncomputable abbrev Ff:Df:=⟨"later_due",IQ,["cost","days"],1,EK⟩
noncomputable abbrev HD:Stmt:=top 12
def Lz:FnScope ["cost","days"] ["cost","days"] (AC HD):=B6 119
@[reducible] noncomputable def NP:MS:=(A5 (Aa (A8 (mOp gEq (mOp gIx 74 109) (mC (.str "ends"))))
 FA
 AU)
 (A5 (Aa (A8 (mOp gEq (mOp gIx 74 109) (mC (.str "steps"))))
  (AQ (Ae (A1 (mC (.str "steps")) (A1 (B7 BD (AW 2 [1] (B5 (mOp gIx 74 118)) (BO 2 (AT (AA 0) (AT (AA 1) BR))) BS (Ae (A1 (mOp Ag 74 121) (A1 (A0 1) A4))))) A4))))
  AU)
 (AQ (AD 0 EK (A1 74 (A1 (A0 1) A4))))))
noncomputable def Dy:FD:=mkF 2 2 NP
noncomputable abbrev FF:Df:=⟨"moved_cost",HD,["cost","days"],2,Dy⟩
noncomputable abbrev LM:Stmt:=top 14
def Pr:FnScope ["pairs","a","found","fresh","at","one","other"] ["pairs","a"] (AC LM):=B6 119
@[reducible] noncomputable def Le:MS:=(A5 (AE 2 (AV (Ac A4)))
 (A5 (AE 3 (AV (Ac (A1 (A0 1) A4))))
 (A5 (Cs (DT (A0 3))
  (A5 (AE 4 (mMt Hc (A0 3) A4))
 (BC (Ct 74) (BO 2 (AT (AA 5) (AT (AA 6) BR)))
  (Aa (Bj (A8 (mOp gEq (A0 5) (A0 4))) (A8 (mOp (gIn true) (A0 6) 121)))
  (A5 (B0 (mMt Ad 121 (A1 (A0 6) A4)))
 (B0 (mMt Ad (A0 3) (A1 (A0 6) A4))))
  AU))))
 (AQ (B7 BD (Bu (BJ 121)))))))
noncomputable def F_reached:FD:=mkF 2 7 Le
noncomputable abbrev Hf:Df:=⟨"reached",LM,["pairs","a"],1,F_reached⟩
noncomputable abbrev N7:Stmt:=top 15
def Ru:FnScope ["many","wishes","a"] ["many","wishes","a"] (AC N7):=B6 119
@[reducible] noncomputable def ab:MS:=(AQ (AD 0 F_reached (A1 (A0 1) (A1 121 A4))))
noncomputable def F_behind:FD:=mkF 3 3 ab
noncomputable abbrev JK:Df:=⟨"behind",N7,["many","wishes","a"],2,F_behind⟩
noncomputable abbrev IR:Stmt:=top 16
def Mz:FnScope ["many","wishes","some","told","u","later"] ["many","wishes","some"] (AC IR):=B6 119
@[reducible] noncomputable def OL:MS:=(A5 (AE 3 (AV (Ac A4)))
 (A5 (BC (B5 121) (AA 4)
  (A5 (AE 5 (AD 0 F_behind (A1 74 (A1 (A0 1) (A1 (A0 4) A4)))))
 (Aa (HN (DT (B7 JD (AW 1 [5] (B5 121) (AA 0) BS (mOp (gIn false) 74 (A0 1))))))
  (B0 (mMt Ad (A0 3) (A1 (A0 4) A4)))
  AU)))
 (AQ (mCB (f1 true BD) (A1 (A0 3) A4)))))
noncomputable def DK:FD:=mkF 3 6 OL
noncomputable abbrev EG:Df:=⟨"last_ones",IR,["many","wishes","some"],3,DK⟩
noncomputable abbrev IP:Stmt:=top 18
def Mx:FnScope ["works","some"] ["works","some"] (AC IP):=B6 119
@[reducible] noncomputable def OJ:MS:=(AQ (B7 HY (AW 1 [0] (B5 (A0 1)) (AA 0) BS (mOp gIx (mOp gIx (A0 1) 74) 109))))
noncomputable def EJ:FD:=mkF 2 2 OJ
noncomputable abbrev Fd:Df:=⟨"length_of",IP,["works","some"],1,EJ⟩
noncomputable abbrev Dh:Stmt:=top 19
def Ft:FnScope ["works","word"] ["works","word"] (AC Dh):=B6 119
@[reducible] noncomputable def GQ:MS:=(Aa (DT (B7 JD (AW 1 [1] (B5 74) (AA 0) BS (mOp gNe (mOp gIx (mOp gIx 74 (mC (.int 2))) 109) (A0 1)))))
 FA
 AU)
noncomputable def Bm:FD:=mkF 2 2 GQ
noncomputable abbrev CM:Df:=⟨"refuse_other_costs",Dh,["works","word"],1,Bm⟩
noncomputable abbrev Jh:Stmt:=top 21
def OG:FnScope ["works","wishes","some","begins","end"] ["works","wishes","some"] (AC Jh):=B6 119
@[reducible] noncomputable def QZ:MS:=(A5 (AE 3 (AD 0 Et (A1 74 (A1 (A0 1) A4))))
 (A5 (AE 4 (mOp Ag (B7 Dm (AW 1 [3] (B5 121) (AA 0) BS (mOp gIx (A0 1) 74))) (AD 0 EJ (A1 74 (A1 121 A4)))))
 (AQ (B7 Dm (AW 1 [0,4] (B5 (AD 0 DK (A1 (mCB (f1 true BE) (A1 74 A4)) (A1 (A0 1) (A1 121 A4))))) (AA 0) BS (AD 0 F_cost_at (A1 (mOp gIx (mOp gIx (A0 1) 74) (mC (.int 2))) (A1 121 A4))))))))
noncomputable def DB:FD:=mkF 3 5 QZ
noncomputable abbrev Gg:Df:=⟨"bound_of",Jh,["works","wishes","some"],4,DB⟩
noncomputable abbrev FQ:Stmt:=top 23
def Im:FnScope ["works","wishes","some","end"] ["works","wishes","some","end"] (AC FQ):=B6 119
@[reducible] noncomputable def Jr:MS:=(AQ (Kp (λn m=>decide (n<m)) (AD 0 DK (A1 (mCB (f1 true BE) (A1 74 A4)) (A1 (A0 1) (A1 121 A4)))) [3,0] (AD 0 F_cost_at (A1 (mOp gIx (mOp gIx 121 74) (mC (.int 2))) (A1 (A0 1) A4)))))
noncomputable def Ch:FD:=mkF 4 4 Jr
noncomputable abbrev Cf:Df:=⟨"cheapest_last",FQ,["works","wishes","some","end"],6,Ch⟩
noncomputable abbrev LL:Stmt:=top 24
def Pq:FnScope ["some","u"] ["some","u"] (AC LL):=B6 119
@[reducible] noncomputable def Sc:MS:=(AQ (B7 BD (AW 1 [1] (B5 74) (AA 0) (A8 (mOp gNe 74 (A0 1))) 74)))
noncomputable def FW:FD:=mkF 2 2 Sc
noncomputable abbrev He:Df:=⟨"without",LL,["some","u"],1,FW⟩
noncomputable abbrev Gu:Stmt:=top 25
def Ka:FnScope ["u","begin","end","pieces","told","at","piece"] ["u","begin","end","pieces"] (AC Gu):=B6 119
@[reducible] noncomputable def M4:MS:=(A5 (AE 4 (AV (Ac A4)))
 (A5 (AE 5 (A0 1))
 (A5 (BC (BJ (A0 3)) (AA 6)
  (A5 (Aa (A8 (mOp gLt (A0 5) (mOp gIx (A0 6) 118)))
  (B0 (mMt Ad (A0 4) (A1 (Ae (A1 74 (A1 (A0 5) (A1 (mOp gIx (A0 6) 118) A4)))) A4)))
  AU)
 (A5 (B0 (mMt Ad (A0 4) (A1 (A0 6) A4)))
 (AE 5 (mOp gIx (A0 6) (mC (.int 2)))))))
 (A5 (B0 (mMt Ad (A0 4) (A1 (Ae (A1 74 (A1 (A0 5) (A1 121 A4)))) A4)))
 (AQ (A0 4))))))
noncomputable def DQ:FD:=mkF 4 7 M4
noncomputable abbrev EZ:Df:=⟨"gaps_filled",Gu,["u","begin","end","pieces"],1,DQ⟩
noncomputable abbrev F5:Stmt:=top 26
def M1:FnScope ["works","wishes","some","pieces","sets","begin","end","members","u","inner_pieces","inner_sets"] ["works","wishes","some"] (AC F5):=B6 119
@[reducible] noncomputable def HL(E1:FD):MS:=(A5 (AE 3 (AV (Ac A4)))
 (A5 (AE 4 (AV (Ac A4)))
 (A5 (BC (BJ (AD 0 D9 (A1 74 (A1 (A0 1) (A1 121 A4))))) (BO 3 (AT (AA 5) (AT (AA 6) (AT (AA 7) BR))))
  (A5 (AE 8 (AD 0 Ch (A1 74 (A1 (A0 1) (A1 (A0 7) (A1 (A0 6) A4))))))
 (A5 (GU (Dk E1 (A1 74 (A1 (A0 1) (A1 (AD 0 FW (A1 (A0 7) (A1 (A0 8) A4))) A4)))) (BO 2 (AT (AA 9) (AT (AA 10) BR))))
 (A5 (FS 3 (Bp DQ (A1 (A0 8) (A1 (A0 5) (A1 (A0 6) (A1 (A0 9) A4))))))
 (FS 4 (AV (EX (AV (Ac (A1 (A0 7) A4))) (A0 10))))))))
 (AQ (Ae (A1 (A0 3) (A1 (A0 4) A4)))))))
noncomputable def Cz:Nat->FD
 |0=>λ_ _=>none
 |n+1=>mkF 3 11 (HL (Cz n))
noncomputable abbrev E1:FD:=Cz 10
noncomputable abbrev FG:Df:=⟨"broken_off",F5,["works","wishes","some"],16,E1⟩
noncomputable abbrev F4:Stmt:=top 27
def IN:FnScope ["works","wishes","sets"] ["works","wishes","sets"] (AC F4):=B6 119
@[reducible] noncomputable def JA:MS:=(AQ (NR (λn m=>decide (n>m)) 121 [0,1] (AD 0 DB (A1 (A0 1) (A1 121 (A1 74 A4))))))
noncomputable def CQ:FD:=mkF 3 3 JA
noncomputable abbrev CN:Df:=⟨"greatest_bound",F4,["works","wishes","sets"],7,CQ⟩
noncomputable abbrev FP:Stmt:=top 28
def Il:FnScope ["works","wishes","pieces","sets"] ["works","wishes"] (AC FP):=B6 119
@[reducible] noncomputable def Jq:MS:=(A5 (GU (Dk E1 (A1 74 (A1 (A0 1) (A1 (Js (A1 (mCB (f1 true BE) (A1 74 A4)) A4)) A4)))) (BO 2 (AT (AA 2) (AT (AA 3) BR))))
 (AQ (Ae (A1 (mCB (f1 true BD) (A1 121 A4)) (A1 (Bp CQ (A1 74 (A1 (A0 1) (A1 (A0 3) A4)))) A4)))))
noncomputable def C3:FD:=mkF 2 4 Jq
noncomputable abbrev Dt:Df:=⟨"greatest_plan",FP,["works","wishes"],17,C3⟩
noncomputable abbrev Gq:Stmt:=top 29
def KY:FnScope ["works","wishes","dues","turn","a","b"] ["works","wishes"] (AC Gq):=B6 119
@[reducible] noncomputable def M2:MS:=(A5 (AE 2 (AV (AW 1 [] (B5 74) (AA 0) BS (mOp gIx (mOp gIx 74 (mC (.int 2))) 118))))
 (A5 (BC (B5 74) (AA 3)
  (BC (B5 (A0 1)) (BO 2 (AT (AA 4) (AT (AA 5) BR)))
  (C8 121 (A0 4) (mCB Gc (A1 (mOp gIx 121 (A0 4)) (A1 (mOp Bs (mOp gIx 121 (A0 5)) (mOp gIx (mOp gIx 74 (A0 5)) 109)) A4))))))
 (AQ 121)))
noncomputable def DO:FD:=mkF 2 6 M2
noncomputable abbrev EY:Df:=⟨"turned_dues",Gq,["works","wishes"],1,DO⟩
noncomputable abbrev IT:Stmt:=top 30
def N1:FnScope ["pieces","work","begin","end"] ["pieces","work","begin","end"] (AC IT):=B6 119
@[reducible] noncomputable def ON:MS:=(Aa (Bj (DT 74) (Bj (A8 (mOp gEq (mOp gIx (mOp gIx 74 (C6 118)) 109) (A0 1))) (A8 (mOp gEq (mOp gIx (mOp gIx 74 (C6 118)) (mC (.int 2))) 121))))
 (C8 74 (C6 118) (Ae (A1 (A0 1) (A1 (mOp gIx (mOp gIx 74 (C6 118)) 118) (A1 (A0 3) A4)))))
 (B0 (mMt Ad 74 (A1 (Ae (A1 (A0 1) (A1 121 (A1 (A0 3) A4)))) A4))))
noncomputable def DL:FD:=mkF 4 4 ON
noncomputable abbrev Fh:Df:=⟨"add_piece",IT,["pieces","work","begin","end"],1,DL⟩
noncomputable abbrev Gs:Stmt:=top 31
def KZ:FnScope ["works","begins","rank","left","pieces","t","undone","work","stop"] ["works","begins","rank"] (AC Gs):=B6 119
@[reducible] noncomputable def M3:MS:=(A5 (AE 3 (AV (AW 1 [] (B5 74) (AA 0) BS (mOp gIx 74 109))))
 (A5 (AE 4 (AV (Ac A4)))
 (A5 (AE 5 109)
 (A5 (Cs (DT (mCB (f1 false Jz) (A1 (A0 3) A4)))
  (A5 (AE 6 (AV (AW 1 [3] (Bo (A1 (mCB (f1 true BE) (A1 74 A4)) A4)) (AA 0) (A8 (mOp gGt (mOp gIx (A0 1) 74) 109)) 74)))
 (A5 (AE 5 (mCB Dr (A1 (A0 5) (A1 (B7 Dm (AW 1 [1] (BJ (A0 6)) (AA 0) BS (mOp gIx (A0 1) 74))) A4))))
 (A5 (AE 7 (Jx (AV (AW 1 [1,5] (BJ (A0 6)) (AA 0) (A8 (mOp gLe (mOp gIx (A0 1) 74) 121)) 74)) [2,3] (Ae (A1 (Dj (A0 1) (A1 74 (A1 (mOp gIx 121 74) A4))) (A1 74 A4)))))
 (A5 (AE 8 (B7 Dm (EX (AV (Ac (A1 (mOp Ag (A0 5) (mOp gIx (A0 3) (A0 7))) A4))) (AV (AW 1 [1,5] (BJ (A0 6)) (AA 0) (A8 (mOp gGt (mOp gIx (A0 1) 74) 121)) (mOp gIx (A0 1) 74))))))
 (A5 (B0 (Bp DL (A1 (A0 4) (A1 (A0 7) (A1 (A0 5) (A1 (A0 8) A4))))))
 (A5 (GS (A0 3) (A0 7) (mOp Bs (A0 8) (A0 5)) (λi j=>i-j))
 (AE 5 (A0 8)))))))))
 (AQ (mCB (f1 true BD) (A1 (A0 4) A4)))))))
noncomputable def DP:FD:=mkF 3 9 M3
noncomputable abbrev DN:Df:=⟨"ranked_plan",Gs,["works","begins","rank"],4,DP⟩
noncomputable abbrev Jg:Stmt:=top 32
def OF:FnScope ["works","wishes","dues"] ["works","wishes"] (AC Jg):=B6 119
@[reducible] noncomputable def QY:MS:=(A5 (B0 (AD 0 Bm (A1 74 (A1 (mC (.str "late")) A4))))
 (A5 (AE 2 (AD 0 DO (A1 74 (A1 (A0 1) A4))))
 (AQ (G3 DP 2 74 (AD 0 Et (A1 74 (A1 (A0 1) A4)))))))
noncomputable def Dz:FD:=mkF 2 3 QY
noncomputable abbrev En:Df:=⟨"due_plan",Jg,["works","wishes"],5,Dz⟩
noncomputable abbrev Rx:Stmt:=top 34
def Wz:FnScope ["_law_script"] ["_law_script"] (AC Rx):=B6 119
@[reducible] def bq:MS:=(AQ (AV (Ac (A1 (AV (HP (Kl 74 E5 (GR (mC (.int 63)))))) (A1 109 (A1 109 A4))))))
noncomputable def KN:FD:=mkF 1 1 bq
noncomputable abbrev Nl:Df:=⟨"_law_feed",Rx,["_law_script"],1,KN⟩
noncomputable abbrev Rv:Stmt:=top 35
def Wx:FnScope ["_law_feed_here","_law_many","_law_digit","_law_at","_law_cell","_law_first"] ["_law_feed_here","_law_many"] (AC Rv):=B6 119
@[reducible] def bp:MS:=(A5 (Aa (A8 (mOp gGt (mOp gIx 74 (mC (.int 2))) 109))
 (A5 (AE 2 (mOp Cd (mOp gIx 74 (mC (.int 2))) (A0 1)))
 (A5 (C8 74 (mC (.int 2)) (mOp Ga (mOp gIx 74 (mC (.int 2))) (A0 1)))
 (AQ 121)))
  AU)
 (A5 (AE 3 (mOp gIx 74 118))
 (A5 (C8 74 118 (mOp Ag (A0 3) 118))
 (A5 (AE 4 (mIf (A8 (Br true (mOp gIx 74 109) (Ac A4))) (mOp gIx (mOp gIx 74 109) (mOp Cd (A0 3) (mCB (f1 true BE) (A1 (mOp gIx 74 109) A4)))) 109))
 (A5 (Aa (Bj (A8 (mOp gGe (A0 4) (mOp Qk (mC (.int 10)) (mC (.int 18))))) (A8 (mOp gLt (A0 3) (mCB (f1 true BE) (A1 (mOp gIx 74 109) A4)))))
  (A5 (C8 74 (mC (.int 2)) (mOp Ga (A0 4) (A0 1)))
 (AQ (mOp Cd (A0 4) (A0 1))))
  AU)
 (A5 (AE 5 (mOp Cd (mOp Bl (mOp Ag (mOp Ag (mOp Ag (mOp Cd (A0 4) (mC (.int 1000003))) (mOp Bl (mOp Bl (mC (.int 37)) (A0 3)) (A0 3))) (mOp Bl (mC (.int 13)) (A0 3))) (mC (.int 5))) (mC (.int 48271))) (mC (.int 999983))))
 (AQ (mOp Cd (mOp Ga (mOp Cd (mOp Bl (mOp Cd (mOp Ag (mOp Ag (mOp Bl (A0 5) (A0 5)) (mOp Bl (mC (.int 7919)) (A0 3))) (mC (.int 11))) (mC (.int 2097143))) (mC (.int 69621))) (mC (.int 2147483629))) (mC (.int 7))) (A0 1)))))))))
noncomputable def Ao:FD:=mkF 2 6 bp
noncomputable abbrev FE:Df:=⟨"_law_next",Rv,["_law_feed_here","_law_many"],1,Ao⟩
noncomputable abbrev Rz:Stmt:=top 36
def X1:FnScope ["_law_feed_here","_law_words","_law_word","_law_dues","_law_due_here","_law_weight","_law_rows","_law_start","_law_height","_law_k"] ["_law_feed_here","_law_words"] (AC Rz):=B6 119
@[reducible] def bu:MS:=(A5 (AE 2 (mOp gIx (A0 1) (AD 2 Ao (A1 74 (A1 (mCB (f1 true BE) (A1 (A0 1) A4)) A4)))))
 (A5 (AE 3 (AV (Ac (A1 (AD 2 Ao (A1 74 (A1 (mC (.int 40)) A4))) (A1 (AD 2 Ao (A1 74 (A1 (mC (.int 160)) A4))) (A1 (mOp Bs (AD 2 Ao (A1 74 (A1 (mC (.int 500)) A4))) (mC (.int 99))) A4))))))
 (A5 (AE 4 (mOp gIx (A0 3) (AD 2 Ao (A1 74 (A1 (mC (.int 3)) A4)))))
 (A5 (AE 5 (AD 2 Ao (A1 74 (A1 (mC (.int 10)) A4))))
 (A5 (Aa (A8 (mOp gEq 121 (mC (.str "late"))))
  (AQ (Ae (A1 121 (A1 (A0 4) A4))))
  AU)
 (A5 (Aa (A8 (mOp gEq 121 (mC (.str "ends"))))
  (AQ (Ae (A1 121 (A1 (A0 5) A4))))
  AU)
 (A5 (Aa (A8 (mOp gNe 121 (mC (.str "steps"))))
  (AQ (Ae (A1 121 (A1 (A0 4) (A1 (A0 5) A4)))))
  AU)
 (A5 (AE 6 (AV (Ac A4)))
 (A5 (AE 7 (mOp Bs (AD 2 Ao (A1 74 (A1 (mC (.int 140)) A4))) (mC (.int 100))))
 (A5 (AE 8 109)
 (A5 (BC (Bo (A1 (mOp Ag 118 (AD 2 Ao (A1 74 (A1 (mC (.int 5)) A4)))) A4)) (AA 9)
  (A5 (AE 7 (mOp Ag (mOp Ag (A0 7) 118) (AD 2 Ao (A1 74 (A1 (mC (.int 60)) A4)))))
 (A5 (AE 8 (mCB Gc (A1 (mC (.int 99)) (A1 (mOp Ag (A0 8) (AD 2 Ao (A1 74 (A1 (mC (.int 30)) A4)))) A4))))
 (B0 (mMt Ad (A0 6) (A1 (Ae (A1 (A0 7) (A1 (A0 8) A4))) A4))))))
 (AQ (Ae (A1 121 (A1 (mCB (f1 true BD) (A1 (A0 6) A4)) A4)))))))))))))))
noncomputable def KP:FD:=mkF 2 10 bu
noncomputable abbrev Nn:Df:=⟨"_law_cost",Rz,["_law_feed_here","_law_words"],2,KP⟩
noncomputable abbrev OY:Stmt:=top 37
def U8:FnScope ["_law_feed_here","_law_most","_law_words","_law_ways","_law_many","_law_longest","_law_way","_law_first","_law_works_here","_law_k","_law_comings"] ["_law_feed_here","_law_most","_law_words","_law_ways"] (AC OY):=B6 119
@[reducible] noncomputable def Yd:MS:=(A5 (AE 4 (mOp Ag 118 (AD 2 Ao (A1 74 (A1 (A0 1) A4)))))
 (A5 (AE 5 (GT (Ac (A1 (mC (.int 3)) (A1 (mC (.int 20)) A4))) (AD 2 Ao (A1 74 (A1 (mC (.int 2)) A4)))))
 (A5 (AE 6 (mOp gIx (A0 3) (AD 2 Ao (A1 74 (A1 (mCB (f1 true BE) (A1 (A0 3) A4)) A4)))))
 (A5 (AE 7 (AD 2 Ao (A1 74 (A1 (mC (.int 61)) A4))))
 (A5 (AE 8 (AV (Ac A4)))
 (A5 (BC (Bo (A1 (A0 4) A4)) (AA 9)
  (CV (A5 (AE 10 (AV (Ac (A1 (A0 7) (A1 (AD 2 Ao (A1 74 (A1 (mC (.int 8)) A4))) (A1 (AD 2 Ao (A1 74 (A1 (mC (.int 25)) A4))) (A1 (AD 2 Ao (A1 74 (A1 (mC (.int 61)) A4))) A4)))))))
 (B0 (mMt Ad (A0 8) (A1 (Ae (A1 (mOp Ag 118 (AD 2 Ao (A1 74 (A1 (A0 5) A4)))) (A1 (mOp gIx (A0 10) (A0 6)) (A1 (AD 3 KP (A1 74 (A1 121 A4))) A4)))) A4))))))
 (AQ (mCB (f1 true BD) (A1 (A0 8) A4)))))))))
noncomputable def IM:FD:=mkF 4 11 Yd
noncomputable abbrev L0:Df:=⟨"_law_works",OY,["_law_feed_here","_law_most","_law_words","_law_ways"],3,IM⟩
noncomputable abbrev IS:Stmt:=top 38
def N0:FnScope ["_law_feed_here","_law_works_here","_law_days","_law_found","_law_length","_law_coming","_law_cost_here"] ["_law_feed_here","_law_works_here"] (AC IS):=B6 119
@[reducible] noncomputable def OM:MS:=(A5 (Aa (A8 (mOp gGt (AD 2 Ao (A1 74 (A1 (mC (.int 5)) A4))) 109))
 (AQ (A0 1))
 AU)
 (A5 (AE 2 (mOp Bs (AD 2 Ao (A1 74 (A1 (mC (.int 1999)) A4))) (mC (.int 999))))
 (A5 (AE 3 (AV (Ac A4)))
 (A5 (BC (B5 (A0 1)) (BO 3 (AT (AA 4) (AT (AA 5) (AT (AA 6) BR))))
  (B0 (mMt Ad (A0 3) (A1 (Ae (A1 (A0 4) (A1 (A0 5) (A1 (mIf (A8 (mOp gEq (mOp gIx (A0 6) 109) (mC (.str "ends")))) (A0 6) (AD 0 Dy (A1 (A0 6) (A1 121 A4)))) A4)))) A4))))
 (AQ (mCB (f1 true BD) (A1 (A0 3) A4)))))))
noncomputable def EL:FD:=mkF 2 7 OM
noncomputable abbrev Fg:Df:=⟨"_law_far_works",IS,["_law_feed_here","_law_works_here"],3,EL⟩
noncomputable abbrev N2:Stmt:=top 39
def Rn:FnScope ["_law_feed_here","_law_many","_law_left","_law_seq","_law_way","_law_found","_law_k","_law_j"] ["_law_feed_here","_law_many"] (AC N2):=B6 119
@[reducible] noncomputable def VH:MS:=(A5 (AE 2 (AV (HM (A1 (A0 1) A4))))
 (A5 (AE 3 (AV (Ac A4)))
 (A5 (Cs (A8 (Br true 121 (Ac A4)))
  (B0 (mMt Ad (A0 3) (A1 (mMt G7 121 (A1 (AD 2 Ao (A1 74 (A1 (mCB (f1 true BE) (A1 121 A4)) A4))) A4)) A4))))
 (A5 (AE 4 (AD 2 Ao (A1 74 (A1 (mC (.int 4)) A4))))
 (A5 (AE 5 (AV (Ac A4)))
 (A5 (BC (Bo (A1 (A0 1) A4)) (AA 6)
  (BC (Bo (A1 (A0 6) A4)) (AA 7)
  (Aa (mOr (Bj (A8 (mOp gEq (A0 4) (mC (.int 3)))) (A8 (mOp gEq (A0 7) (mOp Bs (A0 6) 118)))) (Bj (A8 (mOp (gIn false) (A0 4) (Ae (A1 118 (A1 (mC (.int 2)) A4))))) (A8 (mOp gEq (AD 2 Ao (A1 74 (A1 (GT (Ac (A1 118 (A1 (mC (.int 4)) (A1 (mC (.int 2)) A4)))) (A0 4)) A4))) 109))))
  (B0 (mMt Ad (A0 5) (A1 (Ae (A1 (mOp gIx (A0 3) (A0 7)) (A1 (mOp gIx (A0 3) (A0 6)) A4))) A4)))
  AU)))
 (AQ (B7 BD (Kl (AV (F9 (BJ (A0 5)))) E5 (GR (mC (.int 16))))))))))))
noncomputable def Gk:FD:=mkF 2 8 VH
noncomputable abbrev JF:Df:=⟨"_law_wishes",N2,["_law_feed_here","_law_many"],2,Gk⟩
noncomputable abbrev Oa:Stmt:=top 40
def UA:FnScope ["_law_cost_here","_law_t"] ["_law_cost_here","_law_t"] (AC Oa):=B6 119
@[reducible] noncomputable def Yg:MS:=(A5 (Aa (A8 (mOp gEq (mOp gIx 74 109) (mC (.str "late"))))
 (AQ (mOp Bs (A0 1) (mOp gIx 74 118)))
 AU)
 (A5 (Aa (A8 (mOp gEq (mOp gIx 74 109) (mC (.str "tardy"))))
  (AQ (mOp Bl (mOp gIx 74 (mC (.int 2))) (mCB Dr (A1 109 (A1 (mOp Bs (A0 1) (mOp gIx 74 118)) A4)))))
  AU)
 (A5 (Aa (A8 (mOp gEq (mOp gIx 74 109) (mC (.str "miss"))))
  (AQ (mOp Bl (mOp gIx 74 (mC (.int 2))) (mCB Nh (A1 (mOp gGt (A0 1) (mOp gIx 74 118)) A4))))
  AU)
 (A5 (Aa (A8 (mOp gEq (mOp gIx 74 109) (mC (.str "ends"))))
  (AQ (mOp Bl (mOp gIx 74 118) (A0 1)))
  AU)
 (AQ (B7 Do (EX (AV (Ac (A1 109 A4))) (AV (AW 2 [1] (B5 (mOp gIx 74 118)) (BO 2 (AT (AA 0) (AT (AA 1) BR))) (A8 (mOp gLe 74 121)) (A0 1))))))))))
noncomputable def Dd:FD:=mkF 2 2 Yg
noncomputable abbrev L3:Df:=⟨"_law_costs",Oa,["_law_cost_here","_law_t"],1,Dd⟩
noncomputable abbrev N5:Stmt:=top 41
def Rr:FnScope ["_law_works_here","_law_wishes_here","_law_found","_law_turn","_law_k","_law_firsts","_law_ends_here"] ["_law_works_here","_law_wishes_here"] (AC N5):=B6 119
@[reducible] noncomputable def VL:MS:=(A5 (AE 2 Jw)
 (A5 (BC (Bo (A1 (mCB (f1 true BE) (A1 74 A4)) A4)) (AA 3)
  (BC (Bo (A1 (mCB (f1 true BE) (A1 74 A4)) A4)) (AA 4)
  (CV (A5 (AE 5 (AV (AW 2 [4] (Ct (A0 1)) (BO 2 (AT (AA 0) (AT (AA 1) BR))) (A8 (mOp gEq (A0 1) 121)) 74)))
 (Aa (Bj (A8 (mOp (Cw true) (A0 4) 121)) (A8 (Ei false (AW 1 [2] (BJ (A0 5)) (AA 0) (A8 (mOp (Cw true) 74 (A0 1))) 74) (Ac A4))))
  (A5 (AE 6 (AV (AW 1 [2,0] (BJ (A0 5)) (AA 0) BS (mOp Ag (mOp CL (A0 1) 74) (mOp gIx (mOp gIx 121 74) 109)))))
 (Ej 121 (A0 4) (B7 Do (EX (AV (Ac (A1 (mOp gIx (mOp gIx 74 (A0 4)) 118) A4))) (A0 6)))))
  AU)))))
 (AQ (AV (AW 1 [2] (Bo (A1 (mCB (f1 true BE) (A1 74 A4)) A4)) (AA 0) BS (mOp CL (A0 1) 74))))))
noncomputable def Go:FD:=mkF 2 7 VL
noncomputable abbrev JI:Df:=⟨"_law_heads",N5,["_law_works_here","_law_wishes_here"],1,Go⟩
noncomputable abbrev N6:Stmt:=top 42
def Rs:FnScope ["_law_thing"] ["_law_thing"] (AC N6):=B6 119
@[reducible] noncomputable def VM:MS:=(AQ (IA (EW .int 74) (I0 (EW .bool 74))))
noncomputable def Gp:FD:=mkF 1 1 VM
noncomputable abbrev JJ:Df:=⟨"_law_is_int",N6,["_law_thing"],1,Gp⟩
noncomputable abbrev Ry:Stmt:=top 43
def X0:FnScope ["_law_works_here","_law_wishes_here","_law_plan","_law_left","_law_ends_here","_law_at","_law_piece","_law_k","_law_begin","_law_end"] ["_law_works_here","_law_wishes_here","_law_plan"] (AC Ry):=B6 119
@[reducible] def br:MS:=(A5 (Aa (HN (DT (EW .tuple 121)))
 (AQ (mC .non))
 AU)
 (A5 (AE 3 (AV (AW 1 [] (B5 74) (AA 0) BS (mOp gIx 74 109))))
 (A5 (AE 4 (AV (JB (Ac (A1 109 A4)) (mCB (f1 true BE) (A1 74 A4)))))
 (A5 (AE 5 109)
 (A5 (BC (B5 121) (AA 6)
  (A5 (Aa (mOr (HN (DT (EW .tuple (A0 6)))) (mOr (A8 (mOp gNe (mCB (f1 true BE) (A1 (A0 6) A4)) (mC (.int 3)))) (A8 (Ko false (mC (.bl false)) (AW 1 [] (B5 (A0 6)) (AA 0) BS (AD 0 Gp (A1 74 A4)))))))
  (AQ (mC .non))
  AU)
 (A5 (GU (A0 6) (BO 3 (AT (AA 7) (AT (AA 8) (AT (AA 9) BR)))))
 (A5 (Aa (mOr (HN (A8 (DG gLe gLt 109 (A0 7) (mCB (f1 true BE) (A1 74 A4))))) (mOr (A8 (mOp gLt (A0 8) (A0 5))) (mOr (A8 (mOp gLe (A0 9) (A0 8))) (A8 (mOp gLt (A0 8) (mOp gIx (mOp gIx 74 (A0 7)) 118))))))
  (AQ (mC .non))
  AU)
 (A5 (Aa (A8 (Ei true (AW 2 [7,3,4,8] (B5 (A0 1)) (BO 2 (AT (AA 0) (AT (AA 1) BR))) (Bj (A8 (mOp gEq (A0 1) 121)) (mOr (A8 (mOp gGt (mOp gIx (A0 3) 74) 109)) (A8 (mOp gGt (mOp gIx (A0 4) 74) (A0 5))))) 74) (Ac A4)))
  (AQ (mC .non))
  AU)
 (A5 (C8 (A0 3) (A0 7) (mOp Bs (mOp gIx (A0 3) (A0 7)) (mOp Bs (A0 9) (A0 8))))
 (A5 (C8 (A0 4) (A0 7) (A0 9))
 (AE 5 (A0 9)))))))))
 (AQ (mIf (A8 (Br false (A0 3) (JB (Ac (A1 109 A4)) (mCB (f1 true BE) (A1 74 A4))))) (A0 4) (mC .non))))))))
noncomputable def FK:FD:=mkF 3 10 br
noncomputable abbrev Nm:Df:=⟨"_law_ends",Ry,["_law_works_here","_law_wishes_here","_law_plan"],2,FK⟩
noncomputable abbrev Jf:Stmt:=top 44
def OE:FnScope ["_law_works_here","_law_ends_here"] ["_law_works_here","_law_ends_here"] (AC Jf):=B6 119
@[reducible] noncomputable def QX:MS:=(AQ (B7 Do (AW 1 [0,1] (Bo (A1 (mCB (f1 true BE) (A1 74 A4)) A4)) (AA 0) BS (AD 0 Dd (A1 (mOp gIx (mOp gIx (A0 1) 74) (mC (.int 2))) (A1 (mOp gIx 121 74) A4))))))
noncomputable def CS:FD:=mkF 2 2 QX
noncomputable abbrev Gf:Df:=⟨"_law_greatest",Jf,["_law_works_here","_law_ends_here"],2,CS⟩
noncomputable abbrev N3:Stmt:=top 45
def Ro:FnScope ["_law_works_here","_law_wishes_here","_law_found","_law_turn","_law_k","_law_later","_law_begins"] ["_law_works_here","_law_wishes_here"] (AC N3):=B6 119
@[reducible] noncomputable def VI:MS:=(A5 (AE 2 Jw)
 (A5 (BC (Bo (A1 (mCB (f1 true BE) (A1 74 A4)) A4)) (AA 3)
  (BC (Bo (A1 (mCB (f1 true BE) (A1 74 A4)) A4)) (AA 4)
  (CV (A5 (AE 5 (AV (AW 2 [4] (Ct (A0 1)) (BO 2 (AT (AA 0) (AT (AA 1) BR))) (A8 (mOp gEq 74 121)) (A0 1))))
 (Aa (Bj (A8 (mOp (Cw true) (A0 4) 121)) (A8 (Ei false (AW 1 [2] (BJ (A0 5)) (AA 0) (A8 (mOp (Cw true) 74 (A0 1))) 74) (Ac A4))))
  (A5 (AE 6 (AV (AW 1 [2,0] (BJ (A0 5)) (AA 0) BS (mOp Bs (mOp CL (A0 1) 74) (mOp gIx (mOp gIx 121 74) 109)))))
 (Ej 121 (A0 4) (B7 Dm (EX (AV (Ac (A1 (mOp gIx (mOp gIx (mOp gIx 74 (A0 4)) (mC (.int 2))) 118) A4))) (A0 6)))))
  AU)))))
 (AQ 121)))
noncomputable def Gm:FD:=mkF 2 7 VI
noncomputable abbrev JG:Df:=⟨"_law_turned",N3,["_law_works_here","_law_wishes_here"],1,Gm⟩
noncomputable abbrev Vw:Stmt:=top 46
def ZJ:FnScope ["_law_works_here","_law_wishes_here","_law_known","_law_dues","_law_left","_law_rows","_law_t","_law_there","_law_least","_law_k"] ["_law_works_here","_law_wishes_here"] (AC Vw):=B6 119
@[reducible] def dq:MS:=(A5 (AE 2 (AD 0 Go (A1 74 (A1 (A0 1) A4))))
 (A5 (AE 3 (Dk Gm (A1 74 (A1 (A0 1) A4))))
 (A5 (AE 4 (AV (AW 1 [] (B5 74) (AA 0) BS (mOp gIx 74 109))))
 (A5 (AE 5 (AV (Ac A4)))
 (A5 (BC (Bo (A1 (mOp Ag (mOp Ag (mCB (f1 true Do) (A1 121 A4)) (mCB (f1 true HY) (A1 (A0 4) A4))) 118) A4)) (AA 6)
  (CV (A5 (AE 7 (AV (AW 1 [4,2,6] (Bo (A1 (mCB (f1 true BE) (A1 74 A4)) A4)) (AA 0) (Bj (A8 (mOp gGt (mOp gIx (A0 1) 74) 109)) (A8 (mOp gLe (mOp gIx 121 74) (A0 3)))) 74)))
 (Aa (A8 (Br true (A0 7) (Ac A4)))
  (A5 (AE 8 (B7 Dm (AW 1 [3] (BJ (A0 7)) (AA 0) BS (mOp CL (A0 1) 74))))
 (A5 (AE 9 (GT (AW 1 [3,8] (BJ (A0 7)) (AA 0) (A8 (mOp gEq (mOp CL (A0 1) 74) 121)) 74) 109))
 (A5 (C8 (A0 4) (A0 9) (mOp Bs (mOp gIx (A0 4) (A0 9)) 118))
 (Aa (Bj (A8 (Br true (A0 5) (Ac A4))) (Bj (A8 (mOp gEq (mOp gIx (mOp gIx (A0 5) (C6 118)) 109) (A0 9))) (A8 (mOp gEq (mOp gIx (mOp gIx (A0 5) (C6 118)) (mC (.int 2))) (A0 6)))))
  (C8 (A0 5) (C6 118) (Ae (A1 (A0 9) (A1 (mOp gIx (mOp gIx (A0 5) (C6 118)) 118) (A1 (mOp Ag (A0 6) 118) A4)))))
  (B0 (mMt Ad (A0 5) (A1 (Ae (A1 (A0 9) (A1 (A0 6) (A1 (mOp Ag (A0 6) 118) A4)))) A4)))))))
  AU))))
 (AQ (mCB (f1 true BD) (A1 (A0 5) A4))))))))
noncomputable def KO:FD:=mkF 2 10 dq
noncomputable abbrev Qr:Df:=⟨"_law_due",Vw,["_law_works_here","_law_wishes_here"],2,KO⟩
noncomputable abbrev Vv:Stmt:=top 47
def ZI:FnScope ["_law_script","_law_feed_here","_law_works_here","_law_wishes_here","_law_kept","_law_due_here","_law_again","_law_mine","_law_told"] ["_law_script"] (AC Vv):=B6 119
@[reducible] def dm:MS:=(A5 (AE 1 (Bp KN (A1 74 A4)))
 (A5 (AE 2 (AD 4 IM (A1 (A0 1) (A1 (mC (.int 8)) (A1 (AV (Ac (A1 (mC (.str "late")) A4))) (A1 (AV (Ac (A1 109 (A1 118 (A1 (mC (.int 2)) (A1 (mC (.int 3)) A4)))))) A4))))))
 (A5 (AE 3 (AD 2 Gk (A1 (A0 1) (A1 (mCB (f1 true BE) (A1 121 A4)) A4))))
 (A5 (AE 2 (AD 2 EL (A1 (A0 1) (A1 121 A4))))
 (A5 (Aa (A8 (mOp gEq (AD 2 Ao (A1 (A0 1) (A1 (mC (.int 4)) A4))) 109))
  (AE 2 (B7 BD (AW 3 [] (B5 121) (BO 3 (AT (AA 0) (AT (AA 1) (AT (AA 2) BR)))) BS (Ae (A1 74 (A1 (A0 1) (A1 (Ae (A1 (mC (.str "late")) (A1 (mOp Cd (mOp gIx 121 118) (mC (.int 3))) A4))) A4)))))))
  AU)
 (A5 (AE 4 (mCB Ce (A1 (Ae (A1 121 (A1 (A0 3) A4))) A4)))
 (A5 (AE 5 (AD 0 KO (A1 121 (A1 (A0 3) A4))))
 (A5 (BC (Bo (A1 (mC (.int 2)) A4)) (AA 6)
  (CV (Aa (mOr (A8 (mOp gNe (mCB Ce (A1 (AD 0 Dz (A1 121 (A1 (A0 3) A4))) A4)) (mCB Ce (A1 (A0 5) A4)))) (A8 (mOp gNe (mCB Ce (A1 (Ae (A1 121 (A1 (A0 3) A4))) A4)) (A0 4))))
  (AQ (mC (.bl false)))
  AU)))
 (A5 (AE 7 (AD 0 FK (A1 121 (A1 (A0 3) (A1 (A0 5) A4)))))
 (A5 (AE 8 (AD 0 FK (A1 121 (A1 (A0 3) (A1 (mOp gIx (AD 0 C3 (A1 121 (A1 (A0 3) A4))) 109) A4)))))
 (A5 (Aa (mOr (A8 (FY false (A0 7))) (A8 (FY false (A0 8))))
  (AQ (mC (.bl false)))
  AU)
 (AQ (mOp gEq (Bp CS (A1 121 (A1 (A0 7) A4))) (Bp CS (A1 121 (A1 (A0 8) A4))))))))))))))))
def gV:FD:=mkF 1 9 dm
noncomputable abbrev Qq:Df:=⟨"law",Vv,["_law_script"],18,gV⟩
set_option maxHeartbeats 0 in
def oks{E:EnK}(B:BltA E.mg):(Dn E JH->Kn E JH)/\
 (Dn E G8->Kn E JH->Kn E G8)/\
 (Dl E D7 ⟨15,33,15,57⟩->Kn E G8->Kn E D7)/\
 (Dn E Ge->Kn E Ge)/\
 (Dn E FU->Kn E Ge->Kn E FU)/\
 (Dn E Ff->Kn E Ff)/\
 (Dn E FF->Kn E Ff->Kn E FF)/\
 (Dn E Hf->Kn E Hf)/\
 (Dn E JK->Kn E Hf->Kn E JK)/\
 (Dn E EG->Kn E JK->Kn E EG)/\
 (Dn E Fd->Kn E Fd)/\
 (Dn E CM->Kn E CM)/\
 (Dn E Gg->Kn E G8->Kn E FU->Kn E EG->Kn E Fd->Kn E Gg)/\
 (Dl E Cf ⟨94,56,94,91⟩->Kn E FU->Kn E EG->Kn E Cf)/\
 (Dn E He->Kn E He)/\
 (Dn E EZ->Kn E EZ)/\
 (Dn E FG->Kn E D7->Kn E Cf->Kn E He->Kn E EZ->Kn E FG)/\
 (Dl E CN ⟨117,25,117,67⟩->Kn E Gg->Kn E CN)/\
 (Dn E Dt->Kn E FG->Kn E CN->Kn E Dt)/\
 (Dn E EY->Kn E EY)/\
 (Dn E Fh->Kn E Fh)/\
 (Dl E DN ⟨139,62,139,93⟩->Kn E Fh->Kn E DN)/\
 (Dl E En ⟨148,52,148,81⟩->Kn E G8->Kn E CM->Kn E EY->Kn E DN->Kn E En)/\
 (Dn E Nl->Kn E Nl)/\
 (Dn E FE->Kn E FE)/\
 (Dn E Nn->Kn E FE->Kn E Nn)/\
 (Dn E L0->Kn E FE->Kn E Nn->Kn E L0)/\
 (Dn E Fg->Kn E FF->Kn E FE->Kn E Fg)/\
 (Dn E JF->Kn E FE->Kn E JF)/\
 (Dn E L3->Kn E L3)/\
 (Dn E JI->Kn E JI)/\
 (Dn E JJ->Kn E JJ)/\
 (Dn E Nm->Kn E JJ->Kn E Nm)/\
 (Dn E Gf->Kn E L3->Kn E Gf)/\
 (Dn E JG->Kn E JG)/\
 (Dn E Qr->Kn E JI->Kn E JG->Kn E Qr)/\
 (Dn E Qq->Kn E Dt->Kn E En->Kn E Nl->Kn E FE->Kn E L0->Kn E Fg->Kn E JF->Kn E Nm->Kn E Gf->Kn E Qr->Kn E Qq):=by
 refine⟨λD=>okK D Rp rfl rfl λ_ _ _ _ _ _ _ hr=>?_,
  λD _=>okK D U9 rfl rfl λ_ _ _ _ _ _ _ hr=>?_,
  λD _=>okL D Jc rfl rfl λ_ _ _ _ LC _ _ _ _ _ _ hcd hr=>?_,
  λD=>okK D OD rfl rfl λ_ _ _ _ _ _ _ hr=>?_,
  λD _=>okK D Ps rfl rfl λ_ _ _ _ _ _ _ hr=>?_,
  λD=>okK D My rfl rfl λ_ _ _ _ _ _ _ hr=>?_,
  λD _=>okK D Lz rfl rfl λ_ _ _ _ _ _ _ hr=>?_,
  λD=>okK D Pr rfl rfl λ_ _ _ _ _ _ _ hr=>?_,
  λD _=>okK D Ru rfl rfl λ_ _ _ _ _ _ _ hr=>?_,
  λD _=>okK D Mz rfl rfl λ_ _ _ _ _ _ _ hr=>?_,
  λD=>okK D Mx rfl rfl λ_ _ _ _ _ _ _ hr=>?_,
  λD=>okK D Ft rfl rfl λ_ _ _ _ _ _ _ hr=>?_,
  λD _ _ _ _=>okK D OG rfl rfl λ_ _ _ _ _ _ _ hr=>?_,
  λD _ _=>okL D Im rfl rfl λ_ _ _ _ LC _ _ _ _ _ _ hcd hr=>?_,
  λD=>okK D Pq rfl rfl λ_ _ _ _ _ _ _ hr=>?_,
  λD=>okK D Ka rfl rfl λ_ _ _ _ _ _ _ hr=>?_,
  λD _ _ _ _=>Nat.rec (motive:=λn=>Kn E ⟨"broken_off",F5,["works","wishes","some"],n+6,Cz n⟩) (ok0 D) (λn ih=>okK (j:=n+6) D M1 rfl 66 λ_ _ _ _ _ _ _ hr=>?_) 10,
  λD _=>okL D IN rfl rfl λ_ _ _ _ LC _ _ _ _ _ _ hcd hr=>?_,
  λD _ _=>okK D Il rfl rfl λ_ _ _ _ _ _ _ hr=>?_,
  λD=>okK D KY rfl rfl λ_ _ _ _ _ _ _ hr=>?_,
  λD=>okK D N1 rfl rfl λ_ _ _ _ _ _ _ hr=>?_,
  λD _=>okL D KZ rfl rfl λ_ _ _ _ LC _ _ _ _ _ _ hcd hr=>?_,
  λD _ _ _ _=>okL D OF rfl rfl λ_ _ _ _ LC _ _ _ _ _ _ hcd hr=>?_,
  λD=>okK D Wz rfl rfl λ_ _ _ _ _ _ _ hr=>?_,
  λD=>okK D Wx rfl rfl λ_ _ _ _ _ _ _ hr=>?_,
  λD _=>okK D X1 rfl rfl λ_ _ _ _ _ _ _ hr=>?_,
  λD _ _=>okK D U8 rfl rfl λ_ _ _ _ _ _ _ hr=>?_,
  λD _ _=>okK D N0 rfl rfl λ_ _ _ _ _ _ _ hr=>?_,
  λD _=>okK D Rn rfl rfl λ_ _ _ _ _ _ _ hr=>?_,
  λD=>okK D UA rfl rfl λ_ _ _ _ _ _ _ hr=>?_,
  λD=>okK D Rr rfl rfl λ_ _ _ _ _ _ _ hr=>?_,
  λD=>okK D Rs rfl rfl λ_ _ _ _ _ _ _ hr=>?_,
  λD _=>okK D X0 rfl rfl λ_ _ _ _ _ _ _ hr=>?_,
  λD _=>okK D OE rfl rfl λ_ _ _ _ _ _ _ hr=>?_,
  λD=>okK D Ro rfl rfl λ_ _ _ _ _ _ _ hr=>?_,
  λD _ _=>okK D ZJ rfl rfl λ_ _ _ _ _ _ _ hr=>?_,
  λD _ _ _ _ _ _ _ _ _ _=>okK D ZI rfl rfl λ_ _ _ _ _ _ _ hr=>?_⟩
 all_goals (refine' ⟨_,_⟩;rotate_left;repeat' (first
  |((with_reducible show QE _ _ _ _ _);first|exact qv _ _|(first|exact aj _|exact aZ _|exact dQ _|exact ae _)|((with_reducible show QE _ _ _ _ (mOp _ _ _));first|((with_reducible show QE _ _ _ _ (mOp gIx _ _));refine' dO _ _ _)|((with_reducible show QE _ _ _ _ (mOp CL _ _));refine' Xy _ (ML hr) _ _)|((with_reducible show QE _ _ _ _ (mOp Ag _ _));refine' Hv _ ((bZ).or (VB _)) (Fv aA XX) _ _)|((with_reducible show QE _ _ _ _ (mOp Bs _ _));refine' Hv _ bQ Zw _ _)|((with_reducible show QE _ _ _ _ (mOp Bl _ _));refine' Hv _ bV Zy _ _)|((with_reducible show QE _ _ _ _ (mOp Cd _ _));refine' Hv _ bW Zz _ _)|((with_reducible show QE _ _ _ _ (mOp Ga _ _));refine' Hv _ YN XW _ _)|((with_reducible show QE _ _ _ _ (mOp Qk _ _));refine' Hv _ bS Zx _ _)|((with_reducible show QE _ _ _ _ (mOp gGt _ _));refine' Jo _ WD W2 _ _)|((with_reducible show QE _ _ _ _ (mOp gEq _ _));refine' Jo _ ((WG).or (Ki _ hr.units)) (Fv SE SF) _ _)|((with_reducible show QE _ _ _ _ (mOp gNe _ _));refine' Jo _ ((WC).or (Kh _ hr.units)) (Fv SC SD) _ _)|((with_reducible show QE _ _ _ _ (mOp (gIn false) _ _));refine' Jo _ (NL _) Q3 _ _))|refine' aY _ _|((with_reducible show QE _ _ _ _ (AV _));refine' af _ _)|refine' ag _ _|((with_reducible show QE _ _ _ _ (AD _ _ _));first|refine' qcW _ (by assumption) hr _|refine' qcW _ (by assumption) (hr.in1.deeper _) _)|((with_reducible show QE _ _ _ _ (Bp _ _));refine' qcG (by assumption) hr _)|((with_reducible show QE _ _ _ _ (Dk _ _));refine' qcS (by assumption) hr _)|((with_reducible show QE _ _ _ _ (NR _ _ _ _));refine' qbA wMx LC hcd hr B.max _ (λ_ _ _ _=>_))|((with_reducible show QE _ _ _ _ (Kp _ _ _ _));refine' qbA wMt LC hcd hr B.min _ (λ_ _ _ _=>_))|((with_reducible show QE _ _ _ _ (G3 _ _ _ _));refine' qcL LC hcd (by assumption) hr _ _ _)|((with_reducible show QE _ _ _ _ (Dj _ _));refine' Ur _ (hr.in1.deeper _) _ _)|((with_reducible show QE _ _ _ _ (Jx _ _ _));refine' qbA wMp LC hcd hr B.min _ (λ_ _ _ _=>_))|((with_reducible show QE _ _ _ _ (B7 _ _));first|((with_reducible show QE _ _ _ _ (B7 JD _));refine' MH _ (Ln _ rfl) S8 B.any L2.bt_any _)|((with_reducible show QE _ _ _ _ (B7 HY _));refine' MH _ ((Lj _ rfl).or (KI _ rfl)) S5 B.sum L2.bt_sum _)|((with_reducible show QE _ _ _ _ (B7 Dm _));refine' MH _ (Ll _ rfl) S6 B.min L2.bt_min _)|((with_reducible show QE _ _ _ _ (B7 Do _));refine' MH _ ((Lm _ rfl).or (KJ _ rfl)) S7 B.max L2.bt_max _)|((with_reducible show QE _ _ _ _ (B7 BD _));refine' dP _ (IZ _) NB B.tuple L2.bt_tuple _))|((with_reducible show QE _ _ _ _ (mCB _ _));first|((with_reducible show QE _ _ _ _ (mCB (f1 _ JD) _));refine' Ef _ (Ln _ rfl) (Iq S8) B.any L2.bt_any _)|((with_reducible show QE _ _ _ _ (mCB (f1 _ HY) _));refine' Ef _ ((Lj _ rfl).or (KI _ rfl)) (Iq S5) B.sum L2.bt_sum _)|((with_reducible show QE _ _ _ _ (mCB (f1 _ BE) _));refine' Ef _ (TJ _) (Iq Zh) B.len L2.bt_len _)|((with_reducible show QE _ _ _ _ (mCB (f1 _ Dm) _));refine' Ef _ (Ll _ rfl) (Iq S6) B.min L2.bt_min _)|((with_reducible show QE _ _ _ _ (mCB (f1 _ Do) _));refine' Ef _ ((Lm _ rfl).or (KJ _ rfl)) (Iq S7) B.max L2.bt_max _)|((with_reducible show QE _ _ _ _ (mCB (f1 _ Jz) _));refine' Ef _ (Qz _ rfl) (Iq XE) B.any L2.bt_any _)|((with_reducible show QE _ _ _ _ (mCB Dr _));refine' Ef _ (TH rfl) XH B.max L2.bt_max _)|((with_reducible show QE _ _ _ _ (mCB Gc _));refine' Ef _ (TF rfl) XG B.min L2.bt_min _)|((with_reducible show QE _ _ _ _ (mCB Ce _));refine' Ef _ (OQ _ hr.gd hr.units) XF B.repr L2.bt_repr _)|((with_reducible show QE _ _ _ _ (mCB (f1 _ BD) _));refine' WB _ (IZ _) (Iq NB) B.tuple L2.bt_tuple _)|((with_reducible show QE _ _ _ _ (mCB Nh _));refine' WB _ TK Zi B.int L2.bt_int _))|refine' Xw _ B.tuple B.range _|((with_reducible show QE _ _ _ _ (GT _ _));refine' ai _ _ _)|((with_reducible show QE _ _ _ _ (Kk _ _ _));refine' aa _ _ _ _)|((with_reducible show QE _ _ _ _ (DG _ _ _ _ _));first|((with_reducible show QE _ _ _ _ (DG gLe gLt _ _ _));refine' qe_chain QQ Q2 QP Q0 _ _ _))|refine' Um _ _ _ _|((with_reducible show QE _ _ _ _ (mMt _ _ _));first|((with_reducible show QE _ _ _ _ (mMt Ad _ _));refine' W9 _ PySem.F.slot_list_append PySem.F.type_list_append LR S3 _ _)|((with_reducible show QE _ _ _ _ (mMt Hc _ _));refine' ah _ PySem.F.slot_list_pop PySem.F.type_list_pop bh Za _)|((with_reducible show QE _ _ _ _ (mMt G7 _ _));refine' W9 _ PySem.F.slot_list_pop PySem.F.type_list_pop VF UL _ _))|refine' qdA _ (λ_ _ _=>_) (λ_ _ _=>_) (λ_ _ _=>_) (λ_ _ _=>_)|exact Xx _|((with_reducible show QE _ _ _ _ (EW _ _));first|((with_reducible show QE _ _ _ _ (EW .int _));refine' NE _ .int B.isinstance B.int _)|((with_reducible show QE _ _ _ _ (EW .bool _));refine' NE _ .bool B.isinstance B.bool _)|((with_reducible show QE _ _ _ _ (EW .tuple _));refine' NE _ .tuple B.isinstance B.tuple _))|((with_reducible show QE _ _ _ _ (IA _ _));refine' ak _ _ _)|((with_reducible show QE _ _ _ _ (I0 _));refine' ad _ _)|refine' ac _ _)
  |refine' Xz _ _ _|exact am _
  |((with_reducible show QT _ _ _ _ _);first|((with_reducible show QT _ _ _ _ (A8 (mOp _ _ _)));first|((with_reducible show QT _ _ _ _ (A8 (mOp gLt _ _)));refine' EN _ QP Q0 _ _)|((with_reducible show QT _ _ _ _ (A8 (mOp gLe _ _)));refine' EN _ QQ Q2 _ _)|((with_reducible show QT _ _ _ _ (A8 (mOp gGt _ _)));refine' EN _ WD W2 _ _)|((with_reducible show QT _ _ _ _ (A8 (mOp gGe _ _)));refine' EN _ dg dL _ _)|((with_reducible show QT _ _ _ _ (A8 (mOp gEq _ _)));refine' EN _ ((WG).or (Ki _ hr.units)) (Fv SE SF) _ _)|((with_reducible show QT _ _ _ _ (A8 (mOp gNe _ _)));refine' EN _ ((WC).or (Kh _ hr.units)) (Fv SC SD) _ _)|((with_reducible show QT _ _ _ _ (A8 (mOp (gIn false) _ _)));refine' EN _ (NL _) Q3 _ _)|((with_reducible show QT _ _ _ _ (A8 (mOp (gIn true) _ _)));refine' EN _ (SS _) Q3 _ _)|((with_reducible show QT _ _ _ _ (A8 (mOp (Cw false) _ _)));refine' aI _ (ML hr) _ _)|((with_reducible show QT _ _ _ _ (A8 (mOp (Cw true) _ _)));refine' Xc _ (ML hr) _ _))|refine' aG _ _|((with_reducible show QT _ _ _ _ (DT _));refine' Uc _ _)|((with_reducible show QT _ _ _ _ (Bj _ _));refine' QW.toT _)|((with_reducible show QT _ _ _ _ (mOr _ _));refine' QW.toT _)|((with_reducible show QT _ _ _ _ (A8 (FY _ _)));refine' aH _ _)|((with_reducible show QT _ _ _ _ (A8 (Br _ _ _)));first|refine' Oj _ (SW _ hr.units) _ _|refine' Oj _ (SU _ hr.units) _ _)|((with_reducible show QT _ _ _ _ (A8 (Ei _ _ _)));first|refine' Oi _ (SW _ hr.units) _ _|refine' Oi _ (SU _ hr.units) _ _)|((with_reducible show QT _ _ _ _ (A8 (Ko _ _ _)));refine' Xb _ (NL _) _ _)|((with_reducible show QT _ _ _ _ (A8 (DG _ _ _ _ _)));first|((with_reducible show QT _ _ _ _ (A8 (DG gLe gLt _ _ _)));refine' Ud QQ Q2 QP Q0 _ _ _)))
  |refine' Xa _ _|refine' aE _ _|refine' aF _ _ _|refine' dM _ _ _
  |((with_reducible show QN _ _ _ _ _);first|((with_reducible show QN _ _ _ _ (EO _ _ _));refine' aJ LC hcd hr B.sorted _ (λ_ _ _ _=>_))|refine' aQ _ _|((with_reducible show QN _ _ _ _ (AW _ _ _ _ _ _));refine' qnA _ (λ_ _ _=>_) (λ_ _ _=>_) (λ_ _ _=>_))|((with_reducible show QN _ _ _ _ (JB _ _));refine' aP _ _ _)|((with_reducible show QN _ _ _ _ (EX _ _));refine' aR _ _ _)|((with_reducible show QN _ _ _ _ (Kl _ _ _));refine' aO _ _ _ _)|((with_reducible show QN _ _ _ _ (F9 _));refine' QB _ B.sorted _)|((with_reducible show QN _ _ _ _ (Bu _));first|(refine' Q9 _ B.sorted _;rotate_left;refine' SJ _ _)|refine' QC _ B.sorted _)|((with_reducible show QN _ _ _ _ (HM _));refine' Uj _ B.list B.range _)|((with_reducible show QN _ _ _ _ (HP _));refine' Uk _ B.list _))
  |((with_reducible show QI _ _ _ _ _ _);first|((with_reducible show QI _ _ _ _ _ (Bo _));refine' Xq _ B.range _)|((with_reducible show QI _ _ _ _ _ (B5 _));refine' aS _ _)|((with_reducible show QI _ _ _ _ _ (BJ _));refine' Xr _ _)|((with_reducible show QI _ _ _ _ _ (Km _));refine' aU _ _)|((with_reducible show QI _ _ _ _ _ (Ct _));refine' aT _ _))
  |refine' Uf _ _
  |((with_reducible show QR _ _ _ _ _ _);first|((with_reducible show QR _ _ _ _ _ (BJ _));refine' Xm _ _)|((with_reducible show QR _ _ _ _ _ (B5 _));refine' SJ _ _))
  |exact qgA
  |refine' aV _ rfl _
  |exact Xu _|refine' Ul _ _ _
  |exact aX _|refine' aW _ _
  |exact Xo _|refine' Xn _ _
  |((with_reducible show QSs _ _ _ _ _);first|((with_reducible show QSs _ _ _ _ (A5 _ _));refine' Ue _ _ _)|((with_reducible show QSs _ _ _ _ (CV _));refine' SI _ _)|(first|exact Xe _|refine' Xd _ _))
  |((with_reducible show QS _ _ _ _ _);first|((with_reducible show QS _ _ _ _ (AE _ (AV (AW _ _ _ _ _ _))));first|refine' eY _ (λ_ _ _=>_) (λ_ _ _=>_) (λ_ _ _=>_)|refine' qsA _)|((with_reducible show QS _ _ _ _ (AE _ _));refine' qsA _)|((with_reducible show QS _ _ _ _ (CV _));refine' qs_trimD _)|refine' dN _ _ _ _|refine' aL _ _|refine' aM _ rfl _ _ _|refine' Xj _ _|((with_reducible show QS _ _ _ _ (Ej _ _ _));refine' Xk _ (ML hr) _ _ _)|((with_reducible show QS _ _ _ _ (C8 _ _ _));refine' Xh _ _ _ _)|refine' aN _ _ _|refine' Ug _ _ _|exact Xg _|((with_reducible show QS _ _ _ _ FA);exact Uh _)|((with_reducible show QS _ _ _ _ (FS _ _));refine' Xl (Fy 119) rfl (by first|exact Or.inl rfl|exact Or.inr rfl) _)|((with_reducible show QS _ _ _ _ (GS _ _ _ _));refine' Xi _ _ _ _ cF))))
open Bd
def ZU{n:Nat}(h:n<=8):GN (n:Int):=CA 66 66
def Ib{neg:Bool}{QE:D->Hd->Prop}(h:WE ma ls hd λd x=>∃ns:List Int,pyD x d=some (.list (ns.map PyData.int))/\QE (.im (.bl (if neg then !decide (ns=[])else decide (ns=[])))) x):WE (Br neg ma (Ac A4)) ls hd QE:=by
 obtain⟨d,x,e,ns,e2,q⟩:=h;refine⟨_,x,?_,q⟩;unfold Br;rw[e];simp[e2,I.pys,PH]
def TV{QE:D->Hd->Prop}(q:QE (.im (.int 1000000000000000000)) hd):WP (Qk (.im (.int 10)) (.im (.int 18)) hd) QE:=⟨_,_,by simp[po1],q⟩
local macro_rules | `(tactic| nofun) => do `(tactic| repeat (first | (with_reducible refine A6 ?_; try dsimp only [set_cons_zero, set_cons_succ, gv, ie, iI, iL, List.replicate, Nat.reduceSub, Int.reduceToNat]) | (with_reducible first $[| $(← #["GI","AB","AS","Av","Bt","Aj","B3","CZ","Bw"].mapM fun i=>`(Lean.Parser.Tactic.tacticSeq|refine $(Lean.mkIdent i.toName) ?_))]* | refine A2 (d := _) rfl ?_ $[| $(← #["AN","A7","BA","Ar","Bi","JT","B8","EB","CG","Fr","AI","Fp","DD","D1","BW","A9","A3","Bb","Af","Ew","C4","PV","EU","C9","DE","GF","FL","Ed","M8","CU","Gy","CT","Fq","Ho","Hn"].mapM fun i=>`(Lean.Parser.Tactic.tacticSeq|refine $(Lean.mkIdent i.toName) ?_))]* | refine ⟨_, rfl, ?_⟩) | refine AF rfl (Bc _ _) ?_ | refine AF rfl (DC _ _ _) ?_ | refine AF rfl (E8 _ _ _ _) ?_ | refine ⟨_, _, _, _, rfl, rfl, rfl, rfl, ?_⟩ | refine ⟨⟨_, rfl⟩, ?_⟩ | refine ⟨Cy, ?_⟩ | refine ⟨C0, ?_⟩ | refine ⟨Nf, ?_⟩ | refine ⟨Nd, ?_⟩ | refine ⟨CW, ?_⟩ | refine ⟨DI, ?_⟩ | (with_reducible first | refine Ib ?_)))
def T(k:Nat)(a b:MO):Prop:=∃(cs:92) (nx lf:Int),0<=nx/\nx+k<=1000000000/\a=.lst (cs.map λi=>.im (.int i))/\b=.lst [.mu 0,.im (.int nx),.im (.int lf)]
def bf(k:Nat)(cs:92)(nx lf many:Int)(n0:0<=nx)(n1:nx+(k+1)<=1000000000)(h0:0<many)(h1:many<1073741824):WF Ao [.mu 1,.im (.int many)] [.lst (cs.map λi=>.im (.int i)),.lst [.mu 0,.im (.int nx),.im (.int lf)]] λd x=>∃r a' b',0<=r/\r<many/\d=.im (.int r)/\x=[a',b']/\T k a' b':=by
 have hm:EC many:=h0;have hv:MQ many:=⟨h0,h1⟩
 unfold Ao;refine Ax rfl ?_
 nofun
 refine⟨λhc=>?_,λhc=>?_⟩
 .nofun
  refine De hm ?_
  nofun
  refine KQ hv ?_
  nofun
  exact⟨_,_,_,(FR many h0).1,(FR many h0).2,rfl,rfl,cs,nx,lf/many,n0,by omega,rfl,rfl⟩
 .nofun
  refine WP.mono (Q:=λd x=>x=[.lst (cs.map λi=>.im (.int i)),.lst [.mu 0,.im (.int (nx+1)),.im (.int lf)]]/\∃cell,d=.im (.int cell)) (MW ?_) ?_
  .nofun
   refine⟨cs,by simp[pyD,Dx,E3],_,rfl,λhb=>?_,λhb=>?_⟩
   .nofun
    refine BK rfl rfl ?_;have hc:cs≠[]:=by simpa using hb
    have hl:=G5 hc;obtain⟨c,e⟩:=eJ hc nx;refine De (show EC _ by unfold EC;simp;omega) ?_;refine AF rfl (by simpa using e) ?_;exact⟨rfl,c,rfl⟩
   .nofun
    exact⟨rfl,_,rfl⟩
  .rintro d x ⟨rfl,cell,rfl⟩;have fin:∀ls,ls=[some (.mu 1),some (.im (.int many)),none,some (.im (.int nx)),some (.im (.int cell)),none]->WS (A5 (AE 5 (mOp Cd (mOp Bl (mOp Ag (mOp Ag (mOp Ag (mOp Cd (A0 4) (mC (.int 1000003))) (mOp Bl (mOp Bl (mC (.int 37)) (A0 3)) (A0 3))) (mOp Bl (mC (.int 13)) (A0 3))) (mC (.int 5))) (mC (.int 48271))) (mC (.int 999983))))
    (AQ (mOp Cd (mOp Ga (mOp Cd (mOp Bl (mOp Cd (mOp Ag (mOp Ag (mOp Bl (A0 5) (A0 5)) (mOp Bl (mC (.int 7919)) (A0 3))) (mC (.int 11))) (mC (.int 2097143))) (mC (.int 69621))) (mC (.int 2147483629))) (mC (.int 7))) (A0 1)))) ls [.lst (cs.map λi=>.im (.int i)),.lst [.mu 0,.im (.int (nx+1)),.im (.int lf)]]
    (λf x=>match f with
     |.rt d=>∃r a' b',0<=r/\r<many/\d=.im (.int r)/\x=[a',b']/\T k a' b'
     |.nx _=>∃r a' b',0<=r/\r<many/\D.im .non=.im (.int r)/\x=[a',b']/\T k a' b'
     | _=>False):=by
    rintro ls rfl
    nofun
    refine De (by unfold EC;decide) ?_
    nofun
    refine Eu (DZ 97 97) ?_
    nofun
    refine Eu (Hy 66 66) ?_
    nofun
    refine Eu (DZ 97 97) ?_
    nofun
    refine Eu (Hy 97 97) ?_
    nofun
    refine De (by unfold EC;decide) ?_
    nofun
    generalize hx:(((cell%1000003+37*nx*nx+13*nx+5)*48271)%999983:Int)=x;have b1:=FR (x:=(cell%1000003+37*nx*nx+13*nx+5)*48271) 999983 97;rw[hx]at b1;refine Eu (Hy 66 66) ?_
    nofun
    refine Eu (DZ 97 97) ?_
    nofun
    refine De (by unfold EC;decide) ?_
    nofun
    refine Eu (Hy 97 97) ?_
    nofun
    refine De (by unfold EC;decide) ?_
    nofun
    refine KQ (by unfold MQ;decide) ?_
    nofun
    refine De hm ?_;exact⟨_,_,_,(FR many h0).1,(FR many h0).2,rfl,rfl,cs,nx+1,lf,by omega,by omega,rfl,rfl⟩
   nofun
   refine TV ?_
   nofun
   split
   .nofun
    refine BK rfl rfl ?_
    nofun
    refine⟨λhb=>?_,λhb=>?_⟩
    .nofun
     refine KQ hv ?_
     nofun
     refine De hm ?_;exact⟨_,_,_,(FR many h0).1,(FR many h0).2,rfl,rfl,cs,nx+1,cell/many,by omega,by omega,rfl,rfl⟩
    .refine Aj (A6 ?_);exact fin _ rfl
   .refine⟨λhb=>by simp at hb,λhb=>Aj (A6 (fin _ rfl))⟩
def tap:Tap T Ao where
 cl:=by
  rintro k a b ⟨cs,nx,lf,_,_,rfl,rfl⟩;simp[clO,CF]
 le:=by
  rintro j k a b ⟨cs,nx,lf,h1,h2,e1,e2⟩ h;exact⟨cs,nx,lf,h1,by omega,e1,e2⟩
 pick:=by
  rintro k a b many ⟨cs,nx,lf,n0,n1,rfl,rfl⟩ h0 h1;obtain⟨d,x,e,r,a',b',p1,p2,rfl,rfl,hT⟩:=bf k cs nx lf many n0 (by push_cast at n1;omega) h0 h1;exact⟨r,a',b',p1,p2,e,hT⟩
def cJ(ns:92):WF KN [.ro ns] [] λd x=>d=.mu 1/\∃a b,T 100000 a b/\x=[a,b]:=by
 obtain⟨cs,e⟩:=Vg ns none (some 63);exact⟨.mu 1,_,by simp[KN,mkF,e],rfl,_,_,⟨cs,0,0,by decide,by decide,rfl,rfl⟩,rfl⟩
def O8(bot:Int):List (Int×Int)->Prop
 |[]=>True
 |(_,h)::r=>bot<=h/\O8 h r
def Asc:List (Int×Int)->Prop
 |[]=>True
 |(b,_)::r=>(∀q∈r,b<q.1)/\Asc r
theorem LI(t:Int):∀{rows:List (Int×Int)} {bot:Int},O8 bot rows->Asc rows->CJ (bot::((rows.filter λq=>decide (q.1<=t)).map (·.2)))=BP t rows bot
 |[],bot,_,_=>by simp[BP,CJ]
 |(b,h)::r,bot,H,A=>by
   rw[BP];by_cases hb:t<b
   .rw[gb hb];have:((b,h)::r).filter (λq=>decide (q.1<=t))=[]:=by
     refine List.filter_eq_nil_iff.mpr λq hq=>?_;rcases mem_cons.mp hq with rfl|hq
     .simp;omega
     .have:=A.1 q hq;simp;omega
    rw[this];rfl
   .rw[gh hb,iM,gb 86,gv];have ih:=LI t H.2 A.2;rw[<- ih];show CJ (bot::h::(r.filter λq=>decide (q.1<=t)).map (·.2))=_;have h1:=BF (xs:=bot::h::(r.filter λq=>decide (q.1<=t)).map (·.2)) 71;have h2:=BF (xs:=h::(r.filter λq=>decide (q.1<=t)).map (·.2)) 71;have hbot:=H.1;have a1:=h1.2 _ (gp _ h2.1);rcases mem_cons.mp h1.1 with e|e
    .have:=h2.2 h 71;omega
    .have:=h2.2 _ e;omega
def GA:Cost->Prop
 |.tardy _ w=>0<=w/\w<=1000000
 |.miss _ w=>0<=w/\w<=1000000
 |.ends w=>0<=w/\w<=1000000
 |.steps rows=>rows.length<=5/\O8 0 rows/\Asc rows
 |_=>True
def KB(m:Int):Cost->Prop
 |.late d=>-m<=d/\d<=m
 |.tardy d w=>(-m<=d/\d<=m)/\0<=w/\w<=9
 |.miss d w=>(-m<=d/\d<=m)/\0<=w/\w<=9
 |.ends w=>0<=w/\w<=9
 |.steps rows=>∀q∈rows,(-m<=q.1/\q.1<=m)/\0<=q.2/\q.2<=99
noncomputable abbrev Wl:MO:=.lst [.im (.str "late")]
def at3{r:Int}(h0:0<=r)(h1:r<3)(x y z:D):∃d,(d=x∨d=y∨d=z)/\atI [x,y,z] r=some d:=by
 have:r=0∨r=1∨r=2:=by omega
 rcases this with rfl|rfl|rfl
 .exact⟨x,.inl rfl,BH (j:=0) rfl⟩
 .exact⟨y,.inr (.inl rfl),BH (j:=1) rfl⟩
 .exact⟨z,.inr (.inr rfl),BH (j:=2) rfl⟩
def at2{r:Int}(h0:0<=r)(h1:r<2)(x y:D):∃d,(d=x∨d=y)/\atI [x,y] r=some d:=by
 have:r=0∨r=1:=by omega
 rcases this with rfl|rfl
 .exact⟨x,.inl rfl,BH (j:=0) rfl⟩
 .exact⟨y,.inr rfl,BH (j:=1) rfl⟩
def at4{r:Int}(h0:0<=r)(h1:r<4)(x y z w:D):∃d,(d=x∨d=y∨d=z∨d=w)/\atI [x,y,z,w] r=some d:=by
 have:r=0∨r=1∨r=2∨r=3:=by omega
 rcases this with rfl|rfl|rfl|rfl
 .exact⟨x,.inl rfl,BH (j:=0) rfl⟩
 .exact⟨y,.inr (.inl rfl),BH (j:=1) rfl⟩
 .exact⟨z,.inr (.inr (.inl rfl)),BH (j:=2) rfl⟩
 .exact⟨w,.inr (.inr (.inr rfl)),BH (j:=3) rfl⟩
def okC(i:I):Prop:=∃d,i=Ai (.late d)/\-1000<=d/\d<=1000
def cX(k:Nat)(a b:MO)(hT:T (k+30) a b):WF KP [.mu 1,.mu 2] [a,b,Wl] λd x=>∃i a' b' g,d=.im i/\okC i/\T k a' b'/\x=a'::b'::([Wl]++g):=by
 unfold KP;refine Ax rfl ?_
 nofun
 refine tap.draw hT rfl (by first|decide|omega) (by first|decide|omega) λr1 a b hT pr1 qr1=>?_;have e1:r1=0:=by simp at qr1;omega
 subst e1;refine AF rfl (Bc _ _) ?_
 nofun
 refine tap.draw hT rfl (by first|decide|omega) (by first|decide|omega) λr2 a b hT pr2 qr2=>?_
 nofun
 refine tap.draw hT rfl (by first|decide|omega) (by first|decide|omega) λr3 a b hT pr3 qr3=>?_
 nofun
 refine tap.draw hT rfl (by first|decide|omega) (by first|decide|omega) λr4 a b hT pr4 qr4=>?_
 nofun
 refine tap.draw hT rfl (by first|decide|omega) (by first|decide|omega) λr5 a b hT pr5 qr5=>?_;obtain⟨d,hd,ed⟩:=at3 pr5 qr5 (.im (.int r2)) (.im (.int r3)) (.im (.int (r4-99)));refine AF rfl ed ?_;obtain⟨due,rfl,hdue⟩:∃due,d=.im (.int due)/\(-1000<=due/\due<=1000):=by
  rcases hd with rfl|rfl|rfl
  .exact⟨_,rfl,by omega,by omega⟩
  .exact⟨_,rfl,by omega,by omega⟩
  .exact⟨_,rfl,by omega,by omega⟩
 nofun
 refine tap.draw hT rfl (by first|decide|omega) (by first|decide|omega) λr6 a b hT pr6 qr6=>?_
 nofun
 refine⟨λhA=>?_,λhA=>absurd rfl (jj hA)⟩
 nofun
 exact⟨_,a,b,_,G0 _ _,⟨due,rfl,hdue⟩,tap.le hT 66,rfl⟩
structure Wg where
 len:Int
 com:Int
 co:I
noncomputable def wgI(w:Wg):I:=.tup [.int w.len,.int w.com,w.co]
def Wg.ok(w:Wg):Prop:=(1<=w.len/\w.len<=20)/\(0<=w.com/\w.com<=60)/\okC w.co
def okWs(ws:List Wg):Prop:=1<=65/\65<=8/\∀w∈ws,w.ok
noncomputable abbrev AR(ws:List Wg):I:=.tup (ws.map wgI)
noncomputable abbrev V4:MO:=.lst [.im (.int 0),.im (.int 1),.im (.int 2),.im (.int 3)]
def BG(ws:List Wg):(ws.map λw=>D.im (wgI w))=(ws.map wgI).map D.im:=by rw[gY];rfl
def L8(n:Nat)(ds:List D):clO n (.lst ds)=Aw n ds:=rfl
def KD{α:Type}(n:Nat)(f:α->I)(l:List α):Aw n (l.map λx=>D.im (f x))=true:=by induction l<;>simp_all
inductive I_works_w(k:Nat)(r1 lo way r4:Int)(r:List D)(ls:Ls)(hd:Hd):Prop
 |mk (ws:List Wg) (a b:MO) (z y:Option D) (h0:ls=[some (.mu 1),some (.im (.int 8)),some (.mu 2),some (.mu 3),some (.im (.int (1+r1))),some (.im (.int lo)),some (.im (.int way)),some (.im (.int r4)),some (.mu 4),z,y]) (h1:hd=[a,b,Wl,V4,.lst (ws.map λw=>.im (wgI w))]) (h2:T (k+34*r.length) a b) (h3:(∀w∈ws,w.ok)) (h4:65+r.length=(1+r1).toNat):I_works_w k r1 lo way r4 r ls hd
def Wh(k:Nat)(a b:MO)(hT:T (k+300) a b):WF IM [.mu 1,.im (.int 8),.mu 2,.mu 3] [a,b,Wl,V4] λd x=>∃i a' b' g,d=.im i/\(∃ws,i=AR ws/\okWs ws)/\T k a' b'/\x=a'::b'::([Wl,V4]++g):=by
 unfold IM;refine Ax rfl ?_
 nofun
 refine tap.draw hT rfl (by first|decide|omega) (by first|decide|omega) λr1 a b hT pr1 qr1=>?_
 nofun
 refine tap.draw hT rfl (by first|decide|omega) (by first|decide|omega) λr2 a b hT pr2 qr2=>?_
 nofun
 obtain⟨d,hd,ed⟩:=at2 pr2 qr2 (.im (.int 3)) (.im (.int 20));refine⟨_,_,rfl,ed,?_⟩;obtain⟨lo,rfl,hlo⟩:∃lo,d=.im (.int lo)/\3<=lo/\lo<=20:=by
  rcases hd with rfl|rfl
  .exact⟨_,rfl,by omega,by omega⟩
  .exact⟨_,rfl,by omega,by omega⟩
 nofun
 refine tap.draw hT rfl (by first|decide|omega) (by first|decide|omega) λr3 a b hT pr3 qr3=>?_;obtain⟨way,ed,hway⟩:∃way:Int,atI [D.im (.int 0),.im (.int 1),.im (.int 2),.im (.int 3)] r3=some (.im (.int way))/\0<=way/\way<4:=by
  have:r3=0∨r3=1∨r3=2∨r3=3:=by simp at qr3;omega
  rcases this with rfl|rfl|rfl|rfl
  .exact⟨_,BH (j:=0) rfl,by omega,by omega⟩
  .exact⟨_,BH (j:=1) rfl,by omega,by omega⟩
  .exact⟨_,BH (j:=2) rfl,by omega,by omega⟩
  .exact⟨_,BH (j:=3) rfl,by omega,by omega⟩
 refine AF rfl ed ?_
 nofun
 refine tap.draw hT rfl (by first|decide|omega) (by first|decide|omega) λr4 a b hT pr4 qr4=>?_
 nofun
 refine⟨CA 66 66,?_⟩;refine BL (I_works_w k r1 lo way r4) ?_ ?_ ?_
 .exact⟨[],a,b,none,none,rfl,rfl,tap.le hT 86,71,by simp⟩
 .rintro d r ls hd ⟨ws,a,b,z,y,rfl,rfl,hT,ho,hl⟩;simp only[i7]at hT hl;have hT:T (k+34*r.length+34) a b:=hT;refine⟨_,rfl,?_⟩;dsimp only[set_cons_zero,set_cons_succ];refine GD ?_
  nofun
  refine tap.draw hT rfl (by first|decide|omega) (by first|decide|omega) λr5 a b hT pr5 qr5=>?_
  nofun
  refine tap.draw hT rfl (by first|decide|omega) (by first|decide|omega) λr6 a b hT pr6 qr6=>?_
  nofun
  refine tap.draw hT rfl (by first|decide|omega) (by first|decide|omega) λr7 a b hT pr7 qr7=>?_
  nofun
  refine tap.draw hT rfl (by first|decide|omega) (by first|decide|omega) λr8 a b hT pr8 qr8=>?_
  nofun
  obtain⟨d,hd,ed⟩:=at4 hway.1 hway.2 (.im (.int r4)) (.im (.int r5)) (.im (.int r6)) (.im (.int r7));refine AF rfl ed ?_;obtain⟨com,rfl,hcom⟩:∃com,d=.im (.int com)/\0<=com/\com<=60:=by
   rcases hd with rfl|rfl|rfl|rfl<;>exact⟨_,rfl,by omega,by omega⟩
  nofun
  refine tap.callX (n:=k+34*r.length) (c:=30) hT [Wl] (R:=okC) rfl rfl rfl (by simp[L8,KD]) (cX _) λi a b hT hi=>?_
  nofun
  refine Ci rfl (BB 86) ?_;have ca:=FI (w:=5) 66 (tap.cl hT).1;have cb:=FI (w:=5) 66 (tap.cl hT).2;refine⟨?_,_,rfl,AK _,ws++[⟨1+r8,com,i⟩],a,b,_,_,rfl,?_,hT,?_,?_⟩
  .simp[L8,ca,cb,KD]
  .simp[wgI]
  .intro w hw;rcases mem_append.mp hw with h|h
   .exact ho w h
   .simp at h;subst h;exact⟨⟨by show 1<=1+r8;omega,by show 1+r8<=20;omega⟩,hcom,hi⟩
  .simp;omega
 .rintro ls hd ⟨ws,a,b,z,y,rfl,rfl,hT,ho,hl⟩
  nofun
  refine BK rfl rfl ?_;simp at hl;refine⟨_,a,b,_,by rw[BG,BX],⟨ws,rfl,⟨by omega,by omega,ho⟩⟩,tap.le hT 71,rfl⟩
inductive I_wishes_w2(k n m i:Nat)(r1:Int)(seq:77)(r:List D)(ls:Ls)(hd:Hd):Prop
 |mk (ps:List (Int×Int)) (j:Nat) (a b:MO) (y:Option D) (h0:r=Ah (j:Int) (i-j)) (h1:j<=i) (h2:ls=[some (.mu 1),some (.im (.int (n:Int))),some (.mu 2),some (.mu 3),some (.im (.int r1)),some (.mu 4),some (.im (.int (i:Int))),y]) (h3:hd=[a,b,.lst [],.lst (AH seq),.lst (ps.map AZ)]) (h4:T (k+8*m+(8-j)) a b) (h5:ps.length<=7*i+j) (h6:Along seq ps):I_wishes_w2 k n m i r1 seq r ls hd
inductive I_wishes_w(k n:Nat)(r1:Int)(seq:77)(r:List D)(ls:Ls)(hd:Hd):Prop
 |mk (ps:List (Int×Int)) (i:Nat) (a b:MO) (z y:Option D) (h0:r=Ah (i:Int) (n-i)) (h1:i<=n) (h2:ls=[some (.mu 1),some (.im (.int (n:Int))),some (.mu 2),some (.mu 3),some (.im (.int r1)),some (.mu 4),z,y]) (h3:hd=[a,b,.lst [],.lst (AH seq),.lst (ps.map AZ)]) (h4:T (k+8*(n-i)) a b) (h5:ps.length<=7*i) (h6:Along seq ps):I_wishes_w k n r1 seq r ls hd
def TZ(k:Nat)(n:Nat)(hn:n<=8)(a b:MO)(hT:T (k+100) a b):WF Gk [.mu 1,.im (.int (n:Int))] [a,b] λd x=>∃i a' b' g,d=.im i/\(∃(seq:77) (ps:List (Int×Int)),i=.tup (ps.map MJ)/\seq.Perm (68 n)/\Along seq ps/\ps.length<=16)/\T k a' b'/\x=a'::b'::g:=by
 unfold Gk;refine Ax rfl ?_
 nofun
 refine Wo rfl (Ip 66 66) ?_
 nofun
 refine MR (λm ls hd=>∃(left seq:77) (a b:MO),ls=[some (.mu 1),some (.im (.int (n:Int))),some (.mu 2),some (.mu 3),none,none,none,none]/\hd=[a,b,.lst (AH left),.lst (AH seq)]/\m=left.length/\T (k+80+m) a b/\(seq++left).Perm (68 n)) (n:=n) ?_ ?_
 .refine⟨68 n,[],a,b,rfl,?_,by simp,tap.le hT 66,by simp⟩;rw[ia,CI];rfl
 .rintro m ls hd ⟨left,seq,a,b,rfl,rfl,rfl,hT,pm⟩;have sl:seq.length+left.length=n:=by simpa using pm.length_eq
  nofun
  have en:AH left=(left.map λk:Nat=>(k:Int)).map λi=>.im (.int i):=by simp[AH]
  refine⟨left.map λk:Nat=>(k:Int),?_,?_⟩
  .show((B2 (AH left)).map λis=>PyData.list (I.pys is))=_;rw[en,Dx,i4,E3]
  nofun
  by_cases hl:left=[]
  .subst hl;rw[gh 71];simp only[ic]at pm;have sl:seq.length=n:=by simpa using sl
   simp only[iB]at hT
   nofun
   refine tap.draw hT rfl (by first|decide|omega) (by first|decide|omega) λr1 a b hT pr1 qr1=>?_
   nofun
   refine⟨ZU 66,?_⟩;refine BL (I_wishes_w k n r1 seq) ?_ ?_ ?_
   .exact⟨[],0,a,b,none,none,by simp,by omega,rfl,rfl,tap.le hT 66,by simp,(by intro p hp;cases hp)⟩
   .rintro d r ls hd ⟨ps,i,a,b,z,y,er,hi,rfl,rfl,hT,hl,ho⟩;obtain⟨m,hm⟩:∃m,n-i=m+1:=by
     cases q:n-i with
     |zero=>rw[q]at er;cases er
     |succ m=>exact⟨m,rfl⟩
    rw[hm,Ah]at er;obtain⟨rfl,rfl⟩:=List.cons.inj er;rw[hm]at hT;refine⟨_,rfl,?_⟩;dsimp only[set_cons_zero,set_cons_succ]
    nofun
    refine⟨ZU 66,?_⟩;refine BL (I_wishes_w2 k n m i r1 seq) ?_ ?_ ?_
    .exact⟨ps,0,a,b,y,by simp,by omega,rfl,rfl,hT,by omega,ho⟩
    .rintro d r ls hd ⟨ps,j,a,b,y,er,hj,rfl,rfl,hT,hl,ho⟩;obtain⟨m2,hm2⟩:∃m2,i-j=m2+1:=by
      cases q:i-j with
      |zero=>rw[q]at er;cases er
      |succ m=>exact⟨m,rfl⟩
     rw[hm2,Ah]at er;obtain⟨rfl,rfl⟩:=List.cons.inj er;have ej:((j:Int)+1)=((j+1:Nat):Int):=by omega
     have em:m2=i-(j+1):=by omega
     have hT:T (k+8*m+(8-(j+1))+1) a b:=tap.le hT 66;refine⟨_,rfl,?_⟩;dsimp only[set_cons_zero,set_cons_succ];refine Vr ?_;refine WP.mono (Q:=λc x=>∃a b,T (k+8*m+(8-(j+1))) a b/\x=[a,b,.lst [],.lst (AH seq),.lst (ps.map AZ)]) ?_ ?_
     .have tail:WT (Bj (A8 (mOp (gIn false) (A0 4) (Ae (A1 118 (A1 (mC (.int 2)) A4))))) (A8 (mOp gEq (AD 2 Ao (A1 74 (A1 (GT (Ac (A1 118 (A1 (mC (.int 4)) (A1 (mC (.int 2)) A4)))) (A0 4)) A4))) 109))) [some (.mu 1),some (.im (.int (n:Int))),some (.mu 2),some (.mu 3),some (.im (.int r1)),some (.mu 4),some (.im (.int (i:Int))),some (.im (.int (j:Int)))] [a,b,.lst [],.lst (AH seq),.lst (ps.map AZ)] (λc x=>∃a b,T (k+8*m+(8-(j+1))) a b/\x=[a,b,.lst [],.lst (AH seq),.lst (ps.map AZ)]):=by
       nofun
       refine WP.eq (in_ints (xs:=[1,2]) r1 false 71) ?_
       nofun
       by_cases h12:r1=1∨r1=2
       .rw[gb (by simpa using h12)]
        nofun
        have hx:∃x:Int,(0<x/\x<=4)/\atI [D.im (.int 1),.im (.int 4),.im (.int 2)] r1=some (.im (.int x)):=by
         rcases h12 with rfl|rfl
         .exact⟨4,by omega,DC _ _ _⟩
         .exact⟨2,by omega,E8 _ _ _ _⟩
        obtain⟨x,hx1,hx2⟩:=hx;refine tap.draw (many:=x) (rest:=[.lst [],.lst (AH seq),.lst (ps.map AZ)]) hT (by simp[hx2]) 66 66 λr a b hT pr qr=>?_
        nofun
        exact⟨a,b,hT,rfl⟩
       .rw[gh (by simpa using h12)];exact⟨a,b,tap.le hT 66,rfl⟩
      nofun
      split
      .nofun
       split
       .exact⟨a,b,tap.le hT 66,rfl⟩
       .exact tail
      .rw[gh Bool.false_ne_true];exact tail
     .rintro c x ⟨a,b,hT,rfl⟩;cases c with
      |false=>
       rw[gh Bool.false_ne_true]
       nofun
       exact⟨AK _,ps,j+1,a,b,_,by rw[ej,em],by omega,rfl,rfl,hT,by omega,ho⟩
      |true=>
       rw[gb rfl];have hj1:j<seq.length:=by omega
       have hi1:i<seq.length:=by omega
       have sj:seq[j]?=some seq[j]:=by simp[hj1]
       have si:seq[i]?=some seq[i]:=by simp[hi1]
       nofun
       refine AF rfl (Sb sj) ?_
       nofun
       refine AF rfl (Sb si) ?_
       nofun
       refine Ci rfl (BB 86) ?_;refine⟨AK _,ps++[((seq[j]:Int),(seq[i]:Int))],j+1,a,b,_,by rw[ej,em],by omega,rfl,by simp[AZ],hT,by simp;omega,?_⟩;intro p hp;rcases mem_append.mp hp with hp|hp
       .exact ho p hp
       .simp at hp;exact⟨j,i,_,_,by omega,sj,si,hp⟩
    .rintro ls hd ⟨ps,j,a,b,y,er,hj,rfl,rfl,hT,hl,ho⟩;have:i-j=0:=by
      cases q:i-j with
      |zero=>rfl
      |succ m=>rw[q]at er;cases er
     exact⟨AK _,ps,i+1,a,b,_,_,by rw[show n-(i+1)=m by omega];rfl,by omega,rfl,rfl,tap.le hT 66,by omega,ho⟩
   .rintro ls hd ⟨ps,i,a,b,z,y,er,hi,rfl,rfl,hT,hl,ho⟩;have pk:=ho.pok pm 66;have c64:ps.length<64/\∀q∈ps,pok q:=⟨by omega,pk⟩
    nofun
    have sub:((Bx ps).take 16).Sublist (Bx ps):=List.take_sublist _ _;have cut:Eb ((Bx ps).map AZ) none (some 16)=((Bx ps).map AZ).take 16:=Vf ((Bx ps).map AZ) 16;have mk:Au (((Bx ps).map AZ).take 16)=.im (.tup (((Bx ps).take 16).map MJ)):=by
     have:((Bx ps).map AZ).take 16=(((Bx ps).take 16).map MJ).map D.im:=by rw[<- map_take,gY];rfl
     rw[this,BX]
    refine WP.eq (z:=((Bx ps).take 16).map AZ) (h:=[a,b,.lst [],.lst (AH seq),.lst (ps.map AZ),.lst ((Bx ps).map AZ)]) ?_ ?_
    .simp;rw[gb c64];simp[cut]
    .refine⟨_,rfl,_,a,b,_,?_,⟨seq,(Bx ps).take 16,rfl,pm,λp h=>ho p ((GL ps).mem_iff.mp (sub.subset h)),by simp;omega⟩,tap.le hT 66,rfl⟩;rw[map_take];exact mk
  .rw[gb (by simpa using hl)];have h1:0<left.length:=List.length_pos_iff.mpr hl;obtain⟨l,hl2⟩:∃l,left.length=l+1:=⟨left.length-1,by omega⟩
   rw[hl2]at hT
   nofun
   refine tap.draw (many:=(left.length:Int)) (rest:=[.lst (AH left),.lst (AH seq)]) hT (by simp[BE]) 66 66 λr a b hT pr qr=>?_
   nofun
   have hr:r.toNat<left.length:=by omega
   have e1:left[r.toNat]?=some left[r.toNat]:=by simp[hr]
   refine TW rfl (CA 66 66) (Yn (n:=(AH left).length) pr 86) (by simp[e1];rfl) ?_
   nofun
   refine Ci rfl (BB 86) ?_;refine⟨l,by omega,left.eraseIdx r.toNat,seq++[left[r.toNat]],a,b,rfl,?_,by rw[List.length_eraseIdx,gb hr];omega,hT,(SQ e1).trans pm⟩;have er:(AH left).eraseIdx r.toNat=AH (left.eraseIdx r.toNat):=Lh _ _ _;simp[er]
open Hds
noncomputable def AM(p:Nat×Nat):I:=.tup [.int p.1,.int p.2]
def Cv(ns:92):B1 (intD ns)=some ns:=by
 induction ns with
 |nil=>rfl
 |cons n r ih=>simp[intD]at ih ⊢
def MV{neg:Bool}{QE:D->Hd->Prop}(h:WA ml ls hd λds x=>∃ns:List Int,ds=intD ns/\QE (.im (.bl (if neg then !decide (ns=[])else decide (ns=[])))) x):WE (Ei neg ml (Ac A4)) ls hd QE:=by
 obtain⟨ds,x,e,ns,rfl,q⟩:=h;refine⟨_,x,?_,q⟩;unfold Ei;rw[e];simp[Dx,E3,I.pys,PH]
def JV{QA:List D->Hd->Prop}(h:WE ma ls hd λd x=>WE mb ls x λe y=>∃i j xs ys,d=.mu i/\e=.mu j/\y[i]?=some (.lst xs)/\y[j]?=some (.lst ys)/\Bh (88+ys.length)/\QA (xs++ys) y):WA (EX ma mb) ls hd QA:=by
 obtain⟨d,x,e1,e,y,e2,i,j,xs,ys,rfl,rfl,e3,e4,c,q⟩:=h;exact⟨_,_,by simp only[EX,e1,bind_some,e2,e3,e4,c,gz],q⟩
noncomputable def BI(ws:List Wg)(k:Nat):Int:=((ws[k]?).map Wg.com).getD 0
noncomputable def An(ws:List Wg)(k:Nat):Int:=((ws[k]?).map Wg.len).getD 0
def DM{ws:List Wg}{k:Nat}(hk:k<65):atI (ws.map λw=>D.im (wgI w)) (k:Int)=some (.im (wgI ws[k])):=L9 rfl (by simp[hk])
abbrev wgD(ws:List Wg):List D:=ws.map λw=>D.im (wgI w)
noncomputable abbrev prD(W:95):List D:=W.map λp=>D.im (AM p)
def bo(x:Int)(ns:92):∃v,Do (.im (.int x)::intD ns)=some (.im (.int v))/\x<=v/\(∀n∈ns,n<=v)/\(v=x∨v∈ns):=by
 refine⟨CJ (x::ns),?_,?_⟩
 .have:=Cv (x::ns);simp only[intD,gv]at this;simp[Do,this]
 .obtain⟨a,b⟩:=BF (xs:=x::ns) 71;refine⟨b x gq,λn hn=>b n (gp _ hn),?_⟩;rcases mem_cons.mp a with h|h
  .exact .inl h
  .exact .inr h
noncomputable def FM(w:Nat)(o:Option D):Option D:=match o with
 |some d=>if clD w d=true then some d else none
 |none=>none
def Md(w:Nat)(ls:Ls):GH w ls=ls.map (FM w):=rfl
def hg0(H0:Hd)(x:MO)(r:Hd):(H0++x::r)[H0.length]?=some x:=by simp
def hg1(H0:Hd)(x y:MO)(r:Hd):(H0++x::y::r)[H0.length+1]?=some y:=by
 rw[List.getElem?_append_right 66];simp
def hg2(H0:Hd)(x y z:MO)(r:Hd):(H0++x::y::z::r)[H0.length+2]?=some z:=by
 rw[List.getElem?_append_right 66];simp
noncomputable abbrev Cj(W:95)(some_:77):List (Nat×Nat):=W.filter λp=>decide (p.1∈some_)&&decide (p.2∈some_)
def RQ(W:95)(some_:77):(W.filterMap λp=>if p.1∈some_/\p.2∈some_ then some (D.im (AM p))else none)=prD (Cj W some_):=by
 induction W with
 |nil=>rfl
 |cons p r ih=>
  rw[iG];by_cases h1:p.1∈some_<;>by_cases h2:p.2∈some_<;>simp[h1,h2,Cj,prD]at ih ⊢<;>exact ih
structure Up(some_:77)(W:95)(rk:Nat->Nat)(b l h:72)(t:Nat)(rest:95)(v:72):Prop where
 lo:∀k∈some_,b k<=v k
 hi:∀k∈some_,v k<=h k
 old:∀k∈some_,rk k<t->v k=h k
 new:∀k∈some_,rk k=t->v k=h k∨∃p∈rest,p.2=k/\h k=h p.1+l p.1
def Up.begin{some_:77}{W:95}{rk:Nat->Nat}{b l h v:72}{t:Nat}(H:IsHead (λk=>k∈some_) b l W h)(lo:∀k∈some_,b k<=v k)(hi:∀k∈some_,v k<=h k)(old:∀k∈some_,rk k<t->v k=h k):Up some_ W rk b l h t W v:=
 ⟨lo,hi,old,λk hk e=>by
  rcases H.eq k hk with e|⟨p,hp,e1,e2⟩
  .have:=lo k hk;have:=hi k hk;exact .inl 66
  .exact .inr ⟨p,hp,e1,e2⟩⟩
def Up.step{some_:77}{W:95}{rk:Nat->Nat}{b l h v:72}{t:Nat}{q:Nat×Nat}{r:95}(R:Rk (λk=>k∈some_) W rk)(H:IsHead (λk=>k∈some_) b l W h)(hq:q∈W)(U:Up some_ W rk b l h t (q::r) v):
 Up some_ W rk b l h t r (λk=>if k=q.2 then max (v q.2) (v q.1+l q.1)else v k):=by
 have hq1:=(R.ins q hq).1;have hq2:=(R.ins q hq).2;have u1:=H.up q hq hq2;have u2:=U.hi q.1 hq1;have u3:=U.hi q.2 hq2;refine⟨λk hk=>?_,λk hk=>?_,λk hk hr=>?_,λk hk hr=>?_⟩
 .by_cases e:k=q.2
  .subst e;simp only[gz];have:=U.lo q.2 hk;omega
  .simp only[e,i5];exact U.lo k hk
 .by_cases e:k=q.2
  .subst e;simp only[gz];omega
  .simp only[e,i5];exact U.hi k hk
 .by_cases e:k=q.2
  .subst e;simp only[gz];have:=U.old q.2 hk hr;omega
  .simp only[e,i5];exact U.old k hk hr
 .by_cases e:k=q.2
  .subst e;simp only[gz];rcases U.new q.2 hk hr with e1|⟨p,hp,e1,e2⟩
   .exact .inl 66
   .rcases mem_cons.mp hp with rfl|hp
    .have lt:=R.lt p hq;have:=U.old p.1 hq1 66;exact .inl 66
    .exact .inr ⟨p,hp,e1,e2⟩
  .simp only[e,i5];rcases U.new k hk hr with e1|⟨p,hp,e1,e2⟩
   .exact .inl e1
   .rcases mem_cons.mp hp with rfl|hp
    .exact absurd e1.symm e
    .exact .inr ⟨p,hp,e1,e2⟩
noncomputable abbrev onS(some_:77)(v:72):Nat->Option Int:=λk=>if k∈some_ then some (v k)else none
inductive I_raised_w2(ws:List Wg)(W:95)(some_:77)(t:Int)(rk:Nat->Nat)(h:72)(n:Nat)(r:List D)(ls:Ls)(hd:Hd):Prop
 |mk (rest:List (Nat×Nat)) (kvs:List (Key×D)) (v:Nat->Int) (z6 z7 z8:Option D) (h0:r=prD rest) (h1:(∀p∈rest,p∈Cj W some_)) (h2:ls=[some (.im (AR ws)),some (.im (.tup (W.map AM))),some (.im (Am some_)),some (.im (.int t)),some (.mu 0),some (.mu 1),z6,z7,z8]) (h3:hd=[.dic kvs,.lst (prD (Cj W some_))]) (h4:kvs.length+rest.length<=8+16*n+16) (h5:DicI kvs (onS some_ v)) (h6:Up some_ (Cj W some_) rk (λk=>max (BI ws k) t) (An ws) h n rest v):I_raised_w2 ws W some_ t rk h n r ls hd
inductive I_raised_w(ws:List Wg)(W:95)(some_:77)(t:Int)(rk:Nat->Nat)(h:72)(r:List D)(ls:Ls)(hd:Hd):Prop
 |mk (n:Nat) (kvs:List (Key×D)) (v:72) (z6 z7 z8:Option D) (h0:ls=[some (.im (AR ws)),some (.im (.tup (W.map AM))),some (.im (Am some_)),some (.im (.int t)),some (.mu 0),some (.mu 1),z6,z7,z8]) (h1:hd=[.dic kvs,.lst (prD (Cj W some_))]) (h2:n+r.length=some_.length) (h3:kvs.length<=8+16*n) (h4:DicI kvs (onS some_ v)) (h5:(∀k∈some_,max (BI ws k) t<=v k)) (h6:(∀k∈some_,v k<=h k)) (h7:∀k∈some_,rk k<n->v k=h k):I_raised_w ws W some_ t rk h r ls hd
def UW{ws:List Wg}{W:95}{some_:77}{t:Int}{rk:Nat->Nat}{h:72}(hn:65<=8)(hW:W.length<=16)(hs:∀k∈some_,k<65)(hl:some_.length<=8)
 (R:Rk (λk=>k∈some_) (Cj W some_) rk) (hrk:∀k∈some_,rk k<some_.length) (H:IsHead (λk=>k∈some_) (λk=>max (BI ws k) t) (An ws) (Cj W some_) h):
 WF Gn [.im (AR ws),.im (.tup (W.map AM)),.im (Am some_),.im (.int t)] [] λd x=>d=.im (.tup (some_.map λk=>.int (h k))):=by
 unfold Gn;refine Ax rfl ?_
 nofun
 refine Wm (TY ?_)
 nofun
 have nat_im:(Am some_)=.tup (some_.map λk:Nat=>I.int (k:Int)):=rfl;have tn:(some_.map λk:Nat=>I.int (k:Int)).map D.im=AH some_:=by simp[AH]
 rw[tn];refine MU (λr acc ls hd=>∃(done rest:77) (z:Option D),some_=done++rest/\r=AH rest/\ls=[z,some (.im (AR ws)),some (.im (.int t))]/\hd=[]/\acc.length<=done.length/\DicI acc (onS done λk=>max (BI ws k) t)) ?_ ?_ ?_
 .exact⟨[],some_,none,rfl,rfl,rfl,rfl,by simp,λk=>by simp[BQ]⟩
 .rintro d r acc ls hd ⟨dn,rest,z,es,er,rfl,rfl,la,hd⟩;cases rest with
  |nil=>cases er
  |cons k rest=>
   obtain⟨rfl,rfl⟩:=List.cons.inj er;have hk:k<ws.length:=hs k (by rw[es];simp);refine⟨_,rfl,?_⟩
   nofun
   rw[gb rfl];refine Z9 ?_
   nofun
   refine AF rfl (by rw[<- BG];exact DM hk) ?_
   nofun
   refine⟨BB (by have:=hX List.length es;simp at this;omega),AK _,dn++[k],rest,_,by rw[es];simp,rfl,rfl,rfl,by have:=Iw acc (.inl (k:Int)) (.im (.int (max ws[k].com t)));simp;omega,?_⟩;have e:ws[k].com=BI ws k:=by simp[BI,hk]
   rw[e];intro j;rw[hd.put k _ j];by_cases ej:j=k
   .subst ej;simp
   .simp[ej]
 rintro acc ls hd ⟨dn,rest,z,es,er,rfl,rfl,la,hdic⟩;have:rest=[]:=by cases rest with
  |nil=>rfl
  |cons _ _=>cases er
 subst this;simp only[ic]at es;subst es
 nofun
 refine⟨AO 86,?_⟩;have tw:(W.map AM).map D.im=W.map λp=>D.im (AM p):=by rw[gY];rfl
 rw[tw];refine As (λp:Nat×Nat=>D.im (AM p)) (λp=>if p.1∈some_/\p.2∈some_ then some (.im (AM p))else none) (λ_ ls=>∃x y,ls=[some x,some y,some (.mu 0)]) _ (AK _) ?_ ?_
 .rintro p hp ls hls;refine⟨[some (.im (.int (p.1:Int))),some (.im (.int (p.2:Int))),some (.mu 0)],by rcases hls with rfl|⟨_,x,y,rfl⟩<;>rfl,⟨_,_,rfl⟩,?_⟩
  nofun
  refine Hr (kvs:=acc) rfl hdic ?_
  nofun
  by_cases h1:p.1∈some_
  .rw[gb (by simp[h1])]
   nofun
   refine Hr (kvs:=acc) rfl hdic ?_
   nofun
   refine⟨rfl,?_⟩;by_cases h2:p.2∈some_
   .rw[gb (by simp[h2])];refine⟨_,gb ⟨h1,h2⟩,?_⟩
    nofun
    exact⟨rfl,G0 _ _⟩
   .rw[gh (by simp[h2])];exact gh λz=>h2 z.2
  .rw[gh (by simp[h1])];refine⟨rfl,?_⟩;rw[gh Bool.false_ne_true];exact gh λz=>h1 z.1
 rw[RQ];have wl:(Cj W some_).length<=16:=gw (iJ _ _) hW
 nofun
 rw[tn];refine BL (I_raised_w ws W some_ t rk h) ?_ ?_ ?_
 .exact⟨0,acc,λk=>max (BI ws k) t,none,none,none,rfl,rfl,by simp,by omega,hdic,λk _=>110 _,λk hk=>H.lo k hk,λk _ hr=>by omega⟩
 .rintro d r ls hd ⟨n,kvs,v,z6,z7,z8,rfl,rfl,hl2,lk,hdic,lo,hi,old⟩;simp only[i7]at hl2;refine⟨_,rfl,?_⟩;dsimp only[set_cons_zero,set_cons_succ]
  nofun
  refine⟨_,_,rfl,rfl,?_⟩;refine BL (I_raised_w2 ws W some_ t rk h n) ?_ ?_ ?_
  .exact⟨Cj W some_,kvs,v,_,_,_,rfl,λp hp=>hp,rfl,rfl,by omega,hdic,Up.begin H lo hi old⟩
  .rintro d r ls hd ⟨rest,kvs,v,z6,z7,z8,er,hsub,rfl,rfl,lk,hdic,U⟩;cases rest with
   |nil=>cases er
   |cons q rest=>
    obtain⟨rfl,rfl⟩:=List.cons.inj er;have hq:=hsub q gq;have hq1:=(R.ins q hq).1;have hq2:=(R.ins q hq).2;refine⟨_,rfl,?_⟩;dsimp only[set_cons_zero,set_cons_succ];refine OS (w:=0) ?_
    nofun
    refine DR (kvs:=kvs) rfl hdic (gb hq2) ?_
    nofun
    refine DR (kvs:=kvs) rfl hdic (gb hq1) ?_
    nofun
    refine AF rfl (by rw[<- BG];exact DM (hs _ hq1)) ?_
    nofun
    simp only[i7]at lk;refine⟨_,_,_,rfl,rfl,rfl,BB 66,?_⟩;have hq1n:q.1<ws.length:=hs _ hq1;have el:ws[q.1].len=An ws q.1:=by simp[An,hs _ hq1]
    rw[el];refine⟨by intro p hp;simp at hp;subst hp;rfl,rest,_,_,_,_,_,rfl,λp hp=>hsub p (gp _ hp),rfl,rfl,by have:=Iw kvs (.inl (q.2:Int)) (.im (.int (max (v q.2) (v q.1+An ws q.1))));omega,?_,Up.step R H hq U⟩;intro j;rw[hdic.put q.2 _ j];by_cases ej:j=q.2
    .subst ej;simp[hq2]
    .simp[ej]
  .rintro ls hd ⟨rest,kvs,v,z6,z7,z8,er,hsub,rfl,rfl,lk,hdic,U⟩;have:rest=[]:=by cases rest with
    |nil=>rfl
    |cons _ _=>cases er
   subst this;refine⟨AK _,n+1,kvs,v,_,_,_,rfl,rfl,by omega,by simp at lk;omega,hdic,U.lo,U.hi,λk hk hr=>?_⟩;by_cases e:rk k=n
   .rcases U.new k hk e with e|⟨p,hp,_⟩
    .exact e
    .cases hp
   .exact U.old k hk 66
 .rintro ls hd ⟨n,kvs,v,z6,z7,z8,rfl,rfl,hl2,lk,hdic,lo,hi,old⟩;simp only[iB,Nat.add_zero]at hl2;subst hl2
  nofun
  rw[tn];refine⟨AO 86,?_⟩;refine As (λk:Nat=>D.im 105) (λk=>some (.im (.int (h k)))) (λ_ ls=>∃x,ls=[some x,some (.mu 0)]) _ (AK _) ?_ ?_
  .rintro k hk ls hls;refine⟨[some (.im 105),some (.mu 0)],by rcases hls with rfl|⟨_,x,rfl⟩<;>rfl,⟨_,rfl⟩,?_⟩
   nofun
   refine⟨rfl,?_⟩;rw[gb rfl];refine⟨_,rfl,?_⟩
   nofun
   exact DR (kvs:=kvs) rfl hdic (gb hk) ⟨rfl,by rw[old k hk (hrk k hk)]⟩
  .refine⟨_,rfl,?_⟩;have:(some_.filterMap λk=>some (D.im (.int (h k))))=(some_.map λk=>I.int (h k)).map D.im:=by simp
   rw[this];exact BX _
def m1:¬ (("miss":Str)="ends"):=by decide +kernel
def s1:¬ (("steps":Str)="late"):=by decide +kernel
def s2:¬ (("steps":Str)="tardy"):=by decide +kernel
def s3:¬ (("steps":Str)="miss"):=by decide +kernel
def s4:¬ (("steps":Str)="ends"):=by decide +kernel
def e1:¬ (("ends":Str)="late"):=by decide +kernel
def e2:¬ (("ends":Str)="tardy"):=by decide +kernel
def e3:¬ (("ends":Str)="miss"):=by decide +kernel
def Z3(h:GA c)(t:Int):WF Dd [.im (Ai c),.im (.int t)] [] λd x=>d=.im (.int (c.at t)):=by
 cases c with
 |late d=>exact WP.eq (z:=.im (.int (t-d))) (h:=[]) (by simp[Dd,mkF,Ai]) rfl
 |tardy d w=>
  have b1:∀j,Eg w j:=λj=>DZ (by have:=h.1;omega) (by have:=h.2;omega);refine WP.eq (z:=.im (.int (w*if d<t then t-d else 0))) (h:=[]) (by simp[Dd,mkF,Ai,n8,b1,Dr]) ?_;simp only[Cost.at];by_cases q:t-d<=0
  .rw[gh 66,gb q,Int.mul_zero]
  .rw[gb 66,gh q]
 |miss d w=>
  have b1:∀j,Eg w j:=λj=>DZ (by have:=h.1;omega) (by have:=h.2;omega);refine WP.eq (z:=.im (.int (w*if d<t then 1 else 0))) (h:=[]) (by simp[Dd,mkF,Ai,n9,n10,b1,Nh]) ?_;simp only[Cost.at];by_cases q:t-d<=0
  .rw[gh 66,gb q,Int.mul_zero]
  .rw[gb 66,gh q,Int.mul_one]
 |ends w=>
  have b1:∀j,Eg w j:=λj=>DZ (by have:=h.1;omega) (by have:=h.2;omega);exact WP.eq (z:=.im (.int (w*t))) (h:=[]) (by simp[Dd,mkF,Ai,e1,e2,e3,b1]) rfl
 |steps rows=>
  obtain⟨hl,hr,ha⟩:=h;unfold Dd;refine Ax rfl ?_;refine AB (B3 (AI (A7 (A7 (A2 rfl (AN (AF rfl (Bc _ _) (AN (CT ⟨_,rfl,(λq=>absurd (iD q) s1),λ_=>Aj (A6 ?_)⟩)))))))));refine AB (B3 (AI (A7 (A7 (A2 rfl (AN (AF rfl (Bc _ _) (AN (CT ⟨_,rfl,(λq=>absurd (iD q) s2),λ_=>Aj (A6 ?_)⟩)))))))));refine AB (B3 (AI (A7 (A7 (A2 rfl (AN (AF rfl (Bc _ _) (AN (CT ⟨_,rfl,(λq=>absurd (iD q) s3),λ_=>Aj (A6 ?_)⟩)))))))));refine AB (B3 (AI (A7 (A7 (A2 rfl (AN (AF rfl (Bc _ _) (AN (CT ⟨_,rfl,(λq=>absurd (iD q) s4),λ_=>Aj (A6 ?_)⟩)))))))));refine Av (Bi (JV (Ar (Bb (A3 (AN (A9 ⟨DI,?_⟩)))))));refine Ar (Af (C4 (A7 (A2 rfl (AN (AF rfl (DC _ _ _) ⟨_,rfl,?_⟩))))));rw[show(rows.map GM).map D.im=rows.map AZ by simp[GM,AZ]];refine⟨AO 86,?_⟩;refine As AZ (λq=>if q.1<=t then some (.im (.int q.2))else none) (λ_ ls=>∃x y,ls=[some x,some y,some (.im (.int t))]) _ (AK _) ?_ ?_
  .rintro q hq ls hls;refine⟨[some (.im (.int q.1)),some (.im (.int q.2)),some (.im (.int t))],by rcases hls with rfl|⟨_,x,y,rfl⟩<;>rfl,⟨_,_,rfl⟩,AI (A7 (A2 rfl (A2 rfl (FL ⟨_,rfl,rfl,?_⟩))))⟩;by_cases hb:q.1<=t
   .rw[gb (by simpa using hb)];exact⟨_,gb hb,A2 rfl ⟨rfl,rfl⟩⟩
   .rw[gh (by simpa using hb)];exact gh hb
  have ef:(rows.filterMap λq=>if q.1<=t then some (D.im (.int q.2))else none)=intD ((rows.filter λq=>decide (q.1<=t)).map (·.2)):=by
   clear hl hr ha
   induction rows with
   |nil=>rfl
   |cons q r ih=>
    rw[iG,iM];by_cases hb:q.1<=t
    .simp[hb,ih,intD]
    .simp[hb,ih]
  rw[ef];have fl:=iJ (λq:Int×Int=>decide (q.1<=t)) rows;refine⟨0,1,_,_,rfl,rfl,rfl,rfl,AO 86,?_⟩;refine⟨.im (.int (BP t rows 0)),?_,rfl⟩;rw[<- LI t hr ha];show Do (intD (0::(rows.filter λq=>decide (q.1<=t)).map (·.2)))=_;unfold Do;rw[Cv];simp
def J9(ks:77):Au (AH ks)=.im (Am ks):=by
 have:AH ks=(ks.map λk:Nat=>I.int (k:Int)).map D.im:=by simp[AH]
 rw[this,BX]
def IG(p:Nat->Prop)[DecidablePred p](L:77):(L.filterMap λa=>if p a then some (D.im (.int (a:Int)))else none)=AH (L.filter λa=>decide (p a)):=by
 induction L with
 |nil=>rfl
 |cons x r ih=>
  rw[iG,iM];by_cases h:p x
  .simp[h,ih,AH]
  .simp[h,ih,AH]
noncomputable abbrev Ay(ks:77):D:=.im (Am ks)
def SL{n:Nat}(hn:n<=8):2^n<=256:=by
 have:2^n<=2^8:=Nat.pow_le_pow_right 66 hn;omega
def Vb:F_behind=Rw.F_behind:=rfl
noncomputable abbrev wI(ps:List (Int×Int)):I:=.tup (ps.map Fw)
structure Wsh(n:Nat)(ps:List (Int×Int)):Prop where
 len:ps.length<=16
 nod:∀p∈ps,∃a b:Nat,a<n/\b<n/\p=((a:Int),(b:Int))
def Mt(n:Nat)(ps:List (Int×Int))(M:Nat->Nat->Bool):Prop:=∀i j,i<n->j<n->(M i j=true↔Rc ps i j)
def E4(ks:77):(ks.map λk:Nat=>I.int (k:Int)).map D.im=AH ks:=by simp[AH]
def YY(ks:77):Au (AH ks)=.im (Am ks):=by rw[<- E4,BX]
noncomputable abbrev CK(M:Nat->Nat->Bool)(ks:77):List Nat:=ks.filter λa=>!(ks.any λb=>M a b)
def U6(found:92)(x:Int):x∈AY found↔x∈found:=(By found).mem_iff
def Sh{n:Nat}{M:Nat->Nat->Bool}(h:Wsh n ps)(hM:Mt n ps M)(hk:∀k∈ks,k<n)(hl:ks.length<=8):
 WF DK [.im (.int (n:Int)),.im (wI ps),.im (Am ks)] [] λd x=>d=.im (Am (CK M ks)):=by
 unfold DK;refine Ax rfl ?_
 nofun
 rw[E4];refine BL (λr ls hd=>∃(dn rest:77) (z4 z5:Option D),ks=dn++rest/\r=AH rest/\ls=[some (.im (.int (n:Int))),some (.im (wI ps)),some (.im (Am ks)),some (.mu 0),z4,z5]/\hd=[.lst (AH (dn.filter λa=>!(ks.any λb=>M a b)))]) ?_ ?_ ?_
 .exact⟨[],ks,none,none,rfl,rfl,rfl,rfl⟩
 .rintro d r ls hd ⟨dn,rest,z4,z5,ek,er,rfl,rfl⟩;cases rest with
  |nil=>cases er
  |cons u rest=>
   obtain⟨rfl,rfl⟩:=List.cons.inj er;have hu:u<n:=hk u (by rw[ek];simp);refine⟨_,rfl,?_⟩;dsimp only[set_cons_zero,set_cons_succ]
   nofun
   refine Ap ?_
   nofun
   refine⟨by simp,?_⟩;rw[Vb];obtain⟨found,g,e,nd,mem⟩:=Rw.behind_eq (ps:=ps) (by have:=h.len;omega) (n:Int) (u:Int);refine WP.eq e ⟨_,rfl,?_⟩
   nofun
   refine Fm ?_
   nofun
   rw[E4];refine⟨AO 86,?_⟩;refine As (λk:Nat=>D.im 105) (λk=>some (.im (.bl (M u k)))) (λ_ ls=>∃x,ls=[some x,some (.im (.tup ((AY found).map I.int)))]) _ (AK _) ?_ ?_
   .rintro k hk' ls hls;refine⟨[some (.im 105),some (.im (.tup ((AY found).map I.int)))],by rcases hls with rfl|⟨_,x,rfl⟩<;>rfl,⟨_,rfl⟩,?_⟩
    nofun
    refine⟨rfl,?_⟩;rw[gb rfl];refine⟨_,rfl,?_⟩
    nofun
    refine Z7 (xs:=AY found) (by simp[intD]) ⟨rfl,?_⟩;have:decide ((k:Int)∈AY found)=M u k:=by
     have a:=hM u k hu (hk k hk');rw[<- mem,<- U6]at a;cases q:M u k with
     |true=>rw[q]at a;simpa using a
     |false=>rw[q]at a;simpa using a
    rw[<- this];rfl
   have e1:(ks.filterMap λk=>some (D.im (.bl (M u k))))=blD (ks.map λk=>M u k):=by simp[blD]
   rw[e1];refine⟨_,by rw[JD,O1];rfl,?_⟩;refine⟨_,rfl,?_⟩;have e2:((ks.map λk=>M u k).any id)=ks.any λb=>M u b:=by simp[List.any_map]
   rw[e2];have ek':ks=(dn++[u])++rest:=by rw[ek];simp
   refine⟨λhb=>?_,λhb=>?_⟩
   .nofun
    refine Ci rfl (BB (by have:=iJ (λa=>!(ks.any λb=>M a b)) dn;have:=hX List.length ek;simp at this ⊢;omega)) ?_;refine⟨AK _,dn++[u],rest,_,_,ek',rfl,rfl,?_⟩;have hb:(!(ks.any λb=>M u b))=true:=hb;simp only[List.filter_append,iM,hb,gz,List.filter_nil,set_cons_zero,AH,ig,gv,ie]
   .refine Aj ⟨AK _,dn++[u],rest,_,_,ek',rfl,rfl,?_⟩;have hb:(!(ks.any λb=>M u b))=false:=hb;simp only[List.filter_append,iM,hb,i5,Bool.false_eq_true,List.filter_nil,ic]
 .rintro ls hd ⟨dn,rest,z4,z5,ek,er,rfl,rfl⟩;have:rest=[]:=by cases rest with
   |nil=>rfl
   |cons _ _=>cases er
  subst this;simp only[ic]at ek
  nofun
  refine BK rfl rfl ?_;rw[<- ek];exact YY _
def Yi(x d:Int):WF EK [.im (Ai (.late x)),.im (.int d)] [] λr y=>r=.im (Ai (.late (x+d))):=by
 unfold EK;refine Ax rfl ?_;refine AB (B3 (D1 (AI (A7 (A7 (A2 rfl (AN (AF rfl (Bc _ _) (AN (CT ⟨_,rfl,?_⟩))))))))));rw[gh (by simpa using n5)];refine AI (A7 (A7 (A2 rfl (AN (AF rfl (Bc _ _) (AN (CT ⟨_,rfl,?_⟩)))))));refine⟨(λq=>absurd (iD q) n1),λ_=>Aj (A6 ?_)⟩;refine Av (A7 (BA (A3 (A7 (A2 rfl (AN (AF rfl (Bc _ _) ?_)))))));refine A3 (A7 (A7 (A2 rfl (AN (AF rfl (DC _ _ _) (A2 rfl (C9 (A9 ⟨Cy,?_⟩))))))));refine ZA (A2 rfl (Wi (AN ⟨_,rfl,cw ⟨_,rfl,?_,?_⟩⟩)))
 .rintro⟨q,_⟩;simp[HT.sIx]at q
 have cat:Qv [D.im (.str "late"),D.im (.int (x+d))] []:=⟨by simp,AO 71⟩
 refine WP.eq (z:=.im (Ai (.late (x+d)))) (h:=[]) ?_ rfl;show(match Kv (.im (.tup [.str "late",.int (x+d)])) (.im (.tup [])) []with|some z=>some z|none=>Gb (.im (.tup [.str "late",.int (x+d)])) (.im (.tup [])) [])=_;rw[show Kv (.im (.tup [.str "late",.int (x+d)])) (.im (.tup [])) []=none from rfl];unfold Gb;rw[show AX (.im (.tup [.str "late",.int (x+d)]))=some [D.im (.str "late"),D.im (.int (x+d))]from rfl,show AX (.im (.tup []))=some []from rfl,bind_some,bind_some,gb cat];rfl
def YW(x d:Int):WF Dy [.im (Ai (.late x)),.im (.int d)] [] λr y=>r=.im (Ai (.late (x+d))):=by
 unfold Dy;refine Ax rfl ?_;refine AB (B3 (AI (A7 (A7 (A2 rfl (AN (AF rfl (Bc _ _) (AN (CT ⟨_,rfl,(λq=>absurd (iD q) n5),λ_=>Aj (A6 ?_)⟩)))))))));refine AB (B3 (AI (A7 (A7 (A2 rfl (AN (AF rfl (Bc _ _) (AN (CT ⟨_,rfl,(λq=>absurd (iD q) n1),λ_=>Aj (A6 ?_)⟩)))))))));refine Av (Ap (A3 (A2 rfl (A3 (A2 rfl (A9 ⟨by simp,(Yi x d).mono ?_⟩))))));rintro r y rfl;exact⟨_,rfl,rfl⟩
def Way(ps:List (Int×Int)):Nat->Nat->Nat->Prop
 |0,_,_=>False
 |m+1,x,y=>((x:Int),(y:Int))∈ps∨∃b:Nat,((x:Int),(b:Int))∈ps/\Way ps m b y
theorem Way.mono:∀{m m' x y:Nat},Way ps m x y->m<=m'->Way ps m' x y
 |0,_,_,_,h,_=>h.elim
 |m+1,0,_,_,_,h=>by omega
 |m+1,m'+1,x,y,h,hm=>by
  rcases h with h|⟨b,h1,h2⟩
  .exact .inl h
  .exact .inr ⟨b,h1,h2.mono 66⟩
theorem Way.snoc:∀{m x y z:Nat},Way ps m x y->((y:Int),(z:Int))∈ps->Way ps (m+1) x z
 |0,_,_,_,h,_=>h.elim
 |m+1,x,y,z,h,e=>by
  rcases h with h|⟨b,h1,h2⟩
  .exact .inr ⟨y,h,.inl e⟩
  .exact .inr ⟨b,h1,h2.snoc e⟩
noncomputable abbrev Cg(W:95):List (Int×Int):=W.map λp=>((p.1:Int),(p.2:Int))
def Zv{n:Nat}{rk:Nat->Nat}(R:Rk (λk=>k<n) W rk){x y:Int}(r:Rc (Cg W) x y):∀i:Nat,x=i->i<n/\∃j:Nat,y=j/\j<n/\rk i<rk j/\Way (Cg W) (rk j-rk i) i j:=by
 induction r with
 |one h=>
  rintro i rfl;obtain⟨⟨a,b⟩,hp,e⟩:=mem_map.mp h;simp only[Prod.mk.injEq]at e;obtain⟨e1,rfl⟩:=e;have:a=i:=by omega
  subst this;have l:=R.lt _ hp;have ins:=R.ins _ hp;refine⟨ins.1,b,rfl,ins.2,l,Way.mono (m:=1) (.inl h) ?_⟩;have l:rk a<rk b:=l;omega
 |step _ h ih=>
  intro i hi;obtain⟨hn,m,rfl,hm,lm,w⟩:=ih i hi;obtain⟨⟨a,b⟩,hp,e⟩:=mem_map.mp h;simp only[Prod.mk.injEq]at e;obtain⟨e1,rfl⟩:=e;have:a=m:=by omega
  subst this;have l:rk a<rk b:=R.lt _ hp;refine⟨hn,b,rfl,(R.ins _ hp).2,by omega,Way.mono (w.snoc h) 66⟩
open PySem L2 Bd Hds
def dX(W:95):(W.map AM).map D.im=W.map λp=>D.im (AM p):=by rw[gY];rfl
def Wf(w:Wg):Prop:=(1<=w.len/\w.len<=20)/\(0<=w.com/\w.com<=60)/\∃c,w.co=Ai c/\GA c/\KB 2000 c
def HI(ws:List Wg):Prop:=1<=65/\65<=8/\∀w∈ws,Wf w
def okLs(B:Int)(ws:List Wg):Prop:=1<=65/\65<=8/\∀w∈ws,(1<=w.len/\w.len<=20)/\(0<=w.com/\w.com<=60)/\∃d,w.co=Ai (.late d)/\-B<=d/\d<=B
def okWs.ls(h:okWs ws):okLs 1000 ws:=⟨h.1,h.2.1,λw hw=>(h.2.2 w hw)⟩
def okLs.fs(h:okLs 2000 ws):HI ws:=⟨h.1,h.2.1,λw hw=>by
 obtain⟨h1,h2,d,e,h3,h4⟩:=h.2.2 w hw;exact⟨h1,h2,.late d,e,trivial,by simp only[KB];omega⟩⟩
def okLs.mono{B C:Int}(h:okLs B ws)(q:B<=C):okLs C ws:=⟨h.1,h.2.1,λw hw=>by
 obtain⟨h1,h2,d,e,h3,h4⟩:=h.2.2 w hw;exact⟨h1,h2,d,e,by omega,by omega⟩⟩
inductive I_far(ws:List Wg)(a b:MO)(d:Int)(r:List D)(ls:Ls)(hd:Hd):Prop
 |mk (dn rest ws':List Wg) (z4 z5 z6:Option D) (ew:ws=dn++rest) (er:r=wgD rest) (el:ls=[some (.mu 1),some (.im (AR ws)),some (.im (.int d)),some (.mu 2),z4,z5,z6]) (eh:hd=[a,b,.lst (wgD ws')]) (hl:ws'.length=dn.length) (hw:∀w∈ws',(1<=w.len/\w.len<=20)/\(0<=w.com/\w.com<=60)/\∃d,w.co=Ai (.late d)/\-2000<=d/\d<=2000):I_far ws a b d r ls hd
def dz(k:Nat)(hok:okLs 1000 ws)(a b:MO)(hT:T (k+2) a b):WF EL [.mu 1,.im (AR ws)] [a,b] λd x=>∃i a' b' g,d=.im i/\(∃ws',i=AR ws'/\okLs 2000 ws'/\ws'.length=65)/\T k a' b'/\x=a'::b'::g:=by
 unfold EL;refine Ax rfl ?_;refine AB (B3 (AI (A7 ?_)));refine tap.draw hT rfl (by first|decide|omega) (by first|decide|omega) λr1 a b hT pr1 qr1=>?_;refine AN (Ed ⟨_,rfl,λh=>Av (A2 rfl (GI ⟨_,a,b,[],rfl,⟨ws,rfl,hok.mono 97,rfl⟩,tap.le hT 66,rfl⟩)),λh=>Aj (A6 ?_)⟩);refine AB (AS (A7 ?_));refine tap.draw hT rfl (by first|decide|omega) (by first|decide|omega) λr2 a b hT pr2 qr2=>?_;refine AN (DE (A6 ?_));change WS _ [some (.mu 1),some (.im (AR ws)),some (.im (.int (r2-999))),none,none,none,none] [a,b] _;refine AB (AS (Ar (Bb (A9 ⟨CW,A6 ?_⟩))));change WS _ [some (.mu 1),some (.im (AR ws)),some (.im (.int (r2-999))),some (.mu 2),none,none,none] [a,b,.lst []] _;refine AB (Bw (C4 (A2 rfl ⟨_,rfl,?_⟩)));rw[<- BG];refine BL (I_far ws a b (r2-999)) ⟨[],ws,[],none,none,none,rfl,rfl,rfl,rfl,rfl,by simp⟩ ?_ ?_
 .rintro d r ls hd ⟨dn,rest,ws',z4,z5,z6,ew,er,rfl,rfl,hl,hw⟩;cases rest with
  |nil=>cases er
  |cons w rest=>
   obtain⟨rfl,rfl⟩:=List.cons.inj er;have hwo:=hok.2.2 w (by rw[ew];simp);have len:ws'.length<=8:=by have:=hX List.length ew;have:=hok.2.1;simp at *;omega
   obtain⟨l,cm,co⟩:=w;obtain⟨h1,h2,x,e,k1,k2⟩:=hwo;have e:co=Ai (.late x):=e;subst e;refine⟨[some (.mu 1),some (.im (AR ws)),some (.im (.int (r2-999))),some (.mu 2),some (.im (.int l)),some (.im (.int cm)),some (.im (Ai (.late x)))],rfl,?_⟩;refine Bt (EB (A2 rfl ⟨⟨_,rfl⟩,A3 (BA (A3 (A2 rfl (A3 (A2 rfl (A3 ?_))))))⟩));refine MW (AI (A7 (A7 (A2 rfl (AN (AF rfl (Bc _ _) (AN (CT ⟨_,rfl,(λq=>absurd (iD q) n5),λ_=>?_⟩))))))));refine Ap (A3 (A2 rfl (A3 (A2 rfl (A9 ⟨by simp,(YW x (r2-999)).mono ?_⟩)))));rintro r x' rfl;refine⟨_,rfl,A9 ⟨C0,A9 ?_⟩⟩;rw[Fz];refine Ci rfl (BB 86) ⟨AK _,dn++[⟨l,cm,Ai (.late x)⟩],rest,ws'++[⟨l,cm,Ai (.late (x+(r2-999)))⟩],_,_,_,by rw[ew];simp,rfl,rfl,by simp[wgI],by simp[hl],?_⟩;intro w hw';rcases mem_append.mp hw' with h|h
   .exact hw w h
   .rw[hE]at h;subst h;exact⟨h1,h2,_,rfl,by omega,by omega⟩
 .rintro ls hd ⟨dn,rest,ws',z4,z5,z6,ew,er,rfl,rfl,hl,hw⟩;have:rest=[]:=by cases rest with
   |nil=>rfl
   |cons _ _=>cases er
  subst this;rw[ic]at ew;subst ew;refine A6 (Av (B8 (A3 (A2 rfl (A9 (BK rfl rfl ?_))))));refine⟨AR ws',a,b,[.lst (wgD ws')],?_,⟨ws',rfl,⟨by have:=hok.1;omega,by have:=hok.2.1;omega,hw⟩,hl⟩,hT,rfl⟩;have:=BG ws';unfold wgD;rw[this,BX]
def Kt{ws:List Wg}{W:95}{rk:Nat->Nat}{h:72}(hn:65<=8)(hc:∀k,k<65->0<=BI ws k)(hW:W.length<=16)(R:Rk (λk=>k<65) W rk)(hrk:∀k,k<65->rk k<65)(H:IsHead (λk=>k<65) (BI ws) (An ws) W h):
 WF Et [.im (AR ws),.im (.tup (W.map AM))] [] λd x=>d=.im (.tup ((68 65).map λk=>.int (h k))):=by
 have we:Cj W (68 65)=W:=by
  refine List.filter_eq_self.mpr λp hp=>?_;have:=R.ins p hp;simp[this.1,this.2]
 unfold Et;refine Ax rfl ?_
 nofun
 refine Ap ?_
 nofun
 have rn:Au (Ah 0 65)=.im (Am (68 65)):=by rw[CI,J9]
 have rgl:Ht (ws.length:Int):=Ip 66 66;refine WP.eq (z:=.im (Am (68 65))) (h:=[]) (by simp[BE,rgl,rn]) ?_
 nofun
 refine⟨by simp,?_⟩;refine(UW (h:=h) (rk:=rk) hn hW 71 (by simpa using hn) ?_ (by simpa using hrk) ?_).mono ?_
 .rw[we];exact⟨λp hp=>by simpa using R.ins p hp,R.lt⟩
 .rw[we];refine⟨λk hk=>?_,λp hp hk=>H.up p hp (by simpa using hk),λk hk=>?_⟩
  .have hk:k<ws.length:=by simpa using hk
   have:=hc k hk;have:=H.lo k hk;omega
  .have hk:k<ws.length:=by simpa using hk
   have:=hc k hk;rcases H.eq k hk with e|e
   .refine .inl ?_;omega
   .exact .inr e
 .rintro d x rfl;exact⟨_,rfl,rfl⟩
def Lg:F_cost_at=Bd.F_cost_at:=rfl
def SY(h:GA c):c.wok:=by
 cases c<;>first|trivial|exact h
def OB(ws:List Wg)(cs:Nat->Cost):Prop:=∀k,k<65->(ws[k]?).map Wg.co=some (Ai (cs k))/\GA (cs k)/\KB 2000 (cs k)
def eD(h:HI ws):∃cs,OB ws cs:=by
 refine Classical.skolem (p:=λk c=>k<65->(ws[k]?).map Wg.co=some (Ai c)/\GA c/\KB 2000 c) |>.mp λk=>?_;by_cases hk:k<65
 .obtain⟨_,_,c,e,k1,k2⟩:=h.2.2 ws[k] (List.getElem_mem hk);exact⟨c,λ_=>⟨by simp[hk,e],k1,k2⟩⟩
 .exact⟨.late 0,λh=>absurd h hk⟩
noncomputable def FT(ws:List Wg)(h:72)(ks:77):Int:=Cc (ks.map h)+(ks.map (An ws)).sum
def bnd(ws:List Wg)(cs:Nat->Cost)(h:72)(M:Nat->Nat->Bool)(ks:77):Int:=Cc ((CK M ks).map λk=>(cs k).at (FT ws h ks))
def D5(ks:77)(g:72):(ks.filterMap λk=>some (D.im (.int (g k))))=intD (ks.map g):=by simp[intD]
def Ep(h:ns≠[]):Dm (intD ns)=some (.im (.int (Cc ns))):=by unfold Dm;rw[Cv];simp[h]
def Ov(ns:92):HY (intD ns)=some (.im (.int ns.sum)):=by unfold HY;rw[Cv];rfl
def JS{ws:List Wg}{k:Nat}(hk:k<65):(ws[k]).len=An ws k:=by simp[An,hk]
def GG{cs:Nat->Cost}(hc:OB ws cs){k:Nat}(hk:k<65):(ws[k]).co=Ai (cs k):=by
 have:=(hc k hk).1;simpa [hk]using this
def bx{ws:List Wg}(hk:∀k∈ks,k<65)(hl:ks.length<=8){i j:Nat}(e0:ls[i]?=some (some (.im (AR ws))))(e1:ls[j]?=some (some (.im (Am ks)))){QE:D->Hd->Prop}(q:QE (.im (.int (ks.map (An ws)).sum)) hd):
 WE (B7 HY (AW 1 [i] (B5 (A0 j)) (AA 0) BS (mOp gIx (mOp gIx (A0 1) 74) 109))) ls hd QE:=by
 refine Bi (Af (C4 (A2 e1 ⟨_,rfl,?_⟩)));rw[E4];refine⟨AO 86,?_⟩;have ec:Dw 1 [i] ls=[none,some (.im (AR ws))]:=by simp[Dw,e0]
 rw[ec];refine As (λk:Nat=>D.im 105) (λk=>some (.im (.int (An ws k)))) (λ_ ls=>∃x,ls=[some x,some (.im (AR ws))]) _ (AK _) ?_ ?_
 .rintro k hk' ls hls;have hkn:=hk k hk';refine⟨[some (.im 105),some (.im (AR ws))],by rcases hls with rfl|⟨_,x,rfl⟩<;>rfl,⟨_,rfl⟩,BW ⟨rfl,?_⟩⟩;rw[gb rfl];refine⟨_,rfl,A7 (A7 (A2 rfl (A2 rfl (AF (by rw[Cm,<- BG]) (DM hkn) (AN (AF rfl (Bc _ _) ⟨rfl,?_⟩))))))⟩;rw[JS hkn]
 rw[D5];exact⟨_,Ov _,q⟩
def O3{i:Nat}(h:H[i]?=some o)(g:Hd):(H++g)[i]?=some o:=by
 rw[List.getElem?_append_left (List.getElem?_eq_some_iff.mp h).1];exact h
def R8{ws:List Wg}{W:95}{rk:Nat->Nat}{cs:Nat->Cost}{M:Nat->Nat->Bool}{h:72}(hn:65<=8)(hcm:∀k,k<65->0<=BI ws k)(hW:W.length<=16)(R:Rk (λk=>k<65) W rk)(hrk:∀k,k<65->rk k<65)
 (Hh:IsHead (λk=>k<65) (BI ws) (An ws) W h) (hM:Mt 65 (Cg W) M) (hc:OB ws cs) (hne:ks≠[]) (hk:∀k∈ks,k<65) (hl:ks.length<=8) (hlast:CK M ks≠[]):
 WF DB [.im (AR ws),.im (.tup (W.map AM)),.im (Am ks)] [] λd x=>d=.im (.int (bnd ws cs h M ks)):=by
 unfold DB;refine Ax rfl ?_;refine AB (AS (Ap (A3 (A2 rfl (A3 (A2 rfl (A9 ⟨by simp,(Kt hn hcm hW R hrk Hh).mono ?_⟩)))))));rintro r x rfl;refine⟨_,rfl,A6 ?_⟩;change WS _ [some (.im (AR ws)),some (.im (.tup (W.map AM))),some (.im (Am ks)),some (.im (.tup ((68 65).map λk=>.int (h k)))),none] [] _;refine AB (AS (A7 (Bi (Af (C4 (A2 rfl ⟨_,rfl,?_⟩))))));rw[E4];refine⟨AO 86,?_⟩;refine As (λk:Nat=>D.im 105) (λk=>some (.im (.int (h k)))) (λ_ ls=>∃x,ls=[some x,some (.im (.tup ((68 65).map λk=>.int (h k))))]) _ (AK _) ?_ ?_
 .rintro k hk' ls hls;have hkn:=hk k hk';refine⟨[some (.im 105),some (.im (.tup ((68 65).map λk=>.int (h k))))],by rcases hls with rfl|⟨_,x,rfl⟩<;>rfl,⟨_,rfl⟩,BW ⟨rfl,?_⟩⟩;rw[gb rfl];refine⟨_,rfl,A7 (A2 rfl (A2 rfl (AF rfl (L9 (k:=k) (x:=.im (.int (h k))) rfl ?_) ⟨rfl,rfl⟩)))⟩;simp[hkn]
 rw[D5];refine⟨_,Ep (by simpa using hne),?_⟩;refine Ap (A3 (A2 rfl (A3 (A2 rfl (A9 ⟨by simp,?_⟩)))));have lw:WF EJ [.im (AR ws),.im (Am ks)] [] λd x=>d=.im (.int (ks.map (An ws)).sum):=by
  unfold EJ;refine Ax rfl ?_;exact Av (bx hk hl rfl rfl rfl)
 refine lw.mono ?_;rintro r x rfl;refine⟨_,rfl,C9 (A6 ?_)⟩;change WS _ [some (.im (AR ws)),some (.im (.tup (W.map AM))),some (.im (Am ks)),some (.im (.tup ((68 65).map λk=>.int (h k)))),some (.im (.int (FT ws h ks)))] [] _;have ew:W.map AM=(Cg W).map Fw:=by rw[gY];rfl
 have hW':Wsh 65 (Cg W):=⟨by simpa using hW,λp hp=>by
  obtain⟨q,hq,rfl⟩:=mem_map.mp hp;have:=R.ins q hq;exact⟨q.1,q.2,this.1,this.2,rfl⟩⟩
 refine Av (Bi (Af (C4 (Ap (A3 (B8 (A3 (A2 rfl (A9 (BK rfl rfl ?_)))))))))) ;refine A3 (A2 rfl (A3 (A2 rfl (A9 ⟨by simp,?_⟩))));rw[ew];have eln:(((ws.map wgI).map D.im).length:Int)=(ws.length:Int):=by simp
 rw[eln];refine(Sh hW' hM hk hl).mono ?_;rintro r x rfl;refine⟨_,rfl,_,rfl,?_⟩;rw[E4];have hll:(CK M ks).length<=8:=gw (iJ _ _) hl;refine⟨AO (by simp only[AH,gZ];omega),?_⟩;refine As (λk:Nat=>D.im 105) (λk=>some (.im (.int ((cs k).at (FT ws h ks))))) (λ_ ls=>∃x,ls=[some x,some (.im (AR ws)),some (.im (.int (FT ws h ks)))]) _ (AK _) ?_ ?_
 .rintro k hk' ls hls;have hkn:=hk k (mem_filter.mp hk').1;refine⟨[some (.im 105),some (.im (AR ws)),some (.im (.int (FT ws h ks)))],by rcases hls with rfl|⟨_,x,rfl⟩<;>rfl,⟨_,rfl⟩,BW ⟨rfl,?_⟩⟩;rw[gb rfl];refine⟨_,rfl,Ap (A3 (A7 (A7 (A2 rfl (A2 rfl (AF (by rw[Cm,<- BG]) (DM hkn) (AN (AF rfl (E8 _ _ _ _) ?_))))))))⟩;rw[GG hc hkn];refine A3 (A2 rfl (A9 ⟨by simp,?_⟩));rw[Lg];exact WP.eq (KA _ _ (SY (hc k hkn).2.1)) ⟨_,rfl,rfl,rfl⟩
 rw[D5];exact⟨_,Ep (by simpa using hlast),rfl⟩
open PySem L2 Bd Hds
structure Gv(le:Int->Int->Prop)(f:Int->Int->Int)(c l:72)(V:95)(g:Nat->Option Int)(k:Nat)(v:Int):Prop where
 lo:le (c k) v
 up:∀p∈V,p.2=k->∃u,g p.1=some u/\le (f u (l p.1)) v
 eq:v=c k∨∃p∈V,p.2=k/\∃u,g p.1=some u/\v=f u (l p.1)
def Gv.ext{le:Int->Int->Prop}{f:Int->Int->Int}{c l:72}{V:95}{g g':Nat->Option Int}{k:Nat}{v:Int}(h:Gv le f c l V g k v)(e:∀j u,g j=some u->g' j=some u):Gv le f c l V g' k v:=
 ⟨h.lo,λp hp hk=>let ⟨u,a,b⟩:=h.up p hp hk;⟨u,e _ _ a,b⟩,h.eq.imp id λ⟨p,hp,hk,u,a,b⟩=>⟨p,hp,hk,u,e _ _ a,b⟩⟩
def Ims(kvs:List (Key×D)):Prop:=∀q∈kvs,∃i,q.2=D.im i
def Ims.put{kvs:List (Key×D)}(h:Ims kvs)(k:Key)(i:I):Ims (DS kvs k (.im i)):=λq hq=>by
 unfold DS at hq;split at hq
 .obtain⟨p,hp,rfl⟩:=mem_map.mp hq;split
  .exact⟨i,rfl⟩
  .exact h p hp
 .rcases mem_append.mp hq with a|a
  .exact h q a
  .rw[hE]at a;subst a;exact⟨i,rfl⟩
theorem Ims.cl(w:Nat):∀{kvs:List (Key×D)},Ims kvs->FJ w kvs=true
 |[],_=>rfl
 |q::r,h=>by
  obtain⟨i,e⟩:=h q 71;simp[FJ,e,clD,Ims.cl w (kvs:=r) λp hp=>h p (by simp[hp])]
theorem Ims.sh(k:Nat):∀{kvs:List (Key×D)},Ims kvs->Ij k kvs=kvs
 |[],_=>rfl
 |q::r,h=>by
  obtain⟨i,e⟩:=h q 71;obtain⟨a,b⟩:=q;dsimp only at e;subst e;simp[Ij,shD,Ims.sh k (kvs:=r) λp hp=>h p (by simp[hp])]
structure Fo(n:Nat)(le:Int->Int->Prop)(f:Int->Int->Int)(c l:72)(V:95)(rk:Nat->Nat)(t j:Nat)(kvs:List (Key×D))(g:Nat->Option Int):Prop where
 dic:DicI kvs g
 cl:Ims kvs
 len:kvs.length<=8*t+j
 good:∀k v,g k=some v->k<n/\Gv le f c l V g k v
 old:∀k,k<n->rk k<t->g k≠none
 new:∀k,k<j->rk k<t+1->g k≠none
noncomputable abbrev Lrd(ws:List Wg)(W:95)(z3 z4 z5 z6:Option D):Ls:=[some (.im (AR ws)),some (.im (.tup (W.map AM))),some (.mu 0),z3,z4,z5,z6]
inductive I_ro(ws:List Wg)(W:95)(le:Int->Int->Prop)(f:Int->Int->Int)(c l:72)(V:95)(rk:Nat->Nat)(r:List D)(ls:Ls)(hd:Hd):Prop
 |mk (t:Nat) (kvs:List (Key×D)) (g:Nat->Option Int) (z3 z4 z5 z6:Option D) (h0:ls=Lrd ws W z3 z4 z5 z6) (h1:hd=[.dic kvs]) (ht:t+r.length=65) (F:Fo 65 le f c l V rk t 0 kvs g):I_ro ws W le f c l V rk r ls hd
inductive I_ri(ws:List Wg)(W:95)(le:Int->Int->Prop)(f:Int->Int->Int)(c l:72)(V:95)(rk:Nat->Nat)(t:Nat)(r:List D)(ls:Ls)(hd:Hd):Prop
 |mk (j:Nat) (kvs:List (Key×D)) (g:Nat->Option Int) (z3 z4 z5 z6:Option D) (er:r=Ah (j:Int) (65-j)) (hj:j<=65) (h0:ls=Lrd ws W z3 z4 z5 z6) (h1:hd=[.dic kvs]) (F:Fo 65 le f c l V rk t j kvs g):I_ri ws W le f c l V rk t r ls hd
abbrev bv(mA:MA)(o:D->D->Hd->Option (D×Hd))(kk:List D->Option D)(base:ME):MS:=A5 (AE 5 (AV mA))
 (Aa (Bj (A8 (mOp (Cw true) (A0 4) 121)) (A8 (Ei false (AW 1 [2] (BJ (A0 5)) (AA 0) (A8 (mOp (Cw true) 74 (A0 1))) 74) (Ac A4))))
  (A5 (AE 6 (AV (AW 1 [2,0] (BJ (A0 5)) (AA 0) BS (mOp o (mOp CL (A0 1) 74) (mOp gIx (mOp gIx 121 74) 109)))))
 (Ej 121 (A0 4) (B7 kk (EX (AV (Ac (A1 base A4))) (A0 6)))))
  AU)
abbrev f7(b:MS):MS:=BC (Bo (A1 (mCB (f1 true BE) (A1 74 A4)) A4)) (AA 3)
 (BC (Bo (A1 (mCB (f1 true BE) (A1 74 A4)) A4)) (AA 4) (CV b))
def VE(L:77):AH L=intD (L.map λa:Nat=>(a:Int)):=by simp[AH,intD]
def Vy{ws:List Wg}{W V:95}{rk:Nat->Nat}{le:Int->Int->Prop}{f:Int->Int->Int}{c:72}{fsts:Nat->List Nat}{mA:MA}{o:D->D->Hd->Option (D×Hd)}{kk:List D->Option D}{base:ME}(n8:65<=8)
 (hV:∀p∈V,(p.1<65/\p.2<65)/\rk p.1<rk p.2) (hrk:∀k,k<65->rk k<65) (hf:∀a k,a∈fsts k↔(a,k)∈V) (fll:∀k,(fsts k).length<=16)
 (hA:∀(k:Nat) (ls:Ls) (hd:Hd) (Q:List D->Hd->Prop),ls[1]?=some (some (.im (.tup (W.map AM))))->ls[4]?=some (some (.im 105))->Q (AH (fsts k)) hd->WA mA ls hd Q)
 (hB:∀(x y:Int) (hd:Hd) (Q:D->Hd->Prop),Q (.im (.int (f x y))) hd->WP (o (.im (.int x)) (.im (.int y)) hd) Q)
 (hb:∀(k:Nat) (ls:Ls) (hd:Hd) (Q:D->Hd->Prop),k<65->ls[0]?=some (some (.im (AR ws)))->ls[4]?=some (some (.im 105))->Q (.im (.int (c k))) hd->WE base ls hd Q)
 (hk:∀(x:Int) (ns:92),∃v,kk (.im (.int x)::intD ns)=some (.im (.int v))/\le x v/\(∀n∈ns,le n v)/\(v=x∨v∈ns)) {Q:Fl->Hd->Prop}
 (hQ:∀(kvs:List (Key×D)) (g:Nat->Option Int) (z3 z4 z5 z6:Option D),DicI kvs g->Ims kvs->(∀k,k<65->∃v,g k=some v/\Gv le f c (An ws) V g k v)->Q (.nx (Lrd ws W z3 z4 z5 z6)) [.dic kvs]):
 WS (f7 (bv mA o kk base)) (Lrd ws W none none none none) [.dic []] Q:=by
 have eln:(((ws.map wgI).map D.im).length:Int)=(ws.length:Int):=by simp
 refine Bw (Ew (A3 (B8 (A3 (A2 rfl (A9 (BK rfl rfl ?_)))))));rw[eln];refine A9 ⟨_,rfl,CA 66 66,?_⟩;refine BL (I_ro ws W le f c (An ws) V rk) ⟨0,[],λ_=>none,none,none,none,none,rfl,rfl,by simp,⟨DicI.nil,(by intro q hq;cases hq),by simp,(by intro k v h;cases h),(by intro k _ h;omega),(by intro k h;omega)⟩⟩ ?_ ?_
 .rintro d r ls hd ⟨t,kvs,g,z3,z4,z5,z6,rfl,rfl,ht,F⟩;simp only[i7]at ht;refine⟨_,rfl,?_⟩;dsimp only[set_cons_zero,set_cons_succ];refine Bw (Ew (A3 (B8 (A3 (A2 rfl (A9 (BK rfl rfl ?_)))))));rw[eln];refine A9 ⟨_,rfl,CA 66 66,?_⟩;rw[ia];refine BL (I_ri ws W le f c (An ws) V rk t) ⟨0,kvs,g,_,_,_,_,by simp,by omega,rfl,rfl,F⟩ ?_ ?_
  .rintro d r ls hd ⟨k,kvs,g,z3,z4,z5,z6,er,hk0,rfl,rfl,F⟩;obtain⟨m,hm⟩:∃m,ws.length-k=m+1:=by
    cases q:65-k with
    |zero=>rw[q]at er;cases er
    |succ m=>exact⟨m,rfl⟩
   rw[hm,Ah]at er;obtain⟨rfl,rfl⟩:=List.cons.inj er;have ek:((k:Int)+1)=((k+1:Nat):Int):=by omega
   have em:m=65-(k+1):=by omega
   have hk1:k<ws.length:=by omega
   refine⟨_,rfl,?_⟩;dsimp only[set_cons_zero,set_cons_succ];have done:∀(kvs':List (Key×D)) (g':Nat->Option Int) (r:Hd) (a5 a6:Option D) (Q:Fl->Hd->Prop),Fo 65 le f c (An ws) V rk t (k+1) kvs' g' ->
    ((.dic kvs'::r:Hd).take 1).all (clO 1)=true/\∃f',Ee 1 (.nx (Lrd ws W z3 (some (.im 105)) a5 a6))=some f'/\M9 [] (I_ri ws W le f c (An ws) V rk t (Ah ((k:Int)+1) m)) Q f' ((.dic kvs'::r:Hd).take 1):=by
    intro kvs' g' r a5 a6 Q F';refine⟨?_,_,rfl,AK _,k+1,kvs',g',FM 1 z3,some (.im 105),FM 1 a5,FM 1 a6,by rw[ek,em],by omega,?_,rfl,F'⟩
    .simp only[List.take_succ_cons,List.take_zero,all_cons,List.all_nil,Bool.and_true];exact F'.cl.cl 1
    .rw[Md];rfl
   have stay:(g k≠none∨∃p∈V,p.2=k/\g p.1=none)->Fo 65 le f c (An ws) V rk t (k+1) kvs g:=by
    intro h;refine⟨F.dic,F.cl,by have:=F.len;omega,F.good,F.old,λj hj hr=>?_⟩;by_cases ejk:j=k
    .subst ejk;rcases h with h|⟨p,hp,e,hg⟩
     .exact h
     .have:=hV p hp;rw[e]at this;exact absurd hg (F.old p.1 this.1.1 66)
    .exact F.new j 66 hr
   refine GD ?_;refine AB (AS (Ar (hA k _ _ _ rfl rfl (A6 ?_))));have mem_fl:=λa=>hf a k;have fll:=fll k;generalize fsts k=fl at mem_fl fll;have fln:∀a∈fl,a<ws.length:=λa ha=>(hV _ ((mem_fl a).mp ha)).1.1;change WS _ (Lrd ws W z3 (some (.im 105)) (some (.mu 1)) z6) [.dic kvs,.lst (AH fl)] _;refine B3 (DD (AI (A7 (A2 rfl (A2 rfl (Hr (kvs:=kvs) rfl F.dic ⟨_,rfl,?_⟩))))));by_cases hgk:g k=none
   .rw[gb (by simp[hgk])];refine AI (MV (Af (EU (A2 rfl ⟨_,AH fl,rfl,rfl,AO (by simp[AH];omega),?_⟩))));refine As (xs:=fl) (λa:Nat=>D.im (.int (a:Int))) (λa=>if g a=none then some (.im (.int (a:Int)))else none) (λ_ ls=>∃x,ls=[some x,some (.mu 0)]) _ (by intro p hp;rw[hE]at hp;subst hp;rfl) ?_ ?_
    .rintro a ha ls hls;refine⟨[some (.im (.int (a:Int))),some (.mu 0)],by rcases hls with rfl|⟨_,x,rfl⟩<;>rfl,⟨_,rfl⟩,?_⟩;refine AI (A7 (A2 rfl (A2 rfl (Hr (kvs:=kvs) rfl F.dic ⟨_,rfl,rfl,?_⟩))));by_cases h:g a=none
     .rw[gb (by simp[h]),gb h];exact⟨_,rfl,A2 rfl ⟨rfl,rfl⟩⟩
     .rw[gh (by simpa using h),gh h]
    rw[IG,VE];refine⟨_,rfl,_,rfl,λhb'=>?_,λhb'=>?_⟩
    .have allf:∀a∈fl,∃u,g a=some u:=by
      intro a ha;have:fl.filter (λa=>decide (g a=none))=[]:=by simpa using hb'
      have:=List.filter_eq_nil_iff.mp this a ha;exact Option.ne_none_iff_exists'.mp (by simpa using this)
     refine AB (AS (Ar (Af (EU (A2 rfl ⟨_,AH fl,rfl,rfl,AO (by simp[AH];omega),?_⟩)))));refine As (xs:=fl) (λa:Nat=>D.im (.int (a:Int))) (λa=>some (.im (.int (f ((g a).getD 0) (An ws a))))) (λ_ ls=>∃x,ls=[some x,some (.mu 0),some (.im (AR ws))]) _ (by intro p hp;rw[hE]at hp;subst hp;rfl) ?_ ?_
     .rintro a ha ls hls;obtain⟨u,hu⟩:=allf a ha;have han:=fln a ha;refine⟨[some (.im (.int (a:Int))),some (.mu 0),some (.im (AR ws))],by rcases hls with rfl|⟨_,x,rfl⟩<;>rfl,⟨_,rfl⟩,BW ⟨rfl,?_⟩⟩;rw[gb rfl];refine⟨_,rfl,A7 (A7 (A2 rfl (A2 rfl (DR (kvs:=kvs) rfl F.dic hu ?_))))⟩;refine A7 (A7 (A2 rfl (A2 rfl (AF (by rw[Cm,<- BG]) (DM han) (AN (AF rfl (Bc _ _) (hB _ _ _ _ ⟨rfl,?_⟩)))))));simp[hu,An,han]
     rw[D5];refine A6 ?_;change WS _ (Lrd ws W z3 (some (.im 105)) (some (.mu 1)) (some (.mu 2))) [.dic kvs,.lst (AH fl),.lst (intD (fl.map λa=>f ((g a).getD 0) (An ws a)))] _;obtain⟨v,ev,v1,v2,v3⟩:=hk (c k) (fl.map λa=>f ((g a).getD 0) (An ws a));refine OS (w:=0) (Bi (JV (Ar (Bb (A3 (hb k _ _ _ hk1 rfl rfl (A9 ⟨DI,?_⟩)))))));refine A2 rfl ⟨_,_,_,_,rfl,rfl,rfl,rfl,AO 86,?_⟩;refine⟨_,ev,A2 rfl (A2 rfl ⟨_,_,_,rfl,rfl,rfl,BB (by have:=F.len;omega),?_⟩)⟩;have G:Gv le f c (An ws) V g k v:=by
      refine⟨v1,λp hp e=>?_,?_⟩
      .have ha:p.1∈fl:=(mem_fl p.1).mpr (by rw[<- e];exact hp);obtain⟨u,hu⟩:=allf _ ha;refine⟨u,hu,?_⟩;have:=v2 _ (mem_map.mpr ⟨p.1,ha,rfl⟩);rw[hu]at this;exact this
      .rcases v3 with h|h
       .exact .inl h
       .obtain⟨a,ha,e⟩:=mem_map.mp h;obtain⟨u,hu⟩:=allf a ha;refine .inr ⟨(a,k),(mem_fl a).mp ha,rfl,u,hu,?_⟩;rw[hu]at e;exact e.symm
     have ext:∀j u,g j=some u->(λj=>if j=k then some v else g j) j=some u:=by
      intro j u hj;have:j≠k:=λz=>by rw[z,hgk]at hj;cases hj
      simp[this,hj]
     refine done _ (λj=>if j=k then some v else g j) _ _ _ _ ⟨F.dic.put k v,F.cl.put _ _,by have:=Iw kvs (.inl (k:Int)) (.im (.int v));have:=F.len;omega,?_,?_,?_⟩
     .intro j u hj;by_cases e:j=k
      .subst e;simp at hj;subst hj;exact⟨hk1,G.ext ext⟩
      .simp[e]at hj;exact⟨(F.good j u hj).1,(F.good j u hj).2.ext ext⟩
     .intro j hj hr;by_cases e:j=k
      .simp[e]
      .simp[e];exact F.old j hj hr
     .intro j hj hr;by_cases e:j=k
      .simp[e]
      .simp[e];exact F.new j 66 hr
    .refine Aj ?_;have hex:∃p∈V,p.2=k/\g p.1=none:=by
      have:¬ fl.filter (λa=>decide (g a=none))=[]:=by simpa using hb'
      obtain⟨a,ha⟩:=List.exists_mem_of_ne_nil _ this;obtain⟨h1,h2⟩:=mem_filter.mp ha;exact⟨(a,k),(mem_fl a).mp h1,rfl,by simpa using h2⟩
     exact done kvs g _ _ _ _ (stay (.inr hex))
   .rw[gh (by simpa using hgk)];exact⟨(λh=>by cases h),λ_=>Aj (done kvs g _ _ _ _ (stay (.inl hgk)))⟩
  .rintro ls hd ⟨j,kvs,g,z3,z4,z5,z6,er,hj,rfl,rfl,F⟩;have:65-j=0:=by
    cases q:65-j with
    |zero=>rfl
    |succ m=>rw[q]at er;cases er
   have hj:j=ws.length:=by omega
   subst hj;exact⟨AK _,t+1,kvs,g,_,_,_,_,rfl,rfl,by omega,⟨F.dic,F.cl,by have:=F.len;omega,F.good,λk hk hr=>F.new k hk hr,(by intro k h;omega)⟩⟩
 .rintro ls hd ⟨t,kvs,g,z3,z4,z5,z6,rfl,rfl,ht,F⟩;simp only[iB,Nat.add_zero]at ht;subst ht;refine hQ kvs g z3 z4 z5 z6 F.dic F.cl λk hk=>?_;obtain⟨v,hv⟩:=Option.ne_none_iff_exists'.mp (F.old k hk (hrk k hk));exact⟨v,hv,(F.good k v hv).2⟩
def Z6(rk:Nat->Nat):∀ks:List Nat,ks≠[]->∃u∈ks,∀v∈ks,rk v<=rk u:=by
 intro ks
 induction ks with
 |nil=>intro h;exact absurd rfl h
 |cons x r ih=>
  intro _;by_cases hr:r=[]
  .subst hr;exact⟨x,by simp,by simp⟩
  .obtain⟨u,hu,hm⟩:=ih hr;by_cases q:rk u<=rk x
   .refine⟨x,by simp,λv hv=>?_⟩;rcases mem_cons.mp hv with rfl|hv
    .exact gk _
    .exact gw (hm v hv) q
   .refine⟨u,by simp[hu],λv hv=>?_⟩;rcases mem_cons.mp hv with rfl|hv
    .omega
    .exact hm v hv
def Yj{M:Nat->Nat->Bool}{rk:Nat->Nat}(hne:ks≠[])(h:∀u∈ks,∀v∈ks,M u v=true->rk u<rk v):CK M ks≠[]:=by
 obtain⟨u,hu,hm⟩:=Z6 rk ks hne;have:u∈CK M ks:=by
  refine mem_filter.mpr ⟨hu,?_⟩;rw[Bool.not_eq_true',List.any_eq_false];intro v hv q;have:=h u hu v hv q;have:=hm v hv;omega
 intro e;rw[e]at this;simp at this
theorem Mn(t:Int):∀{rows:List (Int×Int)} {x:Int},O8 x rows->x<=BP t rows x
 |[],x,_=>110 _
 |(b,a)::r,x,h=>by
   unfold BP;have:=Mn t h.2;have:=h.1;split<;>omega
theorem JZ{t t':Int}(ht:t<=t'):∀{rows:List (Int×Int)} {x:Int},O8 x rows->BP t rows x<=BP t' rows x
 |[],x,_=>110 _
 |(b,a)::r,x,h=>by
   unfold BP;have h1:=JZ ht h.2;have h2:=Mn t' h.2;have:=h.1;by_cases c1:t<b
   .rw[gb c1];split<;>omega
   .rw[gh c1,gh 66];exact h1
def PQ(h:GA c){t t':Int}(ht:t<=t'):c.at t<=c.at t':=by
 cases c with
 |late d=>show t-d<=t'-d;omega
 |tardy d w=>
  obtain⟨h0,_⟩:=h;show(if t-d<=0 then 0 else w*(t-d))<=(if t'-d<=0 then 0 else w*(t'-d));have h2:w*(t-d)<=w*(t'-d):=Int.mul_le_mul_of_nonneg_left 66 h0;by_cases c1:t-d<=0
  .rw[gb c1];split
   .exact 110 _
   .exact Int.mul_nonneg h0 66
  .rw[gh c1,gh 66];exact h2
 |miss d w=>
  obtain⟨h0,_⟩:=h;show(if t-d<=0 then 0 else w)<=(if t'-d<=0 then 0 else w);split<;>split<;>omega
 |ends w=>exact Int.mul_le_mul_of_nonneg_left ht h.1
 |steps rows=>exact JZ ht h.2.1
noncomputable def hdN(c l:72)(W:95):Nat->Nat->Int
 |0,k=>c k
 |t+1,k=>CJ (c k::(W.filter λp=>decide (p.2=k)).map λp=>hdN c l W t p.1+l p.1)
theorem GZ{S:Nat->Prop}{rk:Nat->Nat}(R:Rk S W rk)(c l:72):∀t k,rk k<=t->hdN c l W (t+1) k=hdN c l W t k
 |0,k,h=>by
  have e:(W.filter λp=>decide (p.2=k))=[]:=by
   rw[List.filter_eq_nil_iff];intro p hp q;have:=R.lt p hp;have q:p.2=k:=by simpa using q
   rw[q]at this;omega
  show CJ (c k::(W.filter λp=>decide (p.2=k)).map _)=c k;rw[e];have:=(BF (xs:=[c k]) 71).1;simpa using this
 |t+1,k,h=>by
  show CJ (c k::(W.filter λp=>decide (p.2=k)).map λp=>hdN c l W (t+1) p.1+l p.1)=CJ (c k::(W.filter λp=>decide (p.2=k)).map λp=>hdN c l W t p.1+l p.1)
  congr 2
  refine j6 λp hp=>?_;obtain⟨h1,h2⟩:=mem_filter.mp hp;have h2:p.2=k:=by simpa using h2
  have:=R.lt p h1;rw[GZ R c l t p.1 (by rw[h2]at this;omega)]
def Ys{n:Nat}{rk:Nat->Nat}(R:Rk (λk=>k<n) W rk)(hrk:∀k,k<n->rk k<n)(c l:72):∃h,IsHead (λk=>k<n) c l W h:=by
 refine⟨hdN c l W n,λk hk=>?_,λp hp hk=>?_,λk hk=>?_⟩
 .rw[<- GZ R c l n k (by have:=hrk k hk;omega)];exact(BF (xs:=c k::(W.filter λp=>decide (p.2=k)).map λp=>hdN c l W n p.1+l p.1) 71).2 _ gq
 .rw[<- GZ R c l n p.2 (by have:=hrk p.2 hk;omega)];refine(BF (xs:=c p.2::(W.filter λq=>decide (q.2=p.2)).map λq=>hdN c l W n q.1+l q.1) 71).2 _ (gp _ (mem_map.mpr ⟨p,mem_filter.mpr ⟨hp,by simp⟩,rfl⟩))
 .have e:=GZ R c l n k (by have:=hrk k hk;omega);have ms:=(BF (xs:=c k::(W.filter λp=>decide (p.2=k)).map λp=>hdN c l W n p.1+l p.1) 71).1;rw[<- e];rcases mem_cons.mp ms with q|q
  .exact .inl q
  .obtain⟨p,hp,eq⟩:=mem_map.mp q;obtain⟨h1,h2⟩:=mem_filter.mp hp;refine .inr ⟨p,h1,by simpa using h2,?_⟩;exact eq.symm
open Classical in
noncomputable def Mc(W:95):Nat->Nat->Bool:=λi j=>decide (Rc (Cg W) i j)
def dk(n:Nat)(W:95):Mt n (Cg W) (Mc W):=λi j _ _=>by simp[Mc]
def dj{n:Nat}{rk:Nat->Nat}(R:Rk (λk=>k<n) W rk){u v:Nat}(h:Mc W u v=true):rk u<rk v:=by
 have h:Rc (Cg W) u v:=by simpa [Mc]using h
 obtain⟨_,j,ej,_,hlt,_⟩:=Zv R h u rfl;have:v=j:=by omega
 rw[this];exact hlt
open Sx (Blk spl GK)
noncomputable def Gh(B:Blk):I:=.tup [.int B.1,.int B.2.1,.tup (B.2.2.map I.int)]
noncomputable abbrev CP(B:Blk):D:=.im (Gh B)
def ce(bs:List Blk):bs.map CP=(bs.map Gh).map D.im:=by rw[gY];rfl
theorem allIm_map:∀is:List I,B2 (is.map D.im)=some is
 |[]=>rfl
 |i::r=>by simp[B2,allIm_map r]
def Y0{n:Nat}{bs:List Blk}(e:hd[n]?=some (.lst (bs.map CP))):pyD hd (.mu n)=some (.list (I.pys (bs.map Gh))):=by
 simp only[pyD,e,ce,allIm_map,i4]
theorem WH:∀ns:List Int,PyData.canLayAll0 (I.pys (ns.map I.int))=true
 |[]=>by simp[I.pys,PyData.canLayAll0]
 |n::r=>by simp[I.pys,I.py,PyData.canLayAll0,PyData.canLay0,WH r]
theorem WJ:∀bs:List Blk,PyData.canLayAll0 (I.pys (bs.map Gh))=true
 |[]=>by simp[I.pys,PyData.canLayAll0]
 |b::r=>by simp[I.pys,I.py,Gh,PyData.canLayAll0,PyData.canLay0,WJ r,WH]
def eE(bs:List Blk)(hd:Hd)(neg:Bool):Fc neg (.list (I.pys (bs.map Gh))) (.list (I.pys [])) hd=some (.im (.bl (if neg then !decide (bs=[])else decide (bs=[]))),hd):=by
 unfold Fc;rw[gb]
 .cases bs with
  |nil=>simp[I.pys,PyData.eqv,PyData.eqvAll]
  |cons b r=>simp[I.pys,PyData.eqv,PyData.eqvAll]
 .refine⟨by simp[PyData.canLay0,WJ],by simp[I.pys,PyData.canLay0,PyData.canLayAll0],?_⟩;have:(PyData.list (I.pys [])).depth<=60:=by simp[I.pys,PyData.depth,PyData.depthAll]
  omega
def Wk{neg:Bool}{QE:D->Hd->Prop}(h:WE ma ls hd λd x=>∃bs:List Blk,pyD x d=some (.list (I.pys (bs.map Gh)))/\QE (.im (.bl (if neg then !decide (bs=[])else decide (bs=[])))) x):WE (Br neg ma (Ac A4)) ls hd QE:=by
 obtain⟨d,x,e,bs,e2,q⟩:=h;refine⟨_,x,?_,q⟩;unfold Br;rw[e];simp[e2,B2,eE]
def RZ{QA:List D->Hd->Prop}(h:WI mi ls hd λp x=>∃ns:List Int,p.1=intD ns/\ns.length<64/\QA (intD (AY ns)) x):WA (Bu mi) ls hd QA:=by
 obtain⟨p,x,e,ns,e1,hl,q⟩:=h;refine⟨_,_,?_,q⟩;simp only[Bu,e,bind_some,e1,Cv,hl,gz]
def We{js:List I}{QE:D->Hd->Prop}(h0:is≠[])(h1:is.length+js.length<=100)(q:QE (.im (.tup (is++js))) hd):WP (Ag (.im (.tup is)) (.im (.tup js)) hd) QE:=by
 have cat:Qv (is.map D.im) (js.map D.im):=⟨by simpa using h0,AO 86⟩
 refine WP.eq (z:=.im (.tup (is++js))) (h:=hd) ?_ q;show(match Kv (.im (.tup is)) (.im (.tup js)) hd with|some z=>some z|none=>Gb (.im (.tup is)) (.im (.tup js)) hd)=_;rw[show Kv (.im (.tup is)) (.im (.tup js)) hd=none from rfl];unfold Gb;rw[show AX (.im (.tup is))=some (is.map D.im)from rfl,show AX (.im (.tup js))=some (js.map D.im)from rfl,bind_some,bind_some,gb cat,<- ig,BX]
noncomputable def AL(ws:List Wg)(k:Nat):Int:=max 1 (An ws k)
def Bq(ws:List Wg)(k:Nat):1<=AL ws k:=by unfold AL;omega
def NT(h:HI ws){k:Nat}(hk:k<65):1<=An ws k/\An ws k<=20:=by
 have:=(h.2.2 ws[k] (List.getElem_mem hk)).1;simpa [An,hk]using this
def Hg(h:HI ws){k:Nat}(hk:k<65):0<=BI ws k/\BI ws k<=60:=by
 have:=(h.2.2 ws[k] (List.getElem_mem hk)).2.1;simpa [BI,hk]using this
def D4(h:HI ws){k:Nat}(hk:k<65):AL ws k=An ws k:=by
 have:=NT h hk;unfold AL;omega
def Mr(m:Nat):AY (Sx.cst [m])=[(m:Int)]:=by simp[AY,Sx.cst]
def Ri(C:77)(m:Nat):AY (AY (Sx.cst C)++[(m:Int)])=AY (Sx.cst (C++[m])):=by
 refine D2 ((By _).trans (((By _).append_right _).trans ?_)) (Cn _) (Cn _);have:Sx.cst C++[(m:Int)]=Sx.cst (C++[m]):=by simp[Sx.cst]
 rw[this];exact(By _).symm
theorem Np:∀{ms:92},(∀x∈ms,0<=x)->Sx.cst (ms.map Int.toNat)=ms
 |[],_=>rfl
 |x::r,h=>by
  have h0:=h x 71;have ih:=Np (ms:=r) λy hy=>h y (by simp[hy]);unfold Sx.cst at ih ⊢;rw[gv,gv,ih,show((x.toNat:Nat):Int)=x by omega]
def Wt{h l:72}{b e:Int}{m:Nat}(q:e<=h m):spl h l b e C (m::r)=(b,e,AY (Sx.cst C))::spl h l (h m) (h m+l m) [m] r:=by rw[spl,gb q]
def Wu{h l:72}{b e:Int}{m:Nat}(q:¬ e<=h m):spl h l b e C (m::r)=spl h l b (e+l m) (C++[m]) r:=by rw[spl,gh q]
noncomputable abbrev Lb(d0 d1 d2:D)(hs:List I)(z5 z6 z7 z8:Option D):Ls:=[some d0,some d1,some d2,some (.im (.tup hs)),some (.mu 0),z5,z6,z7,z8]
def Er{n k:Nat}(h:72)(hk:k<n):atI (((68 n).map λk=>I.int (h k)).map D.im) (k:Int)=some (.im (.int (h k))):=L9 rfl (by simp[hk])
def d9{W:95}{rk:Nat->Nat}{h:72}{ks:77}(hok:HI ws)(hW:W.length<=16)(R:Rk (λk=>k<65) W rk)(hrk:∀k,k<65->rk k<65)(H:IsHead (λk=>k<65) (BI ws) (An ws) W h)
 (hb:∀k,k<65->0<=h k/\h k<=1000000) (hs:ks.Pairwise (·<·)) (hk:∀k∈ks,k<65) (hl:ks.length<=8):
 WF D9 [.im (AR ws),.im (.tup (W.map AM)),.im (Am ks)] [] λd x=>∃bs:List Blk,d=.mu 0/\x=[.lst (bs.map CP)]/\Sx.Rows h (AL ws) ks bs:=by
 have hn:=hok.2.1;unfold D9;refine Ax rfl ?_;refine AB (AS (Ap (A3 (A2 rfl (A3 (A2 rfl (A9 ⟨by simp,(Kt hn (λk hk=>(Hg hok hk).1) hW R hrk H).mono ?_⟩)))))));rintro r x rfl;refine⟨_,rfl,A6 ?_⟩;refine AB (AS (Ar (Bb (A9 ⟨CW,A6 ?_⟩))));change WS _ (Lb (.im (AR ws)) (.im (.tup (W.map AM))) (.im (Am ks)) ((68 65).map λk=>I.int (h k)) none none none none) [.lst []] _;have pokk:∀k,k<65->pok (h k,(k:Int)):=λk hk=>by have:=hb k hk;unfold pok;dsimp only;omega
 have nd:ks.Nodup:=hs.imp λq=>by omega
 refine AB (Bw (PV (Tf (A2 rfl ⟨Sx.cst ks,λn=>(h n.toNat,n),?_,?_,?_,?_,?_,?_,λms pm pw=>?_⟩))))
 .show AX (.im (Am ks))=_;simp[Sx.cst]
 .simp[Sx.cst];omega
 .unfold Sx.cst;rw[List.nodup_iff_pairwise_ne,iQ];exact hs.imp λq=>by omega
 .intro n hn';obtain⟨k,hk',rfl⟩:=mem_map.mp hn';dsimp only;rw[ia];exact pokk k (hk k hk')
 .intro a ha b hb' e;obtain⟨k,hk1,rfl⟩:=mem_map.mp ha;obtain⟨j,hk2,rfl⟩:=mem_map.mp hb';dsimp only at e;rw[ia,ia]at e;have:=NG (pokk k (hk k hk1)) (pokk j (hk j hk2)) e;exact hX Prod.snd this
 .intro n hn';obtain⟨k,hk',rfl⟩:=mem_map.mp hn';have hkn:=hk k hk';dsimp only;rw[ia];have:=Er h hkn;simp only[cL,Kz,MN,Ds,List.getElem?_cons_zero,List.getElem?_cons_succ,gv,ie,Option.join_some,bind_some,WQ,Cm,this,i4,K5,i7,iB,Nat.reduceAdd,Cy,gz,G0,AZ]
 obtain⟨msN,rfl,pmN⟩:∃msN:List Nat,ms=Sx.cst msN/\msN.Perm ks:=by
  refine⟨ms.map Int.toNat,?_,?_⟩
  .refine(Np λx hx=>?_).symm;obtain⟨k,_,rfl⟩:=mem_map.mp (pm.mem_iff.mp hx);omega
  .have:=pm.map Int.toNat
   have e:(Sx.cst ks).map Int.toNat=ks:=by simp[Sx.cst,Function.comp_def]
   rwa [e]at this
 have pwN:msN.Pairwise λa b=>h a<=h b:=by
  unfold Sx.cst at pw;rw[iQ]at pw;refine pw.imp_of_mem λ{a b} ha hb' q=>?_
  have h1:=hb a (hk a (pmN.mem_iff.mp ha));have h2:=hb b (hk b (pmN.mem_iff.mp hb'));have l1:=hk a (pmN.mem_iff.mp ha);have l2:=hk b (pmN.mem_iff.mp hb');unfold B4 at q;dsimp only at q;rw[ia,ia]at q;omega
 have hkN:∀k∈msN,k<ws.length:=λk hk'=>hk k (pmN.mem_iff.mp hk');have hlN:msN.length<=8:=by rw[pmN.length_eq];exact hl
 have rows:=Sx.rows_stret (h:=h) (Bq ws) msN.length msN ks rfl hs pmN pwN;have ec:((Sx.cst msN).map λn=>D.im (.int n))=AH msN:=by simp[Sx.cst,AH]
 rw[ec];refine BL (λr ls hd=>∃(rest:77) (tl:List Blk) (z5 z6 z7 z8:Option D),r=AH rest/\ls=Lb (.im (AR ws)) (.im (.tup (W.map AM))) (.im (Am ks)) ((68 65).map λk=>I.int (h k)) z5 z6 z7 z8/\hd=[.lst (tl.map CP)]/\(∀k∈rest,k<65)/\tl.length+rest.length<=8 /\
  ((tl=[]/\rest=msN)∨∃done b e C,tl=done++[(b,e,AY (Sx.cst C))]/\C≠[]/\C.length+rest.length<=8/\done++spl h (AL ws) b e C rest=GK h (AL ws) msN)) ⟨msN,[],none,none,none,none,rfl,rfl,rfl,hkN,by simpa using hlN,.inl ⟨rfl,rfl⟩⟩ ?_ ?_
 .rintro d r ls hd ⟨rest,tl,z5,z6,z7,z8,er,rfl,rfl,hkr,hlen,cs⟩;cases rest with
  |nil=>cases er
  |cons m rest=>
   obtain⟨rfl,rfl⟩:=List.cons.inj er;have hm:m<ws.length:=hkr m 71;have hkr':∀k∈rest,k<ws.length:=λk hk'=>hkr k (by simp[hk']);have hm':=Er h hm;have e1:=D4 hok hm;refine⟨Lb (.im (AR ws)) (.im (.tup (W.map AM))) (.im (Am ks)) ((68 65).map λk=>I.int (h k)) (some (.im (.int (m:Int)))) z6 z7 z8,rfl,?_⟩;have lenx:∀{ls:Ls} {hd:Hd} {QE:D->Hd->Prop},ls[0]?=some (some (.im (AR ws)))->ls[5]?=some (some (.im (.int (m:Int))))->QE (.im (.int (An ws m))) hd->WE (mOp gIx (mOp gIx 74 (A0 5)) 109) ls hd QE:=λa b q=>
    A7 (A7 (A2 a (A2 b (AF (by rw[Cm,<- BG]) (DM hm) (AN (AF rfl (Bc _ _) (by rw[JS hm];exact q)))))))
   have app:∀(Q:Fl->Hd->Prop),Q (.nx (Lb (.im (AR ws)) (.im (.tup (W.map AM))) (.im (Am ks)) ((68 65).map λk=>I.int (h k)) (some (.im (.int (m:Int)))) z6 z7 z8)) [.lst ((tl++[(h m,h m+AL ws m,[(m:Int)])]).map CP)] ->
    WS (B0 (mMt Ad (A0 4) (A1 (Ae (A1 (mOp gIx (A0 3) (A0 5)) (A1 (mOp Ag (mOp gIx (A0 3) (A0 5)) (mOp gIx (mOp gIx 74 (A0 5)) 109)) (A1 (Ae (A1 (A0 5) A4)) A4)))) A4))) (Lb (.im (AR ws)) (.im (.tup (W.map AM))) (.im (Am ks)) ((68 65).map λk=>I.int (h k)) (some (.im (.int (m:Int)))) z6 z7 z8) [.lst (tl.map CP)] Q:=by
    intro Q q;refine Bt (EB (A2 rfl ⟨⟨_,rfl⟩,A3 (BA (A3 (A7 (A2 rfl (A2 rfl (AF rfl hm' ?_)))))) ⟩));refine A3 (A7 (A7 (A2 rfl (A2 rfl (AF rfl hm' (lenx rfl rfl (C9 ?_)))))));refine A3 (BA (A3 (A2 rfl (A9 ⟨DI,A9 ⟨C0,A9 (Ci rfl (BB (by simp at hlen ⊢;omega)) ?_)⟩⟩))));rw[Oo,Fz,<- e1];rw[ig]at q;exact q
   refine B3 (D1 (AI (Wk (A2 rfl ⟨tl,Y0 rfl,_,rfl,?_⟩))));rcases cs with⟨rfl,rfl⟩|⟨done,b,e,C,rfl,hC,hCl,es⟩
   .rw[gb 71];refine⟨λ_=>app _ ?_,λq=>by cases q⟩;refine⟨AK _,rest,_,_,_,_,_,rfl,rfl,rfl,hkr',by simp at hlen ⊢;omega,.inr ⟨[],h m,h m+AL ws m,[m],by rw[Mr],by simp,by simp at hlN ⊢;omega,rfl⟩⟩
   .rw[gh 71];have el:Az [MO.lst ((done++[(b,e,AY (Sx.cst C))]).map CP)] (.mu 0)=some (done.map CP++[CP (b,e,AY (Sx.cst C))]):=by
     rw[Vt,IB];simp
    refine AI (A7 (A7 (A2 rfl (A2 rfl (AF rfl hm' ?_)))));refine A7 (A7 (A2 rfl (Ex (AN ⟨_,rfl,AF el (Gi _ _) (AN (AF rfl (DC _ _ _) (M8 ⟨_,rfl,λq=>?_,λq=>?_⟩)))⟩))))
    .have q:e<=h m:=iD q;refine app _ ⟨AK _,rest,_,_,_,_,_,rfl,rfl,rfl,hkr',by simp at hlen ⊢;omega,.inr ⟨done++[(b,e,AY (Sx.cst C))],h m,h m+AL ws m,[m],by rw[Mr],by simp,by simp at hCl ⊢;omega,?_⟩⟩;rw[<- es];rw[Wt q];simp
    .have q:¬ e<=h m:=jj q;refine AB (JR (A7 (A2 rfl (Ex (AN ⟨_,rfl,AF el (Gi _ _) ⟨_,rfl,A6 ?_⟩⟩)))));change WS _ (Lb (.im (AR ws)) (.im (.tup (W.map AM))) (.im (Am ks)) ((68 65).map λk=>I.int (h k)) (some (.im (.int (m:Int)))) (some (.im (.int b))) (some (.im (.int e))) (some (.im (.tup ((AY (Sx.cst C)).map I.int))))) _ _;have sl:(AY (Sx.cst C)).length=C.length:=by rw[(By _).length_eq];simp[Sx.cst]
     refine CZ (BA (A3 (A2 rfl (A3 (A7 (A2 rfl (lenx rfl rfl (C9 ?_))))))));refine A3 (Bi (RZ (C4 (A7 (A2 rfl (BA (A3 (A2 rfl (A9 ⟨DI,?_⟩)))))))));rw[Oo];refine We (by intro z;have:=hX List.length z;simp[sl]at this;exact hC this) (by simp[sl];simp at hCl;omega) ⟨_,rfl,AY (Sx.cst C)++[(m:Int)],by simp[intD],by simp[sl];simp at hCl;omega,?_⟩;refine⟨_,rfl,A9 ⟨C0,?_⟩⟩;rw[Ri];have em:Au (intD (AY (Sx.cst (C++[m]))))=.im (.tup ((AY (Sx.cst (C++[m]))).map I.int)):=by
      have:intD (AY (Sx.cst (C++[m])))=((AY (Sx.cst (C++[m]))).map I.int).map D.im:=by simp[intD]
      rw[this,BX]
     rw[em,Fz,<- e1];refine A2 rfl (Ex (AN ⟨_,rfl,0,-1,done.length,(done++[(b,e,AY (Sx.cst C))]).map CP,rfl,rfl,rfl,?_,?_⟩))
     .simp[ixN];omega
     refine⟨AK _,rest,done++[(b,e+AL ws m,AY (Sx.cst (C++[m])))],_,_,_,_,rfl,rfl,?_,hkr',by simp at hlen ⊢;omega,.inr ⟨done,b,e+AL ws m,C++[m],rfl,by simp,by simp at hCl ⊢;omega,?_⟩⟩
     .simp[Gh]
     .rw[<- es];rw[Wu q]
 .rintro ls hd ⟨rest,tl,z5,z6,z7,z8,er,rfl,rfl,hkr,hlen,cs⟩;have:rest=[]:=by cases rest with
   |nil=>rfl
   |cons _ _=>cases er
  subst this;refine A6 (Av (A2 rfl ⟨tl,rfl,rfl,?_⟩));rcases cs with⟨rfl,e⟩|⟨done,b,e,C,rfl,hC,hCl,es⟩
  .rw[<- e]at rows;exact rows
  .have:GK h (AL ws) msN=done++[(b,e,AY (Sx.cst C))]:=by rw[<- es];rfl
   rw[this]at rows;exact rows
structure Ev(ws:List Wg)(cs:Nat->Cost)(W:95)(rk:Nat->Nat)(h:72):Prop where
 ok:HI ws
 hcs:OB ws cs
 hW:W.length<=16
 R:Rk (λk=>k<65) W rk
 hrk:∀k,k<65->rk k<65
 H:IsHead (λk=>k<65) (BI ws) (An ws) W h
 hb:∀k,k<65->0<=h k/\h k<=1000000
section
variable{cs:Nat->Cost}{rk:Nat->Nat}{h:72}
def Ev.hM(E:Ev ws cs W rk h):Mt 65 (Cg W) (Mc W):=dk _ _
def Ev.lne(E:Ev ws cs W rk h)(hne:ks≠[]):CK (Mc W) ks≠[]:=Yj (rk:=rk) hne λu _ v _ q=>dj E.R q
def Ev.sh(E:Ev ws cs W rk h):Wsh 65 (Cg W):=⟨by simpa using E.hW,λp hp=>by
 obtain⟨q,hq,rfl⟩:=mem_map.mp hp;have:=E.R.ins q hq;exact⟨q.1,q.2,this.1,this.2,rfl⟩⟩
structure St(ws:List Wg)(ks:77):Prop where
 ne:ks≠[]
 lt:∀k∈ks,k<65
 l8:ks.length<=8
def Z5(E:Ev ws cs W rk h)(S:St ws ks):WF DB [.im (AR ws),.im (.tup (W.map AM)),.im (Am ks)] [] λd x=>d=.im (.int (bnd ws cs h (Mc W) ks)):=
 R8 E.ok.2.1 (λk hk=>(Hg E.ok hk).1) E.hW E.R E.hrk E.H E.hM E.hcs S.ne S.lt S.l8 (E.lne S.ne)
noncomputable def kfC(cs:Nat->Cost)(t:Int):D->Int|.im (.int i)=>(cs i.toNat).at t|_=>0
def Qu(E:Ev ws cs W rk h)(S:St ws ks)(t:Int):WF Ch [.im (AR ws),.im (.tup (W.map AM)),.im (Am ks),.im (.int t)] [] λd x=>∃u:Nat,d=.im (.int (u:Int))/\u∈CK (Mc W) ks/\(cs u).at t=Cc ((CK (Mc W) ks).map λk=>(cs k).at t):=by
 unfold Ch;refine Ax rfl ?_;refine Av (RY (Ap (A3 (B8 (A3 (A2 rfl (A9 (BK rfl rfl ?_))))))));refine A3 (A2 rfl (A3 (A2 rfl (A9 ⟨by simp,?_⟩))));have ew:W.map AM=(Cg W).map Fw:=by rw[gY];rfl
 have eln:(((ws.map wgI).map D.im).length:Int)=(ws.length:Int):=by simp
 rw[eln,ew];refine(Sh E.sh E.hM S.lt S.l8).mono ?_;rintro r x rfl;refine⟨_,rfl,?_⟩;have hne:=E.lne S.ne;have hlt:∀k∈CK (Mc W) ks,k<ws.length:=λk hk=>S.lt k (mem_filter.mp hk).1;generalize CK (Mc W) ks=L at hne hlt;cases L with
 |nil=>exact absurd rfl hne
 |cons b r=>
  have bm:=JO (kfC cs t) (AH r) (.im (.int (b:Int)));refine⟨.im (.int (b:Int)),AH r,kfC cs t,?_,λy hy=>?_,?_⟩
  .show some (((b::r).map λk:Nat=>I.int (k:Int)).map D.im)=_;simp[AH]
  .obtain⟨k,hk,rfl⟩:=mem_map.mp (show y∈AH (b::r)from hy);have hkn:=hlt k hk;have w:WE (AD 0 F_cost_at (A1 (mOp gIx (mOp gIx 121 74) (mC (.int 2))) (A1 (A0 1) A4))) [some (.im 105),some (.im (.int t)),some (.im (AR ws))] [] λd x=>d=.im (.int ((cs k).at t))/\x=[]:=by
    refine Ap (A3 (A7 (A7 (A2 rfl (A2 rfl (AF (by rw[Cm,<- BG]) (DM hkn) (AN (AF rfl (E8 _ _ _ _) ?_))))))));rw[GG E.hcs hkn];refine A3 (A2 rfl (A9 ⟨by simp,?_⟩));rw[Lg];exact WP.eq (KA _ _ (SY (E.hcs k hkn).2.1)) ⟨_,rfl,rfl,rfl⟩
   obtain⟨d,x,e,rfl,rfl⟩:=w;exact e
  .obtain⟨h1,h2⟩:=bm;obtain⟨u,hu,eu⟩:=mem_map.mp (show BV (λn m=>decide (n<m)) (AH r) ((AH r).map (kfC cs t)) (.im (.int (b:Int))) (kfC cs t (.im (.int (b:Int))))∈AH (b::r)from h1);rw[<- eu]at h2 ⊢;refine⟨u,rfl,hu,?_⟩;have h3:∀k∈b::r,(cs u).at t<=(cs k).at t:=λk hk=>by
    have:=h2 (.im 105) (show _∈AH (b::r)from mem_map.mpr ⟨k,hk,rfl⟩);simpa [kfC]using this
   have ms:=Bn (xs:=(b::r).map λk=>(cs k).at t) 71;have g1:=ms.2 _ (mem_map.mpr ⟨u,hu,rfl⟩);obtain⟨v,hv,ev⟩:=mem_map.mp ms.1;have g2:=h3 v hv
   try dsimp only at ev g1
   omega
def RP(ks:77)(u:Nat)(hl:ks.length<=8):WF FW [.im (Am ks),.im (.int (u:Int))] [] λd x=>d=.im (Am (ks.filter λk=>decide (k≠u))):=by
 unfold FW;refine Ax rfl ?_;refine Av (Bi (Af (C4 (A2 rfl ⟨_,rfl,?_⟩))));rw[E4];refine⟨AO (by simp[AH];omega),?_⟩;refine As (λk:Nat=>D.im 105) (λk=>if k≠u then some (.im 105)else none) (λ_ ls=>∃x,ls=[some x,some (.im (.int (u:Int)))]) _ (AK _) ?_ ?_
 .rintro k hk ls hls;refine⟨[some (.im 105),some (.im (.int (u:Int)))],by rcases hls with rfl|⟨_,x,rfl⟩<;>rfl,⟨_,rfl⟩,AI (A7 (A2 rfl (A2 rfl (Gy ⟨_,rfl,rfl,?_⟩))))⟩;by_cases h:k=u
  .subst h;simp
  .have h1:¬ ((k:Int)=(u:Int)):=by omega
   simp only[h1,ji,Bool.not_false,gz];exact⟨_,by simp[h],A2 rfl ⟨rfl,rfl⟩⟩
 rw[IG];exact⟨_,rfl,J9 _⟩
def LK{ss:List (List Nat)}(h:d∈ss.map Ay):∃s∈ss,d=Ay s:=by
 obtain⟨s,h1,h2⟩:=mem_map.mp h;exact⟨s,h1,h2.symm⟩
noncomputable def Qs:I->Nat|.int i=>i.toNat|_=>0
noncomputable def kfB(ws:List Wg)(cs:Nat->Cost)(h:72)(W:95):D->Int|.im (.tup is)=>bnd ws cs h (Mc W) (is.map Qs)|_=>0
def Kr(s:77):kfB ws cs h W (Ay s)=bnd ws cs h (Mc W) s:=by
 show bnd ws cs h (Mc W) ((s.map λk:Nat=>I.int (k:Int)).map Qs)=_;rw[gY]
 congr 1
 have:(Qs ∘ λk:Nat=>I.int (k:Int))=id:=by funext k;simp[Qs]
 rw[this,List.map_id]
def Yt(E:Ev ws cs W rk h){k:Nat}{ss:List (List Nat)}(e:hd[k]?=some (.lst (ss.map Ay)))(hne:ss≠[])(hs:∀s∈ss,St ws s):WF CQ [.im (AR ws),.im (.tup (W.map AM)),.mu k] hd λd x=>∃s∈ss,d=Ay s/\∀s'∈ss,bnd ws cs h (Mc W) s'<=bnd ws cs h (Mc W) s:=by
 unfold CQ;refine Ax rfl ?_;cases ss with
 |nil=>exact absurd rfl hne
 |cons b r=>
  have bm:=JP (kfB ws cs h W) (r.map Ay) (Ay b);refine Av (Td (A2 rfl ⟨Ay b,r.map Ay,kfB ws cs h W,?_,λy hy=>?_,?_⟩))
  .simp only[Ak,e];rfl
  .obtain⟨s,hs',rfl⟩:=LK (ss:=b::r) hy;have w:WE (AD 0 DB (A1 (A0 1) (A1 121 (A1 74 A4)))) [some (Ay s),some (.im (AR ws)),some (.im (.tup (W.map AM)))] hd λd x=>d=.im (.int (bnd ws cs h (Mc W) s))/\x=hd:=by
    refine Ap (A3 (A2 rfl (A3 (A2 rfl (A3 (A2 rfl (A9 ⟨by simp,(Z5 E (hs s hs')).mono ?_⟩)))))));rintro d x rfl;exact⟨_,rfl,rfl,rfl⟩
   obtain⟨d,x,e,rfl,rfl⟩:=w;rw[Kr];exact e
  .obtain⟨h1,h2⟩:=bm;obtain⟨s,hs',es⟩:=LK (ss:=b::r) h1;rw[es]at h2 ⊢;refine⟨s,hs',rfl,λs' h'=>?_⟩;have:=h2 (Ay s') (show _∈(b::r).map Ay from mem_map.mpr ⟨s',h',rfl⟩);rw[Kr,Kr]at this;exact this
end
open Sx (Blk)
open Bk (Pc gf Brk)
noncomputable def pcI(p:Pc):I:=.tup [.int (p.1:Int),.int p.2.1,.int p.2.2]
abbrev pcD(p:Pc):D:=.im (pcI p)
theorem Nb{u:Nat}{e:Int}:∀{qs:List Pc} {a:Int},(gf u a e qs).length<=2*qs.length+1
 |[],a=>by simp[gf]
 |q::r,a=>by
  have ih:=Nb (u:=u) (e:=e) (qs:=r) (a:=q.2.2);rw[gf];simp only[i9,i7];split<;>simp<;>omega
inductive I_gap(u:Nat)(b e:Int)(k:Nat)(qs:List Pc)(hd0:Hd)(r:List D)(ls:Ls)(hd:Hd):Prop
 |mk (rest told:List Pc) (at_:Int) (z6:Option D) (h0:r=rest.map pcD) (h1:ls=[some (.im (.int (u:Int))),some (.im (.int b)),some (.im (.int e)),some (.mu k),some (.mu hd0.length),some (.im (.int at_)),z6]) (h2:hd=hd0++[.lst (told.map pcD)]) (h3:told++gf u at_ e rest=gf u b e qs):I_gap u b e k qs hd0 r ls hd
def Ik(H:Hd)(x y:MO):(H++[x]).set H.length y=H++[y]:=by simp
def DU(H:Hd)(x:MO):(H++[x])[H.length]?=some x:=by simp
def Kq(H:Hd)(ds:List D):Ak (H++[.lst ds]) (.mu H.length)=some ds:=by rw[IB,DU]
def dy{u:Nat}{b e:Int}{k:Nat}{qs:List Pc}(ek:hd[k]?=some (.lst (qs.map pcD)))(hl:qs.length<=1000):WF DQ [.im (.int (u:Int)),.im (.int b),.im (.int e),.mu k] hd λd x=>d=.mu hd.length/\x=hd++[.lst ((gf u b e qs).map pcD)]:=by
 have gl:=Nb (u:=u) (e:=e) (qs:=qs) (a:=b);unfold DQ;refine Ax rfl ?_;refine AB (AS (Ar (Bb (A9 ⟨CW,A6 ?_⟩))));refine AB (AS (A2 rfl (A6 ?_)));refine AB (Bw (EU (A2 rfl ⟨k,_,rfl,O3 ek _,?_⟩)));refine BL (I_gap u b e k qs hd) ⟨qs,[],b,none,rfl,rfl,rfl,rfl⟩ ?_ ?_
 .rintro d r ls hd' ⟨rest,told,at_,z6,er,rfl,rfl,h3⟩;cases rest with
  |nil=>cases er
  |cons q rest=>
   obtain⟨rfl,rfl⟩:=List.cons.inj er;have tl:told.length+2<=3000:=by
    have:=hX List.length h3;rw[gf]at this;simp only[i9,i7]at this;omega
   refine⟨_,rfl,?_⟩;dsimp only[set_cons_zero,set_cons_succ];have fin:∀(tl2:List Pc),tl2.length<=3000->tl2++q::gf u q.2.2 e rest=gf u b e qs->WS (A5 (B0 (mMt Ad (A0 4) (A1 (A0 6) A4))) (AE 5 (mOp gIx (A0 6) (mC (.int 2))))) [some (.im (.int (u:Int))),some (.im (.int b)),some (.im (.int e)),some (.mu k),some (.mu hd.length),some (.im (.int at_)),some (pcD q)] (hd++[.lst (tl2.map pcD)]) (M9 [(k,qs.map pcD)] (I_gap u b e k qs hd (rest.map pcD)) (MB (A5 (B0 (mMt Ad (A0 4) (A1 (Ae (A1 74 (A1 (A0 5) (A1 121 A4)))) A4))) (AQ (A0 4))) λf x=>match f with
    |.rt d=>d=.mu hd.length/\x=hd++[.lst ((gf u b e qs).map pcD)]
    |.nx _=>D.im .non=.mu hd.length/\x=hd++[.lst ((gf u b e qs).map pcD)]
    | _=>False)):=by
    intro tl2 l2 e2;refine AB (Bt (EB (A2 rfl ⟨⟨_,Kq _ _⟩,A3 (A2 rfl (A9 (Ci (DU _ _) (BB 86) (A6 ?_))))⟩)));rw[Ik];refine AS (A7 (A2 rfl (AN (AF rfl (E8 _ _ _ _) ?_))));refine⟨λp hp=>?_,rest,tl2++[q],q.2.2,some (pcD q),rfl,rfl,by simp,by simpa using e2⟩;rw[hE]at hp;subst hp;exact O3 ek _
   rw[gf]at h3;refine AB (B3 (AI (A7 (A2 rfl (A7 (A2 rfl (AN (AF rfl (DC _ _ _) (GF ⟨_,rfl,λc=>?_,λc=>Aj (A6 ?_)⟩)))))))))
   .have c:at_<q.2.1:=iD c;rw[gb c]at h3;refine Bt (EB (A2 rfl ⟨⟨_,Kq _ _⟩,A3 (BA (A3 (A2 rfl (A3 (A2 rfl (A3 (A7 (A2 rfl (AN (AF rfl (DC _ _ _) (A9 ⟨C0,?_⟩)))))))))))⟩));refine A9 (Ci (DU _ _) (BB 86) (A6 ?_));rw[Ik,Fz];have e2:told.map pcD++[D.im (.tup [.int (u:Int),.int at_,.int q.2.1])]=(told++[(u,at_,q.2.1)]).map pcD:=by rw[ig];rfl
    rw[e2];exact fin _ 86 (by simpa using h3)
   .have c:¬ at_<q.2.1:=jj c;rw[gh c]at h3;exact fin told 66 h3
 .rintro ls hd' ⟨rest,told,at_,z6,er,rfl,rfl,h3⟩;have:rest=[]:=by cases rest with
   |nil=>rfl
   |cons t r=>cases er
  subst this;refine A6 ?_;have tl:told.length<=3000:=by
   have:=hX List.length h3;simp only[i9]at this;omega
  refine AB (Bt (EB (A2 rfl ⟨⟨_,Kq _ _⟩,A3 (BA (A3 (A2 rfl (A3 (A2 rfl (A3 (A2 rfl (A9 ⟨C0,?_⟩))))))))⟩)));refine A9 (Ci (DU _ _) (BB 86) (A6 ?_));rw[Ik,Fz];refine Av (A2 rfl ⟨rfl,?_⟩);rw[<- h3,gf,ig];rfl
open Sx (Blk)
open Bk (Pc gf Brk)
def EM{F:List D->Hd->Option (D×Hd)}{QE:D->Hd->Prop}(h:WA m ls hd λds rest=>Aw 0 ds=true/\WF F ds [] λd x=>∃k es,d=.mu k/\x[k]?=some (.lst es)/\Aw 0 es=true/\QE (.mu rest.length) (rest++[.lst es])):WE (AD 0 F m) ls hd QE:=by
 obtain⟨ds,rest,e,hc,d,x,e2,k,es,rfl,e3,c3,q⟩:=h;refine⟨_,_,?_,q⟩;have t3:¬ k<0:=by omega
 simp only[AD,e,bind_some,List.take_zero,hc,e2,fin,gh t3,e3,c3,gz];simp
def UH{h l:72}{left:77}(r:Sx.Rows h l left (B::bs)):∃C R b,B=(b,b+Sx.S l C,Sx.cst (left.filter λk=>decide (k∈C)))/\left.Perm (C++R)/\Sx.ChOk h l b C R/\Sx.Rows h l (left.filter λk=>!decide (k∈C)) bs:=by
 cases r with
 |cons pm K r=>exact⟨_,_,_,rfl,pm,K,r⟩
def UG{h l:72}{left:77}(r:Sx.Rows h l left []):left=[]:=by cases r;rfl
def bg{x y:Nat}(hx:1<=x)(hy:1<=y):x+y<=x*y+1:=by
 obtain⟨a,rfl⟩:∃a,x=a+1:=⟨x-1,by omega⟩
 obtain⟨b,rfl⟩:∃b,y=b+1:=⟨y-1,by omega⟩
 rw[Nat.add_mul,Nat.mul_add];omega
def cK(m a:Nat):2^m+2^a<=2^(m+a)+1:=by
 rw[Nat.pow_add];exact bg (Nat.pos_of_ne_zero 71) (Nat.pos_of_ne_zero 71)
theorem Ng(p:Nat->Bool):∀L:List Nat,(L.filter p).length+(L.filter λx=>!p x).length=L.length
 |[]=>rfl
 |x::r=>by
  have ih:=Ng p r;by_cases h:p x=true
  .rw[iW h,j7 (by simp[h])];simp only[i7];omega
  .rw[j7 h,iW (by simpa using h)];simp only[i7];omega
def Su{u:Nat}{L:77}(h:u∈L):(L.filter λk=>decide (k≠u)).length<L.length:=by
 induction L with
 |nil=>cases h
 |cons x r ih=>
  by_cases e:x=u
  .subst e;have:=iJ (λk=>decide (k≠x)) r;simp;simpa using Nat.lt_succ_of_le this
  .have h:u∈r:=by rcases mem_cons.mp h with q|q;exact absurd q.symm e;exact q
   have:=ih h;rw[iW (by simpa using e)];simp only[i7];omega
theorem Pp(k:Nat){α:Type}(f:α->I):∀L:List α,EV k (L.map λx=>D.im (f x))=L.map λx=>D.im (f x)
 |[]=>rfl
 |x::r=>by simp only[gv,EV,shD,Pp k f r]
def Vu(k:Nat)(L:List Pc):EV k (L.map pcD)=L.map pcD:=Pp k pcI L
def Rj(k:Nat)(L:List (List Nat)):EV k (L.map Ay)=L.map Ay:=Pp k Am L
abbrev chz(cs:Nat->Cost)(W:95):List Nat->Int->Nat->Prop:=λM e u=>u∈CK (Mc W) M/\(cs u).at e=Cc ((CK (Mc W) M).map λk=>(cs k).at e)
inductive I_brk(ws:List Wg)(cs:Nat->Cost)(W:95)(h:72)(ks:77)(bs:List Blk)(r:List D)(ls:Ls)(hd:Hd):Prop
 |mk (left:77) (bs':List Blk) (ps:List Pc) (ss:List (List Nat)) (g:Hd) (z5 z6 z7 z8 z9 z10:Option D) (h0:r=bs'.map CP) (h1:ls=[some (.im (AR ws)),some (.im (.tup (W.map AM))),some (.im (Am ks)),some (.mu 0),some (.mu 1),z5,z6,z7,z8,z9,z10]) (h2:hd=.lst (ps.map pcD)::.lst (ss.map Ay)::.lst (bs.map CP)::g)
  (h3:Sx.Rows h (AL ws) left bs') (h4:left.Sublist ks) (h5:∀pR sR,Brk h (AL ws) (chz cs W) left pR sR->Brk h (AL ws) (chz cs W) ks (ps++pR) (ss++sR)) (h6:ps.length+2^left.length<=2^ks.length) (h7:ss.length+left.length<=ks.length):I_brk ws cs W h ks bs r ls hd
section
variable{ws:List Wg}{cs:Nat->Cost}{W:95}{rk:Nat->Nat}{h:72}
set_option maxHeartbeats 1000000 in
theorem WV(E:Ev ws cs W rk h):∀(n:Nat) {ks:77},ks.length<n->ks.Pairwise (·<·)->(∀k∈ks,k<65)->ks.length<=8->WF (Cz n) [.im (AR ws),.im (.tup (W.map AM)),.im (Am ks)] [] λd x=>∃(ps:List Pc) (ss:List (List Nat)) (g:Hd),d=.tm [.mu 0,.mu 1]/\x=.lst (ps.map pcD)::.lst (ss.map Ay)::g/\Brk h (AL ws) (chz cs W) ks ps ss/\ps.length+1<=2^ks.length/\ss.length<=ks.length
 |0,ks,h0,_,_,_=>by omega
 |n+1,ks,hn,hs,hk,hl=>by
  have ih:=λ{ks}=>WV E n (ks:=ks)
  show WF (mkF 3 11 (HL (Cz n))) _ _ _;refine Ax rfl ?_;refine AB (AS (Ar (Bb (A9 ⟨CW,A6 ?_⟩))));refine AB (AS (Ar (Bb (A9 ⟨CW,A6 ?_⟩))));refine AB (Bw (EU (EM (A3 (A2 rfl (A3 (A2 rfl (A3 (A2 rfl (A9 ⟨by simp,(d9 E.ok E.hW E.R E.hrk E.H E.hb hs hk hl).mono ?_⟩))))))))));rintro d x ⟨bs,rfl,rfl,rows⟩;refine⟨0,_,rfl,rfl,KD 0 Gh bs,2,_,rfl,rfl,?_⟩;have e8:2^ks.length<=256:=SL hl;refine BL (I_brk ws cs W h ks bs) ⟨ks,bs,[],[],[],none,none,none,none,none,none,rfl,rfl,rfl,rows,List.Sublist.refl _,λpR sR B=>B,by simp,by simp⟩ ?_ ?_
  .rintro d r ls hd ⟨left,bs',ps,ss,g,z5,z6,z7,z8,z9,z10,er,rfl,rfl,rows',sub,clo,lp,ls'⟩;cases bs' with
   |nil=>cases er
   |cons B bs'=>
    obtain⟨rfl,rfl⟩:=List.cons.inj er;obtain⟨C,R,b,rfl,pm,K,rows2⟩:=UH rows';have nd:left.Nodup:=(hs.sublist sub).imp λq=>by omega
    have mM:∀k,k∈left.filter (λk=>decide (k∈C))↔k∈C:=λk=>by
     rw[mem_filter];exact⟨λz=>by simpa using z.2,λz=>⟨pm.mem_iff.mpr (iu _ z),by simpa using z⟩⟩
    have ne:left.filter (λk=>decide (k∈C))≠[]:=by
     obtain⟨c,C',e1,_⟩:=K.fst;exact iS ((mM c).mpr (by rw[e1];simp))
    have subM:(left.filter λk=>decide (k∈C)).Sublist ks:=filter_sublist.trans sub;have lM:(left.filter λk=>decide (k∈C)).length<=8:=gw subM.length_le hl;have S:St ws (left.filter λk=>decide (k∈C)):=⟨ne,λk hk'=>hk k (subM.subset hk'),lM⟩
    have fl:=Ng (λk=>decide (k∈C)) left;refine⟨_,rfl,?_⟩;have eM:((Sx.cst (left.filter λk=>decide (k∈C))).map I.int)=(left.filter λk=>decide (k∈C)).map λk:Nat=>I.int (k:Int):=by simp[Sx.cst]
    dsimp only[set_cons_zero,set_cons_succ];rw[eM];refine AB (AS (Ap (A3 (A2 rfl (A3 (A2 rfl (A3 (A2 rfl (A3 (A2 rfl (A9 ⟨by simp,(Qu E S _).mono ?_⟩)))))))))));rintro d x ⟨u,rfl,hu,ec⟩;refine⟨_,rfl,A6 ?_⟩;have uM:=(mem_filter.mp hu).1;have flt:=Su uM;have subN:((left.filter λk=>decide (k∈C)).filter λk=>decide (k≠u)).Sublist ks:=filter_sublist.trans subM;refine AB (JR (Ic (A3 (A2 rfl (A3 (A2 rfl (A3 (Ap (A3 (A2 rfl (A3 (A2 rfl (A9 ⟨by simp,(RP _ u lM).mono ?_⟩)))))))))))));rintro d x rfl;refine⟨_,rfl,A9 ⟨by simp,(ih (by have:=subM.length_le;omega) (hs.sublist subN) (λk hk'=>hk k (subN.subset hk')) 66).mono ?_⟩⟩;rintro d x ⟨qs,ts,g',rfl,rfl,BN,l1,l2⟩;refine⟨_,rfl,A6 ?_⟩;generalize eH:(MO.lst (ps.map pcD)::MO.lst (ss.map Ay)::MO.lst (bs.map CP)::g)=H;have eh:((MO.lst (qs.map pcD)::MO.lst (ts.map Ay)::g').map (shO H.length))=MO.lst (qs.map pcD)::MO.lst (ts.map Ay)::g'.map (shO H.length):=by
     simp only[gv,shO,Vu,Rj]
    rw[eh];generalize g'.map (shO H.length)=g2;have p1:2^((left.filter λk=>decide (k∈C)).filter λk=>decide (k≠u)).length*2<=2^(left.filter λk=>decide (k∈C)).length:=by
     rw[<- Nat.pow_succ];exact Nat.pow_le_pow_right 66 66
    have p2:=cK (left.filter λk=>decide (k∈C)).length (left.filter λk=>!decide (k∈C)).length;rw[fl]at p2;have p3:0<2^(left.filter λk=>!decide (k∈C)).length:=Nat.pos_of_ne_zero 71;have gl:=Nb (u:=u) (e:=b+Sx.S (AL ws) C) (qs:=qs) (a:=b);have h00:(H++MO.lst (qs.map pcD)::MO.lst (ts.map Ay)::g2)[0+H.length]?=some (.lst (qs.map pcD)):=by rw[Nat.zero_add];exact hg0 _ _ _
    have h01:(H++MO.lst (qs.map pcD)::MO.lst (ts.map Ay)::g2)[1+H.length]?=some (.lst (ts.map Ay)):=by rw[Nat.add_comm];exact hg1 _ _ _ _
    refine AB (OT rfl (CG (A3 (A2 rfl (A3 (A2 rfl (A3 (A2 rfl (A3 (A2 rfl (A9 ((dy (u:=u) h00 66).mono ?_))))))))))));rintro d x ⟨rfl,rfl⟩;subst eH;refine⟨_,ps.map pcD,_,rfl,rfl,DU _ _,AO 86,A6 ?_⟩;generalize eg:(g++MO.lst (qs.map pcD)::MO.lst (ts.map Ay)::g2)++[MO.lst ((gf u b (b+Sx.S (AL ws) C) qs).map pcD)]=g3;have h02:(MO.lst (ps.map pcD++(gf u b (b+Sx.S (AL ws) C) qs).map pcD)::MO.lst (ss.map Ay)::MO.lst (bs.map CP)::g3)[1+(MO.lst (ps.map pcD)::MO.lst (ss.map Ay)::MO.lst (bs.map CP)::g).length]?=some (.lst (ts.map Ay)):=by
     rw[<- eg];show([MO.lst (ps.map pcD++(gf u b (b+Sx.S (AL ws) C) qs).map pcD),MO.lst (ss.map Ay),MO.lst (bs.map CP)]++((g++MO.lst (qs.map pcD)::MO.lst (ts.map Ay)::g2)++[MO.lst ((gf u b (b+Sx.S (AL ws) C) qs).map pcD)]))[1+(g.length+1+1+1)]?=_;rw[List.getElem?_append_right 86,List.getElem?_append_left 86];have:=hg1 g (MO.lst (qs.map pcD)) (MO.lst (ts.map Ay)) g2;rw[<- this];congr 1;simp;omega
    change WS _ _ (MO.lst (ps.map pcD++(gf u b (b+Sx.S (AL ws) C) qs).map pcD)::MO.lst (ss.map Ay)::MO.lst (bs.map CP)::(g++MO.lst (qs.map pcD)::MO.lst (ts.map Ay)::g2)++[MO.lst ((gf u b (b+Sx.S (AL ws) C) qs).map pcD)]) _;rw[show(MO.lst (ps.map pcD++(gf u b (b+Sx.S (AL ws) C) qs).map pcD)::MO.lst (ss.map Ay)::MO.lst (bs.map CP)::(g++MO.lst (qs.map pcD)::MO.lst (ts.map Ay)::g2)++[MO.lst ((gf u b (b+Sx.S (AL ws) C) qs).map pcD)])=MO.lst (ps.map pcD++(gf u b (b+Sx.S (AL ws) C) qs).map pcD)::MO.lst (ss.map Ay)::MO.lst (bs.map CP)::g3 by rw[<- eg];rfl];refine OT rfl (Ar (JV (Ar (Bb (A3 (A2 rfl (A9 ⟨DI,A2 rfl ⟨_,_,_,_,rfl,rfl,DU _ _,O3 h02 _,AO 86,?_⟩⟩)))))));refine⟨_,ss.map Ay,_,rfl,rfl,DU _ _,AO 86,?_⟩;refine⟨λp hp=>?_,left.filter (λk=>!decide (k∈C)),bs',ps++gf u b (b+Sx.S (AL ws) C) qs,ss++((left.filter λk=>decide (k∈C))::ts),(g3++[MO.lst [Ay (left.filter λk=>decide (k∈C))]]++[MO.lst ([Ay (left.filter λk=>decide (k∈C))]++ts.map Ay)]),_,_,_,_,_,_,rfl,rfl,?_,rows2,filter_sublist.trans sub,λpR sR B=>?_,?_,?_⟩
    .rw[hE]at hp;subst hp;rfl
    .rw[ig,ig];rfl
    .have:=clo _ _ (.cons pm K ⟨hu,ec⟩ ((mM u).mp uM) BN B);rw[iE,iE];exact this
    .simp only[i9];omega
    .simp only[i9,i7];omega
  .rintro ls hd ⟨left,bs',ps,ss,g,z5,z6,z7,z8,z9,z10,er,rfl,rfl,rows',sub,clo,lp,ls'⟩;have:bs'=[]:=by cases bs' with
    |nil=>rfl
    |cons t r=>cases er
   subst this;have:=UG rows';subst this;refine A6 (Av (BA (A3 (A2 rfl (A3 (A2 rfl (A9 ⟨Cy,?_⟩)))))));have B:=clo [] [] .nil;rw[ic,ic]at B;exact⟨ps,ss,_,rfl,rfl,B,by simpa using lp,by simpa using ls'⟩
end
open Sx (Blk)
open Bk (Pc gf Brk)
def gr(ws:List Wg)(cs:Nat->Cost)(en:72):Int:=CJ ((68 65).map λk=>(cs k).at (en k))
def dH{en:72}(hw:∀p∈W,en p.1<en p.2){x y:Int}(r:Rc (Cg W) x y):∀i:Nat,x=i->∃j:Nat,y=j/\en i<en j:=by
 induction r with
 |one h=>
  rintro i rfl;obtain⟨⟨a,b⟩,hp,e⟩:=mem_map.mp h;simp only[Prod.mk.injEq]at e;obtain⟨e1,rfl⟩:=e;have:a=i:=by omega
  subst this;exact⟨b,rfl,hw _ hp⟩
 |step _ h ih=>
  intro i hi;obtain⟨m,rfl,lm⟩:=ih i hi;obtain⟨⟨a,b⟩,hp,e⟩:=mem_map.mp h;simp only[Prod.mk.injEq]at e;obtain⟨e1,rfl⟩:=e;have:a=m:=by omega
  subst this;have l:=hw _ hp;exact⟨b,rfl,Int.lt_trans lm l⟩
section
variable{cs:Nat->Cost}{rk:Nat->Nat}{h:72}
def Ev.hs(E:Ev ws cs W rk h):Bk.Hs 65 (BI ws) (AL ws) W h where
 pos k _:=Bq ws k
 ins p hp:=E.R.ins p hp
 lo k hk:=E.H.lo k hk
 st p hp:=by have:=E.H.up p hp (E.R.ins p hp).2;rw[D4 E.ok (E.R.ins p hp).1];exact this
 eq k hk:=by
  rcases E.H.eq k hk with e|⟨p,hp,e1,e2⟩
  .exact .inl e
  .exact .inr ⟨p,hp,e1,by rw[D4 E.ok (E.R.ins p hp).1];exact e2⟩
def Ev.hch(E:Ev ws cs W rk h):∀M e u,chz cs W M e u->∀w∈W,w.1=u->w.2∉M:=by
 rintro M e u ⟨hu,_⟩ w hw rfl hM;have h3:=(mem_filter.mp hu).2;rw[Bool.not_eq_true',List.any_eq_false]at h3;refine h3 w.2 hM ?_;have:Rc (Cg W) (w.1:Int) (w.2:Int):=.one (mem_map.mpr ⟨w,hw,rfl⟩);simp[Mc,this]
def Ev.bok(E:Ev ws cs W rk h)(B:Brk h (AL ws) (chz cs W) ks ps ss)(nd:ks.Nodup):Bk.Ok h (AL ws) W (chz cs W) ks ps ss:=B.ok (Bq ws) E.hs.st E.hch nd
def WW(E:Ev ws cs W rk h)(hk:∀k∈ks,k<65):Sx.S (AL ws) ks=(ks.map (An ws)).sum:=by
 unfold Sx.S
 congr 1
 exact j6 λk hk'=>D4 E.ok (hk k hk')
def ZC(E:Ev ws cs W rk h){e:Int}(hM:∀k∈M,k<65)(w:Bk.Wd h (AL ws) M e):e=FT ws h M:=by
 obtain⟨⟨c,hc,e1⟩,e2⟩:=w;have ms:=Bn (xs:=M.map h) (iS (mem_map.mpr ⟨c,hc,rfl⟩));have g1:=ms.2 _ (mem_map.mpr ⟨c,hc,rfl⟩);obtain⟨v,hv,ev⟩:=mem_map.mp ms.1;have g2:=e2 v hv;unfold FT;rw[WW E hM]at e1 g2;omega
def WK{en:72}{k:Nat}(hk:k<65):(cs k).at (en k)<=gr ws cs en:=
 (BF (xs:=(68 65).map λk=>(cs k).at (en k)) (iS (mem_map.mpr ⟨k,by simpa using hk,rfl⟩))).2 _ (mem_map.mpr ⟨k,by simpa using hk,rfl⟩)
theorem low(E:Ev ws cs W rk h){left en:72}{t:Int}(I:Bk.Inv 65 (AL ws) h W left en t)(h0:∀k,k<65->left k=0)(S:St ws ks)(nd:ks.Nodup):bnd ws cs h (Mc W) ks<=gr ws cs en:=by
 have ms:=Bn (xs:=ks.map h) (by simpa using S.ne);obtain⟨u,hu,h1,h2⟩:=I.low E.hs h0 S.ne nd S.lt (b:=Cc (ks.map h)) λk hk=>ms.2 _ (mem_map.mpr ⟨k,hk,rfl⟩);rw[WW E S.lt]at h1;have hw:∀p∈W,en p.1<en p.2:=λp hp=>(I.wi p hp (by
  have:=h0 p.2 (E.R.ins p hp).2;have:=Bq ws p.2;omega)).2
 have hlast:u∈CK (Mc W) ks:=by
  refine mem_filter.mpr ⟨hu,?_⟩;rw[Bool.not_eq_true',List.any_eq_false];intro b hb q;have q:Rc (Cg W) u b:=by simpa [Mc]using q
  obtain⟨j,ej,lt⟩:=dH hw q u rfl;have:b=j:=by omega
  subst this;have:=h2 b hb;omega
 have g1:=(Bn (xs:=(CK (Mc W) ks).map λk=>(cs k).at (FT ws h ks)) (iS (mem_map.mpr ⟨u,hlast,rfl⟩))).2 _ (mem_map.mpr ⟨u,hlast,rfl⟩);refine Int.le_trans g1 (Int.le_trans (PQ (E.hcs u (S.lt u hu)).2.1 ?_) (WK (S.lt u hu)));exact h1
def Pl(E:Ev ws cs W rk h)(B:Brk h (AL ws) (chz cs W) (68 65) ps ss):∀s∈ss,St ws s/\s.Nodup:=λs hs=>by
 have O:=E.bok B iR;obtain⟨h1,h2⟩:=O.set s hs;refine⟨⟨h1,λk hk=>by simpa using h2.subset hk,?_⟩,nodup_range.sublist h2⟩;have:=h2.length_le;have:=E.ok.2.1;simp at *;omega
def up(E:Ev ws cs W rk h){en:72}(B:Brk h (AL ws) (chz cs W) (68 65) ps ss)(hb:∀s'∈ss,bnd ws cs h (Mc W) s'<=bnd ws cs h (Mc W) s)(he:∀k,k<65->∃q∈ps,q.1=k/\en k=q.2.2):gr ws cs en<=bnd ws cs h (Mc W) s:=by
 have O:=E.bok B iR;have h0:=E.ok.1;have ms:=(BF (xs:=(68 65).map λk=>(cs k).at (en k)) (iS (mem_map.mpr ⟨0,mem_range.mpr 66,rfl⟩))).1;obtain⟨k,hk,ek⟩:=mem_map.mp ms;have hkn:k<ws.length:=by simpa using hk
 obtain⟨M,hM,e,⟨_,hc⟩,hw,hq⟩:=O.cst k hk;have hM':=(Pl E B M hM).1;have ee:=ZC E hM'.lt hw;obtain⟨q,hq1,hq2,hq3⟩:=he k hkn;have h1:=PQ (E.hcs k hkn).2.1 (hq q hq1 hq2);rw[<- hq3,hc]at h1;unfold gr;rw[<- ek];refine Int.le_trans h1 (Int.le_trans ?_ (hb M hM));unfold bnd;rw[ee];exact 110 _
def ay(E:Ev ws cs W rk h):WF C3 [.im (AR ws),.im (.tup (W.map AM))] [] λd x=>∃(ps:List Pc) (ss:List (List Nat)) (s:77),d=.im (.tup [.tup (ps.map pcI),Am s])/\Brk h (AL ws) (chz cs W) (68 65) ps ss/\s∈ss/\(∀s'∈ss,bnd ws cs h (Mc W) s'<=bnd ws cs h (Mc W) s)/\ps.length<=256:=by
 have hn:=E.ok.2.1;have h0:=E.ok.1;unfold C3;refine Ax rfl ?_;have rn:Au (Ah 0 65)=.im (Am (68 65)):=by rw[CI,J9]
 have rgl:Ht (ws.length:Int):=Ip 66 66;refine AB (JR (Ic (A3 (A2 rfl (A3 (A2 rfl (A3 (WP.eq (z:=.im (Am (68 65))) (h:=[]) (by simp[BE,rgl,rn]) (A9 ⟨by simp,(WV E 10 86 List.pairwise_lt_range 71 (by simpa using hn)).mono ?_⟩)))))))));rintro d x ⟨ps,ss,g,rfl,rfl,B,l1,l2⟩;refine⟨_,rfl,A6 ?_⟩;rw[iL];have eh:((MO.lst (ps.map pcD)::MO.lst (ss.map Ay)::g).map (shO ([]:Hd).length))=MO.lst (ps.map pcD)::MO.lst (ss.map Ay)::g.map (shO ([]:Hd).length):=by
  simp only[gv,shO,Vu,Rj]
 rw[eh];have O:=E.bok B iR;have sst:=Pl E B;obtain⟨M,hM,_⟩:=O.cst 0 (mem_range.mpr h0);rw[iX]at l1;have p8:=SL hn;refine Av (BA (A3 (B8 (A3 (A2 rfl (A9 (BK rfl rfl ?_)))))));refine A3 (CG (A3 (A2 rfl (A3 (A2 rfl (A3 (A2 rfl (A9 ((Yt E (ss:=ss) rfl (iS hM) (λs hs=>(sst s hs).1)).mono ?_)))))))));rintro d x ⟨s,hs,rfl,hb⟩;refine A9 ⟨Cy,ps,ss,s,?_,B,hs,hb,by omega⟩;rw[show ps.map pcD=(ps.map pcI).map D.im by simp,BX];rfl
end
open PySem L2 Bd Hds
open Bk (Pc Brk upd)
abbrev fl(n:Nat)(f:72):List D:=intD ((68 n).map f)
def D6{n k:Nat}(f:72)(hk:k<n):atI (fl n f) (k:Int)=some (.im (.int (f k))):=L9 rfl (by simp[intD,hk])
def K2{n k:Nat}(f:72)(hk:k<n):ixN (fl n f).length (k:Int)=some k:=by unfold ixN;simp[intD,hk]
def Hb{n k:Nat}(f:72)(v:Int):(fl n f).set k (.im (.int v))=fl n (upd f k v):=by
 refine ext_getElem? λi=>?_;rw[List.getElem?_set];by_cases hi:k=i
 .subst hi;by_cases hk:k<n
  .simp[intD,hk,Bk.upd_self]
  .simp[intD,hk]
 .simp only[hi,i5,intD,List.getElem?_map,gY];by_cases hi2:i<n
  .simp[hi2,Bk.upd_ne (f:=f) (v:=v) (λz:i=k=>hi z.symm)]
  .simp[hi2]
def Va{n:Nat}{f g:72}(h:∀k,k<n->f k=g k):fl n f=fl n g:=by
 unfold fl
 congr 1
 exact j6 λk hk=>h k (by simpa using hk)
def Kw(ok:HI ws):(ws.filterMap λw=>some (D.im (.int w.len)))=fl 65 (AL ws):=by
 rw[List.filterMap_eq_map'];unfold fl intD;rw[gY];refine List.ext_getElem 71 λi h1 h2=>?_;have hi:i<ws.length:=by simpa using h1
 simp only[List.getElem_map,Function.comp,List.getElem_range];rw[D4 ok hi,<- JS hi]
def P5(n:Nat):(List.replicate n [D.im (.int 0)]).flatten=fl n λ_=>0:=by
 simp only[intD,gY,Function.comp_def];rw[show(λ_:Nat=>D.im (.int 0))=Function.const Nat (D.im (.int 0))from rfl,List.map_const,iX];simp
def Ra{QA:List D->Hd->Prop}(h:WA ml ls hd λds x=>WE mb ls x λe y=>∃k,e=.im (.int k)/\(0<=k/\k<=1000)/\Bh (83*k.toNat)/\QA (List.replicate k.toNat ds).flatten y):WA (JB ml mb) ls hd QA:=by
 obtain⟨ds,x,e1,d,y,e2,k,rfl,h1,h2,q⟩:=h;exact⟨_,_,by simp only[JB,e1,bind_some,e2,h1,h2,and_self,gz],q⟩
def lay_ints(ns:92):PyData.canLayAll0 (ns.map PyData.int)=true:=by
 induction ns with
 |nil=>rfl
 |cons x r ih=>simp[PyData.canLayAll0,PyData.canLay0]at ih ⊢;try exact ih
def Ve(ns:92):PyData.depthAll (ns.map PyData.int)<=1:=by
 induction ns with
 |nil=>simp[PyData.depthAll]
 |cons x r ih=>simp[PyData.depthAll,PyData.depth]at ih ⊢;try omega
def dR{n:Nat}(e:hd[n]?=some (.lst (intD ns))):pyD hd (.mu n)=some (.list (ns.map PyData.int)):=by simp only[pyD,e,intD,Dx,i4,E3]
def RV{QE:D->Hd->Prop}(h:WE ma ls hd λd x=>WA ml ls x λds y=>∃ns:List Int,ds=intD ns/\pyD y d=some (.list (ns.map PyData.int))/\QE (.im (.bl true)) y):WE (Br false ma ml) ls hd QE:=by
 obtain⟨d,x,e1,ds,y,e2,ns,rfl,e3,q⟩:=h;refine⟨_,_,?_,q⟩;have c1:(PyData.list (ns.map PyData.int)).canLay0=true:=by rw[PyData.canLay0,lay_ints]
 have c2:min (PyData.list (ns.map PyData.int)).depth (PyData.list (ns.map PyData.int)).depth<=60:=by
  have:=Ve ns;rw[PyData.depth];omega
 simp only[Br,e1,bind_some,e2,e3];rw[show intD ns=ns.map λi=>D.im (.int i)from rfl,Dx,bind_some,E3];unfold Fc;rw[gb ⟨c1,c1,c2⟩,PySem.SeqAt.eqv_refl _ c1];rfl
def VR(i:Int):WF Gp [.im (.int i)] [] λd x=>d=.im (.bl true):=by
 unfold Gp;refine Ax rfl ?_;refine Av (Wn (AI (JU (A2 rfl ⟨true,rfl,_,rfl,?_⟩))));rw[gb rfl];exact Wj (AI (JU (A2 rfl ⟨false,rfl,_,rfl,rfl⟩)))
inductive I_ends(ws:List Wg)(W:95)(h:72)(ps:List Pc)(r:List D)(ls:Ls)(hd:Hd):Prop
 |mk (pre rest:List Pc) (left en:72) (at_:Int) (z6 z7 z8 z9:Option D) (h0:r=rest.map pcD) (h1:ls=[some (.im (AR ws)),some (.im (.tup (W.map AM))),some (.im (.tup (ps.map pcI))),some (.mu 0),some (.mu 1),some (.im (.int at_)),z6,z7,z8,z9]) (h2:hd=[.lst (fl 65 left),.lst (fl 65 en)])
  (h3:ps=pre++rest) (h4:Bk.Inv 65 (AL ws) h W left en at_) (h5:∀k,k<65->left k=AL ws k-Bk.tot k pre) (h6:∀k,k<65->(∃q∈pre,(q.1=k/\en k=q.2.2)/\∀p∈pre,p.1=k->p.2.2<=en k)∨∀q∈pre,q.1≠k) (h7:Bk.Row at_ rest) (h8:∀q∈pre,q.2.2<=at_):I_ends ws W h ps r ls hd
section
variable{cs:Nat->Cost}{rk:Nat->Nat}{h:72}
def cZ(E:Ev ws cs W rk h)(B:Brk h (AL ws) (chz cs W) (68 65) ps ss):Du.Pk 65 h (AL ws) W ps:=by
 have O:=E.bok B iR;exact⟨λp hp=>by simpa using O.mem p hp,O.row 0 (λk hk=>(E.hb k (by simpa using hk)).1),λj hj=>O.tot j (by simpa using hj),λw hw p hp q hq e1 e2=>O.wis w hw (by simpa using (E.R.ins w hw).1) (by simpa using (E.R.ins w hw).2) p hp q hq e1 e2⟩
set_option maxHeartbeats 1000000 in
def T3(E:Ev ws cs W rk h)(O:Du.Pk 65 h (AL ws) W ps):WF FK [.im (AR ws),.im (.tup (W.map AM)),.im (.tup (ps.map pcI))] [] λd x=>∃(left en:72) (t:Int),d=.mu 1/\x=[.lst (fl 65 left),.lst (fl 65 en)]/\Bk.Inv 65 (AL ws) h W left en t/\(∀k,k<65->left k=0)/\∀k,k<65->∃q∈ps,(q.1=k/\en k=q.2.2)/\∀p∈ps,p.1=k->p.2.2<=en k:=by
 have hn:=E.ok.2.1;have eln:(((ws.map wgI).map D.im).length:Int)=(ws.length:Int):=by simp
 unfold FK;refine Ax rfl ?_;refine AB (B3 (Fp (Fm (JU (A2 rfl ⟨true,rfl,_,rfl,(λz=>by cases z),λ_=>Aj (A6 ?_)⟩)))));refine AB (AS (Ar (Af (C4 (A2 rfl ⟨_,rfl,?_⟩)))));rw[<- BG];refine⟨AO 86,?_⟩;refine As (λw=>D.im (wgI w)) (λw=>some (.im (.int w.len))) (λ_ ls=>∃x,ls=[some x]) _ (AK _) ?_ ?_
 .rintro w hw ls hls;refine⟨[some (.im (wgI w))],by rcases hls with rfl|⟨_,x,rfl⟩<;>rfl,⟨_,rfl⟩,BW ⟨rfl,?_⟩⟩;rw[gb rfl];exact⟨_,rfl,A7 (A2 rfl (AN (AF rfl (Bc _ _) ⟨rfl,rfl⟩)))⟩
 rw[Kw E.ok];refine A6 ?_;refine AB (AS (Ar (Ra (Bb (A3 (AN (A9 ⟨AO 71,?_⟩)))))));refine B8 (A3 (A2 rfl (A9 (BK rfl rfl ⟨_,rfl,by simp;omega,AO 86,A6 ?_⟩))));rw[eln,ia,P5];refine AB (AS (AN (A6 ?_)));refine AB (Bw (C4 (A2 rfl ⟨_,rfl,?_⟩)));rw[show(ps.map pcI).map D.im=ps.map pcD by simp];refine BL (I_ends ws W h ps) ⟨[],ps,AL ws,λ_=>0,0,none,none,none,none,rfl,rfl,rfl,rfl,Bk.Inv.start (λp hp=>E.R.ins p hp) (λk _=>Bq ws k) (λk _=>rfl),λk _=>by simp[Bk.tot],λk _=>.inr 71,O.row,(by intro q hq;cases hq)⟩ ?_ ?_
 .rintro d r ls hd ⟨pre,rest,left,en,at_,z6,z7,z8,z9,er,rfl,rfl,eps,I,hleft,hen,row,hat⟩;cases rest with
  |nil=>cases er
  |cons p rest=>
   obtain⟨rfl,rfl⟩:=List.cons.inj er;obtain⟨k,b,e⟩:=p;have hp:(k,b,e)∈ps:=by rw[eps];simp
   have hk:k<ws.length:=(O.mem _ hp).1;have hkb:h k<=b:=(O.mem _ hp).2;have r1:at_<=b:=row.1;have r2:b<e:=row.2.1;have r3:Bk.Row e rest:=row.2.2;have rge:=r3.ge;have hcom:BI ws k<=b:=Int.le_trans (E.H.lo k hk) hkb;have tots:∀j,j<65->Bk.tot j pre+((if k=j then e-b else 0)+Bk.tot j rest)=AL ws j:=λj hj=>by
    have:=O.tot j hj;rw[eps,Bk.tot_app,Bk.tot]at this;exact this
   have fst0:∀w∈W,w.2=k->left w.1=0:=λw hw ew=>by
    have wn:=(E.R.ins w hw).1;have hq:∀q∈ps,q.1=w.1->q.2.2<=b:=λq hq eq=>O.wis w hw q hq _ hp eq ew.symm;have t1:=tots w.1 wn;rw[Bk.tot_none (a:=rest) λq hq' eq=>by
     have:=hq q (by rw[eps];simp[hq']) eq;have:=rge q hq';omega]at t1
    rw[gh λz:k=w.1=>by
     have:=hq _ hp z;have:e<=b:=this;omega]at t1
    rw[hleft w.1 wn];omega
   have mk:e-b<=left k:=by
    have t1:=tots k hk;rw[gb rfl]at t1;have:=Bk.tot_nn (k:=k) (a:=rest) λq hq=>(rge q hq).2;rw[hleft k hk];omega
   have st:=I.step E.hs hk r1 hcom fst0 (m:=e-b) 66 mk;rw[show b+(e-b)=e by omega]at st;have hle':∀q∈pre++[(k,b,e)],q.2.2<=e:=λq hq=>by
    rcases mem_append.mp hq with y|y
    .have:=hat q y;omega
    .rw[hE]at y;subst y;exact 110 _
   refine⟨_,rfl,?_⟩;dsimp only[set_cons_zero,set_cons_succ];refine AB (B3 (D1 (Fp (Fm (JU (A2 rfl ⟨true,rfl,_,rfl,?_⟩))))));rw[gh 71];refine D1 (AI (A7 (B8 (A3 (A2 rfl (A9 (BK rfl rfl (AN (Gy ⟨_,rfl,?_⟩)))))))));rw[gh 71];refine AI (ZB (AN (Af (C4 (A2 rfl ⟨_,rfl,?_⟩)))));refine⟨C0,?_⟩;refine As (xs:=[(k:Int),b,e]) (λi:Int=>D.im (.int i)) (λ_=>some (.im (.bl true))) (λ_ ls=>∃x,ls=[some x]) _ (AK _) ?_ ?_
   .rintro i _ ls hls;refine⟨[some (.im (.int i))],by rcases hls with rfl|⟨_,x,rfl⟩<;>rfl,⟨_,rfl⟩,BW ⟨rfl,?_⟩⟩;rw[gb rfl];refine⟨_,rfl,Ap (A3 (A2 rfl (A9 ⟨by simp,(VR i).mono ?_⟩)))⟩;rintro d x rfl;exact⟨_,rfl,rfl,rfl⟩
   refine⟨_,.bl false,[.bl true,.bl true,.bl true],rfl,rfl,rfl,_,rfl,(λz=>by cases z),λ_=>Aj (A6 ?_)⟩;refine AB (JR (A2 rfl ⟨_,rfl,A6 ?_⟩));refine AB (B3 (D1 (Fp (AI (Ta (AN (A2 rfl (FL ⟨_,rfl,λ_=>?_,λz=>?_⟩))))))))
   rotate_left
   .exact absurd (jj z) 66
   refine B8 (A3 (A2 rfl (A9 (BK rfl rfl (GF ⟨_,rfl,?_⟩)))));rw[eln,gh (by simp;exact hk)];refine D1 (AI (A7 (A2 rfl (A2 rfl (GF ⟨_,rfl,?_⟩)))));rw[gh (by simp;exact r1)];refine D1 (AI (A7 (A2 rfl (A2 rfl (FL ⟨_,rfl,?_⟩)))));rw[gh (by simp;exact r2)];refine AI (A7 (A2 rfl (A7 (A7 (A2 rfl (A2 rfl (AF (by rw[Cm,<- BG]) (DM hk) (AN (AF rfl (DC _ _ _) (GF ⟨_,rfl,(λz=>?_),λ_=>Aj (A6 ?_)⟩))))))))))
   .have z:=iD z;simp[BI,hk]at hcom;dsimp only at z;omega
   refine AB (B3 (AI (MV (Af (C4 (A2 rfl ⟨_,rfl,?_⟩))))));rw[show(W.map AM).map D.im=W.map λp=>D.im (AM p) by simp];have hW:=E.hW;refine⟨AO 86,?_⟩;refine As (λp=>D.im (AM p)) (λ_=>none) (λ_ ls=>∃x y,ls=[some x,some y,some (.im 105),some (.mu 0),some (.mu 1),some (.im (.int b))]) _ (AK _) ?_ ?_
   .rintro w hw ls hls;have wn:=(E.R.ins w hw).1;refine⟨[some (.im (.int (w.1:Int))),some (.im (.int (w.2:Int))),some (.im 105),some (.mu 0),some (.mu 1),some (.im (.int b))],by rcases hls with rfl|⟨_,x,y,rfl⟩<;>rfl,⟨_,_,rfl⟩,DD (AI (A7 (A2 rfl (A2 rfl (CU ⟨_,rfl,?_⟩)))))⟩;by_cases ew:w.2=k
    .rw[gb (by simp[ew])];have f0:=fst0 w hw ew;have lp:=Bq ws w.1;have et:=I.et w.1 wn 66;refine D1 (AI (A7 (A7 (A2 rfl (A2 rfl (AF rfl (D6 left wn) (AN (Ed ⟨_,rfl,?_⟩))))))));rw[gh (by rw[f0];simp)];refine AI (A7 (A7 (A2 rfl (A2 rfl (AF rfl (D6 en wn) (A2 rfl (Ed ⟨_,rfl,rfl,?_⟩)))))));rw[gh 86]
    .rw[gh 86];exact⟨rfl,by rw[gh 71]⟩
   have en0:(W.filterMap λ_=>(none:Option D))=intD []:=by simp[intD]
   rw[en0];refine⟨[],rfl,_,rfl,(λz=>by simp at z),λ_=>Aj (A6 ?_)⟩;refine AB (CZ (A7 (A7 (A2 rfl (A2 rfl (AF rfl (D6 left hk) (A7 (A2 rfl (A2 rfl (DE (DE (A2 rfl (A2 rfl ⟨0,_,k,_,rfl,rfl,rfl,K2 left hk,A6 ?_⟩)))))))))))));rw[Hb];refine AB (CZ (A2 rfl (A2 rfl (A2 rfl ⟨1,_,k,_,rfl,rfl,rfl,K2 en hk,A6 ?_⟩))));rw[Hb];refine AS (A2 rfl ⟨AK _,pre++[(k,b,e)],rest,_,_,e,_,_,_,_,rfl,rfl,rfl,by rw[eps];simp,st,λj hj=>?_,λj hj=>?_,r3,λq hq=>?_⟩)
   .rw[Bk.tot_app];have:=hleft j hj;by_cases ej:j=k
    .subst ej;rw[Bk.upd_self];simp[Bk.tot];omega
    .rw[Bk.upd_ne ej,this];simp only[Bk.tot];rw[gh λz:k=j=>ej z.symm];omega
   .by_cases ej:j=k
    .subst ej;rw[Bk.upd_self];exact .inl ⟨(j,b,e),by simp,⟨rfl,rfl⟩,λp hp _=>hle' p hp⟩
    .rw[Bk.upd_ne ej];rcases hen j hj with⟨q,hq,z⟩|z
     .refine .inl ⟨q,by simp[hq],z.1,λp hp ep=>?_⟩;rcases mem_append.mp hp with y|y
      .exact z.2 p y ep
      .rw[hE]at y;subst y;exact absurd ep.symm ej
     .refine .inr λq hq=>?_;rcases mem_append.mp hq with y|y
      .exact z q y
      .rw[hE]at y;subst y;exact λz=>ej z.symm
   .exact hle' q hq
 .rintro ls hd ⟨pre,rest,left,en,at_,z6,z7,z8,z9,er,rfl,rfl,eps,I,hleft,hen,row,hat⟩;have:rest=[]:=by cases rest with
   |nil=>rfl
   |cons t r=>cases er
  subst this;rw[ic]at eps;subst eps;have l0:∀k,k<65->left k=0:=λk hk=>by
   rw[hleft k hk,O.tot k hk];omega
  refine A6 (Av (MW (AI (RV (A2 rfl (Ra (Bb (A3 (AN (A9 ⟨AO 71,?_⟩))))))))));refine B8 (A3 (A2 rfl (A9 (BK rfl rfl ⟨_,rfl,by simp;omega,AO 86,?_⟩))));rw[eln,ia,P5];refine⟨_,rfl,?_,_,rfl,λ_=>A2 rfl ⟨left,en,at_,rfl,rfl,I,l0,λk hk=>?_⟩,(λz=>by cases z)⟩
  .rw[Va l0];exact dR rfl
  .rcases hen k hk with z|z
   .exact z
   .have:=O.tot k hk;rw[Bk.tot_none z]at this;have:=Bq ws k;omega
end
def Ow(h:ns≠[]):Do (intD ns)=some (.im (.int (CJ ns))):=by unfold Do;rw[Cv];simp[h]
section
variable{cs:Nat->Cost}{rk:Nat->Nat}{h:72}
def cG(E:Ev ws cs W rk h){en:72}{j:Nat}(e:hd[j]?=some (.lst (fl 65 en))):WF CS [.im (AR ws),.mu j] hd λd x=>d=.im (.int (gr ws cs en))/\x=hd:=by
 have hn:=E.ok.2.1;have h0:=E.ok.1;unfold CS;refine Ax rfl ?_;have eln:(((ws.map wgI).map D.im).length:Int)=(ws.length:Int):=by simp
 refine Av (Bi (Af (Ew (A3 (B8 (A3 (A2 rfl (A9 (BK rfl rfl ?_)))))))));rw[eln];refine A9 ⟨_,rfl,CA 66 66,?_⟩;rw[ia,CI];refine⟨AO (by simp[AH];omega),?_⟩;refine As (λk:Nat=>D.im 105) (λk=>some (.im (.int ((cs k).at (en k))))) (λ_ ls=>∃x,ls=[some x,some (.im (AR ws)),some (.mu j)]) _ (AK _) ?_ ?_
 .rintro k hk' ls hls;have hkn:k<ws.length:=by simpa using hk'
  refine⟨[some (.im 105),some (.im (AR ws)),some (.mu j)],by rcases hls with rfl|⟨_,x,rfl⟩<;>rfl,⟨_,rfl⟩,BW ⟨rfl,?_⟩⟩;rw[gb rfl];refine⟨_,rfl,Ap (A3 (A7 (A7 (A2 rfl (A2 rfl (AF (by rw[Cm,<- BG]) (DM hkn) (AN (AF rfl (E8 _ _ _ _) ?_))))))))⟩;rw[GG E.hcs hkn];refine A3 (A7 (A2 rfl (A2 rfl (AF (ds:=fl 65 en) (by simp[Az,e]) (D6 en hkn) (A9 ⟨by simp,(Z3 (E.hcs k hkn).2.1 _).mono ?_⟩)))));rintro d x rfl;exact⟨_,rfl,rfl,rfl⟩
 rw[D5];refine⟨_,Ow ?_,rfl,rfl⟩;intro z;have:=hX List.length z;rw[gZ,iX]at this;simp only[iB]at this;omega
end
open Bk (Pc upd)
def OR{i:Nat}{P:List Pc}(eh:hd[i]?=some (.lst (P.map pcD)))(hl:P.length<=100)(k:Nat)(b e:Int):WF DL [.mu i,.im 105,.im (.int b),.im (.int e)] hd λd x=>d=.im .non/\x=hd.set i (.lst ((Du.addP P k b e).map pcD)):=by
 have tr:CH hd (.mu i)=some (!(P.map pcD).isEmpty):=by simp only[CH,eh]
 have sv:Az hd (.mu i)=some (P.map pcD):=by simp[Az,AX,Ak,eh]
 unfold DL;refine Ax rfl ?_;refine B3 (DD (Fm (A2 rfl ⟨_,tr,?_⟩)));have app:∀{Q:Fl->Hd->Prop},Q (.nx [some (.mu i),some (.im 105),some (.im (.int b)),some (.im (.int e))]) (hd.set i (.lst ((P++[(k,b,e)]).map pcD)))->WS (B0 (mMt Ad 74 (A1 (Ae (A1 (A0 1) (A1 121 (A1 (A0 3) A4)))) A4))) [some (.mu i),some (.im 105),some (.im (.int b)),some (.im (.int e))] hd Q:=λ{Q} q=>by
  refine Bt (EB (A2 rfl ⟨⟨_,by rw[IB,eh]⟩,A3 (BA (A3 (A2 rfl (A3 (A2 rfl (A3 (A2 rfl (A9 ⟨C0,A9 ?_⟩))))))))⟩));refine Ci eh (BB 86) ?_;rw[show(P++[(k,b,e)]).map pcD=P.map pcD++[Au [.im 105,.im (.int b),.im (.int e)]] by rw[ig];rfl]at q;exact q
 rcases Du.nil_or P with rfl|⟨P',p,rfl⟩
 .rw[gh 71];exact⟨(λh=>by cases h),λ_=>app ⟨rfl,rfl⟩⟩
 .rw[gb 71];rw[Du.addP_snoc];have la:atI ((P'++[p]).map pcD) (-1)=some (pcD p):=by rw[ig];exact Gi _ _
  have gl:∀{j:Int} {v:D} {QE:D->Hd->Prop},atI [D.im (.int (p.1:Int)),.im (.int p.2.1),.im (.int p.2.2)] j=some v->QE v hd->WE (mOp gIx (mOp gIx 74 (C6 118)) (mC (.int j))) [some (.mu i),some (.im 105),some (.im (.int b)),some (.im (.int e))] hd QE:=λ{j v QE} ea q=>
   A7 (A7 (A2 rfl (Ex (AN ⟨_,rfl,AF (ds:=(P'++[p]).map pcD) sv la (AN (AF (ds:=[D.im (.int (p.1:Int)),.im (.int p.2.1),.im (.int p.2.2)]) rfl ea q))⟩))))
  refine DD (AI (A7 (gl (Bc _ _) (A2 rfl (CU ⟨_,rfl,?_⟩)))));by_cases h1:p.1=k
  .rw[gb (by simp[h1])];refine AI (A7 (gl (E8 _ _ _ _) (A2 rfl (CU ⟨_,rfl,λh2=>?_,λh2=>?_⟩))))
   .have h2:p.2.2=b:=by simpa using h2
    rw[gb ⟨h1,h2⟩];refine CZ (BA (A3 (A2 rfl (A3 (gl (DC _ _ _) (A3 (A2 rfl (A9 ⟨C0,A2 rfl (Ex (AN ⟨_,rfl,?_⟩))⟩))))))));refine⟨i,-1,P'.length,(P'++[p]).map pcD,rfl,rfl,eh,?_,?_⟩
    .unfold ixN;rw[gh 97,gb 86]
     congr 1
     simp;omega
    .refine⟨rfl,?_⟩;rw[ig,ig];simp[Au,B2];rfl
   .have h2:¬ p.2.2=b:=by simpa using h2
    rw[gh (λh=>h2 h.2)];exact app ⟨rfl,rfl⟩
  .rw[gh 86,gh (λh=>h1 h.1)];exact⟨(λh=>by cases h),λ_=>app ⟨rfl,rfl⟩⟩
def Wa{f:Int->Int->Int}{QS:Fl->Hd->Prop}(h:WE mo ls hd λd x=>WE mi ls x λi y=>∃n k ds j v,d=.mu n/\i=.im (.int k)/\y[n]?=some (.lst ds)/\ixN 83 k=some j/\ds[j]?=some (.im (.int v))/\WE me ls y λr z=>∃u ds',r=.im (.int u)/\z[n]?=some (.lst ds')/\ds'.length=83/\QS (.nx ls) (z.set n (.lst (ds'.set j (.im (.int (f v u))))))):WS (GS mo mi me f) ls hd QS:=by
 obtain⟨d,x,e1,i,y,e2,n,k,ds,j,v,rfl,rfl,e3,e4,e5,r,z,e6,u,ds',rfl,e7,e8,q⟩:=h;refine⟨_,_,?_,q⟩;unfold GS;simp only[e1,bind_some,e2,e3,e4,e5,e6,e7,e8,gz]
def fA(p:Nat->Prop)[DecidablePred p](g:72)(L:77):(L.filterMap λk=>if p k then some (D.im (.int (g k)))else none)=intD ((L.filter λk=>decide (p k)).map g):=by
 induction L with
 |nil=>rfl
 |cons x r ih=>
  rw[iG,iM];by_cases h:p x
  .rw[gb h,iC h,gb rfl,ih];rfl
  .rw[gh h,iA h,gh 71,ih]
noncomputable abbrev Lq(ws:List Wg)(h dd:72)(t:Int)(z6 z7 z8:Option D):Ls:=[some (.im (AR ws)),some (.im (.tup ((68 65).map λk=>.int (h k)))),some (.fv 1 (fl 65 dd)),some (.mu 0),some (.mu 1),some (.im (.int t)),z6,z7,z8]
noncomputable abbrev Hq(n:Nat)(lf:72)(P:List Pc)(g:Hd):Hd:=.lst (fl n lf)::.lst (P.map pcD)::g
def hnG:(a::b::(g++[x]))[(a::b::g).length]?=some x:=by simp
def lvG:Ak (a::b::(g++[.lst ds])) (.mu (a::b::g).length)=some ds:=by simp[Ak]
noncomputable def kfD(dd:72):D->Int×Int
 |.im (.int k)=>(dd k.toNat,k)
 |_=>(0,0)
def dw{n:Nat}{dd:72}{k:Nat}{v:Int}(hk:k<n)(e0:∀QE:D->Hd->Prop,QE (.im (.int v)) hd->WP (gIx (.mu 0) (.im 105) hd) QE):(Ae (A1 (Dj (A0 1) (A1 74 (A1 (mOp gIx 121 74) A4))) (A1 74 A4))) [some (.im 105),some (.fv 1 (fl n dd)),some (.mu 0)] hd=some (.im (.tup [.int (dd k),.int (k:Int)]),hd):=by
 have w:WE (Ae (A1 (Dj (A0 1) (A1 74 (A1 (mOp gIx 121 74) A4))) (A1 74 A4))) [some (.im 105),some (.fv 1 (fl n dd)),some (.mu 0)] hd λd x=>d=.im (.tup [.int (dd k),.int (k:Int)])/\x=hd:=by
  refine BA (A3 (RW (A2 rfl ⟨rfl,A3 (A2 rfl (A3 (A7 (A2 rfl (A2 rfl (e0 _ (A9 ⟨_,_,_,rfl,D6 dd hk,A3 (A2 rfl (A9 ⟨Cy,rfl,rfl⟩))⟩)))))))⟩)))
 obtain⟨d,x,e,rfl,rfl⟩:=w;exact e
open PySem L2 Bd Hds
open Bk (Pc upd)
abbrev dt:MS:=(A5 (AE 6 (AV (AW 1 [3] (Bo (A1 (mCB (f1 true BE) (A1 74 A4)) A4)) (AA 0) (A8 (mOp gGt (mOp gIx (A0 1) 74) 109)) 74)))
 (A5 (AE 5 (mCB Dr (A1 (A0 5) (A1 (B7 Dm (AW 1 [1] (BJ (A0 6)) (AA 0) BS (mOp gIx (A0 1) 74))) A4))))
 (A5 (AE 7 (Jx (AV (AW 1 [1,5] (BJ (A0 6)) (AA 0) (A8 (mOp gLe (mOp gIx (A0 1) 74) 121)) 74)) [2,3] (Ae (A1 (Dj (A0 1) (A1 74 (A1 (mOp gIx 121 74) A4))) (A1 74 A4)))))
 (A5 (AE 8 (B7 Dm (EX (AV (Ac (A1 (mOp Ag (A0 5) (mOp gIx (A0 3) (A0 7))) A4))) (AV (AW 1 [1,5] (BJ (A0 6)) (AA 0) (A8 (mOp gGt (mOp gIx (A0 1) 74) 121)) (mOp gIx (A0 1) 74))))))
 (A5 (B0 (Bp DL (A1 (A0 4) (A1 (A0 7) (A1 (A0 5) (A1 (A0 8) A4))))))
 (A5 (GS (A0 3) (A0 7) (mOp Bs (A0 8) (A0 5)) (λi j=>i-j))
 (AE 5 (A0 8))))))))
set_option maxHeartbeats 2000000 in
def ZE{ws:List Wg}{h dd:72}{lf:72}{P:List Pc}{t:Int}(n8:65<=8)(pl:P.length<=16)(some1:∃j,j<65/\0<lf j){Q:Fl->Hd->Prop}
 (hQ:∀t' k s g z6 z7 z8,Du.Tn 65 h dd lf t t' k s->Q (.nx (Lq ws h dd s z6 z7 z8)) (Hq 65 (upd lf k (lf k-(s-t'))) (Du.addP P k t' s) g)):WS dt (Lq ws h dd t z6 z7 z8) (Hq 65 lf P g) Q:=by
 obtain⟨j0,j0n,j00⟩:=some1
 -- undone
 refine AB (AS (Ar (Af (Ew (A3 (B8 (A3 (A2 rfl (A9 (BK (ds:=(ws.map wgI).map D.im) (z:=.im (.int (ws.length:Int))) rfl (by simp[BE]) (A9 ⟨_,rfl,CA 66 66,?_⟩)))))))))));rw[ia,CI];refine⟨AO (by simp[AH];omega),?_⟩;refine As (xs:=68 65) (λk:Nat=>D.im 105) (λk=>if 0<lf k then some (.im 105)else none) (λ_ ls=>∃x,ls=[some x,some (.mu 0)]) _ (AK _) ?_ ?_
 .rintro k hk ls hls;have hk:k<ws.length:=by simpa using hk
  refine⟨[some (.im 105),some (.mu 0)],by rcases hls with rfl|⟨_,x,rfl⟩<;>rfl,⟨_,rfl⟩,?_⟩;refine AI (A7 (A7 (A2 rfl (A2 rfl (AF (ds:=fl 65 lf) rfl (D6 lf hk) (AN (Ed ⟨_,rfl,rfl,?_⟩)))))));by_cases h:0<lf k
  .rw[gb (by simpa using h),gb h];exact⟨_,rfl,A2 rfl ⟨rfl,rfl⟩⟩
  .rw[gh (by simpa using h),gh h]
 rw[IG];refine A6 ?_;have hU:∀k,k∈(68 65).filter (λk=>decide (0<lf k))↔k<65/\0<lf k:=λk=>by simp
 have lU:((68 65).filter λk=>decide (0<lf k)).length<=8:=by
  have:((68 65).filter λk=>decide (0<lf k)).length<=(68 65).length:=iJ _ _;simp at this;omega
 generalize (68 65).filter (λk=>decide (0<lf k))=U at hU lU;have jU:j0∈U:=(hU j0).mpr ⟨j0n,j00⟩;have neU:U≠[]:=λh=>by rw[h]at jU;cases jU
 change WS _ (Lq ws h dd t (some (.mu (Hq 65 lf P g).length)) z7 z8) (Hq 65 lf P (g++[.lst (AH U)])) _;have sh:∀y:Hd,Az y (.im (.tup ((68 65).map λk=>.int (h k))))=some (((68 65).map λk=>I.int (h k)).map D.im):=λ_=>rfl
 -- t
 have ne1:U.map h≠[]:=by simpa using neU
 obtain⟨m1,m2⟩:=Bn ne1;refine AB (AS (B8 (A3 (A2 rfl (A3 (Bi (Af (EU (A2 rfl ⟨_,AH U,rfl,hnG,AO (by simp[AH];omega),?_⟩)))))))));refine As (xs:=U) (λk:Nat=>D.im 105) (λk=>some (.im (.int (h k)))) (λ_ ls=>∃x,ls=[some x,some (.im (.tup ((68 65).map λk=>.int (h k))))]) _ (by intro p hp;rw[hE]at hp;subst hp;exact hnG) ?_ ?_
 .rintro k hk ls hls;refine⟨[some (.im 105),some (.im (.tup ((68 65).map λk=>.int (h k))))],by rcases hls with rfl|⟨_,x,rfl⟩<;>rfl,⟨_,rfl⟩,BW ⟨rfl,?_⟩⟩;rw[gb rfl];exact⟨_,rfl,A7 (A2 rfl (A2 rfl (AF (sh _) (Er h ((hU k).mp hk).1) ⟨rfl,rfl⟩)))⟩
 rw[D5];refine⟨_,Ep ne1,A9 (Ho (A6 ?_))⟩;generalize Cc (U.map h)=m at m1 m2;obtain⟨t',ht'⟩:∃t',t'=max t m:=⟨_,rfl⟩
 rw[<- ht'];have mU:∃j,j<65/\0<lf j/\h j=m:=by
  obtain⟨j,hj,e⟩:=mem_map.mp m1;exact⟨j,((hU j).mp hj).1,((hU j).mp hj).2,e⟩
 have mle:∀j,j<65->0<lf j->m<=h j:=λj h1 h2=>m2 _ (mem_map.mpr ⟨j,(hU j).mpr ⟨h1,h2⟩,rfl⟩);generalize ea6:(Hq 65 lf P g).length=a6;have ea6:a6=2+g.length:=by rw[<- ea6];simp;omega
 change WS _ (Lq ws h dd t' (some (.mu a6)) z7 z8) _ _;have h6:∀(lf':72) (P':List Pc) (g':Hd),(Hq 65 lf' P' (g++.lst (AH U)::g'))[a6]?=some (.lst (AH U)):=λlf' P' g'=>by rw[ea6,show 2+g.length=g.length+2 by omega];simp
 -- the work
 refine AB (AS (Tc (Ar (Af (EU (A2 rfl ⟨_,AH U,rfl,h6 lf P [],AO (by simp[AH];omega),?_⟩))))));refine As (xs:=U) (λk:Nat=>D.im 105) (λk=>if h k<=t' then some (.im 105)else none) (λ_ ls=>∃x,ls=[some x,some (.im (.tup ((68 65).map λk=>.int (h k)))),some (.im (.int t'))]) _ (by intro p hp;rw[hE]at hp;subst hp;exact h6 lf P []) ?_ ?_
 .rintro k hk ls hls;refine⟨[some (.im 105),some (.im (.tup ((68 65).map λk=>.int (h k)))),some (.im (.int t'))],by rcases hls with rfl|⟨_,x,rfl⟩<;>rfl,⟨_,rfl⟩,?_⟩;refine AI (A7 (A7 (A2 rfl (A2 rfl (AF (sh _) (Er h ((hU k).mp hk).1) (A2 rfl (FL ⟨_,rfl,rfl,?_⟩)))))));by_cases c:h k<=t'
  .rw[gb (by simpa using c),gb c];exact⟨_,rfl,A2 rfl ⟨rfl,rfl⟩⟩
  .rw[gh (by simpa using c),gh c]
 rw[IG];have hV:∀k,k∈U.filter (λk=>decide (h k<=t'))↔(k<65/\0<lf k)/\h k<=t':=λk=>by rw[mem_filter,hU];simp
 have neV:U.filter (λk=>decide (h k<=t'))≠[]:=λc=>by
  obtain⟨j,h1,h2,h3⟩:=mU;have:=(hV j).mpr ⟨⟨h1,h2⟩,by omega⟩;rw[c]at this;cases this
 generalize U.filter (λk=>decide (h k<=t'))=V at hV neV;cases V with
 |nil=>exact absurd rfl neV
 |cons v0 vs=>
 obtain⟨g2,eg2⟩:∃g2,g2=g++[.lst (AH U)]:=⟨_,rfl⟩
 rw[<- eg2];have h6':∀(lf':72) (P':List Pc) (g':Hd),(Hq 65 lf' P' (g2++g'))[a6]?=some (.lst (AH U)):=λlf' P' g'=>by rw[eg2,iE];exact h6 lf' P' g'
 refine⟨D.im (.int (v0:Int)),AH vs,kfD dd,lvG,λy hy=>?_,?_⟩
 .have hy:y∈AH (v0::vs):=hy;obtain⟨k,hk,rfl⟩:=mem_map.mp hy;have hk:=((hV k).mp hk).1.1;simp only[kfD,ia];exact dw (v:=lf k) hk λQE q=>AF (ds:=fl 65 lf) rfl (D6 lf hk) q
 have bm:=Hm (kfD dd) (AH vs) (D.im (.int (v0:Int)));generalize BV ltZ (AH vs) ((AH vs).map (kfD dd)) (D.im (.int (v0:Int))) (kfD dd (D.im (.int (v0:Int))))=db at bm ⊢;obtain⟨b1,b2⟩:=bm;obtain⟨k,hk,rfl⟩:=mem_map.mp (show db∈AH (v0::vs)from b1);have km:∀j∈v0::vs,dd k<dd j∨dd k=dd j/\k<=j:=λj hj=>by
  have:=b2 (D.im (.int (j:Int))) (show _∈AH (v0::vs)from mem_map.mpr ⟨j,hj,rfl⟩);unfold leP ltZ at this;have:=jj this;simp only[kfD,ia]at this;omega
 obtain⟨⟨kn,k0⟩,kc⟩:=(hV k).mp hk;refine A6 ?_;change WS _ (Lq ws h dd t' (some (.mu a6)) (some (.im 105)) z8) (Hq 65 lf P (g2++[.lst (AH (v0::vs))])) _;generalize AH (v0::vs)=vD;obtain⟨g3,eg3⟩:∃g3,g3=g2++[.lst vD]:=⟨_,rfl⟩
 rw[<- eg3];have h6a:∀(lf':72) (P':List Pc) (g':Hd),(Hq 65 lf' P' (g3++g'))[a6]?=some (.lst (AH U)):=λlf' P' g'=>by rw[eg3,iE];exact h6' lf' P' _
 -- the stop
 refine AB (AS (Bi (JV (Ar (Bb (A3 (A7 (A2 rfl (A7 (A2 rfl (A2 rfl (AF (ds:=fl 65 lf) rfl (D6 lf kn) (C9 (A9 ⟨DI,?_⟩))))))))))))));refine Ar (Af (EU (A2 rfl ⟨_,AH U,rfl,h6a lf P _,AO (by simp[AH];omega),?_⟩)));refine As (xs:=U) (λk:Nat=>D.im 105) (λk=>if t'<h k then some (.im (.int (h k)))else none) (λ_ ls=>∃x,ls=[some x,some (.im (.tup ((68 65).map λk=>.int (h k)))),some (.im (.int t'))]) _ (by intro p hp;rw[hE]at hp;subst hp;exact h6a lf P _) ?_ ?_
 .rintro j hj ls hls;refine⟨[some (.im (.int (j:Int))),some (.im (.tup ((68 65).map λk=>.int (h k)))),some (.im (.int t'))],by rcases hls with rfl|⟨_,x,rfl⟩<;>rfl,⟨_,rfl⟩,?_⟩;refine AI (A7 (A7 (A2 rfl (A2 rfl (AF (sh _) (Er h ((hU j).mp hj).1) (A2 rfl (Ed ⟨_,rfl,rfl,?_⟩)))))));by_cases c:t'<h j
  .rw[gb (by simpa using c),gb c];exact⟨_,rfl,A7 (A2 rfl (A2 rfl (AF (sh _) (Er h ((hU j).mp hj).1) ⟨rfl,rfl⟩)))⟩
  .rw[gh (by simpa using c),gh c]
 rw[fA];have hB:∀x,x∈(U.filter λk=>decide (t'<h k)).map h↔∃j,j<65/\0<lf j/\t'<h j/\h j=x:=λx=>by
  rw[mem_map];constructor
  .rintro⟨j,hj,e⟩;obtain⟨h1,h2⟩:=mem_filter.mp hj;exact⟨j,((hU j).mp h1).1,((hU j).mp h1).2,by simpa using h2,e⟩
  .rintro⟨j,h1,h2,h3,e⟩;exact⟨j,mem_filter.mpr ⟨(hU j).mpr ⟨h1,h2⟩,by simpa using h3⟩,e⟩
 have lB:((U.filter λk=>decide (t'<h k)).map h).length<=8:=by
  rw[gZ];exact gw (iJ _ _) lU
 generalize (U.filter λk=>decide (t'<h k)).map h=B at hB lB;have ne2:(t'+lf k)::B≠[]:=by simp
 obtain⟨s1,s2⟩:=Bn ne2;have lenB:(intD B).length<=8:=by simpa [intD]using lB
 refine⟨_,_,[.im (.int (t'+lf k))],intD B,rfl,rfl,(by rw[List.getElem?_append_left 71];simp),71,AO (by simp[intD];omega),?_⟩;refine⟨_,Ep ne2,A6 ?_⟩;generalize Cc ((t'+lf k)::B)=s at s1 s2;have X:Du.Tn 65 h dd lf t t' k s:=by
  refine⟨by omega,λc j h1 h2=>by have:=mle j h1 h2;omega,kn,k0,kc,λj h1 h2 h3=>km j ((hV j).mpr ⟨⟨h1,h2⟩,h3⟩),?_,s2 _ 71,λj h1 h2 h3=>s2 _ (gp _ ((hB _).mpr ⟨j,h1,h2,h3,rfl⟩)),?_⟩
  .rcases mem_cons.mp s1 with e|e
   .omega
   .obtain⟨j,_,_,h3,e⟩:=(hB s).mp e;omega
  .rcases mem_cons.mp s1 with e|e
   .exact .inl e
   .obtain⟨j,h1,h2,h3,e⟩:=(hB s).mp e;exact .inr ⟨j,h1,h2,h3,e.symm⟩
 obtain⟨g4,eg4⟩:∃g4,g4=g3++[MO.lst [.im (.int (t'+lf k))],.lst (intD B)]:=⟨_,rfl⟩
 have eh:(Hq 65 lf P g3++[MO.lst [.im (.int (t'+lf k))]])++[MO.lst (intD B)]=Hq 65 lf P g4:=by rw[eg4];simp
 rw[eh];clear eh eg4;change WS _ (Lq ws h dd t' (some (.mu a6)) (some (.im 105)) (some (.im (.int s)))) (Hq 65 lf P g4) _;refine AB (Bt (CG (A3 (A2 rfl (A3 (A2 rfl (A3 (A2 rfl (A3 (A2 rfl (A9 ((OR (P:=P) (i:=1) rfl 66 k t' s).mono ?_))))))))))));rintro d x ⟨rfl,rfl⟩;refine A6 ?_;change WS _ _ (Hq 65 lf (Du.addP P k t' s) g4) _;refine AB (Wa (A2 rfl (A2 rfl ⟨0,(k:Int),fl 65 lf,k,lf k,rfl,rfl,rfl,K2 lf kn,?_,A7 (A2 rfl (A2 rfl (DE ⟨_,fl 65 lf,rfl,rfl,rfl,A6 (AS (A2 rfl ?_))⟩)))⟩)))
 .simp[intD,kn]
 .rw[Hb];exact hQ t' k s g4 _ _ _ X
open PySem L2 Bd Hds
open Bk (Pc upd)
section
variable{cs:Nat->Cost}{rk:Nat->Nat}{h dd d:72}
inductive I_rk(ws:List Wg)(h dd:72)(W:95)(m:Nat)(ls:Ls)(hd:Hd):Prop
 |mk (lf:72) (P:List Pc) (t:Int) (g:Hd) (z6 z7 z8:Option D) (em:m=Du.mu 65 h lf t) (el:ls=Lq ws h dd t z6 z7 z8) (eh:hd=Hq 65 lf P g) (S:Du.St 65 h (AL ws) dd W lf P t) (pl:P.length+m<=16) (t0:0<=t) (C:Du.Dc 65 h dd (AL ws) lf P t.toNat):I_rk ws h dd W m ls hd
def Ev.wso(E:Ev ws cs W rk h):∀w∈W,w.1<65/\w.2<65/\h w.1+AL ws w.1<=h w.2:=λw hw=>⟨(E.R.ins w hw).1,(E.R.ins w hw).2,E.hs.st w hw⟩
def cj(n:Nat)(lf:72)(h0:∀k,k<n->0<=lf k):Jz (fl n lf)=some (.im (.bl (decide (∃j,j<n/\0<lf j)))):=by
 unfold Jz;rw[Cv,i4]
 congr 3
 rw[Bool.eq_iff_iff];simp only[List.any_map,List.any_eq_true,mem_range,j4,Function.comp,bne_iff_ne];constructor
 .rintro⟨j,h1,h2⟩;exact⟨j,h1,by have:=h0 j h1;omega⟩
 .rintro⟨j,h1,h2⟩;exact⟨j,h1,by omega⟩
structure Dp(ws:List Wg)(h dd:72)(W:95)(P:List Pc):Prop where
 ex:∃lf t,Du.St 65 h (AL ws) dd W lf P t/\∀j,j<65->lf j=0
 pk:Du.Pk 65 h (AL ws) W P
 dc:∃lf τ,Du.Dc 65 h dd (AL ws) lf P τ/\∀j,j<65->lf j=0
def UU(E:Ev ws cs W rk h)(hd:∀w∈W,dd w.1<=dd w.2-AL ws w.2):WF DP [.im (AR ws),.im (.tup ((68 65).map λk=>.int (h k))),.fv 1 (fl 65 dd)] [] λd _=>∃P:List Pc,d=.im (.tup (P.map pcI))/\Dp ws h dd W P:=by
 have n8:=E.ok.2.1;have hb:=E.hb;unfold DP;refine Ax rfl ?_;refine AB (AS (Ar (Af (C4 (A2 rfl ⟨_,rfl,?_⟩)))));rw[<- BG];refine⟨AO 86,?_⟩;refine As (λw=>D.im (wgI w)) (λw=>some (.im (.int w.len))) (λ_ ls=>∃x,ls=[some x]) _ (AK _) ?_ ?_
 .rintro z hz ls hls;refine⟨[some (.im (wgI z))],by rcases hls with rfl|⟨_,x,rfl⟩<;>rfl,⟨_,rfl⟩,BW ⟨rfl,?_⟩⟩;rw[gb rfl];exact⟨_,rfl,A7 (A2 rfl (AN (AF rfl (Bc _ _) ⟨rfl,rfl⟩)))⟩
 rw[Kw E.ok];refine A6 (AB (AS (Ar (Bb (A9 ⟨CW,A6 ?_⟩)))));refine AB (AS (AN (A6 ?_)));change WS _ (Lq ws h dd 0 none none none) (Hq 65 (AL ws) [] []) _;have m0:=Du.mu_le 65 h (AL ws) 0;refine AB (MR (I_rk ws h dd W) (n:=Du.mu 65 h (AL ws) 0) ⟨_,_,_,_,_,_,_,rfl,rfl,rfl,Du.St.start (λk _=>Bq ws k) (λk hk=>(hb k hk).1) (λw hw=>E.R.ins w hw),by simp;omega,110 _,.nil⟩ ?_);rintro m ls hdd ⟨lf,P,t,g,z6,z7,z8,em,rfl,rfl,S,pl,t0,C⟩;refine Fm (B8 (A3 (A2 rfl (A9 (BK (ds:=fl 65 lf) rfl (cj 65 lf λk hk=>(S.lo k hk).1) ⟨_,rfl,?_⟩)))));by_cases c:∃j,j<65/\0<lf j
 .rw[gb (by simpa using c)];refine ZE n8 66 c λt' k s g z6 z7 z8 X=>?_;have m':=X.mu;obtain⟨S',l'⟩:=S.turn (λk _=>Bq ws k) E.wso hd X;exact⟨_,by rw[em];exact m',_,_,_,g,_,_,_,rfl,rfl,rfl,S',by omega,(by have:=X.tt;have:=X.s0;omega),C.turn t0 X⟩
 .rw[gh (by simpa using c)];have z:∀j,j<65->lf j=0:=λj hj=>by
   have:=(S.lo j hj).1;refine Classical.byContradiction λq=>c ⟨j,hj,by omega⟩
  refine A6 (Av (B8 (A3 (A2 rfl (A9 (BK (ds:=P.map pcD) (z:=.im (.tup (P.map pcI))) rfl ?_ ?_))))))
  .show some (Au (P.map pcD))=_;rw[show P.map pcD=(P.map pcI).map D.im by simp,BX]
  .exact⟨P,rfl,⟨lf,t,S,z⟩,S.pk (λk hk=>(hb k hk).1) z,lf,t.toNat,C,z⟩
def E9(ws:List Wg)(cs:Nat->Cost)(d:72):Prop:=∀k,k<65->cs k=.late (d k)
inductive I_to(ws:List Wg)(W:95)(rk:Nat->Nat)(d:72)(r:List D)(ls:Ls)(hd:Hd):Prop
 |mk (v:72) (t:Nat) (z3 z4 z5:Option D) (h0:t+r.length=65) (h1:ls=[some (.im (AR ws)),some (.im (.tup (W.map AM))),some (.mu 0),z3,z4,z5]) (h2:hd=[.lst (fl 65 v)]) (T:Du.Tu 65 (AL ws) d W rk v t):I_to ws W rk d r ls hd
inductive I_ti(ws:List Wg)(W:95)(rk:Nat->Nat)(d:72)(t:Nat)(r:List D)(ls:Ls)(hd:Hd):Prop
 |mk (v:Nat->Int) (A R:List (Nat×Nat)) (z3 z4 z5:Option D) (h0:W=A++R) (h00:r=R.map λp=>D.im (AM p)) (h1:ls=[some (.im (AR ws)),some (.im (.tup (W.map AM))),some (.mu 0),z3,z4,z5]) (h2:hd=[.lst (fl 65 v)]) (T:Du.Ti 65 (AL ws) d W rk v t A):I_ti ws W rk d t r ls hd
def Th(E:Ev ws cs W rk h)(hl:E9 ws cs d):WF DO [.im (AR ws),.im (.tup (W.map AM))] [] λr x=>r=.mu 0/\∃v,x=[.lst (fl 65 v)]/\Du.Tu 65 (AL ws) d W rk v ws.length:=by
 have n8:=E.ok.2.1;have hW:=E.hW;unfold DO;refine Ax rfl ?_;refine AB (AS (Ar (Af (C4 (A2 rfl ⟨_,rfl,?_⟩)))));have e0:(ws.map wgI).map D.im=(68 65).map λk=>D.im (wgI (ws.getD k ⟨0,0,.non⟩)):=by
  refine List.ext_getElem 71 λi h1 h2=>?_;have hi:i<ws.length:=by simpa using h1
  simp[List.getD,hi]
 rw[e0];refine⟨AO 86,?_⟩;refine As (xs:=68 65) (λk=>D.im (wgI (ws.getD k ⟨0,0,.non⟩))) (λk=>some (.im (.int (d k)))) (λ_ ls=>∃x,ls=[some x]) _ (AK _) ?_ ?_
 .rintro k hk ls hls;have hk:k<ws.length:=by simpa using hk
  refine⟨[some (.im (wgI (ws.getD k ⟨0,0,.non⟩)))],by rcases hls with rfl|⟨_,x,rfl⟩<;>rfl,⟨_,rfl⟩,BW ⟨rfl,?_⟩⟩;rw[gb rfl];have e1:ws.getD k ⟨0,0,.non⟩=ws[k]:=by simp[List.getD,hk]
  have e2:(ws[k]).co=.tup [.str "late",.int (d k)]:=by rw[GG E.hcs hk,hl k hk];rfl
  rw[e1];refine⟨_,rfl,A7 (A7 (A2 rfl (AN (AF rfl (E8 _ _ _ _) ?_))))⟩;rw[e2];exact AN (AF rfl (DC _ _ _) ⟨rfl,rfl⟩)
 rw[D5];refine A6 ?_;refine AB (Bw (C4 (A2 rfl ⟨_,rfl,?_⟩)));refine BL (I_to ws W rk d) ⟨d,0,none,none,none,by simp,rfl,rfl,Du.Tu.start λw hw=>⟨E.R.lt w hw,E.hrk w.2 (E.R.ins w hw).2⟩⟩ ?_ ?_
 .rintro x r ls hd ⟨v,t,z3,z4,z5,ht,rfl,rfl,T⟩;simp only[i7]at ht;refine⟨_,rfl,?_⟩;dsimp only[set_cons_zero,set_cons_succ];refine Bw (C4 (A2 rfl ⟨_,rfl,?_⟩));rw[show(W.map AM).map D.im=W.map λp=>D.im (AM p) by rw[gY];rfl];refine BL (I_ti ws W rk d t) ⟨v,[],W,_,_,_,rfl,rfl,rfl,rfl,T,by simp⟩ ?_ ?_
  .rintro y r2 ls hd ⟨v,A,R,z3,z4,z5,eW,er,rfl,rfl,I⟩;cases R with
   |nil=>cases er
   |cons q R=>
    obtain⟨rfl,rfl⟩:=List.cons.inj er;have hq:q∈W:=by rw[eW];simp
    have qn:=E.R.ins q hq;have st:=I.step (λw hw=>⟨E.R.ins w hw,E.R.lt w hw⟩) (λw hw=>by rw[eW];simp[hw]) hq;refine⟨[some (.im (AR ws)),some (.im (.tup (W.map AM))),some (.mu 0),z3,some (.im (.int (q.1:Int))),some (.im (.int (q.2:Int)))],rfl,?_⟩;refine CZ (B8 (A3 (A7 (A2 rfl (A2 rfl (AF (ds:=fl 65 v) rfl (D6 v qn.1) (A3 (A7 (A7 (A2 rfl (A2 rfl (AF (ds:=fl 65 v) rfl (D6 v qn.2) ?_))))))))))));refine A7 (A7 (A2 rfl (A2 rfl (AF (by rw[Cm,<- BG]) (DM qn.2) (AN (AF rfl (Bc _ _) (DE (A9 (Hn ?_)))))))));refine A2 rfl (A2 rfl ⟨0,_,q.1,_,rfl,rfl,rfl,K2 v qn.1,?_⟩);rw[Hb,JS qn.2,<- D4 E.ok qn.2];exact⟨AK _,_,A++[q],R,_,_,_,by rw[eW];simp,rfl,rfl,rfl,st⟩
  .rintro ls hd ⟨v,A,R,z3,z4,z5,eW,er,rfl,rfl,I⟩;have:R=[]:=by cases R with
    |nil=>rfl
    |cons t r=>cases er
   subst this;rw[ic]at eW;subst eW;exact⟨AK _,v,t+1,_,_,_,by omega,rfl,rfl,I.next⟩
 .rintro ls hd ⟨v,t,z3,z4,z5,ht,rfl,rfl,T⟩;simp only[iB,Nat.add_zero]at ht;subst ht;exact A6 (Av (A2 rfl ⟨rfl,v,rfl,T⟩))
end
open PySem L2 Bd Hds
open Bk (Pc upd)
theorem Rf{k:Nat}{b e:Int}:∀{P:List Pc} {b0:Int},Bk.Row b0 P->(∀p∈P,p.1=k->b<=p.2.1/\p.2.2<=e)->Bk.tot k P<=max 0 (e-max b b0)
 |[],_,_,_=>by simp only[Bk.tot];omega
 |p::r,b0,R,h=>by
  have r1:b0<=p.2.1:=R.1;have r2:p.2.1<p.2.2:=R.2.1;have ih:=Rf R.2.2 λq hq=>h q (by simp[hq]);simp only[Bk.tot];by_cases ek:p.1=k
  .have:=h p 71 ek;rw[gb ek];omega
  .rw[gh ek];omega
section
variable{cs:Nat->Cost}{rk:Nat->Nat}{h dd d:72}
structure Run(ws:List Wg)(W:95)(h en:72):Prop where
 ex:∃left t,Du.Wr 65 (AL ws) h W left en t/\∀k,k<65->left k=0
def UN(E:Ev ws cs W rk h)(hl:E9 ws cs d):WF Bm [.im (AR ws),.im (.str "late")] [] λd x=>d=.im .non:=by
 have n8:=E.ok.2.1;unfold Bm;refine Ax rfl ?_;refine B3 (Fm (Bi (Af (C4 (A2 rfl ⟨_,rfl,?_⟩)))));rw[<- BG];refine⟨AO 86,?_⟩;refine As (λw=>D.im (wgI w)) (λ_=>some (.im (.bl false))) (λ_ ls=>∃x,ls=[some x,some (.im (.str "late"))]) _ (AK _) ?_ ?_
 .rintro z hz ls hls;refine⟨[some (.im (wgI z)),some (.im (.str "late"))],by rcases hls with rfl|⟨_,x,rfl⟩<;>rfl,⟨_,rfl⟩,BW ⟨rfl,?_⟩⟩;rw[gb rfl];obtain⟨k,hk,rfl⟩:=List.getElem_of_mem hz;refine⟨_,rfl,A7 (A7 (A7 (A2 rfl (AN (AF rfl (E8 _ _ _ _) ?_)))))⟩;rw[GG E.hcs hk,hl k hk];refine AN (AF (ds:=[.im (.str "late"),.im (.int (d k))]) rfl (Bc _ _) (A2 rfl (Fq ⟨rfl,?_⟩)));simp
 have e:(ws.filterMap λ_=>some (D.im (.bl false)))=blD (ws.map λ_=>false):=by simp[blD]
 rw[e];refine⟨_,by rw[JD,O1];rfl,_,rfl,?_⟩;exact⟨(λh=>by simp at h),λ_=>Aj rfl⟩
def WR(E:Ev ws cs W rk h)(hl:E9 ws cs d):WF Dz [.im (AR ws),.im (.tup (W.map AM))] [] λr x=>∃(P:List Pc) (dd:72),r=.im (.tup (P.map pcI))/\Dp ws h dd W P/\Du.Tu 65 (AL ws) d W rk dd ws.length:=by
 unfold Dz;refine Ax rfl ?_;refine AB (Bt (Ap (A3 (A2 rfl (A3 (AN (A9 ⟨by simp,(UN E hl).mono ?_⟩)))))));rintro _ _ rfl;refine⟨_,rfl,A6 ?_⟩;refine AB (AS (EM (A3 (A2 rfl (A3 (A2 rfl (A9 ⟨by simp,(Th E hl).mono ?_⟩)))))));rintro _ _ ⟨rfl,v,rfl,U⟩;refine⟨0,_,rfl,rfl,CF _ _,A6 ?_⟩;refine Av (RX (A2 rfl (Ap (A3 (A2 rfl (A3 (A2 rfl (A9 ⟨by simp,(Kt E.ok.2.1 (λk hk=>(Hg E.ok hk).1) E.hW E.R E.hrk E.H).mono ?_⟩))))))));rintro _ _ rfl;refine⟨_,rfl,0,fl 65 v,rfl,rfl,by simp[Aw,clD],CF _ _,(UU E U.done).mono ?_⟩;rintro _ _ ⟨P,rfl,D⟩;exact⟨_,rfl,P,v,rfl,D,U⟩
def ZM(E:Ev ws cs W rk h)(O:Du.Pk 65 h (AL ws) W ps){left en:72}{t:Int}(I:Bk.Inv 65 (AL ws) h W left en t)(l0:∀k,k<65->left k=0)(hen:∀k,k<65->∃q∈ps,(q.1=k/\en k=q.2.2)/\∀p∈ps,p.1=k->p.2.2<=en k):Run ws W h en:=by
 refine⟨left,t,⟨I,λk hk=>.inr (l0 k hk),λw hw _=>?_⟩,l0⟩;have i:=E.R.ins w hw;obtain⟨q1,hq1,⟨e1,e2⟩,_⟩:=hen w.1 i.1;obtain⟨q2,hq2,⟨_,e4⟩,m2⟩:=hen w.2 i.2;have:=Rf (k:=w.2) (b:=en w.1) (e:=en w.2) O.row λp hp ep=>⟨by rw[e2];exact O.wis w hw q1 hq1 p hp e1 ep,m2 p hp ep⟩
 rw[O.tot w.2 i.2]at this;have:=Bq ws w.2;omega
def Vd(E:Ev ws cs W rk h)(hl:E9 ws cs d)(D:Dp ws h dd W P)(U:Du.Tu 65 (AL ws) d W rk dd 65){en':72}(he:∀k,k<65->∃q∈P,q.1=k/\en' k=q.2.2){en:72}(R:Run ws W h en):gr ws cs en'<=gr ws cs en:=by
 have h0:=E.ok.1;have ms:=(BF (xs:=(68 65).map λk=>(cs k).at (en' k)) (iS (mem_map.mpr ⟨0,mem_range.mpr 66,rfl⟩))).1;obtain⟨k,hk,ek⟩:=mem_map.mp ms;have hk:k<ws.length:=by simpa using hk
 obtain⟨left,t,Wr,z⟩:=R.ex;obtain⟨lf,t2,S,z2⟩:=D.ex;obtain⟨m,hm,q⟩:=Du.beat E.hs Wr z U S hk (z2 k hk) (by obtain⟨p,h1,h2,h3⟩:=he k hk;exact⟨p,h1,h2,h3⟩:∃p∈P,p.1=k/\en' k=p.2.2);have g:=WK (ws:=ws) (cs:=cs) (en:=en) hm;have:gr ws cs en'=(cs k).at (en' k):=by unfold gr;exact ek.symm
 rw[this,hl k hk];rw[hl m hm]at g;exact Int.le_trans (show en' k-d k<=en m-d m from q) g
end
open PySem L2 Bd Hds
open Bk (Pc upd)
def WM{W:95}(hW:W.length<=16){i j:Nat}{p1 p0:Nat×Nat->Nat}(hi:∀(p:Nat×Nat) (z:Option D),([some (.im (.int (p.1:Int))),some (.im (.int (p.2:Int))),z]:Ls)[i]?=some (some (.im (.int (p1 p:Int)))))
 (hj:∀(p:Nat×Nat) (z:Option D),([some (.im (.int (p.1:Int))),some (.im (.int (p.2:Int))),z]:Ls)[j]?=some (some (.im (.int (p0 p:Int)))))
 (k:Nat) (ls:Ls) (hd:Hd) (Q:List D->Hd->Prop) (e1:ls[1]?=some (some (.im (.tup (W.map AM))))) (e4:ls[4]?=some (some (.im 105))) (q:Q (AH ((W.filter λp=>decide (p1 p=k)).map p0)) hd):
 WA (AW 2 [4] (Ct (A0 1)) (BO 2 (AT (AA 0) (AT (AA 1) BR))) (A8 (mOp gEq (A0 i) 121)) (A0 j)) ls hd Q:=by
 refine Af (eT (A2 e1 (.inl ⟨_,rfl,?_⟩)));rw[dX];refine⟨AO 86,?_⟩;refine As (λp:Nat×Nat=>D.im (AM p)) (λp=>if p1 p=k then some (.im (.int (p0 p:Int)))else none) (λ_ ls=>∃x y,ls=[some x,some y,some (.im 105)]) _ (AK _) ?_ ?_
 .rintro p hp ls' hls;refine⟨[some (.im (.int (p.1:Int))),some (.im (.int (p.2:Int))),some (.im 105)],by rcases hls with rfl|⟨_,x,y,rfl⟩<;>first|rfl|simp[BO,AA,Dw,e4,AM],⟨_,_,rfl⟩,?_⟩;refine AI (A7 (A2 (hi p _) (A2 rfl (CU ⟨_,rfl,rfl,?_⟩))));by_cases h:p1 p=k
  .rw[gb (by simp[h]),gb h];exact⟨_,rfl,A2 (hj p _) ⟨rfl,rfl⟩⟩
  .rw[gh 86,gh h]
 have e:(W.filterMap λp=>if p1 p=k then some (D.im (.int (p0 p:Int)))else none)=AH ((W.filter λp=>decide (p1 p=k)).map p0):=by
  clear hW e1 q
  induction W with
  |nil=>rfl
  |cons p r ih=>
   rw[iG,iM];by_cases h:p1 p=k
   .simp[h,ih,AH]
   .simp[h,ih]
 rw[e];exact q
section
variable{cs:Nat->Cost}{rk:Nat->Nat}{h dd d:72}
def VO(E:Ev ws cs W rk h):WF Go [.im (AR ws),.im (.tup (W.map AM))] [] λr x=>r=.mu 1/\∃o,x=[o,.lst (fl 65 h)]:=by
 have hW:=E.hW;have n8:=E.ok.2.1;have eln:(((ws.map wgI).map D.im).length:Int)=(ws.length:Int):=by simp
 unfold Go;refine Ax rfl ?_;refine AB (AS (Fr (A6 ?_)));refine AB ?_;refine Vy (V:=W) (rk:=rk) (le:=λa b=>a<=b) (f:=λa b=>a+b) (c:=BI ws) (fsts:=λk=>(W.filter λp=>decide (p.2=k)).map Prod.fst) n8 (λp hp=>⟨E.R.ins p hp,E.R.lt p hp⟩) E.hrk (λa k=>by simp) (λk=>by rw[gZ];exact gw (iJ _ _) hW)
  (WM hW (λ_ _=>rfl) λ_ _=>rfl) (λx y hd Q q=>C9 q) (λk ls hd Q hk e0 e4 q=>?_) (λx ns=>?_) ?_
 .refine A7 (A7 (A2 e0 (A2 e4 (AF (by rw[Cm,<- BG]) (DM hk) (AN (AF rfl (DC _ _ _) ?_))))));have ec:ws[k].com=BI ws k:=by simp[BI,hk]
  rw[ec];exact q
 .exact bo x ns
 intro kvs g z3 z4 z5 z6 dic cl all;refine A6 (Av (Ar (Af (Ew (A3 (B8 (A3 (A2 rfl (A9 (BK rfl rfl ?_))))))))));rw[eln];refine A9 ⟨_,rfl,CA 66 66,?_⟩;rw[ia,CI];refine⟨AO (by simp[AH];omega),?_⟩;have e:∀k,k<65->g k=some (h k):=by
  have gt:∀k,k<65->g k=some ((g k).getD 0):=λk hk=>by
   obtain⟨v,hv,_⟩:=all k hk;rw[hv];rfl
  have H2:IsHead (λk=>k<65) (BI ws) (An ws) W (λk=>(g k).getD 0):=by
   refine⟨λk hk=>?_,λp hp hk=>?_,λk hk=>?_⟩
   .obtain⟨v,hv,G⟩:=all k hk;rw[hv];exact G.lo
   .obtain⟨v,hv,G⟩:=all p.2 hk;obtain⟨u,hu,le⟩:=G.up p hp rfl;rw[hv,hu];exact le
   .obtain⟨v,hv,G⟩:=all k hk;rw[hv];rcases G.eq with e|⟨p,hp,e1,u,hu,e2⟩
    .exact .inl e
    .exact .inr ⟨p,hp,e1,by rw[hu];exact e2⟩
  intro k hk;rw[gt k hk];exact hX some (j8 (H2.le E.R E.H _ k rfl hk) (E.H.le E.R H2 _ k rfl hk))
 refine As (λk:Nat=>D.im 105) (λk=>some (.im (.int (h k)))) (λ_ ls=>∃x,ls=[some x,some (.mu 0)]) _ (AK _) ?_ ?_
 .rintro k hk ls hls;have hk:k<ws.length:=by simpa using hk
  refine⟨[some (.im 105),some (.mu 0)],by rcases hls with rfl|⟨_,x,rfl⟩<;>rfl,⟨_,rfl⟩,BW ⟨rfl,?_⟩⟩;rw[gb rfl];exact⟨_,rfl,A7 (A2 rfl (A2 rfl (DR (kvs:=kvs) rfl dic (e k hk) ⟨rfl,rfl⟩)))⟩
 rw[D5];exact⟨rfl,_,rfl⟩
structure Tl(ws:List Wg)(d:72)(W:95)(v:72):Prop where
 le:∀k,k<65->v k<=d k
 up:∀p∈W,v p.1<=v p.2-AL ws p.2
 eq:∀k,k<65->v k=d k∨∃p∈W,p.1=k/\v k=v p.2-AL ws p.2
def bj(x:Int)(ns:92):∃v,Dm (.im (.int x)::intD ns)=some (.im (.int v))/\v<=x/\(∀n∈ns,v<=n)/\(v=x∨v∈ns):=by
 refine⟨Cc (x::ns),Ep (ns:=x::ns) 71,?_⟩;obtain⟨a,b⟩:=Bn (xs:=x::ns) 71;refine⟨b x gq,λn hn=>b n (gp _ hn),?_⟩;rcases mem_cons.mp a with h|h
 .exact .inl h
 .exact .inr h
def Se(E:Ev ws cs W rk h)(hl:E9 ws cs d):WF Gm [.im (AR ws),.im (.tup (W.map AM))] [] λr x=>r=.mu 0/\∃kvs g v,x=[.dic kvs]/\DicI kvs g/\Ims kvs/\(∀k,k<65->g k=some (v k))/\Tl ws d W v:=by
 have hW:=E.hW;have n8:=E.ok.2.1;unfold Gm;refine Ax rfl ?_;refine AB (AS (Fr (A6 ?_)));refine AB ?_;refine Vy (V:=W.map λp=>(p.2,p.1)) (rk:=λk=>65-1-rk k) (le:=λa b=>b<=a) (f:=λa b=>a-b) (c:=d) (fsts:=λk=>(W.filter λp=>decide (p.1=k)).map Prod.snd) n8 (λp hp=>?_) (λk hk=>by have:=E.hrk k hk;omega) (λa k=>?_) (λk=>by rw[gZ];exact gw (iJ _ _) hW)
  (WM hW (λ_ _=>rfl) λ_ _=>rfl) (λx y hd Q q=>DE q) (λk ls hd Q hk e0 e4 q=>?_) (λx ns=>bj x ns) ?_
 .obtain⟨q,hq,rfl⟩:=mem_map.mp hp;have h1:=E.R.ins q hq;have h2:=E.R.lt q hq;have h3:=E.hrk q.2 h1.2;exact⟨⟨h1.2,h1.1⟩,by dsimp only;omega⟩
 .rw[mem_map,mem_map];constructor
  .rintro⟨p,hp,rfl⟩;have:=mem_filter.mp hp;exact⟨p,this.1,by rw[iD this.2]⟩
  .rintro⟨p,hp,e⟩;exact⟨p,mem_filter.mpr ⟨hp,by simpa using hX Prod.snd e⟩,hX Prod.fst e⟩
 .refine A7 (A7 (A7 (A2 e0 (A2 e4 (AF (by rw[Cm,<- BG]) (DM hk) (AN (AF rfl (E8 _ _ _ _) ?_)))))));rw[show(ws[k]).co=.tup [.str "late",.int (d k)] by rw[GG E.hcs hk,hl k hk];rfl];exact AN (AF rfl (DC _ _ _) q)
 intro kvs g z3 z4 z5 z6 dic cl all;refine A6 (Av (A2 rfl ⟨rfl,kvs,g,λk=>(g k).getD 0,rfl,dic,cl,λk hk=>?_,?_⟩))
 .obtain⟨v,hv,_⟩:=all k hk;simp[hv]
 .refine⟨λk hk=>?_,λp hp=>?_,λk hk=>?_⟩
  .obtain⟨v,hv,G⟩:=all k hk;rw[hv];exact G.lo
  .have i:=E.R.ins p hp;obtain⟨v,hv,G⟩:=all p.1 i.1;obtain⟨u,hu,le⟩:=G.up (p.2,p.1) (mem_map.mpr ⟨p,hp,rfl⟩) rfl;dsimp only at hu ⊢;rw[hv,hu,D4 E.ok i.2];exact le
  .obtain⟨v,hv,G⟩:=all k hk;rw[hv];rcases G.eq with e|⟨p,hp,e1,u,hu,e2⟩
   .exact .inl e
   .obtain⟨q,hq,rfl⟩:=mem_map.mp hp;dsimp only at e1 hu e2;refine .inr ⟨q,hq,e1,?_⟩;rw[hu,D4 E.ok (E.R.ins q hq).2];exact e2
def d6(E:Ev ws cs W rk h){v:72}(U:Du.Tu 65 (AL ws) d W rk dd 65)(T:Tl ws d W v):∀k,k<65->dd k=v k:=
 Du.tu_eq (λp hp=>⟨E.R.ins p hp,E.R.lt p hp⟩) E.hrk U T.le T.up T.eq
end
open PySem L2 Bd Hds
open Bk (Pc upd)
theorem Ot:∀is:List I,(∀i∈is,(I.py i).canLay0=true)->PyData.canLayAll0 (I.pys is)=true
 |[],_=>by simp[I.pys,PyData.canLayAll0]
 |i::r,h=>by
  have ih:=Ot r λj hj=>h j (by simp[hj]);have:=h i 71;simp[I.pys,PyData.canLayAll0,ih,this]
def RU{QE:D->Hd->Prop}(h:WE ma ls hd λd x=>∃a is,d=.mu a/\x[a]?=some (.lst (is.map D.im))/\(∀i∈is,(I.py i).canLay0=true)/\QE (.im (.bl (!decide (is=[])))) x):WE (Br true ma (Ac A4)) ls hd QE:=by
 obtain⟨d,x,e1,a,is,rfl,e2,hl,q⟩:=h;have e3:pyD x (.mu a)=some (.list (I.pys is)):=by
  show(match x[a]? with|some (.lst ds)=>(B2 ds).map λis=>PyData.list (I.pys is)|_=>none)=_;rw[e2];show(B2 (is.map D.im)).map _=_;rw[show B2 (is.map D.im)=some is from allIm_map _];rfl
 refine⟨_,x,?_,q⟩;unfold Br;rw[e1];have hq:WA (Ac A4) ls x λds y=>ds=[]/\y=x:=Bb (A9 ⟨CW,rfl,rfl⟩);obtain⟨_,_,e4,rfl,rfl⟩:=hq;simp only[bind_some,e4,e3,B2];unfold Fc;rw[gb ⟨by rw[PyData.canLay0];exact Ot is hl,by simp[I.pys,PyData.canLay0,PyData.canLayAll0],gw (Nat.min_le_right _ _) (by simp[I.pys,PyData.depth,PyData.depthAll])⟩];cases is with
 |nil=>simp[PyData.eqv,I.pys,PyData.eqvAll]
 |cons k V=>simp[PyData.eqv,I.pys,PyData.eqvAll]
def bz(p:Pc):(I.py (pcI p)).canLay0=true:=by simp[pcI,I.py,I.pys,PyData.canLay0,PyData.canLayAll0]
section
variable{cs:Nat->Cost}{rk:Nat->Nat}{h d v:72}
noncomputable abbrev Ld(ws:List Wg)(W:95)(z6 z7 z8 z9:Option D):Ls:=[some (.im (AR ws)),some (.im (.tup (W.map AM))),some (.mu 0),some (.mu 1),some (.mu 2),some (.mu 3),z6,z7,z8,z9]
noncomputable abbrev Hl(n:Nat)(h lf:72)(kvs:List (Key×D))(P:List Pc)(g:Hd):Hd:=.lst (fl n h)::.dic kvs::.lst (fl n lf)::.lst (P.map pcD)::g
inductive I_ld(ws:List Wg)(W:95)(h v:72)(kvs:List (Key×D))(N:Nat)(r:List D)(ls:Ls)(hd:Hd):Prop
 |mk (τ:Nat) (lf:72) (P:List Pc) (z6 z7 z8 z9:Option D) (hτ:τ<=N) (er:r=Ah (τ:Int) (N-τ)) (h0:ls=Ld ws W z6 z7 z8 z9) (h1:hd=Hl 65 h lf kvs P []) (C:Du.Dc 65 h v (AL ws) lf P τ):I_ld ws W h v kvs N r ls hd
abbrev du:MS:=Aa (Bj (A8 (Br true (A0 5) (Ac A4))) (Bj (A8 (mOp gEq (mOp gIx (mOp gIx (A0 5) (C6 118)) 109) (A0 9))) (A8 (mOp gEq (mOp gIx (mOp gIx (A0 5) (C6 118)) (mC (.int 2))) (A0 6)))))
 (C8 (A0 5) (C6 118) (Ae (A1 (A0 9) (A1 (mOp gIx (mOp gIx (A0 5) (C6 118)) 118) (A1 (mOp Ag (A0 6) 118) A4)))))
 (B0 (mMt Ad (A0 5) (A1 (Ae (A1 (A0 9) (A1 (A0 6) (A1 (mOp Ag (A0 6) 118) A4)))) A4)))
def aq{n:Nat}{lf:72}{P:List Pc}{t m:Int}{k:Nat}(hl:P.length<=1000){Q:Fl->Hd->Prop}(q:Q (.nx (Ld ws W (some (.im (.int t))) z7 (some (.im (.int m))) (some (.im 105)))) (Hl n h lf kvs (Du.addP P k t (t+1)) g)):
 WS du (Ld ws W (some (.im (.int t))) z7 (some (.im (.int m))) (some (.im 105))) (Hl n h lf kvs P g) Q:=by
 have sv:∀P':List Pc,Az (Hl n h lf kvs P' g) (.mu 3)=some (P'.map pcD):=λP'=>rfl;have app:Q (.nx (Ld ws W (some (.im (.int t))) z7 (some (.im (.int m))) (some (.im 105)))) (Hl n h lf kvs (P++[(k,t,t+1)]) g)->WS (B0 (mMt Ad (A0 5) (A1 (Ae (A1 (A0 9) (A1 (A0 6) (A1 (mOp Ag (A0 6) 118) A4)))) A4))) (Ld ws W (some (.im (.int t))) z7 (some (.im (.int m))) (some (.im 105))) (Hl n h lf kvs P g) Q:=λq=>by
  refine Bt (EB (A2 rfl ⟨⟨_,rfl⟩,A3 (BA (A3 (A2 rfl (A3 (A2 rfl (A3 (A7 (A2 rfl (AN (C9 (A9 ⟨C0,A9 ?_⟩)))))))))))⟩));refine Ci rfl (BB 86) ?_;rw[Hl,show(P++[(k,t,t+1)]).map pcD=P.map pcD++[Au [.im 105,.im (.int t),.im (.int (t+1))]] by rw[ig];rfl]at q;exact q
 refine B3 (DD (AI (RU (A2 rfl ⟨3,P.map pcI,rfl,by rw[gY];rfl,λi hi=>?_,_,rfl,?_⟩))))
 .obtain⟨p,_,rfl⟩:=mem_map.mp hi;exact bz p
 rcases Du.nil_or P with rfl|⟨P',p,rfl⟩
 .rw[gh 71];exact⟨(λh=>by cases h),λ_=>app q⟩
 .rw[gb 71];rw[Du.addP_snoc]at q;have la:atI ((P'++[p]).map pcD) (-1)=some (pcD p):=by rw[ig];exact Gi _ _
  have gl:∀{j:Int} {v:D} {QE:D->Hd->Prop},atI [D.im (.int (p.1:Int)),.im (.int p.2.1),.im (.int p.2.2)] j=some v->QE v (Hl n h lf kvs (P'++[p]) g)->WE (mOp gIx (mOp gIx (A0 5) (C6 118)) (mC (.int j))) (Ld ws W (some (.im (.int t))) z7 (some (.im (.int m))) (some (.im 105))) (Hl n h lf kvs (P'++[p]) g) QE:=λ{j v QE} ea q=>
   A7 (A7 (A2 rfl (Ex (AN ⟨_,rfl,AF (ds:=(P'++[p]).map pcD) (sv _) la (AN (AF (ds:=[D.im (.int (p.1:Int)),.im (.int p.2.1),.im (.int p.2.2)]) rfl ea q))⟩))))
  refine DD (AI (A7 (gl (Bc _ _) (A2 rfl (CU ⟨_,rfl,?_⟩)))));by_cases h1:p.1=k
  .rw[gb (by simp[h1])];refine AI (A7 (gl (E8 _ _ _ _) (A2 rfl (CU ⟨_,rfl,λh2=>?_,λh2=>?_⟩))))
   .have h2:p.2.2=t:=by simpa using h2
    rw[gb ⟨h1,h2⟩]at q;refine CZ (BA (A3 (A2 rfl (A3 (gl (DC _ _ _) (A3 (A7 (A2 rfl (AN (C9 (A9 ⟨C0,A2 rfl (Ex (AN ⟨_,rfl,?_⟩))⟩)))))))))));refine⟨3,-1,P'.length,(P'++[p]).map pcD,rfl,rfl,rfl,?_,?_⟩
    .unfold ixN;rw[gh 97,gb 86]
     congr 1
     simp;omega
    .have e:((P'++[p]).map pcD).set P'.length (Au [.im 105,.im (.int p.2.1),.im (.int (t+1))])=(P'++[(k,p.2.1,t+1)]).map pcD:=by
      rw[ig,ig];simp[Au,B2];rfl
     dsimp only[Hl,set_cons_succ,set_cons_zero];rw[e];exact q
   .have h2:¬ p.2.2=t:=by simpa using h2
    rw[gh (λh=>h2 h.2)]at q;exact app q
  .rw[gh 86];rw[gh (λh=>h1 h.1)]at q;exact⟨(λh=>by cases h),λ_=>app q⟩
def d8(l:72)(ks:77):(ks.map l).sum=Sx.S l ks:=rfl
structure Ly(ws:List Wg)(h d:72)(W:95)(P:List Pc):Prop where
 dc:∃v lf τ,Tl ws d W v/\Du.Dc 65 h v (AL ws) lf P τ/\∀j,j<65->lf j=0
 ln:P.length<=160
 pc:∀p∈P,p.1<65/\(0<=p.2.1/\p.2.1<=2000000)/\0<=p.2.2/\p.2.2<=2000000
set_option maxHeartbeats 2000000 in
def Sf(E:Ev ws cs W rk h)(hl:E9 ws cs d):WF KO [.im (AR ws),.im (.tup (W.map AM))] [] λr x=>∃P:List Pc,r=.im (.tup (P.map pcI))/\Ly ws h d W P:=by
 have n8:=E.ok.2.1;have n1:=E.ok.1;have hb:=E.hb;have eln:(((ws.map wgI).map D.im).length:Int)=(ws.length:Int):=by simp
 unfold KO;refine Ax rfl ?_;refine AB (AS (EM (A3 (A2 rfl (A3 (A2 rfl (A9 ⟨by simp,(VO E).mono ?_⟩)))))));rintro _ _ ⟨rfl,o,rfl⟩;refine⟨1,_,rfl,rfl,CF _ _,A6 ?_⟩;refine AB (AS (Ic (A3 (A2 rfl (A3 (A2 rfl (A9 ⟨by simp,(Se E hl).mono ?_⟩)))))));rintro _ _ ⟨rfl,kvs,g,v,rfl,dic,cl,hg,T⟩;have sh:[MO.dic kvs].map (shO 1)=[.dic kvs]:=by rw[gv,ie];exact hX (λx=>[MO.dic x]) (cl.sh 1)
 refine A6 ?_;change WS _ [some (.im (AR ws)),some (.im (.tup (W.map AM))),some (.mu 0),some (.mu 1),none,none,none,none,none,none] ([.lst (fl 65 h)]++[MO.dic kvs].map (shO 1)) _;rw[sh];refine AB (AS (Ar (Af (C4 (A2 rfl ⟨_,rfl,?_⟩)))));rw[<- BG];refine⟨AO 86,?_⟩;refine As (λw=>D.im (wgI w)) (λw=>some (.im (.int w.len))) (λ_ ls=>∃x,ls=[some x]) _ (AK _) ?_ ?_
 .rintro w hw ls hls;refine⟨[some (.im (wgI w))],by rcases hls with rfl|⟨_,x,rfl⟩<;>rfl,⟨_,rfl⟩,BW ⟨rfl,?_⟩⟩;rw[gb rfl];exact⟨_,rfl,A7 (A2 rfl (AN (AF rfl (Bc _ _) ⟨rfl,rfl⟩)))⟩
 rw[Kw E.ok];refine A6 (AB (AS (Ar (Bb (A9 ⟨CW,A6 ?_⟩)))));change WS _ (Ld ws W none none none none) (Hl 65 h (AL ws) kvs [] []) _;have ne:(68 65).map h≠[]:=by
  intro z;have:=hX List.length z;rw[gZ,iX,iB]at this;omega
 obtain⟨m1,m2⟩:=BF ne;have eM:Do (fl 65 h)=_:=Ow ne;generalize CJ ((68 65).map h)=M at m1 m2 eM;obtain⟨k9,hk9,ek9⟩:=mem_map.mp m1;have hk9:k9<ws.length:=by simpa using hk9
 have M0:0<=M/\M<=1000000:=by rw[<- ek9];exact hb k9 hk9
 have hM:∀k,k<65->h k<=M:=λk hk=>m2 _ (mem_map.mpr ⟨k,by simpa using hk,rfl⟩);have S0:0<=Sx.S (AL ws) (68 65)/\Sx.S (AL ws) (68 65)<=160:=by
  have a:∀L:List Nat,(∀k∈L,k<65)->0<=Sx.S (AL ws) L/\Sx.S (AL ws) L<=20*L.length:=by
   intro L
   induction L with
   |nil=>intro _;simp[Sx.S]
   |cons x r ih=>
    intro hx;have:=ih λk hk=>hx k (by simp[hk]);have hx:=hx x 71;have:=NT E.ok hx;rw[<- D4 E.ok hx]at this;rw[Sx.S_cons,i7];omega
  have:=a (68 65) λk hk=>by simpa using hk
  rw[iX]at this;omega
 obtain⟨N,hN⟩:∃N:Nat,M+Sx.S (AL ws) (List.range ws.length)+1=(N:Int):=⟨(M+Sx.S (AL ws) (68 65)+1).toNat,by omega⟩
 have bn:∀{lf:72} {P:List Pc} {τ:Nat},Du.Dc 65 h v (AL ws) lf P τ->Du.Dcb 65 (AL ws) M lf P τ/\P.length<=160:=λ{lf P τ} C=>by
  have B:=C.bnd M0.1 hM (λk _=>by have:=Bq ws k;omega);have:=Du.dn_S (l:=AL ws) (lf:=lf) (ks:=68 65) λk hk=>(B.lo k (by simpa using hk)).1;have:=B.ln;exact⟨B,by omega⟩
 refine AB (Bw (Ew (A3 (A7 (A7 (B8 (A3 (A2 rfl (A9 (BK (ds:=fl 65 h) rfl eM ?_))))))))));refine B8 (A3 (A2 rfl (A9 (BK (ds:=fl 65 (AL ws)) rfl (Ov _) (C9 (AN (C9 (A9 ⟨_,rfl,?_⟩))))))));rw[d8,hN,ia];refine⟨CA 66 66,?_⟩;refine BL (I_ld ws W h v kvs N) ⟨0,AL ws,[],none,none,none,none,by omega,rfl,rfl,rfl,.nil⟩ ?_ ?_
 .rintro x r ls hd ⟨τ,lf,P,z6,z7,z8,z9,hτ,er,rfl,rfl,C⟩;obtain⟨m,hm⟩:∃m,N-τ=m+1:=by
   cases q:N-τ with
   |zero=>rw[q]at er;cases er
   |succ m=>exact⟨m,rfl⟩
  rw[hm,Ah]at er;obtain⟨rfl,rfl⟩:=List.cons.inj er;have ej:((τ:Int)+1)=((τ+1:Nat):Int):=by omega
  have em:m=N-(τ+1):=by omega
  have B:=(bn C).1;have pl:=(bn C).2;refine⟨Ld ws W (some (.im (.int (τ:Int)))) z7 z8 z9,rfl,GD ?_⟩;have done:∀(lf':72) (P':List Pc) (g:Hd) (a7 a8 a9:Option D) (Q:Fl->Hd->Prop),Du.Dc 65 h v (AL ws) lf' P' (τ+1) ->
   ((Hl 65 h lf' kvs P' g).take 4).all (clO 4)=true/\∃f',Ee 4 (.nx (Ld ws W (some (.im (.int (τ:Int)))) a7 a8 a9))=some f'/\M9 [] (I_ld ws W h v kvs N (Ah ((τ:Int)+1) m)) Q f' ((Hl 65 h lf' kvs P' g).take 4):=by
   intro lf' P' g a7 a8 a9 Q C';refine⟨?_,_,rfl,AK _,τ+1,lf',P',some (.im (.int (τ:Int))),FM 4 a7,FM 4 a8,FM 4 a9,by omega,by rw[ej,em],by rw[Md];rfl,rfl,C'⟩;simp only[List.take_succ_cons,List.take_zero,all_cons,List.all_nil,Bool.and_true,Bool.and_eq_true];refine⟨CF _ _,cl.cl 4,CF _ _,?_⟩;exact KD 4 pcI P'
  refine AB (AS (Ar (Af (Ew (A3 (B8 (A3 (A2 rfl (A9 (BK rfl rfl ?_))))))))));rw[eln];refine A9 ⟨_,rfl,CA 66 66,?_⟩;rw[ia,CI];refine⟨AO (by simp[AH];omega),?_⟩;refine As (xs:=68 65) (λk:Nat=>D.im 105) (λk=>if 0<lf k/\h k<=τ then some (.im 105)else none) (λ_ ls=>∃x,ls=[some x,some (.mu 2),some (.mu 0),some (.im (.int (τ:Int)))]) _ (AK _) ?_ ?_
  .rintro k hk ls hls;have hk:k<ws.length:=by simpa using hk
   refine⟨[some (.im 105),some (.mu 2),some (.mu 0),some (.im (.int (τ:Int)))],by rcases hls with rfl|⟨_,x,rfl⟩<;>rfl,⟨_,rfl⟩,?_⟩;refine DD (AI (A7 (A7 (A2 rfl (A2 rfl (AF (ds:=fl 65 lf) rfl (D6 lf hk) (AN (Ed ⟨_,rfl,?_⟩))))))));by_cases a:0<lf k
   .rw[gb (by simpa using a)];refine AI (A7 (A7 (A2 rfl (A2 rfl (AF (ds:=fl 65 h) rfl (D6 h hk) (A2 rfl (FL ⟨_,rfl,rfl,?_⟩)))))));by_cases b:h k<=τ
    .rw[gb (by simpa using b),gb ⟨a,b⟩];exact⟨_,rfl,A2 rfl ⟨rfl,rfl⟩⟩
    .rw[gh (by simpa using b),gh λq=>b q.2]
   .rw[gh (by simpa using a)];refine⟨rfl,?_⟩;rw[gh 71,gh λq=>a q.1]
  rw[IG];have hV:∀k,k∈(68 65).filter (λk=>decide (0<lf k/\h k<=τ))↔k<65/\0<lf k/\h k<=τ:=λk=>by simp
  have sV:((68 65).filter (λk=>decide (0<lf k/\h k<=τ))).Pairwise (·<·):=List.Pairwise.filter _ List.pairwise_lt_range;have lV:((68 65).filter λk=>decide (0<lf k/\h k<=τ)).length<=8:=by
   have:((68 65).filter λk=>decide (0<lf k/\h k<=τ)).length<=(68 65).length:=iJ _ _;rw[iX]at this;omega
  generalize (68 65).filter (λk=>decide (0<lf k/\h k<=τ))=V at hV sV lV;refine A6 ?_;change WS _ (Ld ws W (some (.im (.int (τ:Int)))) (some (.mu 4)) z8 z9) (Hl 65 h lf kvs P [.lst (AH V)]) _;refine B3 (AI (RU (A2 rfl ⟨4,V.map λk:Nat=>I.int (k:Int),rfl,by rw[gY];rfl,λi hi=>?_,_,rfl,λq=>?_,λq=>?_⟩)))
  .obtain⟨k,_,rfl⟩:=mem_map.mp hi;simp[I.py,PyData.canLay0]
  .have neV:V≠[]:=by simpa using q
   refine AB (AS (Bi (Af (EU (A2 rfl ⟨_,AH V,rfl,rfl,AO (by simp[AH];omega),?_⟩)))));refine As (xs:=V) (λk:Nat=>D.im 105) (λk=>some (.im (.int (v k)))) (λ_ ls=>∃x,ls=[some x,some (.mu 1)]) _ (by intro p hp;rw[hE]at hp;subst hp;rfl) ?_ ?_
   .rintro k hk ls hls;refine⟨[some (.im 105),some (.mu 1)],by rcases hls with rfl|⟨_,x,rfl⟩<;>rfl,⟨_,rfl⟩,BW ⟨rfl,?_⟩⟩;rw[gb rfl];exact⟨_,rfl,A7 (A2 rfl (A2 rfl (DR (kvs:=kvs) rfl dic (hg k ((hV k).mp hk).1) ⟨rfl,rfl⟩)))⟩
   rw[D5];have ne1:V.map v≠[]:=by simpa using neV
   obtain⟨c1,c2⟩:=Bn ne1;refine⟨_,Ep ne1,A6 ?_⟩;generalize Cc (V.map v)=μ at c1 c2;change WS _ (Ld ws W (some (.im (.int (τ:Int)))) (some (.mu 4)) (some (.im (.int μ))) z9) (Hl 65 h lf kvs P [.lst (AH V)]) _;refine AB (AS (JT (Af (EU (A2 rfl ⟨_,AH V,rfl,rfl,AO (by simp[AH];omega),?_⟩)))));refine As (xs:=V) (λk:Nat=>D.im 105) (λk=>if v k=μ then some (.im 105)else none) (λ_ ls=>∃x,ls=[some x,some (.mu 1),some (.im (.int μ))]) _ (by intro p hp;rw[hE]at hp;subst hp;rfl) ?_ ?_
   .rintro k hk ls hls;refine⟨[some (.im 105),some (.mu 1),some (.im (.int μ))],by rcases hls with rfl|⟨_,x,rfl⟩<;>rfl,⟨_,rfl⟩,?_⟩;refine AI (A7 (A7 (A2 rfl (A2 rfl (DR (kvs:=kvs) rfl dic (hg k ((hV k).mp hk).1) (A2 rfl (CU ⟨_,rfl,rfl,?_⟩)))))));by_cases b:v k=μ
    .rw[gb (by simpa using b),gb b];exact⟨_,rfl,A2 rfl ⟨rfl,rfl⟩⟩
    .rw[gh (by simpa using b),gh b]
   rw[IG];have hU:∀k,k∈V.filter (λk=>decide (v k=μ))↔k∈V/\v k=μ:=λk=>by simp
   have sU:(V.filter λk=>decide (v k=μ)).Pairwise (·<·):=sV.filter _;generalize V.filter (λk=>decide (v k=μ))=U at hU sU;cases U with
   |nil=>
    obtain⟨k,hk,e⟩:=mem_map.mp c1;have:=(hU k).mpr ⟨hk,e⟩;cases this
   |cons k U=>
   obtain⟨kV,kμ⟩:=(hU k).mp 71;obtain⟨kn,k0,kc⟩:=(hV k).mp kV;have km:∀j,j<65->0<lf j->h j<=τ->v k<v j∨v k=v j/\k<=j:=λj jn j0 jc=>by
    have jV:=(hV j).mpr ⟨jn,j0,jc⟩;have le:=c2 _ (mem_map.mpr ⟨j,jV,rfl⟩);by_cases e:v j=μ
    .refine .inr ⟨by omega,?_⟩;rcases mem_cons.mp ((hU j).mpr ⟨jV,e⟩)with rfl|z
     .exact gk _
     .exact iy ((pairwise_cons.mp sU).1 j z)
    .exact .inl 66
   refine AN ⟨_,_,rfl,Bc _ _,A6 ?_⟩;change WS _ (Ld ws W (some (.im (.int (τ:Int)))) (some (.mu 4)) (some (.im (.int μ))) (some (.im 105))) (Hl 65 h lf kvs P [.lst (AH V)]) _;refine AB (CZ (A7 (A7 (A2 rfl (A2 rfl (AF (ds:=fl 65 lf) rfl (D6 lf kn) (AN (DE (A2 rfl (A2 rfl ⟨2,(k:Int),k,_,rfl,rfl,rfl,K2 lf kn,A6 ?_⟩))))))))));rw[Hb];exact aq 66 (done (upd lf k (lf k-1)) (Du.addP P k τ (τ+1)) _ _ _ _ _ (C.work kn k0 kc km))
  .have eV:V=[]:=by simpa using q
   refine Aj (done lf P _ _ _ _ _ (C.idle λj jn j0=>?_));refine Classical.byContradiction λz=>?_;have:=(hV j).mpr ⟨jn,j0,by omega⟩;rw[eV]at this;cases this
 .rintro ls hd ⟨τ,lf,P,z6,z7,z8,z9,hτ,er,rfl,rfl,C⟩;have eτ:τ=N:=by
   cases q:N-τ with
   |zero=>omega
   |succ m=>rw[q,Ah]at er;cases er
  subst eτ;have B:=(bn C).1;have z:∀j,j<65->lf j=0:=by
   rcases B.tm with z|z
   .exact z
   .have:=Du.dn_S (l:=AL ws) (lf:=lf) (ks:=68 65) λk hk=>(B.lo k (by simpa using hk)).1;omega
  refine A6 (Av (B8 (A3 (A2 rfl (A9 (BK (ds:=P.map pcD) (z:=.im (.tup (P.map pcI))) rfl ?_ ?_))))))
  .show some (Au (P.map pcD))=_;rw[show P.map pcD=(P.map pcI).map D.im by simp,BX]
  .refine⟨P,rfl,⟨v,lf,τ,T,C,z⟩,(bn C).2,λp hp=>?_⟩;have:=B.pc p hp;omega
end
open PySem L2 Bd Hds
open Bk (Pc upd)
def RK{k i:Nat}{QT:Bool->Hd->Prop}(e:ls[i]?=some (some (.mu k)))(q:QT false hd):WT (A8 (FY false (A0 i))) ls hd QT:=by
 refine AI ⟨.im (.bl false),hd,?_,false,rfl,q⟩;simp[FY,A0,e]
def bc(h:okLs 2000 ws):OkP 2000 3 (AR ws).py:=by
 refine OkP.mono (w':=2000) (dp':=3) (DY (w:=249) (dp:=2) (is:=ws.map wgI) λi hi=>?_) (by have:=h.2.1;simp;omega) 66;obtain⟨w,hw,rfl⟩:=mem_map.mp hi;obtain⟨⟨a,b⟩,⟨c,d⟩,x,e,f,g⟩:=h.2.2 w hw;have i1:∀{i:Int},-1000000<=i->i<=1000000->OkP 82 1 (I.py (.int i)):=λa b=>(Hx ⟨by omega,by omega⟩).mono 66 66;refine OkP.mono (w':=249) (dp':=2) (DY (w:=82) (dp:=1) (is:=[.int w.len,.int w.com,w.co]) λi hi=>?_) 71 66;simp at hi;rcases hi with rfl|rfl|rfl
 .exact i1 66 66
 .exact i1 66 66
 .rw[e];refine OkP.mono (w':=82) (dp':=1) (DY (w:=40) (dp:=0) (is:=[.str "late",.int x]) λj hj=>?_) 71 66;simp at hj;rcases hj with rfl|rfl
  .exact YQ _ (.inl rfl)
  .exact Hx ⟨by omega,by omega⟩
def YR{a b c:Int}(h:(-3000000<=a/\a<=3000000)/\(-3000000<=b/\b<=3000000)/\-3000000<=c/\c<=3000000):OkP 123 1 (I.py (.tup [.int a,.int b,.int c])):=by
 refine OkP.mono (w':=123) (dp':=1) (DY (w:=40) (dp:=0) (is:=[.int a,.int b,.int c]) λj hj=>?_) 71 66;simp at hj;rcases hj with rfl|rfl|rfl<;>exact Hx ⟨by omega,by omega⟩
def YS{W:95}(h:okLs 2000 ws)(hW:W.length<=16)(hw:∀p∈W,p.1<100/\p.2<100):Fx (I.py (.tup [AR ws,.tup (W.map AM)])):=by
 refine OkP.repr (w:=4002) (dp:=4) (OkP.mono (DY (w:=2000) (dp:=3) (is:=[AR ws,.tup (W.map AM)]) λi hi=>?_) 71 66) (by rw[I.py];rfl) 66 66;simp only[mem_cons,List.not_mem_nil,or_false]at hi;rcases hi with rfl|rfl
 .exact bc h
 .refine OkP.mono (w':=2000) (dp':=3) (DY (w:=82) (dp:=1) (is:=W.map AM) λi hi=>?_) 86 66;obtain⟨p,h1,rfl⟩:=mem_map.mp hi;have:=hw p h1;refine OkP.mono (w':=82) (dp':=1) (DY (w:=40) (dp:=0) (is:=[.int (p.1:Int),.int (p.2:Int)]) λj hj=>?_) 71 66;simp at hj;rcases hj with rfl|rfl<;>exact Hx ⟨by omega,by omega⟩
theorem Ly.repr{ws:List Wg}{h d:72}(n8:65<=8)(y:Ly ws h d W P):Fx (I.py (.tup (P.map pcI))):=by
 have:=y.ln;refine OkP.repr (w:=19840) (dp:=2) (OkP.mono (DY (w:=123) (dp:=1) (is:=P.map pcI) λi hi=>?_) 86 66) (by rw[I.py];rfl) 66 66;obtain⟨p,hp,rfl⟩:=mem_map.mp hi;have:=y.pc p hp;exact YR ⟨by omega,by omega,by omega⟩
noncomputable def fF:I->Int
 |.tup [_,.int d]=>d
 |_=>0
noncomputable def J8(w:Wg):Wg:=⟨w.len,w.com,Ai (.late (fF w.co%3))⟩
def bi(ok:okLs 2000 ws){QE:D->Hd->Prop}(e2:ls[2]?=some (some (.im (AR ws))))(q:okLs 2000 (ws.map J8)->QE (.im (AR (ws.map J8))) hd):
 WE (B7 BD (AW 3 [] (B5 121) (BO 3 (AT (AA 0) (AT (AA 1) (AT (AA 2) BR)))) BS (Ae (A1 74 (A1 (A0 1) (A1 (Ae (A1 (mC (.str "late")) (A1 (mOp Cd (mOp gIx 121 118) (mC (.int 3))) A4))) A4)))))) ls hd QE:=by
 have n8:=ok.2.1;refine Bi (Af (C4 (A2 e2 ⟨_,rfl,?_⟩)));rw[<- BG];refine⟨AO 86,?_⟩;refine As (λw=>D.im (wgI w)) (λw=>some (.im (wgI (J8 w)))) (λ_ ls=>∃x y z,ls=[some x,some y,some z]) _ (AK _) ?_ ?_
 .rintro w hw ls hls;obtain⟨_,_,x,e,_⟩:=ok.2.2 w hw;refine⟨[some (.im (.int w.len)),some (.im (.int w.com)),some (.im w.co)],by rcases hls with rfl|⟨_,x,y,z,rfl⟩<;>rfl,⟨_,_,_,rfl⟩,BW ⟨rfl,?_⟩⟩;rw[gb rfl];refine⟨_,rfl,BA (A3 (A2 rfl (A3 (A2 rfl (A3 (BA (A3 (AN (A3 (A7 (A7 (A2 rfl (AN ?_)))))))))))))⟩;rw[e];refine AF rfl (DC _ _ _) (AN (De (by unfold EC;decide) (A9 ⟨Cy,A9 ⟨C0,rfl,?_⟩⟩)));rw[J8,e];rfl
 have e3:(ws.filterMap λw=>some (D.im (wgI (J8 w))))=((ws.map J8).map wgI).map D.im:=by simp
 rw[e3];refine⟨_,rfl,?_⟩;rw[BX];refine q ⟨by simpa using ok.1,by simpa using ok.2.1,λw hw=>?_⟩;obtain⟨u,hu,rfl⟩:=mem_map.mp hw;obtain⟨h1,h2,_⟩:=ok.2.2 u hu;exact⟨h1,h2,_,rfl,by omega,by omega⟩
theorem okLs.late{cs:Nat->Cost}(ok:okLs 2000 ws)(hcs:OB ws cs):∃d,E9 ws cs d:=by
 refine⟨λk=>match cs k with|.late d=>d|_=>0,λk hk=>?_⟩;obtain⟨_,_,x,e,_⟩:=ok.2.2 ws[k] (List.getElem_mem hk);have e2:=GG hcs hk;rw[e]at e2;cases c:cs k with
 |late d=>simp only[c]
 |tardy d w=>rw[c]at e2;simp[Ai]at e2
 |miss d w=>rw[c]at e2;simp[Ai]at e2
 |ends w=>rw[c]at e2;simp[Ai]at e2;exact absurd e2.1 n5
 |steps rows=>rw[c]at e2;simp[Ai]at e2
section
variable{cs:Nat->Cost}{rk:Nat->Nat}{h d dd:72}
def Ly.same(E:Ev ws cs W rk h)(Y:Ly ws h d W P)(D:Dp ws h dd W P')(U:Du.Tu 65 (AL ws) d W rk dd 65):P'=P:=by
 obtain⟨v,lf,τ,T,C,z⟩:=Y.dc;obtain⟨lf',τ',C',z'⟩:=D.dc;exact(C'.congr (λ_ _=>rfl) (d6 E U T)).fin z' C z
end
open PySem L2 Bd Hds
open Bk (Pc upd)
noncomputable abbrev Lw(ns:92)(ws:List Wg)(W:95)(P:List Pc)(z6 z7 z8:Option D):Ls:=[some (.ro ns),some (.mu 1),some (.im (AR ws)),some (.im (.tup (W.map AM))),some (.im (.str (I.py (.tup [AR ws,.tup (W.map AM)])).shown)),some (.im (.tup (P.map pcI))),z6,z7,z8]
inductive I_again(ns:92)(ws:List Wg)(W:95)(P:List Pc)(H:Hd)(r:List D)(ls:Ls)(hd:Hd):Prop
 |mk (z6:Option D) (h0:ls=Lw ns ws W P z6 none none) (h1:hd=H):I_again ns ws W P H r ls hd
noncomputable abbrev Qa:MS:=(A5 (AE 4 (mCB Ce (A1 (Ae (A1 121 (A1 (A0 3) A4))) A4)))
 (A5 (AE 5 (AD 0 KO (A1 121 (A1 (A0 3) A4))))
 (A5 (BC (Bo (A1 (mC (.int 2)) A4)) (AA 6)
  (CV (Aa (mOr (A8 (mOp gNe (mCB Ce (A1 (AD 0 Dz (A1 121 (A1 (A0 3) A4))) A4)) (mCB Ce (A1 (A0 5) A4)))) (A8 (mOp gNe (mCB Ce (A1 (Ae (A1 121 (A1 (A0 3) A4))) A4)) (A0 4))))
  (AQ (mC (.bl false)))
  AU)))
 (A5 (AE 7 (AD 0 FK (A1 121 (A1 (A0 3) (A1 (A0 5) A4)))))
 (A5 (AE 8 (AD 0 FK (A1 121 (A1 (A0 3) (A1 (mOp gIx (AD 0 C3 (A1 121 (A1 (A0 3) A4))) 109) A4)))))
 (A5 (Aa (mOr (A8 (FY false (A0 7))) (A8 (FY false (A0 8))))
  (AQ (mC (.bl false)))
  AU)
 (AQ (mOp gEq (Bp CS (A1 121 (A1 (A0 7) A4))) (Bp CS (A1 121 (A1 (A0 8) A4)))))))))))
section
variable{cs:Nat->Cost}{rk:Nat->Nat}{h d:72}
set_option maxHeartbeats 2000000 in
def Zj(E:Ev ws cs W rk h)(ok:okLs 2000 ws)(ns:92)(a b o1 o2:MO)(cH:([a,b,o1,o2]:Hd).all (clO 4)=true){Q:Fl->Hd->Prop}(hQ:∀x,Q (.rt (.im (.bl true))) x):
 WS Qa [some (.ro ns),some (.mu 1),some (.im (AR ws)),some (.im (.tup (W.map AM))),none,none,none,none,none] [a,b,o1,o2] Q:=by
 have n8:=E.ok.2.1;obtain⟨d,hl⟩:=ok.late E.hcs;have okK:=YS ok E.hW λp hp=>by have:=E.R.ins p hp;omega
 obtain⟨_,_,_,P,_,Y⟩:=Sf E hl;obtain⟨_,_,_,P',dd,_,D,U⟩:=WR E hl;obtain rfl:=Y.same E D U;have okP:=Y.repr n8;refine AB (AS (B8 (A3 (BA (A3 (A2 rfl (A3 (A2 rfl (A9 ⟨Cy,A9 ?_⟩)))))))));rw[G0];refine GE okK (A6 ?_);refine AB (AS (Ap (A3 (A2 rfl (A3 (A2 rfl (A9 ⟨by simp,(Sf E hl).mono ?_⟩)))))));rintro _ _ ⟨P2,rfl,Y2⟩;obtain rfl:=Y2.same E D U;refine⟨_,rfl,A6 ?_⟩;change WS _ (Lw ns ws W P' none none none) [a,b,o1,o2] _;refine AB (Bw (Ew (A3 (AN (A9 ⟨_,rfl,CA 97 97,?_⟩)))));refine BL (I_again ns ws W P' [a,b,o1,o2]) ⟨none,rfl,rfl⟩ ?_ ?_
 .rintro x r ls hd ⟨z6,rfl,rfl⟩;refine⟨Lw ns ws W P' (some x) none none,rfl,GD ?_⟩;refine B3 (D1 (AI (A7 (B8 (A3 (Ap (A3 (A2 rfl (A3 (A2 rfl (A9 ⟨by simp,(WR E hl).mono ?_⟩)))))))))));rintro _ _ ⟨P3,dd3,rfl,D3,U3⟩;obtain rfl:=Y.same E D3 U3;refine⟨_,rfl,A9 (GE okP (B8 (A3 (A2 rfl (A9 (GE okP (Fq ⟨_,rfl,?_⟩)))))))⟩;rw[gh 71];refine AI (A7 (B8 (A3 (BA (A3 (A2 rfl (A3 (A2 rfl (A9 ⟨Cy,A9 ?_⟩)))))))));rw[G0];refine GE okK (A2 rfl (Fq ⟨_,rfl,(λh=>by simp at h),λ_=>Aj ?_⟩));refine⟨by simpa using cH,_,rfl,AK _,FM 4 (some x),rfl,rfl⟩
 .rintro ls hd ⟨z6,rfl,rfl⟩;refine A6 (AB (AS (EM (A3 (A2 rfl (A3 (A2 rfl (A3 (A2 rfl (A9 ⟨by simp,(T3 E D.pk).mono ?_⟩))))))))));rintro _ _ ⟨left,en,t,rfl,rfl,I,l0,hen⟩;refine⟨1,_,rfl,rfl,CF _ _,A6 ?_⟩;change WS _ (Lw ns ws W P' z6 (some (.mu 4)) none) [a,b,o1,o2,.lst (fl 65 en)] _;refine AB (AS (EM (A3 (A2 rfl (A3 (A2 rfl (A3 (A7 (Ap (A3 (A2 rfl (A3 (A2 rfl (A9 ⟨by simp,(ay E).mono ?_⟩))))))))))))));rintro _ _ ⟨ps,ss,s,rfl,B,hs,hb,_⟩;have O:=cZ E B;refine⟨_,rfl,AN (AF rfl (Bc _ _) (A9 ⟨by simp,(T3 E O).mono ?_⟩))⟩;rintro _ _ ⟨left2,en2,t2,rfl,rfl,I2,l2,hen2⟩;refine⟨1,_,rfl,rfl,CF _ _,A6 ?_⟩;change WS _ (Lw ns ws W P' z6 (some (.mu 4)) (some (.mu 5))) [a,b,o1,o2,.lst (fl 65 en),.lst (fl 65 en2)] _;refine AB (B3 (D1 (RK rfl ?_)));rw[gh 71];refine RK rfl ⟨(λz=>by cases z),λ_=>Aj (A6 ?_)⟩;refine Av (A7 (CG (A3 (A2 rfl (A3 (A2 rfl (A9 ((cG E (en:=en) rfl).mono ?_))))))));rintro _ _ ⟨rfl,rfl⟩;refine CG (A3 (A2 rfl (A3 (A2 rfl (A9 ((cG E (en:=en2) rfl).mono ?_))))));rintro _ _ ⟨rfl,rfl⟩;refine CU ?_;have S:=Pl E B s hs;have a1:=Vd E hl D U (λk hk=>let ⟨q,h1,h2,_⟩:=hen k hk;⟨q,h1,h2⟩) (ZM E O I2 l2 hen2);have a2:=Int.le_trans (up E B hb λk hk=>let ⟨q,h1,h2,_⟩:=hen2 k hk;⟨q,h1,h2⟩) (low E I l0 S.1 S.2);rw[iC (j8 a1 a2)];exact hQ _
end
set_option maxHeartbeats 2000000 in
def dv(ns:92):WF gV [.ro ns] [] λd x=>d=.im (.bl true):=by
 unfold gV;refine Ax rfl ?_;refine AB (AS (CG (A3 (A2 rfl (A9 ((cJ ns).mono ?_))))));rintro d x ⟨rfl,a,b,hT,rfl⟩;refine A6 ?_;have hT:T (700+300) a b:=tap.le hT 97;refine AB (AS ?_);refine tap.callX (n:=700) (c:=300) hT [Wl,V4] (rest:=[]) (as:=[.im (.int 8),.mu 2,.mu 3]) 71 rfl rfl rfl (Wh _) ?_;rintro i a b hT ⟨ws0,rfl,hok0⟩;refine A6 ?_;change WS _ [some (.ro ns),some (.mu 1),some (.im (AR ws0)),none,none,none,none,none,none] [a,b,Wl,V4] _;refine AB (AS ?_);have hT:T (600+100) a b:=hT;refine tap.call (n:=600) (c:=100) hT (as:=[.im (.int (ws0.length:Int))]) (rest:=[Wl,V4]) (by simp[BE]) rfl (TZ _ ws0.length hok0.2.1) ?_;rintro i a b hT ⟨seq,ps,rfl,pm,al,hW⟩;obtain⟨W,rfl,R,hrk⟩:=Vn pm al;simp only[gZ]at hW;have eW:(W.map λp:Nat×Nat=>((p.1:Int),(p.2:Int))).map MJ=W.map AM:=by rw[gY];rfl
 rw[eW];refine A6 ?_;change WS _ [some (.ro ns),some (.mu 1),some (.im (AR ws0)),some (.im (.tup (W.map AM))),none,none,none,none,none] [a,b,Wl,V4] _;refine AB (AS ?_);have hT:T (500+2) a b:=tap.le hT 66;refine tap.call (n:=500) (c:=2) hT (as:=[.im (AR ws0)]) (rest:=[Wl,V4]) 71 71 (dz _ hok0.ls) ?_;rintro i a b hT ⟨ws,rfl,ok,elen⟩;rw[<- elen]at R hrk;refine A6 ?_;change WS _ [some (.ro ns),some (.mu 1),some (.im (AR ws)),some (.im (.tup (W.map AM))),none,none,none,none,none] [a,b,Wl,V4] _;have fin:∀us:List Wg,okLs 2000 us->us.length=65->∀(a b:MO) (n:Nat),T n a b->∀{Q:Fl->Hd->Prop},(∀x,Q (.rt (.im (.bl true))) x)->WS Qa [some (.ro ns),some (.mu 1),some (.im (AR us)),some (.im (.tup (W.map AM))),none,none,none,none,none] [a,b,Wl,V4] Q:=by
  intro us ok el a b n hT Q hQ;rw[<- el]at R hrk;have hok:=ok.fs;obtain⟨cs,hcs⟩:=eD hok;obtain⟨h,H2⟩:=Ys R hrk (BI us) (An us);have hb:∀k,k<us.length->0<=h k/\h k<=1000000:=λk hk=>by
   have h1:=H2.lo k hk;have h2:=Hg hok hk;have h3:=H2.bound R (B:=60) (m:=20) (λk hk=>(Hg hok hk).2) (λk hk=>(NT hok hk).2) 66 _ k rfl hk;have h4:=hrk k hk;have h6:(20:Int)*((seq.idxOf k:Nat):Int)<=20*8:=by have:=hok.2.1;omega
   try dsimp only at h1 h3 ⊢
   omega
  have E:Ev us cs W (λk=>seq.idxOf k) h:=⟨hok,hcs,hW,R,hrk,H2,hb⟩
  have ca:=FI (w:=4) 66 (tap.cl hT).1;have cb:=FI (w:=4) 66 (tap.cl hT).2;exact Zj E ok ns a b Wl V4 (by simp[ca,cb,L8,Aw]) hQ
 have ok2:∀a b (n:Nat),T n a b->∀{Q:Fl->Hd->Prop},(∀x,Q (.rt (.im (.bl true))) x)->WS Qa [some (.ro ns),some (.mu 1),some (.im (AR ws)),some (.im (.tup (W.map AM))),none,none,none,none,none] [a,b,Wl,V4] Q:=λa b n hT {Q} hQ=>fin ws ok rfl a b n hT hQ;have hT:T (400+1) a b:=tap.le hT 97;refine AB (B3 (AI (A7 ?_)));refine tap.draw (rest:=[Wl,V4]) hT rfl 97 97 λr0 a b hT p0 q0=>?_;refine AN (CU ⟨_,rfl,λ_=>?_,λ_=>Aj (A6 (ok2 a b _ hT λx=>rfl))⟩);refine AS (bi ok rfl λok'=>A6 (fin (ws.map J8) ok' 71 a b _ hT λx=>rfl))
def law_eq(ns:92):∃hd,gV [.ro ns] []=some (.im (.bl true),hd):=by
 obtain⟨d,x,e,rfl⟩:=dv ns;exact⟨x,e⟩
open PySem L2 PySem.W PyProof.Rows
noncomputable abbrev xS:Xs:=[("stretches_of",((("stretches_of":Str)++".<locals>.")++"<lambda>"),15,33),("cheapest_last",((("cheapest_last":Str)++".<locals>.")++"<lambda>"),94,56),("greatest_bound",((("greatest_bound":Str)++".<locals>.")++"<lambda>"),117,25),("ranked_plan",((("ranked_plan":Str)++".<locals>.")++"<lambda>"),139,62),("due_plan",((("due_plan":Str)++".<locals>.")++"<lambda>"),148,52)]
def all_mk{l:OpenLaw}{w:World}{K:Frag}{h:Heap}{mg:Str->Option Value}{fa:Addr}{c P:Str->Addr}(X:K.In h)(G:h.Ns mainGlobals mg)(hfa:mg "law"=some (.ref fa))(hx:HX xS mg h c P)(F:RJ K):HG l w K xS mg c P fa Qq:=by
 obtain⟨Z,h0,h1,h2,h4,h5,h6,h7,h8,h10,h11,h12,h13,h14,h16,h17,h18,h19,h22,h23,h24,h25,h26,h27,h28,h29,h30,h31,h32,h33,h34,h35,h36,p3,p9,p15,p20,p21,h3,h9,h15,h20,h21,tn⟩:=F;have B:=(zsE Z).blt X G;have nd:((Cl (BZ K (tbs xS P))).map (·.1)).Nodup:=di (ps:=[p3,p9,p15,p20,p21]) (by show [P "stretches_of",P "cheapest_last",P "greatest_bound",P "ranked_plan",P "due_plan"]=_;rw[((flE (e:=D7) h3).code X G hx (.head _)).1,((flE (e:=Cf) h9).code X G hx (.tail _ (.head _))).1,((flE (e:=CN) h15).code X G hx (.tail _ (.tail _ (.head _)))).1,((flE (e:=DN) h20).code X G hx (.tail _ (.tail _ (.tail _ (.head _))))).1,((flE (e:=En) h21).code X G hx (.tail _ (.tail _ (.tail _ (.tail _ (.head _)))))).1]) tn;refine VW X G hfa hx (feE h0) bd1 rfl λbase hd bl=>?_;obtain⟨o_raised,o_heads,o_stretches_of,o_steps_at,o_cost_at,o_later_due,o_moved_cost,o_reached,o_behind,o_last_ones,o_length_of,o_refuse_other_costs,o_bound_of,o_cheapest_last,o_without,o_gaps_filled,o_broken_off,o_greatest_bound,o_greatest_plan,o_turned_dues,o_add_piece,o_ranked_plan,o_due_plan,o_feed,o_next,o_cost,o_works,o_far_works,o_wishes,o_costs,o_lheads,o_is_int,o_ends,o_greatest,o_turned,o_due,o_law⟩:=oks (E:=enM l w K xS P mg base) B;have g1:=o_raised ((feE h1).dn X G hx bd4 l w base);have g2:=o_heads ((feE h2).dn X G hx bd2 l w base) g1;have g3:=o_stretches_of ((flE h3).dl X G hx bd3 (.head _) l w hd bl nd rfl) g2;have g4:=o_steps_at ((feE h4).dn X G hx bd2 l w base)
 have g5:=o_cost_at ((feE h5).dn X G hx bd2 l w base) g4;have g6:=o_reached ((feE h6).dn X G hx bd2 l w base);have g7:=o_behind ((feE h7).dn X G hx bd3 l w base) g6;have g8:=o_last_ones ((feE h8).dn X G hx bd3 l w base) g7;have g9:=o_cheapest_last ((flE h9).dl X G hx bd4 (.tail _ (.head _)) l w hd bl nd rfl) g5 g8;have g10:=o_without ((feE h10).dn X G hx bd2 l w base);have g11:=o_gaps_filled ((feE h11).dn X G hx bd4 l w base);have g12:=o_broken_off ((feE h12).dn X G hx bd3 l w base) g3 g9 g10 g11;have g13:=o_length_of ((feE h13).dn X G hx bd2 l w base);have g14:=o_bound_of ((feE h14).dn X G hx bd3 l w base) g2 g5 g8 g13;have g15:=o_greatest_bound ((flE h15).dl X G hx bd3 (.tail _ (.tail _ (.head _))) l w hd bl nd rfl) g14;have g16:=o_greatest_plan ((feE h16).dn X G hx bd2 l w base) g12 g15;have g17:=o_refuse_other_costs ((feE h17).dn X G hx bd2 l w base);have g18:=o_turned_dues ((feE h18).dn X G hx bd2 l w base);have g19:=o_add_piece ((feE h19).dn X G hx bd4 l w base);have g20:=o_ranked_plan ((flE h20).dl X G hx bd3 (.tail _ (.tail _ (.tail _ (.head _)))) l w hd bl nd rfl) g19;have g21:=o_due_plan ((flE h21).dl X G hx bd2 (.tail _ (.tail _ (.tail _ (.tail _ (.head _))))) l w hd bl nd rfl) g2 g17 g18 g20;have g22:=o_feed ((feE h22).dn X G hx bd1 l w base);have g23:=o_next ((feE h23).dn X G hx bd2 l w base);have g24:=o_cost ((feE h24).dn X G hx bd2 l w base) g23;have g25:=o_works ((feE h25).dn X G hx bd4 l w base) g23 g24;have g26:=o_later_due ((feE h26).dn X G hx bd2 l w base);have g27:=o_moved_cost ((feE h27).dn X G hx bd2 l w base) g26;have g28:=o_far_works ((feE h28).dn X G hx bd2 l w base) g27 g23;have g29:=o_wishes ((feE h29).dn X G hx bd2 l w base) g23;have g30:=o_is_int ((feE h30).dn X G hx bd1 l w base);have g31:=o_ends ((feE h31).dn X G hx bd3 l w base) g30;have g32:=o_costs ((feE h32).dn X G hx bd2 l w base);have g33:=o_greatest ((feE h33).dn X G hx bd2 l w base) g32;have g34:=o_lheads ((feE h34).dn X G hx bd2 l w base);have g35:=o_turned ((feE h35).dn X G hx bd2 l w base);have g36:=o_due ((feE h36).dn X G hx bd2 l w base) g34 g35;exact o_law ((feE h0).dn X G hx bd1 l w base) g16 g21 g22 g23 g25 g28 g29 g31 g33 g36
end T26
theorem PySem.Challenge.cw_benchdays_k26_due_plans_holds : PySem.Challenge.rw_benchdays_k26_due_plans.Holds := by
 refine T26.early λK F d hd hdf=>L2.walkL T26.xS (l:=PySem.Challenge.rw_benchdays_k26_due_plans) (n:=63) (k:=18) (F:=T26.gV) rfl 97 hdf ⟨rfl,by decide,by decide,rfl⟩ (by intro x hx;simp only[T26.xS,mem_cons,List.not_mem_nil,or_false]at hx;rcases hx with rfl|rfl|rfl|rfl|rfl<;>exact⟨_,rfl⟩) T26.law_eq (λw h Y=>Y) λw mg fa h c P X G hmg hx=>?_;rw[hd]at hmg;exact T26.all_mk X G hmg hx (F w)
