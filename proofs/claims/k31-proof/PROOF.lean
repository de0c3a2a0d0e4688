import PyProof.Rows.All
import Wide.All
import OpenK.AllK
import Wide.FinOn
import Lean
import PyProof.EqAt
import PyProof.EqKinds
import PyProof.TupleCall
import KE.KSortKey
import PyProof.ListMulRoad
import PyProof.Draws
import PyProof.EnumMake
import PyProof.ListNew
import KE.KRevIter
import KE.KMinKey
import PyProof.TupleKey
import PySem.Challenge.RW_benchdays_k31_whole_names_turned
set_option Elab.async false
set_option linter.all false
set_option maxRecDepth 100000
set_option compiler.extract_closed false
noncomputable section
open PySem.W(Frag fnOf keepIn OpenLaw codeIn)
set_option hygiene false in
local macro_rules | `(tactic| and_intros) => `(tactic| intro ρ σ H hd ls Q d hd' hR hL hm hQ)
open List(mem_cons mem_filter mem_range mem_append nodup_cons of_mem_zip length_drop flatten_cons foldl_cons mem_map all_eq_true mem_singleton mem_iff_getElem? nodup_append ext_getElem? map_snd_zip pairwise_map map_take map_id idxOf_cons nodup_range set_cons_succ set_cons_zero filter_sublist sum_cons length_range filter_eq_nil_iff any_eq_false idxOf_append)
open Option(bind_some isSome_iff_exists isSome_map none_or getD_some)
open Nat(ne_of_gt lt_trans not_lt)
def ij{α β:Type _}{o:Option α}{f:α->Option β}{b:β}(h:o.bind f=some b):∃a,o=some a/\f a=some b:=Option.bind_eq_some_iff.mp h
def ik{α β:Type _}{o:Option α}{f:α->β}{b:β}(h:o.map f=some b):∃a,o=some a/\f a=b:=Option.map_eq_some_iff.mp h
def il:=@if_pos
def ip:=@if_neg
def iq:=@PySem.wpAny_bind
def ir:=@Nat.le_refl
def iu:=@PySem.wpAny_pure
def iw:=@List.mem_cons_of_mem
def iy:=@List.size_toArray
def j3:=@List.map_cons
def j4:=@List.mem_cons_self
def j5:=@List.map_map
def j6:=@Nat.le_trans
def j7:=@List.mem_append_right
def j8:=@if_true
def j9:=@List.mem_filter
def ja:=@List.length_map
def jb:=@Nat.ne_of_lt
def jd:=@List.mem_singleton
def je:=@Option.map_some
def jf:=@List.mem_of_getElem?
def jg:=@List.lookup_cons
def jh:=@PySem.wpAny_mono
def ji:=@List.length_cons
def jj:=@if_false
def jk:=@Nat.lt_of_lt_of_le
def jl:=@Int.toNat_natCast
def jm:=@congrArg
def jo:=@List.length_append
def jq:=@List.append_nil
def jr:=@List.map_nil
def jt:=@PySem.sizeLine_eq
def ju:=@List.filter_sublist
def jv:=@List.mem_append_left
def jw:=@Nat.zero_le
def jx:=@decide_eq_false
def jy:=@PySem.wpAny_holding
def jA:=@of_decide_eq_true
def jB:=@List.map_append
def jC:=@List.nodup_range
def jD:=@Nat.lt_irrefl
def jE:=@List.map_congr_left
def jF:=@Nat.le_of_lt
def jG:=@List.length_nil
def jH:=@List.ne_nil_of_mem
def jI:=@decide_eq_true
def jJ:=@List.append_assoc
def jK:=@List.find?_cons
def jL:=@List.length_take
def jM:=@List.cons_append
def jN:=@PySem.typeIs_int
def jO:=@List.filterMap_cons
def jP:=@List.nil_append
def jQ:=@List.pairwise_map
def jR:=@Nat.le_succ
def jS:=@PySem.wpAny_truthy_bool
def jT:=@of_decide_eq_false
def jV:=@List.any_cons
def jW:=@List.replicate_succ
def jX:=@List.lookup_append
def jY:=@List.filter_cons
def jZ:=@List.length_filter_le
def k3:=@PySem.wpAny_standAt
def k4:=@PySem.wpAny_Call_Name_kw
def k6:=@PySem.call_meets
def k8:=@PySem.plainId_quiet
def k9:=@List.filter_cons_of_pos
def kg:=@Int.le_antisymm
def kh:=@PySem.codeAny_builtin
def ki:=@PyProof.Rows.listUpdate_at
def kj:=@decide_eq_true_eq
def kl:=@List.perm_ext_iff_of_nodup
def ko:=@List.filter_cons_of_neg
def kq:=@PySem.wpAny_passesOwn
def kr:=@PySem.codeAny_mono
def ku:=@PySem.wpAny_newList
def kx:=@List.take_of_length_le
def ky:=@List.pairwise_cons
def kB:=@PyProof.Rows.get?_update_seq
def kC:=@PySem.wpAny_eqBool_int
def kD:=@PySem.wpAny_pyIter_list
def kE:=@PySem.nums_intItems
def kF:=@decide_false
def kG:=@PySem.richCompare_gives
def kH:=@decide_eq_false_iff_not
set_option compiler.extract_closed false
local macro_rules | `(tactic| omega) => `(tactic| first | lia | omega (config := {}))
namespace Ea
open PySem PySem.W
noncomputable def dA(s:Stmt):Arguments:=match s with
 |.FunctionDef _ a _ _ _ _ _ _ _ _=>a
 |_=>{ posonlyargs:=[],args:=[],vararg:=none,kwonlyargs:=[],kw_defaults:=[],kwarg:=none,defaults:=[] }
noncomputable def dB(s:Stmt):List Stmt:=match s with
 |.FunctionDef _ _ b _ _ _ _ _ _ _=>b
 |_=>[]
noncomputable def dS(s:Stmt):Scope:=match s with
 |.FunctionDef _ _ _ _ _ _ sc _ _ _=>sc
 |_=>{ kind:=.function,names:=[],isGenerator:=false,isCoroutine:=false }
noncomputable def tO(o:Obj):Option Addr:=match o.data with
 | .fields vs=>(match (vs[11]?:Option Value)with
  |some (Value.ref P)=>some P
  | _=>none)
 |_=>none
def At(K:Frag)(n:Str)(s:Stmt)(f:Addr)(cd:Value):Prop:=∃oc kV dc pm ct od an sl,nsIn K mainGlobals n=some (some (.ref f))/\K.lookup f=some ⟨oc,od,.func (fnOf n n (dA s) (dB s) (dS s) .none kV dc pm an cd ct),sl⟩/\codeIn K cd n=true/\keepIn K (.ref f)=true
def Fe(K:Frag)(n:Str)(s:Stmt):Prop:=∃f cd,At K n s f cd
def Fl(K:Frag)(n:Str)(s:Stmt)(p:Addr):Prop:=∃f ca ob,At K n s f (.ref ca)/\K.lookup ca=some ob/\tO ob=some p
section
variable{K:Frag}{kV:Value}
def feI(a:nsIn K mainGlobals n=some (some (.ref f)))(l:K.lookup f=some ⟨oc,od,.func (fnOf n n (dA s) (dB s) (dS s) .none kV dc pm an cd ct),sl⟩)(c:codeIn K cd n=true)(k:keepIn K (.ref f)=true):Fe K n s:=⟨f,cd,_,_,_,_,_,_,_,_,a,l,c,k⟩
def flI(a:nsIn K mainGlobals n=some (some (.ref f)))(l:K.lookup f=some ⟨oc,od,.func (fnOf n n (dA s) (dB s) (dS s) .none kV dc pm an cd ct),sl⟩)(c:codeIn K cd n=true)(k:keepIn K (.ref f)=true)(u:cd=.ref ca)(t:K.lookup ca=some ob)(v:tO ob=some p):Fl K n s p:=by
 subst u;exact⟨f,ca,ob,⟨_,_,_,_,_,_,_,_,a,l,c,k⟩,t,v⟩
end
noncomputable abbrev eN:List Str:=["list","tuple","len","range","repr","sum","min","max","abs","all","any","sorted","zip","isinstance","int","bool","str","set","enumerate","reversed","dict"]
def Zs(K:Frag):Prop:=∀n∈eN,nsIn K mainGlobals n=some none
def Zg(K:Frag)(l:List Str):Prop:=∀n∈l,nsIn K mainGlobals n=some none
def zs0{K:Frag}:Zg K []:=λ_ h=>nomatch h
def zs1{K:Frag}(h:nsIn K mainGlobals n=some none)(r:Zg K l):Zg K (n::l):=λm hm=>by
 rcases mem_cons.mp hm with rfl|hm
 .exact h
 .exact r m hm
end Ea
namespace L2
open PySem
noncomputable def gA(nm:Str)(p:Addr×Obj):Bool:=match p.2.data with
 |.cls cd=>cd.name==nm
 |_=>false
def gB(K:Frag)(nm:Str):Option Addr:=(K.find? (gA nm)).map (·.1)
end L2
namespace Hl
open PySem PySem.W PyProof.Rows
noncomputable def QJ(p:Program)(w:World)(m:Nat)(ann:Option Value):Nat->SharedT->Thread->Option SharedT
 |0,_,_=>none
 |n+1,s,t=>match through t with
  |true=>some s
  |false=>match stepOk m ann t with
   |false=>none
   |true=>match stepT (denote treeTable) p w s t with
    |some (s',t')=>QJ p w m ann n s' t'
    |none=>none
theorem P8{m:Nat}:∀{n:Nat} {s s':SharedT} {t:Thread},QJ p w m ann n s t=some s'->topRun treeTable p w m ann n s.abs t=some s'.abs
 |0,_,_,_,h=>by cases h
 |n+1,s,s',t,h=>by
  rw[QJ]at h;rw[topRun];cases h1:through t with
  |true=>rw[h1]at h;cases h;rfl
  |false=>
   rw[h1]at h;cases h2:stepOk m ann t with
   |false=>rw[h2]at h;cases h
   |true=>
    rw[h2]at h;cases h3:stepT (denote treeTable) p w s t with
    |none=>rw[h3]at h;cases h
    |some r=>obtain⟨s2,t2⟩:=r;rw[h3]at h;rw[stepT_spec h3];exact P8 h
noncomputable def Wz:Nat->List Obj->BT->BT
 |_,[],t=>t
 |n,o::r,t=>Wz (n+1) r (t.ins n o)
noncomputable def bT(P:Params):BT:=Wz 0 (boot_heap P).objs.toList .nil
def eL(P:Params):absHeap (bT P) 11 (boot_heap P).life=boot_heap P:=by kernel_rfl
def gq(P:Params):((boot_heap P).isNs mainGlobals,(boot_heap P).nsMap mainGlobals "__annotations__")=(true,some (.ref 6)):=by kernel_rfl
variable{Xt:Shared->Bool}{α:Type}{Yf:Shared->α}{Ya:World->α}{N M:Nat}
def dY(p q:Program)(loose:List Str)(Xt:Shared->Bool)(Yf:Shared->α)(M:Nat)(w:World)(os:OsState):=
 match QJ p w 11 (some (.ref 6)) M ⟨bT w.params,11,(boot_heap w.params).life,Array.mk [],boot_drawn,boot_toks,os⟩ (topStub p)with
 | some s=>(match staticsOk (importedModules p.main.body) (boot_heap w.params) s.abs.heap&&namesBound p s.abs.heap&&gensDone s.abs&&laidKept (boot_heap w.params) s.abs.heap with
  |true=>some (openSeen q loose (importedModules p.main.body) Xt true s.abs,Yf s.abs)
  | false=>none)
 |none=>none
def left(e:opening p=plainProg p.main.scope.names)(f:∀s,fenceModules? p s=some s)(hN:Nat.ble 600 N=true)(hM:Nat.ble M N=true)(h:∀w os,dY p q loose Xt Yf M w os=some (openGood q loose,Ya w)):LeftO p q loose Xt Yf Ya N:=λw=>by
 obtain⟨⟨hp,gs,d,k,os⟩,e1,e2⟩:=ik (boot_open e hN f w);simp only[Prod.mk.injEq]at e2;obtain⟨rfl,rfl,rfl,rfl⟩:=e2;have hl:=h w os;unfold dY at hl;split at hl
 .next s hs=>
  have r:=topRun_mono (N-M) _ _ _ _ (P8 hs);rw[show M+(N-M)=N by have:=Nat.le_of_ble_eq_true hM;omega]at r;have ea:(SharedT.mk (bT w.params) 11 (boot_heap w.params).life (Array.mk []) boot_drawn boot_toks os).abs=⟨boot_heap w.params,Array.mk [],boot_drawn,boot_toks,os⟩:=by
   show Shared.mk (absHeap (bT w.params) 11 (boot_heap w.params).life) _ _ _ _=_;rw[eL]
  rw[ea]at r;obtain⟨z1,z2⟩:=Prod.mk.inj (gq w.params);have z3:(boot_heap w.params).objs.size=11:=rfl;split at hl
  .next c=>
   show((fencedOpening treeTable p w N).bind (topFrom treeTable p w N)).map _=_;rw[e1,bind_some];have t:topFrom treeTable p w N ⟨boot_heap w.params,Array.mk [],boot_drawn,boot_toks,os⟩=some s.abs:=by
    unfold topFrom;dsimp only;rw[z1,z2,z3,r];show(match staticsOk (importedModules p.main.body) (boot_heap w.params) s.abs.heap&&namesBound p s.abs.heap&&gensDone s.abs&&laidKept (boot_heap w.params) s.abs.heap with|true=>some s.abs|false=>none)=_;rw[c]
   rw[t];exact hl
  .cases hl
 .cases hl
end Hl
namespace T31
open PySem PySem.W PyProof.Rows Ea
noncomputable def top(i:Nat):Stmt:=PySem.Challenge.pw_benchdays_k31_whole_names_turned.main.body.getD i (.Pass ⟨0,0,0,0⟩)
def vw:PySem.Program:={ PySem.Challenge.pw_benchdays_k31_whole_names_turned with main:={ PySem.Challenge.pw_benchdays_k31_whole_names_turned.main with body:=[1,2,4,5,7,8,10,11,12,14,15,16,17,19,21,23,24,25,26,27,28,29,30,31,32,34,36,37,38,39,40,41,42,43,44,45,46,47,48,49].map top } }
def S3(K:Frag):Prop:=Zs K/\Fe K "law" (top 49)/\Fe K "raised" (top 7)/\Fe K "heads" (top 8)/\Fe K "steps_at" (top 4)/\Fe K "cost_at" (top 5)/\Fe K "reached" (top 10)/\Fe K "behind" (top 11)/\Fe K "last_ones" (top 12)/\Fe K "length_of" (top 14)/\Fe K "bound_of" (top 19)/\Fe K "_law_feed" (top 36)/\Fe K "_law_next" (top 37)/\Fe K "_law_words" (top 38)/\Fe K "_law_cost" (top 39)/\Fe K "_law_works" (top 40)/\Fe K "_law_wishes" (top 41)/\Fe K "_law_turned" (top 47)/\Fe K "without" (top 24)/\Fe K "gaps_filled" (top 25)/\Fe K "broken_off" (top 26)/\Fe K "greatest_plan" (top 28)/\Fe K "refuse_other_costs" (top 17)/\Fe K "turned_dues" (top 29)/\Fe K "add_piece" (top 30)/\Fe K "same_coming" (top 15)/\Fe K "one_coming" (top 16)/\Fe K "greatest_order" (top 34)/\Fe K "_law_is_int" (top 43)/\Fe K "_law_ends" (top 44)/\Fe K "_law_costs" (top 42)/\Fe K "_law_greatest" (top 45)/\Fe K "_law_run_ends" (top 46)/\Fe K "_law_told_costs" (top 48)/\∃p17 p18 p22 p27 p28,Fl K "stretches_of" (top 21) p17/\Fl K "cheapest_last" (top 23) p18/\Fl K "greatest_bound" (top 27) p22/\Fl K "ranked_plan" (top 31) p27/\Fl K "due_plan" (top 32) p28/\([p17,p18,p22,p27,p28]:List Addr).Nodup
def gZ{K:Frag}{p17 p18 p22 p27 p28:Addr}(z:Zs K)(h0:Fe K "law" (top 49))(h1:Fe K "raised" (top 7))(h2:Fe K "heads" (top 8))(h3:Fe K "steps_at" (top 4))(h4:Fe K "cost_at" (top 5))(h5:Fe K "reached" (top 10))(h6:Fe K "behind" (top 11))(h7:Fe K "last_ones" (top 12))(h8:Fe K "length_of" (top 14))(h9:Fe K "bound_of" (top 19))(h10:Fe K "_law_feed" (top 36))(h11:Fe K "_law_next" (top 37))(h12:Fe K "_law_words" (top 38))(h13:Fe K "_law_cost" (top 39))(h14:Fe K "_law_works" (top 40))(h15:Fe K "_law_wishes" (top 41))(h16:Fe K "_law_turned" (top 47))(h19:Fe K "without" (top 24))(h20:Fe K "gaps_filled" (top 25))(h21:Fe K "broken_off" (top 26))(h23:Fe K "greatest_plan" (top 28))(h24:Fe K "refuse_other_costs" (top 17))(h25:Fe K "turned_dues" (top 29))(h26:Fe K "add_piece" (top 30))(h29:Fe K "same_coming" (top 15))(h30:Fe K "one_coming" (top 16))(h31:Fe K "greatest_order" (top 34))(h32:Fe K "_law_is_int" (top 43))(h33:Fe K "_law_ends" (top 44))(h34:Fe K "_law_costs" (top 42))(h35:Fe K "_law_greatest" (top 45))(h36:Fe K "_law_run_ends" (top 46))(h37:Fe K "_law_told_costs" (top 48))(h17:Fl K "stretches_of" (top 21) p17)(h18:Fl K "cheapest_last" (top 23) p18)(h22:Fl K "greatest_bound" (top 27) p22)(h27:Fl K "ranked_plan" (top 31) p27)(h28:Fl K "due_plan" (top 32) p28)(tn:([p17,p18,p22,p27,p28]:List Addr).Nodup):S3 K:=⟨z,h0,h1,h2,h3,h4,h5,h6,h7,h8,h9,h10,h11,h12,h13,h14,h15,h16,h19,h20,h21,h23,h24,h25,h26,h29,h30,h31,h32,h33,h34,h35,h36,h37,_,_,_,_,_,h17,h18,h22,h27,h28,tn⟩
local macro_rules | `(tactic| o_head $H) => `(tactic| (refine holds_open (r := PySem.Challenge.rw_benchdays_k31_whole_names_turned.row) (q := T31.vw) (loose := []) (Xt := λ s => xlAt T31.vw [] s && recOk (RowW.records (OpenRow.toRowW PySem.Challenge.rw_benchdays_k31_whole_names_turned.row)) s) (XP := XL T31.vw []) (Yf := Hook.obs $H) (Ya := Hook.val $H) (YP := Hook.says $H) (N := 100000) ?hl (Hook.of $H) (Hook.keeps $H) (λ s e => xl_of s (Bool.and_eq_true_iff.mp e).1) XL.keeps (by rfl) (by rfl) (by rfl) (λ s e => recFacts_of (Bool.and_eq_true_iff.mp e).2) (by rfl) (by first | assumption | decide +kernel) (by decide +kernel) ⟨rfl, rfl, rfl, rfl, rfl, by decide +kernel⟩ ?hw ?hc; (case hl => exact Hl.left (M := 10000) (by rfl) (λ s => by rfl) (by decide) (by decide) λ w os => by kernel_rfl)))
set_option maxRecDepth 100000 in
set_option maxHeartbeats 0 in
def early(hG:∀(K:Params->Frag),(∀w:World,S3 (K w.params))->∀d:DefRec,d.name="law"->d.params.defaults=[]->WalkO T31.vw [] (XL T31.vw []) (λw h=>(K w.params).In h) PySem.Challenge.rw_benchdays_k31_whole_names_turned.row.toRowW d [] (λf vs=>PySem.call f vs)):PySem.Challenge.rw_benchdays_k31_whole_names_turned.Holds:=by
 w_on;o_law;k_head;(case hw=>w_witness2)
 k_fill
 refine λw s₀ s₁ mg mb G Y=>hG _ ?F _ rfl rfl w s₀ s₁ mg mb G (km_in_of Y)
 case F=>
  intro w;refine' gZ ?z ?h0 ?h1 ?h2 ?h3 ?h4 ?h5 ?h6 ?h7 ?h8 ?h9 ?h10 ?h11 ?h12 ?h13 ?h14 ?h15 ?h16 ?h19 ?h20 ?h21 ?h23 ?h24 ?h25 ?h26 ?h29 ?h30 ?h31 ?h32 ?h33 ?h34 ?h35 ?h36 ?h37 ?h17 ?h18 ?h22 ?h27 ?h28 ?tn
  case z=>(refine' zs1 _ (zs1 _ (zs1 _ (zs1 _ (zs1 _ (zs1 _ (zs1 _ (zs1 _ (zs1 _ (zs1 _ (zs1 _ (zs1 _ (zs1 _ (zs1 _ (zs1 _ (zs1 _ (zs1 _ (zs1 _ (zs1 _ (zs1 _ (zs1 _ (zs0)))))))))))))))))))))<;>k_is)
  case h0|h1|h2|h3|h4|h5|h6|h7|h8|h9|h10|h11|h12|h13|h14|h15|h16|h19|h20|h21|h23|h24|h25|h26|h29|h30|h31|h32|h33|h34|h35|h36|h37=>(refine' feI ?a ?l ?c ?k;case a|l|c|k=>k_is)
  case h17|h18|h22|h27|h28=>(refine' flI ?a ?l ?c ?k ?u ?t ?v;(case a|l|c|k=>k_is);(case u=>rfl);(case t=>k_is);(case v=>rfl))
  case tn=>decide
end T31
set_option hygiene false in
local macro_rules|`(65)=>`(s.heap.objs.size)|`(66)=>`(ws.length)|`(68)=>`(by omega)|`(69)=>`(List.range)|`(70)=>`(model X.prog X.w)|`(71)=>`(by simp)|`(72)=>`(Heap.get?_push_of_some)|`(73)=>`(List Nat)|`(74)=>`(Nat->Int)|`(75)=>`(List.getElem?_eq_some_iff.mp)|`(76)=>`(Inv X pins σ H s)|`(77)=>`(A0 0)|`(78)=>`(Value->Shared->Prop)|`(79)=>`(List.replicate)|`(82)=>`(by simp;omega)|`(83)=>`(List Value)|`(84)=>`(Heap.lt_size)|`(86)=>`(vs.toArray)|`(87)=>`(Heap.get?_push_size)|`(88)=>`(List Int)|`(89)=>`(x1.trans R1 x2)|`(90)=>`(List (Addr×Obj))|`(92)=>`(scope.names)|`(95)=>`(by decide)|`(96)=>`(xs.length)|`(97)=>`(ds.length)|`(98)=>`(List (Nat×Nat))|`(101)=>`(X.env.qual++"<lambda>")|`(102)=>`(Option.some.inj)|`(106)=>`(Bool.false_ne_true)|`(107)=>`(its.toArray)|`(108)=>`(by kernel_rfl)|`(109)=>`((false,eval e X.env))|`(110)=>`(model prog w)|`(111)=>`(List Addr)|`(112)=>`(vs.length)|`(118)=>`(List D->Hd->Option (D×Hd))|`(119)=>`(.tup (W.map AI))|`(120)=>`(Shared)|`(121)=>`(Ev ws cs W rk h)
set_option hygiene false in
local macro_rules|`(122)=>`(mC (.int 0))|`(123)=>`(Int.le_refl)|`(124)=>`(mC (.int 1))|`(126)=>`(ps.length)|`(127)=>`(cCx X (loc++fr) scope s H ex)|`(128)=>`(Int×Int)|`(129)=>`(its.toArray.size)|`(130)=>`(Str->Option Value)|`(131)=>`(A0 1)|`(132)=>`(.im (AQ ws))|`(133)=>`(by simp[RD,RI])|`(134)=>`(PySem.mem_of_lookup)|`(135)=>`(.int i)|`(136)=>`(.int (k:Int))|`(137)=>`(List D)|`(138)=>`(hL.ext hR x1)|`(141)=>`(x==("__debug__":Str))|`(142)=>`(Obj.mapSeq)|`(143)=>`(s2.heap.objs.size)|`(146)=>`(X.s₀.heap.objs.size)|`(147)=>`(Ac X.env.cells 92 [])|`(149)=>`(starEach es X.env)|`(150)=>`(hd.length)|`(151)=>`(NameKind.free)|`(152)=>`(69 66)|`(153)=>`(A0 2)|`(154)=>`(ns.map PyData.int)|`(155)=>`(List V)|`(156)=>`(X.env.locals)|`(157)=>`(ns.map V.int)|`(158)=>`(.lst xs)|`(159)=>`(Classical.byContradiction)|`(161)=>`(D×Hd)|`(162)=>`(s3.heap.objs.size)|`(163)=>`(CSc X scope fr ix)|`(164)=>`(X.calm=true)|`(165)=>`(NameKind.cell)|`(166)=>`(List.cons.inj)|`(167)=>`(A0 3)|`(168)=>`(Value)
set_option hygiene false in
local macro_rules|`(169)=>`(ns.length)|`(171)=>`(k==151&&env.scope.kind==.function&&env.kindOf n==some .cell)|`(172)=>`(D->Hd->Prop)|`(173)=>`(f1 true B4)|`(174)=>`(List Wg)|`(178)=>`(AO ws)|`(179)=>`(e::es)|`(180)=>`(mOp gIx 131 77)|`(181)=>`(ks.length)|`(182)=>`(Int.le_trans)|`(183)=>`(Nat->Nat)|`(184)=>`(kvs.length)|`(185)=>`(List 128)|`(186)=>`(ma ls hd)|`(187)=>`(.ListComp elt [⟨tg,iter,ifs,0⟩] scope pos)|`(188)=>`(mC (.int 2))|`(189)=>`(s1.heap.objs.size)|`(190)=>`(List Str)|`(191)=>`(EP X pins σ Q)|`(192)=>`(Nat->Cost)
namespace L2
open PySem PySem.Spec PyProof.Rows
noncomputable abbrev Key:=Sum Int Str
noncomputable def IY:Key->Value->Bool
 |.inl k,v=>Value.isInt k v
 |.inr x,v=>Value.isStrOf x v
noncomputable def gW(w:World):Key->Int
 |.inl k=>hashInt k
 |.inr x=>hashStr w x
def Bi:∀{k:Key} {v:168},IY k v=true->(∃i t,k=Sum.inl i/\v=Value.int i t)∨(∃x t,k=Sum.inr x/\v=Value.str x t)
 |.inl i,v,h=>by
  obtain⟨t,e⟩:=Value.isInt_shape (k:=i) (v:=v) h;exact .inl ⟨i,t,rfl,e⟩
 |.inr x,v,h=>by
  obtain⟨t,e⟩:=Value.isStrOf_shape (x:=x) (v:=v) h;exact .inr ⟨x,t,rfl,e⟩
def Tc(i:Int)(t:Tok):IY (.inl i) (.int i t)=true:=by simp[IY,Value.isInt]
def Ta(x:Str)(t:Tok):IY (.inr x) (.str x t)=true:=by simp[IY,Value.isStrOf]
def df(a b:Int):decide ((Sum.inl a:Key)=Sum.inl b)=(a==b):=by
 by_cases e:a=b
 .subst e;simp
 .have h:¬ (Sum.inl a:Key)=Sum.inl b:=λq=>e (Sum.inl.inj q);rw[jx h];exact(beq_eq_false_iff_ne.mpr e).symm
def dZ(a b:Str):decide ((Sum.inr a:Key)=Sum.inr b)=decide (a=b):=by
 by_cases e:a=b
 .subst e;simp
 .have h:¬ (Sum.inr a:Key)=Sum.inr b:=λq=>e (Sum.inr.inj q);rw[jx h,jx e]
def de(a:Int)(b:Str):decide ((Sum.inl a:Key)=Sum.inr b)=false:=jx (λq=>nomatch q)
def da(a:Str)(b:Int):decide ((Sum.inr a:Key)=Sum.inl b)=false:=jx (λq=>nomatch q)
noncomputable def Bn(prog:Program)(w:World):PySem.KeyKind prog w Key where
 is:=IY
 hash:=gW w
 inj:=λv a b ha hb=>by
  rcases Bi ha with⟨i,t,rfl,rfl⟩|⟨x,t,rfl,rfl⟩
  .rcases Bi hb with⟨j,u,rfl,e⟩|⟨y,u,rfl,e⟩
   .injection e with e1 _;rw[e1]
   .exact nomatch e
  .rcases Bi hb with⟨j,u,rfl,e⟩|⟨y,u,rfl,e⟩
   .exact nomatch e
   .injection e with e1 _;rw[e1]
 byValue:=λk v h=>by
  rcases Bi h with⟨i,t,rfl,rfl⟩|⟨x,t,rfl,rfl⟩<;>rfl
 pyHash:=λhv h=>by
  rcases Bi hv with⟨i,t,rfl,rfl⟩|⟨x,t,rfl,rfl⟩
  .exact wpAny_pyHash_int h
  .exact wpAny_pyHash_str h
 eqBool:=λhu hv h=>by
  rcases Bi hu with⟨i,t,rfl,rfl⟩|⟨x,t,rfl,rfl⟩
  .rcases Bi hv with⟨j,u,rfl,rfl⟩|⟨y,u,rfl,rfl⟩
   .rw[df]at h;exact kC h
   .rw[de]at h;exact SeqAt.EqAt.int_str i t y u _ _ _ _ h
  .rcases Bi hv with⟨j,u,rfl,rfl⟩|⟨y,u,rfl,rfl⟩
   .rw[da]at h;exact SeqAt.EqAt.str_int x t j u _ _ _ _ h
   .rw[dZ]at h;exact wpAny_eqBool_str h
 «strs»:=λk x t v h=>by
  rcases Bi h with⟨i,u,rfl,e⟩|⟨y,u,rfl,e⟩
  .exact nomatch e
  .injection e with e1 _
   subst e1;cases v<;>rfl
def Ow(prog:Program)(w:World)(i:Int)(t:Tok):(Bn prog w).is (.inl i) (.int i t)=true:=Tc i t
def Ov(prog:Program)(w:World)(x:Str)(t:Tok):(Bn prog w).is (.inr x) (.str x t)=true:=Ta x t
inductive V where
 |non|bl (b:Bool)|int (i:Int)|str (x:Str)|byt (b:Array UInt8)|flt (b:UInt64)|ref (a:Addr)|ty (n:String)
 deriving DecidableEq
def RelV:V->Value->Prop
 |.non,u=>u=Value.none
 |.bl b,u=>u=Value.bool b
 |.int i,u=>∃t,u=Value.int i t
 |.str x,u=>∃t,u=Value.str x t
 |.byt b,u=>∃t,u=Value.bytes b t
 |.flt b,u=>∃t,u=Value.float b t
 |.ref a,u=>u=Value.ref a
 |.ty n,u=>u=Value.type n
abbrev Vals:List V->List Value->Prop:=Paired RelV
theorem Vals.length{xs:155}{us:83}(r:Vals xs us):96=us.length:=Paired.length r
theorem Vals.get:∀{xs:155} {us:83} {i:Nat} {x:V},Vals xs us->xs[i]?=some x->∃u,us[i]?=some u/\RelV x u
 |_,_,_,_,.nil,e=>by simp at e
 |_,_,0,_,.cons r _,e=>by simp at e;subst e;exact⟨_,rfl,r⟩
 |_,_,i+1,x,.cons _ t,e=>by
  obtain⟨u,h1,h2⟩:=Vals.get (i:=i) (x:=x) t (by simpa using e);exact⟨u,by simpa using h1,h2⟩
theorem Vals.set{x:V}{u:168}(r:RelV x u):∀{xs:155} {us:83} (i:Nat),Vals xs us->Vals (xs.set i x) (us.set i u)
 |_,_,_,.nil=>.nil
 |_,_,0,.cons _ t=>.cons r t
 |_,_,i+1,.cons q t=>.cons q (Vals.set r i t)
def Vals.append{xs ys:155}{us ws:83}(h:Vals xs us)(s:Vals ys ws):Vals (xs++ys) (us++ws):=by
 induction h with
 |nil=>exact s
 |cons r t ih=>exact .cons r ih
theorem Vals.take:∀{xs:155} {us:83} (n:Nat),Vals xs us->Vals (xs.take n) (us.take n)
 |_,_,0,_=>.nil
 |_,_,_+1,.nil=>.nil
 |_,_,n+1,.cons r t=>.cons r (Vals.take n t)
theorem Vals.drop:∀{xs:155} {us:83} (n:Nat),Vals xs us->Vals (xs.drop n) (us.drop n)
 |_,_,0,r=>r
 |_,_,_+1,.nil=>.nil
 |_,_,n+1,.cons _ t=>Vals.drop n t
def RelO:Option V->Option Value->Prop
 |some v,some u=>RelV v u
 |none,none=>True
 |_,_=>False
def KV{κ:Type}:List (κ×V)->List (κ×Value)->Prop:=Paired λ(p:κ×V) (q:κ×Value)=>p.1=q.1/\RelV p.2 q.2
noncomputable def kV:Key->V
 |.inl i=>.int i
 |.inr x=>.str x
inductive HO where
 /-- a list -/
 |lst (xs:155)
 /-- a tuple (never changes) -/
 |tup (xs:155)
 /-- a dict whose keys are ints and texts;one whose keys are tuples of ints and texts (the empty one is both) -/
 |dK (kvs:List (Key×V))|dT (kvs:List (List Key×V))
 /-- a set of ints: its members,its size -/
 |set (S:Int->Bool) (n:Nat)
 /-- an instance of the class at C,its dict at dx,its attributes -/
 |ins (C dx:Addr) (fs:List (Str×V))
 /-- the dict of the instance at x -/
 |own (x:Addr)
 /-- the dict of an exception -/
 |xd (fs:List (Str×V))
 /-- a bound method,f of x -/
 |met (f x:Addr)
 /-- a range object lo,lo+1,.. below hi -/
 |rng (lo hi:Int)
 /-- a thing that is known to the object (the script;a dict while a loop walks it): read,never written while it is so -/
 |frz (o:Obj) (u:HO)
 /-- a code object's table -/
 |tbl (ps:Array Value)
 /-- any other thing,by what is true of its one object (a def of one's own: SetO a S n:=HO.ext λh=>..) -/
 |ext (φ:Heap->Prop)
noncomputable abbrev Hp:=Addr->Option HO
noncomputable def upd(H:Hp)(a:Addr)(o:HO):Hp:=λb=>if b=a then some o else H b
def AH{H:Hp}{a:Addr}{o:HO}:upd H a o a=some o:=by unfold upd;rw[il rfl]
def upd_ne{H:Hp}{a b:Addr}{o:HO}(h:b≠a):upd H a o b=H b:=by unfold upd;rw[ip h]
def fU{H:Hp}{a b:Addr}{o u:HO}(h:H a=some o)(h':H b=some u)(d:o≠u):a≠b:=by
 intro e;subst e;rw[h]at h';exact d (102 h')
def AM{H:Hp}{a b:Addr}{o:HO}(h:H a=some o)(h':H b=none):a≠b:=by
 intro e;subst e;rw[h]at h';cases h'
def IsTupD(h:Heap)(a:Addr)(items:Array Value):Prop:=∃o,h.get? a=some o/\o.cls=.type "tuple"/\(∃n,o.data=.seq items n)/\o.dict=none
def IsTupD.t{h:Heap}{a:Addr}{items:Array Value}(x:IsTupD h a items):IsTup h a items:=let ⟨o,e,c,d,_⟩:=x;⟨o,e,c,d⟩
def IsTupD.new(h:Heap)(items:Array Value):IsTupD (h.push { cls:=.type "tuple",data:=.seq items }) h.objs.size items:=⟨_,87 _ rfl,rfl,⟨_,rfl⟩,rfl⟩
section
variable(P:Program)(w:World)
noncomputable def ObjOk(H:Hp)(h:Heap)(a:Addr):HO->Prop
 |.lst xs=>96<=sizeLine/\∃(its:83) (n:Nat),Vals xs its/\h.get? a=some { cls:=.type "list",data:=.seq 107 n }
 |.tup xs=>96<=sizeLine/\∃its:List Value,Vals xs its/\IsTupD h a 107
 |.dK kvs=>184<=sizeLine/\(a==sysModules)=false/\∃vs,KV kvs vs/\h.DictOf (Bn P w) a vs
 |.dT kvs=>184<=sizeLine/\(a==sysModules)=false/\∃xs:List (List Key×Addr×Value),
  Paired (λ(p:List Key×V) (q:List Key×Addr×Value)=>p.1=q.1/\H q.2.1=some (.tup (p.1.map kV))/\RelV p.2 q.2.2) kvs xs /\
  ∃o es ep,h.get? a=some o/\o.ExactDict/\o.data=.dict es ep/\es.toList=xs.map (entryOfKey (tupleKind (Bn P w)))/\(xs.map (·.1)).Nodup
 |.set S n=>h.SetOf (intKind P w) a S n
 |.ins C dx fs=>H dx=some (.own a)/\fs.length<=1000/\dx≠a/\h.get? a=some (PySem.W.instObj C dx)/\
  ∃mA,h.Ns1 dx mA/\(∀f,RelO (fs.lookup f) (mA f))/\PySem.Within mA (fs.map (·.1))
 |.own _=>∃o,h.get? a=some o
 |.xd fs=>∃mA,h.Ns1 a mA/\∀f,RelO (fs.lookup f) (mA f)
 |.rng lo hi=>∃t u v,h.get? a=some { cls:=.type "range",data:=.fields #[.int lo t,.int hi u,.int 1 v] }
 |.frz o u=>h.get? a=some o/\ObjOk H h a u
 |.tbl ps=>h.get? a=some { cls:=.none,data:=.fields ps }
 |.met f x=>h.get? a=some (PySem.W.methodObj (.ref f) (.ref x))
 |.ext φ=>φ h/\(∃o,h.get? a=some o)/\∀h1 h2:Heap,φ h1->(∀o,h1.get? a=some o->h2.get? a=some o)->φ h2
def HOk(H:Hp)(h:Heap):Prop:=∀a o,H a=some o->ObjOk P w H h a o
end
section
variable{P:Program}{w:World}{H H':Hp}{h h':Heap}{a:Addr}{o:HO}
def ObjOk.lt(x:ObjOk P w H h a o):a<h.objs.size:=by
 cases o with
 |lst xs=>obtain⟨_,_,_,_,e⟩:=x;exact 84 e
 |tup xs=>obtain⟨_,_,_,o,e,_⟩:=x;exact 84 e
 |dK kvs=>obtain⟨_,_,_,_,o,_,_,e,_⟩:=x;exact 84 e
 |dT kvs=>obtain⟨_,_,_,_,o,_,_,e,_⟩:=x;exact 84 e
 |set S n=>obtain⟨o,_,_,_,e,_⟩:=x;exact 84 e
 |ins C dx fs=>obtain⟨_,_,_,e,_⟩:=x;exact 84 e
 |own y=>obtain⟨_,e⟩:=x;exact 84 e
 |xd fs=>obtain⟨_,⟨_,_,_,e,_⟩,_⟩:=x;exact 84 e
 |rng lo hi=>obtain⟨_,_,_,e⟩:=x;exact 84 e
 |frz ob u=>obtain⟨e,_⟩:=x;exact 84 e
 |tbl ps=>exact 84 (show h.get? a=some _ from x)
 |met f y=>exact 84 (show h.get? a=some _ from x)
 |ext φ=>obtain⟨_,⟨_,e⟩,_⟩:=x;exact 84 e
def Paired.mapP{α β:Type}{F G:α->β->Prop}{l₁:List α}{l₂:List β}(h:Paired F l₁ l₂)(f:∀a b,F a b->G a b):Paired G l₁ l₂:=by
 induction h with
 |nil=>exact .nil
 |cons r t ih=>exact .cons (f _ _ r) ih
def ObjOk.stay(x:ObjOk P w H h a o)(k:∀b u,(b=a∨H b=some (.own a))->h.get? b=some u->h'.get? b=some u)
 (ho:∀b,H b=some (.own a)->H' b=some (.own a)) (ht:∀b xs,H b=some (.tup xs)->H' b=some (.tup xs)):ObjOk P w H' h' a o:=by
 induction o with
 |lst xs=>obtain⟨z,its,n,r,e⟩:=x;exact⟨z,its,n,r,k _ _ (.inl rfl) e⟩
 |tup xs=>obtain⟨z,its,r,ob,e,c⟩:=x;exact⟨z,its,r,ob,k _ _ (.inl rfl) e,c⟩
 |dK kvs=>obtain⟨z,y,vs,r,ob,es,ep,e,c⟩:=x;exact⟨z,y,vs,r,ob,es,ep,k _ _ (.inl rfl) e,c⟩
 |dT kvs=>
  obtain⟨z,y,xs,r,ob,es,ep,e,c⟩:=x;exact⟨z,y,xs,Paired.mapP r λp q z=>⟨z.1,ht _ _ z.2.1,z.2.2⟩,ob,es,ep,k _ _ (.inl rfl) e,c⟩
 |set S n=>obtain⟨ob,es,ep,t,e,c⟩:=x;exact⟨ob,es,ep,t,k _ _ (.inl rfl) e,c⟩
 |ins C dx fs=>
  obtain⟨d,z,ne,e,mA,⟨od,es,ep,e2,c⟩,r⟩:=x;exact⟨ho _ d,z,ne,k _ _ (.inl rfl) e,mA,⟨od,es,ep,k _ _ (.inr d) e2,c⟩,r⟩
 |own y=>obtain⟨ob,e⟩:=x;exact⟨ob,k _ _ (.inl rfl) e⟩
 |xd fs=>obtain⟨mA,⟨od,es,ep,e,c⟩,r⟩:=x;exact⟨mA,⟨od,es,ep,k _ _ (.inl rfl) e,c⟩,r⟩
 |rng lo hi=>obtain⟨t,u,v,e⟩:=x;exact⟨t,u,v,k _ _ (.inl rfl) e⟩
 |frz ob u ih=>obtain⟨e,q⟩:=x;exact⟨k _ _ (.inl rfl) e,ih q⟩
 |tbl ps=>
  have e:h.get? a=some { cls:=.none,data:=.fields ps }:=x;show h'.get? a=some { cls:=.none,data:=.fields ps };exact k a _ (.inl rfl) e
 |met f y=>
  have e:h.get? a=some (PySem.W.methodObj (.ref f) (.ref y)):=x;show h'.get? a=some (PySem.W.methodObj (.ref f) (.ref y));exact k a _ (.inl rfl) e
 |ext φ=>obtain⟨p,⟨o,e⟩,st⟩:=x;exact⟨st _ _ p λo q=>k _ _ (.inl rfl) q,⟨o,k _ _ (.inl rfl) e⟩,st⟩
theorem HOk.lt(x:HOk P w H h)(e:H a=some o):a<h.objs.size:=(x a o e).lt
def HOk.fresh(x:HOk P w H h)(e:h.objs.size<=a):H a=none:=by
 cases q:H a with
 |none=>rfl
 |some u=>exact absurd (jk (x.lt q) e) (jD _)
def HOk.kept(x:HOk P w H h)(k:∀b u,h.get? b=some u->h'.get? b=some u):HOk P w H h':=λa o e=>
 (x a o e).stay (λb u _ q=>k b u q) (λ_ q=>q) λ_ _ q=>q
def HOk.laid(x:HOk P w H h)(k:∀b u,h.get? b=some u->h'.get? b=some u)(hp:h.objs.size<=a)(new:ObjOk P w (upd H a o) h' a o):HOk P w (upd H a o) h':=λb u e=>by
 have hn:=x.fresh hp;by_cases hb:b=a
 .subst hb;rw[AH]at e;cases e;exact new
 .rw[upd_ne hb]at e;exact(x b u e).stay (λc v _ q=>k c v q) (λc q=>by rw[upd_ne (AM q hn)];exact q) λc xs q=>by rw[upd_ne (AM q hn)];exact q
end
def Rd(H:Hp)(a:Addr)(u:HO):Prop:=H a=some u∨∃o,H a=some (.frz o u)
def Rd.ok{P:Program}{w:World}{H:Hp}{h:Heap}{a:Addr}{u:HO}(r:Rd H a u)(x:HOk P w H h):ObjOk P w H h a u:=by
 rcases r with r|⟨o,r⟩
 .exact x a u r
 .obtain⟨_,q⟩:=x a _ r;exact q
def Mut:Option HO->Prop
 |some (.lst _)=>True
 |some (.dK _)=>True
 |some (.dT _)=>True
 |some (.set _ _)=>True
 |some (.ins _ _ _)=>True
 |some (.ext _)=>True
 |_=>False
section
variable{P:Program}{w:World}{H:Hp}{h h':Heap}{x e:Addr}{o':HO}
def HOk.write(ok:HOk P w H h)(mu:Mut (H x))(he:e=x∨H e=some (.own x))(k:∀b u,b≠e->h.get? b=some u->h'.get? b=some u)(heo:∃u,h'.get? e=some u)
 (new:ObjOk P w (upd H x o') h' x o'):HOk P w (upd H x o') h':=λb u q=>by
 have nown:∀c y,H c=some (.own y)->c≠x:=λc y r z=>by subst z;rw[r]at mu;exact mu
 have ntup:∀c xs,H c=some (.tup xs)->c≠x:=λc xs r z=>by subst z;rw[r]at mu;exact mu
 by_cases hb:b=x
 .subst hb;rw[AH]at q;cases q;exact new
 .rw[upd_ne hb]at q;by_cases hbe:b=e
  .have q':H b=some (.own x):=by
    rcases he with z|z
    .exact absurd (hbe.trans z) hb
    .rw[hbe];exact z
   rw[q]at q';cases q';obtain⟨v,hv⟩:=heo;exact⟨v,by rw[hbe];exact hv⟩
  .refine(ok b u q).stay (λc v hc r=>k c v ?_ r) (λc r=>by rw[upd_ne (nown c b r)];exact r) λc xs r=>by rw[upd_ne (ntup c xs r)];exact r
   rcases hc with rfl|hc
   .exact hbe
   .rintro rfl;rcases he with z|z
    .exact nown c b hc z
    .rw[hc]at z;cases z;exact hb rfl
end
structure Un(fs ex:111)(H H':Hp)(h h':Heap):Prop where
 keep:∀b o,h.get? b=some o->H b=none->b∉fs->b∉ex->h'.get? b=some o
 slot:∀b o,h.get? b=some o->H b=none->b∈fs->b∉ex->∃sl,h'.get? b=some { o with slots:=sl }
 free:∀b o,h.get? b=some o->H b=none->b∉ex->H' b=none
 there:∀b o,h.get? b=some o->b∉ex->∃o',h'.get? b=some o'
 tups:∀b xs,H b=some (.tup xs)->H' b=some (.tup xs)
 frzs:∀b o u,H b=some (.frz o u)->H' b=some (.frz o u)
 tbls:∀b ps,H b=some (.tbl ps)->∃more,H' b=some (.tbl (ps++more))
section
variable{fs fs' ex ex':111}{H H1 H2:Hp}{h h1 h2 h':Heap}{a x e:Addr}{o:HO}
def Un.any(u:Un fs ex H H1 h h1){b:Addr}{ob:Obj}(q:h.get? b=some ob)(n:H b=none)(hx:b∉ex):∃sl,h1.get? b=some { ob with slots:=sl }:=by
 by_cases hb:b∈fs
 .exact u.slot b ob q n hb hx
 .exact⟨ob.slots,u.keep b ob q n hb hx⟩
def Un.kept(k:∀b u,h.get? b=some u->h'.get? b=some u):Un fs ex H H h h':=
 ⟨λb ob q _ _ _=>k b ob q,λb ob q _ _ _=>⟨ob.slots,k b ob q⟩,λ_ _ _ n _=>n,λb ob q _=>⟨ob,k b ob q⟩,λ_ _ q=>q,λ_ _ _ q=>q,λ_ ps q=>⟨#[],by rw[q];simp⟩⟩
def Un.refl:Un fs ex H H h h:=Un.kept λ_ _ q=>q
def Un.laid(k:∀b u,h.get? b=some u->h'.get? b=some u)(hp:h.objs.size<=a)(hn:H a=none):Un fs ex H (upd H a o) h h' where
 keep:=λb u q _ _ _=>k b u q
 slot:=λb u q _ _ _=>⟨u.slots,k b u q⟩
 free:=λb u q n _=>by rw[upd_ne (jb (jk (Heap.lt_size q) hp))];exact n
 there:=λb u q _=>⟨u,k b u q⟩
 tups:=λb xs q=>by rw[upd_ne (AM q hn)];exact q
 frzs:=λb u xs q=>by rw[upd_ne (AM q hn)];exact q
 tbls:=λb ps q=>⟨#[],by rw[upd_ne (AM q hn),q];simp⟩
def Un.write(mu:Mut (H x))(he:e=x∨H e=some (.own x))(k:∀b u,b≠e->h.get? b=some u->h'.get? b=some u)(heo:∃u,h'.get? e=some u):Un fs ex H (upd H x o) h h':=by
 have hx:∀b,H b=none->b≠x:=λb n z=>by subst z;rw[n]at mu;exact mu
 have hb:∀b,H b=none->b≠e:=λb n z=>by
  subst z;rcases he with r|r
  .exact hx b n r
  .rw[n]at r;cases r
 have hm:∀b u,H b=some u->¬ Mut (some u)->b≠x:=λb u q nm z=>by subst z;rw[q]at mu;exact nm mu
 refine⟨λb u q n _ _=>k b u (hb b n) q,λb u q n _ _=>⟨u.slots,k b u (hb b n) q⟩,λb u q n _=>by rw[upd_ne (hx b n)];exact n,λb u q _=>?_,
  λb xs q=>by rw[upd_ne (hm b _ q λz=>z)];exact q,λb u xs q=>by rw[upd_ne (hm b _ q λz=>z)];exact q,λb ps q=>⟨#[],by rw[upd_ne (hm b _ q λz=>z),q];simp⟩⟩
 by_cases hbe:b=e
 .subst hbe;exact heo
 .exact⟨u,k b u hbe q⟩
end
noncomputable def trk(h:Heap)(H:Hp):List Addr:=(69 h.objs.size).filter λa=>(H a).isSome
noncomputable def Gm(h:Heap)(H:Hp):Heap:=PySem.W.hideAll h (trk h H)
def Tf(h:Heap)(H:Hp):(Gm h H).objs.size=h.objs.size:=PySem.W.hideAll_size _ _
def WK{h:Heap}{H:Hp}{b:Addr}{o:Obj}(e:h.get? b=some o)(n:H b=none):(Gm h H).get? b=some o:=
 PySem.W.hideAll_get _ e λhm=>by
  have q:(H b).isSome=true:=(mem_filter.mp hm).2;rw[n]at q;simp at q
def ZZ{h:Heap}{H:Hp}{b:Addr}{o:Obj}(e:(Gm h H).get? b=some o):h.get? b=some o/\H b=none:=by
 have e':h.get? b=some o:=PySem.W.of_hideAll (trk h H) e;refine⟨e',?_⟩;cases q:H b with
 |none=>rfl
 |some x=>
  have hm:b∈trk h H:=mem_filter.mpr ⟨mem_range.mpr (84 e'),by simp[q]⟩;have z:(Gm h H).get? b=none:=PySem.W.hideAll_none (trk h H) hm;rw[z]at e;cases e
structure Mod(K:Frag)(mg:130)(base:Heap):Prop where
 kin:K.In base
 glob:base.Ns mainGlobals mg
 blt:∃mb,base.Ns builtinsNs mb/\∀x:Str,x≠"__name__"->mb x=bootBuiltins x
 nolimit:base.NoLimit
structure Cx where
 prog:Program
 w:World
 K:Frag
 mg:Str->Option Value
 base:Heap
 A:Around
 N:List Str
 s₀:Shared
 H₀:Hp
 env:Env
 outer:List Env
 stack:List Env
 ex:List Addr
 fn:Str->Bool
 calm:Bool
 pn:List (Addr×Obj)
 xe:Value->Shared->Prop
noncomputable def frs(l:List Env):List Addr:=l.filterMap (·.frame)
abbrev Cx.fs(X:Cx):List Addr:=frs X.outer
def Vis(sc:Scope)(x:Str):Prop:=sc.names.lookup x=some .local∨sc.names.lookup x=some .cell∨sc.names.lookup x=some .free
def Loc(sc:Scope)(x:Str):Prop:=sc.names.lookup x=some .local∨sc.names.lookup x=some .cell
def gy(env:Env)(h:Heap)(m:130)(x:Str)(u:168):Prop:=
 (env.kindOf x=some .local/\m x=some u)∨((env.kindOf x=some .cell∨env.kindOf x=some .free)/\∃c,env.cells.lookup x=some c/\h.IsCell c (some u))
structure Cx.Ok(X:Cx):Prop where
 mod:Mod X.K X.mg X.base
 kind:X.env.scope.kind=.function
 glob:X.env.globals=mainGlobals
 blt:X.env.builtins=builtinsNs
 above:146<=156
 inj:∀x y c,X.env.cells.lookup x=some c->X.env.cells.lookup y=some c->x=y
 has:∀x,(X.env.kindOf x=some .cell∨X.env.kindOf x=some .free)->∃c,X.env.cells.lookup x=some c
 cab:∀x c,X.fn x=true->X.env.cells.lookup x=some c->146<=c
 hd:X.calm=true->X.A.handled=none
 frames:X.A.frames=some X.stack
 stk:X.stack=X.outer∨(X.stack=X.env::X.outer/\X.env.frame=some 156)
 exf:∀b∈X.ex,b≠156/\∀x c,X.env.cells.lookup x=some c->c≠b
 bs:∀b o,X.base.get? b=some o->X.s₀.heap.get? b=some o/\X.H₀ b=none
 bsz:X.base.objs.size<=146
 noex:∀b o,X.base.get? b=some o->b∉X.ex
 exfs:∀b∈X.ex,b∉X.fs
 funs:X.s₀.heap.FunFrames X.base X.outer
 frf:∀b∈X.fs,X.H₀ b=none
structure Inv(X:Cx)(pins:90)(σ:List (Option V))(H:Hp)(s:120):Prop where
 ok:X.Ok
 os:s.os=X.s₀.os
 bare:AllBare s.gens
 base:Un X.fs X.ex X.H₀ H X.s₀.heap s.heap
 loc:∃m,s.heap.Ns 156 m/\∀(i:Nat) (x:Str) (v:V),X.N[i]?=some x->σ[i]?=some (some v)->Vis X.env.scope x->∃u,RelV v u/\gy X.env s.heap m x u
 cell:∀x c,X.env.cells.lookup x=some c->∃v,s.heap.IsCell c v
 free:H 156=none
 freeC:∀x c,X.env.cells.lookup x=some c->H c=none
 pin:∀p∈X.pn++pins,s.heap.get? p.1=some p.2/\H p.1=none/\p.1≠156/\p.1∉X.fs/\∀v,p.2.data≠.cell v
 hok:HOk X.prog X.w H s.heap
 len:σ.length=X.N.length
section
variable{X:Cx}{pins:90}{σ:List (Option V)}{H H':Hp}{s:120}{h':Heap}
def Cx.Ok.nofr(ok:X.Ok){b:Addr}{o:Obj}(e:X.base.get? b=some o):b∉X.fs:=λhb=>by
 have:=(ok.funs.mem hb).1;rw[e]at this;cases this
theorem Inv.bs(I:76):∀b o,X.base.get? b=some o->s.heap.get? b=some o/\H b=none:=λb o e=>
 ⟨I.base.keep b o (I.ok.bs b o e).1 (I.ok.bs b o e).2 (I.ok.nofr e) (I.ok.noex b o e),I.base.free b o (I.ok.bs b o e).1 (I.ok.bs b o e).2 (I.ok.noex b o e)⟩
def Inv.bk(I:76):∀b o,X.base.get? b=some o->s.heap.get? b=some o:=λb o e=>(I.bs b o e).1
theorem Inv.mod(I:76):Mod X.K X.mg X.base:=I.ok.mod
def Inv.kIn(I:76):X.K.In s.heap:=I.ok.mod.kin.keeps I.bk
theorem Inv.nolimit(I:76):s.heap.NoLimit:=I.ok.mod.nolimit.keeps I.bk
theorem Inv.lt(I:76):156<s.heap.objs.size:=let ⟨_,hn,_⟩:=I.loc;hn.lt
def Inv.sz(I:76):146<=s.heap.objs.size:=j6 I.ok.above (jF I.lt)
def Inv.nofs(I:76){a:Addr}(h:65<=a):a∉X.fs:=λhb=>by
 obtain⟨_,o,ho,_⟩:=I.ok.funs.mem hb;exact absurd (jk (84 ho) (j6 I.sz h)) (jD _)
def Inv.cne(I:76):∀x c,X.env.cells.lookup x=some c->c≠X.env.locals:=λx c e z=>by
 obtain⟨v,o,ho,hd⟩:=I.cell x c e;obtain⟨m,⟨o',es,ep,ho',hd',_⟩,_⟩:=I.loc;rw[z,ho']at ho;cases ho;rw[hd']at hd;cases hd
theorem Inv.funs(I:76):s.heap.FunFrames X.base X.outer:=by
 have all:∀(l:List Env),(∀b∈frs l,b∈X.fs)->X.s₀.heap.FunFrames X.base l->s.heap.FunFrames X.base l:=by
  intro l
  induction l with
  |nil=>intro _ _;trivial
  |cons env r ih=>
   intro hs hl;obtain⟨hk,⟨L,o,hf,hn,ho,hd⟩,hr⟩:=hl;have hL:L∈X.fs:=hs L (by unfold frs;rw[jO,hf];exact j4);obtain⟨sl,e⟩:=I.base.slot L o ho (I.ok.frf L hL) hL λz=>I.ok.exfs L z hL;exact⟨hk,⟨L,_,hf,hn,e,hd⟩,ih (λb hb=>hs b (by unfold frs;rw[jO,hf];exact iw _ hb)) hr⟩
 exact all X.outer (λ_ hb=>hb) I.ok.funs
theorem Inv.stack(I:76):s.heap.FunFrames X.base X.stack:=by
 rcases I.ok.stk with e|⟨e,hf⟩
 .rw[e];exact I.funs
 .rw[e];obtain⟨m,hn,_⟩:=I.loc;refine .cons (by rw[I.ok.kind];decide) hf hn ?_ I.funs;exact Heap.get?_none_of_le (j6 I.ok.bsz I.ok.above)
def Inv.stkSub(I:76):∀b∈frs X.stack,b∈156::X.fs:=λb hb=>by
 rcases I.ok.stk with e|⟨e,hf⟩
 .rw[e]at hb;exact iw _ hb
 .rw[e]at hb;unfold frs at hb;rw[jO,hf]at hb;exact hb
def Inv.stkFree(I:76):∀b∈frs X.stack,H b=none:=λb hb=>by
 rcases mem_cons.mp (I.stkSub b hb)with e|hb
 .rw[e];exact I.free
 .obtain⟨_,o,ho,_⟩:=I.ok.funs.mem hb;exact I.base.free b o ho (I.ok.frf b hb) λz=>I.ok.exfs b z hb
def Inv.step{g':Array GenState}{t':Nat}{d':Drawn}{ch:111}(I:76)
 (hch:∀b∈ch,(b∈X.ex∨146<=b)/\b≠156/\(∀x c,X.env.cells.lookup x=some c->c≠b)/\∀p∈X.pn++pins,p.1≠b)
 (keep:∀b o,b≠156->b∉X.fs->b∉ch->s.heap.get? b=some o->H b=none->h'.get? b=some o)
 (slot:∀b o,b≠156->b∈X.fs->b∉ch->s.heap.get? b=some o->H b=none->∃sl,h'.get? b=some { o with slots:=sl }) (free:∀b o,b∉ch->s.heap.get? b=some o->H b=none->H' b=none)
 (there:∀b o,b∉ch->s.heap.get? b=some o->∃o',h'.get? b=some o')
 (tups:∀b xs,H b=some (.tup xs)->H' b=some (.tup xs)) (frzs:∀b o u,H b=some (.frz o u)->H' b=some (.frz o u)) (tbls:∀b ps,H b=some (.tbl ps)->∃more,H' b=some (.tbl (ps++more)))
 (ns:∀m,s.heap.Ns 156 m->h'.Ns 156 m) (hok:HOk X.prog X.w H' h') (hg:AllBare g'):
 Inv X pins σ H' { s with heap:=h',gens:=g',drawn:=d',toks:=t' }:=by
 have neL:∀b o,X.s₀.heap.get? b=some o->b≠X.env.locals:=λb o e=>jb (jk (84 e) I.ok.above);have neC:∀b o,X.s₀.heap.get? b=some o->b∉X.ex->b∉ch:=λb o e hx hb=>by
  rcases(hch b hb).1 with z|z
  .exact hx z
  .exact absurd (jk (84 e) z) (jD _)
 have cellK:∀x c,X.env.cells.lookup x=some c->∀v,s.heap.IsCell c v->h'.IsCell c v:=λx c e v ⟨o,ho,hd⟩=>by
  have nch:c∉ch:=λz=>(hch c z).2.2.1 x c e rfl;by_cases hc:c∈X.fs
  .obtain⟨sl,q⟩:=slot c o (I.cne x c e) hc nch ho (I.freeC x c e);exact⟨_,q,hd⟩
  .exact⟨o,keep c o (I.cne x c e) hc nch ho (I.freeC x c e),hd⟩
 refine⟨I.ok,I.os,hg,⟨λb o e n hb hx=>?_,λb o e n hb hx=>?_,λb o e n hx=>?_,λb o e hx=>?_,λb xs e=>tups b xs (I.base.tups b xs e),λb o xs e=>frzs b o xs (I.base.frzs b o xs e),λb ps e=>?_⟩,?_,λx c e=>?_,?_,λx c e=>?_,λp hp=>?_,hok,I.len⟩
 .exact keep b o (neL b o e) hb (neC b o e hx) (I.base.keep b o e n hb hx) (I.base.free b o e n hx)
 .obtain⟨sl,e1⟩:=I.base.slot b o e n hb hx;obtain⟨sl',e2⟩:=slot b _ (neL b o e) hb (neC b o e hx) e1 (I.base.free b o e n hx);exact⟨sl',e2⟩
 .obtain⟨o',e1⟩:=I.base.there b o e hx;exact free b o' (neC b o e hx) e1 (I.base.free b o e n hx)
 .obtain⟨o',e1⟩:=I.base.there b o e hx;exact there b o' (neC b o e hx) e1
 .obtain⟨m1,e1⟩:=I.base.tbls b ps e;obtain⟨m2,e2⟩:=tbls b _ e1;exact⟨m1++m2,by rw[e2,Array.append_assoc]⟩
 .obtain⟨m,hn,hl⟩:=I.loc;refine⟨m,ns m hn,λi x v e1 e2 e3=>?_⟩;obtain⟨u,r,l⟩:=hl i x v e1 e2 e3;refine⟨u,r,?_⟩;rcases l with l|⟨k,c,e,z⟩
  .exact .inl l
  .exact .inr ⟨k,c,e,cellK x c e _ z⟩
 .obtain⟨v,z⟩:=I.cell x c e;exact⟨v,cellK x c e v z⟩
 .obtain⟨m,⟨o,_,_,ho,_⟩,_⟩:=I.loc;exact free _ o (λz=>(hch _ z).2.1 rfl) ho I.free
 .obtain⟨v,o,ho,hd⟩:=I.cell x c e;exact free c o (λz=>(hch c z).2.2.1 x c e rfl) ho (I.freeC x c e)
 .obtain⟨e,n,ne,nf,d⟩:=I.pin p hp;have nch:p.1∉ch:=λz=>(hch p.1 z).2.2.2 p hp rfl;exact⟨keep p.1 p.2 ne nf nch e n,free p.1 p.2 nch e n,ne,nf,d⟩
def Inv.un{t':Nat}(I:76)(u:Un X.fs [] H H' s.heap h')(hok:HOk X.prog X.w H' h'):Inv X pins σ H' { s with heap:=h',toks:=t' }:=by
 obtain⟨m,⟨o,es,ep,ho,r⟩,_⟩:=id I.loc;obtain⟨sl,hL⟩:=u.any ho I.free 71;exact I.step (g':=s.gens) (d':=s.drawn) (ch:=[]) (λ_ z=>nomatch z) (λb o _ hb _ e n=>u.keep b o e n hb 71) (λb o _ hb _ e n=>u.slot b o e n hb 71) (λb o _ e n=>u.free b o e n 71) (λb o _ e=>u.there b o e 71) u.tups u.frzs u.tbls (λm' hm=>by
  obtain⟨o',es',ep',ho',r'⟩:=hm;rw[ho]at ho';cases ho';exact⟨_,es',ep',hL,r'⟩) hok I.bare
def Inv.call{g':Array GenState}{t':Nat}{d':Drawn}{ch:111}(I:76)(u:Un (frs X.stack) ch H H' s.heap h')(hok:HOk X.prog X.w H' h')(hg:AllBare g')
 (hch:∀b∈ch,(b∈X.ex∨146<=b)/\b≠156/\(∀x c,X.env.cells.lookup x=some c->c≠b)/\∀p∈X.pn++pins,p.1≠b):
 Inv X pins σ H' { s with heap:=h',gens:=g',drawn:=d',toks:=t' }:=by
 obtain⟨m,⟨o,es,ep,ho,r⟩,_⟩:=id I.loc;obtain⟨sl,hL⟩:=u.any ho I.free λz=>(hch _ z).2.1 rfl;exact I.step (ch:=ch) hch (λb o hL hb hc e n=>u.keep b o e n (λz=>(mem_cons.mp (I.stkSub b z)).elim hL hb) hc) (λb o _ _ hc e n=>u.any e n hc) (λb o hc e n=>u.free b o e n hc) (λb o hc e=>u.there b o e hc) u.tups u.frzs u.tbls (λm' hm=>by
  obtain⟨o',es',ep',ho',r'⟩:=hm;rw[ho]at ho';cases ho';exact⟨_,es',ep',hL,r'⟩) hok hg
def Inv.turned{t':Nat}{it:Addr}(I:76)(k:∀b o,b≠it->s.heap.get? b=some o->h'.get? b=some o)(hn:H it=none)(hL:it≠156)
 (h1:it∈X.ex∨146<=it) (h2:∀x c,X.env.cells.lookup x=some c->c≠it) (h3:∀p∈X.pn++pins,p.1≠it):Inv X pins σ H { s with heap:=h',toks:=t' }:=by
 have nit:∀b u,H b=some u->b≠it:=λb u e z=>by rw[z,hn]at e;cases e
 refine I.step (g':=s.gens) (d':=s.drawn) (ch:=[it]) (λb hb=>?_) (λb o _ _ hc e _=>k b o (λz=>hc (by simp[z])) e) (λb o _ _ hc e _=>⟨o.slots,k b o (λz=>hc (by simp[z])) e⟩) (λ_ _ _ _ n=>n)
  (λb o hc e=>⟨o,k b o (λz=>hc (by simp[z])) e⟩) (λ_ _ e=>e) (λ_ _ _ e=>e) (λb ps e=>⟨#[],by rw[e];simp⟩) (λm hm=>?_) (λb u e=>?_) I.bare
 .have e:b=it:=by simpa using hb
  subst e;exact⟨h1,hL,h2,h3⟩
 .obtain⟨o,es,ep,ho,r⟩:=hm;exact⟨o,es,ep,k _ o (Ne.symm hL) ho,r⟩
 .refine(I.hok b u e).stay (λc v hc q=>k c v ?_ q) (λ_ q=>q) λ_ _ q=>q;rcases hc with z|z
  .rw[z];exact nit b u e
  .exact nit c _ z
def Inv.tok(I:76)(t:Nat):Inv X pins σ H { s with toks:=t }:=I.un (h':=s.heap) (t':=t) Un.refl I.hok
theorem Inv.kept{t':Nat}(I:76)(k:∀b u,s.heap.get? b=some u->h'.get? b=some u):Inv X pins σ H { s with heap:=h',toks:=t' }:=I.un (Un.kept k) (I.hok.kept k)
theorem Inv.laid{a:Addr}{o:HO}{t':Nat}(I:76)(k:∀b u,s.heap.get? b=some u->h'.get? b=some u)(hp:65<=a)(new:ObjOk X.prog X.w (upd H a o) h' a o):
 Inv X pins σ (upd H a o) { s with heap:=h',toks:=t' }:=I.un (Un.laid k hp (I.hok.fresh hp)) (I.hok.laid k hp new)
theorem Inv.write{x e:Addr}{o:HO}{t':Nat}(I:76)(mu:Mut (H x))(he:e=x∨H e=some (.own x))(k:∀b u,b≠e->s.heap.get? b=some u->h'.get? b=some u)(heo:∃u,h'.get? e=some u)
 (new:ObjOk X.prog X.w (upd H x o) h' x o):Inv X pins σ (upd H x o) { s with heap:=h',toks:=t' }:=I.un (Un.write mu he k heo) (I.hok.write mu he k heo new)
def Inv.pins_of{pins':90}(I:76)(h:∀p∈pins',s.heap.get? p.1=some p.2/\H p.1=none/\p.1≠156/\p.1∉X.fs/\∀v,p.2.data≠.cell v):Inv X pins' σ H s:=
 ⟨I.ok,I.os,I.bare,I.base,I.loc,I.cell,I.free,I.freeC,λp hp=>(mem_append.mp hp).elim (λz=>I.pin p (jv _ z)) (h p),I.hok,I.len⟩
def Nz{N:190}(hN:N.Nodup){i j:Nat}{x:Str}(a:N[i]?=some x)(b:N[j]?=some x):i=j:=by
 obtain⟨h1,e1⟩:=75 a;obtain⟨h2,e2⟩:=75 b;exact(List.getElem_inj hN).mp (e1.trans e2.symm)
def Lr{M:Model}{A:Around}{E:78}{i:Nat}{x:Str}{v:V}{u:168}{Q:Unit->Shared->Prop}(I:76)(hN:X.N.Nodup)(hi:X.N[i]?=some x)(hx:Loc X.env.scope x)(r:RelV v u)
 (h:∀s',Inv X pins (σ.set i (some v)) H s'->(∃a,Heap.SameBut a s.heap s'.heap/\(a=156∨X.env.cells.lookup x=some a))->Q () s') (hf:X.fn x=true∨X.env.scope.names.lookup x=some .local:=by first|exact .inl rfl|exact .inr rfl|assumption):wpAny M A (storeName X.env x u) Q E s:=by
 obtain⟨m,hn,hl⟩:=id I.loc;have hcls:(X.env.scope.kind==.class||(X.env.scope.kind==.module&&X.env.locals != X.env.globals))=false:=by rw[I.ok.kind];rfl
 have hiσ:i<σ.length:=by rw[I.len];exact(75 hi).1
 have cne:=I.cne;have tracked:∀{a:Addr} {h':Heap},(∃o,s.heap.get? a=some o/\H a=none)->Heap.SameBut a s.heap h'->HOk X.prog X.w H h':=λ{a h'} ha hs b ob e=>by
  obtain⟨_,_,hfree⟩:=ha;refine(I.hok b ob e).stay (λc w' hc q=>(hs.2 c ?_).trans q) (λ_ q=>q) λ_ _ q=>q;rintro rfl;rcases hc with rfl|hc
  .rw[hfree]at e;cases e
  .rw[hfree]at hc;cases hc
 rcases hx with hk|hk
 .refine wpAny_storeName_local hk hn (λh' hn' hs=>?_) hcls;obtain⟨oL,_,_,hoL,_⟩:=id hn;refine h _ ⟨I.ok,I.os,I.bare,⟨λb o e n hb hx=>?_,λb o e n hb hx=>?_,I.base.free,λb o e hx=>?_,I.base.tups,I.base.frzs,I.base.tbls⟩,⟨_,hn',λj y v' e1 e2 e3=>?_⟩,λy c e=>?_,I.free,I.freeC,λp hp=>?_,tracked ⟨oL,hoL,I.free⟩ hs,by simpa using I.len⟩ ⟨_,hs,.inl rfl⟩
  .exact(hs.2 b (jb (jk (84 e) I.ok.above))).trans (I.base.keep b o e n hb hx)
  .obtain⟨sl,e1⟩:=I.base.slot b o e n hb hx;exact⟨sl,(hs.2 b (jb (jk (84 e) I.ok.above))).trans e1⟩
  .obtain⟨o',e1⟩:=I.base.there b o e hx;exact⟨o',(hs.2 b (jb (jk (84 e) I.ok.above))).trans e1⟩
  .by_cases hj:j=i
   .subst hj;rw[hi]at e1;cases e1;rw[List.getElem?_set_self hiσ]at e2;cases e2;exact⟨u,r,.inl ⟨hk,by simp⟩⟩
   .rw[List.getElem?_set_ne (Ne.symm hj)]at e2;obtain⟨u',r',q⟩:=hl j y v' e1 e2 e3;refine⟨u',r',?_⟩;rcases q with⟨k,e⟩|⟨k,c,e,z⟩
    .refine .inl ⟨k,?_⟩;have:y≠x:=λe=>hj (Nz hN e1 (e ▸ hi));simp[this,e]
    .exact .inr ⟨k,c,e,z.sameBut hs (cne y c e)⟩
  .obtain⟨w',z⟩:=I.cell y c e;exact⟨w',z.sameBut hs (cne y c e)⟩
  .obtain⟨e,n,ne,nf,d⟩:=I.pin p hp;exact⟨(hs.2 p.1 ne).trans e,n,ne,nf,d⟩
 .have hfn:X.fn x=true:=by
   rcases hf with z|z
   .exact z
   .rw[z]at hk;cases hk
  obtain⟨c,hc⟩:=I.ok.has x (.inl hk);obtain⟨w',z⟩:=I.cell x c hc;refine wpAny_storeName_cell I.ok.kind hk hc z (λh' hc' hs=>?_);obtain⟨oc,hoc,hocd⟩:=id z;refine h { s with heap:=h' } ⟨I.ok,I.os,I.bare,⟨λb o e n hb hx=>?_,λb o e n hb hx=>?_,I.base.free,λb o e hx=>?_,I.base.tups,I.base.frzs,I.base.tbls⟩,⟨m,hn.sameBut hs (Ne.symm (cne x c hc)),λj y v' e1 e2 e3=>?_⟩,λy c' e=>?_,I.free,I.freeC,λp hp=>?_,tracked ⟨oc,hoc,I.freeC x c hc⟩ hs,by simpa using I.len⟩ ⟨c,hs,.inr hc⟩
  .exact(hs.2 b (jb (jk (84 e) (I.ok.cab x c hfn hc)))).trans (I.base.keep b o e n hb hx)
  .obtain⟨sl,e1⟩:=I.base.slot b o e n hb hx;exact⟨sl,(hs.2 b (jb (jk (84 e) (I.ok.cab x c hfn hc)))).trans e1⟩
  .obtain⟨o',e1⟩:=I.base.there b o e hx;exact⟨o',(hs.2 b (jb (jk (84 e) (I.ok.cab x c hfn hc)))).trans e1⟩
  .by_cases hj:j=i
   .subst hj;rw[hi]at e1;cases e1;rw[List.getElem?_set_self hiσ]at e2;cases e2;exact⟨u,r,.inr ⟨.inl hk,c,hc,hc'⟩⟩
   .rw[List.getElem?_set_ne (Ne.symm hj)]at e2;obtain⟨u',r',q⟩:=hl j y v' e1 e2 e3;refine⟨u',r',?_⟩;rcases q with q|⟨k,c',e,z'⟩
    .exact .inl q
    .refine .inr ⟨k,c',e,z'.sameBut hs ?_⟩;rintro rfl;exact hj (Nz hN e1 (I.ok.inj _ _ _ e hc ▸ hi))
  .by_cases hcc:c'=c
   .subst hcc;exact⟨_,hc'⟩
   .obtain⟨w2,z2⟩:=I.cell y c' e;exact⟨w2,z2.sameBut hs hcc⟩
  .obtain⟨e,n,ne,nf,d⟩:=I.pin p hp;refine⟨(hs.2 p.1 ?_).trans e,n,ne,nf,d⟩;intro q;rw[q,hoc]at e;have q':oc=p.2:=102 e;exact d w' (by rw[<- q'];exact hocd)
def JB{M:Model}{A:Around}{E:78}{i:Nat}{x:Str}{v:V}{u:168}{Q:Unit->Shared->Prop}(I:76)(hN:X.N.Nodup)(hi:X.N[i]?=some x)(hx:Loc X.env.scope x)(r:RelV v u)
 (h:∀s',Inv X pins (σ.set i (some v)) H s'->Q () s') (hf:X.fn x=true∨X.env.scope.names.lookup x=some .local:=by first|exact .inl rfl|exact .inr rfl|assumption):wpAny M A (storeName X.env x u) Q E s:=
 Lr I hN hi hx r (λs' I' _=>h s' I') hf
def Inv.call'{s':120}{ch:111}(I:76)(ho:s'.os=s.os)(u:Un (frs X.stack) ch H H' s.heap s'.heap)(hok:HOk X.prog X.w H' s'.heap)(hg:AllBare s'.gens)
 (hch:∀b∈ch,(b∈X.ex∨146<=b)/\b≠156/\(∀x c,X.env.cells.lookup x=some c->c≠b)/\∀p∈X.pn++pins,p.1≠b):Inv X pins σ H' s':=by
 obtain⟨h',g',d',t',o'⟩:=s';have e:o'=s.os:=ho;subst e;exact I.call (g':=g') (t':=t') (d':=d') u hok hg hch
end
noncomputable abbrev XK:=Value->Option Addr->Hp->Prop
noncomputable abbrev St:=List (Option V)
noncomputable abbrev VK:=V->Hp->Prop
noncomputable abbrev TE:=St->Hp->VK->Prop
noncomputable abbrev TT:=St->Hp->(Bool->Hp->Prop)->Prop
noncomputable abbrev TA:=St->Hp->(List V->Hp->Prop)->Prop
structure Ends where
 nx:St->Hp->Prop
 rt:VK
 bk:St->Hp->Prop:=λ_ _=>False
 ct:St->Hp->Prop:=λ_ _=>False
noncomputable abbrev TS:=Ends->St->Hp->Prop
def EP(X:Cx)(pins:90)(σ:St)(Q:VK)(u:168)(s':120):Prop:=∃v H',Inv X pins σ H' s'/\RelV v u/\Q v H'
def TP(X:Cx)(pins:90)(σ:St)(Q:Bool->Hp->Prop)(b:Bool)(s':120):Prop:=∃H',Inv X pins σ H' s'/\Q b H'
def AP(X:Cx)(pins:90)(σ:St)(Q:List V->Hp->Prop)(us:83)(s':120):Prop:=∃vs H',Inv X pins σ H' s'/\Vals vs us/\Q vs H'
def SP(X:Cx)(pins:90)(D:Ends)(f:Flow)(s':120):Prop:=
 match f with
 |.next=>∃σ' H',Inv X pins σ' H' s'/\D.nx σ' H'
 |.brk=>∃σ' H',Inv X pins σ' H' s'/\D.bk σ' H'
 |.cont=>∃σ' H',Inv X pins σ' H' s'/\D.ct σ' H'
 |.ret u=>∃v σ' H',Inv X pins σ' H' s'/\RelV v u/\D.rt v H'
def PE(X:Cx)(e:Expr)(t:TE):Prop:=
 ∀(pins:90) (s:120) (σ:St) (H:Hp) (Q:VK),Inv X pins σ H s->t σ H Q->wpAny 70 X.A (eval e X.env) 191 X.xe s
def PT(X:Cx)(e:Expr)(t:TT):Prop:=
 ∀(pins:90) (s:120) (σ:St) (H:Hp) (Q:Bool->Hp->Prop),Inv X pins σ H s->t σ H Q->wpAny 70 X.A (isTrue e X.env (eval e X.env)) (TP X pins σ Q) X.xe s
def PW(X:Cx)(e:Expr)(t:TT):Prop:=
 ∀(whole:Sem Value) (pins:90) (s:120) (σ:St) (H:Hp) (Q:Bool->Hp->Prop),Inv X pins σ H s->t σ H Q->wpAny 70 X.A (isTrue e X.env whole) (TP X pins σ Q) X.xe s
def PW.pt{X:Cx}{e:Expr}{t:TT}(h:PW X e t):PT X e t:=h _
def PA(X:Cx)(es:List Expr)(t:TA):Prop:=
 ∀(pos:Pos) (pins:90) (s:120) (σ:St) (H:Hp) (Q:List V->Hp->Prop),Inv X pins σ H s->t σ H Q->wpAny 70 X.A (spliced (backTo pos 149)) (AP X pins σ Q) X.xe s
def PS(X:Cx)(st:Stmt)(t:TS):Prop:=
 ∀(pins:90) (s:120) (σ:St) (H:Hp) (D:Ends),Inv X pins σ H s->t D σ H->wpAny 70 X.A (exec st X.env) (SP X pins D) X.xe s
def PSs(X:Cx)(st:List Stmt)(t:TS):Prop:=
 ∀(pins:90) (s:120) (σ:St) (H:Hp) (D:Ends),Inv X pins σ H s->t D σ H->wpAny 70 X.A (execs st X.env) (SP X pins D) X.xe s
def thn{α:Type}{t:Sem α}{Q Q':α->Shared->Prop}{M:Model}{A:Around}{E:78}{s:120}(h:wpAny M A t Q E s)(hQ:∀a s,Q a s->Q' a s):wpAny M A t Q' E s:=jh h hQ λ_ _ x=>x
section
variable{X:Cx}
def bin{a b:Expr}{ta tb:TE}(ha:PE X a ta)(hb:PE X b tb){pins:90}{s:120}{σ:St}{H:Hp}{R:V->V->Hp->Prop}(I:76)(h:ta σ H λx H1=>tb σ H1 λy H2=>R x y H2)
 {α:Type} {Q:α->Shared->Prop} {f:Value->Value->Sem α}
 (hf:∀v u s2 x y H2,Inv X pins σ H2 s2->RelV x v->RelV y u->R x y H2->wpAny 70 X.A (f v u) Q X.xe s2):
 wpAny 70 X.A (eval a X.env) (λv s₁=>wpAny 70 X.A (eval b X.env) (λu s₂=>wpAny 70 X.A (f v u) Q X.xe s₂) X.xe s₁) X.xe s:=by
 refine thn (ha pins s σ H _ I h) λv s1 ⟨x,H1,I1,r1,q1⟩=>?_;refine thn (hb pins s1 σ H1 _ I1 q1) λu s2 ⟨y,H2,I2,r2,q2⟩=>?_;exact hf v u s2 x y H2 I2 r1 r2 q2
noncomputable def NF(i:Nat):TE:=λσ H Q=>∃v,σ[i]?=some (some v)/\Q v H
noncomputable def tC(v:V):TE:=λ_ H Q=>Q v H
def Nu{i:Nat}{x:Str}{pos:Pos}(hN:X.N[i]?=some x)(hv:Vis X.env.scope x)(hd:141=false:=by decide)(hcd:(x==("__classdict__":Str))=false:=by decide):PE X (.Name x pos) (NF i):=by
 intro pins s σ H Q I h;obtain⟨v,e,h⟩:=h;obtain⟨m,hn,hl⟩:=I.loc;obtain⟨u,r,l⟩:=hl i x v hN e hv;have fin:EP X pins σ Q u s:=⟨v,H,I,r,h⟩
 rcases l with⟨hk,hm⟩|⟨hk,c,hc,hcell⟩
 .exact wpAny_Name (wpAny_loadName_local I.ok.kind hk hn hm fin) hd
 .rcases hk with hk|hk
  .exact wpAny_Name (wpAny_loadName_cell I.ok.kind hk hc hcell fin) hd
  .exact wpAny_Name (wpAny_loadName_free I.ok.kind hk hc hcell fin hcd) hd
def cr{i j pos}:PE X (.Constant 135 j pos) (tC 135):=λ_ _ _ H _ I h=>wpAny_Constant_int ⟨.int i,H,I.tok _,⟨_,rfl⟩,h⟩
def fO{b j pos}:PE X (.Constant (.bool b) j pos) (tC (.bl b)):=λ_ _ _ H _ I h=>Constant_bool ⟨.bl b,H,I,rfl,h⟩
def ck{j pos}:PE X (.Constant .none j pos) (tC .non):=λ_ _ _ H _ I h=>Constant_none ⟨.non,H,I,rfl,h⟩
def cg{x j pos}:PE X (.Constant (.str x) j pos) (tC (.str x)):=λ_ _ _ H _ I h=>Calls.Constant_str ⟨.str x,H,I.tok _,⟨_,rfl⟩,h⟩
def Gl(X:Cx)(x:Str):Prop:=X.env.kindOf x=some .globalImplicit
def LM{E:78}{pins:90}{s:120}{σ:St}{H:Hp}{x:Str}{u:168}{pos:Pos}{Q:78}(I:76)(hg:Gl X x)(hm:X.mg x=some u)(h:Q u s)
 (hd:141=false:=by decide):wpAny 70 X.A (eval (.Name x pos) X.env) Q E s:=
 Calls.Name_function_global I.ok.kind hg (Calls.loadGlobal_global (by rw[I.ok.glob];exact I.mod.glob.keeps I.bk) hm h) hd
def FS{E:78}{pins:90}{s:120}{σ:St}{H:Hp}{x:Str}{u:168}{pos:Pos}{Q:78}(I:76)(hg:Gl X x)(hm:X.mg x=none)(hv:bootBuiltins x=some u)(h:Q u s)
 (hn:x≠"__name__":=by decide) (hd:141=false:=by decide):wpAny 70 X.A (eval (.Name x pos) X.env) Q E s:=by
 obtain⟨mb,h1,h2⟩:=I.mod.blt;exact Calls.Name_function_global I.ok.kind hg (Calls.loadGlobal_builtin (by rw[I.ok.glob];exact I.mod.glob.keeps I.bk) hm (by rw[I.ok.blt];exact h1.keeps I.bk) ((h2 x hn).trans hv) h) hd
variable{a b:Expr}{ta tb:TE}{pos:Pos}
def PC(X:Cx)(op:CmpOp)(a b:Expr)(t:TE):Prop:=
 ∀(pins:90) (s:120) (σ:St) (H:Hp) (Q:VK),Inv X pins σ H s->t σ H Q ->
   wpAny 70 X.A (eval a X.env) (λv s₁=>wpAny 70 X.A (eval b X.env) (λu s₂=>wpAny 70 X.A (compareOp op v u) 191 X.xe s₂) X.xe s₁) X.xe s
def Vy(b:Expr){op:CmpOp}(h:op≠.In)(h2:op≠.NotIn):behindInMarks op b=false:=by
 have e1:(op==CmpOp.In)=false:=by cases op<;>first|rfl|exact absurd rfl h
 have e2:(op==CmpOp.NotIn)=false:=by cases op<;>first|rfl|exact absurd rfl h2
 cases b<;>simp[behindInMarks,e1,e2]
noncomputable def Uh(ta:TE):TE:=λσ H Q=>ta σ H λx H1=>Q (.bl (decide (x=.non))) H1
def RelV.none_iff{x:V}{v:168}(r:RelV x v):(v==Value.none)=decide (x=.non):=by
 cases x with
 |non=>cases r;rfl
 |bl _=>cases r;rfl
 |int _=>obtain⟨t,rfl⟩:=r;rfl
 |str _=>obtain⟨t,rfl⟩:=r;rfl
 |byt _=>obtain⟨t,rfl⟩:=r;rfl
 |flt _=>obtain⟨t,rfl⟩:=r;rfl
 |ref _=>cases r;rfl
 |ty _=>cases r;rfl
def cy{j pos'}(ha:PE X a ta):PC X .Is a (.Constant .none j pos') (Uh ta):=by
 intro pins s σ H Q I h;refine thn (ha pins s σ H _ I h) λv s1 ⟨x,H1,I1,r1,q1⟩=>?_;exact Constant_none (is_none_gen ⟨.bl _,H1,I1,by rw[r1.none_iff];rfl,q1⟩)
noncomputable def tB(t:TE):TT:=λσ H Q=>t σ H λx H1=>∃c,x=.bl c/\Q c H1
def T6{op:CmpOp}{t:TE}(h:PC X op a b t)(h1:behindInMarks op b=false:=by first|exact Vy _ 95 95|rfl):PT X (.Compare a [op] [b] pos) (tB t):=by
 intro pins s σ H Q I hw;refine wpAny_isTrue_Compare1 (thn (h pins s σ H _ I hw) λv s1 h1=>thn h1 λu s2 h2=>thn h2 λc s3 ⟨x,H1,I1,r1,q1⟩=>?_) h1;obtain⟨d,rfl,q⟩:=q1;cases r1;exact jS ⟨H1,I1,q⟩
variable{tA tB':TT}{rest:List Expr}
noncomputable def Uo(t u:TT):TT:=λσ H Q=>t σ H λc H1=>if c=true then u σ H1 Q else Q false H1
noncomputable def tOr(t u:TT):TT:=λσ H Q=>t σ H λc H1=>if c=true then Q true H1 else u σ H1 Q
noncomputable def Ue(t:TT):TT:=λσ H Q=>t σ H λc H1=>Q (!c) H1
def Z8(ha:PT X a tA):PW X (.BoolOp .And [a] pos) tA:=by
 intro wh pins s σ H Q I h;refine isTrue_and (thn (ha pins s σ H Q I h) λc s1 e=>?_);cases c with
 |true=>exact isTrue_and_nil e
 |false=>exact e
def cP(ha:PT X a tA):PW X (.BoolOp .Or [a] pos) tA:=by
 intro wh pins s σ H Q I h;refine isTrue_or (thn (ha pins s σ H Q I h) λc s1 e=>?_);cases c with
 |false=>exact isTrue_or_nil e
 |true=>exact e
def cQ(ha:PT X a tA)(hb:PW X (.BoolOp .And (b::rest) pos) tB'):PW X (.BoolOp .And (a::b::rest) pos) (Uo tA tB'):=by
 intro wh pins s σ H Q I h;refine isTrue_and (thn (ha pins s σ H _ I h) λc s1 ⟨H1,I1,q1⟩=>?_);cases c with
 |true=>exact hb wh pins s1 σ H1 Q I1 q1
 |false=>exact⟨H1,I1,q1⟩
def fK(ha:PT X a tA)(hb:PW X (.BoolOp .Or (b::rest) pos) tB'):PW X (.BoolOp .Or (a::b::rest) pos) (tOr tA tB'):=by
 intro wh pins s σ H Q I h;refine isTrue_or (thn (ha pins s σ H _ I h) λc s1 ⟨H1,I1,q1⟩=>?_);cases c with
 |true=>exact⟨H1,I1,q1⟩
 |false=>exact hb wh pins s1 σ H1 Q I1 q1
def cR(ha:PT X a tA):PT X (.UnaryOp .Not a pos) (Ue tA):=by
 intro pins s σ H Q I h;exact isTrue_not (ha pins s σ H (λc H1=>Q (!c) H1) I h)
noncomputable def QV(ta tb:TE):TE:=λσ H Q=>ta σ H λx H1=>∃c,x=.bl c/\if c=true then tb σ H1 Q else Q (.bl false) H1
noncomputable def QL(ta:TE):TE:=λσ H Q=>ta σ H λx H1=>∃c,x=.bl c/\Q (.bl (!c)) H1
def ci{op}{t:TE}(h:PE X a t):PE X (.BoolOp op [a] pos) t:=λpins s σ H Q I hw=>BoolOp_one (h pins s σ H Q I hw)
def cv(ha:PE X a ta)(hb:PE X (.BoolOp .And (b::rest) pos) tb):PE X (.BoolOp .And (a::b::rest) pos) (QV ta tb):=by
 intro pins s σ H Q I h;refine BoolOp_and (thn (ha pins s σ H _ I h) λv s1 ⟨x,H1,I1,r1,q1⟩=>?_);obtain⟨c,rfl,q1⟩:=q1;cases r1;refine jS ?_;cases c with
 |true=>exact hb pins s1 σ H1 Q I1 q1
 |false=>exact⟨.bl false,H1,I1,rfl,q1⟩
def cj(ha:PE X a ta):PE X (.UnaryOp .Not a pos) (QL ta):=by
 intro pins s σ H Q I h;refine UnaryOp_ (thn (ha pins s σ H _ I h) λv s1 ⟨x,H1,I1,r1,q1⟩=>?_);obtain⟨c,rfl,q1⟩:=q1;cases r1;exact not_of (jS ⟨.bl (!c),H1,I1,rfl,q1⟩)
noncomputable def tIf(t:TT)(ta tb:TE):TE:=λσ H Q=>t σ H λc H1=>if c=true then ta σ H1 Q else tb σ H1 Q
def Vn{c:Expr}(hc:PT X c tA)(ha:PE X a ta)(hb:PE X b tb):PE X (.IfExp c a b pos) (tIf tA ta tb):=by
 intro pins s σ H Q I h;refine wpAny_IfExp (thn (hc pins s σ H _ I h) λd s1 ⟨H1,I1,q1⟩=>?_);cases d with
 |true=>exact ha pins s1 σ H1 Q I1 q1
 |false=>exact hb pins s1 σ H1 Q I1 q1
end
def SqL(K:Frag)(H:Hp)(a:Addr)(xs:155):Prop:=
 Rd H a 158 ∨
  ∃(o:Obj) (its:Array Value) (n:Nat),K.lookup a=some o/\o.cls=.type "list"/\o.dict=none/\o.data=.seq its n/\its.size<=sizeLine/\Vals xs its.toList
def SqT(K:Frag)(H:Hp)(a:Addr)(xs:155):Prop:=
 Rd H a (.tup xs) ∨
  ∃(o:Obj) (its:Array Value) (n:Nat),K.lookup a=some o/\o.cls=.type "tuple"/\o.dict=none/\o.data=.seq its n/\its.size<=sizeLine/\Vals xs its.toList
noncomputable def gv:Value->Option V
 |.none=>some .non
 |.bool b=>some (.bl b)
 |.int i _=>some 135
 |.str x _=>some (.str x)
 |.bytes b _=>some (.byt b)
 |.float b _=>some (.flt b)
 |.ref a=>some (.ref a)
 |.type n=>some (.ty n)
 |_=>none
def RelV.abs{x:V}{u:168}(r:RelV x u):gv u=some x:=by
 cases x with
 |non=>cases r;rfl
 |bl _=>cases r;rfl
 |int _=>obtain⟨t,rfl⟩:=r;rfl
 |str _=>obtain⟨t,rfl⟩:=r;rfl
 |byt _=>obtain⟨t,rfl⟩:=r;rfl
 |flt _=>obtain⟨t,rfl⟩:=r;rfl
 |ref _=>cases r;rfl
 |ty _=>cases r;rfl
theorem RelV.inj{x y:V}{u:168}(r:RelV x u)(q:RelV y u):x=y:=102 (r.abs.symm.trans q.abs)
theorem Vals.inj{xs ys:155}{us:83}(h:Vals xs us)(g:Vals ys us):xs=ys:=by
 induction h generalizing ys with
 |nil=>cases g;rfl
 |cons r t ih=>cases g with|cons r' t'=>rw[r.inj r',ih t']
section
variable{X:Cx}{pins:90}{σ:St}{H:Hp}{s:120}{a:Addr}{xs ys:155}
def SqL.of{K:Frag}(h:H a=some 158):SqL K H a xs:=.inl (.inl h)
def SqT.of{K:Frag}(h:H a=some (.tup xs)):SqT K H a xs:=.inl (.inl h)
def Inv.list(I:76)(h:SqL X.K H a xs):∃its:List Value,Vals xs its/\PlainL s.heap a 107/\96<=sizeLine:=by
 rcases h with h|⟨o,its,n,hk,hc,hd,hs,hz,r⟩
 .obtain⟨z,its,n,r,e⟩:=h.ok I.hok;exact⟨its,r,⟨_,n,e,rfl,rfl,rfl⟩,z⟩
 .refine⟨its.toList,r,⟨o,n,I.kIn a o hk,hc,hd,by simpa using hs⟩,?_⟩;have e:=r.length;simp only[Array.length_toList]at e;omega
def Inv.tuple(I:76)(h:SqT X.K H a xs):∃its:List Value,Vals xs its/\IsTup s.heap a 107/\96<=sizeLine:=by
 rcases h with h|⟨o,its,n,hk,hc,_,hs,hz,r⟩
 .obtain⟨z,its,r,p⟩:=h.ok I.hok;exact⟨its,r,p.t,z⟩
 .refine⟨its.toList,r,⟨o,I.kIn a o hk,hc,n,by simpa using hs⟩,?_⟩;have e:=r.length;simp only[Array.length_toList]at e;omega
def Inv.list_inj(I:76)(h:SqL X.K H a xs)(h':SqL X.K H a ys):xs=ys:=by
 obtain⟨its,r,⟨o,n,e,_,_,d⟩,_⟩:=I.list h;obtain⟨its',r',⟨o',n',e',_,_,d'⟩,_⟩:=I.list h';rw[e]at e';cases e';rw[d]at d'
 injection d' with d1 _
 have:its=its':=by simpa using jm Array.toList d1
 subst this;exact r.inj r'
def Inv.tuple_inj(I:76)(h:SqT X.K H a xs)(h':SqT X.K H a ys):xs=ys:=by
 obtain⟨its,r,⟨o,e,_,n,d⟩,_⟩:=I.tuple h;obtain⟨its',r',⟨o',e',_,n',d'⟩,_⟩:=I.tuple h';rw[e]at e';cases e';rw[d]at d'
 injection d' with d1 _
 have:its=its':=by simpa using jm Array.toList d1
 subst this;exact r.inj r'
end
noncomputable abbrev Cx.wish(X:Cx)(E:78):Cx:={ X with xe:=E }
abbrev Cx.nox(X:Cx):Cx:=X.wish λ_ _=>False
theorem Cx.Ok.wish{X:Cx}(ok:X.Ok)(E:78):(X.wish E).Ok:=
 ⟨ok.mod,ok.kind,ok.glob,ok.blt,ok.above,ok.inj,ok.has,ok.cab,ok.hd,ok.frames,ok.stk,ok.exf,ok.bs,ok.bsz,ok.noex,ok.exfs,ok.funs,ok.frf⟩
def Cx.Ok.unwish{X:Cx}{E:78}(ok:(X.wish E).Ok):X.Ok:=
 ⟨ok.mod,ok.kind,ok.glob,ok.blt,ok.above,ok.inj,ok.has,ok.cab,ok.hd,ok.frames,ok.stk,ok.exf,ok.bs,ok.bsz,ok.noex,ok.exfs,ok.funs,ok.frf⟩
section
variable{X:Cx}{pins:90}{σ:St}{H:Hp}{s:120}{E:78}
theorem Inv.wish(I:76)(E:78):Inv (X.wish E) pins σ H s:=⟨I.ok.wish E,I.os,I.bare,I.base,I.loc,I.cell,I.free,I.freeC,I.pin,I.hok,I.len⟩
theorem Inv.unwish(I:Inv (X.wish E) pins σ H s):Inv X pins σ H s:=⟨I.ok.unwish,I.os,I.bare,I.base,I.loc,I.cell,I.free,I.freeC,I.pin,I.hok,I.len⟩
theorem SP.unwish{D:Ends}{f:Flow}{s':120}(h:SP (X.wish E) pins D f s'):SP X pins D f s':=by
 cases f with
 |next=>obtain⟨σ',H',I,q⟩:=h;exact⟨σ',H',I.unwish,q⟩
 |brk=>obtain⟨σ',H',I,q⟩:=h;exact⟨σ',H',I.unwish,q⟩
 |cont=>obtain⟨σ',H',I,q⟩:=h;exact⟨σ',H',I.unwish,q⟩
 |ret u=>obtain⟨v,σ',H',I,r,q⟩:=h;exact⟨v,σ',H',I.unwish,r,q⟩
theorem PSs.nox{st:List Stmt}{t:TS}(h:PSs X.nox st t):PSs X st t:=λpins s σ H D I hw=>
 jh (h pins s σ H D (I.wish _) hw) (λ_ _ q=>q.unwish) λ_ _ z=>False.elim z
end
section
variable{X:Cx}{st:Stmt}{rest:List Stmt}{t u:TS}{e:Expr}{te:TE}{pos:Pos}
noncomputable def Jr:TS:=λD σ H=>D.nx σ H
noncomputable def Uc(t u:TS):TS:=λD σ H=>t { D with nx:=u D } σ H
def ZA:PSs X [] Jr:=λ_ _ σ H _ I h=>wpAny_execs_nil ⟨σ,H,I,h⟩
def Vh(h1:PS X st t)(h2:PSs X rest u):PSs X (st::rest) (Uc t u):=by
 intro pins s σ H D I h;refine wpAny_execs_cons (thn (h1 pins s σ H { D with nx:=u D } I h) λf s1 q=>?_);cases f with
 |next=>
  obtain⟨σ',H',I',q⟩:=q;exact h2 pins s1 σ' H' D I' q
 |ret v=>exact q
 |brk=>exact q
 |cont=>exact q
def Z9(h1:PS X st t):PSs X [st] t:=by
 intro pins s σ H D I h;refine wpAny_execs_cons (thn (h1 pins s σ H D I h) λf s1 q=>?_);cases f with
 |next=>exact wpAny_execs_nil q
 |ret v=>exact q
 |brk=>exact q
 |cont=>exact q
def ZC:PS X (.Pass pos) Jr:=λ_ _ σ H _ I h=>wpAny_Pass ⟨σ,H,I,h⟩
def Inv.quiet{pins:90}{σ:St}{H:Hp}{s:120}(I:76):interactive X.env=false:=by simp[interactive,I.ok.kind]
noncomputable def QM(te:TE):TS:=λD σ H=>te σ H λ_ H1=>D.nx σ H1
def ZD(he:PE X e te)(hs:swapsWith e none pos.line X.env=pure false:=by rfl):PS X (.Expr e pos) (QM te):=by
 intro pins s σ H D I h;exact wpAny_Expr_any (thn (he pins s σ H _ I h) λv s1 ⟨x,H1,I1,r1,q1⟩=>⟨σ,H1,I1,q1⟩) I.quiet hs
noncomputable def Ud(te:TE):TS:=λD σ H=>te σ H D.rt
def cT(he:PE X e te):PS X (.Return (some e) pos) (Ud te):=by
 intro pins s σ H D I h;exact wpAny_Return_some (thn (he pins s σ H _ I h) λv s1 ⟨x,H1,I1,r1,q1⟩=>⟨x,σ,H1,I1,r1,q1⟩)
noncomputable def Ui(c:TT)(t u:TS):TS:=λD σ H=>c σ H λb H1=>if b=true then t D σ H1 else u D σ H1
def fL{c:Expr}{a b:List Stmt}{tc:TT}(hc:PT X c tc)(ha:PSs X a t)(hb:PSs X b u):PS X (.If c a b pos) (Ui tc t u):=by
 intro pins s σ H D I h;refine wpAny_If (thn (hc pins s σ H _ I h) λd s1 ⟨H1,I1,q1⟩=>?_);cases d with
 |true=>exact ha pins s1 σ H1 D I1 q1
 |false=>exact hb pins s1 σ H1 D I1 q1
noncomputable def NG:TS:=λ_ _ _=>False
def Vj:PS X st NG:=λ_ _ _ _ _ _ h=>h.elim
end
noncomputable abbrev TG:=V->St->Hp->(St->Hp->Prop)->Prop
noncomputable abbrev TGs:=List V->St->Hp->(St->Hp->Prop)->Prop
def PG(X:Cx)(target:Expr)(t:TG):Prop:=
 ∀(pins:90) (s:120) (σ:St) (H:Hp) (v:V) (u:168) (Q:St->Hp->Prop),Inv X pins σ H s->RelV v u->t v σ H Q ->
   wpAny 70 X.A (assign target X.env u) (λ_ s'=>∃σ' H',Inv X pins σ' H' s'/\Q σ' H') X.xe s
def PGs(X:Cx)(ts:List Expr)(t:TGs):Prop:=
 ∀(pins:90) (s:120) (σ:St) (H:Hp) (vs:155) (us:83) (Q:St->Hp->Prop),Inv X pins σ H s->Vals vs us->t vs σ H Q ->
   wpAny 70 X.A (assignInOrder ((assignEach ts X.env).map (·.2)) us) (λ_ s'=>∃σ' H',Inv X pins σ' H' s'/\Q σ' H') X.xe s
noncomputable abbrev Ol:=V->V->V->Hp->(Hp->Prop)->Prop
def Wu(X:Cx)(t:Ol):Prop:=
 ∀(pins:90) (s:120) (σ:St) (H:Hp) (o i v:V) (ov iv u:168) (Q:Hp->Prop),Inv X pins σ H s->RelV o ov->RelV i iv->RelV v u->t o i v H Q ->
   wpAny 70 X.A (setItem ov iv u) (λ_ s'=>∃H',Inv X pins σ H' s'/\Q H') X.xe s
noncomputable abbrev TIp:=V->V->Hp->VK->Prop
def PIp(X:Cx)(op:Operator)(t:TIp):Prop:=
 ∀(pins:90) (s:120) (σ:St) (H:Hp) (x y:V) (v u:168) (Q:VK),Inv X pins σ H s->RelV x v->RelV y u->t x y H Q ->
   wpAny 70 X.A (inplaceOp op v u) 191 X.xe s
section
variable{X:Cx}{pos:Pos}
noncomputable def EB(i:Nat):TG:=λv σ H Q=>Q (σ.set i (some v)) H
def ZM{i:Nat}{x:Str}(hN:X.N.Nodup)(hi:X.N[i]?=some x)(hx:Loc X.env.scope x)(hf:X.fn x=true∨X.env.scope.names.lookup x=some .local:=by first|exact .inl rfl|exact .inr rfl|assumption):PG X (.Name x pos) (EB i):=by
 intro pins s σ H v u Q I r h;exact wpAny_assign_Name (JB I hN hi hx r (λs' I'=>⟨_,H,I',h⟩) hf)
noncomputable def WR:TGs:=λvs σ H Q=>vs=[]/\Q σ H
noncomputable def Ri(t:TG)(u:TGs):TGs:=λvs σ H Q=>∃v r,vs=v::r/\t v σ H λσ' H'=>u r σ' H' Q
def ZK:PGs X [] WR:=by
 intro pins s σ H vs us Q I r h;obtain⟨e,h⟩:=h;subst e;cases r;exact assignInOrder_nil ⟨σ,H,I,h⟩
def Vk{e:Expr}{es:List Expr}{t:TG}{u:TGs}(h1:PG X e t)(h2:PGs X es u)
 (hs:(assignEach 179 X.env).map (·.2)=assign e X.env::(assignEach es X.env).map (·.2):=by rfl):PGs X 179 (Ri t u):=by
 intro pins s σ H vs us Q I r h;obtain⟨v,vr,e1,h⟩:=h;subst e1;cases r with
 |cons r rr=>
  rw[hs];refine assignInOrder_cons (thn (h1 pins s σ H _ _ _ I r h) λ_ s1 ⟨σ1,H1,I1,q1⟩=>?_);exact h2 pins s1 σ1 H1 _ _ Q I1 rr q1
noncomputable def Rg(K:Frag)(n:Nat)(t:TGs):TG:=λv σ H Q=>∃a xs,v=.ref a/\SqT K H a xs/\96=n/\t xs σ H Q
def cX{es:List Expr}{k:Nat}{t:TGs}{n:Nat}(hc:164)(h:PGs X es t)
 (hn:(assignEach es X.env).length=n:=by rfl) (hst:(assignEach es X.env).findIdx? (·.1)=none:=by rfl):PG X (.Tuple es k pos) (Rg X.K n t):=by
 intro pins s σ H v u Q I r hw;obtain⟨a,xs,e1,hq,hl,hw⟩:=hw;subst e1;cases r;obtain⟨its,rv,ht,hz⟩:=I.tuple hq;refine assign_Tuple_tuple (I.ok.hd hc) ht (by simp[hn,<- hl,rv.length]) hst λh' hx=>?_;have I1:Inv X pins σ H { s with heap:=h' }:=I.kept (t':=s.toks) λb o e=>hx b o (jb (84 e)) e;exact h pins _ σ H xs _ Q I1 (by simpa using rv) hw
noncomputable def WO(to ti:TE)(t:Ol):TG:=λv σ H Q=>to σ H λo H1=>ti σ H1 λi H2=>t o i v H2 λH3=>Q σ H3
def cY{o i:Expr}{to ti:TE}{t:Ol}(ho:PE X o to)(hi:PE X i ti)(hs:Wu X t)
 (ha:∀v,assign (.Subscript o i pos) X.env v=(do
  let ov <- holding [v] (eval o X.env)
  let iv <- holding [v,ov] (eval i X.env)
  standAt pos
  holding [v,ov,iv] (setItem ov iv v)
  release [v,ov,iv] []):=by intro _;rfl):PG X (.Subscript o i pos) (WO to ti t):=by
 intro pins s σ H v u Q I r h;rw[ha];refine iq (jy (thn (ho pins s σ H _ I h) λov s1 ⟨x,H1,I1,r1,q1⟩=>?_));refine iq (jy (thn (hi pins s1 σ H1 _ I1 q1) λiv s2 ⟨y,H2,I2,r2,q2⟩=>?_));refine iq (k3 (iq (jy (thn (hs pins s2 σ H2 x y v ov iv u _ I2 r1 r2 r q2) λ_ s3 ⟨H3,I3,q3⟩=>?_))));exact wpAny_release ⟨σ,H3,I3,q3⟩
noncomputable def FF(te:TE)(g:TG):TS:=λD σ H=>te σ H λx H1=>g x σ H1 D.nx
def T7{tg e:Expr}{te:TE}{g:TG}(he:PE X e te)(hg:PG X tg g)(hs:swapsWithSole [tg] e pos.line X.env=pure false:=by rfl)(hw:swappedStores [tg] e X.env=pure none:=by rfl)
 (h1:(assignEach [tg] X.env).map (·.2)=[assign tg X.env]:=by rfl):PS X (.Assign [tg] e pos) (FF te g):=by
 intro pins s σ H D I h;refine wpAny_Assign_stores (thn (he pins s σ H _ I h) λv s1 ⟨x,H1,I1,r1,q1⟩=>?_) hs hw;rw[h1];exact thn (hg pins s1 σ H1 x v _ I1 r1 q1) λ_ s2 q=>q
def cS{i:Nat}{x:Str}{e:Expr}{te:TE}{pos':Pos}(hN:X.N.Nodup)(hi:X.N[i]?=some x)(hx:Loc X.env.scope x)(he:PE X e te)(hs:swapsWith e (some (.Name x pos')) pos.line X.env=pure false:=by rfl)(hf:X.fn x=true∨X.env.scope.names.lookup x=some .local:=by first|exact .inl rfl|exact .inr rfl|assumption):
 PS X (.Assign [.Name x pos'] e pos) (FF te (EB i)):=by
 intro pins s σ H D I h;refine wpAny_Assign_Name (thn (he pins s σ H _ I h) λv s1 ⟨y,H1,I1,r1,q1⟩=>?_) hs;exact JB I1 hN hi hx r1 (λs2 I2=>⟨_,H1,I2,q1⟩) hf
noncomputable def Um(i:Nat)(te:TE)(ti:TIp):TS:=λD σ H=>∃x,σ[i]?=some (some x)/\te σ H λy H1=>ti x y H1 λz H2=>D.nx (σ.set i (some z)) H2
def cV{i:Nat}{x:Str}{e:Expr}{te:TE}{op:Operator}{ti:TIp}{pos':Pos}(hN:X.N.Nodup)(hi:X.N[i]?=some x)(hx:Loc X.env.scope x)(he:PE X e te)(ho:PIp X op ti)(hf:X.fn x=true∨X.env.scope.names.lookup x=some .local:=by first|exact .inl rfl|exact .inr rfl|assumption):
 PS X (.AugAssign (.Name x pos') op e pos) (Um i te ti):=by
 intro pins s σ H D I h;obtain⟨v,e1,h⟩:=h;obtain⟨m,hn,hl⟩:=I.loc;have vis:Vis X.env.scope x:=by rcases hx with k|k;exact .inl k;exact .inr (.inl k)
 obtain⟨u,r,l⟩:=hl i x v hi e1 vis;refine wpAny_AugAssign_Name ?_;have go:wpAny 70 X.A (eval e X.env) (λw s₂=>wpAny 70 X.A (inplaceOp op u w) (λr s₃=>wpAny 70 X.A (storeName X.env x r) (λ_=>SP X pins D .next) X.xe s₃) X.xe s₂) X.xe s:=by
  refine thn (he pins s σ H _ I h) λw s1 ⟨y,H1,I1,r1,q1⟩=>?_;refine thn (ho pins s1 σ H1 v y u w _ I1 r r1 q1) λz s2 ⟨zv,H2,I2,r2,q2⟩=>?_;exact JB I2 hN hi hx r2 (λs3 I3=>⟨_,H2,I3,q2⟩) hf
 rcases l with⟨hk,hm⟩|⟨hk,c,hc,hcell⟩
 .exact wpAny_loadName_local I.ok.kind hk hn hm go
 .rcases hk with hk|hk
  .exact wpAny_loadName_cell I.ok.kind hk hc hcell go
  .rcases hx with k|k
   .have:X.env.scope.names.lookup x=some .free:=hk;rw[k]at this;cases this
   .have:X.env.scope.names.lookup x=some .free:=hk;rw[k]at this;cases this
noncomputable def QU(to ti te:TE)(tget:V->V->Hp->VK->Prop)(tip:TIp)(tset:Ol):TS:=λD σ H=>to σ H λo H1=>ti σ H1 λi H2=>tget o i H2 λx H3=>te σ H3 λy H4=>tip x y H4 λz H5=>tset o i z H5 λH6=>D.nx σ H6
def eR(X:Cx)(t:V->V->Hp->VK->Prop):Prop:=
 ∀(pins:90) (s:120) (σ:St) (H:Hp) (o i:V) (ov iv:168) (Q:VK),Inv X pins σ H s->RelV o ov->RelV i iv->t o i H Q ->
   wpAny 70 X.A (getItem ov iv) 191 X.xe s
def ZF{o i e:Expr}{to ti te:TE}{tget:V->V->Hp->VK->Prop}{tip:TIp}{tset:Ol}{op:Operator}{tpos:Pos}(ho:PE X o to)(hi:PE X i ti)(hg:eR X tget)(he:PE X e te)(hp:PIp X op tip)(hs:Wu X tset)
 (ha:∀ov iv new,augStore i ov iv new=(do holding [new,ov,iv] (setItem ov iv new);release [new,ov,iv] [];pure .next):=by intros;rfl):PS X (.AugAssign (.Subscript o i tpos) op e pos) (QU to ti te tget tip tset):=by
 intro pins s σ H D I h;refine wpAny_AugAssign_SubscriptAny (thn (ho pins s σ H _ I h) λov s1 ⟨x1,H1,I1,r1,q1⟩=>?_) ha;refine thn (hi pins s1 σ H1 _ I1 q1) λiv s2 ⟨x2,H2,I2,r2,q2⟩=>?_;refine thn (hg pins s2 σ H2 x1 x2 ov iv _ I2 r1 r2 q2) λold s3 ⟨x3,H3,I3,r3,q3⟩=>?_;refine thn (he pins s3 σ H3 _ I3 q3) λv s4 ⟨x4,H4,I4,r4,q4⟩=>?_;refine thn (hp pins s4 σ H4 x3 x4 old v _ I4 r3 r4 q4) λnew s5 ⟨x5,H5,I5,r5,q5⟩=>?_;exact thn (hs pins s5 σ H5 x1 x2 x5 ov iv new _ I5 r1 r2 r5 q5) λ_ s6 ⟨H6,I6,q6⟩=>⟨σ,H6,I6,q6⟩
noncomputable def ipI(f:Int->Int->Int):TIp:=λx y H Q=>∃i j,x=.int i/\y=.int j/\Q (.int (f i j)) H
def dj:PIp X .Sub (ipI λi j=>i-j):=by
 intro pins s σ H x y v u Q I r1 r2 h;obtain⟨i,j,e1,e2,q⟩:=h;subst e1;subst e2;obtain⟨t,rfl⟩:=r1;obtain⟨t',rfl⟩:=r2;exact isub_int ⟨.int _,H,I.tok _,⟨_,rfl⟩,q⟩
end
section
variable{X:Cx}{pos:Pos}
noncomputable def NE(c:TT)(tb:TS):TS:=λD σ H=>∃W:Nat->St->Hp->Prop,(∃m,W m σ H)/\∀m σ H,W m σ H ->
 c σ H λb H1=>if b=true then ∃N:St->Hp->Prop,(∀σ' H',N σ' H'->∃m',m'<m/\W m' σ' H')/\tb { D with nx:=N,ct:=N,bk:=D.nx } σ H1 else D.nx σ H1
def Vi{c:Expr}{body:List Stmt}{tc:TT}{tb:TS}(hp:PassesOwn 70 X.A X.env X.xe)(hc:PT X c tc)(hb:PSs X body tb):PS X (.While c body [] pos) (NE tc tb):=by
 intro pins s σ H D I h;obtain⟨W,⟨m0,w0⟩,turn⟩:=h;refine wpAny_While (codeAny_whileLoop (λn s'=>∃σ' H',Inv X pins σ' H' s'/\W n σ' H') ?_ m0 ⟨σ,H,I,w0⟩);rintro n s1 ⟨σ1,H1,I1,w1⟩;refine kq hp (thn (hc pins s1 σ1 H1 _ I1 (turn n σ1 H1 w1)) λb s2 ⟨H2,I2,q2⟩=>?_);cases b with
 |true=>
  obtain⟨N,hN,q2⟩:=q2;rw[il rfl];refine kq hp (thn (hb pins s2 σ1 H2 _ I2 q2) λf s3 q3=>?_);cases f with
  |next=>
   obtain⟨σ3,H3,I3,n3⟩:=q3;obtain⟨m',hm,w3⟩:=hN σ3 H3 n3;exact⟨m',hm,σ3,H3,I3,w3⟩
  |cont=>
   obtain⟨σ3,H3,I3,n3⟩:=q3;obtain⟨m',hm,w3⟩:=hN σ3 H3 n3;exact⟨m',hm,σ3,H3,I3,w3⟩
  |brk=>exact q3
  |ret v=>exact q3
 |false=>
  rw[ip Bool.false_ne_true];exact wpAny_execs_nil ⟨σ1,H2,I2,q2⟩
end
structure It where
 go:Nat->Hp->Prop
 yld:Nat->Hp->V->Hp->Prop
 stop:Nat->Hp->Prop
def FpOk(X:Cx)(pins:90)(H:Hp)(b:Addr):Prop:=
 H b=none/\b≠156/\b∉X.fs/\(b∈X.ex∨146<=b)/\(∀x c,X.env.cells.lookup x=some c->c≠b)/\∀p∈X.pn++pins,p.1≠b
def Inv.fpOk{X:Cx}{pins:90}{σ:St}{H H':Hp}{s:120}{b:Addr}(I:76)(hb:65<=b)(hn:H' b=none):FpOk X pins H' b:=by
 refine⟨hn,ne_of_gt (jk I.lt hb),I.nofs hb,.inr (j6 I.sz hb),λx c e z=>?_,λp hp z=>?_⟩
 .obtain⟨v,q⟩:=I.cell x c e;exact absurd (jk q.lt (by rw[z];exact hb)) (jD _)
 .exact absurd (jk (84 (I.pin p hp).1) (by rw[z];exact hb)) (jD _)
structure Turn(P:Program)(w:World)(K:Frag)(tg:Expr)(J:It)(fp:111)(it:Addr)(tn:Nat->Heap->Prop):Prop where
 mem:it∈fp
 obj:∀i h,tn i h->∀b∈fp,∃o,h.get? b=some o/\∀v,o.data≠.cell v
 keep:∀i h h',tn i h->(∀b∈fp,∀o,h.get? b=some o->h'.get? b=some o)->tn i h'
 item:∀(X:Cx),X.prog=P->X.w=w->X.K=K->X.calm=true->∀(i:Nat) (pins:90) (s:120) (σ:St) (H:Hp) (E:78),Inv X pins σ H s->(∀b∈fp,FpOk X pins H b)->tn i s.heap->J.go i H ->
  wpAny (model P w) X.A (pyNext (.ref it)) (λr s1=>∃u,r=some u /\
   wpAny (model P w) X.A (letOwnedTupleGo tg (.ref it) u) (λ_ s2=>∃x H',Inv X pins σ H' s2/\RelV x u/\J.yld i H x H'/\tn (i+1) s2.heap/\∀b∈fp,H' b=none) E s1) E s
 done:∀(X:Cx),X.prog=P->X.w=w->X.K=K->X.calm=true->∀(i:Nat) (pins:90) (s:120) (σ:St) (H:Hp) (E:78),Inv X pins σ H s->(∀b∈fp,FpOk X pins H b)->tn i s.heap->J.stop i H ->
  wpAny (model P w) X.A (pyNext (.ref it)) (λr s1=>r=none/\Inv X pins σ H s1) E s
 self:∀(A:Around) (i:Nat) (s:120) (Q:78) (E:78),tn i s.heap->Q (.ref it) s->wpAny (model P w) A (pyIter (.ref it)) Q E s
noncomputable abbrev TI:=St->Hp->(It->Hp->Prop)->Prop
def PIE(X:Cx)(pins:90)(σ:St)(tg:Expr)(R:It->Hp->Prop)(itv:168)(s2:120):Prop:=
 ∃(it:Addr) (fp:111) (tn:Nat->Heap->Prop) (J:It) (H':Hp),itv=.ref it/\Inv X pins σ H' s2/\Turn X.prog X.w X.K tg J fp it tn/\tn 0 s2.heap/\(∀b∈fp,FpOk X pins H' b)/\R J H'
def PI(X:Cx)(tg iter:Expr)(wi:TI):Prop:=
 ∀(pins:90) (s:120) (σ:St) (H:Hp) (R:It->Hp->Prop),Inv X pins σ H s->wi σ H R ->
   wpAny 70 X.A (eval iter X.env) (λv s1=>wpAny 70 X.A (pyIter v) (PIE X pins σ tg R) X.xe s1) X.xe s
def Rf{M:Model}{A:Around}{E:78}{s:120}{tg:Expr}{it:Addr}{u:168}{o:Obj}{n:String}{vs:Array Value}{Q:Unit->Shared->Prop}(ho:s.heap.get? it=some o)(hc:o.cls=.type n)(hd:o.data=.fields vs)
 (hn:["enumerate","zip","dict_itemiterator","dict_reverseitemiterator","odict_iterator","itertools.zip_longest","itertools.pairwise"].contains n=false) (hQ:Q () s):wpAny M A (letOwnedTupleGo tg (.ref it) u) Q E s:=by
 unfold letOwnedTupleGo;cases tg<;>first
  |exact iu hQ
  | (cases u<;>first
   |exact iu hQ
   | (refine iq (wpAny_load ho ?_)
      rw[hc,hd];show wpAny M A (if(["enumerate","zip","dict_itemiterator","dict_reverseitemiterator","odict_iterator","itertools.zip_longest","itertools.pairwise"].contains n&&vs[0]?==some (rawInt _))=true then _ else _) Q E s;rw[ip (by intro h;rw[hn,Bool.false_and]at h;cases h)];exact iu hQ))
noncomputable def Itl(K:Frag)(a:Addr):It:=
 ⟨λi H=>∃xs x,SqL K H a xs/\xs[i]?=some x,λi H x H'=>H'=H/\∀xs,SqL K H a xs->xs[i]?=some x,λi H=>∃xs,SqL K H a xs/\96<=i⟩
noncomputable def Itt(K:Frag)(a:Addr):It:=
 ⟨λi H=>∃xs x,SqT K H a xs/\xs[i]?=some x,λi H x H'=>H'=H/\∀xs,SqT K H a xs->xs[i]?=some x,λi H=>∃xs,SqT K H a xs/\96<=i⟩
noncomputable def Itr(lo:Int)(n:Nat):It:=⟨λi _=>i<n,λi H x H'=>H'=H/\x=.int (lo+i),λi _=>n<=i⟩
def SG{P:Program}{w:World}{K:Frag}{tg:Expr}(a it:Addr):Turn P w K tg (Itl K a) [it] it (λi h=>h.IsListIter it a i) where
 mem:=by simp
 obj:=λi h st b hb=>by
  have e:b=it:=by simpa using hb
  subst e;obtain⟨o,e,c,d⟩:=st;exact⟨o,e,λv z=>by rw[d]at z;cases z⟩
 keep:=λi h h' st k=>st.at λo e=>k it 71 o e
 item:=by
  intro X hP hw hK hc i pins s σ H E I hf st hg;subst hP hw hK;obtain⟨xs,x,hq,hx⟩:=hg;obtain⟨its,rv,p,hz⟩:=I.list hq;obtain⟨u,hu,ru⟩:=rv.get hx;obtain⟨f0,f1,f2,f3,f4,f5⟩:=hf it 71;refine wpAny_pyNext_list_item st p.isList (x:=u) (by simpa using hu) λh' st' sb=>?_;have I1:Inv X pins σ H { s with heap:=h' }:=I.turned (t':=s.toks) (λb o hb e=>(sb.2 b hb).trans e) f0 f1 f3 f4 f5;obtain⟨o,e,c,d⟩:=id st';exact⟨u,rfl,Rf (s:={ s with heap:=h' }) e c d 95 ⟨x,H,I1,ru,⟨rfl,λys hy=>by rw[I.list_inj hy hq];exact hx⟩,st',λb hb=>(hf b hb).1⟩⟩
 done:=by
  intro X hP hw hK hc i pins s σ H E I hf st hg;subst hP hw hK;obtain⟨xs,hq,hx⟩:=hg;obtain⟨its,rv,p,hz⟩:=I.list hq;obtain⟨f0,f1,f2,f3,f4,f5⟩:=hf it 71;have hl:=rv.length;exact wpAny_pyNext_list_end (I.ok.hd hc) st p.isList 82 λh' eb=>⟨rfl,I.turned (t':=s.toks) (λb o hb e=>eb b o hb e) f0 f1 f3 f4 f5⟩
 self:=λ_ _ _ _ _ st h=>wpAny_pyIter_listiter st h
def QD{P:Program}{w:World}{K:Frag}{tg:Expr}(a it:Addr):Turn P w K tg (Itt K a) [it] it (λi h=>h.IsTupleIter it a i) where
 mem:=by simp
 obj:=λi h st b hb=>by
  have e:b=it:=by simpa using hb
  subst e;obtain⟨o,e,c,d⟩:=st;exact⟨o,e,λv z=>by rw[d]at z;cases z⟩
 keep:=λi h h' st k=>st.at λo e=>k it 71 o e
 item:=by
  intro X hP hw hK hc i pins s σ H E I hf st hg;subst hP hw hK;obtain⟨xs,x,hq,hx⟩:=hg;obtain⟨its,rv,p,hz⟩:=I.tuple hq;obtain⟨u,hu,ru⟩:=rv.get hx;obtain⟨f0,f1,f2,f3,f4,f5⟩:=hf it 71;refine wpAny_pyNext_tuple_item st (show s.heap.IsTuple a 107 from p) (x:=u) (by simpa using hu) λh' st' sb=>?_;have I1:Inv X pins σ H { s with heap:=h' }:=I.turned (t':=s.toks) (λb o hb e=>(sb.2 b hb).trans e) f0 f1 f3 f4 f5;obtain⟨o,e,c,d⟩:=id st';exact⟨u,rfl,Rf (s:={ s with heap:=h' }) e c d 95 ⟨x,H,I1,ru,⟨rfl,λys hy=>by rw[I.tuple_inj hy hq];exact hx⟩,st',λb hb=>(hf b hb).1⟩⟩
 done:=by
  intro X hP hw hK hc i pins s σ H E I hf st hg;subst hP hw hK;obtain⟨xs,hq,hx⟩:=hg;obtain⟨its,rv,p,hz⟩:=I.tuple hq;obtain⟨f0,f1,f2,f3,f4,f5⟩:=hf it 71;have hl:=rv.length;exact wpAny_pyNext_tuple_end (I.ok.hd hc) st (show s.heap.IsTuple a 107 from p) 82 λh' eb=>⟨rfl,I.turned (t':=s.toks) (λb o hb e=>eb b o hb e) f0 f1 f3 f4 f5⟩
 self:=λ_ _ _ _ _ st h=>wpAny_pyIter_tupleiter st h
def QH{P:Program}{w:World}{K:Frag}{tg:Expr}(it:Addr)(lo:Int)(n:Nat):Turn P w K tg (Itr lo n) [it] it (λi h=>IsRangeIter h it (lo+(i:Nat)*1) ((n:Int)-(i:Nat)) 1) where
 mem:=by simp
 obj:=λi h st b hb=>by
  have e:b=it:=by simpa using hb
  subst e;exact⟨_,st,λv z=>by
   have z':Data.fields _=Data.cell v:=z;cases z'⟩
 keep:=λi h h' st k=>k it 71 _ st
 item:=by
  intro X hP hw hK hc i pins s σ H E I hf st hg;subst hP hw hK;obtain⟨f0,f1,f2,f3,f4,f5⟩:=hf it 71;have W:=Walks.range (prog:=X.prog) (w:=X.w) (I.ok.hd hc) it lo 1 n;refine W.item i s _ _ hg st λv h' tk hv st' kk=>?_;obtain⟨t,rfl⟩:=hv;have I1:Inv X pins σ H { s with heap:=h',toks:=tk }:=I.turned (λb o hb e=>kk b o (by simpa using hb) e) f0 f1 f3 f4 f5;refine⟨_,rfl,Rf (s:={ s with heap:=h',toks:=tk }) (n:="range_iterator") st' rfl rfl 95 ⟨.int (lo+i),H,I1,⟨t,?_⟩,⟨rfl,rfl⟩,st',λb hb=>(hf b hb).1⟩⟩;rw[Int.mul_one]
 done:=by
  intro X hP hw hK hc i pins s σ H E I hf st hg;subst hP hw hK;obtain⟨f0,f1,f2,f3,f4,f5⟩:=hf it 71;exact wpAny_pyNext_range_end (I.ok.hd hc) st (by have:n<=i:=hg;omega) λh' eb=>⟨rfl,I.turned (t':=s.toks) (λb o hb e=>eb b o hb e) f0 f1 f3 f4 f5⟩
 self:=λ_ _ _ _ _ st h=>wpAny_pyIter_rangeiter st h
section
variable{X:Cx}{tg:Expr}
noncomputable def Gk(K:Frag)(tl:TE):TI:=λσ H R=>tl σ H λx H1=>∃a,x=.ref a/\(∃xs,SqL K H1 a xs)/\R (Itl K a) H1
noncomputable def OG(K:Frag)(tl:TE):TI:=λσ H R=>tl σ H λx H1=>∃a,x=.ref a/\(∃xs,SqT K H1 a xs)/\R (Itt K a) H1
def ZJ{l:Expr}{tl:TE}(hl:PE X l tl):PI X tg l (Gk X.K tl):=by
 intro pins s σ H R I h;refine thn (hl pins s σ H _ I h) λv s1 ⟨x,H1,I1,r1,q1⟩=>?_;obtain⟨a,e,⟨xs,hq⟩,q⟩:=q1;subst e;cases r1;obtain⟨its,rv,p,hz⟩:=I1.list hq;refine kD p.isList ?_;refine⟨189,[189],_,_,H1,rfl,I1.kept (t':=s1.toks) λb o e=>72 _ e,SG a _,⟨_,87 _ rfl,rfl,rfl⟩,λb hb=>?_,q⟩;have e:b=s1.heap.objs.size:=by simpa using hb
 subst e;exact I1.fpOk (ir _) (I1.hok.fresh (ir _))
def cW{l:Expr}{tl:TE}(hl:PE X l tl):PI X tg l (OG X.K tl):=by
 intro pins s σ H R I h;refine thn (hl pins s σ H _ I h) λv s1 ⟨x,H1,I1,r1,q1⟩=>?_;obtain⟨a,e,⟨xs,hq⟩,q⟩:=q1;subst e;cases r1;obtain⟨its,rv,p,hz⟩:=I1.tuple hq;refine wpAny_pyIter_tuple (show s1.heap.IsTuple a 107 from p) ?_;refine⟨189,[189],_,_,H1,rfl,I1.kept (t':=s1.toks) λb o e=>72 _ e,QD a _,⟨_,87 _ rfl,rfl,rfl⟩,λb hb=>?_,q⟩;have e:b=s1.heap.objs.size:=by simpa using hb
 subst e;exact I1.fpOk (ir _) (I1.hok.fresh (ir _))
def VI{pins:90}{σ:St}{H:Hp}{s:120}{R:It->Hp->Prop}{E:78}{lo hi:Int}{t u v:Tok}{tk:Nat}(I:76)(h1:-(2^62)<=lo)(h2:lo<2^62)(h3:-(2^62)<=hi)(h4:hi<2^62)
 (q:R (Itr lo (hi-lo).toNat) H):wpAny 70 X.A (pyIter (.ref 65)) (PIE X pins σ tg R) E { s with heap:=s.heap.push { cls:=.type "range",data:=.fields #[.int lo t,.int hi u,.int 1 v] },toks:=tk }:=by
 refine wpAny_pyIter_range (IsRange.new ..) (small_one h1 h2 h3 h4) ?_;have I1:Inv X pins σ H { s with heap:=s.heap.push { cls:=.type "range",data:=.fields #[.int lo t,.int hi u,.int 1 v] },toks:=tk }:=I.kept λb o e=>72 _ e;refine⟨(s.heap.push { cls:=.type "range",data:=.fields #[.int lo t,.int hi u,.int 1 v] }).objs.size,[(s.heap.push { cls:=.type "range",data:=.fields #[.int lo t,.int hi u,.int 1 v] }).objs.size],_,_,H,rfl,
  I1.kept (t':=tk) λb o e=>72 _ e,QH _ lo (hi-lo).toNat,?_,λb hb=>?_,q⟩
 .have e1:lo+((0:Nat):Int)*1=lo:=by simp
  have e2:(((hi-lo).toNat:Nat):Int)-((0:Nat):Int)=Builtin.Range.rangeSize lo hi 1:=by rw[rangeSize_one];split<;>omega
  show IsRangeIter _ _ (lo+((0:Nat):Int)*1) ((((hi-lo).toNat:Nat):Int)-((0:Nat):Int)) 1;rw[e1,e2];exact 87 _ rfl
 .have e:b=(s.heap.push { cls:=.type "range",data:=.fields #[.int lo t,.int hi u,.int 1 v] }).objs.size:=by simpa using hb
  subst e;exact I1.fpOk (ir _) (I1.hok.fresh (ir _))
noncomputable def Ra(ta:TA):TI:=λσ H R=>ta σ H λvs H1=>∃j:Int,vs=[.int j]/\-(2^62)<=j/\j<2^62/\R (Itr 0 j.toNat) H1
def TC{a:Expr}{ta:TA}{p pos:Pos}(hg:Gl X "range")(hm:X.mg "range"=none)(ha:PA X [a] ta)(hs:starEach [a] X.env=[(false,eval a X.env)]:=by rfl):PI X tg (.Call (.Name "range" p) [a] [] pos) (Ra ta):=by
 intro pins s σ H R I h;refine Call_ (FS I hg hm boot_range (PyProof.Rows.callWith_type1 (thn (ha pos pins s σ H _ I h) λus s1 ⟨vs,H1,I1,r1,q1⟩=>?_) hs rfl));obtain⟨j,e,q1,q2,q⟩:=q1;subst e;cases r1 with
 |cons r rr=>
  cases rr;obtain⟨t,rfl⟩:=r;exact call_range_1 (VI I1 68 68 q1 q2 (by simpa using q))
noncomputable def Uj(wi:TI)(g:TG)(tb:TS):TS:=λD σ H=>wi σ H λJ H1=>∃W:Nat->Nat->St->Hp->Prop,(∃m,W 0 m σ H1)/\∀i m σ H,W i m σ H ->
 (J.stop i H/\D.nx σ H)∨(J.go i H/\∃N:St->Hp->Prop,(∀σ' H',N σ' H'->∃m',m'<m/\W (i+1) m' σ' H')/\∀x H',J.yld i H x H'->g x σ H' λσ2 H2=>tb { D with nx:=N,ct:=N,bk:=D.nx } σ2 H2)
noncomputable def Ha(fp:111)(h:Heap):List (Addr×Obj):=fp.filterMap λb=>(h.get? b).map λo=>(b,o)
def El{fp:111}{h:Heap}{b:Addr}{o:Obj}(hb:b∈fp)(e:h.get? b=some o):(b,o)∈Ha fp h:=List.mem_filterMap.mpr ⟨b,hb,by rw[e];rfl⟩
def TL{fp:111}{h:Heap}{p:Addr×Obj}(hp:p∈Ha fp h):p.1∈fp/\h.get? p.1=some p.2:=by
 obtain⟨b,hb,e⟩:=List.mem_filterMap.mp hp;cases q:h.get? b with
 |none=>rw[q]at e;cases e
 |some o=>
  rw[q]at e;have e':(b,o)=p:=102 e;subst e';exact⟨hb,q⟩
def Inv.pinned{pins:90}{σ:St}{H:Hp}{s:120}{fp:111}(I:76)(hf:∀b∈fp,FpOk X pins H b)(ho:∀b∈fp,∃o,s.heap.get? b=some o/\∀v,o.data≠.cell v):Inv X (pins++Ha fp s.heap) σ H s:=
 I.pins_of λp hp=>(mem_append.mp hp).elim (λz=>I.pin p (j7 _ z)) λz=>by
  obtain⟨hb,e⟩:=TL z;obtain⟨f0,f1,f2,_⟩:=hf p.1 hb;obtain⟨o,e',d⟩:=ho p.1 hb;rw[e]at e';cases e';exact⟨e,f0,f1,f2,d⟩
def Inv.unpinned{pins pl:90}{σ:St}{H:Hp}{s:120}(I:Inv X (pins++pl) σ H s):Inv X pins σ H s:=I.pins_of λp hp=>I.pin p (j7 _ (jv _ hp))
def cU{iter:Expr}{body:List Stmt}{wi:TI}{g:TG}{tb:TS}{pos:Pos}(hp:PassesOwn 70 X.A X.env X.xe)(hc:164)(hi:PI X tg iter wi)(hg:PG X tg g)(hb:PSs X body tb)
 (hs:∀x,foldedSetIterable iter X.env x=pure x:=by intro _;rfl):PS X (.For tg iter body [] pos) (Uj wi g tb):=by
 intro pins s σ H D I h;refine wpAny_For (thn (hi pins s σ H _ I h) λv s1 h1=>thn h1 λitv s2 h2=>?_) hs;obtain⟨it,fp,tn,J,H2,e,I2,T,st2,f2,W,⟨m0,w0⟩,turn⟩:=h2;subst e
 -- what stays true of the iterator's objects through the loop
 have stat:∀{H':Hp},(∀b∈fp,H' b=none)->∀b∈fp,FpOk X pins H' b:=λhn b hb=>⟨hn b hb,(f2 b hb).2⟩
 refine codeAny_forLoop_any (λn s'=>∃i σ' H',Inv X pins σ' H' s'/\tn i s'.heap/\(∀b∈fp,H' b=none)/\W i n σ' H') ?_ m0 ⟨0,σ,H2,I2,st2,λb hb=>(f2 b hb).1,w0⟩;rintro n s3 ⟨i,σ3,H3,I3,st3,fr3,w3⟩;rcases turn i n σ3 H3 w3 with⟨stop,qn⟩|⟨go,N,hN,step⟩
 .refine kq hp (thn (T.done X rfl rfl rfl hc i pins s3 σ3 H3 X.xe I3 (stat fr3) st3 stop) λr s4 ⟨hr,I4⟩=>?_);subst hr;exact wpAny_execs_nil ⟨σ3,H3,I4,qn⟩
 .refine kq hp (thn (T.item X rfl rfl rfl hc i pins s3 σ3 H3 X.xe I3 (stat fr3) st3 go) λr s4 ⟨u,hr,h4⟩=>?_);subst hr;refine kq hp (thn h4 λ_ s5 ⟨x,H5,I5,r5,y5,st5,fr5⟩=>?_);have I5':=I5.pinned (stat fr5) (T.obj _ _ st5);refine kq hp (thn (hg _ s5 σ3 H5 x u _ I5' r5 (step x H5 y5)) λ_ s6 ⟨σ6,H6,I6,q6⟩=>?_);refine kq hp (thn (hb _ s6 σ6 H6 _ I6 q6) λf s7 q7=>?_);have again:∀{σ7:St} {H7:Hp},Inv X (pins++Ha fp s5.heap) σ7 H7 s7->N σ7 H7->∃m,m<n/\∃i σ' H',Inv X pins σ' H' s7/\tn i s7.heap/\(∀b∈fp,H' b=none)/\W i m σ' H':=λ{σ7 H7} I7 n7=>by
   obtain⟨m',hm,w7⟩:=hN σ7 H7 n7;refine⟨m',hm,i+1,σ7,H7,I7.unpinned,T.keep _ _ _ st5 λb hb o e=>(I7.pin (b,o) (j7 _ (j7 _ (El hb e)))).1,λb hb=>?_,w7⟩;obtain⟨o,e,d⟩:=T.obj _ _ st5 b hb;exact(I7.pin (b,o) (j7 _ (j7 _ (El hb e)))).2.1
  cases f with
  |next=>obtain⟨σ7,H7,I7,n7⟩:=q7;exact again I7 n7
  |cont=>obtain⟨σ7,H7,I7,n7⟩:=q7;exact again I7 n7
  |brk=>obtain⟨σ7,H7,I7,q7⟩:=q7;exact⟨σ7,H7,I7.unpinned,q7⟩
  |ret v=>obtain⟨x7,σ7,H7,I7,r7,q7⟩:=q7;exact⟨x7,σ7,H7,I7.unpinned,r7,q7⟩
end
noncomputable abbrev R2:=V->V->Hp->VK->Prop
def OpR(X:Cx)(f:Value->Value->Sem Value)(r:R2):Prop:=
 ∀(pins:90) (s:120) (σ:St) (H:Hp) (x y:V) (v u:168) (Q:VK),Inv X pins σ H s->RelV x v->RelV y u->r x y H Q ->
   wpAny 70 X.A (f v u) 191 X.xe s
def UnR(X:Cx)(f:Value->Sem Value)(r:V->Hp->VK->Prop):Prop:=
 ∀(pins:90) (s:120) (σ:St) (H:Hp) (x:V) (v:168) (Q:VK),Inv X pins σ H s->RelV x v->r x H Q ->
   wpAny 70 X.A (f v) 191 X.xe s
def CallR(X:Cx)(f:168)(r:List V->Hp->VK->Prop):Prop:=
 ∀(pins:90) (s:120) (σ:St) (H:Hp) (xs:155) (us:83) (Q:VK),Inv X pins σ H s->Vals xs us->r xs H Q ->
   wpAny 70 X.A (call f us) 191 X.xe s
def gw(X:Cx)(r:V->Hp->(Bool->Hp->Prop)->Prop):Prop:=
 ∀(pins:90) (s:120) (σ:St) (H:Hp) (x:V) (v:168) (Q:Bool->Hp->Prop),Inv X pins σ H s->RelV x v->r x H Q ->
   wpAny 70 X.A (truthy v) (TP X pins σ Q) X.xe s
noncomputable def tOp(r:R2)(ta tb:TE):TE:=λσ H Q=>ta σ H λx H1=>tb σ H1 λy H2=>r x y H2 Q
noncomputable def tUn(r:V->Hp->VK->Prop)(ta:TE):TE:=λσ H Q=>ta σ H λx H1=>r x H1 Q
noncomputable def rI(C:Int->Int->Prop)(g:Int->Int->V):R2:=λx y H Q=>∃i j,x=.int i/\y=.int j/\C i j/\Q (g i j) H
noncomputable def rI0(g:Int->Int->V):R2:=λx y H Q=>∃i j,x=.int i/\y=.int j/\Q (g i j) H
def rU(g:Int->V):V->Hp->VK->Prop:=λx H Q=>∃i,x=.int i/\Q (g i) H
section
variable{X:Cx}{a b c:Expr}{ta tb tc:TE}{pos:Pos}
def Wn(ha:PE X a ta)(hb:PE X b tb){pins:90}{s:120}{σ:St}{H:Hp}{R:V->V->Hp->Prop}(I:76)
 (h:ta σ H λx H1=>tb σ H1 λy H2=>R x y H2) {Q:78} {f:Value->Value->Sem Value}
 (hf:∀v u s2 x y H2,Inv X pins σ H2 s2->RelV x v->RelV y u->R x y H2->wpAny 70 X.A (f v u) Q X.xe s2):
 wpAny 70 X.A (eval a X.env) (λv s₁=>wpAny 70 X.A (eval b X.env) (λu s₂=>wpAny 70 X.A (f v u) Q X.xe s₂) X.xe s₁) X.xe s:=by
 refine thn (ha pins s σ H _ I h) λv s1 ⟨x,H1,I1,r1,q1⟩=>?_;refine thn (hb pins s1 σ H1 _ I1 q1) λu s2 ⟨y,H2,I2,r2,q2⟩=>?_;exact hf v u s2 x y H2 I2 r1 r2 q2
def Qv{op:Operator}{r:R2}(ho:OpR X (binaryOp op) r)(ha:PE X a ta)(hb:PE X b tb):PE X (.BinOp a op b pos) (tOp r ta tb):=by
 intro pins s σ H Q I h;exact wpAny_BinOp (Wn ha hb I h λv u s2 x y H2 I2 rx ry q=>ho pins s2 σ H2 x y v u Q I2 rx ry q)
def fM{op:UnaryOp}{r:V->Hp->VK->Prop}(ho:UnR X (unaryOp op) r)(ha:PE X a ta):PE X (.UnaryOp op a pos) (tUn r ta):=by
 intro pins s σ H Q I h;exact UnaryOp_ (thn (ha pins s σ H _ I h) λv s1 ⟨x,H1,I1,r1,q1⟩=>ho pins s1 σ H1 x v Q I1 r1 q1)
def opI{f:Value->Value->Sem Value}{C:Int->Int->Prop}{g:Int->Int->Int}
 (rule:∀(i j:Int) (t u:Tok) (s:120) (Q:78) (E:78),C i j->Q (.int (g i j) s.toks) { s with toks:=s.toks+1 }->wpAny 70 X.A (f (.int i t) (.int j u)) Q E s):
 OpR X f (rI C λi j=>.int (g i j)):=by
 intro pins s σ H x y v u Q I rx ry h;obtain⟨i,j,rfl,rfl,hc,q⟩:=h;obtain⟨t,rfl⟩:=rx;obtain⟨t',rfl⟩:=ry;exact rule i j t t' s _ _ hc ⟨.int (g i j),H,I.tok _,⟨_,rfl⟩,q⟩
def Vw{f:Value->Value->Sem Value}{g:Int->Int->Int}
 (rule:∀(i j:Int) (t u:Tok) (s:120) (Q:78) (E:78),Q (.int (g i j) s.toks) { s with toks:=s.toks+1 }->wpAny 70 X.A (f (.int i t) (.int j u)) Q E s):
 OpR X f (rI0 λi j=>.int (g i j)):=by
 intro pins s σ H x y v u Q I rx ry h;obtain⟨i,j,rfl,rfl,q⟩:=h;obtain⟨t,rfl⟩:=rx;obtain⟨t',rfl⟩:=ry;exact rule i j t t' s _ _ ⟨.int (g i j),H,I.tok _,⟨_,rfl⟩,q⟩
def R8{f:Value->Value->Sem Value}{g:Int->Int->Bool}
 (rule:∀(i j:Int) (t u:Tok) (s:120) (Q:78) (E:78),Q (.bool (g i j)) s->wpAny 70 X.A (f (.int i t) (.int j u)) Q E s):
 OpR X f (rI0 λi j=>.bl (g i j)):=by
 intro pins s σ H x y v u Q I rx ry h;obtain⟨i,j,rfl,rfl,q⟩:=h;obtain⟨t,rfl⟩:=rx;obtain⟨t',rfl⟩:=ry;exact rule i j t t' s _ _ ⟨.bl (g i j),H,I,rfl,q⟩
def eT(i j:Int):Prop:=0<j/\j<1073741824
def S5(i j:Int):Prop:=0<=j/\j<=1000000/\i.natAbs<2^64
def CMul(i j:Int):Prop:=(-(2^64)<i/\i<2^64)∨(-(2^64)<j/\j<2^64)
def CMul.ok{i j:Int}(h:CMul i j):IntMulOk i j:=by
 rcases h with⟨h1,h2⟩|⟨h1,h2⟩
 .exact .of_left (intBits_le_64 h1 h2)
 .exact .of_right (intBits_le_64 h1 h2)
def QC(k:Nat):(0:Int)<=2^k:=by
 rw[two_pow_cast];exact Int.natCast_nonneg _
def dN:OpR X (binaryOp .Add) (rI0 λi j=>.int (i+j)):=Vw λ_ _ _ _ _ _ _ q=>add_int q
def d6:OpR X (binaryOp .Sub) (rI0 λi j=>.int (i-j)):=Vw λ_ _ _ _ _ _ _ q=>sub_int q
def dF:OpR X (binaryOp .Mult) (rI CMul λi j=>.int (i*j)):=opI λ_ _ _ _ _ _ _ hc q=>mul_int q hc.ok
def ZW:OpR X (binaryOp .FloorDiv) (rI eT λi j=>.int (i/j)):=opI λi j _ _ _ _ _ hc q=>by
 have h1:(0:Int)<j:=hc.1;have h2:j<1073741824:=hc.2;exact floordiv_int 68 (by rw[Int.fdiv_eq_ediv_of_nonneg i 68];exact q) (.inl (PyProof.noPylong_small 68))
def dG:OpR X (binaryOp .Mod) (rI (λ_ j=>0<j) λi j=>.int (i%j)):=opI λi j _ _ _ _ _ hc q=>by
 have h1:(0:Int)<j:=hc;exact mod_int' 68 (by rw[Int.fmod_eq_emod_of_nonneg i 68];exact q)
def dD:OpR X (binaryOp .Pow) (rI S5 λi j=>.int (i^j.toNat)):=opI λ_ _ _ _ _ _ _ hc q=>pow_int_small hc.1 hc.2.1 hc.2.2 q
def d8:OpR X (binaryOp .LShift) (rI S5 λi j=>.int (i*2^j.toNat)):=opI λ_ _ _ _ _ _ _ hc q=>lshift_int_small hc.1 hc.2.1 hc.2.2 q
def d7:OpR X (binaryOp .RShift) (rI (λ_ j=>0<=j) λi j=>.int (i/2^j.toNat)):=opI λi j _ _ _ _ _ hc q=>
 rshift_int hc (by rw[Int.fdiv_eq_ediv_of_nonneg i (QC _)];exact q)
def dM:OpR X (binaryOp .BitAnd) (rI0 λi j=>.int (Builtin.bitAnd i j)):=Vw λ_ _ _ _ _ _ _ q=>and_int q
def unI{f:Value->Sem Value}{g:Int->Int}
 (rule:∀(i:Int) (t:Tok) (s:120) (Q:78) (E:78),Q (.int (g i) s.toks) { s with toks:=s.toks+1 }->wpAny 70 X.A (f (.int i t)) Q E s):
 UnR X f (rU λi=>.int (g i)):=by
 intro pins s σ H x v Q I rx h;obtain⟨i,rfl,q⟩:=h;obtain⟨t,rfl⟩:=rx;exact rule i t s _ _ ⟨.int (g i),H,I.tok _,⟨_,rfl⟩,q⟩
def aU:UnR X (unaryOp .USub) (rU λi=>.int (-i)):=unI λ_ _ _ _ _ q=>neg_int q
end
noncomputable def NV:V->V->Bool
 |.non,.non=>true|.non,.int _=>true|.int _,.non=>true|.non,.bl _=>true|.bl _,.non=>true|.non,.str _=>true|.str _,.non=>true
 |.int _,.int _=>true|.bl _,.bl _=>true|.str _,.str _=>true|.byt _,.byt _=>true
 |.int _,.str _=>true|.str _,.int _=>true|.bl _,.str _=>true|.str _,.bl _=>true
 |_,_=>false
noncomputable def rEq:R2:=λx y H Q=>NV x y=true/\Q (.bl (decide (x=y))) H
noncomputable def rNe:R2:=λx y H Q=>NV x y=true/\Q (.bl (!decide (x=y))) H
def Pz{i j:Int}:decide (V.int i=V.int j)=(i==j):=by
 rw[Bool.eq_iff_iff];simp
def U0{i j:Bool}:decide (V.bl i=V.bl j)=(i==j):=by
 rw[Bool.eq_iff_iff];simp
def Py{i j:Str}:decide (V.str i=V.str j)=(i==j):=by
 rw[Bool.eq_iff_iff];simp
def Q0{i j:Array UInt8}:decide (V.byt i=V.byt j)=(i.toList==j.toList):=by
 rw[Bool.eq_iff_iff];cases i;cases j;simp
section
variable{X:Cx}{a b c:Expr}{ta tb tc:TE}{pos:Pos}
def Am{pins:90}{σ:St}{H:Hp}{s:120}{Q:VK}{k k':Bool}(I:76)(q:Q (.bl k) H)(e:k=k'):EP X pins σ Q (.bool k') s:=by
 subst e;exact⟨.bl k,H,I,rfl,q⟩
def XW:OpR X (compareOp .Eq) rEq:=by
 intro pins s σ H x y v u Q I rx ry h;obtain⟨hs,q⟩:=h;cases x with
 |non=>
  cases rx;cases y with
  |non=>cases ry;exact PySem.EqNone.eq_none_none (Am I q 71)
  |bl j=>cases ry;exact PySem.EqNone.eq_none_bool (Am I q 71)
  |int j=>obtain⟨t',rfl⟩:=ry;exact PySem.EqNone.eq_none_int (Am I q 71)
  |str j=>obtain⟨t',rfl⟩:=ry;exact PySem.EqNone.eq_none_str (Am I q 71)
  |_=>exact absurd (show false=true from hs) 106
 |bl i=>
  cases rx;cases y with
  |non=>cases ry;exact PySem.EqNone.eq_bool_none (Am I q 71)
  |bl j=>cases ry;exact eq_bool (Am I q U0)
  |str j=>obtain⟨t',rfl⟩:=ry;exact PySem.EqMixed.eq_bool_str (Am I q 71)
  |_=>exact absurd (show false=true from hs) 106
 |int i=>
  obtain⟨t,rfl⟩:=rx;cases y with
  |non=>cases ry;exact PySem.EqNone.eq_int_none (Am I q 71)
  |int j=>obtain⟨t',rfl⟩:=ry;exact eq_int (Am I q Pz)
  |str j=>obtain⟨t',rfl⟩:=ry;exact PySem.EqMixed.eq_int_str (Am I q 71)
  |_=>exact absurd (show false=true from hs) 106
 |str i=>
  obtain⟨t,rfl⟩:=rx;cases y with
  |non=>cases ry;exact PySem.EqNone.eq_str_none (Am I q 71)
  |bl j=>cases ry;exact PySem.EqMixed.eq_str_bool (Am I q 71)
  |int j=>obtain⟨t',rfl⟩:=ry;exact PySem.EqMixed.eq_str_int (Am I q 71)
  |str j=>obtain⟨t',rfl⟩:=ry;exact eq_str (Am I q Py)
  |_=>exact absurd (show false=true from hs) 106
 |byt i=>
  obtain⟨t,rfl⟩:=rx;cases y with
  |byt j=>obtain⟨t',rfl⟩:=ry;exact PySem.W.eq_bytes (Am I q Q0)
  |_=>exact absurd (show false=true from hs) 106
 |_=>cases y<;>exact absurd (show false=true from hs) 106
def XU:OpR X (compareOp .NotEq) rNe:=by
 intro pins s σ H x y v u Q I rx ry h;obtain⟨hs,q⟩:=h;cases x with
 |non=>
  cases rx;cases y with
  |non=>cases ry;exact PySem.EqNone.ne_none_none (Am I q 71)
  |bl j=>cases ry;exact PySem.EqNone.ne_none_bool (Am I q 71)
  |int j=>obtain⟨t',rfl⟩:=ry;exact PySem.EqNone.ne_none_int (Am I q 71)
  |str j=>obtain⟨t',rfl⟩:=ry;exact PySem.EqNone.ne_none_str (Am I q 71)
  |_=>exact absurd (show false=true from hs) 106
 |bl i=>
  cases rx;cases y with
  |non=>cases ry;exact PySem.EqNone.ne_bool_none (Am I q 71)
  |bl j=>cases ry;exact ne_bool (Am I q (jm not U0))
  |str j=>obtain⟨t',rfl⟩:=ry;exact PySem.EqMixed.ne_bool_str (Am I q 71)
  |_=>exact absurd (show false=true from hs) 106
 |int i=>
  obtain⟨t,rfl⟩:=rx;cases y with
  |non=>cases ry;exact PySem.EqNone.ne_int_none (Am I q 71)
  |int j=>obtain⟨t',rfl⟩:=ry;exact ne_int (Am I q (jm not Pz))
  |str j=>obtain⟨t',rfl⟩:=ry;exact PySem.EqMixed.ne_int_str (Am I q 71)
  |_=>exact absurd (show false=true from hs) 106
 |str i=>
  obtain⟨t,rfl⟩:=rx;cases y with
  |non=>cases ry;exact PySem.EqNone.ne_str_none (Am I q 71)
  |bl j=>cases ry;exact PySem.EqMixed.ne_str_bool (Am I q 71)
  |int j=>obtain⟨t',rfl⟩:=ry;exact PySem.EqMixed.ne_str_int (Am I q 71)
  |str j=>obtain⟨t',rfl⟩:=ry;exact ne_str (Am I q (jm not Py))
  |_=>exact absurd (show false=true from hs) 106
 |byt i=>
  obtain⟨t,rfl⟩:=rx;cases y with
  |byt j=>obtain⟨t',rfl⟩:=ry;exact PySem.W.ne_bytes (Am I q (jm not Q0))
  |_=>exact absurd (show false=true from hs) 106
 |_=>cases y<;>exact absurd (show false=true from hs) 106
def Qy:OpR X (compareOp .Lt) (rI0 λi j=>.bl (decide (i<j))):=R8 λ_ _ _ _ _ _ _ q=>lt_int q
def Qz:OpR X (compareOp .LtE) (rI0 λi j=>.bl (decide (i<=j))):=R8 λ_ _ _ _ _ _ _ q=>le_int q
def XV:OpR X (compareOp .Gt) (rI0 λi j=>.bl (decide (j<i))):=R8 λ_ _ _ _ _ _ _ q=>gt_int q
def fR:OpR X (compareOp .GtE) (rI0 λi j=>.bl (decide (j<=i))):=R8 λ_ _ _ _ _ _ _ q=>ge_int q
def OpR.or{f:Value->Value->Sem Value}{r r':R2}(h:OpR X f r)(h':OpR X f r'):OpR X f (λx y H Q=>r x y H Q∨r' x y H Q):=by
 intro pins s σ H x y v u Q I rx ry q;rcases q with q|q
 .exact h pins s σ H x y v u Q I rx ry q
 .exact h' pins s σ H x y v u Q I rx ry q
def Hc(b:Expr){op:CmpOp}(h:op≠.In:=by decide)(h2:op≠.NotIn:=by decide):behindInMarks op b=false:=by
 have e1:(op==CmpOp.In)=false:=by cases op<;>first|rfl|exact absurd rfl h
 have e2:(op==CmpOp.NotIn)=false:=by cases op<;>first|rfl|exact absurd rfl h2
 cases b<;>simp[behindInMarks,e1,e2]
def ZQ{op:CmpOp}{r:R2}(ho:OpR X (compareOp op) r)(ha:PE X a ta)(hb:PE X b tb)(hm:behindInMarks op b=false):PE X (.Compare a [op] [b] pos) (tOp r ta tb):=by
 intro pins s σ H Q I h;exact wpAny_Compare1 (Wn ha hb I h λv u s2 x y H2 I2 rx ry q=>ho pins s2 σ H2 x y v u Q I2 rx ry q) hm
noncomputable def Fh(t:TE):TT:=λσ H Q=>t σ H λx H'=>∃k,x=.bl k/\Q k H'
def IL{op:CmpOp}{r:R2}(ho:OpR X (compareOp op) r)(ha:PE X a ta)(hb:PE X b tb)(hm:behindInMarks op b=false):PT X (.Compare a [op] [b] pos) (Fh (tOp r ta tb)):=by
 intro pins s σ H Q I h;refine wpAny_isTrue_Compare1 (thn (ha pins s σ H _ I h) λv s1 ⟨x,H1,I1,r1,q1⟩=>thn (hb pins s1 σ H1 _ I1 q1) λu s2 ⟨y,H2,I2,r2,q2⟩=>
  thn (ho pins s2 σ H2 x y v u _ I2 r1 r2 q2) λc s3 ⟨z,H3,I3,r3,k,e,q3⟩=>?_) hm
 subst e;cases r3;exact jS ⟨H3,I3,q3⟩
noncomputable def NH(r r':R2)(ta tb tc:TE):TE:=λσ H Q=>ta σ H λx H1=>tb σ H1 λy H2=>r x y H2 λz H3=>∃k,z=.bl k /\
 (if k=true then tc σ H3 λw' H4=>r' y w' H4 Q else Q (.bl false) H3)
def Vg{op op':CmpOp}{r r':R2}(ho:OpR X (compareOp op) r)(ho':OpR X (compareOp op') r')(ha:PE X a ta)(hb:PE X b tb)(hc:PE X c tc)
 (hm:lastMarks [op,op'] [b,c]=false:=by with_unfolding_all rfl):PT X (.Compare a [op,op'] [b,c] pos) (Fh (NH r r' ta tb tc)):=by
 intro pins s σ H Q I h;refine isTrue_chain (thn (ha pins s σ H _ I h) λv s1 ⟨x,H1,I1,r1,q1⟩=>test_link (thn (hb pins s1 σ H1 _ I1 q1) λu s2 ⟨y,H2,I2,r2,q2⟩=>
  thn (ho pins s2 σ H2 x y v u _ I2 r1 r2 q2) λd s3 ⟨z,H3,I3,r3,k,e,q3⟩=>?_)) hm
 subst e;cases r3;refine jS ?_;cases k with
 |false=>
  obtain⟨k',e',q'⟩:=q3;cases e';exact ite_ff ⟨H3,I3,q'⟩
 |true=>
  refine ite_tt (test_last (thn (hc pins s3 σ H3 _ I3 q3) λw' s4 ⟨z',H4,I4,r4,q4⟩=>thn (ho' pins s4 σ H4 y z' u w' _ I4 r2 r4 q4) λd' s5 ⟨z2,H5,I5,r5,k2,e2,q5⟩=>?_));subst e2;cases r5;exact jS ⟨H5,I5,q5⟩
def Oj(K:Frag)(x:V)(H:Hp)(k:Bool):Prop:=
 match x with
 |.non=>k=false
 |.bl b=>k=b
 |.int i=>k=(i != 0)
 |.str y=>y.length<=sizeLine/\k=((y.length:Int) != 0)
 |.byt y=>y.size<=sizeLine/\k=((y.size:Int) != 0)
 |.ref p=>(∃xs,SqL K H p xs/\k=!xs.isEmpty)∨(∃xs,SqT K H p xs/\k=!xs.isEmpty)∨∃kvs,H p=some (.dK kvs)/\k=!kvs.isEmpty
 |_=>False
def RX{κ:Type}{kvs:List (κ×V)}{vs:List (κ×Value)}(r:KV kvs vs):(!vs.isEmpty)=!kvs.isEmpty:=by
 cases r<;>rfl
def KN{xs:155}{its:83}(r:Vals xs its):(!its.toArray.isEmpty)=!xs.isEmpty:=by
 cases r<;>simp
def FR:(sizeLine:Nat)<2^63:=by rw[jt];decide
def aW:gw X (λx H Q=>∃k,Oj X.K x H k/\Q k H):=by
 intro pins s σ H x v Q I rx h;obtain⟨k,e,q⟩:=h;have hl:=FR;have hs:sizeLine=16777216:=jt;cases x with
 |non=>
  cases rx;have e':k=false:=e;subst e';exact truthy_none ⟨H,I,q⟩
 |bl b=>
  cases rx;have e':k=b:=e;subst e';exact jS ⟨H,I,q⟩
 |int i=>
  obtain⟨t,rfl⟩:=rx;have e':k=(i != 0):=e;subst e';exact PySem.P.truthy_int ⟨H,I,q⟩
 |str y=>
  obtain⟨t,rfl⟩:=rx;obtain⟨hy,e'⟩:y.length<=sizeLine/\k=((y.length:Int) != 0):=e;subst e';exact PySem.P.truthy_str 68 ⟨H,I.tok _,q⟩
 |byt y=>
  obtain⟨t,rfl⟩:=rx;obtain⟨hy,e'⟩:y.size<=sizeLine/\k=((y.size:Int) != 0):=e;subst e';exact PySem.W.truthy_bytes 68 ⟨H,I.tok _,q⟩
 |ref p=>
  cases rx;have e':(∃xs,SqL X.K H p xs/\k=!xs.isEmpty)∨(∃xs,SqT X.K H p xs/\k=!xs.isEmpty)∨∃kvs,H p=some (.dK kvs)/\k=!kvs.isEmpty:=e;rcases e' with⟨xs,hx,e'⟩|⟨xs,hx,e'⟩|⟨kvs,hx,e'⟩
  .subst e';obtain⟨its,r,pl,hz⟩:=I.list hx;have hlen:=r.length;exact wpAny_truthy_list pl.isList (by simp only[iy];omega) ⟨H,I.tok _,by rw[KN r];exact q⟩
  .subst e';obtain⟨its,r,pl,hz⟩:=I.tuple hx;have hlen:=r.length;exact truthy_tuple pl (by simp only[iy];omega) ⟨H,I.tok _,by rw[KN r];exact q⟩
  .subst e';obtain⟨hz,hS,vs,r,m⟩:kvs.length<=sizeLine/\(p==sysModules)=false/\∃vs,KV kvs vs/\s.heap.DictOf (Bn X.prog X.w) p vs:=I.hok p _ hx;have hlen:184=vs.length:=Paired.length r;exact wpAny_truthy_dict hS m 68 ⟨H,I.tok _,by rw[RX r];exact q⟩
 |_=>exact(show False from e).elim
def Vf(ha:PE X a ta)(he:∀whole,isTrue a X.env whole=(do let v <- whole;standAt a.pos;holding [v] (truthy v))):
 PT X a (λσ H Q=>ta σ H λx H'=>∃k,Oj X.K x H' k/\Q k H'):=by
 intro pins s σ H Q I h;exact isTrue_plain (thn (ha pins s σ H _ I h) λv s1 ⟨x,H1,I1,r1,q1⟩=>aW pins s1 σ H1 x v Q I1 r1 q1) (he _)
def BL{x:V}{us:83}(r:Vals [x] us):∃u,us=[u]/\RelV x u:=by
 cases r with
 |cons r1 r2=>cases r2;exact⟨_,rfl,r1⟩
def Mo{x y:V}{us:83}(r:Vals [x,y] us):∃u w',us=[u,w']/\RelV x u/\RelV y w':=by
 cases r with
 |cons r1 r2=>
  cases r2 with
  |cons r3 r4=>cases r4;exact⟨_,_,rfl,r1,r3⟩
def U9(hc:164):CallR X (.builtin "max") (λxs H Q=>∃i j,xs=[.int i,.int j]/\Q (.int (if j>i then j else i)) H):=by
 intro pins s σ H xs us Q I r h;obtain⟨i,j,rfl,q⟩:=h;obtain⟨u,w',rfl,⟨t,rfl⟩,⟨t',rfl⟩⟩:=Mo r;refine max_two_ints (I.ok.hd hc) λh' tk k=>⟨_,H,I.kept k,?_,q⟩
 by_cases hj:j>i
 .rw[il hj,il hj];exact⟨_,rfl⟩
 .rw[ip hj,ip hj];exact⟨_,rfl⟩
def U8(hc:164):CallR X (.builtin "min") (λxs H Q=>∃i j,xs=[.int i,.int j]/\Q (.int (if j<i then j else i)) H):=by
 intro pins s σ H xs us Q I r h;obtain⟨i,j,rfl,q⟩:=h;obtain⟨u,w',rfl,⟨t,rfl⟩,⟨t',rfl⟩⟩:=Mo r;refine min_two_ints (I.ok.hd hc) λh' tk k=>⟨_,H,I.kept k,?_,q⟩
 by_cases hj:j<i
 .rw[il hj,il hj];exact⟨_,rfl⟩
 .rw[ip hj,ip hj];exact⟨_,rfl⟩
def UC:CallR X (.type "int") (λxs H Q=>(∃i,xs=[.int i]/\Q 135 H)∨∃k,xs=[.bl k]/\Q (.int (if k then 1 else 0)) H):=by
 intro pins s σ H xs us Q I r h;rcases h with⟨i,rfl,q⟩|⟨k,rfl,q⟩
 .obtain⟨u,rfl,t,rfl⟩:=BL r;exact call_int_int ⟨.int i,H,I,⟨_,rfl⟩,q⟩
 .obtain⟨u,rfl,r1⟩:=BL r;cases r1;exact call_int_bool ⟨.int (if k then 1 else 0),H,I.tok _,⟨_,rfl⟩,q⟩
end
def RelO.some_of{v:V}{o:Option Value}(r:RelO (some v) o):∃u,o=some u/\RelV v u:=by
 cases o with
 |none=>exact(show False from r).elim
 |some u=>exact⟨u,rfl,r⟩
structure Room(k:Nat)(A:Around):Prop where
 hd:A.handled=none
 dp:A.depth+3*k+5<recursionLimit
 un:A.units+16*k+200<cLine
 gd:A.guards=some []
def Room.mono{j k:Nat}{A:Around}(r:Room k A)(h:j<=k):Room j A:=⟨r.hd,by have:=r.dp;omega,by have:=r.un;omega,r.gd⟩
theorem Room.deeper{k:Nat}{A:Around}(r:Room (k+1) A)(env:Env):Room k (A.deeper env):=
 ⟨r.hd,by have:=r.dp;show A.depth+1+3*k+5<_;omega,by have:=r.un;show A.units+3+16*k+200<_;omega,by first|exact r.gd|(simpa [Around.deeper,Around.under,Code.guards,Code.isGuard,pushGuards]using r.gd)⟩
theorem Room.in1{k:Nat}{A:Around}(r:Room (k+1) A):Room k A.in1:=
 ⟨r.hd,by have:=r.dp;show A.depth+3*k+5<_;omega,by have:=r.un;show A.units+1+16*k+200<_;omega,r.gd⟩
theorem Room.depth{k:Nat}{A:Around}(r:Room k A):A.depth<recursionLimit:=by have:=r.dp;omega
theorem Room.units{k:Nat}{A:Around}(r:Room k A):A.units+64<cLine:=by have:=r.un;omega
def Room.units0{k:Nat}{A:Around}(r:Room k A):A.units<cLine:=by have:=r.un;omega
noncomputable def BM:TA:=λ_ H Q=>Q [] H
noncomputable def BJ(ta:TE)(tr:TA):TA:=λσ H Q=>ta σ H λx H1=>tr σ H1 λxs H2=>Q (x::xs) H2
section
variable{X:Cx}{e:Expr}{es:List Expr}{te:TE}{t:TA}{pos:Pos}
def CC:PA X [] BM:=λ_ _ _ _ H Q I h=>Calls.spliced_nil ⟨[],H,I,.nil,h⟩
def Bm(ha:PE X e te)(hr:PA X es t)(hs:starEach 179 X.env=109::starEach es X.env:=by rfl):PA X 179 (BJ te t):=by
 intro pos pins s σ H Q I h;rw[hs];show wpAny _ _ (spliced (109::backTo pos 149)) _ _ s;refine Calls.spliced_cons (thn (ha pins s σ H _ I h) λu s1 ⟨x,H1,I1,r1,q1⟩=>?_);exact thn (hr pos pins s1 σ H1 _ I1 q1) λus s2 ⟨xs,H2,I2,r2,q2⟩=>⟨x::xs,H2,I2,.cons r1 r2,q2⟩
noncomputable def Ub(t:TA):TE:=λσ H Q=>t σ H λxs H1=>96<=sizeLine/\∀p,H1 p=none->Q (.ref p) (upd H1 p (.tup xs))
noncomputable def Uf(t:TA):TE:=λσ H Q=>t σ H λxs H1=>96<=sizeLine/\∀p,H1 p=none->Q (.ref p) (upd H1 p 158)
def cf{x1}(h:PA X es t):PE X (.Tuple es x1 pos) (Ub t):=by
 intro pins s σ H Q I hq;refine wpAny_Tuple_spliced (thn (h pos pins s σ H _ I hq) λus s1 ⟨xs,H1,I1,r,z,q⟩=>⟨by rw[<- r.length];exact z,?_⟩);have hf:H1 189=none:=I1.hok.fresh (ir _);refine⟨.ref 189,upd H1 189 (.tup xs),I1.laid (t':=s1.toks) (λb u e=>72 _ e) (ir _) ?_,rfl,q _ hf⟩;exact⟨z,us,r,⟨_,87 _ rfl,rfl,⟨_,rfl⟩,rfl⟩⟩
def cm(h:PA X es t):PE X (.List es pos) (Uf t):=by
 intro pins s σ H Q I hq;refine wpAny_List_spliced (thn (h pos pins s σ H _ I hq) λus s1 ⟨xs,H1,I1,r,z,q⟩=>⟨by rw[<- r.length];exact z,?_⟩);have hf:H1 189=none:=I1.hok.fresh (ir _);refine⟨.ref 189,upd H1 189 158,I1.laid (t':=s1.toks) (λb u e=>72 _ e) (ir _) ?_,rfl,q _ hf⟩;exact⟨z,us,0,r,87 _ rfl⟩
end
noncomputable abbrev Sp:=List V->Hp->VK->XK->Prop
noncomputable abbrev CXT:=List Env->Hp->Shared->XK->Value->Shared->Prop
structure Env0(P:Program)(w:World)(K:Frag)(mg:130)(base:Heap)(A:Around)(outer:List Env)(s:120)(H:Hp):Prop where
 frames:A.frames=some outer
 mod:Mod K mg base
 bs:∀b o,base.get? b=some o->s.heap.get? b=some o/\H b=none
 bsz:base.objs.size<=65
 funs:s.heap.FunFrames base outer
 frf:∀b∈frs outer,H b=none
 hok:HOk P w H s.heap
 bare:AllBare s.gens
def CE(outer:List Env)(P:Program)(w:World)(H:Hp)(s:120)(Q:VK)(u:168)(s':120):Prop:=
 ∃v H',s'.os=s.os/\AllBare s'.gens/\Un (frs outer) [] H H' s.heap s'.heap/\HOk P w H' s'.heap/\RelV v u/\Q v H'
def CR(CX:CXT)(outer:List Env)(P:Program)(w:World)(H:Hp)(s:120)(Q:VK)(E:XK)(r:Result)(s':120):Prop:=
 match r with
 |.ok (.ret u)=>CE outer P w H s Q u s'
 |.ok _=>False
 |.error e=>CX outer H s E e s'
structure FnOk(P:Program)(w:World)(K:Frag)(mg:130)(base:Heap)(CX:CXT)(k:Nat)(f:Addr)(fd:FuncData)(ps:190)(sp:Sp):Prop where
 len:∀vs H Q E,sp vs H Q E->112=126
 run:∀(A:Around) (outer:List Env) (s:120) (H:Hp) (args:Args) (us:83) (vs:155) (Q:VK) (E:XK),Room k A->Env0 P w K mg base A outer s H->BindsTo s fd args (ps.zip us)->Vals vs us->sp vs H Q E ->
  codeAny (model P w) A (.call (.ref f) args) (CR CX outer P w H s Q E) s
theorem FnOk.mono{P:Program}{w:World}{K:Frag}{mg:130}{base:Heap}{CX:CXT}{j k:Nat}{f:Addr}{fd:FuncData}{ps:190}{sp:Sp}(F:FnOk P w K mg base CX j f fd ps sp)(h:j<=k):
 FnOk P w K mg base CX k f fd ps sp:=⟨F.len,λA outer s H args us vs Q E hr=>F.run A outer s H args us vs Q E (hr.mono h)⟩
section
variable{X:Cx}{pins:90}{σ:St}{H:Hp}{s s':120}
def Inv.env0(I:76):Env0 X.prog X.w X.K X.mg X.base X.A X.stack s H:=
 ⟨I.ok.frames,I.ok.mod,I.bs,j6 I.ok.bsz I.sz,I.stack,I.stkFree,I.hok,I.bare⟩
def Inv.after{Q:VK}{u:168}(I:76)(h:CE X.stack X.prog X.w H s Q u s'):EP X pins σ Q u s':=by
 obtain⟨v,H',os,bare,un,hok,r,q⟩:=h;obtain⟨hh,g,d,t,os'⟩:=s';obtain rfl:os'=s.os:=os;exact⟨v,H',I.call (h':=hh) (g':=g) (d':=d) (t':=t) (ch:=[]) un hok bare (λb z=>absurd z 71),r,q⟩
end
noncomputable def CU(sp:Sp)(dvs:155)(E:XK)(t:TA):TE:=λσ H Q=>t σ H λvs H1=>sp (vs++dvs) H1 Q E
def Binds(K:Frag)(fd:FuncData)(ps:190)(ds:83):Prop:=
 ∀(s:120) (us:83),K.In s.heap->(us++ds).length=126->BindsTo s fd ⟨us,[]⟩ (ps.zip (us++ds))
def Binds.all{K:Frag}{fd:FuncData}{ps:190}(h:∀us:List Value,us.length=126->bindArgs fd ⟨us,[]⟩=pure (ps.zip us)):Binds K fd ps []:=λs us _ hl=>by
 rw[jq]at hl ⊢;exact .of_eq (h us hl)
def Kq(CX:CXT)(X:Cx)(E:XK):Prop:=∀(pins:90) (σ:St) (H:Hp) (s:120) (e:168) (s':120),Inv X pins σ H s->CX X.stack H s E e s'->X.xe e s'
section
variable{X:Cx}{CX:CXT}{k:Nat}{f C:Addr}{fd:FuncData}{ps:190}{sp:Sp}{dvs:155}{ds:83}{E:XK}{x m:Str}{p pos apos:Pos}{e o:Expr}{es:List Expr}{ta:TE}{t:TA}
def Se{pins:90}{σ:St}{H:Hp}{s:120}{Q:VK}{us:83}{vs:155}(F:FnOk X.prog X.w X.K X.mg X.base CX k f fd ps sp)(hr:Room k X.A)(hb:Binds X.K fd ps ds)(hd:Vals dvs ds)(hx:Kq CX X E)
 (I:76) (r:Vals vs us) (h:sp (vs++dvs) H Q E):wpAny 70 X.A (call (.ref f) us) 191 X.xe s:=by
 have r2:Vals (vs++dvs) (us++ds):=r.append hd;have hl:(us++ds).length=ps.length:=by rw[<- r2.length];exact F.len _ _ _ _ h
 refine wpAny_call (kr (F.run X.A X.stack s H ⟨us,[]⟩ (us++ds) (vs++dvs) Q E hr I.env0 (hb s us I.kIn hl) r2 h) λr s' hq=>?_);cases r with
 |error e=>exact hx pins σ H s e s' I hq
 |ok fl=>
  cases fl with
  |ret u=>exact I.after hq
  |next=>exact False.elim hq
  |brk=>exact False.elim hq
  |cont=>exact False.elim hq
def ZR(F:FnOk X.prog X.w X.K X.mg X.base CX k f fd ps sp)(hr:Room k X.A)(hg:Gl X x)(hm:X.mg x=some (.ref f))(hk:keepIn X.K (.ref f)=true)(hb:Binds X.K fd ps ds)(hd:Vals dvs ds)(hx:Kq CX X E)
 (ha:PA X 179 t) (hdb:141=false:=by decide) (he:starEach 179 X.env=109::starEach es X.env:=by rfl) (hpl:(backTo pos 149).any (·.1)=false:=by rfl):
 PE X (.Call (.Name x p) 179 [] pos) (CU sp dvs E t):=by
 intro pins s σ H Q I h;refine k4 (LM I hg hm ?_ hdb);refine PySem.W.callWith_K (h₀:=X.base) I.ok.mod.kin hk (thn (ha pos pins s σ H _ I h) λus s1 ⟨vs,H1,I1,r,q⟩=>⟨I1.kIn,?_⟩) he hpl;exact Se F hr hb hd hx I1 r q
def Vr(F:FnOk X.prog X.w X.K X.mg X.base CX k f fd ps sp)(hr:Room k X.A)(hg:Gl X x)(hm:X.mg x=some (.ref f))(hk:keepIn X.K (.ref f)=true)(hb:Binds X.K fd ps ds)(hd:Vals dvs ds)(hx:Kq CX X E)
 (hdb:141=false:=by decide):PE X (.Call (.Name x p) [] [] pos) (CU sp dvs E BM):=by
 intro pins s σ H Q I h;refine k4 (LM I hg hm ?_ hdb);exact PySem.W.callWith_K0 I.kIn hk (Se (us:=[]) F hr hb hd hx I .nil h)
end
structure FnScope(N P:190)(sc:Scope):Prop where
 kind:sc.kind=.function
 co:sc.isCoroutine=false
 gen:sc.isGenerator=false
 nd:N.Nodup
 pre:N.take P.length=P
 par:∀x∈P,sc.names.lookup x=some .local∨sc.names.lookup x=some .cell
 nofree:∀y∈sc.names,y.2≠.free
theorem MX{kindOf:Str->Option NameKind}{x:Str}:∀{binds:List (Str×Value)} {m:130},(∀v,(x,v)∉binds)->bindL kindOf binds m x=m x
 |[],_,_=>rfl
 |(n,v)::r,m,h=>by
   unfold bindL;rw[MX λw hw=>h w (iw _ hw)];split
   .have:x≠n:=by rintro rfl;exact h v j4
    simp[this]
   .rfl
theorem MZ{kindOf:Str->Option NameKind}{x:Str}:∀{binds:List (Str×Value)} {m:130},(∀v,(x,v)∉binds)->bindC kindOf binds m x=m x
 |[],_,_=>rfl
 |(n,v)::r,m,h=>by
   unfold bindC;rw[MZ λw hw=>h w (iw _ hw)];split
   .rfl
   .have:x≠n:=by rintro rfl;exact h v j4
    simp[this]
theorem MY{kindOf:Str->Option NameKind}{x:Str}{v:168}:∀{P:190} {vs:83} {i:Nat} {m:130},P.Nodup->P[i]?=some x->vs[i]?=some v->kindOf x=some .local ->
 bindL kindOf (P.zip vs) m x=some v
 |[],_,_,_,_,h,_,_=>by simp at h
 |_::_,[],_,_,_,_,h,_=>by simp at h
 |p::P,w::vs,0,m,nd,h1,h2,hk=>by
  simp at h1 h2;subst h1;subst h2;show bindL kindOf ((p,w)::P.zip vs) m p=_;unfold bindL;rw[MX λv hv=>(nodup_cons.mp nd).1 (of_mem_zip hv).1,il hk];simp
 |p::P,w::vs,i+1,m,nd,h1,h2,hk=>by
  show bindL kindOf ((p,w)::P.zip vs) m x=_;unfold bindL;exact MY (i:=i) (nodup_cons.mp nd).2 (by simpa using h1) (by simpa using h2) hk
theorem Ma{kindOf:Str->Option NameKind}{x:Str}{v:168}:∀{P:190} {vs:83} {i:Nat} {m:130},P.Nodup->P[i]?=some x->vs[i]?=some v->kindOf x≠some .local ->
 bindC kindOf (P.zip vs) m x=some v
 |[],_,_,_,_,h,_,_=>by simp at h
 |_::_,[],_,_,_,_,h,_=>by simp at h
 |p::P,w::vs,0,m,nd,h1,h2,hk=>by
  simp at h1 h2;subst h1;subst h2;show bindC kindOf ((p,w)::P.zip vs) m p=_;unfold bindC;rw[MZ λv hv=>(nodup_cons.mp nd).1 (of_mem_zip hv).1,ip hk];simp
 |p::P,w::vs,i+1,m,nd,h1,h2,hk=>by
  show bindC kindOf ((p,w)::P.zip vs) m x=_;unfold bindC;exact Ma (i:=i) (nodup_cons.mp nd).2 (by simpa using h1) (by simpa using h2) hk
noncomputable def start(N:190)(vs:155):St:=vs.map some++79 (N.length-112) none
noncomputable def G4(CX:CXT)(P:Program)(w:World)(K:Frag)(mg:130)(base:Heap)(N:190)(qual:Str)(scope:Scope)(f:Addr)(cd:168)(A:Around)(outer:List Env)(s:120)(H:Hp)(E:XK):Cx where
 prog:=P
 w:=w
 K:=K
 mg:=mg
 base:=base
 A:=A.deeper (envOfC qual scope 65 f cd)
 N:=N
 s₀:=s
 H₀:=H
 env:=envOfC qual scope 65 f cd
 outer:=outer
 stack:=envOfC qual scope 65 f cd::outer
 ex:=[]
 calm:=true
 fn:=λ_=>true
 pn:=[]
 xe:=λe s'=>wpAny (model P w) (A.deeper (envOfC qual scope 65 f cd)) (leaving (envOfC qual scope 65 f cd) e) (λ_ s''=>CX outer H s E e s'') (λe' s''=>CX outer H s E e' s'') s'
def OY{sc:Scope}{n:Nat}{x:Str}(h:sc.names.lookup x=some .cell):∃c,(cellsFrom n sc.names []).lookup x=some c:=by
 have q:=PySem.W.cellsFrom_some sc.names n [] (.inl h);exact isSome_iff_exists.mp q
def Td{CX:CXT}{P:Program}{w:World}{K:Frag}{mg:130}{base:Heap}{N ps:190}{qual:Str}{scope:Scope}{f:Addr}{cd:168}{A:Around}{outer:List Env}{s s1:120}{H:Hp}{E:XK}{us:83}{vs:155}
 (S:FnScope N ps scope) (hd:A.handled=none) (e0:Env0 P w K mg base A outer s H) (hl:112=126) (r:Vals vs us)
 (x:InCallC s 65 (bindL (envOfC qual scope 65 f cd).kindOf (ps.zip us) λ_=>none) (cellsFrom (65+1) 92 []) (bindC (envOfC qual scope 65 f cd).kindOf (ps.zip us) λ_=>none) s1):
 Inv (G4 CX P w K mg base N qual scope f cd A outer s H E) [] (start N vs) H s1:=by
 have hpl:126<=N.length:=by have:=jm List.length S.pre;rw[jL]at this;omega
 obtain⟨h1,tk,rfl,hk⟩:=x.done;have noA:∀b:Addr,b∉(G4 CX P w K mg base N qual scope f cd A outer s H E).ex:=λb z=>absurd (show b∈([]:List Addr)from z) 71;refine⟨⟨e0.mod,S.kind,rfl,rfl,ir _,λy z c h1 h2=>?_,λy hy=>?_,λy c _ h=>?_,λ_=>hd,Around.frames_deeper e0.frames,.inr ⟨rfl,rfl⟩,λb z=>absurd z (noA b),e0.bs,e0.bsz,λb _ _=>noA b,λb z=>absurd z (noA b),e0.funs,e0.frf⟩,
  rfl,e0.bare,Un.kept hk,⟨_,x.toInCall.ns,λi y v h1 h2 h3=>?_⟩,λy c h=>⟨_,x.cell y c h⟩,e0.hok.fresh (ir _),λy c h=>?_,λp hp=>absurd (show p∈([]:List (Addr×Obj))from hp) 71,e0.hok.kept hk,?_⟩
 .exact name_of_addr x.apart (134 h1) (134 h2)
 .have hy:scope.names.lookup y=some .cell∨scope.names.lookup y=some .free:=hy;rcases hy with hy|hy
  .exact OY hy
  .exact absurd rfl (S.nofree _ (134 hy))
 .exact jF (x.above y c (134 h))
 .have hi:i<vs.length:=by
   unfold start at h2;by_cases hi:i<112
   .exact hi
   .rw[List.getElem?_append_right (by simpa using hi)]at h2;rw[List.getElem?_replicate]at h2;split at h2<;>cases h2
  have ha:vs[i]?=some v:=by
   unfold start at h2;rw[List.getElem?_append_left (by simpa using hi),List.getElem?_map]at h2;cases e:vs[i]? with
   |none=>rw[e]at h2;cases h2
   |some a=>rw[e]at h2;cases h2;rfl
  obtain⟨u,hu,rv⟩:=r.get ha;have hp:ps[i]?=some y:=by
   rw[<- S.pre,List.getElem?_take_of_lt 68];exact h1
  have ndP:ps.Nodup:=by rw[<- S.pre];exact S.nd.sublist (List.take_sublist _ _)
  refine⟨u,rv,?_⟩;rcases S.par y (jf hp)with k|k
  .exact .inl ⟨k,MY ndP hp hu k⟩
  .obtain⟨c,e⟩:=OY (n:=65+1) k;refine .inr ⟨.inl k,c,e,?_⟩;have q:=x.cell y c e;rw[Ma ndP hp hu (by show scope.names.lookup y≠_;rw[k];decide)]at q;exact q
 .exact e0.hok.fresh (jF (x.above y c (134 h)))
 .unfold start;show _=N.length;rw[jo,ja,List.length_replicate];omega
def XZ{CX:CXT}{P:Program}{w:World}{K:Frag}{mg:130}{base:Heap}{k:Nat}{f:Addr}{name qual:Str}{params:Arguments}{body:List Stmt}{scope:Scope}{dV kV doc pm cdv ct oc:168}{an od:Option Addr}
 {osl:Array (Option Value)} {N ps:190} {sp:Sp} (lk:K.lookup f=some ⟨oc,od,.func (fnOf name qual params body scope dV kV doc pm an cdv ct),osl⟩) (hcd:codeIn K cdv qual=true) (S:FnScope N ps scope)
 (len:∀vs H Q E,sp vs H Q E->112=126)
 (hbody:∀(A:Around) (outer:List Env) (s:120) (H:Hp) (vs:155) (Q:VK) (E:XK),Room k (A.deeper (envOfC qual scope 65 f cdv))->sp vs H Q E ->
  ∃t,PSs (G4 CX P w K mg base N qual scope f cdv A outer s H E) body t/\t { nx:=λ_ H'=>Q .non H',rt:=Q } (start N vs) H):
 FnOk P w K mg base CX (k+1) f (fnOf name qual params body scope dV kV doc pm an cdv ct) ps sp:=by
 refine⟨len,λA outer s H args us vs Q E hr e0 hb r hsp=>?_⟩;have hl:=len _ _ _ _ hsp;have KX:K.In s.heap:=e0.mod.kin.keeps λb o e=>(e0.bs b o e).1;have lim:s.heap.NoLimit:=e0.mod.nolimit.keeps λb o e=>(e0.bs b o e).1;have hkind:∀y∈ps.zip us,scope.names.lookup y.1=some .local∨(scope.names.lookup y.1=some .cell/\((cellsFrom (65+1) 92 []).lookup y.1).isSome=true):=λ⟨n,v⟩ hy=>by
  rcases S.par n (of_mem_zip hy).1 with q|q
  .exact .inl q
  .exact .inr ⟨q,PySem.W.cellsFrom_some _ _ _ (.inl q)⟩
 refine codeAny_call_function hr.depth (KX _ _ lk) rfl S.co S.gen rfl (PySem.W.codeRec_of KX hcd) (hb _ _ _ _ ?_);refine wpAny_newFunctionEnv_cells S.kind hkind λenv he s1 x=>?_;subst he;refine⟨lim.keeps x.toInCall.keep,codeAny_func ?_⟩;obtain⟨t,ht,hq⟩:=hbody A outer s H vs Q E (hr.deeper _) hsp;have I:Inv (G4 CX P w K mg base N qual scope f cdv A outer s H E) [] (start N vs) H s1:=Td S hr.hd e0 hl r x;refine jh (ht [] s1 (start N vs) H _ I hq) (λfl s' hs=>?_) λe s' hs=>hs;have fin:∀{σ':St} {H':Hp} {v:V} {u:168},Inv (G4 CX P w K mg base N qual scope f cdv A outer s H E) [] σ' H' s'->RelV v u->Q v H'->CE outer P w H s Q u s':=
  λ{σ' H' v u} J rv q=>⟨v,H',J.os,J.bare,J.base,J.hok,rv,q⟩
 cases fl with
 |ret u=>
  obtain⟨v,σ',H',J,rv,q⟩:=hs;exact fin J rv q
 |next=>
  obtain⟨σ',H',J,q⟩:=hs;exact fin (v:=V.non) (u:=Value.none) J rfl q
 |brk=>
  obtain⟨_,_,_,q⟩:=hs;exact False.elim q
 |cont=>
  obtain⟨_,_,_,q⟩:=hs;exact False.elim q
section
variable{X:Cx}{x:Str}{p pos:Pos}{e:Expr}{es:List Expr}{t:TA}{id T:String}{r:List V->Hp->VK->Prop}
noncomputable def tCB(r:List V->Hp->VK->Prop)(t:TA):TE:=λσ H Q=>t σ H λvs H1=>r vs H1 Q
def E6(hc:CallR X (.builtin id) r)(hg:Gl X x)(hm:X.mg x=none)(hv:bootBuiltins x=some (.builtin id))(ha:PA X 179 t)(hn:x≠"__name__":=by decide)(hdb:141=false:=by decide)
 (he:starEach 179 X.env=109::starEach es X.env:=by rfl) (hpl:(backTo pos 149).any (·.1)=false:=by rfl):PE X (.Call (.Name x p) 179 [] pos) (tCB r t):=by
 intro pins s σ H Q I h;refine k4 (FS I hg hm hv ?_ hn hdb);exact PyProof.Rows.callWith_builtin1 (thn (ha pos pins s σ H _ I h) λus s1 ⟨vs,H1,I1,r1,q1⟩=>hc pins s1 σ H1 vs us Q I1 r1 q1) he hpl
def CB(hc:CallR X (.type T) r)(hg:Gl X x)(hm:X.mg x=none)(hv:bootBuiltins x=some (.type T))(ha:PA X 179 t)(hn:x≠"__name__":=by decide)(hdb:141=false:=by decide)
 (he:starEach 179 X.env=109::starEach es X.env:=by rfl) (hpl:(backTo pos 149).any (·.1)=false:=by rfl):PE X (.Call (.Name x p) 179 [] pos) (tCB r t):=by
 intro pins s σ H Q I h;refine k4 (FS I hg hm hv ?_ hn hdb);exact PyProof.Rows.callWith_type1 (thn (ha pos pins s σ H _ I h) λus s1 ⟨vs,H1,I1,r1,q1⟩=>hc pins s1 σ H1 vs us Q I1 r1 q1) he hpl
end
end L2
namespace HT
open PySem PyProof.Rows
section
variable{prog:Program}{w:World}{A:Around}{E:78}{s:120}
def cat_tup{t b:Addr}{vs ws:83}{Q:78}(ht:IsTup s.heap t 86)(hb:IsTup s.heap b ws.toArray)(hv:vs≠[])
 (h1:ws=[]->Q (.ref t) s) (h2:ws≠[]->Q (.ref 65) { s with heap:=s.heap.push { cls:=.type "tuple",data:=.seq (vs++ws).toArray } })
 (hsz:112+66<=sizeLine):wpAny 110 A (binaryOp .Add (.ref t) (.ref b)) Q E s:=by
 obtain⟨⟨cls,dd,data,sl⟩,ho,hc,n,hd⟩:=id ht;obtain⟨⟨cls2,dd2,data2,sl2⟩,ho2,hc2,n2,hd2⟩:=id hb;simp only at hc hd hc2 hd2;subst hc hd hc2 hd2;have e:86++ws.toArray=(vs++ws).toArray:=by simp
 by_cases hw:ws=[]
 .exact concat_meets ⟨_,ho,rfl⟩ ⟨_,ho2,rfl⟩ noFill_tuple_add seq_tuple_add PySem.F.slot_tuple_add PySem.F.entry_tuple_add (PySem.F.args_tuple_add_2 _ _)
   (tuple_addW1 t b 86 ws.toArray n n2 dd dd2 sl sl2 (by simpa using hv) (by simp[hw])) ⟨ho,ho2,h1 hw⟩
 .refine concat_meets ⟨_,ho,rfl⟩ ⟨_,ho2,rfl⟩ noFill_tuple_add seq_tuple_add PySem.F.slot_tuple_add PySem.F.entry_tuple_add (PySem.F.args_tuple_add_2 _ _)
   (tuple_addW2 t b 86 ws.toArray n n2 dd dd2 sl sl2 (by simpa using hv) (by simpa using hw) (by rw[iy,iy];exact hsz)) ⟨ho,ho2,?_⟩
  rw[e];exact h2 hw
noncomputable def sIx(n d:Nat):Option Int->Nat
 |none=>d
 |some v=>if v<0 then(v+(n:Int)).toNat else min v.toNat n
def sIx_none(n d:Nat):sIx n d none=d:=rfl
def sIx_nat(n d k:Nat):sIx n d (some (k:Int))=min k n:=by
 show(if(k:Int)<0 then((k:Int)+(n:Int)).toNat else min (k:Int).toNat n)=min k n;rw[ip 68,jl]
end
end HT
namespace L2
open PySem PySem.Spec PyProof.Rows
noncomputable abbrev TO:=St->Hp->(Option Int->Hp->Prop)->Prop
def PO(X:Cx)(e:Option Expr)(t:TO):Prop:=
 ∀(pins:90) (s:120) (σ:St) (H:Hp) (Q:Option Int->Hp->Prop),Inv X pins σ H s->t σ H Q ->
   wpAny 70 X.A (evalPart e X.env) (λu s'=>∃o H',Inv X pins σ H' s'/\IsPart u o/\Q o H') X.xe s
noncomputable def Kw:TO:=λ_ H Q=>Q none H
noncomputable def QK(t:TE):TO:=λσ H Q=>t σ H λx H1=>∃i,x=.int i/\Q (some i) H1
def RZ{ns:88}:∀{us:83},Vals 157 us->IntsAre us ns:=by
 induction ns with
 |nil=>intro us r;rw[jr]at r;cases r;exact .nil
 |cons n ns ih=>
  intro us r;rw[j3]at r;cases r with
  |cons r1 r2=>
   obtain⟨t,e⟩:=r1;subst e;exact .cons n t (ih r2)
section
variable{X:Cx}{e:Expr}{te:TE}{lo hi:Option Expr}{tl th:TO}{pos p2:Pos}
def ZH:PO X none Kw:=by
 intro pins s σ H Q I h;rw[evalPart_none];exact iu ⟨none,H,I,.none,h⟩
def ZG(h:PE X e te):PO X (some e) (QK te):=by
 intro pins s σ H Q I hw;rw[evalPart_some];refine thn (h pins s σ H _ I hw) λu s1 ⟨x,H1,I1,r1,q1⟩=>?_;obtain⟨i,rfl,q⟩:=q1;obtain⟨t,rfl⟩:=r1;exact⟨some i,H1,I1,.int i t,q⟩
def SlR(X:Cx)(r:V->Option Int->Option Int->Hp->VK->Prop):Prop:=
 ∀(pins:90) (s:120) (σ:St) (H:Hp) (x:V) (v vl vu:168) (lo hi:Option Int) (sl:Addr) (Q:VK),Inv X pins σ H s->RelV x v->s.heap.IsSliceOf sl vl vu .none->IsPart vl lo->IsPart vu hi->r x lo hi H Q ->
   ∃T id,typeLookup (.type T) "__getitem__"=pure (some (.builtin id))/\s.TypeIs v T/\wpAny 70 X.A (getItem v (.ref sl)) 191 X.xe s
noncomputable def tSl(r:V->Option Int->Option Int->Hp->VK->Prop)(te:TE)(tl th:TO):TE:=λσ H Q=>te σ H λx H1=>tl σ H1 λl H2=>th σ H2 λu H3=>r x l u H3 Q
def Vm{r:V->Option Int->Option Int->Hp->VK->Prop}(hr:SlR X r)(he:PE X e te)(hl:PO X lo tl)(hu:PO X hi th):PE X (.Subscript e (.Slice lo hi none p2) pos) (tSl r te tl th):=by
 intro pins s σ H Q I h;refine Subscript_ (thn (he pins s σ H _ I h) λv s1 ⟨x,H1,I1,r1,q1⟩=>?_);refine wpAny_Slice (thn (hl pins s1 σ H1 _ I1 q1) λvl s2 ⟨l,H2,I2,pl,q2⟩=>thn (hu pins s2 σ H2 _ I2 q2) λvu s3 ⟨u,H3,I3,pu,q3⟩=>?_);rw[evalPart_none];refine iu ?_;have I4:Inv X pins σ H3 { s3 with heap:=s3.heap.push { cls:=.type "slice",data:=.fields #[vl,vu,.none] } }:=I3.kept (t':=s3.toks) λb ob q=>72 _ q;obtain⟨T,id,hT,ht,hg⟩:=hr pins { s3 with heap:=s3.heap.push { cls:=.type "slice",data:=.fields #[vl,vu,.none] } } σ H3 x v vl vu l u 162 Q I4 r1 (Heap.IsSliceOf.new ..) pl pu q3;show wpAny 70 X.A (subscriptTail e (.Slice lo hi none p2) v (.ref 162)) 191 X.xe { s3 with heap:=s3.heap.push { cls:=.type "slice",data:=.fields #[vl,vu,.none] } };exact tail_any (ops:=[.ref 162,v]) ht hT hg (by with_unfolding_all rfl)
noncomputable def Jd(xs:155)(lo hi:Option Int):List V:=(xs.drop (HT.sIx 96 0 lo)).take (HT.sIx 96 96 hi-HT.sIx 96 0 lo)
def P1(xs:155)(lo hi:Option Int):(Jd xs lo hi).length<=xs.length:=by
 unfold Jd;rw[jL,length_drop];omega
noncomputable def Qr(K:Frag):R2:=λx y H Q=>∃a b xs ys,x=.ref a/\y=.ref b/\SqT K H a xs/\SqT K H b ys/\xs≠[]/\96+ys.length<=sizeLine /\
 (ys=[]->Q (.ref a) H)/\(ys≠[]->∀p,H p=none->Q (.ref p) (upd H p (.tup (xs++ys))))
def Vals.nil_iff{xs:155}{us:83}(r:Vals xs us):us=[]↔xs=[]:=by
 cases r with
 |nil=>simp
 |cons _ _=>simp
def ZX:OpR X (binaryOp .Add) (Qr X.K):=by
 intro pins s σ H x y v u Q I rx ry h;obtain⟨a,b,xs,ys,rfl,rfl,ha,hb,hx,hz,q1,q2⟩:=h;cases rx;cases ry;obtain⟨its,r1,p1,_⟩:=I.tuple ha;obtain⟨its2,r2,p2,_⟩:=I.tuple hb;refine HT.cat_tup p1 p2 (λz=>hx (r1.nil_iff.mp z)) (λz=>⟨.ref a,H,I,rfl,q1 (r2.nil_iff.mp z)⟩) (λz=>?_) (by rw[<- r1.length,<- r2.length];exact hz);refine⟨.ref 65,_,I.laid (t':=s.toks) (o:=.tup (xs++ys)) (λb ob q=>72 _ q) (ir _) ?_,rfl,q2 (λw=>z (r2.nil_iff.mpr w)) _ (I.hok.fresh (ir _))⟩;exact⟨by rw[jo];exact hz,_,r1.append r2,IsTupD.new _ _⟩
end
noncomputable def ixN(n:Nat)(i:Int):Option Nat:=if 0<=i then(if i<n then some i.toNat else none)else if -(n:Int)<=i then some (i+n).toNat else none
def atI{α:Type}(xs:List α)(i:Int):Option α:=(ixN 96 i).bind λj=>xs[j]?
def LO{n:Nat}{i:Int}{j:Nat}(h:ixN n i=some j):seqIndex? i n=some j/\j<n/\-(n:Int)<=i/\i<n:=by
 unfold ixN at h;by_cases h0:0<=i
 .rw[il h0]at h;by_cases h1:i<n
  .rw[il h1]at h;have e:i.toNat=j:=102 h;exact⟨by rw[seqIndex_of h0 h1,e],by omega,by omega,h1⟩
  .rw[ip h1]at h;cases h
 .rw[ip h0]at h;by_cases h1:-(n:Int)<=i
  .rw[il h1]at h;have e:(i+n).toNat=j:=102 h;exact⟨by rw[seqIndex_neg 68 h1,e],by omega,h1,by omega⟩
  .rw[ip h1]at h;cases h
def Li{α:Type}{xs:List α}{i:Int}{v:α}(h:atI xs i=some v):∃j,seqIndex? i 96=some j/\xs[j]?=some v/\j<96/\-(xs.length:Int)<=i/\i<xs.length:=by
 unfold atI at h;cases e:ixN 96 i with
 |none=>rw[e]at h;cases h
 |some j=>
  rw[e]at h;obtain⟨h1,h2,h3,h4⟩:=LO e;exact⟨j,h1,h,h2,h3,h4⟩
def BD{α:Type}{xs:List α}{j:Nat}{v:α}(h:xs[j]?=some v):atI xs (j:Int)=some v:=by
 have hj:j<xs.length:=(75 h).1;have e:ixN 96 (j:Int)=some j:=by
  unfold ixN;rw[il 68,il 68];simp
 unfold atI;rw[e];exact h
def Jj{α:Type}(xs:List α)(v:α):atI (xs++[v]) (-1)=some v:=by
 have hl:(xs++[v]).length=96+1:=by simp
 have e:ixN (xs++[v]).length (-1)=some xs.length:=by
  unfold ixN;rw[hl,ip 95,il 68]
  congr 1
  omega
 unfold atI;rw[e];show(xs++[v])[96]?=some v;simp
def Ll(b:Expr):Prop:=∀o i,subscripted b false o i=operate [o,i] (getItem o i)
def IxR(X:Cx)(r:R2):Prop:=
 ∀(value slice:Expr) (pins:90) (s:120) (σ:St) (H:Hp) (x y:V) (v u:168) (Q:VK),Inv X pins σ H s->RelV x v->RelV y u->r x y H Q ->
   subscripted slice false v u=operate [v,u] (getItem v u)->wpAny 70 X.A (subscriptTail value slice v u) 191 X.xe s
def MtR(X:Cx)(id:String)(r:V->List V->Hp->VK->Prop):Prop:=
 ∀(pins:90) (s:120) (σ:St) (H:Hp) (x:V) (xs:155) (v:168) (us:83) (Q:VK),Inv X pins σ H s->RelV x v->Vals xs us->r x xs H Q ->
   wpAny 70 X.A (call (.builtin id) (v::us)) 191 X.xe s
section
variable{X:Cx}{a b:Expr}{ta tb:TE}{pos:Pos}
def IxR.or{r r':R2}(h:IxR X r)(h':IxR X r'):IxR X (λx y H Q=>r x y H Q∨r' x y H Q):=by
 intro value slice pins s σ H x y v u Q I rx ry q hs;rcases q with q|q
 .exact h value slice pins s σ H x y v u Q I rx ry q hs
 .exact h' value slice pins s σ H x y v u Q I rx ry q hs
def Qw{r:R2}(hr:IxR X r)(ha:PE X a ta)(hb:PE X b tb)(hs:Ll b):PE X (.Subscript a b pos) (tOp r ta tb):=by
 intro pins s σ H Q I h;exact Subscript_ (Wn ha hb I h λv u s2 x y H2 I2 rx ry q=>hr a b pins s2 σ H2 x y v u Q I2 rx ry q (hs _ _))
noncomputable def JI(K:Frag):R2:=λx y H Q=>∃p xs i v,x=.ref p/\y=.int i/\SqL K H p xs/\atI xs i=some v/\Q v H
noncomputable def VN(K:Frag):R2:=λx y H Q=>∃p xs i v,x=.ref p/\y=.int i/\SqT K H p xs/\atI xs i=some v/\Q v H
def Pp:IxR X (JI X.K):=by
 intro value slice pins s σ H x y v u Q I rx ry h hs;obtain⟨p,xs,i,z,rfl,rfl,hq,he,q⟩:=h;cases rx;obtain⟨t,rfl⟩:=ry;obtain⟨its,r,pl,hz⟩:=I.list hq;obtain⟨j,h1,h2,h3,h4,h5⟩:=Li he;obtain⟨w,ew,rw'⟩:=r.get h2;have hl:=r.length;have hn:=FR;have fin:EP X pins σ Q w s:=⟨z,H,I,rw',q⟩
 by_cases h0:0<=i
 .have hj:i.toNat=j:=by
   rw[seqIndex_of h0 h5]at h1;exact 102 h1
  exact item_listR pl.isList h0 68 (by rw[hj];simpa using ew) fin hs
 .have hj:(i+(its.toArray.size:Int)).toNat=j:=by
   rw[seqIndex_neg 68 h4]at h1;rw[iy,<- hl];exact 102 h1
  exact subscriptTail_builtinR (x:=w) pl.isList.typeIs slot_list_getitem.lookup
   (wpAny_getItem_list_neg (Q:=λr s'=>r=w/\EP X pins σ Q r s') pl.isList 68 (by rw[iy]<;>omega) 68 (by rw[hj];simpa using ew) ⟨rfl,fin⟩) hs
def dg:IxR X (VN X.K):=by
 intro value slice pins s σ H x y v u Q I rx ry h hs;obtain⟨p,xs,i,z,rfl,rfl,hq,he,q⟩:=h;cases rx;obtain⟨t,rfl⟩:=ry;obtain⟨its,r,pl,hz⟩:=I.tuple hq;obtain⟨j,h1,h2,h3,h4,h5⟩:=Li he;obtain⟨w,ew,rw'⟩:=r.get h2;have hl:=r.length;have hn:=FR;have fin:EP X pins σ Q w s:=⟨z,H,I,rw',q⟩
 exact subscriptTail_builtinR (x:=w) pl.typeIs slot_tuple_getitem.lookup
  (getItem_tuple (j:=j) (Q:=λr s'=>r=w/\EP X pins σ Q r s') pl 68 68 (by rw[iy,<- hl];exact h1) (by simpa using ew) ⟨rfl,fin⟩) hs
def R9(its:83)(n j:Nat)(u:168):142 (·.setIfInBounds j u) { cls:=.type "list",data:=.seq 107 n }={ cls:=.type "list",data:=.seq (its.set j u).toArray n }:=by
 simp[Obj.mapSeq]
theorem Inv.lst{pins:90}{σ:St}{H:Hp}{s:120}{p:Addr}{xs:155}(I:76)(h:H p=some 158):
 ∃(its:83) (n:Nat),Vals xs its/\s.heap.get? p=some { cls:=.type "list",data:=.seq 107 n }/\96<=sizeLine:=by
 obtain⟨z,its,n,r,e⟩:=I.hok p _ h;exact⟨its,n,r,e,z⟩
def Inv.lstUpd{pins:90}{σ:St}{H:Hp}{s:120}{p:Addr}{xs ys:155}{its its':83}{n n':Nat}{f:Obj->Obj}(I:76)(h:H p=some 158)
 (ho:s.heap.get? p=some { cls:=.type "list",data:=.seq 107 n }) (hf:f { cls:=.type "list",data:=.seq 107 n }={ cls:=.type "list",data:=.seq its'.toArray n' }) (r:Vals ys its') (hz:ys.length<=sizeLine) (t:Nat):
 Inv X pins σ (upd H p (.lst ys)) { s with heap:=s.heap.update p f,toks:=t }:=by
 have e:(s.heap.update p f).get? p=some { cls:=.type "list",data:=.seq its'.toArray n' }:=by
  rw[Heap.get?_update_self f ho (by rw[hf]<;>rfl),hf]
 refine I.write (x:=p) (e:=p) (by rw[h];trivial) (.inl rfl) (λb u hb q=>(Heap.get?_update_other _ _ (Ne.symm hb)).trans q) ⟨_,e⟩ ?_;exact⟨hz,its',n',r,e⟩
def K6:V->V->V->Hp->(Hp->Prop)->Prop:=λo i v H Q=>∃p xs k j,o=.ref p/\i=.int k/\H p=some 158/\ixN 96 k=some j/\Q (upd H p (.lst (xs.set j v)))
def NU:Wu X K6:=by
 intro pins s σ H o i v ov iv u Q I ro ri rv h;obtain⟨p,xs,k,j,rfl,rfl,hp,hj,q⟩:=h;cases ro;obtain⟨t,rfl⟩:=ri;obtain⟨its,n,r,ho,hz⟩:=I.lst hp;obtain⟨h1,h2,h3,h4⟩:=LO hj;have hl:=r.length;have hn:=FR;have I':Inv X pins σ (upd H p (.lst (xs.set j v))) { s with heap:=s.heap.update p (Obj.mapSeq (·.setIfInBounds j u)) }:=
  I.lstUpd hp ho (R9 its n j u) (r.set rv j) (by rw[List.length_set];exact hz) s.toks
 by_cases h0:0<=k
 .have hk:k.toNat=j:=by
   rw[seqIndex_of h0 h4]at h1;exact 102 h1
  exact PySem.W.ki_setAt ho h0 68 (by rw[iy,<- hl];exact h4) (by rw[hk];exact⟨_,I',q⟩)
 .have hk:(k+(its.toArray.size:Int)).toNat=j:=by
   rw[seqIndex_neg 68 h3]at h1;rw[iy,<- hl];exact 102 h1
  exact PySem.W.ki_setBack ho 68 (by rw[iy,<- hl];exact h3) 68 (by rw[hk];exact⟨_,I',q⟩)
def NS(lo hi:Option Int)(n:Nat):(sliceBounds lo hi none n).1=((HT.sIx n 0 lo:Nat):Int)/\(sliceBounds lo hi none n).2.1=((HT.sIx n n hi:Nat):Int)/\(sliceBounds lo hi none n).2.2=1:=by
 refine⟨?_,?_,rfl⟩
 .cases lo with
  |none=>simp[sliceBounds,HT.sIx]
  |some i=>
   simp only[sliceBounds,HT.sIx,Option.getD_none,show(1:Int)>0 by decide,j8];by_cases h:i<0
   .simp only[h,j8]<;>omega
   .simp only[h,jj]<;>omega
 .cases hi with
  |none=>simp[sliceBounds,HT.sIx]
  |some i=>
   simp only[sliceBounds,HT.sIx,Option.getD_none,show(1:Int)>0 by decide,j8];by_cases h:i<0
   .simp only[h,j8]<;>omega
   .simp only[h,jj]<;>omega
def Mb(its:83)(lo hi:Option Int):slicePick 107 lo hi none=((its.drop (HT.sIx its.length 0 lo)).take (HT.sIx its.length its.length hi-HT.sIx its.length 0 lo)).toArray:=by
 obtain⟨h1,h2,h3⟩:=NS lo hi 129;unfold slicePick;rw[h1,h2,h3];simp only[sliceRange_one,pick_run,iy]<;>rfl
def Qp(K:Frag):V->Option Int->Option Int->Hp->VK->Prop:=λx lo hi H Q=>∃a xs,x=.ref a/\SqL K H a xs/\∀p,H p=none->Q (.ref p) (upd H p (.lst (Jd xs lo hi)))
def Y6:SlR X (Qp X.K):=by
 intro pins s σ H x v vl vu lo hi sl Q I rx hs pl pu h;obtain⟨a,xs,rfl,hx,q⟩:=h;cases rx;obtain⟨its,r,ht,hz⟩:=I.list hx;have hlen:=r.length;refine⟨"list",_,slot_list_getitem.lookup,ht.isList.typeIs,?_⟩;refine wpAny_getItem_list_slice ht.isList hs pl pu .none 71 ?_ (by rw[iy]<;>omega);rw[Mb,<- hlen];refine⟨.ref 65,_,I.laid (t':=s.toks) (o:=.lst (Jd xs lo hi)) (λb ob q=>72 _ q) (ir _) ?_,rfl,q _ (I.hok.fresh (ir _))⟩;exact⟨j6 (P1 xs lo hi) hz,_,0,(r.drop (HT.sIx 96 0 lo)).take (HT.sIx 96 96 hi-HT.sIx 96 0 lo),87 _ rfl⟩
noncomputable def EC:V->Bool
 |.non=>true
 |.bl _=>true
 |.int _=>true
 |.str _=>true
 |_=>false
noncomputable def eqV:V->V->Bool
 |.non,.non=>true
 |.bl a,.bl b=>a==b
 |.bl a,.int b=>(if a then 1 else 0)==b
 |.int a,.bl b=>a==(if b then 1 else 0)
 |.int a,.int b=>a==b
 |.str a,.str b=>a==b
 |_,_=>false
def eF{A:Around}{s:120}{y x:V}{u v:168}(ry:RelV y u)(rx:RelV x v)(fy:EC y=true)(fx:EC x=true):SeqAt.EqAt A s u v (eqV y x):=by
 cases y with
 |non=>
  cases ry;cases x with
  |non=>cases rx;exact SeqAt.EqAt.same _
  |bl b=>cases rx;exact SeqAt.EqAt.none_bool b
  |int b=>obtain⟨t,rfl⟩:=rx;exact SeqAt.EqAt.none_int b t
  |str b=>obtain⟨t,rfl⟩:=rx;exact SeqAt.EqAt.none_str b t
  |_=>exact absurd (show false=true from fx) 106
 |bl a=>
  cases ry;cases x with
  |non=>cases rx;exact SeqAt.EqAt.bool_none a
  |bl b=>cases rx;exact SeqAt.EqAt.bool_bool a b
  |int b=>obtain⟨t,rfl⟩:=rx;exact SeqAt.EqAt.bool_int a b t
  |str b=>obtain⟨t,rfl⟩:=rx;exact SeqAt.EqAt.bool_str a b t
  |_=>exact absurd (show false=true from fx) 106
 |int a=>
  obtain⟨t',rfl⟩:=ry;cases x with
  |non=>cases rx;exact SeqAt.EqAt.int_none a t'
  |bl b=>cases rx;exact SeqAt.EqAt.int_bool a t' b
  |int b=>obtain⟨t,rfl⟩:=rx;exact SeqAt.EqAt.int_int a t' b t
  |str b=>obtain⟨t,rfl⟩:=rx;exact SeqAt.EqAt.int_str a t' b t
  |_=>exact absurd (show false=true from fx) 106
 |str a=>
  obtain⟨t',rfl⟩:=ry;cases x with
  |non=>cases rx;exact SeqAt.EqAt.str_none a t'
  |bl b=>cases rx;exact SeqAt.EqAt.str_bool a t' b
  |int b=>obtain⟨t,rfl⟩:=rx;exact SeqAt.EqAt.str_int a t' b t
  |str b=>obtain⟨t,rfl⟩:=rx;exact SeqAt.EqAt.str_str a t' b t
  |_=>exact absurd (show false=true from fx) 106
 |_=>exact absurd (show false=true from fy) 106
def eqU(x:V)(u:168):Bool:=match u with
 |.none=>eqV .non x
 |.bool b=>eqV (.bl b) x
 |.int i _=>eqV 135 x
 |.str z _=>eqV (.str z) x
 |_=>false
def Tt{x y:V}{u:168}(r:RelV y u)(f:EC y=true):eqU x u=eqV y x:=by
 cases y with
 |non=>cases r;rfl
 |bl b=>cases r;rfl
 |int i=>obtain⟨t,rfl⟩:=r;rfl
 |str z=>obtain⟨t,rfl⟩:=r;rfl
 |_=>exact absurd (show false=true from f) 106
theorem GN{x:V}:∀{xs:155} {us:83},Vals xs us->xs.all EC=true->us.any (eqU x)=xs.any λy=>eqV y x
 |_,_,.nil,_=>rfl
 |y::xs,u::us,.cons r t,f=>by
  rw[List.all_cons,Bool.and_eq_true]at f;rw[jV,jV,Tt r f.1,GN t f.2]
theorem FN{A:Around}{s:120}{x:V}{v:168}(rx:RelV x v)(fx:EC x=true):∀{xs:155} {us:83},Vals xs us->xs.all EC=true->∀u∈us,SeqAt.EqAt A s u v (eqU x u)
 |_,_,.nil,_=>λu hu=>by cases hu
 |y::xs,u::us,.cons r t,f=>λu' hu=>by
  rw[List.all_cons,Bool.and_eq_true]at f;rcases mem_cons.mp hu with rfl|hu
  .rw[Tt r f.1];exact eF r rx f.1 fx
  .exact FN rx fx t f.2 u' hu
def inV(x:V)(xs:155):Bool:=xs.any λy=>eqV y x
def rIn(K:Frag)(neg:Bool):R2:=λx y H Q=>∃p xs,y=.ref p/\(SqL K H p xs∨SqT K H p xs)/\EC x=true/\xs.all EC=true/\Q (.bl (if neg then !inV x xs else inV x xs)) H
def TJ:OpR X (compareOp .In) (rIn X.K false):=by
 intro pins s σ H x y v u Q I rx ry h;obtain⟨p,xs,rfl,hq,fx,fs,q⟩:=h;cases ry;rcases hq with hq|hq
 .obtain⟨its,r,pl,hz⟩:=I.list hq;refine SeqAt.in_listAt (eqU x) pl.isList (λw hw=>FN rx fx r fs w (by simpa using hw)) ⟨.bl _,H,I,rfl,?_⟩;rw[show its.toArray.any (eqU x)=its.any (eqU x) by simp,GN r fs];exact q
 .obtain⟨its,r,pl,hz⟩:=I.tuple hq;refine SeqAt.in_tupleAt (eqU x) pl (λw hw=>FN rx fx r fs w (by simpa using hw)) ⟨.bl _,H,I,rfl,?_⟩;rw[show its.toArray.any (eqU x)=its.any (eqU x) by simp,GN r fs];exact q
def Nw:OpR X (compareOp .NotIn) (rIn X.K true):=by
 intro pins s σ H x y v u Q I rx ry h;obtain⟨p,xs,rfl,hq,fx,fs,q⟩:=h;cases ry;rcases hq with hq|hq
 .obtain⟨its,r,pl,hz⟩:=I.list hq;refine SeqAt.notIn_listAt (eqU x) pl.isList (λw hw=>FN rx fx r fs w (by simpa using hw)) ⟨.bl _,H,I,rfl,?_⟩;rw[show its.toArray.any (eqU x)=its.any (eqU x) by simp,GN r fs];exact q
 .obtain⟨its,r,pl,hz⟩:=I.tuple hq;refine SeqAt.notIn_tupleAt (eqU x) pl (λw hw=>FN rx fx r fs w (by simpa using hw)) ⟨.bl _,H,I,rfl,?_⟩;rw[show its.toArray.any (eqU x)=its.any (eqU x) by simp,GN r fs];exact q
def Od:CallR X (.builtin "len") (λxs H Q=>∃p ys,xs=[.ref p]/\(SqL X.K H p ys∨SqT X.K H p ys)/\Q (.int ys.length) H):=by
 intro pins s σ H xs us Q I r h;obtain⟨p,ys,rfl,hq,q⟩:=h;obtain⟨u,rfl,rx⟩:=BL r;cases rx;have hn:=FR;rcases hq with hq|hq
 .obtain⟨its,r',pl,hz⟩:=I.list hq;have hlen:=r'.length;exact Calls.call_len_list pl.isList (by simp only[iy]<;>omega) ⟨.int ys.length,H,I.tok _,⟨s.toks+1,by rw[iy,hlen]⟩,q⟩
 .obtain⟨its,r',pl,hz⟩:=I.tuple hq;have hlen:=r'.length;exact len_tuple pl (by simp only[iy]<;>omega) ⟨.int ys.length,H,I.tok _,⟨s.toks+1,by rw[iy,hlen]⟩,q⟩
def CallR.or{f:168}{r r':List V->Hp->VK->Prop}(h:CallR X f r)(h':CallR X f r'):CallR X f (λxs H Q=>r xs H Q∨r' xs H Q):=by
 intro pins s σ H xs us Q I rs q;rcases q with q|q
 .exact h pins s σ H xs us Q I rs q
 .exact h' pins s σ H xs us Q I rs q
def Oc:CallR X (.type "list") (λxs H Q=>∃p ys,xs=[.ref p]/\(SqL X.K H p ys∨SqT X.K H p ys)/\∀l,H l=none->Q (.ref l) (upd H l (.lst ys))):=by
 intro pins s σ H xs us Q I r h;obtain⟨p,ys,rfl,hq,q⟩:=h;obtain⟨u,rfl,rx⟩:=BL r;cases rx;have fin:∀(its:83),Vals ys its->ys.length<=sizeLine->∀(h':Heap) (c':Nat),(∀b o',s.heap.get? b=some o'->h'.get? b=some o') ->
  h'.get? 65=some { cls:=.type "list",dict:=none,data:=.seq 107 c',slots:=#[] }->EP X pins σ Q (.ref 65) { s with heap:=h' }:=λits r' hz h' c' kp e=>
  ⟨.ref 65,_,I.laid (t':=s.toks) kp (ir _) (show ObjOk X.prog X.w _ h' _ (.lst ys)from⟨hz,its,c',r',e⟩),rfl,q _ (I.hok.fresh (ir _))⟩
 rcases hq with hq|hq
 .obtain⟨its,r',pl,hz⟩:=I.list hq;have hlen:=r'.length;obtain⟨o,ho,hc,n,hd⟩:=pl.isList;exact call_list_seq p (.inl rfl) ho hc hd (λh' c' kp e=>fin its r' hz h' c' kp e) (by simp only[iy]<;>omega)
 .obtain⟨its,r',pl,hz⟩:=I.tuple hq;have hlen:=r'.length;obtain⟨o,ho,hc,n,hd⟩:=pl;exact call_list_seq p (.inr rfl) ho hc hd (λh' c' kp e=>fin its r' hz h' c' kp e) (by simp only[iy]<;>omega)
def Mm:CallR X (.type "tuple") (λxs H Q=>∃p ys,xs=[.ref p]/\((SqL X.K H p ys/\∀l,H l=none->Q (.ref l) (upd H l (.tup ys)))∨(SqT X.K H p ys/\Q (.ref p) H))):=by
 intro pins s σ H xs us Q I r h;obtain⟨p,ys,rfl,h⟩:=h;obtain⟨u,rfl,rx⟩:=BL r;cases rx;rcases h with⟨hq,q⟩|⟨hq,q⟩
 .obtain⟨its,r',pl,hz⟩:=I.list hq;have hlen:=r'.length;refine call_tuple_list pl.isList (λh' kp=>?_) (by simp only[iy]<;>omega);have I1:Inv X pins σ H { s with heap:=h' }:=I.kept (t':=s.toks) kp;have I2:Inv X pins σ (upd H h'.objs.size (.tup ys)) { s with heap:=h'.push { cls:=.type "tuple",data:=.seq its.toArray } }:=
   I1.laid (t':=s.toks) (λb o e=>72 _ e) (ir _) (show ObjOk X.prog X.w _ _ _ (.tup ys)from⟨hz,its,r',IsTupD.new _ _⟩)
  exact⟨.ref h'.objs.size,_,I2,rfl,q _ (I1.hok.fresh (ir _))⟩
 .obtain⟨its,r',pl,hz⟩:=I.tuple hq;exact call_tuple_same pl ⟨.ref p,H,I,rfl,q⟩
def tyV(K:Frag)(T:String)(x:V)(H:Hp):Prop:=match x with
 |.str _=>T="str"
 |.int _=>T="int"
 |.ref p=>(T="list"/\∃xs,SqL K H p xs)∨(T="tuple"/\∃o,K.lookup p=some o/\o.cls=.type "tuple"/\o.dict=none) ∨
  (T="dict"/\((∃kvs,H p=some (.dK kvs))∨∃kvs,H p=some (.dT kvs)))∨(T="set"/\∃S n,H p=some (.set S n))
 |_=>False
def SF{pins:90}{σ:St}{H:Hp}{s:120}{T:String}{x:V}{v:168}(I:76)(r:RelV x v)(ty:tyV X.K T x H):
 s.TypeIs v T/\∀a,v=.ref a->∃ob,s.heap.get? a=some ob/\ob.dict=none:=by
 cases x with
 |str z=>
  obtain⟨t,rfl⟩:=r;cases(show T="str" from ty);exact⟨typeIs_str s z t,λ_ e=>nomatch e⟩
 |int i=>
  obtain⟨t,rfl⟩:=r;cases(show T="int" from ty);exact⟨jN s i t,λ_ e=>nomatch e⟩
 |ref p=>
  cases r;rcases ty with⟨rfl,xs,hq⟩|⟨rfl,o,hk,hc,hd⟩|⟨rfl,hk⟩|⟨rfl,S,n,hk⟩
  .obtain⟨its,_,pl,_⟩:=I.list hq;refine⟨pl.isList.typeIs,λa e=>?_⟩;cases e;obtain⟨o,n,e,c,hd,_⟩:=pl;exact⟨o,e,hd⟩
  .refine⟨⟨o,I.kIn p o hk,hc⟩,λa e=>?_⟩;cases e;exact⟨o,I.kIn _ o hk,hd⟩
  .have z:∃o,s.heap.get? p=some o/\o.ExactDict:=by
    rcases hk with⟨kvs,hk⟩|⟨kvs,hk⟩
    .obtain⟨_,_,_,_,o,_,_,e,ex,_⟩:=I.hok p _ hk;exact⟨o,e,ex⟩
    .obtain⟨_,_,_,_,o,_,_,e,ex,_⟩:=I.hok p _ hk;exact⟨o,e,ex⟩
   obtain⟨o,e,ex⟩:=z;refine⟨⟨o,e,ex.1⟩,λa e2=>?_⟩;cases e2;exact⟨o,e,ex.2.1⟩
  .obtain⟨o,_,_,_,e,ex,_⟩:=I.hok p _ hk;refine⟨⟨o,e,ex.1⟩,λa e2=>?_⟩;cases e2;exact⟨o,e,ex.2.1⟩
 |_=>exact False.elim ty
noncomputable def Ul(K:Frag)(T:String)(r:V->List V->Hp->VK->Prop)(to:TE):TE:=λσ H Q=>to σ H λx H1=>tyV K T x H1/\r x [] H1 Q
noncomputable def tBM(K:Frag)(T:String)(r:V->List V->Hp->VK->Prop)(to:TE)(t:TA):TE:=λσ H Q=>to σ H λx H1=>tyV K T x H1/\t σ H1 λxs H2=>r x xs H2 Q
variable{o e:Expr}{es:List Expr}{to:TE}{t:TA}{name:Str}{apos cpos:Pos}{T id:String}{r:V->List V->Hp->VK->Prop}
def cu(pa:PlainAttrs T)(slot:Slot T name id)(hty:typeOf (.builtin id)=pure (.type "method_descriptor"))(hm:MtR X id r)(ho:PE X o to)
 (hbase:attributeBase o name X.env (eval o X.env)=eval o X.env:=by rfl) (hline:(apos.endLine==cpos.line)=true:=by rfl):PE X (.Call (.Attribute o name apos) [] [] cpos) (Ul X.K T r to):=by
 intro pins s σ H Q I h;refine wpAny_Call_method0_late hbase hline (thn (ho pins s σ H _ I h) λv s1 ⟨x,H1,I1,r1,ty,q1⟩=>?_);obtain⟨h1,h2⟩:=SF I1 r1 ty;exact⟨T,id,pa,slot,hty,h1,h2,Calls.callWith_builtin rfl (PySem.evalArgs_none (hm pins s1 σ H1 x [] v [] Q I1 r1 .nil q1))⟩
def fN(pa:PlainAttrs T)(slot:Slot T name id)(hty:typeOf (.builtin id)=pure (.type "method_descriptor"))(hm:MtR X id r)(ho:PE X o to)(ha:PA X 179 t)
 (hbase:attributeBase o name X.env (eval o X.env)=eval o X.env:=by rfl)
 (hfew:((backTo cpos (starEach 179 X.env)).all (λx=>!x.1)&&(backToKw cpos (keywordEach [] X.env)).all (λx=>x.1.isSome)
  && decide ((179).length+([]:List Keyword).length+(if([]:List Keyword).isEmpty then 0 else 1)<30))=true:=by rfl)
 (hline:(apos.endLine==cpos.line)=true:=by rfl) (hs:starEach 179 X.env=109::starEach es X.env:=by rfl) (hplain:(backTo cpos 149).any (·.1)=false:=by rfl):
 PE X (.Call (.Attribute o name apos) 179 [] cpos) (tBM X.K T r to t):=by
 intro pins s σ H Q I h;refine wpAny_Call_method_late hbase hfew hline rfl (thn (ho pins s σ H _ I h) λv s1 ⟨x,H1,I1,r1,ty,q1⟩=>?_);obtain⟨h1,h2⟩:=SF I1 r1 ty;refine⟨T,id,pa,slot,hty,h1,h2,?_⟩;have hA:=ha cpos pins s1 σ H1 _ I1 q1;rw[hs]at hA ⊢;refine Calls.callWith_builtin (by show(false||(backTo cpos 149).any (·.1))=false;rw[hplain]<;>rfl) (Calls.evalArgs_plain ?_);exact thn hA λus s2 ⟨vs,H2,I2,r2,q2⟩=>hm pins s2 σ H2 x vs v us Q I2 r1 r2 q2
end
def MtM(X:Cx)(id:String)(r:V->List V->Hp->VK->Prop):Prop:=
 ∀(pins:90) (s:120) (σ:St) (H:Hp) (x:V) (xs:155) (v:168) (us:83) (Q:VK),Inv X pins σ H s->RelV x v->Vals xs us->r x xs H Q ->
   wpAny 70 X.A (call (.builtin id) (v::us)) 191 X.xe s
def Vals.one{x:V}{us:83}(h:Vals [x] us):∃u,us=[u]/\RelV x u:=by
 cases h with|cons r t=>cases t;exact⟨_,rfl,r⟩
def Vals.zero:∀{us:83},Vals [] us->us=[]
 |_,.nil=>rfl
theorem Vals.dropLast{xs:155}{us:83}(h:Vals xs us):Vals xs.dropLast us.dropLast:=by
 induction h with
 |nil=>exact .nil
 |cons r t ih=>
  cases t with
  |nil=>exact .nil
  |cons q t'=>exact .cons r ih
theorem Vals.eraseIdx:∀{xs:155} {us:83} (i:Nat),Vals xs us->Vals (xs.eraseIdx i) (us.eraseIdx i)
 |_,_,_,.nil=>.nil
 |_,_,0,.cons _ t=>t
 |_,_,i+1,.cons r t=>.cons r (Vals.eraseIdx i t)
theorem Vals.rep{xs:155}{us:83}(h:Vals xs us):∀k:Nat,Vals (79 k xs).flatten (79 k us).flatten
 |0=>.nil
 |k+1=>by
  rw[jW,jW,flatten_cons,flatten_cons];exact Vals.append h (Vals.rep h k)
def Ro{α:Type}(l:List α):l.eraseIdx (l.length-1)=l.dropLast:=by
 induction l with
 |nil=>rfl
 |cons a r ih=>
  cases r with
  |nil=>rfl
  |cons b r=>
   have e:(a::b::r).length-1=((b::r).length-1)+1:=by
    have h1:(a::b::r).length=r.length+2:=rfl;have h2:(b::r).length=r.length+1:=rfl;omega
   rw[e,List.eraseIdx_cons_succ,ih]
   all_goals rfl
theorem M7{α:Type}:∀(l:List α) (i:Nat),(l.eraseIdx i).length<=l.length
 |[],_=>ir _
 |_::_,0=>jR _
 |_::r,i+1=>Nat.succ_le_succ (M7 r i)
theorem MJ(its:83):∀(k:Nat) (acc:83),
 List.foldl (λx1 x2=>x1++x2) acc.toArray (79 k 107)=(acc++(79 k its).flatten).toArray
 |0,acc=>by simp
 |k+1,acc=>by
  have e:acc.toArray++107=(acc++its).toArray:=by simp
  have e2:(acc++its)++(79 k its).flatten=acc++(79 (k+1) its).flatten:=by
   rw[jW,flatten_cons,jJ]
  rw[<- e2,<- MJ its k (acc++its),<- e,jW,foldl_cons]
section
variable{X:Cx}{pins:90}{σ:St}{H:Hp}{s:120}{l b:Addr}{xs ys zs:155}
def Inv.lset{its its':83}{n:Nat}{f:Array Value->Array Value}{t':Nat}(I:76)(hH:H l=some 158)
 (e:s.heap.get? l=some { cls:=.type "list",data:=.seq 107 n }) (hf:f 107=its'.toArray) (hv:Vals ys its') (hz:ys.length<=sizeLine):
 Inv X pins σ (upd H l (.lst ys)) { s with heap:=s.heap.update l (Obj.mapSeq f),toks:=t' }:=by
 have q:=PySem.IsL.update e f;rw[hf]at q;refine I.write (x:=l) (e:=l) (by rw[hH];exact trivial) (.inl rfl) (λb' u hb hu=>(Heap.get?_update_other s.heap (142 f) (Ne.symm hb)).trans hu) ⟨_,q⟩ ?_;exact⟨hz,its',_,hv,q⟩
def Inv.lnew{its:83}{t':Nat}(I:76)(hv:Vals ys its)(hz:ys.length<=sizeLine):
 Inv X pins σ (upd H 65 (.lst ys)) { s with heap:=s.heap.push { cls:=.type "list",data:=.seq its.toArray },toks:=t' }:=
 I.laid (λ_ _ q=>72 _ q) (ir _) ⟨hz,its,0,hv,87 _ rfl⟩
theorem Inv.fresh(I:76):H 65=none:=I.hok.fresh (ir _)
def Inv.lstM(I:76)(hH:H l=some 158):96<=sizeLine/\∃(its:83) (n:Nat),Vals xs its/\96=its.length/\s.heap.get? l=some { cls:=.type "list",data:=.seq 107 n }:=by
 obtain⟨z,its,n,r,e⟩:=I.hok l _ hH;exact⟨z,its,n,r,r.length,e⟩
def JN{n:Nat}(h:n<=sizeLine):Builtin.List.listTooLong n=false:=by
 unfold Builtin.List.listTooLong;exact jx 68
end
section
variable{X:Cx}
def PZ:V->List V->Hp->VK->Prop:=λx vs H Q=>∃l xs y,x=.ref l/\vs=[y]/\H l=some 158/\96<sizeLine/\Q .non (upd H l (.lst (xs++[y])))
def M4:MtM X "list.append" PZ:=by
 intro pins s σ H x vs v us Q I rx rv h;obtain⟨l,xs,y,rfl,rfl,hH,hz,q⟩:=h;cases rx;obtain⟨u,rfl,ru⟩:=rv.one;obtain⟨z,its,n,r,hl,e⟩:=I.lstM hH;refine k6 F.slot_list_append ⟨_,e,rfl⟩ F.entry_list_append (F.args_list_append_2 _ _) (PySem.list_append l 107 n u (by rw[iy];omega)) ⟨e,?_⟩;refine⟨.non,_,I.lset (its':=its++[u]) hH e 71 (r.append (.cons ru .nil)) ?_,rfl,q⟩;rw[jo,List.length_singleton];omega
def Yi:V->List V->Hp->VK->Prop:=λx vs H Q=>∃l b xs zs,x=.ref l/\vs=[.ref b]/\H l=some 158/\H b=some (.lst zs)/\96+zs.length<=sizeLine/\Q .non (upd H l (.lst (xs++zs)))
def gH:MtM X "list.extend" Yi:=by
 intro pins s σ H x vs v us Q I rx rv h;obtain⟨l,b,xs,zs,rfl,rfl,hH,hB,hz,q⟩:=h;cases rx;obtain⟨u,rfl,ru⟩:=rv.one;cases ru;obtain⟨z,its,n,r,hl,e⟩:=I.lstM hH;obtain⟨z2,its2,n2,r2,hl2,e2⟩:=I.lstM hB;have hsz:129+its2.toArray.size<=sizeLine:=by rw[iy,iy];omega
 have hlong:¬ (!its.toArray.isEmpty&&Builtin.List.listTooLong (129+its2.toArray.size))=true:=by
  rw[JN hsz,Bool.and_false];exact 106
 refine k6 F.slot_list_extend ⟨_,e,rfl⟩ F.entry_list_extend (F.args_list_extend_2 _ _)
  (AutoSeq1.list_extend_list_list_0 l 107 n b its2.toArray n2 hlong (by rw[iy];omega) 68) ⟨e,e2,?_⟩
 refine⟨.non,_,I.lset (its':=its++its2) hH e 71 (r.append r2) ?_,rfl,q⟩;rw[jo];omega
def bX:V->List V->Hp->VK->Prop:=λx vs H Q=>∃l xs y,x=.ref l/\vs=[]/\H l=some 158/\xs[96-1]?=some y/\Q y (upd H l (.lst xs.dropLast))
def dQ:MtM X "list.pop" bX:=by
 intro pins s σ H x vs v us Q I rx rv h;obtain⟨l,xs,y,rfl,rfl,hH,hy,q⟩:=h;cases rx;have hus:=rv.zero;subst hus;obtain⟨z,its,n,r,hl,e⟩:=I.lstM hH;obtain⟨u,hu,ru⟩:=r.get hy;have hy':107[129-1]?=some u:=by
  show 107[its.length-1]?=some u;rw[<- Array.getElem?_toList,<- hl];exact hu
 refine k6 F.slot_list_pop ⟨_,e,rfl⟩ F.entry_list_pop (F.args_list_pop_1 _) (MeetsSeq.list_pop_last l 107 n u hy' (by rw[iy];omega)) ⟨e,?_⟩;refine⟨y,_,I.lset (its':=its.dropLast) hH e ?_ r.dropLast ?_,ru,q⟩
 .show its.toArray.eraseIdxIfInBounds (129-1)=its.dropLast.toArray;rw[iy,List.eraseIdxIfInBounds_toArray,Ro]
 .rw[List.length_dropLast];omega
def T0:V->List V->Hp->VK->Prop:=λx vs H Q=>∃l xs i k y,x=.ref l/\vs=[.int i]/\H l=some 158/\-(2^63)<=i/\i<2^63/\seqIndex? i 96=some k/\xs[k]?=some y/\Q y (upd H l (.lst (xs.eraseIdx k)))
def Vz:MtM X "list.pop" T0:=by
 intro pins s σ H x vs v us Q I rx rv h;obtain⟨l,xs,i,k,y,rfl,rfl,hH,h1,h2,hk,hy,q⟩:=h;cases rx;obtain⟨u,rfl,ru⟩:=rv.one;obtain⟨t,rfl⟩:=ru;obtain⟨z,its,n,r,hl,e⟩:=I.lstM hH;obtain⟨w,hw,rw'⟩:=r.get hy;refine k6 F.slot_list_pop ⟨_,e,rfl⟩ F.entry_list_pop (F.args_list_pop_2 _ _)
  (MeetsSeq.list_pop_at l 107 n i t k w (fitsIndex_both h1 h2) (by rw[iy,<- hl];exact hk) (by rw[<- Array.getElem?_toList];exact hw) (by rw[iy];omega)) ⟨e,?_⟩
 refine⟨y,_,I.lset (its':=its.eraseIdx k) hH e ?_ (r.eraseIdx k) ?_,rw',q⟩
 .show its.toArray.eraseIdxIfInBounds k=(its.eraseIdx k).toArray;rw[List.eraseIdxIfInBounds_toArray]
 .have:=M7 xs k;omega
noncomputable def VO:R2:=λx y H Q=>∃l b xs zs,x=.ref l/\y=.ref b/\H l=some 158/\H b=some (.lst zs)/\96+zs.length<=sizeLine/\∀p,H p=none->Q (.ref p) (upd H p (.lst (xs++zs)))
def dL:OpR X (binaryOp .Add) VO:=by
 intro pins s σ H x y v u Q I rx ry h;obtain⟨l,b,xs,zs,rfl,rfl,hH,hB,hz,q⟩:=h;cases rx;cases ry;obtain⟨z,its,n,r,hl,e⟩:=I.lstM hH;obtain⟨z2,its2,n2,r2,hl2,e2⟩:=I.lstM hB;refine PySem.P.add_list e e2 ?_ (by rw[iy,iy];omega);have ea:107++its2.toArray=(its++its2).toArray:=by simp
 rw[ea];exact⟨.ref _,_,I.lnew (t':=s.toks) (r.append r2) (by rw[jo];omega),rfl,q _ I.fresh⟩
noncomputable def VL:R2:=λx y H Q=>∃l k xs,x=.ref l/\y=.int k/\H l=some 158/\-(2^63)<=k/\k<2^63/\96*k.toNat<=sizeLine /\
 ∀p,H p=none->Q (.ref p) (upd H p (.lst (79 k.toNat xs).flatten))
def Zk{α:Type}(xs:List α)(k:Nat):(79 k xs).flatten.length=k*xs.length:=by
 induction k with
 |zero=>simp
 |succ k ih=>rw[jW,flatten_cons,jo,ih,Nat.succ_mul,Nat.add_comm]
def d9:OpR X (binaryOp .Mult) VL:=by
 intro pins s σ H x y v u Q I rx ry h;obtain⟨l,k,xs,rfl,rfl,hH,h1,h2,hz,q⟩:=h;cases rx;obtain⟨t,rfl⟩:=ry;obtain⟨z,its,n,r,hl,e⟩:=I.lstM hH;have hlen:129*k.toNat<=sizeLine:=by rw[iy,<- hl];exact hz
 have hcap:¬ 129*k.toNat>(2^63-1)/8:=by
  have:(sizeLine:Nat)<=(2^63-1)/8:=by decide
  omega
 have hfit:¬ (!Builtin.List.listFitsIndex k)=true:=by
  rw[fitsIndex_both h1 h2];exact 106
 have hlong:¬ Builtin.List.listTooLong (129*k.toNat)=true:=by
  rw[JN hlen];exact 106
 have hnew:List.foldl (λx1 x2=>x1++x2) #[] (79 (if its.toArray.isEmpty=true then 0 else k.toNat) 107)=(79 k.toNat its).flatten.toArray:=by
  have f0:∀m:Nat,List.foldl (λx1 x2=>x1++x2) #[] (79 m 107)=(79 m its).flatten.toArray:=λm=>by
   have:=MJ its m [];rw[jP]at this;exact this
  rw[f0];cases its with
  |nil=>simp
  |cons a r'=>rw[ip 71]
 refine wpAny_binaryOp_repeat_ref (T:="list") (U:="int") 95 ⟨_,e,rfl⟩ (λs'=>jN s' k t) noFill_list_mul F.fills_int_mul F.slot_int_rmul repeat_list F.slot_int_index.lookup
  (k6 F.slot_int_rmul (jN s k t) F.entry_int_rmul (F.args_int_rmul_2 _ _) (int___rmul___int_list k t l 107 n)
   ⟨e,rfl,⟨_,e,rfl⟩,k6 F.slot_list_mul ⟨_,e,rfl⟩ F.entry_list_mul (F.args_list_mul_2 _ _) (AutoListH.list___mul___list_int_3 l 107 n k t hfit hcap hlong) ⟨e,?_⟩⟩)
 rw[hnew];exact⟨.ref _,_,I.lnew (t':=s.toks) (r.rep k.toNat) (by rw[Zk,Nat.mul_comm];exact hz),rfl,q _ I.fresh⟩
end
end L2
namespace Att
open PySem PySem.W PySem.Calls PyProof.Rows
def KO{P:Params}{h:Heap}:∀(ns:88) (vs:83),WellAll P h vs (ns.map WData.int)->IntsAre vs ns:=by
 intro ns
 induction ns with
 |nil=>
  intro vs w;rw[jr]at w;cases w;exact .nil
 |cons n ns ih=>
  intro vs w;rw[j3]at w;cases w with
  |cons a b=>
   cases a;exact .cons _ _ (ih _ b)
def SR{l:OpenLaw}{n:Nat}(hn:l.most=some n){P:Params}{h:Heap}{args:List WData}{vals:83}
 (hpre:l.row.toRowW.claim.pre args=true) (hwl:WellAll P h vals args):
 ∃a vs ns,vals=[Value.ref a]/\args=[WData.list (ns.map WData.int)]/\h.get? a=some { cls:=.type "list",data:=.seq 86 }/\IntsAre vs ns/\169<=n:=by
 have hsh:WShape.hasAll [] args [.list .int]=true:=(pre_splitW hpre).1;have hc:l.pre.holds [] { args:=args }=true:=(pre_splitW hpre).2;obtain⟨d,r,rfl,h1,h2⟩:=hasAllW_cons hsh;obtain rfl:=hasAllW_nil h2;obtain⟨xs,rfl,h3⟩:=hasW_list h1;obtain⟨ns,rfl⟩:=items_int h3;have hlen:169<=n:=by
  unfold OpenLaw.pre at hc;have h4:(WTm.not (.lt (.lit (.int (n:Int))) (.len (.arg 0)))).holds [] { args:=[.list (ns.map .int)] }=true:=by
   have h4:=(holds_andW hc).1;rw[hn]at h4;exact h4
  have h5:=condW_of h4 (w_not (w_lt w_lit (w_len_list (w_arg rfl))));rw[ja]at h5;refine Nat.le_of_not_lt λq=>?_;have q':(n:Int)<((ns.length:Nat):Int):=by omega
  first
   |(rw[jI q']at h5;exact absurd h5 95)
   |(simp at h5;omega)
 cases hwl with
 |cons w1 w2=>
  cases w2;cases w1 with
  |list ho hall=>exact⟨_,_,ns,rfl,rfl,ho,KO ns _ hall,hlen⟩
def T9(l:OpenLaw)(args:List WData):l.row.toRowW.claim.post args (.bool true) args=true:=
 postW_of (r:=l.row.toRowW) (X:=(true==true))
  (show WShape.has [] (.bool true) .bool=true by first|rfl|decide|simp[WShape.has,WShape.arms,WShape.armsAll])
  (show(WTm.eq .res (.lit (.bool true))).value [] { args:=args,res:=some (.bool true),after:=args }=some (.bool (true==true))from w_eq_bool (w_res rfl) w_lit) rfl
def attach_call{l:OpenLaw}{n:Nat}{q:Program}{loose:190}{XP:(Str->Option Value)->Heap->Prop}{YP:World->Heap->Prop}{d:DefRec}
 (hn:l.most=some n) (hdf:d.params.defaults=[])
 (call:∀(w:World) (s₀ s₁:120) (mg mb:130) (fa:Addr) (o:Obj) (pm cd doc:168) (a:Addr) (vs:83) (ns:88),
  Ground q loose [] XP w s₀ mg mb s₁.heap->YP w s₁.heap ->
  s₁.heap.get? fa=some o->o.data=.func (docDef d.name d.params d.body d.scope pm cd doc)->s₁.heap.CodeRec cd d.name->mg d.name=some (.ref fa) ->
  s₁.heap.get? a=some { cls:=.type "list",data:=.seq 86 }->IntsAre vs ns->169<=n->s₁.gens=#[] ->
  codeAny (model l.prog w) callerA (.call (.ref fa) ⟨[.ref a],[]⟩) (λr s'=>r=.ok (.ret (.bool true))/\OldK s₁.heap s'.heap/\s'.os=s₁.os/\AllBare s'.gens) s₁):
 WalkO q loose XP YP l.row.toRowW d [] (λf vs=>PySem.call f vs):=by
 intro w s₀ s₁ mg mb G Y fa o pm cd doc dV kV ho hd hcd hD hmg hg args vals as hpre hlay hrd hwl hlo;obtain rfl:dV=.none:=Dflts.none hD hdf;obtain rfl:kV=.none:=Dflts.noKw hD;obtain⟨a,vs,ns,rfl,rfl,hobj,hints,hlen⟩:=SR hn hpre hwl;refine enter_call (kr (call w s₀ s₁ mg mb fa o pm cd doc a vs ns G Y ho (fd_plain hd) hcd hmg hobj hints hlen hg) λr s' hq=>?_);obtain⟨rfl,h2,h3,h4⟩:=hq;exact⟨.inl ⟨.bool true,.bool true,[],rfl,λ_=>rfl,.bool true,T9 l _,λ_=>⟨List.Pairwise.nil,λ_ hm=>(nomatch hm)⟩⟩,h2,h3,h4⟩
end Att
namespace L2
open PySem PySem.Spec PyProof.Rows
theorem Lo:∀{vs:83} {ns:88},IntsAre vs ns->Vals 157 vs
 |_,_,.nil=>.nil
 |_,_,.cons n t h=>.cons ⟨t,rfl⟩ (Lo h)
noncomputable def CQ(s:Stmt):Arguments:=match s with
 |.FunctionDef _ a _ _ _ _ _ _ _ _=>a
 |_=>{ posonlyargs:=[],args:=[],vararg:=none,kwonlyargs:=[],kw_defaults:=[],kwarg:=none,defaults:=[] }
noncomputable def BR(s:Stmt):List Stmt:=match s with
 |.FunctionDef _ _ b _ _ _ _ _ _ _=>b
 |_=>[]
noncomputable def AC(s:Stmt):Scope:=match s with
 |.FunctionDef _ _ _ _ _ _ sc _ _ _=>sc
 |_=>{ kind:=.function,names:=[],isGenerator:=false,isCoroutine:=false }
noncomputable abbrev CX0:CXT:=λ_ _ _ _ _ _=>False
noncomputable abbrev E0:XK:=λ_ _ _=>False
def XT{X:Cx}:Kq CX0 X E0:=λ_ _ _ _ _ _ _ h=>h.elim
structure Fun(K:Frag)(x qual:Str)(st:Stmt)(f:Addr)(fd:FuncData):Prop where
 ex:∃(oc:168) (od:Option Addr) (kV doc pm:168) (an:Option Addr) (cdv ct:168) (osl:Array (Option Value)),
  fd=fnOf x qual (CQ st) (BR st) (AC st) .none kV doc pm an cdv ct/\K.lookup f=some ⟨oc,od,.func fd,osl⟩/\codeIn K cdv qual=true
 kp:keepIn K (.ref f)=true
section
variable{P:Program}{w:World}{K:Frag}{mg:130}{base:Heap}
def Fun.ok{x qual:Str}{st:Stmt}{f:Addr}{fd:FuncData}{N ps:190}{k:Nat}{sp:Sp}(F:Fun K x qual st f fd)(S:FnScope N ps (AC st))(len:∀vs H Q E,sp vs H Q E->112=126)
 (hbody:∀(cdv:168) (A:Around) (outer:List Env) (s:120) (H:Hp) (vs:155) (Q:VK) (E:XK),Room k (A.deeper (envOfC qual (AC st) 65 f cdv))->sp vs H Q E ->
  ∃t,PSs (G4 CX0 P w K mg base N qual (AC st) f cdv A outer s H E).nox (BR st) t/\t { nx:=λ_ H'=>Q .non H',rt:=Q } (start N vs) H):FnOk P w K mg base CX0 (k+1) f fd ps sp:=by
 obtain⟨oc,od,kV,doc,pm,an,cdv,ct,osl,rfl,lk,hcd⟩:=F.ex;refine XZ lk hcd S len λA outer s H vs Q E hr hsp=>?_;obtain⟨t,h,q⟩:=hbody cdv A outer s H vs Q E hr hsp;exact⟨t,h.nox,q⟩
def Fun.binds{x qual:Str}{st:Stmt}{f:Addr}{fd:FuncData}{ps:190}(F:Fun K x qual st f fd)
 (h:∀(kV doc pm:168) (an:Option Addr) (cdv ct:168) (us:83),us.length=126->bindArgs (fnOf x qual (CQ st) (BR st) (AC st) .none kV doc pm an cdv ct) ⟨us,[]⟩=pure (ps.zip us)):Binds K fd ps []:=by
 obtain⟨oc,od,kV,doc,pm,an,cdv,ct,osl,rfl,lk,hcd⟩:=F.ex;exact .all (h kV doc pm an cdv ct)
def dm{x qual:Str}{st:Stmt}{f:Addr}{oc:168}{od an:Option Addr}{osl:Array (Option Value)}{kV doc pm cdv ct:168}(l:K.lookup f=some ⟨oc,od,.func (fnOf x qual (CQ st) (BR st) (AC st) .none kV doc pm an cdv ct),osl⟩)
 (c:codeIn K cdv qual=true) (k:keepIn K (.ref f)=true):Fun K x qual st f (fnOf x qual (CQ st) (BR st) (AC st) .none kV doc pm an cdv ct):=⟨⟨oc,od,kV,doc,pm,an,cdv,ct,osl,rfl,l,c⟩,k⟩
end
def Rb{A:Around}{k:Nat}(hr:Room k A):A.units+1<cLine:=Nat.lt_of_le_of_lt (Nat.add_le_add_left (by decide:1<=64) _) hr.units
def HQ{n:Nat}(h:n<=1000):n<sizeLine:=Nat.lt_of_le_of_lt h 95
section
variable{κ:Type}[DecidableEq κ]
noncomputable def E3(kvs:List (κ×V))(k:κ):Option V:=(kvs.find? λkv=>decide (kv.1=k)).map (·.2)
noncomputable def Cs(kvs:List (κ×V))(k:κ)(v:V):List (κ×V):=
 if(kvs.any λkv=>decide (kv.1=k))=true then kvs.map (λkv=>if kv.1=k then(kv.1,v)else kv)else kvs++[(k,v)]
def FC{p:κ×V}{k:κ}(e:p.1=k):E3 (p::r) k=some p.2:=by simp[E3,jK,e]
def FE{p:κ×V}{k:κ}(e:¬ p.1=k):E3 (p::r) k=E3 r k:=by simp[E3,jK,e]
theorem N9(k:κ):∀kvs:List (κ×V),(kvs.any λkv=>decide (kv.1=k))=(E3 kvs k).isSome
 |[]=>rfl
 |p::r=>by
  rw[jV];by_cases e:p.1=k
  .simp only[FC e,jI e,Bool.true_or,Option.isSome_some]
  .rw[FE e,jx e,Bool.false_or];exact N9 k r
def Fz(kvs:List (κ×V))(k:κ)(v:V):(Cs kvs k v).length<=184+1:=by
 unfold Cs;split
 .rw[ja];omega
 .rw[jo,ji,jG];omega
def RelO.isSome_eq(r:RelO o u):o.isSome=u.isSome:=by
 cases o with
 |none=>cases u with
  |none=>rfl
  |some _=>exact(show False from r).elim
 |some _=>cases u with
  |none=>exact(show False from r).elim
  |some _=>rfl
def KV.val(r:KV kvs vs)(k:κ):RelO (E3 kvs k) (valueAt vs k):=by
 unfold KV at r
 induction r with
 |nil=>exact True.intro
 |@cons p q ps qs h t ih=>
  obtain⟨h1,h2⟩:=h;by_cases e:p.1=k
  .have e':q.1=k:=h1.symm.trans e;have b:valueAt (q::qs) k=some q.2:=by simp[valueAt,jK,e']
   rw[FC e,b];exact h2
  .have e':¬ q.1=k:=λz=>e (h1.trans z);have b:valueAt (q::qs) k=valueAt qs k:=by simp[valueAt,jK,e']
   rw[FE e,b];exact ih
theorem KV.any(r:KV kvs vs)(k:κ):(kvs.any λkv=>decide (kv.1=k))=vs.any λkv=>decide (kv.1=k):=by
 unfold KV at r
 induction r with
 |nil=>rfl
 |cons h t ih=>rw[jV,jV,ih,h.1]
def KV.repl(r:KV kvs vs)(k:κ)(ry:RelV y u):
 KV (kvs.map λkv=>if kv.1=k then(kv.1,y)else kv) (vs.map λkv=>if kv.1=k then(kv.1,u)else kv):=by
 unfold KV at r ⊢
 induction r with
 |nil=>exact .nil
 |@cons p q ps qs h t ih=>
  rw[j3,j3];refine .cons ?_ ih;obtain⟨h1,h2⟩:=h;by_cases e:p.1=k
  .rw[il e,il (h1.symm.trans e)];exact⟨h1,ry⟩
  .rw[ip e,ip (λz=>e (h1.trans z))];exact⟨h1,h2⟩
def KV.put(r:KV kvs vs)(k:κ)(ry:RelV y u):KV (Cs kvs k y) (stored vs k u):=by
 unfold Cs stored;rw[r.any k];by_cases e:(vs.any λkv=>decide (kv.1=k))=true
 .rw[il e,il e];exact r.repl k ry
 .rw[ip e,ip e];exact Paired.snoc r ⟨rfl,ry⟩
theorem KV.length(r:KV kvs vs):184=vs.length:=Paired.length r
end
def KL(r:RelV (kV k) u):(Bn P w).is k u=true:=by
 cases k with
 |inl i=>obtain⟨t,e⟩:=(show ∃t,u=Value.int i t from r);subst e;exact Ow P w i t
 |inr x=>obtain⟨t,e⟩:=(show ∃t,u=Value.str x t from r);subst e;exact Ov P w x t
theorem MD:∀{ks:List Key} {us:83},Vals (ks.map kV) us->ItemsAre (Bn P w) ks us
 |[],_,r=>by rw[jr]at r;cases r;exact .nil
 |k::ks,_,r=>by
  rw[j3]at r;cases r with
  |cons h t=>exact .cons (KL h) (MD t)
abbrev KT(H:Hp):List (List Key×V)->List (List Key×Addr×Value)->Prop:=Paired λp q=>p.1=q.1/\H q.2.1=some (.tup (p.1.map kV))/\RelV p.2 q.2.2
def KT.val(r:KT H kvs xs)(k:List Key):RelO (E3 kvs k) ((atKey xs k).map (·.2)):=by
 induction r with
 |nil=>exact True.intro
 |@cons p q ps qs h t ih=>
  obtain⟨h1,_,h2⟩:=h;by_cases e:p.1=k
  .have e':q.1=k:=h1.symm.trans e;have b:atKey (q::qs) k=some q.2:=by simp[atKey,jK,e']
   rw[FC e,b];exact h2
  .have e':¬ q.1=k:=λz=>e (h1.trans z);have b:atKey (q::qs) k=atKey qs k:=by simp[atKey,jK,e']
   rw[FE e,b];exact ih
def KT.repl(r:KT H kvs xs)(k:List Key)(ry:RelV y u):
 KT H (kvs.map λkv=>if kv.1=k then(kv.1,y)else kv) (xs.map (putAt k u)):=by
 induction r with
 |nil=>exact .nil
 |@cons p q ps qs h t ih=>
  rw[j3,j3];refine .cons ?_ ih;obtain⟨h1,h2,h3⟩:=h;unfold putAt;by_cases e:p.1=k
  .rw[il e,il (h1.symm.trans e)];exact⟨h1,h2,ry⟩
  .rw[ip e,ip (λz=>e (h1.trans z))];exact⟨h1,h2,h3⟩
def KT.put(r:KT H kvs xs)(k:List Key)(hb:H b=some (.tup (k.map kV)))(ry:RelV y u):
 KT H (Cs kvs k y) (storedH xs k b u):=by
 have e:(kvs.any λkv=>decide (kv.1=k))=(atKey xs k).isSome:=by
  rw[N9,(r.val k).isSome_eq,isSome_map]
 unfold Cs storedH;rw[e];by_cases q:(atKey xs k).isSome=true
 .rw[il q,il q];exact r.repl k ry
 .rw[ip q,ip q];exact Paired.snoc r ⟨rfl,hb,ry⟩
def KT.keeps(r:KT H kvs xs)(ht:∀b ys,H b=some (.tup ys)->H' b=some (.tup ys)):KT H' kvs xs:=
 Paired.mapP r λ_ _ z=>⟨z.1,ht _ _ z.2.1,z.2.2⟩
section
def XC(ok:HOk P w H h)(e:Rd H a u):ObjOk P w H h a u:=e.ok ok
def N1(ok:HOk P w H h)(e:Rd H a (.dK kvs)):184<=sizeLine/\(a==sysModules)=false/\∃vs,KV kvs vs/\h.DictOf (Bn P w) a vs:=
 show ObjOk P w H h a (.dK kvs)from XC ok e
def Xb(ok:HOk P w H h)(e:H a=some (.dK kvs)):184<=sizeLine/\(a==sysModules)=false/\∃vs,KV kvs vs/\h.DictOf (Bn P w) a vs:=N1 ok (.inl e)
def KK{ks:List Key}(ok:HOk P w H h)(e:H a=some (.tup (ks.map kV))):(tupleKind (Bn P w)).is h ks a:=by
 obtain⟨_,its,r,o,h1,h2,⟨n,h3⟩,_⟩:=(show ObjOk P w H h a (.tup (ks.map kV))from ok a _ e)
 exact⟨o,107,n,h1,h2,h3,by simpa using MD r⟩
def N0(ok:HOk P w H h)(e:Rd H a (.dT kvs)):184<=sizeLine/\(a==sysModules)=false /\
 ∃xs,KT H kvs xs/\h.DictOfH (tupleKind (Bn P w)) a xs:=by
 obtain⟨z,y,xs,r,o,es,ep,h1,h2,h3,h4,h5⟩:=(show ObjOk P w H h a (.dT kvs)from XC ok e)
 refine⟨z,y,xs,r,o,es,ep,h1,h2,h3,h4,λx hx=>?_,h5⟩;have all:∀{l:List (List Key×V)} {m:List (List Key×Addr×Value)},KT H l m->∀x∈m,(tupleKind (Bn P w)).is h x.1 x.2.1:=by
  intro l m q
  induction q with
  |nil=>intro x hx;exact nomatch hx
  |@cons p q ps qs hq t ih=>
   intro x hx;rcases mem_cons.mp hx with e|hx
   .subst e;exact KK ok (by rw[<- hq.1];exact hq.2.1)
   .exact ih x hx
 exact all r x hx
def fq(ok:HOk P w H h)(e:H a=some (.dT kvs)):184<=sizeLine/\(a==sysModules)=false /\
 ∃xs,KT H kvs xs/\h.DictOfH (tupleKind (Bn P w)) a xs:=N0 ok (.inl e)
end
def DGet(H:Hp)(a:Addr)(y:V)(r:Option V):Prop:=
 (∃kvs k,Rd H a (.dK kvs)/\y=kV k/\r=E3 kvs k)∨∃kvs k b,Rd H a (.dT kvs)/\y=.ref b/\H b=some (.tup (k.map kV))/\r=E3 kvs k
def DPut(H:Hp)(a:Addr)(y v:V)(H':Hp):Prop:=
 (∃kvs k,H a=some (.dK kvs)/\y=kV k/\184<sizeLine/\H'=upd H a (.dK (Cs kvs k v))) ∨
 ∃kvs k b,H a=some (.dT kvs)/\y=.ref b/\H b=some (.tup (k.map kV))/\184<sizeLine/\H'=upd H a (.dT (Cs kvs k v))
theorem DGet.k{H:Hp}{a:Addr}{kvs:List (Key×V)}{k:Key}(e:H a=some (.dK kvs)):DGet H a (kV k) (E3 kvs k):=.inl ⟨kvs,k,.inl e,rfl,rfl⟩
theorem DPut.k{H:Hp}{a:Addr}{kvs:List (Key×V)}{k:Key}{v:V}(e:H a=some (.dK kvs))(hl:184<sizeLine):DPut H a (kV k) v (upd H a (.dK (Cs kvs k v))):=.inl ⟨kvs,k,e,rfl,hl,rfl⟩
section
variable{A:Around}{E:78}
def Inv.big(I:76):sysModules<s.heap.objs.size:=by
 have h:mainGlobals<s.heap.objs.size:=(I.mod.glob.keeps I.bk).lt;exact lt_trans 95 h
def U2{Q:78}(hu:A.units+1<cLine)(I:76)(g:DGet H a y (some v))(ry:RelV y u)(h:∀w' s',Inv X pins σ H s'->RelV v w'->Q w' s'):
 wpAny 70 A (getItem (.ref a) u) Q E s:=by
 rcases g with⟨kvs,k,e,ey,l⟩|⟨kvs,k,b,e,ey,eb,l⟩
 .subst ey;obtain⟨z,hd,vs,rel,dd⟩:=N1 I.hok e;obtain⟨w',hw,rw'⟩:=RelO.some_of (v:=v) (o:=valueAt vs k) (by rw[l];exact rel.val k);exact wpAny_getItem_of (KL ry) dd.mapOf hw (h w' _ (I.tok _) rw')
 .subst ey;cases(show u=Value.ref b from ry);obtain⟨z,hd,xs,rel,dd⟩:=N0 I.hok e;obtain⟨w',hw,rw'⟩:=RelO.some_of (v:=v) (o:=(atKey xs k).map (·.2)) (by rw[l];exact rel.val k);obtain⟨p,hp,hp2⟩:=ik hw;refine wpAny_getItem_heap (tupleKind_room_in1 hu) (KK I.hok eb) dd hp ?_;rw[hp2];exact h w' _ (I.tok _) rw'
def gk{Q:78}(hu:A.units+1<cLine)(I:76)(g:DGet H a y o)(ry:RelV y u)(h:∀s',Inv X pins σ H s'->Q (.bool o.isSome) s'):
 wpAny 70 A (compareOp .In u (.ref a)) Q E s:=by
 rcases g with⟨kvs,k,e,ey,l⟩|⟨kvs,k,b,e,ey,eb,l⟩
 .subst ey;obtain⟨z,hd,vs,rel,dd⟩:=N1 I.hok e;refine wpAny_in_of (KL ry) hd dd.mapOf ?_;rw[<- (rel.val k).isSome_eq,<- l];exact h _ (I.tok _)
 .subst ey;cases(show u=Value.ref b from ry);obtain⟨z,hd,xs,rel,dd⟩:=N0 I.hok e;refine wpAny_in_heap (tupleKind_room_in1 hu) (KK I.hok eb) hd dd ?_;have q:=(rel.val k).isSome_eq;rw[isSome_map]at q;rw[<- q,<- l];exact h _ (I.tok _)
def La{t':Nat}(I:76)(mu:Mut (H a))(hs:Heap.SameBut a s.heap h')(he:∃q,h'.get? a=some q)(new:ObjOk X.prog X.w (upd H a ob) h' a ob):
 Inv X pins σ (upd H a ob) { s with heap:=h',toks:=t' }:=
 I.write (x:=a) (e:=a) mu (.inl rfl) (λb q hb z=>(hs.2 b hb).trans z) he new
def Tx{h':Heap}{kvs:List (Key×V)}(z:184<=sizeLine)(hd:(a==sysModules)=false)(rel:KV kvs vs)(dd:h'.DictOf (Bn P w) a vs):
 ObjOk P w H' h' a (.dK kvs):=⟨z,hd,vs,rel,dd⟩
def U1{Q:Unit->Shared->Prop}(hu:A.units+1<cLine)(I:76)(g:DPut H a y v H')(ry:RelV y u)(rv:RelV v r)(h:∀s',Inv X pins σ H' s'->Q () s'):
 wpAny 70 A (setItem (.ref a) u r) Q E s:=by
 rcases g with⟨kvs,k,e,ey,l,eH⟩|⟨kvs,k,b,e,ey,eb,l,eH⟩
 .subst ey eH;obtain⟨z,hd,vs,rel,dd⟩:=Xb I.hok e;have hz:112<=sizeLine:=by rw[<- rel.length];exact z
  have hl:(Cs kvs k v).length<=sizeLine:=by have:=Fz kvs k v;omega
  refine wpAny_setItem_pairs (hsz:=hz) (KL ry) dd λh' dd' hs=>h _ ?_;have he:∃q,h'.get? a=some q:=let ⟨q,_,_,hq,_⟩:=dd';⟨q,hq⟩
  exact La I (by rw[e];exact True.intro) hs he (Tx hl hd (rel.put k rv) dd')
 .subst ey eH;cases(show u=Value.ref b from ry);obtain⟨z,hd,xs,rel,dd⟩:=fq I.hok e;have hz:96<=sizeLine:=by rw[<- Paired.length rel];exact z
  have hl:(Cs kvs k v).length<=sizeLine:=by have:=Fz kvs k v;omega
  refine wpAny_setItem_heap (hsz:=hz) (tupleKind_room_in1 hu) (KK I.hok eb) dd λh' dd' hs=>h _ ?_;obtain⟨q,es,ep,hq,h2,h3,h4,_,h5⟩:=dd';refine La I (by rw[e];exact True.intro) hs ⟨q,hq⟩ ⟨hl,hd,_,(rel.put k eb rv).keeps λc ys ec=>?_,q,es,ep,hq,h2,h3,h4,h5⟩;rw[upd_ne (fU ec e (λz=>nomatch z))];exact ec
end
def Wv(i:Expr):Prop:=∀ov iv,subscripted i false ov iv=operate [ov,iv] (getItem ov iv)
def Y0{E:78}{T id:String}{Q:78}
 (hl:typeLookup (.type T) "__getitem__"=pure (some (.builtin id))) (hs:Wv slice)
 (h:wpAny 110 A (eval value env) (λo s₁=>wpAny 110 A (eval slice env) (λi s₂=>s₂.TypeIs o T/\wpAny 110 A (getItem o i) Q E s₂) E s₁) E s):
 wpAny 110 A (eval (.Subscript value slice pos) env) Q E s:=by
 refine Subscript_ (jh h (λo s₁ h₁=>jh h₁ (λi s₂ h₂=>?_) λ_ _ x=>x) λ_ _ x=>x);obtain⟨hT,h₂⟩:=h₂;unfold subscriptTail;refine iq ?_;rw[getitemInPython_of_ne hT.not_modules];refine iq (wpAny_specialOf hT hl ?_);have fin:wpAny 110 A (subscripted slice false o i) (λr s₃=>wpAny 110 A (letTemporaryGo value o r >>= λ_=>pure r) Q E s₃) E s₂:=by
  rw[hs o i];exact wpAny_operating (jh h₂ (λr s₃ h₃=>iq (wpAny_letTemporaryGo (iu h₃))) λ_ _ x=>x)
 first
  |exact iu (iq fin)
  |exact iq (iu (iq fin))
  |exact iq fin
def P0(I:76)(g:DGet H a y o):s.TypeIs (.ref a) "dict":=by
 rcases g with⟨kvs,k,e,_,_⟩|⟨kvs,k,b,e,_,_,_⟩
 .obtain⟨_,_,vs,_,dd⟩:=N1 I.hok e;exact dd.typeIs
 .obtain⟨_,_,xs,_,dd⟩:=N0 I.hok e;exact dd.typeIs
noncomputable def QP(td ty:TE):TE:=λσ H Q=>td σ H λx H1=>ty σ H1 λy H2=>∃a v,x=.ref a/\DGet H2 a y (some v)/\Q v H2
noncomputable def Uk(ty td:TE):TE:=λσ H Q=>ty σ H λy H1=>td σ H1 λx H2=>∃a o,x=.ref a/\DGet H2 a y o/\Q (.bl o.isSome) H2
noncomputable def Qe(td ty tv:TE):TS:=λD σ H=>tv σ H λv H1=>td σ H1 λx H2=>ty σ H2 λy H3=>∃a H4,x=.ref a/\DPut H3 a y v H4/\D.nx σ H4
section
variable{X:Cx}
def ZO(hu:X.A.units+1<cLine)(ho:PE X o td)(hi:PE X i ty)(hs:Wv i):PE X (.Subscript o i pos) (QP td ty):=by
 intro pins s σ H Q I h;refine Y0 PySem.F.slot_dict_getitem.lookup hs (thn (ho pins s σ H _ I h) λu s1 ⟨x,H1,I1,rx,q1⟩=>thn (hi pins s1 σ H1 _ I1 q1) λiv s2 ⟨y,H2,I2,ry,a,v,ex,g,q2⟩=>?_);subst ex;obtain rfl:u=Value.ref a:=rx;exact⟨P0 I2 g,U2 hu I2 g ry λw' s3 I3 rw'=>⟨v,H2,I3,rw',q2⟩⟩
def cz(hu:X.A.units+1<cLine)(hi:PE X i ty)(ho:PE X o td):PC X .In i o (Uk ty td):=by
 intro pins s σ H Q I h;refine thn (hi pins s σ H _ I h) λiv s1 ⟨y,H1,I1,ry,q1⟩=>thn (ho pins s1 σ H1 _ I1 q1) λu s2 ⟨x,H2,I2,rx,a,ov,ex,g,q2⟩=>?_;subst ex;obtain rfl:u=Value.ref a:=rx;exact gk hu I2 g ry λs3 I3=>⟨.bl ov.isSome,H2,I3,rfl,q2⟩
def ZE(hu:X.A.units+1<cLine)(ho:PE X o td)(hi:PE X i ty)(hv:PE X value tv)(hs:swapsWith value (some (.Subscript o i pos')) pos.line X.env=pure false):
 PS X (.Assign [.Subscript o i pos'] value pos) (Qe td ty tv):=by
 intro pins s σ H D I h;refine wpAny_Assign_Subscript (thn (hv pins s σ H _ I h) λr s1 ⟨v,H1,I1,rv,q1⟩=>thn (ho pins s1 σ H1 _ I1 q1) λu s2 ⟨x,H2,I2,rx,q2⟩=>thn (hi pins s2 σ H2 _ I2 q2) λiv s3 ⟨y,H3,I3,ry,a,H4,ex,g,q3⟩=>?_) hs;subst ex;obtain rfl:u=Value.ref a:=rx;exact U1 hu I3 g ry rv λs4 I4=>⟨σ,H4,I4,q3⟩
end
def WZ(h:Heap)(hb:sysModules<h.objs.size):ObjOk P w H (h.push { cls:=.type "dict",data:=.dict #[] }) h.objs.size (.dK []):=
 ⟨jw _,beq_eq_false_iff_ne.mpr (Ne.symm (jb hb)),[],.nil,Heap.DictOf.new h⟩
noncomputable def Ac(cells:List (Str×Addr)):List (Str×NameKind)->List (Str×Addr)->List (Str×Addr)
 |[],acc=>acc
 |(n,k)::r,acc=>if k==.free then Ac cells r ((n,(cells.lookup n).getD 0)::acc)else Ac cells r acc
theorem GM(f:Str×NameKind->List (Str×Addr)->Sem (ForInStep (List (Str×Addr))))
 (hf:∀name kind cs,f (name,kind) cs=if(kind==151)=true then(do let a <- cellOf env name;pure (ForInStep.yield ((name,a)::cs)))else pure (ForInStep.yield cs)):
 ∀(names:List (Str×NameKind)) (acc:List (Str×Addr)),(∀y∈names,y.2=.free->∃c,env.cells.lookup y.1=some c)->forIn names acc f=pure (Ac env.cells names acc)
 |[],acc,_=>rfl
 |(n,k)::r,acc,hy=>by
   rw[List.forIn_cons,hf];have ih:=λa=>GM f hf r a λz hz=>hy z (iw _ hz);by_cases hk:(k==151)=true
   .obtain⟨c,hc⟩:=hy (n,k) j4 (by simpa using hk);have hc:env.cells.lookup n=some c:=hc;have e1:cellOf env n=pure c:=by unfold cellOf;rw[hc]
    rw[il hk,e1];show forIn r ((n,c)::acc) f=_;have e2:Ac env.cells ((n,k)::r) acc=Ac env.cells r ((n,c)::acc):=by
     rw[Ac,il hk,hc];rfl
    rw[ih,e2]
   .rw[ip hk];show forIn r acc f=_;have e2:Ac env.cells ((n,k)::r) acc=Ac env.cells r acc:=by
     rw[Ac,ip hk]
    rw[ih,e2]
def Ee{scope:Scope}{env:Env}(h:∀y∈92,y.2=.free->∃c,env.cells.lookup y.1=some c):closureFor scope env=pure (Ac env.cells 92 []):=by
 unfold closureFor;dsimp only;rw[GM _ (λname kind cs=>rfl) scope.names [] h];rfl
theorem Dy{cells:List (Str×Addr)}:∀{names:List (Str×NameKind)} {acc:List (Str×Addr)},(∀y∈names,y.2=.free->∃c,cells.lookup y.1=some c)->(∀x c,acc.lookup x=some c->cells.lookup x=some c) ->
 ∀x c,(Ac cells names acc).lookup x=some c->cells.lookup x=some c
 |[],_,_,ha,x,c,e=>ha x c e
 |(n,k)::r,acc,hy,ha,x,c,e=>by
   unfold Ac at e;have hr:∀y∈r,y.2=.free->∃c,cells.lookup y.1=some c:=λz hz=>hy z (iw _ hz);by_cases hk:(k==151)=true
   .rw[il hk]at e;refine Dy hr (λz d q=>?_) x c e;obtain⟨c0,hc0⟩:=hy (n,k) j4 (by simpa using hk);have hc0:cells.lookup n=some c0:=hc0;rw[jg]at q;by_cases hz:(z==n)=true
    .rw[hz,hc0]at q;have:z=n:=by simpa using hz
     subst this;simpa [hc0]using q
    .have hz':(z==n)=false:=by simpa using hz
     rw[hz']at q;exact ha z d q
   .rw[ip hk]at e;exact Dy hr ha x c e
theorem D7:∀{names:List (Str×NameKind)} {acc:List (Str×Addr)} {x:Str},((acc.lookup x).isSome=true∨(x,151)∈names)->((Ac cells names acc).lookup x).isSome=true
 |[],_,_,h=>h.elim id λz=>by cases z
 |(n,k)::r,acc,x,h=>by
   unfold Ac;by_cases hk:(k==151)=true
   .rw[il hk];refine D7 ?_;by_cases hx:(x==n)=true
    .exact .inl (by rw[jg,hx];rfl)
    .have hx':(x==n)=false:=by simpa using hx
     rcases h with h|h
     .exact .inl (by rw[jg,hx'];exact h)
     .rcases mem_cons.mp h with h|h
      .cases h;simp at hx
      .exact .inr h
   .rw[ip hk];refine D7 ?_;rcases h with h|h
    .exact .inl h
    .rcases mem_cons.mp h with h|h
     .cases h;simp at hk
     .exact .inr h
noncomputable def Cf:Nat->List (Str×NameKind)->List (Str×Addr)
 |_,[]=>[]
 |n,(x,k)::r=>if k==.cell then Cf (n+1) r++[(x,n)]else Cf n r
theorem CA:∀(names:List (Str×NameKind)) (n:Nat) (acc:List (Str×Addr)),cellsFrom n names acc=Cf n names++acc
 |[],_,_=>rfl
 |(x,k)::r,n,acc=>by
   unfold cellsFrom Cf;by_cases hk:(k==165)=true
   .rw[il hk,il hk,CA r (n+1),jJ];rfl
   .rw[ip hk,ip hk,CA r n]
theorem JL:∀(names:List (Str×NameKind)) (n:Nat) (x:Str) (c:Addr),(Cf n names).lookup x=some c->(x,165)∈names
 |[],_,_,_,e=>by cases e
 |(y,k)::r,n,x,c,e=>by
   unfold Cf at e;by_cases hk:(k==165)=true
   .rw[il hk]at e;have hk':k=.cell:=by simpa using hk
    rw[jX]at e;cases q:(Cf (n+1) r).lookup x with
    |some d=>exact iw _ (JL r _ x d q)
    |none=>
     rw[q]at e;simp only[none_or,jg]at e;by_cases hx:(x==y)=true
     .have:x=y:=by simpa using hx
      subst this;subst hk';exact j4
     .have hx':(x==y)=false:=by simpa using hx
      rw[hx']at e;cases e
   .rw[ip hk]at e;exact iw _ (JL r n x c e)
theorem JM:∀(names:List (Str×NameKind)) (n:Nat) (x:Str),(x,165)∈names->∃c,(Cf n names).lookup x=some c
 |[],_,_,h=>by cases h
 |(y,k)::r,n,x,h=>by
   unfold Cf;by_cases hk:(k==165)=true
   .rw[il hk,jX];rcases mem_cons.mp h with h|h
    .obtain⟨rfl,rfl⟩:=Prod.mk.inj h;cases q:(Cf (n+1) r).lookup x with
     |some d=>exact⟨d,rfl⟩
     |none=>exact⟨n,by simp[jg]⟩
    .obtain⟨c,hc⟩:=JM r (n+1) x h;exact⟨c,by rw[hc];rfl⟩
   .rw[ip hk];rcases mem_cons.mp h with h|h
    .cases h;simp at hk
    .exact JM r n x h
noncomputable def eJ(scope:Scope)(C:Addr)(env:Env):Env:=
 { scope:=relabel scope env,locals:=C,globals:=env.globals,cells:=cellsFrom (C+1) 92 (Ac env.cells 92 []),qual:=env.qual,func:=none,code:=env.code,frame:=env.frame,builtins:=env.builtins }
def Za{M:Model}{A:Around}{E:78}{s:120}{scope:Scope}{env:Env}{Q:Env->Shared->Prop}
 (hQ:∀h',(∀b o,s.heap.get? b=some o->h'.get? b=some o)->h'.Ns 65 (λ_=>none)->(∀x c,(Cf (65+1) 92).lookup x=some c->h'.IsCell c none/\65<c) ->
  ((Cf (65+1) 92).Pairwise λx y=>x.2≠y.2) ->
  Q { scope:=scope,locals:=65,globals:=env.globals,cells:=cellsFrom (65+1) 92 cl,qual:=env.qual,func:=none,code:=env.code,frame:=env.frame,builtins:=env.builtins } { s with heap:=h' }):
 wpAny M A (newFunctionEnv scope env.globals cl [] env.qual none .none (some env)) Q E s:=by
 simp only[newFunctionEnv,Option.isSome_some,j8];refine iq (wpAny_alloc ?_);refine iq (wpAny_layCells _ (λname kind cells=>by cases hkc:kind==165<;>simp[hkc]) _ _ _ _ ?_);have ok:=cellsFrom_ok 92 (s.heap.push { cls:=.type "dict",data:=.dict #[] }) (65+1) [] ⟨λ_ _ hm=>(nomatch hm),List.Pairwise.nil⟩ (by rw[Heap.size_push];exact ir _);rw[Heap.size_push,CA,jq]at ok;rw[show({ s with heap:=s.heap.push { cls:=.type "dict",data:=.dict #[] } }:Shared).heap.objs.size=65+1 from Heap.size_push ..];refine iq (iu (iu ?_));exact hQ _ (λb o e=>pushCells_keeps _ _ b o (72 _ e)) ((Heap.Ns.new s.heap (.type "dict")).keeps (pushCells_keeps _ _)) (λx c hc=>⟨(ok.empty x c (mem_of_lookup hc)).1,(ok.empty x c (mem_of_lookup hc)).2⟩) ok.apart
theorem M3:∀{names:List (Str×NameKind)} {x:Str} {k k':NameKind},(names.map (·.1)).Nodup->(x,k)∈names->(x,k')∈names->k=k'
 |[],_,_,_,_,h,_=>by cases h
 |(y,q)::r,x,k,k',nd,h,h'=>by
   have nd:(y::r.map (·.1)).Nodup:=nd;obtain⟨n1,n2⟩:=nodup_cons.mp nd;have out:∀{z:NameKind},(y,z)∈r->False:=λm=>n1 (mem_map.mpr ⟨_,m,rfl⟩);rcases mem_cons.mp h with e|e<;>rcases mem_cons.mp h' with e'|e'
   .cases e;cases e';rfl
   .cases e;exact(out e').elim
   .cases e';exact(out e).elim
   .exact M3 n2 e e'
theorem HI{env:Env}{x:Str}:∀{names:List (Str×NameKind)},names.lookup x=some .free ->
 (names.map λ(n,k)=>if 171 then(n,165)else(n,k)).lookup x=some .cell ∨
 (names.map λ(n,k)=>if 171 then(n,165)else(n,k)).lookup x=some .free
 |[],h=>by simp at h
 |(n,k)::r,h=>by
   have ih:=@HI env x r;show List.lookup x ((if 171=true then(n,165)else(n,k))::_)=_∨List.lookup x ((if 171=true then(n,165)else(n,k))::_)=_;cases hx:x==n with
   |true=>
    simp only[jg,hx]at h;cases h;by_cases hc:(151==151&&env.scope.kind==.function&&env.kindOf n==some .cell)=true
    .rw[il hc];exact .inl (by simp only[jg,hx])
    .rw[ip hc];exact .inr (by simp only[jg,hx])
   |false=>
    simp only[jg,hx]at h;by_cases hc:171=true
    .rw[il hc];simp only[jg,hx];exact ih h
    .rw[ip hc];simp only[jg,hx];exact ih h
theorem HZ{env:Env}{x:Str}:∀{names:List (Str×NameKind)},
 ((names.map λ(n,k)=>if 171 then(n,165)else(n,k)).lookup x=some .cell ∨
 (names.map λ(n,k)=>if 171 then(n,165)else(n,k)).lookup x=some .free) ->
 names.lookup x=some .cell∨names.lookup x=some .free
 |[],h=>by simp at h
 |(n,k)::r,h=>by
   have ih:=@HZ env x r;have h:List.lookup x ((if 171=true then(n,165)else(n,k))::_)=_∨List.lookup x ((if 171=true then(n,165)else(n,k))::_)=_:=h;cases hx:x==n with
   |true=>
    by_cases hc:171=true
    .have hk:k=.free:=by
      have:=(Bool.and_eq_true _ _ ▸ (Bool.and_eq_true _ _ ▸ hc).1:(k==151)=true/\_).1;simpa using this
     exact .inr (by simp only[jg,hx,hk])
    .rw[ip hc]at h;simp only[jg,hx]at h ⊢;exact h
   |false=>
    simp only[jg,hx];refine ih ?_;by_cases hc:171=true
    .rw[il hc]at h;simp only[jg,hx]at h;exact h
    .rw[ip hc]at h;simp only[jg,hx]at h;exact h
def cCx(X:Cx)(N':190)(scope:Scope)(s:120)(H:Hp)(ex:111):Cx:=
 { X with N:=N',s₀:=s,H₀:=H,env:=eJ scope s.heap.objs.size X.env,outer:=X.stack,ex:=ex,fn:=λx=>decide ((x,165)∈92),pn:=[],xe:=λ_ _=>False }
structure CSc(X:Cx)(scope:Scope)(fr:190)(ix:73):Prop where
 kind:scope.kind=.function
 nd:(scope.names.map (·.1)).Nodup
 free:(scope.names.all λy=>y.2 != .free||X.env.kindOf y.1==some .cell||X.env.kindOf y.1==some .free)=true
 frs:(fr.all λx=>scope.names.lookup x==some .free)=true
 ixs:fr.map some=ix.map λi=>X.N[i]?
 loc:(scope.names.all λy=>y.2 != .local||scope.names.lookup y.1==some .local)=true
noncomputable def ID(n:Nat)(ix:73)(σ:St):St:=79 n none++ix.map λi=>(σ[i]?).join
section
def CSc.outer(S:163)(hy:y∈92)(e:y.2=.free):X.env.kindOf y.1=some .cell∨X.env.kindOf y.1=some .free:=by
 have h:=all_eq_true.mp S.free y hy;rw[e]at h;simpa using h
def CSc.clos(S:163)(ok:X.Ok):∀y∈92,y.2=.free->∃c,X.env.cells.lookup y.1=some c:=λy hy e=>ok.has y.1 (S.outer hy e)
def DL(S:163)(ok:X.Ok){n:Nat}(e:(cellsFrom n 92 147).lookup x=some c):
 (Cf n 92).lookup x=some c∨X.env.cells.lookup x=some c:=by
 rw[CA,jX]at e;cases q:(Cf n 92).lookup x with
 |some d=>rw[q]at e;exact .inl e
 |none=>
  rw[q]at e;exact .inr (Dy (S.clos ok) (λ_ _ z=>by simp at z) x c e)
def WG(S:163)(I:76)(hex:∀b∈ex,FpOk X pins H b){h':Heap}(hk:∀b o,s.heap.get? b=some o->h'.get? b=some o)(hn:h'.Ns 65 λ_=>none)
 (ho:∀x c,(Cf (65+1) 92).lookup x=some c->h'.IsCell c none/\65<c) (ha:(Cf (65+1) 92).Pairwise λx y=>x.2≠y.2) (hlt:∀b∈ex,b<65):
 Inv 127 [] (ID loc.length ix σ) H { s with heap:=h' }:=by
 have old:∀x c,X.env.cells.lookup x=some c->c<s.heap.objs.size:=λx c e=>let ⟨v,z⟩:=I.cell x c e;z.lt
 have lenix:fr.length=ix.length:=by simpa using jm List.length S.ixs
 refine⟨⟨I.ok.mod,?_,I.ok.glob,I.ok.blt,ir _,?_,?_,?_,I.ok.hd,I.ok.frames,.inl rfl,?_,I.bs,j6 I.ok.bsz I.sz,?_,?_,I.stack,I.stkFree⟩,rfl,I.bare,Un.kept hk,⟨_,hn,?_⟩,?_,I.hok.fresh (ir _),?_,?_,I.hok.kept hk,?_⟩
 .exact S.kind
 .intro x y c e1 e2;rcases DL S I.ok e1 with a|a<;>rcases DL S I.ok e2 with b|b
  .exact name_of_addr ha (134 a) (134 b)
  .exact absurd (lt_trans (ho x c a).2 (old y c b)) (jD _)
  .exact absurd (lt_trans (ho y c b).2 (old x c a)) (jD _)
  .exact I.ok.inj x y c a b
 .intro x hx;rcases HZ hx with e|e
  .exact isSome_iff_exists.mp (PySem.W.cellsFrom_some _ _ _ (.inl e))
  .exact isSome_iff_exists.mp (PySem.W.cellsFrom_some _ _ _ (.inr (D7 (.inr (134 e)))))
 .intro x c hf e;have hf:(x,165)∈scope.names:=jA hf;obtain⟨d,hd⟩:=JM 92 (65+1) x hf;have e':(cellsFrom (65+1) 92 147).lookup x=some c:=e;rw[CA,jX,hd]at e';cases e';exact jF (ho x _ hd).2
 .intro b hb;refine⟨jb (hlt b hb),λx c e z=>?_⟩;rcases DL S I.ok e with a|a
  .exact absurd (lt_trans (ho x c a).2 (by rw[z];exact hlt b hb)) (jD _)
  .exact(hex b hb).2.2.2.2.1 x c a z
 .intro b o e hb;rcases(hex b hb).2.2.2.1 with z|z
  .exact I.ok.noex b o e z
  .exact absurd (jk (84 (I.ok.bs b o e).1) z) (jD _)
 .intro b hb hf;rcases mem_cons.mp (I.stkSub b hf)with z|z
  .exact(hex b hb).2.1 z
  .exact(hex b hb).2.2.1 z
 .intro i x v e1 e2 e3;have e1:(loc++fr)[i]?=some x:=e1;unfold ID at e2;by_cases hi:i<loc.length
  .rw[List.getElem?_append_left (by simpa using hi),List.getElem?_replicate]at e2;split at e2<;>cases e2
  .have hi':loc.length<=i:=not_lt.mp hi;rw[List.getElem?_append_right (by simpa using hi')]at e2;rw[List.getElem?_append_right hi']at e1;rw[List.length_replicate,List.getElem?_map]at e2;generalize hj:i-loc.length=j at e1 e2;have e4:(fr.map some)[j]?=some (some x):=by rw[List.getElem?_map,e1];rfl
   rw[S.ixs,List.getElem?_map]at e4;cases q:ix[j]? with
   |none=>rw[q]at e2;cases e2
   |some k=>
    rw[q]at e2 e4;have e2:(σ[k]?).join=some v:=102 e2;have e4:X.N[k]?=some x:=102 e4;have e5:σ[k]?=some (some v):=by
     cases w:σ[k]? with
     |none=>rw[w]at e2;cases e2
     |some z=>rw[w]at e2;simpa using e2
    have hfx:=all_eq_true.mp S.frs x (jf e1);have hfx:scope.names.lookup x=some .free:=by simpa using hfx
    have hmem:=134 hfx;have hout:=S.outer hmem rfl;obtain⟨m,hm,hl⟩:=I.loc;obtain⟨u,r,l⟩:=hl k x v e4 e5 (.inr hout);refine⟨u,r,.inr ⟨HI hfx,?_⟩⟩;rcases l with⟨kk,_⟩|⟨kk,c,ec,z⟩
    .rcases hout with w|w
     .rw[kk]at w;cases w
     .rw[kk]at w;cases w
    .have own0:(Cf (65+1) 92).lookup x=none:=by
      cases w:(Cf (65+1) 92).lookup x with
      |none=>rfl
      |some d=>exact absurd (M3 S.nd (JL _ _ _ _ w) hmem) 95
     have hc:(147).lookup x=some c:=by
      obtain⟨d,hd⟩:=isSome_iff_exists.mp (D7 (cells:=X.env.cells) (acc:=[]) (.inr hmem));have:=Dy (S.clos I.ok) (λ_ _ z=>by simp at z) x d hd;rw[ec]at this;cases this;exact hd
     refine⟨c,?_,z.keeps hk⟩;show(cellsFrom (65+1) 92 147).lookup x=some c;rw[CA,jX,own0,hc];rfl
 .intro x c e;rcases DL S I.ok e with a|a
  .exact⟨_,(ho x c a).1⟩
  .obtain⟨v,z⟩:=I.cell x c a;exact⟨v,z.keeps hk⟩
 .intro x c e;rcases DL S I.ok e with a|a
  .exact I.hok.fresh (jF (ho x c a).2)
  .exact I.freeC x c a
 .intro p hp;cases hp
 .unfold ID;show _=(loc++fr).length;simp[lenix]
end
section
variable{A:Around}{R:Result->Shared->Prop}
def U4{iter:Expr}{ifs:List Expr}{emit:Sem Unit}(I:Nat->Shared->Prop)
 (hden:(110).den (.compLoop e 0 it acc env)=(compTurn e 0 it acc env).onRaise (λx=>do noteFrame x env;theTreesLotGoes x))
 (hund:A.under (.compLoop e 0 it acc env)=A)
 (hturn:compTurn e 0 it acc env=(do
  standAt iter.pos
  match <- pyNext it with
  |none=>pure (.done .next)
  |some x=>
   letOwnedTupleGo target it x
   assign target env x
   let mut ok:=true
   for c in ifs do
    if ok then ok <- isTrue c env (eval c env)
   if ok then emit
   again (.compLoop e 0 it acc env)))
 (turn:∀n s,I n s->wpAny 110 A (pyNext it) (λr s₁=>match r with
  |none=>R (.ok .next) s₁
  | some v=>wpAny 110 A (letOwnedTupleGo target it v) (λ_ s₁=>wpAny 110 A (assign target env v) (λ_ s₂=>
   wpAny 110 A (forIn ifs true λc r=>if r=true then do let ok <- isTrue c env (eval c env);pure (ForInStep.yield ok)else pure (ForInStep.yield r)) (λok s₃=>
    if ok=true then wpAny 110 A emit (λ_ s₅=>∃m,m<n/\I m s₅) (λ_ _=>False) s₃
    else ∃m,m<n/\I m s₃) (λ_ _=>False) s₂) (λ_ _=>False) s₁) (λ_ _=>False) s₁) (λ_ _=>False) s)
 (n:Nat) (h:I n s):
 codeAny 110 A (.compLoop e 0 it acc env) R s:=by
 refine codeAny_loop rfl I (λn s hI=>?_) n h;rw[hden,hund];refine wpAny_noted ?_;rw[hturn];refine iq (k3 (iq (jh (turn n s hI) (λr s₁ h₁=>?_) λ_ _ h'=>h'.elim)));cases r with
 |none=>exact iu h₁
 |some v=>
  refine iq (jh h₁ (λ_ s₁ h₁=>?_) λ_ _ h'=>h'.elim);refine iq (jh h₁ (λ_ s₂ h₂=>iq (jh h₂ (λok s₃ h₃=>?_) λ_ _ h'=>h'.elim)) λ_ _ h'=>h'.elim);cases ok with
  |false=>exact iu ⟨rfl,h₃⟩
  |true=>
   exact iq (jh h₃ (λx s₄ h₄=>iu ⟨rfl,h₄⟩) λ_ _ h'=>h'.elim)
def Rx(hcl:clausesOf e=g::gs)(hasy:g.is_async=0)
 (hden:(110).den (.compStart e 0 it acc env)=(compStart e 0 it acc env).onRaise (λx=>do noteFrame x env;standAt theWindowsPlace))
 (hund:A.under (.compStart e 0 it acc env)=A)
 (h0:codeAny 110 A (.compLoop e 0 it acc env) R s)
 (h:wpAny 110 A (pyIter it) (λit' s'=>codeAny 110 A (.compLoop e 0 it' acc env) R s')
  (notedBy 110 A env λx s'=>R (.error x) s') s):
 codeAny 110 A (.compStart e 0 it acc env) R s:=by
 refine codeAny_of_tree ?_;rw[hden,hund];refine wpAny_notedAt ?_;have e1:((clausesOf e)[0]?).elim false (·.is_async != 0)=false:=by rw[hcl];simp[hasy]
 have e2:(clausesOf e)[0]?=some g:=by rw[hcl];rfl
 unfold compStart;rw[e1,e2];show wpAny _ _ (ask >>= _) _ _ s;refine iq (wpAny_askSetting (wpAny_ite ?_));split
 .first
   |exact iq (iu (iu (And.intro rfl h0)))
   |exact iu (And.intro rfl h0)
 .first
   |exact iq (wpAny_rule (iq (k3 (iq (jh h (λit' s' h'=>iu (And.intro rfl h')) λ_ _ x=>x)))))
   |(refine iq (wpAny_rule ?_);show wpAny _ _ (standAt g.iter.pos >>= _) _ _ s;exact iq (k3 (iq (jh h (λit' s' h'=>iu (And.intro rfl h')) λ_ _ x=>x))))
end
def PF(X:Cx)(ifs:List Expr)(t:TT):Prop:=
 ∀(pins:90) (s:120) (σ:St) (H:Hp) (Q:Bool->Hp->Prop),Inv X pins σ H s->t σ H Q ->
   wpAny 70 X.A (forIn ifs true λc r=>if r=true then do let ok <- isTrue c X.env (eval c X.env);pure (ForInStep.yield ok)else pure (ForInStep.yield r)) (TP X pins σ Q) X.xe s
noncomputable def Ua:TT:=λ_ H Q=>Q true H
def ce:PF X [] Ua:=λpins s σ H Q I h=>wpAny_tests_nil ⟨H,I,h⟩
def cZ(h:PT X c t):PF X [c] t:=λpins s σ H Q I q=>wpAny_tests_one (h pins s σ H Q I q)
noncomputable abbrev TM:=Addr->St->Hp->(Hp->Prop)->Prop
def PM(X:Cx)(emit:Value->Env->Sem Unit)(t:TM):Prop:=
 ∀(D:Addr) (pins:90) (s:120) (σ:St) (H:Hp) (Q:Hp->Prop),Inv X pins σ H s->t D σ H Q->wpAny 70 X.A (emit (.ref D) X.env) (λ_ s'=>∃H',Inv X pins σ H' s'/\Q H') X.xe s
def UG(J:It)(D:Addr)(o:HO)(σ0:St)(H0:Hp)(g:TG)(tf:TT)(tm:TM)(Q:VK):Prop:=∃W:Nat->Nat->St->Hp->Prop,
 (∃m,W 0 m σ0 (upd H0 D o))/\∀i m σ H,W i m σ H ->
  ((J.stop i H/\Q (.ref D) H)∨(J.go i H/\∃N:St->Hp->Prop,(∀σ' H',N σ' H'->∃m',m'<m/\W (i+1) m' σ' H')/\
    ∀x H',J.yld i H x H'->g x σ H' λσ2 H2=>tf σ2 H2 λb H3=>
     if b=true then tm D σ2 H3 λH4=>N σ2 H4 else N σ2 H3))
noncomputable def G7(o:HO)(n:Nat)(ix:73)(wi:TI)(g:TG)(tf:TT)(tm:TM):TE:=λσ H Q=>wi σ H λJ H1=>∀D,H1 D=none->UG J D o (ID n ix σ) H1 g tf tm Q
section
def eO{D:Addr}{Q:78}{E:78}(I:76)(hD:H D=some (.lst ys))(r:RelV x u)(hz:ys.length<sizeLine)
 (h:∀v s',Inv X pins σ (upd H D (.lst (ys++[x]))) s'->Q v s'):wpAny 70 X.A (call (.builtin "list.append") [.ref D,u]) Q E s:=by
 have I':=I.wish λ_ _=>False;have q:=M4 (X:=X.wish λ_ _=>False) pins s σ H (.ref D) [x] (.ref D) [u] (λv H'=>H'=upd H D (.lst (ys++[x]))) I' rfl (.cons r .nil) ⟨D,ys,x,rfl,rfl,hD,hz,rfl⟩;refine jh q (λv s' ⟨v',H',I2,_,e⟩=>?_) λ_ _ z=>False.elim z;subst e;exact h v s' I2.unwish
structure Kd(X:Cx)(e tg iter:Expr)(ifs:List Expr)(emit:Value->Env->Sem Unit)(newAcc:Sem Value)(ho:HO):Prop where
 cl:clausesOf e=[⟨tg,iter,ifs,0⟩]
 turn:∀it acc env,compTurn e 0 it acc env=(do
  standAt iter.pos
  match <- pyNext it with
  |none=>pure (.done .next)
  |some x=>
   letOwnedTupleGo tg it x
   assign tg env x
   let mut ok:=true
   for c in ifs do
    if ok then ok <- isTrue c env (eval c env)
   if ok then emit acc env
   again (.compLoop e 0 it acc env))
 d1:∀it acc env,(70).den (.compLoop e 0 it acc env)=(compTurn e 0 it acc env).onRaise (λx=>do noteFrame x env;theTreesLotGoes x)
 d2:∀it acc env,(70).den (.compStart e 0 it acc env)=(compStart e 0 it acc env).onRaise (λx=>do noteFrame x env;standAt theWindowsPlace)
 u1:∀it acc env,X.A.under (.compLoop e 0 it acc env)=X.A
 u2:∀it acc env,X.A.under (.compStart e 0 it acc env)=X.A
 new:∀(pins:90) (s:120) (σ:St) (H:Hp) (E:78) (Q:78),Inv X pins σ H s->(∀ob,Inv X pins σ (upd H 65 ho) { s with heap:=s.heap.push ob }->Q (.ref 65) { s with heap:=s.heap.push ob })->wpAny 70 X.A newAcc Q E s
def Kc{iter:Expr}{emit:Value->Env->Sem Unit}{tn:Nat->Heap->Prop}{s2:120}{E:78}
 {RR:Value->Addr->Result->Shared->Prop} (Z:Kd X e tg iter ifs emit newAcc ho) (hc:164) (S:163)
 (hg:∀s H ex,PG 127 tg g) (hf:∀s H ex,PF 127 ifs tf) (he:∀s H ex,PM 127 emit tm)
 (I2:Inv X pins σ H2 s2) (T:Turn X.prog X.w X.K tg J fp it tn) (st2:tn 0 s2.heap) (f2:∀b∈fp,FpOk X pins H2 b) (hW:∀D,H2 D=none->UG J D ho (ID loc.length ix σ) H2 g tf tm Q)
 (hfin:∀(s3 s6:120) (H5:Hp) (σ5:St) (D:Addr),Inv X pins σ (upd H2 D ho) s3->Inv (cCx X (loc++fr) scope s3 (upd H2 D ho) fp) [] σ5 H5 s6->(∀b∈fp,FpOk X pins (upd H2 D ho) b)->Q (.ref D) H5->RR (.ref D) 162 (.ok .next) s6):
 wpAny 70 X.A newAcc (λacc s₃=>wpAny 70 X.A (newFunctionEnv scope X.env.globals 147 [] X.env.qual none .none (some X.env)) (λcenv s₄=>
  codeAny 70 X.A (.compStart e 0 (.ref it) acc { cenv with scope:=relabel scope X.env }) (RR acc cenv.locals) s₄) E s₃) E s2:=by
 refine Z.new pins s2 σ H2 _ _ I2 λob I3=>?_;have fresh2:H2 143=none:=I2.hok.fresh (ir _);obtain⟨W,⟨m0,w0⟩,turn⟩:=hW 143 fresh2;have lt2:∀b∈fp,b<s2.heap.objs.size:=λb hb=>let ⟨o,e,_⟩:=T.obj 0 _ st2 b hb;84 e
 have f3:∀b∈fp,FpOk X pins (upd H2 143 ho) b:=λb hb=>⟨by rw[upd_ne (jb (lt2 b hb))];exact(f2 b hb).1,(f2 b hb).2⟩
 have lt3:∀b∈fp,b<(s2.heap.push ob).objs.size:=λb hb=>by rw[Heap.size_push];exact Nat.lt_succ_of_lt (lt2 b hb)
 generalize hs3:({ s2 with heap:=s2.heap.push ob }:Shared)=s3 at *;have lt3:∀b∈fp,b<s3.heap.objs.size:=by rw[<- hs3];exact lt3
 have st3:tn 0 s3.heap:=T.keep _ _ _ st2 λb hb o e=>by rw[<- hs3];exact 72 _ e
 refine Za λh' hk hn ho' ha=>?_;have I4:=WG (loc:=loc) S I3 f3 hk hn ho' ha lt3;have fpX:∀{H':Hp},(∀b∈fp,H' b=none)->∀b∈fp,FpOk (cCx X (loc++fr) scope s3 (upd H2 143 ho) fp) [] H' b:=λhn b hb=>
  ⟨hn b hb,(I4.ok.exf b hb).1,I4.ok.exfs b hb,.inl hb,(I4.ok.exf b hb).2,λp hp=>by cases hp⟩
 have loop:codeAny 70 X.A (.compLoop e 0 (.ref it) (.ref 143) (eJ scope 162 X.env))
  (RR (.ref 143) 162) { s3 with heap:=h' }:=by
  refine U4 (λn s'=>∃i σ' H',Inv (cCx X (loc++fr) scope s3 (upd H2 143 ho) fp) [] σ' H' s'/\tn i s'.heap/\(∀b∈fp,H' b=none)/\W i n σ' H') (Z.d1 _ _ _) (Z.u1 _ _ _) (Z.turn _ _ _) ?_ m0
   ⟨0,_,_,I4,T.keep _ _ _ st3 λb hb o e=>hk b o e,λb hb=>(f3 b hb).1,w0⟩
  rintro n s5 ⟨i,σ5,H5,I5,st5,fr5,w5⟩;have w5:=turn i n σ5 H5 w5;rcases w5 with⟨stop,qn⟩|⟨go,N,hN,step⟩
  .refine thn (T.done (cCx X (loc++fr) scope s3 (upd H2 143 ho) fp) rfl rfl rfl hc i [] s5 σ5 H5 _ I5 (fpX fr5) st5 stop) λr s6 ⟨hr,I6⟩=>?_;subst hr;exact hfin s3 s6 H5 σ5 143 I3 I6 f3 qn
  .refine thn (T.item (cCx X (loc++fr) scope s3 (upd H2 143 ho) fp) rfl rfl rfl hc i [] s5 σ5 H5 _ I5 (fpX fr5) st5 go) λr s6 ⟨u,hr,h6⟩=>?_;subst hr;refine thn h6 λ_ s7 ⟨x,H7,I7,r7,y7,st7,fr7⟩=>?_;have I7':=I7.pinned (fpX fr7) (T.obj _ _ st7);have keepI:∀{σ8:St} {H8:Hp} {s8:120},Inv (cCx X (loc++fr) scope s3 (upd H2 143 ho) fp) ([]++Ha fp s7.heap) σ8 H8 s8->tn (i+1) s8.heap/\∀b∈fp,H8 b=none:=λ{σ8 H8 s8} I8=>by
    refine⟨T.keep _ _ _ st7 λb hb o e=>(I8.pin (b,o) (j7 _ (j7 _ (El hb e)))).1,λb hb=>?_⟩;obtain⟨o,e,d⟩:=T.obj _ _ st7 b hb;exact(I8.pin (b,o) (j7 _ (j7 _ (El hb e)))).2.1
   refine thn (hg s3 (upd H2 143 ho) fp _ s7 σ5 H7 x u _ I7' r7 (step x H7 y7)) λ_ s8 ⟨σ8,H8,I8,q8⟩=>?_;refine thn (hf s3 (upd H2 143 ho) fp _ s8 σ8 H8 _ I8 q8) λb s9 ⟨H9,I9,q9⟩=>?_;cases b with
   |false=>
    rw[ip Bool.false_ne_true]at q9 ⊢;obtain⟨m',hm,w9⟩:=hN _ _ q9;exact⟨m',hm,i+1,σ8,H9,I9.unpinned,(keepI I9).1,(keepI I9).2,w9⟩
   |true=>
    rw[il rfl]at q9 ⊢;refine thn (he s3 (upd H2 143 ho) fp _ _ s9 σ8 H9 _ I9 q9) λe10 s10 ⟨H10,I10,n10⟩=>?_;obtain⟨m',hm,w10⟩:=hN _ _ n10;exact⟨m',hm,i+1,σ8,_,I10.unpinned,(keepI I10).1,(keepI I10).2,w10⟩
 exact Rx Z.cl rfl (Z.d2 _ _ _) (Z.u2 _ _ _) loop (T.self X.A 0 _ _ _ (T.keep _ _ _ st3 λb hb o e=>hk b o e) loop)
def Iz{s3:120}(I3:Inv X pins σ H3 s3)(I6:Inv (cCx X N' scope s3 H3 fp) [] σ5 H5 s6)(f3:∀b∈fp,FpOk X pins H3 b)
 (hs:Heap.SameBut 162 s6.heap h''):Inv X pins σ H5 { s6 with heap:=h'' }:=by
 have neC:∀b o,s3.heap.get? b=some o->b≠s3.heap.objs.size:=λb o e=>jb (84 e);have un:=I6.base;refine I3.call' (s':={ s6 with heap:=h'' }) (ch:=fp) I6.os ⟨λb o e n hb hx=>?_,λb o e n hb hx=>?_,un.free,λb o e hx=>?_,un.tups,un.frzs,un.tbls⟩ ?_ I6.bare ?_
 .exact(hs.2 b (neC b o e)).trans (un.keep b o e n hb hx)
 .obtain⟨sl,q⟩:=un.slot b o e n hb hx;exact⟨sl,(hs.2 b (neC b o e)).trans q⟩
 .obtain⟨o',q⟩:=un.there b o e hx;exact⟨o',(hs.2 b (neC b o e)).trans q⟩
 .intro b ob e;have hfree:H5 162=none:=I6.free;refine(I6.hok b ob e).stay (λc w' hc q=>(hs.2 c ?_).trans q) (λ_ q=>q) λ_ _ q=>q;intro z;rcases hc with hc|hc
  .rw[<- hc,z,hfree]at e;cases e
  .rw[z,hfree]at hc;cases hc
 .intro b hb;obtain⟨_,a2,_,a4,a5,a6⟩:=f3 b hb;exact⟨a4,a2,a5,a6⟩
def SW(S:163):∀y∈92,y.2=.local->scope.names.lookup y.1=some .local:=λy hy e=>by
 have:=all_eq_true.mp S.loc y hy;rw[e]at this;simpa using this
def Nv{iter:Expr}{emit:Value->Env->Sem Unit}(Z:Kd X e tg iter ifs emit newAcc ho)
 (hc:164) (S:163) (hi:PI X tg iter wi)
 (hg:∀s H ex,PG 127 tg g) (hf:∀s H ex,PF 127 ifs tf) (he:∀s H ex,PM 127 emit tm)
 (hev:eval e X.env=comprehension e scope X.env pos newAcc false (eval iter X.env)) (hs:∀x,foldedSetIterable iter X.env x=pure x):PE X e (G7 ho loc.length ix wi g tf tm):=by
 intro pins s σ H Q I h;rw[hev];refine wpAny_comprehension_free (use:=none) Z.cl hs (Ee (S.clos I.ok)) S.kind (SW S) (thn (hi pins s σ H _ I h) λv s1 h1=>thn h1 λitv s2 h2=>?_);obtain⟨it,fp,tn,J,H2,rfl,I2,T,st2,f2,hW⟩:=h2;refine Kc (RR:=λacc C=>compPost 70 X.A X.xe none 191 acc C) Z hc S hg hf he I2 T st2 f2 hW λs3 s6 H5 σ5 L I3 I6 f3 q=>?_;obtain⟨m,hm,_⟩:=I6.loc;exact⟨m,hm,λh'' hs'=>⟨.ref L,H5,Iz I3 I6 f3 hs',rfl,q⟩⟩
noncomputable def RV(te:TE):TM:=λD σ H Q=>te σ H λv H1=>∃ys,H1 D=some (.lst ys)/\ys.length<sizeLine/\Q (upd H1 D (.lst (ys++[v])))
noncomputable def Rp(elt:Expr):Value->Env->Sem Unit:=λacc env=>do let _ <- call (.builtin "list.append") [acc,<- eval elt env]
def Pd(he:PE X elt te):PM X (Rp elt) (RV te):=by
 intro D pins s σ H Q I h;unfold Rp;refine iq (thn (he pins s σ H _ I h) λu s1 ⟨y,H1,I1,r1,ys,hD,hz,q⟩=>iq (eO I1 hD r1 hz λ_ s2 I2=>iu ⟨_,I2,q⟩))
def Pn{iter:Expr}:Kd X 187 tg iter ifs (Rp elt) (newList []) (.lst []):=
 ⟨rfl,λ_ _ _=>compTurn_list ..,λ_ _ _=>rfl,λ_ _ _=>rfl,λ_ _ _=>rfl,λ_ _ _=>rfl,λpins s σ H E Q I h=>wpAny_newObj_type (h _ (I.lnew (its:=[]) (ys:=[]) (t':=s.toks) .nil (jw _)))⟩
noncomputable abbrev GT(n:Nat)(ix:73)(wi:TI)(g:TG)(tf:TT)(te:TE):TE:=G7 (.lst []) n ix wi g tf (RV te)
def ZP{iter:Expr}(hc:164)(S:163)(hi:PI X tg iter wi)
 (hg:∀s H ex,PG 127 tg g) (hf:∀s H ex,PF 127 ifs tf) (he:∀s H ex,PE 127 elt te)
 (hs:∀x,foldedSetIterable iter X.env x=pure x:=by intro _;rfl):PE X 187 (GT loc.length ix wi g tf te):=
 Nv Pn hc S hi hg hf (λs H ex=>Pd (he s H ex)) (eval_ListComp ..) hs
end
section
variable{X:Cx}
def ZB{i:Nat}{iter:Expr}{spos:Pos}(hN:X.N.Nodup)(hiN:X.N[i]?=some y)(hy:X.env.scope.names.lookup y=some .local)
 (hc:164) (S:163) (hi:PI X tg iter wi)
 (hg:∀s H ex,PG 127 tg g) (hf:∀s H ex,PF 127 ifs tf) (he:∀s H ex,PE 127 elt te)
 (hsw:swapsWith 187 (some (.Name y py)) spos.line X.env=pure true:=by rfl) (hs:∀x,foldedSetIterable iter X.env x=pure x:=by intro _;rfl):
 PS X (.Assign [.Name y py] 187 spos) (FF (GT loc.length ix wi g tf te) (EB i)):=by
 intro pins s σ H D I h;rw[exec_Assign_Name_used _ _ _ _ hsw];refine iq (k3 (iq ?_));show wpAny _ _ (do let _ <- comprehension 187 scope X.env _ (newList []) false (eval iter X.env) (some (assign (.Name y py) X.env))) _ _ s;refine iq (jh (wpAny_comprehension_free (use:=some (assign (.Name y py) X.env)) (Q:=λ_ s'=>SP X pins D .next s') rfl hs (Ee (S.clos I.ok)) S.kind (SW S)
  (thn (hi pins s σ H _ I h) λv s1 h1=>thn h1 λitv s2 h2=>?_)) (λ_ s' hq=>iu (iu hq)) λ_ _ e=>e)
 obtain⟨it,fp,tn,J,H2,rfl,I2,T,st2,f2,hW⟩:=h2;refine Kc (RR:=λacc C=>compPost 70 X.A X.xe (some (assign (.Name y py) X.env)) (λ_ s'=>SP X pins D .next s') acc C) Pn hc S hg hf (λs H ex=>Pd (he s H ex)) I2 T st2 f2 hW λs3 s6 H5 σ5 L I3 I6 f3 q=>?_;have J6:Inv X pins σ H5 s6:=Iz (h'':=s6.heap) I3 I6 f3 (.refl ..);obtain⟨m,hm,_⟩:=I6.loc;have hm:s6.heap.Ns 162 m:=hm;have hL:162≠X.env.locals:=Ne.symm (jb I3.lt);show wpAny _ _ (assign (.Name y py) X.env (.ref L)) _ _ s6;refine wpAny_assign_Name (Lr (v:=.ref L) J6 hN hiN (.inl hy) rfl (λs7 I7 ⟨a,sb,ha⟩=>?_) (.inr hy));have hca:162≠a:=by
  rcases ha with rfl|ha
  .exact hL
  .obtain⟨v,z⟩:=I3.cell y a ha;exact Ne.symm (jb z.lt)
 refine⟨m,hm.sameBut sb hca,λh' hs'=>?_⟩;refine⟨_,H5,I7.turned (t':=s7.toks) (it:=162) (λb o hb e=>(hs'.2 b hb).trans e) I6.free hL (.inr I3.sz) (λx c e z=>?_) (λp hp z=>?_),q⟩
 .obtain⟨v,w⟩:=I3.cell x c e;exact absurd w.lt (by rw[z];exact jD _)
 .exact absurd (84 (I3.pin p hp).1) (by rw[z];exact jD _)
end
mutual
def Rep(K:Frag)(H:Hp):PyData->V->Prop
 |.none,v=>v=.non
 |.bool b,v=>v=.bl b
 |.int i,v=>v=.int i
 |.str x,v=>v=.str x
 |.list ds,v=>∃a xs,v=.ref a/\SqL K H a xs/\C5 K H ds xs
 |.tuple ds,v=>∃a xs,v=.ref a/\SqT K H a xs/\C5 K H ds xs
 |.dict _,_=>False
def C5(K:Frag)(H:Hp):List PyData->List V->Prop
 |[],xs=>xs=[]
 |d::ds,xs=>∃x r,xs=x::r/\Rep K H d x/\C5 K H ds r
end
section
mutual
theorem Cq(I:76):∀(d:PyData) (v:V) (u:168),Rep X.K H d v->RelV v u->∃as,Reads s.heap u d as
 |.none,v,u,h,r=>by
  have h:v=.non:=by simpa only[Rep]using h
  subst h;cases r;exact⟨_,.none⟩
 |.bool b,v,u,h,r=>by
  have h:v=.bl b:=by simpa only[Rep]using h
  subst h;cases r;exact⟨_,.bool b⟩
 |.int i,v,u,h,r=>by
  have h:v=.int i:=by simpa only[Rep]using h
  subst h;obtain⟨t,rfl⟩:=r;exact⟨_,.int i t⟩
 |.str x,v,u,h,r=>by
  have h:v=.str x:=by simpa only[Rep]using h
  subst h;obtain⟨t,rfl⟩:=r;exact⟨_,.str x t⟩
 |.list ds,v,u,h,r=>by
  have h:∃a xs,v=.ref a/\SqL X.K H a xs/\C5 X.K H ds xs:=by simpa only[Rep]using h
  obtain⟨a,xs,rfl,hq,ha⟩:=h;cases r;obtain⟨its,rv,⟨o,n,e,c,_,dd⟩,hz⟩:=I.list hq;obtain⟨as,q⟩:=FL I ds xs its ha rv;exact⟨_,.list e c dd (by simpa using q)⟩
 |.tuple ds,v,u,h,r=>by
  have h:∃a xs,v=.ref a/\SqT X.K H a xs/\C5 X.K H ds xs:=by simpa only[Rep]using h
  obtain⟨a,xs,rfl,hq,ha⟩:=h;cases r;obtain⟨its,rv,⟨o,e,c,n,dd⟩,hz⟩:=I.tuple hq;obtain⟨as,q⟩:=FL I ds xs its ha rv;exact⟨_,.tuple e c dd (by simpa using q)⟩
 |.dict _,v,u,h,r=>by
  have h:False:=by simpa only[Rep]using h
  exact h.elim
theorem FL(I:76):∀(ds:List PyData) (xs:155) (us:83),C5 X.K H ds xs->Vals xs us->∃as,ReadsAll s.heap us ds as
 |[],xs,us,h,r=>by
  have h:xs=[]:=by simpa only[C5]using h
  subst h;cases r;exact⟨_,.nil⟩
 |d::ds,xs,us,h,r=>by
  have h:∃x r,xs=x::r/\Rep X.K H d x/\C5 X.K H ds r:=by simpa only[C5]using h
  obtain⟨x,rr,rfl,h1,h2⟩:=h;cases r with
  |cons r1 r2=>
   obtain⟨as,q1⟩:=Cq I d _ _ h1 r1;obtain⟨bs,q2⟩:=FL I ds _ _ h2 r2;exact⟨_,.cons q1 q2⟩
end
end
def Stb:HO->Prop
 |.tup _=>True
 |.frz _ _=>True
 |.ext _=>True
 |.xd _=>True
 |_=>False
structure Grow(H H':Hp):Prop where
 keep:∀b o,Stb o->H b=some o->H' b=some o
theorem Grow.tup(g:Grow H H'):∀b xs,H b=some (.tup xs)->H' b=some (.tup xs):=λb _ h=>g.keep b _ trivial h
theorem Grow.frz(g:Grow H H'):∀b o u,H b=some (.frz o u)->H' b=some (.frz o u):=λb _ _ h=>g.keep b _ trivial h
def Grow.refl:Grow H H:=⟨λ_ _ _ h=>h⟩
def Chg(H:Hp)(p:Addr):Prop:=∀o,Stb o->H p≠some o
def Grow.put(a:Grow H H')(h:Chg H' p):Grow H (upd H' p o):=⟨λc u s e=>by
 have q:=a.keep c u s e;have n:c≠p:=λz=>h u s (by rw[<- z];exact q);rw[upd_ne n];exact q⟩
def Grow.sq{K:Frag}(g:Grow H H')(h:SqT K H a xs):SqT K H' a xs:=by
 rcases h with(h|⟨o,h⟩)|h
 .exact .inl (.inl (g.tup _ _ h))
 .exact .inl (.inr ⟨o,g.frz _ _ _ h⟩)
 .exact .inr h
section
variable{X:Cx}
noncomputable def VM(K:Frag):R2:=λx y H Q=>∃d e,Rep K H d x/\Rep K H e y/\d.canLay0=true/\e.canLay0=true/\min d.depth e.depth<=60/\Q (.bl (!PyData.eqv d e)) H
noncomputable def Qq(K:Frag):R2:=λx y H Q=>∃d e,Rep K H d x/\Rep K H e y/\d.canLay0=true/\e.canLay0=true/\min d.depth e.depth<=60/\Q (.bl (PyData.eqv d e)) H
def dE(hu:X.A.units+64<cLine):OpR X (compareOp .NotEq) (VM X.K):=by
 intro pins s σ H x y v u Q I rx ry h;obtain⟨d,e,h1,h2,c1,c2,hm,q⟩:=h;obtain⟨as,q1⟩:=Cq I d x v h1 rx;obtain⟨bs,q2⟩:=Cq I e y u h2 ry;exact PySem.SeqAt.compareNe_reads q1 q2 c1 c2 68 ⟨.bl _,H,I,rfl,q⟩
def dJ(hu:X.A.units+64<cLine):OpR X (compareOp .Eq) (Qq X.K):=by
 intro pins s σ H x y v u Q I rx ry h;obtain⟨d,e,h1,h2,c1,c2,hm,q⟩:=h;obtain⟨as,q1⟩:=Cq I d x v h1 rx;obtain⟨bs,q2⟩:=Cq I e y u h2 ry;exact PySem.SeqAt.compareEq_reads q1 q2 c1 c2 68 ⟨.bl _,H,I,rfl,q⟩
theorem Dj:∀{ns:88} {us:83},Vals 157 us->IntsAre us ns
 |[],_,.nil=>.nil
 |n::ns,_,.cons r t=>by obtain⟨k,rfl⟩:=r;exact .cons _ _ (Dj t)
def U6(hc:164):CallR X (.builtin "sum") (λxs H Q=>∃(a:Addr) (ns:88),xs=[.ref a]/\SqL X.K H a 157/\Q (.int ns.sum) H):=by
 intro pins s σ H xs us Q I r h;obtain⟨a,ns,rfl,hq,q⟩:=h;obtain⟨u,rfl,ru⟩:=BL r;cases ru;obtain⟨its,rv,p,hz⟩:=I.list hq;have hi:=Dj rv;obtain⟨xs,hx⟩:=hi.allInts.items;have hl':s.heap.IsList a (intItems xs):=hx ▸ p.isList;refine sum_intListG (I.ok.hd hc) hl' λh' tk t' hk=>?_;have e1:ns=xs.toList.map (·.1):=by
  rw[<- kE,<- hx];exact(show numsOf its.toArray.toList=ns from hi.numsOf).symm
 have e2:preSum (numAt xs) xs.size=ns.sum:=by
  rw[preSum_eq,kx 71,e1]
 rw[e2];exact⟨.int ns.sum,H,I.kept hk,⟨_,rfl⟩,q⟩
end
end L2
namespace L2
open PySem PySem.Spec PyProof.Rows
section
variable(K:Frag){X:Cx}
def OC(hK:X.K=K:=by rfl):IxR X (JI K):=by subst hK;exact Pp
def Po(hK:X.K=K:=by rfl):IxR X (VN K):=by subst hK;exact dg
def Us(hK:X.K=K:=by rfl):SlR X (Qp K):=by subst hK;exact Y6
def Nx(hK:X.K=K:=by rfl):OpR X (compareOp .In) (rIn K false):=by subst hK;exact TJ
def TF(hK:X.K=K:=by rfl):OpR X (compareOp .NotIn) (rIn K true):=by subst hK;exact Nw
def IN(hu:X.A.units+64<cLine)(hK:X.K=K:=by rfl):OpR X (compareOp .Eq) (Qq K):=by subst hK;exact dJ hu
def LF(hu:X.A.units+64<cLine)(hK:X.K=K:=by rfl):OpR X (compareOp .NotEq) (VM K):=by subst hK;exact dE hu
def Vv(hK:X.K=K:=by rfl):OpR X (binaryOp .Add) (Qr K):=by subst hK;exact ZX
def bY:List V->Hp->VK->Prop:=λxs H Q=>∃p ys,xs=[.ref p]/\(SqL K H p ys∨SqT K H p ys)/\Q (.int ys.length) H
def UB(hK:X.K=K:=by rfl):CallR X (.builtin "len") (bY K):=by subst hK;exact Od
def GB:List V->Hp->VK->Prop:=λxs H Q=>∃p ys,xs=[.ref p]/\(SqL K H p ys∨SqT K H p ys)/\∀l,H l=none->Q (.ref l) (upd H l (.lst ys))
def Kl(hK:X.K=K:=by rfl):CallR X (.type "list") (GB K):=by subst hK;exact Oc
def No:List V->Hp->VK->Prop:=λxs H Q=>∃p ys,xs=[.ref p]/\((SqL K H p ys/\∀l,H l=none->Q (.ref l) (upd H l (.tup ys)))∨(SqT K H p ys/\Q (.ref p) H))
def Iy(hK:X.K=K:=by rfl):CallR X (.type "tuple") (No K):=by subst hK;exact Mm
def XF:List V->Hp->VK->Prop:=λxs H Q=>∃(a:Addr) (ns:88),xs=[.ref a]/\SqL K H a 157/\Q (.int ns.sum) H
def MP(hc:164)(hK:X.K=K:=by rfl):CallR X (.builtin "sum") (XF K):=by subst hK;exact U6 hc
def JK(hl:PE X l tl)(hK:X.K=K:=by rfl):PI X tg l (Gk K tl):=by subst hK;exact ZJ hl
def Pe(hl:PE X l tl)(hK:X.K=K:=by rfl):PI X tg l (OG K tl):=by subst hK;exact cW hl
def ZL{pos:Pos}{k:Nat}{n:Nat}(hc:164)(h:PGs X es t)(hK:X.K=K:=by rfl)
 (hn:(assignEach es X.env).length=n:=by rfl) (hst:(assignEach es X.env).findIdx? (·.1)=none:=by rfl):PG X (.Tuple es k pos) (Rg K n t):=by
 subst hK;exact cX hc h hn hst
end
section
variable(K:Frag){X:Cx}
theorem IF:∀{bs:List Bool} {us:83} {i:Nat} {v:168},Vals (bs.map V.bl) us->us[i]?=some v->∃b,bs[i]?=some b/\v=.bool b
 |[],_,_,_,.nil,e=>by simp at e
 |b::bs,_,0,_,.cons r _,e=>by simp at e;subst e;exact⟨b,rfl,r⟩
 |b::bs,_,i+1,_,.cons _ t,e=>by
  obtain⟨c,h1,h2⟩:=IF (i:=i) t (by simpa using e);exact⟨c,by simpa using h1,h2⟩
def ba:List V->Hp->VK->Prop:=λxs H Q=>∃(a:Addr) (bs:List Bool),xs=[.ref a]/\SqL K H a (bs.map V.bl)/\Q (.bl (bs.all id)) H
def bZ:List V->Hp->VK->Prop:=λxs H Q=>∃(a:Addr) (bs:List Bool),xs=[.ref a]/\SqL K H a (bs.map V.bl)/\Q (.bl (bs.any id)) H
def MW(hc:164)(hK:X.K=K:=by rfl):CallR X (.builtin "all") (ba K):=by
 subst hK;intro pins s σ H xs us Q I r h;obtain⟨a,bs,rfl,hq,q⟩:=h;obtain⟨u,rfl,ru⟩:=BL r;cases ru;obtain⟨its,rv,p,hz⟩:=I.list hq;have hl:=p.isList;have hlen:=rv.length;have hlt:a<s.heap.objs.size:=by obtain⟨_,e,_⟩:=hl;exact 84 e
 refine call_all_walk (kD hl ?_);refine⟨65,[65,a],[65],129,_,_,λi=>(bs[i]?).getD true,rfl,Walks.list (A:=X.A.in1) (I.ok.hd hc) _ a (jb hlt) 107,
  ⟨⟨_,87 _ rfl,rfl,rfl⟩,hl.push _⟩,λi v s' Q' E' hP hQ=>?_,λh' tk hk=>?_⟩
 .obtain⟨b,e,rfl⟩:=IF rv (by simpa using hP);simp only[e,getD_some]at hQ;exact jS hQ
 .have e:((69 129).all λi=>(bs[i]?).getD true)=bs.all id:=by
   rw[iy,<- hlen,ja];exact LSm.range_all bs
  rw[e];exact⟨.bl _,H,I.kept (LSm.kept_iter hk),rfl,q⟩
def MV(hc:164)(hK:X.K=K:=by rfl):CallR X (.builtin "any") (bZ K):=by
 subst hK;intro pins s σ H xs us Q I r h;obtain⟨a,bs,rfl,hq,q⟩:=h;obtain⟨u,rfl,ru⟩:=BL r;cases ru;obtain⟨its,rv,p,hz⟩:=I.list hq;have hl:=p.isList;have hlen:=rv.length;have hlt:a<s.heap.objs.size:=by obtain⟨_,e,_⟩:=hl;exact 84 e
 refine call_any_walk (kD hl ?_);refine⟨65,[65,a],[65],129,_,_,λi=>(bs[i]?).getD false,rfl,Walks.list (A:=X.A.in1) (I.ok.hd hc) _ a (jb hlt) 107,
  ⟨⟨_,87 _ rfl,rfl,rfl⟩,hl.push _⟩,λi v s' Q' E' hP hQ=>?_,λh' tk hk=>?_⟩
 .obtain⟨b,e,rfl⟩:=IF rv (by simpa using hP);simp only[e,getD_some]at hQ;exact jS hQ
 .have e:((69 129).any λi=>(bs[i]?).getD false)=bs.any id:=by
   rw[iy,<- hlen,ja];exact LSm.range_any bs
  rw[e];exact⟨.bl _,H,I.kept (LSm.kept_iter hk),rfl,q⟩
def LD:List V->Hp->VK->Prop:=λxs H Q=>∃(a:Addr) (ns:88),xs=[.ref a]/\SqL K H a 157/\169<64/\∀(p:Addr) (ns':88),H p=none->ns'.Perm ns->ns'.Pairwise (·<=·)->Q (.ref p) (upd H p (.lst (ns'.map V.int)))
theorem Ku:∀{ns:88} {us:83},IntsAre us ns->Vals 157 us
 |[],_,.nil=>.nil
 |_::_,_,.cons _ _ t=>.cons ⟨_,rfl⟩ (Ku t)
def Ob(hK:X.K=K:=by rfl):CallR X (.builtin "sorted") (LD K):=by
 subst hK;intro pins s σ H xs us Q I r h;obtain⟨a,ns,rfl,hq,h64,q⟩:=h;obtain⟨u,rfl,ru⟩:=BL r;cases ru;obtain⟨its,rv,p,hz⟩:=I.list hq;have hlen:=rv.length;rw[ja]at hlen;refine sorted_ints p.isList (Dj rv) 68 λout ns' a1 a2 a3=>?_;obtain⟨e,he⟩:=sortedAll_at s.heap its out;have hl':ns'.length=ns.length:=a2.length_eq;refine⟨.ref (65+1),_,I.laid (a:=65+1) (o:=.lst (ns'.map V.int)) (t':=s.toks) (λb o hb=>sortedAll_old hb) (jR _) ⟨?_,out.toList,e,Ku a1,he⟩,rfl,q _ _ (I.hok.fresh (jR _)) a2 a3⟩;rw[ja,hl'];exact jF (HQ 68)
def XM:List V->Hp->VK->Prop:=λxs H Q=>∃(a:Addr) (ns:88),xs=[.ref a]/\SqL K H a 157/\0<169/\∀M:Int,M∈ns->(∀x∈ns,x<=M)->Q (.int M) H
def MU(hc:164)(hK:X.K=K:=by rfl):CallR X (.builtin "max") (XM K):=by
 subst hK;intro pins s σ H xs us Q I r h;obtain⟨a,ns,rfl,hq,hne,q⟩:=h;obtain⟨u,rfl,ru⟩:=BL r;cases ru;obtain⟨its,rv,p,hz⟩:=I.list hq;have hi:=Dj rv;obtain⟨ys,e⟩:=hi.allInts.items;have hns:ns=ys.toList.map (·.1):=by
  rw[<- hi.numsOf,<- kE,<- e]
 have hsz:0<ys.size:=by
  have h3:=hne;rw[hns,ja,Array.length_toList]at h3;exact h3
 have hl:=p.isList;rw[e]at hl;refine max_intList (I.ok.hd hc) hl hsz λv h' tk hv hk=>?_;obtain⟨t,rfl⟩:=intItems_at hv;obtain⟨h1,h2⟩:=argBest_gt (numAt ys) (ys.size-1);refine⟨.int _,H,I.kept hk,⟨t,rfl⟩,q _ ?_ λx hx=>?_⟩
 .rw[hns,numAt_eq];exact getD_mem (by rw[ja,Array.length_toList];omega)
 .rw[hns]at hx;obtain⟨j,hj,rfl⟩:=mem_getD hx;rw[ja,Array.length_toList]at hj;rw[<- numAt_eq];exact h2 j 68
def XI:List V->Hp->VK->Prop:=λxs H Q=>∃(a:Addr) (ns:88),xs=[.ref a]/\SqL K H a 157/\0<169/\∀M:Int,M∈ns->(∀x∈ns,M<=x)->Q (.int M) H
def MR(hc:164)(hK:X.K=K:=by rfl):CallR X (.builtin "min") (XI K):=by
 subst hK;intro pins s σ H xs us Q I r h;obtain⟨a,ns,rfl,hq,hne,q⟩:=h;obtain⟨u,rfl,ru⟩:=BL r;cases ru;obtain⟨its,rv,p,hz⟩:=I.list hq;have hi:=Dj rv;obtain⟨ys,e⟩:=hi.allInts.items;have hns:ns=ys.toList.map (·.1):=by
  rw[<- hi.numsOf,<- kE,<- e]
 have hsz:0<ys.size:=by
  have h3:=hne;rw[hns,ja,Array.length_toList]at h3;exact h3
 have hl:=p.isList;rw[e]at hl;refine min_intList (I.ok.hd hc) hl hsz λv h' tk hv hk=>?_;obtain⟨t,rfl⟩:=intItems_at hv;obtain⟨h1,h2⟩:=argBest_lt (numAt ys) (ys.size-1);refine⟨.int _,H,I.kept hk,⟨t,rfl⟩,q _ ?_ λx hx=>?_⟩
 .rw[hns,numAt_eq];exact getD_mem (by rw[ja,Array.length_toList];omega)
 .rw[hns]at hx;obtain⟨j,hj,rfl⟩:=mem_getD hx;rw[ja,Array.length_toList]at hj;rw[<- numAt_eq];exact h2 j 68
end
section
variable{E:78}{s:120}
def HJ{Q:78}(hl:s.heap.IsTuple l (intItems xs))
 (h:∀s₂:Shared,s₂={ s with heap:=s.heap.push { cls:=.type "tuple_iterator",data:=.fields #[.ref l,.int 0 0] } } ->
  (s₂.heap.IsTupleIter 65 l 0/\s₂.heap.IsTuple l (intItems xs))->(∀b∈[65,l],b<s₂.heap.objs.size)->l≠65->Q (.ref 65) s₂):
 wpAny 110 A (pyIter (.ref l)) Q E s:=by
 have hlt:l<s.heap.objs.size:=by obtain⟨_,e,_⟩:=hl;exact 84 e
 refine wpAny_pyIter_tuple hl (h _ rfl ⟨⟨_,87 _ rfl,rfl,rfl⟩,hl.push _⟩ (λb hb=>?_) (jb hlt));show b<(s.heap.push _).objs.size;rw[Heap.size_push];rcases mem_cons.mp hb with rfl|hb
 .exact Nat.lt_succ_self _
 .rcases mem_cons.mp hb with rfl|hb
  .exact Nat.lt_succ_of_lt hlt
  .cases hb
def M2{h':Heap}(hk:∀b x,b∉[65]->(s.heap.push o).get? b=some x->h'.get? b=some x):∀b x,s.heap.get? b=some x->h'.get? b=some x:=
 λb x e=>hk b x (λhm=>by rw[mem_singleton.mp hm]at e;exact jD _ (84 e)) (72 _ e)
def NK{Q:78}(hh:A.handled=none)(hl:s.heap.IsTuple l (intItems xs))
 (h:∀h' tk t',(∀b o,s.heap.get? b=some o->h'.get? b=some o)->Q (.int (preSum (numAt xs) xs.size) t') { s with heap:=h',toks:=tk }):
 wpAny 110 A (call (.builtin "sum") [.ref l]) Q E s:=by
 refine call_sum_walkG (HJ hl λs₂ e st hfp hlI=>?_);subst e;refine⟨_,_,_,_,_,_,numAt xs,rfl,Walks.tuple (A:=A.in1) hh _ l hlI (intItems xs),st,hfp,(λ_ _=>intItems_at),λh' tk t' hk=>?_⟩;have:=h h' tk t' (M2 hk);simpa [intItems]using this
def O1{Q:78}(hh:A.handled=none)(hl:s.heap.IsTuple l (intItems xs))(hne:0<xs.size)
 (h:∀v h' tk,(intItems xs)[argBest (λi j=>decide (numAt xs i>numAt xs j)) (xs.size-1)]?=some v->(∀b o,s.heap.get? b=some o->h'.get? b=some o)->Q v { s with heap:=h',toks:=tk }):
 wpAny 110 A (call (.builtin "max") [.ref l]) Q E s:=by
 refine call_max_walk (HJ hl λs₂ e st hfp hlI=>?_);subst e;refine⟨_,_,_,_,_,_,_,rfl,Walks.tuple (A:=A.in1) hh _ l hlI (intItems xs),st,hfp,by simpa [intItems]using hne,CmpOf.ints_gt (numAt xs) (λ_ _=>intItems_at),λv h' tk hP hk=>?_⟩;exact h v h' tk (by simpa [intItems]using hP) (M2 hk)
end
section
variable(K:Frag){X:Cx}
def XE:List V->Hp->VK->Prop:=λxs H Q=>∃(a:Addr) (ns:88),xs=[.ref a]/\SqT K H a 157/\Q (.int ns.sum) H
def Kj(hc:164)(hK:X.K=K:=by rfl):CallR X (.builtin "sum") (XE K):=by
 subst hK;intro pins s σ H xs us Q I r h;obtain⟨a,ns,rfl,hq,q⟩:=h;obtain⟨u,rfl,ru⟩:=BL r;cases ru;obtain⟨its,rv,p,hz⟩:=I.tuple hq;have hi:=Dj rv;obtain⟨xs,hx⟩:=hi.allInts.items;have hl':s.heap.IsTuple a (intItems xs):=hx ▸ (show s.heap.IsTuple a 107 from p);refine NK (I.ok.hd hc) hl' λh' tk t' hk=>?_;have e1:ns=xs.toList.map (·.1):=by
  rw[<- kE,<- hx];exact(show numsOf its.toArray.toList=ns from hi.numsOf).symm
 have e2:preSum (numAt xs) xs.size=ns.sum:=by
  rw[preSum_eq,kx 71,e1]
 rw[e2];exact⟨.int ns.sum,H,I.kept hk,⟨_,rfl⟩,q⟩
def XJ:List V->Hp->VK->Prop:=λxs H Q=>∃(a:Addr) (ns:88),xs=[.ref a]/\SqT K H a 157/\0<169/\∀M:Int,M∈ns->(∀x∈ns,x<=M)->Q (.int M) H
def Kk(hc:164)(hK:X.K=K:=by rfl):CallR X (.builtin "max") (XJ K):=by
 subst hK;intro pins s σ H xs us Q I r h;obtain⟨a,ns,rfl,hq,hne,q⟩:=h;obtain⟨u,rfl,ru⟩:=BL r;cases ru;obtain⟨its,rv,p,hz⟩:=I.tuple hq;have hi:=Dj rv;obtain⟨ys,e⟩:=hi.allInts.items;have hns:ns=ys.toList.map (·.1):=by
  rw[<- hi.numsOf,<- kE,<- e]
 have hsz:0<ys.size:=by
  have h3:=hne;rw[hns,ja,Array.length_toList]at h3;exact h3
 have hl:s.heap.IsTuple a (intItems ys):=e ▸ (show s.heap.IsTuple a 107 from p);refine O1 (I.ok.hd hc) hl hsz λv h' tk hv hk=>?_;obtain⟨t,rfl⟩:=intItems_at hv;obtain⟨h1,h2⟩:=argBest_gt (numAt ys) (ys.size-1);refine⟨.int _,H,I.kept hk,⟨t,rfl⟩,q _ ?_ λx hx=>?_⟩
 .rw[hns,numAt_eq];exact getD_mem (by rw[ja,Array.length_toList];omega)
 .rw[hns]at hx;obtain⟨j,hj,rfl⟩:=mem_getD hx;rw[ja,Array.length_toList]at hj;rw[<- numAt_eq];exact h2 j 68
end
structure DefAt(K:Frag)(mg:130)(x:Str)(st:Stmt)(f:Addr)(fd:FuncData)(ps:190):Prop where
 fn:Fun K x x st f fd
 mg:mg x=some (.ref f)
 bd:Binds K fd ps []
def Qx{X:Cx}{j k:Nat}{st:Stmt}{p:Pos}(F:FnOk X.prog X.w X.K X.mg X.base CX0 j f fd ps sp)(hr:Room k X.A)(D:DefAt X.K X.mg x st f fd ps)(ha:PA X 179 t)
 (hjk:j<=k:=by decide) (hg:Gl X x:=by rfl) (hdb:141=false:=by decide) (he:starEach 179 X.env=109::starEach es X.env:=by rfl) (hpl:(backTo pos 149).any (·.1)=false:=by rfl):
 PE X (.Call (.Name x p) 179 [] pos) (CU sp [] E0 t):=
 ZR (F.mono hjk) hr hg D.mg D.fn.kp D.bd .nil XT ha hdb he hpl
def Ld:bootBuiltins "list"=some (.type "list"):=by decide +kernel
def bt_tuple:bootBuiltins "tuple"=some (.type "tuple"):=by decide +kernel
def bt_int:bootBuiltins "int"=some (.type "int"):=by decide +kernel
def bt_len:bootBuiltins "len"=some (.builtin "len"):=by decide +kernel
def bt_sum:bootBuiltins "sum"=some (.builtin "sum"):=by decide +kernel
def bt_min:bootBuiltins "min"=some (.builtin "min"):=by decide +kernel
def bt_max:bootBuiltins "max"=some (.builtin "max"):=by decide +kernel
def Ft:bootBuiltins "sorted"=some (.builtin "sorted"):=by decide +kernel
def bt_all:bootBuiltins "all"=some (.builtin "all"):=by decide +kernel
def bt_any:bootBuiltins "any"=some (.builtin "any"):=by decide +kernel
def Mn:bootBuiltins "isinstance"=some (.builtin "isinstance"):=by decide +kernel
def ne1:¬ (("cells":Str)="next"):=by decide +kernel
def ne2:¬ (("cells":Str)="left"):=by decide +kernel
mutual
theorem Ix:∀ns:List Int,PyData.canLayAll0 154=true
 |[]=>by simp[PyData.canLayAll0]
 |n::ns=>by simp[PyData.canLayAll0,PyData.canLay0,Ix ns]
end
end L2
namespace L2
open PySem PySem.Spec PyProof.Rows PySem.W
noncomputable def lCx(X:Cx)(A:Around)(N':190)(qual:Str)(scope:Scope)(f:Addr)(cd:168)(cl:List (Str×Addr))(s:120)(H:Hp):Cx:=
 { X with N:=N',s₀:=s,H₀:=H,A:=A.deeper (envX qual scope s.heap.objs.size f cd cl),env:=envX qual scope s.heap.objs.size f cd cl,outer:=X.stack,stack:=envX qual scope s.heap.objs.size f cd cl::X.stack,ex:=[],fn:=λ_=>false,calm:=true,pn:=[],xe:=λ_ _=>False }
structure LSc(scope:Scope)(p:Str):Prop where
 nocell:(scope.names.all λy=>y.2 != .cell)=true
 par:scope.names.lookup p=some .local
 co:scope.isCoroutine=false
 gen:scope.isGenerator=false
section
def LSc.ne(L:LSc scope p):∀y∈92,y.2≠.cell:=λy hy e=>by
 have:=all_eq_true.mp L.nocell y hy;rw[e]at this
 revert this;decide
def Zv(S:163)(L:LSc scope p)(I:76){A:Around}(hf:A.frames=X.A.frames)(hh:A.handled=none){h':Heap}{t':Nat}
 (hk:∀b o,s.heap.get? b=some o->h'.get? b=some o) (hn:h'.Ns 65 λy=>if y=p then some u else none) (r:RelV x u):
 Inv (lCx X A (p::fr) qual scope f cd 147 s H) [] (some x::ix.map λi=>(σ[i]?).join) H { s with heap:=h',toks:=t' }:=by
 have lenix:fr.length=ix.length:=by simpa using jm List.length S.ixs
 have co:∀x c,(147).lookup x=some c->X.env.cells.lookup x=some c:=λx c e=>Dy (S.clos I.ok) (λ_ _ z=>by simp at z) x c e;refine⟨⟨I.ok.mod,S.kind,rfl,rfl,ir _,?_,?_,?_,λ_=>hh,Around.frames_deeper (hf.trans I.ok.frames),.inr ⟨rfl,rfl⟩,?_,I.bs,j6 I.ok.bsz I.sz,?_,?_,I.stack,I.stkFree⟩,rfl,I.bare,Un.kept hk,⟨_,hn,?_⟩,?_,I.hok.fresh (ir _),?_,?_,I.hok.kept hk,?_⟩
 .intro x y c e1 e2;exact I.ok.inj x y c (co x c e1) (co y c e2)
 .intro x hx;rcases hx with e|e
  .exact absurd rfl (L.ne (x,.cell) (134 e))
  .exact isSome_iff_exists.mp (D7 (.inr (134 e)))
 .intro x c hf;cases hf
 .intro b hb;cases hb
 .intro b o e hb;cases hb
 .intro b hb;cases hb
 .intro i y v e1 e2 e3;cases i with
  |zero=>
   have e1:some p=some y:=e1;have e2:some (some x)=some (some v):=e2;cases e1;cases e2;exact⟨u,r,.inl ⟨L.par,il rfl⟩⟩
  |succ j=>
   have e1:fr[j]?=some y:=e1;have e2:(ix.map λi=>(σ[i]?).join)[j]?=some (some v):=e2;rw[List.getElem?_map]at e2;have e4:(fr.map some)[j]?=some (some y):=by rw[List.getElem?_map,e1];rfl
   rw[S.ixs,List.getElem?_map]at e4;cases q:ix[j]? with
   |none=>rw[q]at e2;cases e2
   |some k=>
    rw[q]at e2 e4;have e2:(σ[k]?).join=some v:=102 e2;have e4:X.N[k]?=some y:=102 e4;have e5:σ[k]?=some (some v):=by
     cases w:σ[k]? with
     |none=>rw[w]at e2;cases e2
     |some z=>rw[w]at e2;simpa using e2
    have hfx:=all_eq_true.mp S.frs y (jf e1);have hfx:scope.names.lookup y=some .free:=by simpa using hfx
    have hmem:=134 hfx;have hout:=S.outer hmem rfl;obtain⟨m,hm,hl⟩:=I.loc;obtain⟨u',r',l⟩:=hl k y v e4 e5 (.inr hout);refine⟨u',r',.inr ⟨.inr hfx,?_⟩⟩;rcases l with⟨kk,_⟩|⟨kk,c,ec,z⟩
    .rcases hout with w|w
     .rw[kk]at w;cases w
     .rw[kk]at w;cases w
    .obtain⟨d,hd⟩:=isSome_iff_exists.mp (D7 (cells:=X.env.cells) (acc:=[]) (.inr hmem));have:=co y d hd;rw[ec]at this;cases this;exact⟨c,hd,z.keeps hk⟩
 .intro x c e;obtain⟨v,z⟩:=I.cell x c (co x c e);exact⟨v,z.keeps hk⟩
 .intro x c e;exact I.freeC x c (co x c e)
 .intro p hp;cases hp
 .show(_::_:List (Option V)).length=(p::fr).length;simp[lenix]
def O9(S:163)(L:LSc scope p)(I:76){A:Around}(hf:A.frames=X.A.frames)(hr:Room 1 A){x:V}{u:168}{tb:TE}{Q:VK}
 (ho:s.heap.get? f=some { cls:=.type "function",data:=.func (kla_fn "<lambda>" qual params body scope 147 pm cd ctv) }) (hcd:s.heap.CodeRec cd qual)
 (hb:∀us:Value,bindArgs (kla_fn "<lambda>" qual params body scope 147 pm cd ctv) ⟨[us],[]⟩=pure [(p,us)])
 (he:∀(s:120) (H:Hp),PE (lCx X A (p::fr) qual scope f cd 147 s H) body tb) (r:RelV x u) (h:tb (some x::ix.map λi=>(σ[i]?).join) H Q):
 wpAny 70 A (call (.ref f) [u]) 191 (λ_ _=>False) s:=by
 refine wpAny_call (kr (R:=λres s'=>match res with|.ok (.ret u)=>EP X pins σ Q u s'|_=>False) (kla_callFunE hr.depth ho rfl L.co L.gen rfl hcd ?_) ?_)
 .rw[hb];refine iu ?_;refine wpAny_newFunctionEnv L.ne (λy hy=>by rw[jd]at hy;subst hy;exact L.par) (λh' hns hsb=>⟨?_,?_⟩) S.kind
  .have hk:∀b o,s.heap.get? b=some o->h'.get? b=some o:=λb o e=>(hsb.2 b (jb (84 e))).trans (72 _ e);exact I.nolimit.keeps hk
  .have hk:∀b o,s.heap.get? b=some o->h'.get? b=some o:=λb o e=>(hsb.2 b (jb (84 e))).trans (72 _ e);have hns':h'.Ns 65 λy=>if y=p then some u else none:=by
    have e:(λy=>([(p,u)]:List (Str×Value)).reverse.lookup y)=λy=>if y=p then some u else none:=by
     funext y
     simp only[List.reverse_cons,List.reverse_nil,jP,jg,List.lookup_nil];by_cases hy:y=p
     .subst hy;simp
     .have hb':(y==p)=false:=beq_eq_false_iff_ne.mpr hy;simp[hb',hy]
    rw[<- e];exact hns
   have J:=Zv (t':=s.toks+1) (qual:=qual) (f:=f) (cd:=cd) S L I hf hr.hd hk hns' r;refine kla_codeExpr (jh (he s H [] _ _ H Q J h) (λv s' hv=>?_) λ_ _ z=>z.elim);obtain⟨y,H',J',ry,q⟩:=hv;obtain⟨hh,g,d,t,os'⟩:=s';obtain rfl:os'=s.os:=J'.os;exact⟨y,H',I.call (h':=hh) (g':=g) (d':=d) (t':=t) (ch:=[]) J'.base J'.hok J'.bare (λb z=>absurd z 71),ry,q⟩
 .intro res s' hq;cases res with
  |error e=>exact hq
  |ok fl=>
   cases fl with
   |ret u=>exact hq
   |next=>exact hq
   |brk=>exact hq
   |cont=>exact hq
end
def cdF(c:Addr)(q:Str):Heap->Prop:=λh=>h.CodeRec (.ref c) q
def EH(H:Hp)(q:Str)(pos:Pos)(ps:Array Value):Prop:=ps=#[]∨∃c,ps=#[rawInt pos.line,rawInt pos.col,.ref c]/\H c=some (.ext (cdF c q))
def TabStep(P:Addr)(q:Str)(pos:Pos)(H H':Hp):Prop:=H'=H∨∃c,H c=none/\c≠P/\H'=upd (upd H P (.tbl #[rawInt pos.line,rawInt pos.col,.ref c])) c (.ext (cdF c q))
structure LamAt(X:Cx)(c P:Addr):Prop where
 code:X.env.code=.ref c
 hd:CodeHd X.base c P
 bl:X.base.BuiltinsAt X.mg P
section
def Zu(I:76)(hP:H P=some (.tbl ps)){h':Heap}{t':Nat}(hx:∀b o,b≠P->s.heap.get? b=some o->h'.get? b=some o)(hc:65<=c')
 (hrec:h'.CodeRec (.ref c') q) (htb:h'.get? P=some (tabObj (ps++ps'))):Inv X pins σ (upd (upd H P (.tbl (ps++ps'))) c' (.ext (cdF c' q))) { s with heap:=h',toks:=t' }:=by
 have hcn:H c'=none:=I.hok.fresh hc;have hPc:P≠c':=AM hP hcn;have nP:∀b,H b=none->b≠P:=λb n z=>by subst z;rw[hP]at n;cases n
 have other:∀b,b≠P->b≠c'->upd (upd H P (.tbl (ps++ps'))) c' (.ext (cdF c' q)) b=H b:=λb h1 h2=>by rw[upd_ne h2,upd_ne h1]
 have ne':∀b u,H b=some u->b≠c':=λb u e=>AM e hcn;refine I.un (h':=h') (t':=t') ⟨λb o e n _ _=>hx b o (nP b n) e,λb o e n _ _=>⟨o.slots,hx b o (nP b n) e⟩,λb o e n _=>?_,λb o e _=>?_,λb xs e=>?_,λb o u e=>?_,λb qs e=>?_⟩ λb u e=>?_
 .rw[other b (nP b n) (jb (jk (Heap.lt_size e) hc))];exact n
 .by_cases z:b=P
  .subst z;exact⟨_,htb⟩
  .exact⟨o,hx b o z e⟩
 .rw[other b (λz=>by subst z;rw[hP]at e;cases e) (ne' b _ e)];exact e
 .rw[other b (λz=>by subst z;rw[hP]at e;cases e) (ne' b _ e)];exact e
 .by_cases z:b=P
  .subst z;rw[hP]at e;cases e;exact⟨ps',by rw[upd_ne hPc,AH]⟩
  .exact⟨#[],by rw[other b z (ne' b _ e),e];simp⟩
 .by_cases z:b=c'
  .subst z;rw[AH]at e;cases e;obtain⟨c0,o,vs,t,e0,r⟩:=id hrec;cases e0;refine⟨hrec,⟨o,r.1⟩,λh1 h2 q1 k=>?_⟩;obtain⟨c1,o1,vs1,t1,e1,g1,r1⟩:=q1;cases e1;exact⟨_,o1,vs1,t1,rfl,k _ g1,r1⟩
  .by_cases z2:b=P
   .subst z2;rw[upd_ne hPc,AH]at e;cases e;exact htb
   .rw[other b z2 z]at e;refine(I.hok b u e).stay (λd v hd q=>hx d v ?_ q) (λd q=>?_) λd xs q=>?_
    .rcases hd with rfl|hd
     .exact z2
     .intro y;subst y;rw[hP]at hd;cases hd
    .rw[other d (λy=>by subst y;rw[hP]at q;cases q) (ne' d _ q)];exact q
    .rw[other d (λy=>by subst y;rw[hP]at q;cases q) (ne' d _ q)];exact q
structure Made(X:Cx)(scope:Scope)(params:Arguments)(body:Expr)(P:Addr)(q:Str)(pos:Pos)(s:120)(H H':Hp)(f:Addr)(cd ctv:168)(s':120):Prop where
 fn:s'.heap.get? f=some { cls:=.type "function",data:=.func (kla_fn "<lambda>" q params body scope 147 ((X.mg "__name__").getD .none) cd ctv) }
 cdc:∃c,cd=.ref c/\H' c=some (.ext (cdF c q))
 step:TabStep P q pos H H'
 new:65<=f
 fre:H' f=none
def JQ(S:163)(LA:LamAt X c P)(I:76){E:78}{Q:78}(hdef:defaultsOf params X.env=([],[]))
 (hP:H P=some (.tbl ps)) (hg:EH H 101 pos ps)
 (h:∀f cd ctv H' s',Inv X pins σ H' s'->Made X scope params body P 101 pos s H H' f cd ctv s'->Q (.ref f) s'):
 wpAny 70 A (eval (.Lambda params body scope pos) X.env) Q E s:=by
 have hcl:closureFor scope X.env=pure 147:=Ee (S.clos I.ok);have hns:=I.mod.glob.keeps I.bk;have hb:=LA.bl.keeps I.bk;have hcd:=LA.hd.keeps I.bk;have hobj:s.heap.get? P=some (tabObj ps):=I.hok P _ hP;have hgP:mainGlobals≠P:=λz=>by
  obtain⟨o,es,ep,e,hd,_⟩:=hns;rw[z,hobj]at e;cases e;cases hd
 refine kla_eval hdef ?_;rcases hg with rfl|⟨c',rfl,hc'⟩
 .refine kla_makeFunction hcl I.ok.glob hns LA.code hcd hobj trivial rfl hgP hb λc' ctv h' tk hx hge hlt hrec htb=>?_;have hx':∀b o,b≠P->s.heap.get? b=some o->(h'.push (kla_obj "<lambda>" 101 params body scope 147 ((X.mg "__name__").getD .none) c' ctv)).get? b=some o:=λb o n e=>72 _ (hx b o n e);have J:=Zu (t':=tk) I hP hx' hge (hrec.push _) (72 _ htb);refine h _ _ ctv _ _ J ⟨87 _ rfl,⟨c',rfl,AH⟩,.inr ⟨c',I.hok.fresh hge,(AM hP (I.hok.fresh hge)).symm,?_⟩,?_,?_⟩
  .simp
  .exact j6 hge (jF hlt)
  .have hs:65<=h'.objs.size:=j6 hge (jF hlt);rw[upd_ne (ne_of_gt hlt),upd_ne (ne_of_gt (jk (Heap.lt_size hobj) hs))];exact I.hok.fresh hs
 .have hrec:s.heap.CodeRec (.ref c') 101:=(I.hok c' _ hc').1;have hf:codeAmong pos (#[rawInt pos.line,rawInt pos.col,Value.ref c']:Array Value).toList=some (.ref c'):=by simp[codeAmong,rawInt]
  refine kla_makeFunctionHit hcl I.ok.glob hns LA.code hcd hobj (by simp[TriplesOk,rawInt]) hf hb λctv h' tk hk hsz=>?_;have hk':∀b o,s.heap.get? b=some o->(h'.push { cls:=.type "function",data:=.func (kla_fn "<lambda>" 101 params body scope 147 ((X.mg "__name__").getD .none) (.ref c') ctv) }).get? b=some o:=λb o e=>72 _ (hk b o e);exact h _ _ ctv _ _ (I.kept (t':=tk) hk') ⟨87 _ rfl,⟨c',rfl,hc'⟩,.inl rfl,hsz,I.hok.fresh hsz⟩
end
end L2
namespace L2
open PySem PySem.Spec PyProof.Rows
def Exo(h:Heap)(a C:Addr)(dx:Option Addr)(tb:168):Prop:=∃vs sl,h.get? a=some ⟨.ref C,dx,.fields vs,sl⟩/\vs[1]?=some tb
end L2
namespace L2
open PySem PySem.Spec PyProof.Rows
open Builtin Builtin.ObjectAttr
def XO(a C:Addr)(dx:Option Addr)(h:Heap):Prop:=∃tb,Exo h a C dx tb
def XdAt(H:Hp):Option Addr->List (Str×V)->Prop
 |none,fs=>fs=[]
 |some d,fs=>H d=some (.xd fs)
end L2
namespace L2
open PySem PySem.Spec PyProof.Rows
def XdAt.grow{fs:List (Str×V)}(g:Grow H H')(h:XdAt H dx fs):XdAt H' dx fs:=by
 cases dx with
 |none=>exact h
 |some d=>exact g.keep _ _ trivial h
def ExR(K:Frag)(nm:Str)(fs:190)(H:Hp)(a:Addr)(xs:155):Prop:=∃C dx,gB K nm=some C/\H a=some (.ext (XO a C dx))/\XdAt H dx (fs.zip xs)/\96=fs.length
theorem ExR.grow{K:Frag}{fs:190}(g:Grow H H')(h:ExR K nm fs H a xs):ExR K nm fs H' a xs:=
 let ⟨C,dx,h1,h2,h3,h4⟩:=h;⟨C,dx,h1,g.keep _ _ trivial h2,h3.grow g,h4⟩
end L2
namespace L2
open PySem PySem.Spec PyProof.Rows PySem.W
structure CapOk(q:Str)(params:Arguments)(scope:Scope)(body:Expr)(p1 p2 x:Str):Prop where
 ne:p1≠p2
 n1:p1≠x
 n2:p2≠x
 l1:LSc scope p1
 l2:LSc scope p2
 lx:scope.names.lookup x=some .free
 only:(scope.names.all λy=>y.2 != .free||y.1==x)=true
 kind:scope.kind=.function
 d1:(p1==("__debug__":Str))=false
 d2:(p1==("__classdict__":Str))=false
 d3:141=false
 d4:(x==("__classdict__":Str))=false
 bind:∀(cl:List (Str×Addr)) (pm cd ctv u v:168),bindArgs (kla_fn "<lambda>" q params body scope cl pm cd ctv) ⟨[u,v],[]⟩=pure [(p1,u),(p2,v)]
def fnG(f c:Addr)(q:Str)(cl:Addr):Heap->Prop:=λh=>∃params scope p1 p2 x px pp pos pm ctv,h.get? f=some { cls:=.type "function",data:=.func (kla_fn "<lambda>" q params (.Subscript (.Name x px) (.Name p1 pp) pos) scope [(x,cl)] pm (.ref c) ctv) }/\CapOk q params scope (.Subscript (.Name x px) (.Name p1 pp) pos) p1 p2 x
def Ki(o:Obj)(a0:Addr):Prop:=o.data=.cell (some (.ref a0))
noncomputable abbrev G5:HO:=.ext λ_=>True
def FvR(k:Nat)(H:Hp)(a:Addr)(xs:155):Prop:=k=1/\∃c q cl a0 o1 o2,H a=some (.ext (fnG a c q cl))/\H c=some (.ext (cdF c q))/\Ki o1 a0/\H cl=some (.frz o1 G5)/\H a0=some (.frz o2 158)
def FvR.grow{k:Nat}(g:Grow H H')(h:FvR k H a xs):FvR k H' a xs:=by
 obtain⟨h1,c,q,cl,a0,o1,o2,h2,h3,h4,h5,h6⟩:=h;exact⟨h1,c,q,cl,a0,o1,o2,g.keep _ _ trivial h2,g.keep _ _ trivial h3,h4,g.keep _ _ trivial h5,g.keep _ _ trivial h6⟩
noncomputable def del(H:Hp)(c:Addr):Hp:=λb=>if b=c then none else H b
def EQ(h:b≠c):del H c b=H b:=ip h
def Jc:del H c c=none:=il rfl
def Fa(h:H b=none):del H c b=none:=by unfold del;split<;>first|rfl|exact h
def Jb(h:del H c b=some o):b≠c/\H b=some o:=by
 unfold del at h;split at h
 .cases h
 .next n=>exact⟨n,h⟩
theorem HOk.del(k:HOk P w H h)(e:H c=some (.frz o u)):HOk P w (del H c) h:=λa ho q=>by
 obtain⟨n,q⟩:=Jb q;refine(k a ho q).stay (λ_ _ _ z=>z) (λb z=>?_) λb xs z=>?_
 .rw[EQ λy=>by subst y;rw[e]at z;cases z];exact z
 .rw[EQ λy=>by subst y;rw[e]at z;cases z];exact z
def HOk.undel(k:HOk P w (L2.del H c) h)(e:H c=some (.frz o G5))(g:h.get? c=some o):HOk P w H h:=λa ho q=>by
 by_cases n:a=c
 .subst n;rw[e]at q;cases q;exact⟨g,trivial,⟨_,g⟩,λ_ _ _ _=>trivial⟩
 .exact(k a ho (by rw[EQ n];exact q)).stay (λ_ _ _ z=>z) (λb z=>(Jb z).2) λb xs z=>(Jb z).2
section
def Zw(S:CapOk q params scope body p1 p2 xn)(I:76)(hl:H cl=some (.frz o1 G5))(hc:Ki o1 a0){A:Around}(hf:A.frames=X.A.frames)(hh:A.handled=none){h':Heap}{t':Nat}
 (hk:∀b o,s.heap.get? b=some o->h'.get? b=some o) (hn:h'.Ns 65 λz=>([(p1,u),(p2,v)]:List (Str×Value)).reverse.lookup z) (r:RelV x u) (r2:RelV y v):
 Inv (lCx X A [p1,p2,xn] qual scope f cd [(xn,cl)] s (del H cl)) [] [some x,some y,some (.ref a0)] (del H cl) { s with heap:=h',toks:=t' }:=by
 have gc:s.heap.get? cl=some o1:=(I.hok cl _ hl).1;have only:∀z c,([(xn,cl)]:List (Str×Addr)).lookup z=some c->z=xn/\c=cl:=λz c e=>by
  rw[jg]at e;split at e
  .next h=>cases e;exact⟨eq_of_beq h,rfl⟩
  .cases e
 refine⟨⟨I.ok.mod,S.kind,rfl,rfl,ir _,?_,?_,?_,λ_=>hh,Around.frames_deeper (hf.trans I.ok.frames),.inr ⟨rfl,rfl⟩,?_,λb o e=>⟨(I.bs b o e).1,Fa (I.bs b o e).2⟩,j6 I.ok.bsz I.sz,?_,?_,I.stack,λb hb=>Fa (I.stkFree b hb)⟩,rfl,I.bare,Un.kept hk,⟨_,hn,?_⟩,?_,Fa (I.hok.fresh (ir _)),?_,?_,(I.hok.del hl).kept hk,?_⟩
 .intro x y c e1 e2;exact(only x c e1).1.trans (only y c e2).1.symm
 .intro x hx;rcases hx with e|e
  .exact absurd rfl (S.l1.ne (x,.cell) (134 e))
  .have:=all_eq_true.mp S.only _ (134 e);have hx:x=xn:=by simpa using this
   subst hx;exact⟨cl,by simp[lCx,envX]⟩
 .intro x c hf;cases hf
 .intro b hb;cases hb
 .intro b o e hb;cases hb
 .intro b hb;cases hb
 .intro i z w e1 e2 e3
  match i,e1,e2 with
  |0,e1,e2=>
   have e1:some p1=some z:=e1;have e2:some (some x)=some (some w):=e2;cases e1;cases e2;refine⟨u,r,.inl ⟨S.l1.par,?_⟩⟩;have hb:(p1==p2)=false:=beq_eq_false_iff_ne.mpr S.ne;simp[jg,hb]
  |1,e1,e2=>
   have e1:some p2=some z:=e1;have e2:some (some y)=some (some w):=e2;cases e1;cases e2;exact⟨v,r2,.inl ⟨S.l2.par,by simp[jg]⟩⟩
  |2,e1,e2=>
   have e1:some xn=some z:=e1;have e2:some (some (V.ref a0))=some (some w):=e2;cases e1;cases e2;exact⟨.ref a0,rfl,.inr ⟨.inr S.lx,cl,by simp[lCx,envX],o1,hk _ _ gc,hc⟩⟩
  |i+3,e1,e2=>cases e1
 .intro x c e;obtain⟨_,rfl⟩:=only x c e;exact⟨_,o1,hk _ _ gc,hc⟩
 .intro x c e;obtain⟨_,rfl⟩:=only x c e;exact Jc
 .intro p hp;cases hp
 .rfl
def Wk(I:76){A:Around}(hf:A.frames=X.A.frames)(hr:Room 1 A){j:Int}(ho:H f=some (.ext (fnG f c q cl)))(hc:H c=some (.ext (cdF c q)))(h1:Ki o1 a0)(hl:H cl=some (.frz o1 G5))(ha:H a0=some (.frz o2 158))(rx:RelV (.int j) u)(ry:RelV y v)(hz:atI xs j=some z)(h:Q z H):
 wpAny 70 A (call (.ref f) [u,v]) 191 (λ_ _=>False) s:=by
 obtain⟨params,scope,p1,p2,xn,px,pp,pos,pm,ctv,ho',S⟩:=(I.hok f _ ho).1;have gc:s.heap.get? cl=some o1:=(I.hok cl _ hl).1;have hcd:s.heap.CodeRec (.ref c) q:=(I.hok c _ hc).1;have he:∀(s:120) (H:Hp),PE (lCx X A [p1,p2,xn] q scope f (.ref c) [(xn,cl)] s H) (.Subscript (.Name xn px) (.Name p1 pp) pos) (tOp (JI X.K) (NF 2) (NF 0)):=λs H=>Qw Pp (Nu rfl (.inr (.inr S.lx)) S.d3 S.d4) (Nu rfl (.inl S.l1.par) S.d1 S.d2) λ_ _=>rfl;have nac:a0≠cl:=λe=>by subst e;rw[hl]at ha;cases ha
 refine wpAny_call (kr (R:=λres s'=>match res with|.ok (.ret u)=>EP X pins σ Q u s'|_=>False) (kla_callFunE hr.depth ho' rfl S.l1.co S.l1.gen rfl hcd ?_) ?_)
 .rw[S.bind];refine iu ?_;refine wpAny_newFunctionEnv S.l1.ne (λy hy=>?_) (λh' hns hsb=>⟨?_,?_⟩) S.kind
  .rcases mem_cons.mp hy with rfl|hy
   .exact S.l1.par
   .rw[jd]at hy;subst hy;exact S.l2.par
  .have hk:∀b o,s.heap.get? b=some o->h'.get? b=some o:=λb o e=>(hsb.2 b (jb (84 e))).trans (72 _ e);exact I.nolimit.keeps hk
  .have hk:∀b o,s.heap.get? b=some o->h'.get? b=some o:=λb o e=>(hsb.2 b (jb (84 e))).trans (72 _ e);have J:=Zw (t':=s.toks+[(p1,u),(p2,v)].length) (qual:=q) (f:=f) (cd:=.ref c) S I hl h1 hf hr.hd hk hns rx ry;refine kla_codeExpr (jh (he s (del H cl) [] _ [some (.int j),some y,some (.ref a0)] (del H cl) (λw H'=>H'=del H cl/\w=z) J ⟨.ref a0,rfl,.int j,rfl,a0,xs,j,z,rfl,rfl,.inl (.inr ⟨o2,by rw[EQ nac];exact ha⟩),hz,rfl,rfl⟩) (λv s' hv=>?_) λ_ _ z=>z.elim);obtain⟨y,H',J',ry,rfl,rfl⟩:=hv;obtain⟨hh,g,d,t,os'⟩:=s';obtain rfl:os'=s.os:=J'.os;have nfr:cl∉frs X.stack:=λm=>by have:=I.stkFree cl m;rw[hl]at this;cases this
   have gc':hh.get? cl=some o1:=J'.base.keep cl o1 gc Jc nfr (by intro m;cases m);have un:Un (frs X.stack) [] H H s.heap hh:=⟨λb o e n m1 m2=>J'.base.keep b o e (Fa n) m1 m2,λb o e n m1 m2=>J'.base.slot b o e (Fa n) m1 m2,λb o e n _=>n,λb o e m=>J'.base.there b o e m,λ_ _ q=>q,λ_ _ _ q=>q,λb ps q=>⟨#[],by rw[q];simp⟩⟩
   exact⟨_,H,I.call (h':=hh) (g':=g) (d':=d) (t':=t) (ch:=[]) un (J'.hok.undel hl gc') J'.bare (λb z=>absurd z 71),ry,h⟩
 .intro res s' hq;cases res with
  |error e=>exact hq
  |ok fl=>
   cases fl with
   |ret u=>exact hq
   |next=>exact hq
   |brk=>exact hq
   |cont=>exact hq
end
end L2
namespace L2
open PySem PySem.Spec PyProof.Rows
inductive I where
 |non|bl (b:Bool)|int (i:Int)|str (x:Str)|tup (ds:List I)
inductive D where
 |im (i:I)|mu (n:Nat)|tm (ds:137)|ro (ns:88)|op (nm:Str) (fs:190) (ds:137)|fv (k:Nat) (ds:137)
inductive MO where
 |lst (ds:137)|dic (kvs:List (Key×D))
noncomputable abbrev Hd:=List MO
noncomputable abbrev Ls:=List (Option D)
def RoL(K:Frag)(H:Hp)(a:Addr)(xs:155):Prop:=(∃o,H a=some (.frz o 158)) ∨
 ∃(o:Obj) (its:Array Value) (n:Nat),K.lookup a=some o/\o.cls=.type "list"/\o.dict=none/\o.data=.seq its n/\its.size<=sizeLine/\Vals xs its.toList
def RoL.sq{K:Frag}(h:RoL K H a xs):SqL K H a xs:=by
 rcases h with⟨o,h⟩|h
 .exact .inl (.inr ⟨o,h⟩)
 .exact .inr h
def RoL.grow{K:Frag}(g:Grow H H')(h:RoL K H a xs):RoL K H' a xs:=by
 rcases h with⟨o,h⟩|h
 .exact .inl ⟨o,g.frz _ _ _ h⟩
 .exact .inr h
def Bu(n:Nat):Prop:=n<=sizeLine
def D5(n:Nat):Prop:=n<sizeLine
def Ei(i j:Int):Prop:=(-(2^64)<i/\i<2^64)∨(-(2^64)<j/\j<2^64)
def IM(i j:Int):Prop:=0<=j/\j<=1000000/\i.natAbs<2^64
def N2(j:Int):Prop:=0<j/\j<1073741824
def Ej(j:Int):Prop:=0<j
def GW(j:Int):Prop:=-(2^62)<=j/\j<2^62
def ie(i j:Int):Prop:=(-(2^62)<=i/\i<2^62)/\-(2^62)<=j/\j<2^62
def Fm(j:Int):Prop:=j<2^24/\-(2^62)<=j
def X6(i j:Int):Prop:=(-(2^62)<=i/\i<2^62)/\(-(2^62)<=j/\j<2^62)/\(j-i).toNat<=2^24
def AL{n:Nat}(h:n<=1000000):Bu n:=j6 h (by rw[jt];decide)
def Ax{n:Nat}(h:n<1000000):D5 n:=jk h (by rw[jt];decide)
def Dg{i j:Int}(a:-1000000000000<=i)(b:i<=1000000000000):Ei i j:=.inl ⟨by omega,by omega⟩
def IP{i j:Int}(a:-1000000000000<=j)(b:j<=1000000000000):Ei i j:=.inr ⟨by omega,by omega⟩
def CM{j:Int}(a:-1000000000000<=j)(b:j<=1000000000000):GW j:=⟨by omega,by omega⟩
def FK{j:Int}(a:-1000000000000<=j)(b:j<=1000000):Fm j:=⟨by omega,by omega⟩
section
variable(K:Frag)
mutual
def RI(H:Hp):I->V->Prop
 |.non,v=>v=.non
 |.bl b,v=>v=.bl b
 |.int i,v=>v=.int i
 |.str x,v=>v=.str x
 |.tup ds,v=>∃a xs,v=.ref a/\SqT K H a xs/\RIs H ds xs
def RIs(H:Hp):List I->List V->Prop
 |[],xs=>xs=[]
 |d::ds,xs=>∃x r,xs=x::r/\RI H d x/\RIs H ds r
end
mutual
def RD(ρ:111)(H:Hp):D->V->Prop
 |.im i,v=>RI K H i v
 |.mu n,v=>∃a,ρ[n]?=some a/\v=.ref a
 |.tm ds,v=>∃a xs,v=.ref a/\SqT K H a xs/\RDs ρ H ds xs
 |.ro ns,v=>∃a,v=.ref a/\RoL K H a 157
 |.op nm fs ds,v=>∃a xs,v=.ref a/\ExR K nm fs H a xs/\RDs ρ H ds xs
 |.fv k ds,v=>∃a xs,v=.ref a/\FvR k H a xs/\RDs ρ H ds xs
def RDs(ρ:111)(H:Hp):List D->List V->Prop
 |[],xs=>xs=[]
 |d::ds,xs=>∃x r,xs=x::r/\RD ρ H d x/\RDs ρ H ds r
end
def RKs(ρ:111)(H:Hp):List (Key×D)->List (Key×V)->Prop
 |[],xs=>xs=[]
 |d::ds,xs=>∃x r,xs=x::r/\x.1=d.1/\RD K ρ H d.2 x.2/\RKs ρ H ds r
def RC(ρ:111)(H:Hp):MO->HO->Prop
 |.lst ds,o=>∃xs,o=.lst xs/\RDs K ρ H ds xs
 |.dic kvs,o=>∃kv,o=.dK kv/\RKs K ρ H kvs kv
noncomputable def Mq:List Value->List (Addr×Str×Pos)
 |.ref P::.str q _::.int l _::.int c _::r=>(P,q,⟨l.toNat,c.toNat,0,0⟩)::Mq r
 |_=>[]
noncomputable def eY(o:Obj):List (Addr×Str×Pos):=match o.cls,o.data with
 |.str _ _,.fields vs=>Mq vs.toList
 |_,_=>[]
noncomputable def Co(K:Frag):List (Addr×Str×Pos):=match K.getLast? with
 |some p=>eY p.2
 |none=>[]
def TabsOk(K:Frag)(H:Hp):Prop:=∀x∈Co K,∃ps,H x.1=some (.tbl ps)/\EH H x.2.1 x.2.2 ps
structure RH(ρ:111)(H:Hp)(hd:Hd):Prop where
 len:ρ.length=150
 nd:ρ.Nodup
 tabs:TabsOk K H
 ob:∀(n:Nat) (o:MO) (a:Addr),hd[n]?=some o->ρ[n]?=some a->∃ho,H a=some ho/\RC K ρ H o ho
structure RL(ρ:111)(H:Hp)(ls:Ls)(σ:St):Prop where
 len:ls.length=σ.length
 ob:∀(i:Nat) (d:D),ls[i]?=some (some d)->∃v,σ[i]?=some (some v)/\RD K ρ H d v
end
structure Ext(ρ:111)(H:Hp)(ρ':111)(H':Hp):Prop where
 pre:∃r,ρ'=ρ++r/\∀b∈r,H b=none
 keep:∀b o,H b=some o->b∉ρ->(∀ps,o≠.tbl ps)->H' b=some o
 tab:∀b ps,H b=some (.tbl ps)->∃ps',H' b=some (.tbl ps')
def nt{o:HO}(h:match o with|.tbl _=>False|_=>True:=by trivial):∀ps,o≠.tbl ps:=λps e=>by subst e;exact h
theorem TabsOk.upd{K:Frag}(t:TabsOk K H)(h1:∀ps,H a≠some (.tbl ps))(h2:∀φ,H a≠some (.ext φ)):TabsOk K (upd H a ho):=λx hx=>by
 obtain⟨ps,e,g⟩:=t x hx;have ne:x.1≠a:=λz=>h1 ps (by rw[<- z];exact e);refine⟨ps,by rw[upd_ne ne];exact e,?_⟩;rcases g with g|⟨c,g1,g2⟩
 .exact .inl g
 .have nc:c≠a:=λz=>h2 _ (by rw[<- z];exact g2);exact .inr ⟨c,g1,by rw[upd_ne nc];exact g2⟩
section
variable{K:Frag}{hd':Hd}
mutual
theorem RI.grow(g:Grow H H'):∀{i:I} {v:V},RI K H i v->RI K H' i v
 |.non,v,h=>by simpa only[RI]using h
 |.bl b,v,h=>by simpa only[RI]using h
 |.int b,v,h=>by simpa only[RI]using h
 |.str b,v,h=>by simpa only[RI]using h
 |.tup ds,v,h=>by
  simp only[RI]at h ⊢;obtain⟨a,xs,e,q,r⟩:=h;exact⟨a,xs,e,g.sq q,RIs.grow g r⟩
theorem RIs.grow(g:Grow H H'):∀{i:List I} {v:155},RIs K H i v->RIs K H' i v
 |[],v,h=>by simpa only[RIs]using h
 |d::ds,v,h=>by
  simp only[RIs]at h ⊢;obtain⟨x,r,e,q,z⟩:=h;exact⟨x,r,e,q.grow g,RIs.grow g z⟩
end
def RH.mut(h:RH K ρ H hd)(m:a∈ρ):(∃xs,H a=some 158)∨∃kv,H a=some (.dK kv):=by
 obtain⟨n,e⟩:=mem_iff_getElem?.mp m;have hn:n<hd.length:=by rw[<- h.len];exact(75 e).1
 obtain⟨ho,e1,e2⟩:=h.ob n hd[n] a (by simp[hn]) e;cases q:hd[n]with
 |lst ds=>rw[q]at e2;obtain⟨xs,rfl,_⟩:=e2;exact .inl ⟨xs,e1⟩
 |dic ds=>rw[q]at e2;obtain⟨xs,rfl,_⟩:=e2;exact .inr ⟨xs,e1⟩
def RH.stb_out(h:RH K ρ H hd)(s:Stb o)(e:H a=some o):a∉ρ:=λm=>by
 rcases h.mut m with⟨y,z⟩|⟨y,z⟩<;>(rw[e]at z;cases z;exact s)
def NM(s:Stb o):∀ps,o≠.tbl ps:=λps e=>by subst e;exact s
def Ext.grow(e:Ext ρ H ρ' H')(h:RH K ρ H hd):Grow H H':=⟨λb o s q=>e.keep b _ q (h.stb_out s q) (NM s)⟩
def Ext.refl:Ext ρ H ρ H:=⟨⟨[],by simp,by simp⟩,λ_ _ h _ _=>h,λ_ ps h=>⟨ps,h⟩⟩
def Ext.trans(e:Ext ρ H ρ1 H1)(h0:RH K ρ1 H1 hd1)(e2:Ext ρ1 H1 ρ2 H2):Ext ρ H ρ2 H2:=by
 obtain⟨r1,rfl,f1⟩:=e.pre;obtain⟨r2,rfl,f2⟩:=e2.pre;refine⟨⟨r1++r2,by simp,λb m=>?_⟩,λb o q n t=>?_,λb ps q=>?_⟩
 .rcases mem_append.mp m with m|m
  .exact f1 b m
  .have z:=f2 b m;cases q:H b with
   |none=>rfl
   |some o=>
    by_cases n:b∈ρ
    .rcases h0.mut (jv r1 n)with⟨y,w⟩|⟨y,w⟩<;>(rw[z]at w;cases w)
    .by_cases t:∃ps,o=.tbl ps
     .obtain⟨ps,rfl⟩:=t;obtain⟨ps',this⟩:=e.tab b ps q;rw[z]at this;cases this
     .have:=e.keep b o q n λps y=>t ⟨ps,y⟩;rw[z]at this;cases this
 .refine e2.keep b o (e.keep b o q n t) (λm=>?_) t;rcases mem_append.mp m with m|m
  .exact n m
  .have:=f1 b m;rw[q]at this;cases this
 .obtain⟨ps',q'⟩:=e.tab b ps q;exact e2.tab b ps' q'
mutual
theorem RD.mono(g:Grow H H')(r:111):∀{d:D} {v:V},RD K ρ H d v->RD K (ρ++r) H' d v
 |.im i,v,h=>by simp only[RD]at h ⊢;exact h.grow g
 |.mu n,v,h=>by
  simp only[RD]at h ⊢;obtain⟨a,e,q⟩:=h;exact⟨a,by rw[List.getElem?_append_left (List.getElem?_eq_some_iff.mp e).1];exact e,q⟩
 |.tm ds,v,h=>by
  simp only[RD]at h ⊢;obtain⟨a,xs,e,q,z⟩:=h;exact⟨a,xs,e,g.sq q,RDs.mono g r z⟩
 |.ro ns,v,h=>by
  simp only[RD]at h ⊢;obtain⟨a,e,q⟩:=h;exact⟨a,e,q.grow g⟩
 |.op nm fs ds,v,h=>by
  simp only[RD]at h ⊢;obtain⟨a,xs,e,q,z⟩:=h;exact⟨a,xs,e,q.grow g,RDs.mono g r z⟩
 |.fv k ds,v,h=>by
  simp only[RD]at h ⊢;obtain⟨a,xs,e,q,z⟩:=h;exact⟨a,xs,e,q.grow g,RDs.mono g r z⟩
theorem RDs.mono(g:Grow H H')(r:111):∀{d:137} {v:155},RDs K ρ H d v->RDs K (ρ++r) H' d v
 |[],v,h=>by simpa only[RDs]using h
 |d::ds,v,h=>by
  simp only[RDs]at h ⊢;obtain⟨x,r',e,q,z⟩:=h;exact⟨x,r',e,q.mono g r,RDs.mono g r z⟩
end
theorem RKs.mono(g:Grow H H')(r:111):∀{d:List (Key×D)} {v:List (Key×V)},RKs K ρ H d v->RKs K (ρ++r) H' d v
 |[],v,h=>by simpa only[RKs]using h
 |d::ds,v,h=>by
  simp only[RKs]at h ⊢;obtain⟨x,r',e,q1,q,z⟩:=h;exact⟨x,r',e,q1,q.mono g r,RKs.mono g r z⟩
theorem RC.mono(g:Grow H H')(r:111)(h:RC K ρ H o ho):RC K (ρ++r) H' o ho:=by
 cases o with
 |lst ds=>obtain⟨xs,e,q⟩:=h;exact⟨xs,e,q.mono g r⟩
 |dic ds=>obtain⟨xs,e,q⟩:=h;exact⟨xs,e,q.mono g r⟩
def RD.ext(h:RH K ρ H hd)(e:Ext ρ H ρ' H')(q:RD K ρ H d v):RD K ρ' H' d v:=by
 obtain⟨r,rfl,_⟩:=e.pre;exact q.mono (e.grow h) r
def RDs.ext(h:RH K ρ H hd)(e:Ext ρ H ρ' H')(q:RDs K ρ H d v):RDs K ρ' H' d v:=by
 obtain⟨r,rfl,_⟩:=e.pre;exact q.mono (e.grow h) r
theorem RL.ext(h:RH K ρ H hd)(e:Ext ρ H ρ' H')(q:RL K ρ H ls σ):RL K ρ' H' ls σ:=
 ⟨q.len,λi d z=>let ⟨v,a,b⟩:=q.ob i d z;⟨v,a,b.ext h e⟩⟩
theorem RDs.len:∀{ds:137} {xs:155},RDs K ρ H ds xs->96=97
 |[],xs,h=>by simp only[RDs]at h;rw[h];rfl
 |d::ds,xs,h=>by
  simp only[RDs]at h;obtain⟨x,r,rfl,_,z⟩:=h;simp[RDs.len z]
theorem RDs.get:∀{ds:137} {xs:155} {i:Nat} {d:D},RDs K ρ H ds xs->ds[i]?=some d->∃x,xs[i]?=some x/\RD K ρ H d x
 |[],xs,i,d,h,e=>by simp at e
 |d::ds,xs,0,e,h,q=>by
  simp only[RDs]at h;obtain⟨x,r,rfl,z,_⟩:=h;simp at q;subst q;exact⟨x,rfl,z⟩
 |d::ds,xs,i+1,e,h,q=>by
  simp only[RDs]at h;obtain⟨x,r,rfl,_,z⟩:=h;obtain⟨y,a,b⟩:=RDs.get (i:=i) z (by simpa using q);exact⟨y,by simpa using a,b⟩
def RDs.nil:RDs K ρ H [] []:=by simp[RDs]
def RDs.cons(h:RD K ρ H d v)(t:RDs K ρ H ds vs):RDs K ρ H (d::ds) (v::vs):=by
 simp only[RDs];exact⟨v,vs,rfl,h,t⟩
theorem RDs.app:∀{ds es:137} {xs ys:155},RDs K ρ H ds xs->RDs K ρ H es ys->RDs K ρ H (ds++es) (xs++ys)
 |[],es,xs,ys,h,t=>by simp only[RDs]at h;subst h;simpa using t
 |d::ds,es,xs,ys,h,t=>by
  simp only[RDs]at h;obtain⟨x,r,rfl,z,q⟩:=h;simp only[jM];exact .cons z (q.app t)
theorem RDs.set:∀{ds:137} {xs:155} {d:D} {v:V} (i:Nat),RDs K ρ H ds xs->RD K ρ H d v->RDs K ρ H (ds.set i d) (xs.set i v)
 |[],xs,d,v,i,h,t=>by simp only[RDs]at h;subst h;simp[RDs]
 |d::ds,xs,e,v,0,h,t=>by
  simp only[RDs]at h;obtain⟨x,r,rfl,z,q⟩:=h;simpa using RDs.cons t q
 |d::ds,xs,e,v,i+1,h,t=>by
  simp only[RDs]at h;obtain⟨x,r,rfl,z,q⟩:=h;simpa using RDs.cons z (q.set i t)
theorem RDs.drop:∀{ds:137} {xs:155} (n:Nat),RDs K ρ H ds xs->RDs K ρ H (ds.drop n) (xs.drop n)
 |ds,xs,0,h=>by simpa using h
 |[],xs,n+1,h=>by simp only[RDs]at h;subst h;simp[RDs]
 |d::ds,xs,n+1,h=>by
  simp only[RDs]at h;obtain⟨x,r,rfl,z,q⟩:=h;simpa using q.drop n
theorem RDs.take:∀{ds:137} {xs:155} (n:Nat),RDs K ρ H ds xs->RDs K ρ H (ds.take n) (xs.take n)
 |ds,xs,0,h=>by simp[RDs]
 |[],xs,n+1,h=>by simp only[RDs]at h;subst h;simp[RDs]
 |d::ds,xs,n+1,h=>by
  simp only[RDs]at h;obtain⟨x,r,rfl,z,q⟩:=h;simpa using RDs.cons z (q.take n)
theorem RIs.ds:∀{is:List I} {xs:155},RIs K H is xs->RDs K ρ H (is.map D.im) xs
 |[],xs,h=>by simpa only[RIs,RDs,jr]using h
 |i::is,xs,h=>by
  simp only[RIs]at h;obtain⟨x,r,rfl,z,q⟩:=h;exact .cons (by simpa only[RD]using z) q.ds
theorem RDs.is:∀{is:List I} {xs:155},RDs K ρ H (is.map D.im) xs->RIs K H is xs
 |[],xs,h=>by simpa only[RIs,RDs,jr]using h
 |i::is,xs,h=>by
  simp only[j3,RDs]at h;obtain⟨x,r,rfl,z,q⟩:=h;simp only[RIs];exact⟨x,r,rfl,by simpa only[RD]using z,q.is⟩
def RH.put(h:RH K ρ H hd){n:Nat}(hn:ρ[n]?=some a)(c:RC K ρ H o ho):RH K ρ (upd H a ho) (hd.set n o)/\Ext ρ H ρ (upd H a ho):=by
 have ha:=h.mut (jf hn);have n1:∀ps,H a≠some (.tbl ps):=λps e=>by rcases ha with⟨y,z⟩|⟨y,z⟩<;>(rw[e]at z;cases z)
 have n2:∀φ,H a≠some (.ext φ):=λps e=>by rcases ha with⟨y,z⟩|⟨y,z⟩<;>(rw[e]at z;cases z)
 have ex:Ext ρ H ρ (upd H a ho):=⟨⟨[],by simp,by simp⟩,λb o q m _=>by
  have:b≠a:=λz=>m (by rw[z];exact jf hn);rw[upd_ne this];exact q,λb ps q=>⟨ps,(upd_ne (show b≠a from λz=>n1 ps (by rw[<- z];exact q))).trans q⟩⟩
 have gr:=ex.grow h;refine⟨⟨by simp[h.len],h.nd,h.tabs.upd n1 n2,λm o' b e1 e2=>?_⟩,ex⟩;have hm:m<hd.length:=by rw[<- h.len];exact(75 e2).1
 by_cases hmn:m=n
 .subst hmn;rw[hn]at e2;cases e2;rw[List.getElem?_set_self hm]at e1;cases e1;exact⟨ho,AH,by simpa using c.mono gr []⟩
 .rw[List.getElem?_set_ne (λz=>hmn z.symm)]at e1;obtain⟨ho',q1,q2⟩:=h.ob m o' b e1 e2;have:b≠a:=λz=>by
   subst z;have l1:=(75 e2).1;have l2:=(75 hn).1;exact hmn ((List.getElem?_inj l1 h.nd).mp (e2.trans hn.symm))
  exact⟨ho',by rw[upd_ne this];exact q1,by simpa using q2.mono gr []⟩
theorem RH.lst(h:RH K ρ H hd){n:Nat}(hn:ρ[n]?=some a)(e:hd[n]?=some (.lst ds)):∃xs,H a=some 158/\RDs K ρ H ds xs:=by
 obtain⟨ho,q,xs,rfl,r⟩:=h.ob n _ a e hn;exact⟨xs,q,r⟩
theorem RH.dic(h:RH K ρ H hd){n:Nat}(hn:ρ[n]?=some a)(e:hd[n]?=some (.dic ds)):∃xs,H a=some (.dK xs)/\RKs K ρ H ds xs:=by
 obtain⟨ho,q,xs,rfl,r⟩:=h.ob n _ a e hn;exact⟨xs,q,r⟩
def RH.hid(h:RH K ρ H hd)(ha:H a=none):RH K ρ (upd H a ho) hd/\Ext ρ H ρ (upd H a ho):=by
 have out:a∉ρ:=λm=>by rcases h.mut m with⟨y,z⟩|⟨y,z⟩<;>(rw[ha]at z;cases z)
 have ex:Ext ρ H ρ (upd H a ho):=⟨⟨[],by simp,by simp⟩,λb o q n _=>by rw[upd_ne (AM q ha)];exact q,λb ps q=>⟨ps,by rw[upd_ne (AM q ha)];exact q⟩⟩
 have gr:=ex.grow h;refine⟨⟨h.len,h.nd,h.tabs.upd (by simp[ha]) (by simp[ha]),λm o' b e1 e2=>?_⟩,ex⟩;obtain⟨ho',q1,q2⟩:=h.ob m o' b e1 e2;exact⟨ho',by rw[upd_ne (AM q1 ha)];exact q1,by simpa using q2.mono gr []⟩
end
end L2
namespace L2
open PySem PySem.Spec PyProof.Rows
noncomputable abbrev ME:=Ls->Hd->Option 161
noncomputable abbrev MT:=Ls->Hd->Option (Bool×Hd)
noncomputable abbrev MA:=Ls->Hd->Option (List D×Hd)
inductive Fl where
 |nx (ls:Ls)|rt (d:D)|bk (ls:Ls)|ct (ls:Ls)
noncomputable abbrev MS:=Ls->Hd->Option (Fl×Hd)
section
variable(K:Frag)
def RE(t:TE)(m:ME):Prop:=∀(ρ:111) (σ:St) (H:Hp) (hd:Hd) (ls:Ls) (Q:VK) (d:D) (hd':Hd),RH K ρ H hd->RL K ρ H ls σ->m ls hd=some (d,hd') ->
 (∀ρ' H' v,Ext ρ H ρ' H'->RH K ρ' H' hd'->RD K ρ' H' d v->Q v H')->t σ H Q
def RT(t:TT)(m:MT):Prop:=∀(ρ:111) (σ:St) (H:Hp) (hd:Hd) (ls:Ls) (Q:Bool->Hp->Prop) (d:Bool) (hd':Hd),RH K ρ H hd->RL K ρ H ls σ->m ls hd=some (d,hd') ->
 (∀ρ' H',Ext ρ H ρ' H'->RH K ρ' H' hd'->Q d H')->t σ H Q
def RA(t:TA)(m:MA):Prop:=∀(ρ:111) (σ:St) (H:Hp) (hd:Hd) (ls:Ls) (Q:List V->Hp->Prop) (d:137) (hd':Hd),RH K ρ H hd->RL K ρ H ls σ->m ls hd=some (d,hd') ->
 (∀ρ' H' v,Ext ρ H ρ' H'->RH K ρ' H' hd'->RDs K ρ' H' d v->Q v H')->t σ H Q
def RN(t:TE)(m:MA):Prop:=∀(ρ:111) (σ:St) (H:Hp) (hd:Hd) (ls:Ls) (Q:VK) (d:137) (hd':Hd),RH K ρ H hd->RL K ρ H ls σ->m ls hd=some (d,hd') ->
 (∀ρ' H' a xs,Ext ρ H ρ' H'->RH K ρ' H' hd'->H a=none->a∉ρ'->H' a=some 158->RDs K ρ' H' d xs->Q (.ref a) H')->t σ H Q
def gG(E:Ends)(ρ:111)(H:Hp):Fl->Prop
 |.nx ls=>∀σ,RL K ρ H ls σ->E.nx σ H
 |.bk ls=>∀σ,RL K ρ H ls σ->E.bk σ H
 |.ct ls=>∀σ,RL K ρ H ls σ->E.ct σ H
 |.rt d=>∀v,RD K ρ H d v->E.rt v H
def RS(t:TS)(m:MS):Prop:=∀(ρ:111) (σ:St) (H:Hp) (hd:Hd) (ls:Ls) (E:Ends) (f:Fl) (hd':Hd),RH K ρ H hd->RL K ρ H ls σ->m ls hd=some (f,hd') ->
 (∀ρ' H',Ext ρ H ρ' H'->RH K ρ' H' hd'->gG K E ρ' H' f)->t E σ H
def RB(r:R2)(f:D->D->Hd->Option 161):Prop:=∀(ρ:111) (H:Hp) (hd:Hd) (d e:D) (v u:V) (Q:VK) (z:D) (hd':Hd),RH K ρ H hd->RD K ρ H d v->RD K ρ H e u->f d e hd=some (z,hd') ->
 (∀ρ' H' w,Ext ρ H ρ' H'->RH K ρ' H' hd'->RD K ρ' H' z w->Q w H')->r v u H Q
def RF(r:List V->Hp->VK->Prop)(f:118):Prop:=∀(ρ:111) (H:Hp) (hd:Hd) (ds:137) (vs:155) (Q:VK) (z:D) (hd':Hd),RH K ρ H hd->RDs K ρ H ds vs->f ds hd=some (z,hd') ->
 (∀ρ' H' w,Ext ρ H ρ' H'->RH K ρ' H' hd'->RD K ρ' H' z w->Q w H')->r vs H Q
def RG(tp:Bool)(r:List V->Hp->VK->Prop)(g:List D->Option D):Prop:=∀(ρ:111) (H:Hp) (hd:Hd) (a:Addr) (xs:155) (ds:137) (Q:VK) (z:D),RH K ρ H hd->(SqL K H a xs∨(tp=true/\SqT K H a xs))->RDs K ρ H ds xs->g ds=some z ->
 (∀H' w,Ext ρ H ρ H'->RH K ρ H' hd->RD K ρ H' z w->Q w H')->r [.ref a] H Q
end
structure QE(K:Frag)(X:Cx)(e:Expr)(t:TE)(m:ME):Prop where
 p:PE X e t
 r:RE K t m
structure QT(K:Frag)(X:Cx)(e:Expr)(t:TT)(m:MT):Prop where
 p:PT X e t
 r:RT K t m
structure QW(K:Frag)(X:Cx)(e:Expr)(t:TT)(m:MT):Prop where
 p:PW X e t
 r:RT K t m
structure QA(K:Frag)(X:Cx)(e:List Expr)(t:TA)(m:MA):Prop where
 p:PA X e t
 r:RA K t m
structure QN(K:Frag)(X:Cx)(e:Expr)(t:TE)(m:MA):Prop where
 p:PE X e t
 r:RN K t m
structure QS(K:Frag)(X:Cx)(e:Stmt)(t:TS)(m:MS):Prop where
 p:PS X e t
 r:RS K t m
structure QSs(K:Frag)(X:Cx)(e:List Stmt)(t:TS)(m:MS):Prop where
 p:PSs X e t
 r:RS K t m
noncomputable def Ai:D->Option (List D)
 |.im (.tup is)=>some (is.map .im)
 |.tm ds=>some ds
 |_=>none
noncomputable def Ad(hd:Hd):D->Option (List D)
 |.mu n=>match hd[n]? with
  |some (.lst ds)=>some ds
  |_=>none
 |.ro ns=>some (ns.map λn=>.im (.int n))
 |_=>none
noncomputable def Ao(hd:Hd)(d:D):Option (List D):=match Ai d with
 |some ds=>some ds
 |none=>Ad hd d
noncomputable def B9:List D->Option (List I)
 |[]=>some []
 |.im i::r=>(B9 r).map (i::·)
 |_::_=>none
noncomputable def B7(ds:137):D:=match B9 ds with
 |some is=>.im (.tup is)
 |none=>.tm ds
noncomputable def Av:List D->Option (List Int)
 |[]=>some []
 |.im (.int i)::r=>(Av r).map (i::·)
 |_::_=>none
noncomputable def CS:List D->Option (List Bool)
 |[]=>some []
 |.im (.bl i)::r=>(CS r).map (i::·)
 |_::_=>none
section
variable{K:Frag}
theorem Gy:∀{ds:137} {is:List I},B9 ds=some is->ds=is.map .im
 |[],is,h=>by simp[B9]at h;subst h;rfl
 |.im i::r,is,h=>by
  simp only[B9,Option.map_eq_some_iff]at h;obtain⟨js,e,rfl⟩:=h;simp[Gy e]
 |.mu _::_,is,h=>by simp[B9]at h
 |.tm _::_,is,h=>by simp[B9]at h
 |.ro _::_,is,h=>by simp[B9]at h
 |.op _ _ _::_,is,h=>by simp[B9]at h
 |.fv _ _::_,is,h=>by simp[B9]at h
theorem Bt:∀{ds:137} {is:88},Av ds=some is->ds=is.map λi=>.im 135
 |[],is,h=>by simp[Av]at h;subst h;rfl
 |.im (.int i)::r,is,h=>by
  simp only[Av,Option.map_eq_some_iff]at h;obtain⟨js,e,rfl⟩:=h;simp[Bt e]
 |.im (.bl _)::_,is,h=>by simp[Av]at h
 |.im (.str _)::_,is,h=>by simp[Av]at h
 |.im .non::_,is,h=>by simp[Av]at h
 |.im (.tup _)::_,is,h=>by simp[Av]at h
 |.mu _::_,is,h=>by simp[Av]at h
 |.tm _::_,is,h=>by simp[Av]at h
 |.ro _::_,is,h=>by simp[Av]at h
 |.op _ _ _::_,is,h=>by simp[Av]at h
 |.fv _ _::_,is,h=>by simp[Av]at h
theorem Lf:∀{ds:137} {is:List Bool},CS ds=some is->ds=is.map λi=>.im (.bl i)
 |[],is,h=>by simp[CS]at h;subst h;rfl
 |.im (.bl i)::r,is,h=>by
  simp only[CS,Option.map_eq_some_iff]at h;obtain⟨js,e,rfl⟩:=h;simp[Lf e]
 |.im (.int _)::_,is,h=>by simp[CS]at h
 |.im (.str _)::_,is,h=>by simp[CS]at h
 |.im .non::_,is,h=>by simp[CS]at h
 |.im (.tup _)::_,is,h=>by simp[CS]at h
 |.mu _::_,is,h=>by simp[CS]at h
 |.tm _::_,is,h=>by simp[CS]at h
 |.ro _::_,is,h=>by simp[CS]at h
 |.op _ _ _::_,is,h=>by simp[CS]at h
 |.fv _ _::_,is,h=>by simp[CS]at h
@[simp] theorem allIm_map(is:List I):B9 (is.map .im)=some is:=by induction is<;>simp_all [B9]
@[simp] theorem Hu(is:88):Av (is.map λi=>.im 135)=some is:=by induction is<;>simp_all [Av]
@[simp] theorem Jf(is:List Bool):CS (is.map λi=>.im (.bl i))=some is:=by induction is<;>simp_all [CS]
theorem E4:∀{ns:88} {xs:155},RDs K ρ H (ns.map λi=>.im 135) xs->xs=ns.map V.int
 |[],xs,h=>by simpa [RDs]using h
 |n::ns,xs,h=>by
  simp only[j3,RDs,RD,RI]at h;obtain⟨x,r,rfl,rfl,z⟩:=h;rw[E4 z];rfl
theorem E8:∀{ns:88},RDs K ρ H (ns.map λi=>.im 135) 157
 |[]=>by simp[RDs]
 |n::ns=>by simp only[j3];exact .cons 133 E8
theorem Nm:∀{ns:List Bool} {xs:155},RDs K ρ H (ns.map λi=>.im (.bl i)) xs->xs=ns.map V.bl
 |[],xs,h=>by simpa [RDs]using h
 |n::ns,xs,h=>by
  simp only[j3,RDs,RD,RI]at h;obtain⟨x,r,rfl,rfl,z⟩:=h;rw[Nm z];rfl
theorem RD.tup(h:RD K ρ H d v)(e:Ai d=some ds):∃a xs,v=.ref a/\SqT K H a xs/\RDs K ρ H ds xs:=by
 cases d with
 |im i=>
  cases i with
  |tup is=>
   simp only[Ai,Option.some.injEq]at e;subst e;simp only[RD,RI]at h;obtain⟨a,xs,rfl,q,r⟩:=h;exact⟨a,xs,rfl,q,r.ds⟩
  |_=>simp[Ai]at e
 |tm es=>
  simp only[Ai,Option.some.injEq]at e;subst e;simpa only[RD]using h
 |_=>simp[Ai]at e
theorem RD.lst(hR:RH K ρ H hd)(h:RD K ρ H d v)(e:Ad hd d=some ds):∃a xs,v=.ref a/\SqL K H a xs/\RDs K ρ H ds xs:=by
 cases d with
 |mu n=>
  simp only[Ad]at e;simp only[RD]at h;obtain⟨a,hn,rfl⟩:=h;split at e
  .next q=>
   cases e;obtain⟨xs,e1,e2⟩:=hR.lst hn q;exact⟨a,xs,rfl,SqL.of e1,e2⟩
  .cases e
 |ro ns=>
  simp only[Ad,Option.some.injEq]at e;subst e;simp only[RD]at h;obtain⟨a,rfl,q⟩:=h;exact⟨a,_,rfl,q.sq,E8⟩
 |_=>simp[Ad]at e
def RD.seq(hR:RH K ρ H hd)(h:RD K ρ H d v)(e:Ao hd d=some ds):∃a xs,v=.ref a/\(SqL K H a xs∨SqT K H a xs)/\RDs K ρ H ds xs:=by
 unfold Ao at e;split at e
 .next q=>
  cases e;obtain⟨a,xs,e1,e2,e3⟩:=h.tup q;exact⟨a,xs,e1,.inr e2,e3⟩
 .obtain⟨a,xs,e1,e2,e3⟩:=h.lst hR e;exact⟨a,xs,e1,.inl e2,e3⟩
def DX(q:SqT K H a xs)(r:RDs K ρ H ds xs):RD K ρ H (B7 ds) (.ref a):=by
 unfold B7;split
 .next e=>
  rw[Gy e]at r;simp only[RD,RI];exact⟨a,xs,rfl,q,r.is⟩
 .simp only[RD];exact⟨a,xs,rfl,q,r⟩
noncomputable def A0(i:Nat):ME:=λls hd=>match ls[i]? with
 |some (some d)=>some (d,hd)
 |_=>none
def bD{i:Nat}:RE K (NF i) (A0 i):=by
 and_intros;unfold A0 at hm;split at hm
 .next e=>
  cases hm;obtain⟨v,e1,e2⟩:=hL.ob i _ e;exact⟨v,e1,hQ ρ H v .refl hR e2⟩
 .cases hm
noncomputable def mC(i:I):ME:=λ_ hd=>some (.im i,hd)
def Qk(h:∀H,RI K H i v):RE K (tC v) (mC i):=by
 and_intros;cases hm;exact hQ ρ H v .refl hR (by simpa only[RD]using h H)
noncomputable def mOp(f:D->D->Hd->Option 161)(ma mb:ME):ME:=λls hd=>(186).bind λp=>(mb ls p.2).bind λq=>f p.1 q.1 q.2
def Mu{f:D->D->Hd->Option 161}(hr:RB K r f)(ha:RE K ta ma)(hb:RE K tb mb):RE K (tOp r ta tb) (mOp f ma mb):=by
 and_intros;obtain⟨⟨d1,h1⟩,e1,hm⟩:=ij hm;obtain⟨⟨d2,h2⟩,e2,hm⟩:=ij hm;refine ha ρ σ H hd ls _ d1 h1 hR hL e1 λρ1 H1 v1 x1 R1 r1=>?_;refine hb ρ1 σ H1 h1 ls _ d2 h2 R1 138 e2 λρ2 H2 v2 x2 R2 r2=>?_;exact hr ρ2 H2 h2 d1 d2 v1 v2 Q d hd' R2 (r1.ext R1 x2) r2 hm λρ' H' w x3 R3 r3=>hQ ρ' H' w ((89).trans R2 x3) R3 r3
noncomputable def DB(ta tb:MT):MT:=λls hd=>(ta ls hd).bind λp=>if p.1=true then tb ls p.2 else some (false,p.2)
noncomputable def mOr(ta tb:MT):MT:=λls hd=>(ta ls hd).bind λp=>if p.1=true then some (true,p.2)else tb ls p.2
noncomputable def Hk(ta:MT):MT:=λls hd=>(ta ls hd).bind λp=>some (!p.1,p.2)
def af(ha:RT K ta ma)(hb:RT K tb mb):RT K (Uo ta tb) (DB ma mb):=by
 and_intros;obtain⟨⟨d1,h1⟩,e1,hm⟩:=ij hm;refine ha ρ σ H hd ls _ d1 h1 hR hL e1 λρ1 H1 x1 R1=>?_;cases d1 with
 |true=>
  rw[il rfl]at hm ⊢;exact hb ρ1 σ H1 h1 ls Q d hd' R1 138 hm λρ2 H2 x2 R2=>hQ ρ2 H2 89 R2
 |false=>
  rw[ip Bool.false_ne_true]at hm ⊢;cases hm;exact hQ ρ1 H1 x1 R1
def f7(ha:RT K ta ma)(hb:RT K tb mb):RT K (tOr ta tb) (mOr ma mb):=by
 and_intros;obtain⟨⟨d1,h1⟩,e1,hm⟩:=ij hm;refine ha ρ σ H hd ls _ d1 h1 hR hL e1 λρ1 H1 x1 R1=>?_;cases d1 with
 |true=>
  rw[il rfl]at hm ⊢;cases hm;exact hQ ρ1 H1 x1 R1
 |false=>
  rw[ip Bool.false_ne_true]at hm ⊢;exact hb ρ1 σ H1 h1 ls Q d hd' R1 138 hm λρ2 H2 x2 R2=>hQ ρ2 H2 89 R2
def ae(ha:RT K ta ma):RT K (Ue ta) (Hk ma):=by
 and_intros;obtain⟨⟨d1,h1⟩,e1,hm⟩:=ij hm;cases hm;exact ha ρ σ H hd ls _ d1 h1 hR hL e1 λρ1 H1 x1 R1=>hQ ρ1 H1 x1 R1
open Classical in
noncomputable def CI(hd:Hd):D->Option Bool
 |.im .non=>some false
 |.im (.bl b)=>some b
 |.im (.int i)=>some (i != 0)
 |.im (.str x)=>if Bu x.length then some ((x.length:Int) != 0)else none
 |.im (.tup is)=>some (!is.isEmpty)
 |.tm is=>some (!is.isEmpty)
 |.ro ns=>some (!ns.isEmpty)
 |.op _ _ _=>none
 |.fv _ _=>none
 |.mu n=>match hd[n]? with
  |some (.lst ds)=>some (!ds.isEmpty)
  |some (.dic ds)=>some (!ds.isEmpty)
  |none=>none
def DG{α β:Type}{xs:List α}{ys:List β}(h:96=ys.length):xs.isEmpty=ys.isEmpty:=by
 cases xs<;>cases ys<;>simp_all
theorem RKs.len:∀{ds:List (Key×D)} {xs:List (Key×V)},RKs K ρ H ds xs->96=97
 |[],xs,h=>by simp only[RKs]at h;rw[h];rfl
 |d::ds,xs,h=>by
  simp only[RKs]at h;obtain⟨x,r,rfl,_,_,z⟩:=h;simp[RKs.len z]
def Xy{b:Bool}(hR:RH K ρ H hd)(h:RD K ρ H d v)(e:CI hd d=some b):Oj K v H b:=by
 cases d with
 |im i=>
  cases i with
  |non=>simp only[RD,RI]at h;subst h;simp only[CI,Option.some.injEq]at e;subst e;exact rfl
  |bl c=>simp only[RD,RI]at h;subst h;simp only[CI,Option.some.injEq]at e;subst e;exact rfl
  |int c=>simp only[RD,RI]at h;subst h;simp only[CI,Option.some.injEq]at e;subst e;exact rfl
  |str c=>
   simp only[RD,RI]at h;subst h;simp only[CI]at e;split at e
   .next z=>cases e;exact⟨z,rfl⟩
   .cases e
  |tup is=>
   obtain⟨a,xs,rfl,q,r⟩:=h.tup (ds:=is.map .im) rfl;simp only[CI,Option.some.injEq]at e;subst e;exact .inr (.inl ⟨xs,q,by rw[DG (show 96=is.length by simpa using r.len)]⟩)
 |tm ds=>
  obtain⟨a,xs,rfl,q,r⟩:=h.tup (ds:=ds) rfl;simp only[CI,Option.some.injEq]at e;subst e;exact .inr (.inl ⟨xs,q,by rw[DG r.len]⟩)
 |ro ns=>
  obtain⟨a,xs,rfl,q,r⟩:=h.lst hR (hd:=hd) (ds:=ns.map λn=>.im (.int n)) rfl;simp only[CI,Option.some.injEq]at e;subst e;exact .inl ⟨xs,q,by rw[DG (show 96=ns.length by simpa using r.len)]⟩
 |op _ _ _=>simp[CI]at e
 |fv _ _=>simp[CI]at e
 |mu n=>
  simp only[RD]at h;obtain⟨a,hn,rfl⟩:=h;simp only[CI]at e;split at e
  .next q=>
   cases e;obtain⟨xs,e1,e2⟩:=hR.lst hn q;exact .inl ⟨xs,SqL.of e1,by rw[DG e2.len]⟩
  .next q=>
   cases e;obtain⟨xs,e1,e2⟩:=hR.dic hn q;exact .inr (.inr ⟨xs,e1,by rw[DG e2.len]⟩)
  .cases e
noncomputable def C9(ma:ME):MT:=λls hd=>(186).bind λp=>(CI p.2 p.1).map (·,p.2)
def Ux(ha:RE K ta ma):RT K (λσ H Q=>ta σ H λx H'=>∃k,Oj K x H' k/\Q k H') (C9 ma):=by
 and_intros;obtain⟨⟨d1,h1⟩,e1,hm⟩:=ij hm;obtain⟨b,e2,e3⟩:=ik hm;cases e3;exact ha ρ σ H hd ls _ d1 h1 hR hL e1 λρ1 H1 v x1 R1 r1=>⟨_,Xy R1 r1 e2,hQ ρ1 H1 x1 R1⟩
noncomputable def AB(ma:ME):MT:=λls hd=>(186).bind λp=>match p.1 with
 |.im (.bl b)=>some (b,p.2)
 |_=>none
def Dd(ha:RE K ta ma):RT K (Fh ta) (AB ma):=by
 and_intros;obtain⟨⟨d1,h1⟩,e1,hm⟩:=ij hm;dsimp only at hm;split at hm
 .cases hm;exact ha ρ σ H hd ls _ _ _ hR hL e1 λρ1 H1 v x1 R1 r1=>⟨_,by simpa only[RD,RI]using r1,hQ ρ1 H1 x1 R1⟩
 .cases hm
def ag(ha:RE K ta ma):RT K (tB ta) (AB ma):=Dd ha
noncomputable def mIf(c:MT)(ma mb:ME):ME:=λls hd=>(c ls hd).bind λp=>if p.1=true then ma ls p.2 else mb ls p.2
def fA(hc:RT K tc c)(ha:RE K ta ma)(hb:RE K tb mb):RE K (tIf tc ta tb) (mIf c ma mb):=by
 and_intros;obtain⟨⟨d1,h1⟩,e1,hm⟩:=ij hm;refine hc ρ σ H hd ls _ d1 h1 hR hL e1 λρ1 H1 x1 R1=>?_;cases d1 with
 |true=>
  rw[il rfl]at hm ⊢;exact ha ρ1 σ H1 h1 ls Q d hd' R1 138 hm λρ2 H2 v x2 R2 r2=>hQ ρ2 H2 v 89 R2 r2
 |false=>
  rw[ip Bool.false_ne_true]at hm ⊢;exact hb ρ1 σ H1 h1 ls Q d hd' R1 138 hm λρ2 H2 v x2 R2 r2=>hQ ρ2 H2 v 89 R2 r2
noncomputable def Gf(ma mb:ME):ME:=λls hd=>(AB ma ls hd).bind λp=>if p.1=true then mb ls p.2 else some (.im (.bl false),p.2)
noncomputable def IS(ma:ME):ME:=λls hd=>(AB ma ls hd).bind λp=>some (.im (.bl (!p.1)),p.2)
def Yc(ha:RE K ta ma)(hb:RE K tb mb):RE K (QV ta tb) (Gf ma mb):=by
 and_intros;obtain⟨⟨d1,h1⟩,e1,hm⟩:=ij hm;refine Dd ha ρ σ H hd ls (λc H1=>if c=true then tb σ H1 Q else Q (.bl false) H1) d1 h1 hR hL e1 λρ1 H1 x1 R1=>?_;cases d1 with
 |true=>
  rw[il rfl]at hm ⊢;exact hb ρ1 σ H1 h1 ls Q d hd' R1 138 hm λρ2 H2 v x2 R2 r2=>hQ ρ2 H2 v 89 R2 r2
 |false=>
  rw[ip Bool.false_ne_true]at hm ⊢;cases hm;exact hQ ρ1 H1 _ x1 R1 133
def YU(ha:RE K ta ma):RE K (QL ta) (IS ma):=by
 and_intros;obtain⟨⟨d1,h1⟩,e1,hm⟩:=ij hm;cases hm;exact Dd ha ρ σ H hd ls (λc H1=>Q (.bl (!c)) H1) d1 h1 hR hL e1 λρ1 H1 x1 R1=>hQ ρ1 H1 _ x1 R1 133
noncomputable def A4:MA:=λ_ hd=>some ([],hd)
noncomputable def A1(ma:ME)(mr:MA):MA:=λls hd=>(186).bind λp=>(mr ls p.2).bind λq=>some (p.1::q.1,q.2)
def Nn:RA K BM A4:=by
 and_intros;cases hm;exact hQ ρ H [] .refl hR .nil
def Yh(ha:RE K ta ma)(hr:RA K tr mr):RA K (BJ ta tr) (A1 ma mr):=by
 and_intros;obtain⟨⟨d1,h1⟩,e1,hm⟩:=ij hm;obtain⟨⟨d2,h2⟩,e2,hm⟩:=ij hm;cases hm;refine ha ρ σ H hd ls _ d1 h1 hR hL e1 λρ1 H1 v1 x1 R1 r1=>?_;exact hr ρ1 σ H1 h1 ls _ d2 _ R1 138 e2 λρ2 H2 v2 x2 R2 r2=>hQ ρ2 H2 _ 89 R2 (.cons (r1.ext R1 x2) r2)
open Classical in
noncomputable def B5(ma:MA):ME:=λls hd=>(186).bind λp=>if Bu p.1.length then some (B7 p.1,p.2)else none
def bE(h:RA K t m):RE K (Ub t) (B5 m):=by
 and_intros;obtain⟨⟨d1,h1⟩,e1,hm⟩:=ij hm;dsimp only at hm;split at hm
 .next z=>
  cases hm;refine h ρ σ H hd ls _ d1 _ hR hL e1 λρ1 H1 v1 x1 R1 r1=>⟨by rw[r1.len];exact z,λp hp=>?_⟩
  obtain⟨R2,x2⟩:=R1.hid (ho:=.tup v1) hp;exact hQ ρ1 _ _ 89 R2 (DX (SqT.of AH) (r1.ext R1 x2))
 .cases hm
open Classical in
noncomputable def Af(ma:MA):MA:=λls hd=>(186).bind λp=>if Bu p.1.length then some (p.1,p.2)else none
def RH.out(hR:RH K ρ H hd)(h:H a=none):a∉ρ:=λm=>by rcases hR.mut m with⟨y,z⟩|⟨y,z⟩<;>(rw[h]at z;cases z)
theorem Ext.none(e:Ext ρ H ρ' H')(hR:RH K ρ H hd)(h:H' a=none)(hR':RH K ρ' H' hd'):H a=none:=by
 cases q:H a with
 |none=>rfl
 |some o=>
  by_cases m:a∈ρ
  .obtain⟨r,rfl,_⟩:=e.pre;exact absurd (jv r m) (hR'.out h)
  .by_cases t:∃ps,o=.tbl ps
   .obtain⟨ps,rfl⟩:=t;obtain⟨ps',this⟩:=e.tab a ps q;rw[h]at this;cases this
   .rw[e.keep a o q m λps y=>t ⟨ps,y⟩]at h;cases h
def ap(h:RA K t m):RN K (Uf t) (Af m):=by
 and_intros;obtain⟨⟨d1,h1⟩,e1,hm⟩:=ij hm;dsimp only at hm;split at hm
 .next z=>
  cases hm;refine h ρ σ H hd ls _ _ _ hR hL e1 λρ1 H1 v1 x1 R1 r1=>⟨by rw[r1.len];exact z,λp hp=>?_⟩
  obtain⟨R2,x2⟩:=R1.hid (ho:=.lst v1) hp;exact hQ ρ1 _ p v1 89 R2 (x1.none hR hp R1) (R1.out hp) AH (r1.ext R1 x2)
 .cases hm
noncomputable def AU(ml:MA):ME:=λls hd=>(ml ls hd).bind λp=>some (.mu p.2.length,p.2++[.lst p.1])
def RH.name(hR:RH K ρ H hd)(out:a∉ρ)(e:H a=some 158)(r:RDs K ρ H ds xs):RH K (ρ++[a]) H (hd++[.lst ds]):=by
 have mono:∀{o:MO} {ho:HO},RC K ρ H o ho->RC K (ρ++[a]) H o ho:=λc=>c.mono Grow.refl [a];refine⟨by simp[hR.len],?_,hR.tabs,λn o' b e1 e2=>?_⟩
 .rw[nodup_append];refine⟨hR.nd,by simp,λx hx y hy z=>?_⟩;simp at hy;subst hy;subst z;exact out hx
 .by_cases hn:n<ρ.length
  .rw[List.getElem?_append_left hn]at e2;rw[List.getElem?_append_left (by rw[<- hR.len];exact hn)]at e1;obtain⟨ho',q1,q2⟩:=hR.ob n o' b e1 e2;exact⟨ho',q1,mono q2⟩
  .have hn':n=ρ.length:=by
    have:=(75 e2).1;simp at this;omega
   subst hn';simp at e2;rw[hR.len]at e1;simp at e1;subst e1;subst e2;exact⟨_,e,mono ⟨xs,rfl,r⟩⟩
def Ext.name(e:Ext ρ H ρ' H')(h:H a=Option.none):Ext ρ H (ρ'++[a]) H':=by
 obtain⟨r,rfl,f⟩:=e.pre;refine⟨⟨r++[a],by simp,λb m=>?_⟩,e.keep,e.tab⟩;rcases mem_append.mp m with m|m
 .exact f b m
 .simp at m;subst m;exact h
def Sr(h:RN K t m):RE K t (AU m):=by
 and_intros;obtain⟨⟨d1,h1⟩,e1,hm⟩:=ij hm;cases hm;refine h ρ σ H hd ls Q d1 h1 hR hL e1 λρ1 H1 a xs x1 R1 na oa ea r1=>?_;refine hQ (ρ1++[a]) H1 _ (x1.name na) (R1.name oa ea r1) ?_;simp only[RD];exact⟨a,by rw[<- R1.len];simp,rfl⟩
end
section
variable{K:Frag}{ρ ρ':111}{H H':Hp}{hd hd':Hd}
noncomputable def fI(g:Int->Int->Option I):D->D->Hd->Option 161
 |.im (.int i),.im (.int j),hd=>(g i j).map (.im ·,hd)
 |_,_,_=>none
def L9{C:Int->Int->Prop}{g:Int->Int->V}{f:Int->Int->Option I}(h:∀i j z,f i j=some z->C i j/\∀H,RI K H z (g i j)):RB K (rI C g) (fI f):=by
 intro ρ H hd d e v u Q z hd' hR h1 h2 hf hQ;unfold fI at hf;split at hf
 .simp only[RD,RI]at h1 h2;subst h1 h2;obtain⟨w,e1,e2⟩:=ik hf;cases e2;obtain⟨c,r⟩:=h _ _ _ e1;exact⟨_,_,rfl,rfl,c,hQ ρ H _ .refl hR (by simpa only[RD]using r H)⟩
 .cases hf
def GY{g:Int->Int->V}{f:Int->Int->I}(h:∀i j H,RI K H (f i j) (g i j)):RB K (rI0 g) (fI λi j=>some (f i j)):=by
 intro ρ H hd d e v u Q z hd' hR h1 h2 hf hQ;unfold fI at hf;split at hf
 .simp only[RD,RI]at h1 h2;subst h1 h2;cases hf;exact⟨_,_,rfl,rfl,hQ ρ H _ .refl hR (by simpa only[RD]using h _ _ H)⟩
 .cases hf
noncomputable def Ie(f g:D->D->Hd->Option 161):D->D->Hd->Option 161:=λd e hd=>match f d e hd with
 |some z=>some z
 |none=>g d e hd
def GA{r r':R2}{f g:D->D->Hd->Option 161}(h:RB K r f)(h':RB K r' g):RB K (λx y H Q=>r x y H Q∨r' x y H Q) (Ie f g):=by
 intro ρ H hd d e v u Q z hd' hR h1 h2 hf hQ;unfold Ie at hf;split at hf
 .next q=>cases hf;exact .inl (h ρ H hd d e v u Q z hd' hR h1 h2 q hQ)
 .exact .inr (h' ρ H hd d e v u Q z hd' hR h1 h2 hf hQ)
noncomputable abbrev Rj:D->D->Hd->Option 161:=fI λi j=>some (.int (i+j))
noncomputable abbrev CK:D->D->Hd->Option 161:=fI λi j=>some (.int (i-j))
def bW:RB K (rI0 λi j=>.int (i+j)) Rj:=GY λ_ _ _=>by simp[RI]
def bN:RB K (rI0 λi j=>.int (i-j)) CK:=GY λ_ _ _=>by simp[RI]
open Classical in
noncomputable abbrev Bx:D->D->Hd->Option 161:=fI λi j=>if Ei i j then some (.int (i*j))else none
def bR:RB K (rI CMul λi j=>.int (i*j)) Bx:=L9 λi j z h=>by
 split at h
 .next q=>cases h;exact⟨q,λ_=>by simp[RI]⟩
 .cases h
open Classical in
noncomputable abbrev DC:D->D->Hd->Option 161:=fI λi j=>if Ej j then some (.int (i%j))else none
def bS:RB K (rI (λ_ j=>0<j) λi j=>.int (i%j)) DC:=L9 λi j z h=>by
 split at h
 .next q=>cases h;exact⟨q,λ_=>by simp[RI]⟩
 .cases h
open Classical in
noncomputable abbrev Go:D->D->Hd->Option 161:=fI λi j=>if N2 j then some (.int (i/j))else none
def Ye:RB K (rI eT λi j=>.int (i/j)) Go:=L9 λi j z h=>by
 split at h
 .next q=>cases h;exact⟨q,λ_=>by simp[RI]⟩
 .cases h
open Classical in
noncomputable abbrev Rh:D->D->Hd->Option 161:=fI λi j=>if IM i j then some (.int (i^j.toNat))else none
def bQ:RB K (rI S5 λi j=>.int (i^j.toNat)) Rh:=L9 λi j z h=>by
 split at h
 .next q=>cases h;exact⟨q,λ_=>by simp[RI]⟩
 .cases h
abbrev gLt:D->D->Hd->Option 161:=fI λi j=>some (.bl (decide (i<j)))
abbrev gLe:D->D->Hd->Option 161:=fI λi j=>some (.bl (decide (i<=j)))
abbrev gGt:D->D->Hd->Option 161:=fI λi j=>some (.bl (decide (j<i)))
abbrev gGe:D->D->Hd->Option 161:=fI λi j=>some (.bl (decide (j<=i)))
def Ql:RB K (rI0 λi j=>.bl (decide (i<j))) gLt:=GY λ_ _ _=>by simp[RI]
def Qm:RB K (rI0 λi j=>.bl (decide (i<=j))) gLe:=GY λ_ _ _=>by simp[RI]
def XD:RB K (rI0 λi j=>.bl (decide (j<i))) gGt:=GY λ_ _ _=>by simp[RI]
def fD:RB K (rI0 λi j=>.bl (decide (j<=i))) gGe:=GY λ_ _ _=>by simp[RI]
noncomputable def scI:I->Option V
 |.non=>some .non
 |.bl b=>some (.bl b)
 |.int i=>some 135
 |.str x=>some (.str x)
 |.tup _=>none
def Jv{i:I}{v w:V}(e:scI i=some w)(h:RI K H i v):v=w:=by
 cases i with
 |tup _=>simp[scI]at e
 |_=>simp only[scI,Option.some.injEq]at e;subst e;simpa only[RI]using h
noncomputable def G0(neg:Bool):D->D->Hd->Option 161
 |.im i,.im j,hd=>match scI i,scI j with
  |some x,some y=>if NV x y=true then some (.im (.bl (if neg then !decide (x=y)else decide (x=y))),hd)else none
  |_,_=>none
 |_,_,_=>none
def Sy:RB K rEq (G0 false):=by
 intro ρ H hd d e v u Q z hd' hR h1 h2 hf hQ;unfold G0 at hf;split at hf
 .split at hf
  .next x y e1 e2=>
   split at hf
   .next s=>
    cases hf;simp only[RD]at h1 h2;rw[Jv e1 h1,Jv e2 h2];exact⟨s,hQ ρ H _ .refl hR 133⟩
   .cases hf
  .cases hf
 .cases hf
def Sv:RB K rNe (G0 true):=by
 intro ρ H hd d e v u Q z hd' hR h1 h2 hf hQ;unfold G0 at hf;split at hf
 .split at hf
  .next x y e1 e2=>
   split at hf
   .next s=>
    cases hf;simp only[RD]at h1 h2;rw[Jv e1 h1,Jv e2 h2];exact⟨s,hQ ρ H _ .refl hR 133⟩
   .cases hf
  .cases hf
 .cases hf
mutual
noncomputable def I.py:I->PyData
 |.non=>.none
 |.bl b=>.bool b
 |.int i=>.int i
 |.str x=>.str x
 |.tup ds=>.tuple (I.pys ds)
noncomputable def I.pys:List I->List PyData
 |[]=>[]
 |d::ds=>I.py d::I.pys ds
end
mutual
theorem RI.rep:∀{i:I} {v:V},RI K H i v->Rep K H i.py v
 |.non,v,h=>by simpa only[RI,I.py,Rep]using h
 |.bl _,v,h=>by simpa only[RI,I.py,Rep]using h
 |.int _,v,h=>by simpa only[RI,I.py,Rep]using h
 |.str _,v,h=>by simpa only[RI,I.py,Rep]using h
 |.tup ds,v,h=>by
  simp only[RI]at h;obtain⟨a,xs,e,q,r⟩:=h;simp only[I.py,Rep];exact⟨a,xs,e,q,RIs.rep r⟩
theorem RIs.rep:∀{i:List I} {v:155},RIs K H i v->C5 K H (I.pys i) v
 |[],v,h=>by simpa only[RIs,I.pys,C5]using h
 |d::ds,v,h=>by
  simp only[RIs]at h;obtain⟨x,r,e,q,z⟩:=h;simp only[I.pys,C5];exact⟨x,r,e,q.rep,RIs.rep z⟩
end
def pyD(hd:Hd):D->Option PyData
 |.im i=>some i.py
 |.mu n=>match hd[n]? with
  |some (.lst ds)=>(B9 ds).map λis=>.list (I.pys is)
  |_=>none
 |.ro ns=>some (.list (I.pys (ns.map I.int)))
 |_=>none
def De{d:D}{v:V}{p:PyData}(hR:RH K ρ H hd)(h:RD K ρ H d v)(e:pyD hd d=some p):Rep K H p v:=by
 cases d with
 |im i=>simp only[pyD,Option.some.injEq]at e;subst e;simp only[RD]at h;exact h.rep
 |mu n=>
  simp only[pyD]at e;simp only[RD]at h;obtain⟨a,hn,rfl⟩:=h;split at e
  .next q=>
   obtain⟨is,e1,rfl⟩:=ik e;obtain⟨xs,e2,e3⟩:=hR.lst hn q;rw[Gy e1]at e3;simp only[Rep];exact⟨a,xs,rfl,SqL.of e2,e3.is.rep⟩
  .cases e
 |ro ns=>
  simp only[pyD,Option.some.injEq]at e;subst e;obtain⟨a,xs,rfl,q,r⟩:=h.lst hR (hd:=hd) (ds:=ns.map λn=>.im (.int n)) rfl;simp only[Rep];refine⟨a,xs,rfl,q,RIs.rep (RDs.is (ρ:=ρ) ?_)⟩;rw[j5];exact r
 |tm _=>simp[pyD]at e
 |op _ _ _=>simp[pyD]at e
 |fv _ _=>simp[pyD]at e
noncomputable def LP(neg:Bool):D->D->Hd->Option 161:=λd e hd=>match pyD hd d,pyD hd e with
 |some x,some y=>if x.canLay0=true/\y.canLay0=true/\min x.depth y.depth<=60 then some (.im (.bl (if neg then !PyData.eqv x y else PyData.eqv x y)),hd)else none
 |_,_=>none
def Sz:RB K (Qq K) (LP false):=by
 intro ρ H hd d e v u Q z hd' hR h1 h2 hf hQ;unfold LP at hf;split at hf
 .next e1 e2=>
  split at hf
  .next c=>cases hf;exact⟨_,_,De hR h1 e1,De hR h2 e2,c.1,c.2.1,c.2.2,hQ ρ H _ .refl hR 133⟩
  .cases hf
 .cases hf
def Sw:RB K (VM K) (LP true):=by
 intro ρ H hd d e v u Q z hd' hR h1 h2 hf hQ;unfold LP at hf;split at hf
 .next e1 e2=>
  split at hf
  .next c=>cases hf;exact⟨_,_,De hR h1 e1,De hR h2 e2,c.1,c.2.1,c.2.2,hQ ρ H _ .refl hR 133⟩
  .cases hf
 .cases hf
noncomputable abbrev gEq:=Ie (G0 false) (LP false)
noncomputable abbrev gNe:=Ie (G0 true) (LP true)
def gIx:D->D->Hd->Option 161
 |d,.im (.int i),hd=>(Ao hd d).bind λds=>(atI ds i).map (·,hd)
 |_,_,_=>none
def Lh{α β:Type}{xs:List α}{ys:List β}{i:Int}{y:β}(h:96=ys.length)(e:atI ys i=some y):∃(j:Nat),ys[j]?=some y/\∀x,xs[j]?=some x->atI xs i=some x:=by
 unfold atI at e;obtain⟨j,e1,e2⟩:=ij e;exact⟨j,e2,λx q=>by unfold atI;rw[h,e1];exact q⟩
noncomputable def Mv(K:Frag):R2:=λx y H Q=>JI K x y H Q∨VN K x y H Q
def fC:RB K (Mv K) gIx:=by
 intro ρ H hd d e v u Q z hd' hR h1 h2 hf hQ;unfold gIx at hf;split at hf
 .obtain⟨ds,e1,hf⟩:=ij hf;obtain⟨w,e2,e3⟩:=ik hf;cases e3;obtain⟨a,xs,rfl,q,r⟩:=h1.seq hR e1;simp only[RD,RI]at h2;subst h2;obtain⟨j,j1,j2⟩:=Lh r.len e2;obtain⟨x,x1,x2⟩:=r.get j1;rcases q with q|q
  .exact .inl ⟨a,xs,_,x,rfl,rfl,q,j2 x x1,hQ ρ H x .refl hR x2⟩
  .exact .inr ⟨a,xs,_,x,rfl,rfl,q,j2 x x1,hQ ρ H x .refl hR x2⟩
 .cases hf
noncomputable def Gv(xs:137)(lo hi:Option Int):List D:=(xs.drop (HT.sIx 96 0 lo)).take (HT.sIx 96 96 hi-HT.sIx 96 0 lo)
def aD{ds:137}{xs:155}{lo hi:Option Int}(r:RDs K ρ H ds xs):RDs K ρ H (Gv ds lo hi) (Jd xs lo hi):=by
 unfold Gv Jd;rw[r.len];exact(r.drop _).take _
noncomputable abbrev MO1:=Ls->Hd->Option (Option Int×Hd)
def RO1(K:Frag)(t:TO)(m:MO1):Prop:=∀(ρ:111) (σ:St) (H:Hp) (hd:Hd) (ls:Ls) (Q:Option Int->Hp->Prop) (d:Option Int) (hd':Hd),RH K ρ H hd->RL K ρ H ls σ->m ls hd=some (d,hd') ->
 (∀ρ' H',Ext ρ H ρ' H'->RH K ρ' H' hd'->Q d H')->t σ H Q
noncomputable def GH:MO1:=λ_ hd=>some (none,hd)
noncomputable def KG(m:ME):MO1:=λls hd=>(m ls hd).bind λp=>match p.1 with
 |.im (.int i)=>some (some i,p.2)
 |_=>none
def YJ:RO1 K Kw GH:=by
 and_intros;cases hm;exact hQ ρ H .refl hR
def YI{t:TE}{m:ME}(h:RE K t m):RO1 K (QK t) (KG m):=by
 and_intros;obtain⟨⟨d1,h1⟩,e1,hm⟩:=ij hm;dsimp only at hm;split at hm
 .cases hm;exact h ρ σ H hd ls _ _ _ hR hL e1 λρ1 H1 v x1 R1 r1=>⟨_,by simpa only[RD,RI]using r1,hQ ρ1 H1 x1 R1⟩
 .cases hm
noncomputable def LI(m:ME)(ml mh:MO1):MA:=λls hd=>(m ls hd).bind λp=>(ml ls p.2).bind λl=>(mh ls l.2).bind λh=>(Ad h.2 p.1).bind λds=>some (Gv ds l.1 h.1,h.2)
def am{t:TE}{tl th:TO}{m:ME}{ml mh:MO1}(h:RE K t m)(hl:RO1 K tl ml)(hh:RO1 K th mh):RN K (tSl (Qp K) t tl th) (LI m ml mh):=by
 and_intros;obtain⟨⟨d1,h1⟩,e1,hm⟩:=ij hm;obtain⟨⟨d2,h2⟩,e2,hm⟩:=ij hm;obtain⟨⟨d3,h3⟩,e3,hm⟩:=ij hm;obtain⟨ds,e4,hm⟩:=ij hm;dsimp only at e2 e3 e4 hm;cases hm;refine h ρ σ H hd ls _ d1 h1 hR hL e1 λρ1 H1 v1 x1 R1 r1=>?_;refine hl ρ1 σ H1 h1 ls _ d2 h2 R1 138 e2 λρ2 H2 x2 R2=>?_;refine hh ρ2 σ H2 h2 ls _ d3 _ R2 (hL.ext hR 89) e3 λρ3 H3 x3 R3=>?_;obtain⟨a,xs,rfl,q,r⟩:=RD.lst R3 ((r1.ext R1 x2).ext R2 x3) e4;refine⟨a,xs,rfl,q,λp hp=>?_⟩;obtain⟨R4,x4⟩:=R3.hid (ho:=.lst (Jd xs d2 d3)) hp;have x123:=(89).trans R2 x3;exact hQ ρ3 _ p _ (x123.trans R3 x4) R4 (x123.none hR hp R3) (R3.out hp) AH ((aD r).ext R3 x4)
noncomputable def mCB(f:118)(ma:MA):ME:=λls hd=>(186).bind λp=>f p.1 p.2
def XB{r:List V->Hp->VK->Prop}{f:118}{t:TA}{m:MA}(hr:RF K r f)(h:RA K t m):RE K (tCB r t) (mCB f m):=by
 and_intros;obtain⟨⟨d1,h1⟩,e1,hm⟩:=ij hm;refine h ρ σ H hd ls _ d1 h1 hR hL e1 λρ1 H1 v1 x1 R1 r1=>?_;exact hr ρ1 H1 h1 d1 v1 Q d hd' R1 r1 hm λρ' H' w x2 R2 r2=>hQ ρ' H' w 89 R2 r2
noncomputable def f1(tp:Bool)(g:List D->Option D):List D->Hd->Option 161
 |[d],hd=>((if tp then Ao hd d else Ad hd d)).bind λds=>(g ds).map (·,hd)
 |_,_=>none
def HY{tp:Bool}{r:List V->Hp->VK->Prop}{g:List D->Option D}(h:RG K tp r g):RF K r (f1 tp g):=by
 intro ρ H hd ds vs Q z hd' hR h1 hf hQ;unfold f1 at hf;split at hf
 .next d hd'=>
  obtain⟨es,e1,hf⟩:=ij hf;obtain⟨w,e2,e3⟩:=ik hf;cases e3;simp only[RDs]at h1;obtain⟨x,r,rfl,rx,rfl⟩:=h1;cases tp with
  |true=>
   rw[il rfl]at e1;obtain⟨a,xs,rfl,q,rr⟩:=rx.seq hR e1;exact h ρ H hd a xs es Q z hR (q.imp id λq=>⟨rfl,q⟩) rr e2 λH' w x R r=>hQ ρ H' w x R r
  |false=>
   rw[ip Bool.false_ne_true]at e1;obtain⟨a,xs,rfl,q,rr⟩:=rx.lst hR e1;exact h ρ H hd a xs es Q z hR (.inl q) rr e2 λH' w x R r=>hQ ρ H' w x R r
 .cases hf
noncomputable def B6(g:List D->Option D)(ml:MA):ME:=λls hd=>(ml ls hd).bind λp=>(g p.1).map (·,p.2)
def Su{tp:Bool}{r:List V->Hp->VK->Prop}{g:List D->Option D}{t:TE}{m:MA}(hr:RG K tp r g)(h:RN K t m):RE K (tCB r (BJ t BM)) (B6 g m):=by
 and_intros;obtain⟨⟨d1,h1⟩,e1,hm⟩:=ij hm;obtain⟨w,e2,e3⟩:=ik hm;cases e3;refine h ρ σ H hd ls _ d1 _ hR hL e1 λρ1 H1 a xs x1 R1 na oa ea r1=>?_;exact hr ρ1 H1 _ a xs d1 Q d R1 (.inl (SqL.of ea)) r1 e2 λH' w x R r=>hQ ρ1 H' w (x1.trans R1 x) R r
noncomputable def B4(ds:137):Option D:=some (.im (.int 97))
def bA:RG K true (bY K) B4:=by
 intro ρ H hd a xs ds Q z hR q r e hQ;cases e;refine⟨a,xs,rfl,q.imp id λq=>q.2,?_⟩;rw[r.len];exact hQ H _ .refl hR 133
noncomputable def B8(ds:137):Option D:=some (B7 ds)
def Ni:RG K true (No K) B8:=by
 intro ρ H hd a xs ds Q z hR q r e hQ;cases e;refine⟨a,xs,rfl,?_⟩;rcases q with q|⟨_,q⟩
 .refine .inl ⟨q,λp hp=>?_⟩;obtain⟨R2,x2⟩:=hR.hid (ho:=.tup xs) hp;exact hQ _ _ x2 R2 (DX (SqT.of AH) (r.ext hR x2))
 .exact .inr ⟨q,hQ H _ .refl hR (DX q r)⟩
noncomputable def JR(ds:137):Option D:=(Av ds).map λns=>.im (.int ns.sum)
def gN(K:Frag):List V->Hp->VK->Prop:=λxs H Q=>XF K xs H Q∨XE K xs H Q
def Sk:RG K true (gN K) JR:=by
 intro ρ H hd a xs ds Q z hR q r e hQ;obtain⟨ns,e1,rfl⟩:=ik e;rw[Bt e1]at r;have:=E4 r;subst this;rcases q with q|⟨_,q⟩
 .exact .inl ⟨a,ns,rfl,q,hQ H _ .refl hR 133⟩
 .exact .inr ⟨a,ns,rfl,q,hQ H _ .refl hR 133⟩
noncomputable def OB(ds:137):Option D:=(CS ds).map λbs=>.im (.bl (bs.all id))
noncomputable def JS(ds:137):Option D:=(CS ds).map λbs=>.im (.bl (bs.any id))
def So:RG K false (ba K) OB:=by
 intro ρ H hd a xs ds Q z hR q r e hQ;obtain⟨ns,e1,rfl⟩:=ik e;rw[Lf e1]at r;have:=Nm r;subst this;rcases q with q|⟨q,_⟩
 .exact⟨a,ns,rfl,q,hQ H _ .refl hR 133⟩
 .cases q
def Sn:RG K false (bZ K) JS:=by
 intro ρ H hd a xs ds Q z hR q r e hQ;obtain⟨ns,e1,rfl⟩:=ik e;rw[Lf e1]at r;have:=Nm r;subst this;rcases q with q|⟨q,_⟩
 .exact⟨a,ns,rfl,q,hQ H _ .refl hR 133⟩
 .cases q
noncomputable def Ct:List Int->Int
 |[]=>0
 |[x]=>x
 |x::r=>if Ct r>x then Ct r else x
noncomputable def C8:List Int->Int
 |[]=>0
 |[x]=>x
 |x::r=>if C8 r<x then C8 r else x
theorem BH:∀{xs:88},xs≠[]->Ct xs∈xs/\∀x∈xs,x<=Ct xs
 |[],h=>absurd rfl h
 |[x],_=>by simp[Ct]
 |x::y::r,_=>by
  obtain⟨h1,h2⟩:=BH (xs:=y::r) 71;rw[Ct];split
  .next h=>exact⟨iw _ h1,λz m=>by rcases mem_cons.mp m with rfl|m;omega;exact h2 z m⟩
  .next h=>exact⟨j4,λz m=>by rcases mem_cons.mp m with rfl|m;omega;exact 182 (h2 z m) 68⟩
  .simp
theorem BS:∀{xs:88},xs≠[]->C8 xs∈xs/\∀x∈xs,C8 xs<=x
 |[],h=>absurd rfl h
 |[x],_=>by simp[C8]
 |x::y::r,_=>by
  obtain⟨h1,h2⟩:=BS (xs:=y::r) 71;rw[C8];split
  .next h=>exact⟨iw _ h1,λz m=>by rcases mem_cons.mp m with rfl|m;omega;exact h2 z m⟩
  .next h=>exact⟨j4,λz m=>by rcases mem_cons.mp m with rfl|m;omega;exact 182 68 (h2 z m)⟩
  .simp
noncomputable def Gh(ds:137):Option D:=(Av ds).bind λns=>if ns=[]then none else some (.im (.int (Ct ns)))
noncomputable def FT(ds:137):Option D:=(Av ds).bind λns=>if ns=[]then none else some (.im (.int (C8 ns)))
def gO(K:Frag):List V->Hp->VK->Prop:=λxs H Q=>XM K xs H Q∨XJ K xs H Q
def GK{α:Type}{xs:List α}(h:xs≠[]):0<xs.length:=by cases xs<;>simp_all
def Sm:RG K true (gO K) Gh:=by
 intro ρ H hd a xs ds Q z hR q r e hQ;obtain⟨ns,e1,e⟩:=ij e;split at e
 .cases e
 .next hn=>
  cases e;rw[Bt e1]at r;have:=E4 r;subst this;have u:∀M:Int,M∈ns->(∀x∈ns,x<=M)->M=Ct ns:=λM m1 m2=>by
   obtain⟨n1,n2⟩:=BH hn;have:=n2 M m1;have:=m2 _ n1;omega
  rcases q with q|⟨_,q⟩
  .exact .inl ⟨a,ns,rfl,q,GK hn,λM m1 m2=>by rw[u M m1 m2];exact hQ H _ .refl hR 133⟩
  .exact .inr ⟨a,ns,rfl,q,GK hn,λM m1 m2=>by rw[u M m1 m2];exact hQ H _ .refl hR 133⟩
def Sl:RG K false (XI K) FT:=by
 intro ρ H hd a xs ds Q z hR q r e hQ;obtain⟨ns,e1,e⟩:=ij e;split at e
 .cases e
 .next hn=>
  cases e;rw[Bt e1]at r;have:=E4 r;subst this;have u:∀M:Int,M∈ns->(∀x∈ns,M<=x)->M=C8 ns:=λM m1 m2=>by
   obtain⟨n1,n2⟩:=BS hn;have:=n2 M m1;have:=m2 _ n1;omega
  rcases q with q|⟨q,_⟩
  .exact⟨a,ns,rfl,q,GK hn,λM m1 m2=>by rw[u M m1 m2];exact hQ H _ .refl hR 133⟩
  .cases q
noncomputable def DP:List D->Hd->Option 161
 |[.im (.int i),.im (.int j)],hd=>some (.im (.int (if j>i then j else i)),hd)
 |_,_=>none
noncomputable def Gp:List D->Hd->Option 161
 |[.im (.int i),.im (.int j)],hd=>some (.im (.int (if j<i then j else i)),hd)
 |_,_=>none
def YQ:RF K (λxs H Q=>∃i j,xs=[.int i,.int j]/\Q (.int (if j>i then j else i)) H) DP:=by
 intro ρ H hd ds vs Q z hd' hR h1 hf hQ;unfold DP at hf;split at hf
 .cases hf;simp only[RDs,RD,RI]at h1;obtain⟨x,r,rfl,rfl,y,r2,rfl,rfl,rfl⟩:=h1;exact⟨_,_,rfl,hQ ρ H _ .refl hR 133⟩
 .cases hf
def YO:RF K (λxs H Q=>∃i j,xs=[.int i,.int j]/\Q (.int (if j<i then j else i)) H) Gp:=by
 intro ρ H hd ds vs Q z hd' hR h1 hf hQ;unfold Gp at hf;split at hf
 .cases hf;simp only[RDs,RD,RI]at h1;obtain⟨x,r,rfl,rfl,y,r2,rfl,rfl,rfl⟩:=h1;exact⟨_,_,rfl,hQ ρ H _ .refl hR 133⟩
 .cases hf
noncomputable def IT(ma:ME):MA:=λls hd=>(186).bind λp=>(Ao p.2 p.1).map (·,p.2)
def YK{t:TE}{m:ME}(h:RE K t m):RN K (tCB (GB K) (BJ t BM)) (IT m):=by
 and_intros;obtain⟨⟨d1,h1⟩,e1,hm⟩:=ij hm;obtain⟨w,e2,e3⟩:=ik hm;cases e3;refine h ρ σ H hd ls _ d1 _ hR hL e1 λρ1 H1 v x1 R1 r1=>?_;obtain⟨a,xs,rfl,q,rr⟩:=r1.seq R1 e2;refine⟨a,xs,rfl,q,λl hl=>?_⟩;obtain⟨R2,x2⟩:=R1.hid (ho:=.lst xs) hl;exact hQ ρ1 _ l xs 89 R2 (x1.none hR hl R1) (R1.out hl) AH (rr.ext R1 x2)
noncomputable def Hm(ml:MA):MA:=ml
def V6{t:TE}{m:MA}(h:RN K t m):RN K (tCB (GB K) (BJ t BM)) (Hm m):=by
 and_intros;refine h ρ σ H hd ls _ d _ hR hL hm λρ1 H1 a xs x1 R1 na oa ea r1=>?_;refine⟨a,xs,rfl,.inl (SqL.of ea),λl hl=>?_⟩;obtain⟨R2,x2⟩:=R1.hid (ho:=.lst xs) hl;exact hQ ρ1 _ l xs 89 R2 (x1.none hR hl R1) (R1.out hl) AH (r1.ext R1 x2)
noncomputable def Er:I->Option V
 |.non=>some .non
 |.bl b=>some (.bl b)
 |.int i=>some 135
 |.str x=>some (.str x)
 |.tup _=>none
noncomputable def CD:List D->Option (List V)
 |[]=>some []
 |.im i::r=>(Er i).bind λv=>(CD r).map (v::·)
 |_::_=>none
def JT{i:I}{v w:V}(e:Er i=some w)(h:RI K H i v):v=w/\EC w=true:=by
 cases i with
 |tup _=>simp[Er]at e
 |_=>simp only[Er,Option.some.injEq]at e;subst e;exact⟨by simpa only[RI]using h,rfl⟩
theorem Hw:∀{ds:137} {vs ws:155},CD ds=some ws->RDs K ρ H ds vs->vs=ws/\ws.all EC=true
 |[],vs,ws,e,h=>by simp[CD]at e;subst e;simp only[RDs]at h;subst h;exact⟨rfl,rfl⟩
 |.im i::r,vs,ws,e,h=>by
  simp only[CD]at e;obtain⟨v,e1,e⟩:=ij e;obtain⟨us,e2,rfl⟩:=ik e;simp only[RDs,RD]at h;obtain⟨x,y,rfl,h1,h2⟩:=h;obtain⟨rfl,f1⟩:=JT e1 h1;obtain⟨rfl,f2⟩:=Hw e2 h2;exact⟨rfl,by simp[f1,f2]⟩
 |.mu _::_,_,_,e,_=>by simp[CD]at e
 |.tm _::_,_,_,e,_=>by simp[CD]at e
 |.ro _::_,_,_,e,_=>by simp[CD]at e
 |.op _ _ _::_,_,_,e,_=>by simp[CD]at e
 |.fv _ _::_,_,_,e,_=>by simp[CD]at e
def gIn(neg:Bool):D->D->Hd->Option 161
 |.im i,e,hd=>(Er i).bind λx=>(Ao hd e).bind λds=>(CD ds).map λxs=>(.im (.bl (if neg then !inV x xs else inV x xs)),hd)
 |_,_,_=>none
def Qn{neg:Bool}:RB K (rIn K neg) (gIn neg):=by
 intro ρ H hd d e v u Q z hd' hR h1 h2 hf hQ;unfold gIn at hf;split at hf
 .obtain⟨x,e1,hf⟩:=ij hf;obtain⟨ds,e2,hf⟩:=ij hf;obtain⟨xs,e3,e4⟩:=ik hf;cases e4;simp only[RD]at h1;obtain⟨rfl,f1⟩:=JT e1 h1;obtain⟨a,ys,rfl,q,r⟩:=h2.seq hR e2;obtain⟨rfl,f2⟩:=Hw e3 r;exact⟨a,ys,rfl,q,f1,f2,hQ ρ H _ .refl hR 133⟩
 .cases hf
noncomputable def mMt(f:D->List D->Hd->Option 161)(mo:ME)(ma:MA):ME:=λls hd=>(mo ls hd).bind λp=>match Ad p.2 p.1 with
 |some _=>(ma ls p.2).bind λq=>f p.1 q.1 q.2
 |none=>none
def RM(K:Frag)(r:V->List V->Hp->VK->Prop)(f:D->List D->Hd->Option 161):Prop:=∀(ρ:111) (H:Hp) (hd:Hd) (d:D) (v:V) (ds:137) (vs:155) (Q:VK) (z:D) (hd':Hd),RH K ρ H hd->RD K ρ H d v->RDs K ρ H ds vs->f d ds hd=some (z,hd') ->
 (∀ρ' H' w,Ext ρ H ρ' H'->RH K ρ' H' hd'->RD K ρ' H' z w->Q w H')->r v vs H Q
def XA{r:V->List V->Hp->VK->Prop}{f:D->List D->Hd->Option 161}{to:TE}{t:TA}{mo:ME}{ma:MA}(hr:RM K r f)(ho:RE K to mo)(ha:RA K t ma):RE K (tBM K "list" r to t) (mMt f mo ma):=by
 and_intros;obtain⟨⟨d1,h1⟩,e1,hm⟩:=ij hm;dsimp only at hm;split at hm
 .next e=>
  obtain⟨⟨d2,h2⟩,e2,hm⟩:=ij hm;refine ho ρ σ H hd ls _ d1 h1 hR hL e1 λρ1 H1 v x1 R1 r1=>⟨?_,?_⟩
  .obtain⟨a,xs,rfl,q,_⟩:=r1.lst R1 e;exact .inl ⟨rfl,xs,q⟩
  .exact ha ρ1 σ H1 h1 ls _ d2 h2 R1 138 e2 λρ2 H2 vs x2 R2 r2=>hr ρ2 H2 h2 d1 v d2 vs Q d hd' R2 (r1.ext R1 x2) r2 hm λρ' H' w x3 R3 r3=>hQ ρ' H' w ((89).trans R2 x3) R3 r3
 .cases hm
def bG{r:V->List V->Hp->VK->Prop}{f:D->List D->Hd->Option 161}{to:TE}{mo:ME}(hr:RM K r f)(ho:RE K to mo):RE K (Ul K "list" r to) (mMt f mo A4):=XA (t:=BM) hr ho Nn
open Classical in
noncomputable def AX:D->List D->Hd->Option 161
 |.mu n,[x],hd=>match hd[n]? with
  |some (.lst ds)=>if D5 97 then some (.im .non,hd.set n (.lst (ds++[x])))else none
  |_=>none
 |_,_,_=>none
def Si:RM K PZ AX:=by
 intro ρ H hd d v ds vs Q z hd' hR h1 h2 hf hQ;unfold AX at hf;split at hf
 .split at hf
  .next q=>
   split at hf
   .next c=>
    cases hf;simp only[RD]at h1;obtain⟨a,hn,rfl⟩:=h1;simp only[RDs]at h2;obtain⟨x,r,rfl,rx,rfl⟩:=h2;obtain⟨xs,e1,e2⟩:=hR.lst hn q;obtain⟨R2,x2⟩:=hR.put hn (o:=.lst (_++[_])) (ho:=.lst (xs++[x])) ⟨_,rfl,e2.app (.cons rx .nil)⟩;exact⟨a,xs,x,rfl,rfl,e1,by rw[e2.len];exact c,hQ ρ _ _ x2 R2 133⟩
   .cases hf
  .cases hf
 .cases hf
noncomputable def Hz:D->List D->Hd->Option 161
 |.mu n,[],hd=>match hd[n]? with
  |some (.lst ds)=>(ds[97-1]?).map λy=>(y,hd.set n (.lst ds.dropLast))
  |_=>none
 |_,_,_=>none
theorem RDs.dropLast{ds:137}{xs:155}(h:RDs K ρ H ds xs):RDs K ρ H ds.dropLast xs.dropLast:=by
 rw[List.dropLast_eq_take,List.dropLast_eq_take,h.len];exact h.take _
def au:RM K bX Hz:=by
 intro ρ H hd d v ds vs Q z hd' hR h1 h2 hf hQ;unfold Hz at hf;split at hf
 .split at hf
  .next q=>
   obtain⟨y,e0,e3⟩:=ik hf;cases e3;simp only[RD]at h1;obtain⟨a,hn,rfl⟩:=h1;simp only[RDs]at h2;subst h2;obtain⟨xs,e1,e2⟩:=hR.lst hn q;obtain⟨x,x1,x3⟩:=e2.get e0;obtain⟨R2,x2⟩:=hR.put hn (o:=.lst _) (ho:=.lst xs.dropLast) ⟨_,rfl,e2.dropLast⟩;exact⟨a,xs,x,rfl,rfl,e1,by rw[e2.len];exact x1,hQ ρ _ _ x2 R2 (x3.ext hR x2)⟩
  .cases hf
 .cases hf
end
end L2
namespace L2
open PySem PySem.Spec PyProof.Rows
section
variable{K:Frag}{ρ ρ':111}{H H':Hp}{hd hd':Hd}
noncomputable def AZ:MS:=λls hd=>some (.nx ls,hd)
def PN:RS K Jr AZ:=by
 intro ρ σ H hd ls E f hd' hR hL hm hQ;cases hm;exact hQ ρ H .refl hR σ hL
noncomputable def A6(a b:MS):MS:=λls hd=>(a ls hd).bind λp=>match p.1 with
 |.nx ls1=>b ls1 p.2
 |f=>some (f,p.2)
def ah(ha:RS K t a)(hb:RS K u b):RS K (Uc t u) (A6 a b):=by
 intro ρ σ H hd ls E f hd' hR hL hm hQ;obtain⟨⟨f1,h1⟩,e1,hm⟩:=ij hm;refine ha ρ σ H hd ls { E with nx:=u E } f1 h1 hR hL e1 λρ1 H1 x1 R1=>?_;cases f1 with
 |nx ls1=>
  intro σ1 L1;exact hb ρ1 σ1 H1 h1 ls1 E f hd' R1 L1 hm λρ2 H2 x2 R2=>hQ ρ2 H2 89 R2
 |bk ls1=>cases hm;exact hQ ρ1 H1 x1 R1
 |ct ls1=>cases hm;exact hQ ρ1 H1 x1 R1
 |rt d=>cases hm;exact hQ ρ1 H1 x1 R1
noncomputable def An(m:ME):MS:=λls hd=>(m ls hd).bind λp=>some (.nx ls,p.2)
def YF(h:RE K t m):RS K (QM t) (An m):=by
 intro ρ σ H hd ls E f hd' hR hL hm hQ;obtain⟨⟨d1,h1⟩,e1,hm⟩:=ij hm;cases hm;exact h ρ σ H hd ls _ d1 _ hR hL e1 λρ1 H1 v x1 R1 r1=>hQ ρ1 H1 x1 R1 σ 138
noncomputable def AN(m:ME):MS:=λls hd=>(m ls hd).bind λp=>some (.rt p.1,p.2)
def ai(h:RE K t m):RS K (Ud t) (AN m):=by
 intro ρ σ H hd ls E f hd' hR hL hm hQ;obtain⟨⟨d1,h1⟩,e1,hm⟩:=ij hm;cases hm;exact h ρ σ H hd ls _ d1 _ hR hL e1 λρ1 H1 v x1 R1 r1=>hQ ρ1 H1 x1 R1 v r1
noncomputable def Ak(c:MT)(a b:MS):MS:=λls hd=>(c ls hd).bind λp=>if p.1=true then a ls p.2 else b ls p.2
def f8(hc:RT K tc c)(ha:RS K t a)(hb:RS K u b):RS K (Ui tc t u) (Ak c a b):=by
 intro ρ σ H hd ls E f hd' hR hL hm hQ;obtain⟨⟨d1,h1⟩,e1,hm⟩:=ij hm;refine hc ρ σ H hd ls _ d1 h1 hR hL e1 λρ1 H1 x1 R1=>?_;cases d1 with
 |true=>
  rw[il rfl]at hm ⊢;exact ha ρ1 σ H1 h1 ls E f hd' R1 138 hm λρ2 H2 x2 R2=>hQ ρ2 H2 89 R2
 |false=>
  rw[ip Bool.false_ne_true]at hm ⊢;exact hb ρ1 σ H1 h1 ls E f hd' R1 138 hm λρ2 H2 x2 R2=>hQ ρ2 H2 89 R2
noncomputable def GI:MS:=λ_ _=>none
def V0:RS K NG GI:=by
 intro ρ σ H hd ls E f hd' hR hL hm hQ;cases hm
noncomputable abbrev MG:=D->Ls->Hd->Option Ls
noncomputable abbrev MGs:=List D->Ls->Hd->Option Ls
def RGt(K:Frag)(t:TG)(m:MG):Prop:=∀(ρ:111) (σ:St) (H:Hp) (hd:Hd) (ls ls':Ls) (d:D) (v:V) (Q:St->Hp->Prop),RH K ρ H hd->RL K ρ H ls σ->RD K ρ H d v->m d ls hd=some ls' ->
 (∀σ',RL K ρ H ls' σ'->Q σ' H)->t v σ H Q
def On(K:Frag)(t:TGs)(m:MGs):Prop:=∀(ρ:111) (σ:St) (H:Hp) (hd:Hd) (ls ls':Ls) (d:137) (v:155) (Q:St->Hp->Prop),RH K ρ H hd->RL K ρ H ls σ->RDs K ρ H d v->m d ls hd=some ls' ->
 (∀σ',RL K ρ H ls' σ'->Q σ' H)->t v σ H Q
theorem RL.set(h:RL K ρ H ls σ)(i:Nat)(r:RD K ρ H d v):RL K ρ H (ls.set i (some d)) (σ.set i (some v)):=by
 refine⟨by simp[h.len],λj e q=>?_⟩;by_cases hij:i=j
 .subst hij;have hl:i<ls.length:=by
   have:=(75 q).1;simpa using this
  rw[List.getElem?_set_self hl]at q;cases q;exact⟨v,by rw[List.getElem?_set_self (by rw[<- h.len];exact hl)],r⟩
 .rw[List.getElem?_set_ne hij]at q;obtain⟨w,e1,e2⟩:=h.ob j e q;exact⟨w,by rw[List.getElem?_set_ne hij];exact e1,e2⟩
noncomputable def AD(i:Nat):MG:=λd ls _=>some (ls.set i (some d))
def L3{i:Nat}:RGt K (EB i) (AD i):=by
 intro ρ σ H hd ls ls' d v Q hR hL hd hm hQ;cases hm;exact hQ _ (hL.set i hd)
noncomputable def C2:MGs:=λds ls _=>match ds with
 |[]=>some ls
 |_=>none
noncomputable def AV(m:MG)(r:MGs):MGs:=λds ls hd=>match ds with
 |d::es=>(m d ls hd).bind λls1=>r es ls1 hd
 |[]=>none
def YM:On K WR C2:=by
 intro ρ σ H hd ls ls' d v Q hR hL hd hm hQ;cases d with
 |nil=>
  simp only[RDs]at hd;subst hd;cases hm;exact⟨rfl,hQ _ hL⟩
 |cons a b=>cases hm
def V8(h:RGt K t m)(h':On K u r):On K (Ri t u) (AV m r):=by
 intro ρ σ H hd ls ls' d v Q hR hL hd hm hQ;cases d with
 |nil=>cases hm
 |cons a b=>
  simp only[RDs]at hd;obtain⟨x,y,rfl,h1,h2⟩:=hd;obtain⟨ls1,e1,e2⟩:=ij hm;exact⟨x,y,rfl,h ρ σ H _ ls ls1 a x _ hR hL h1 e1 λσ1 L1=>h' ρ σ1 H _ ls1 ls' b y Q hR L1 h2 e2 hQ⟩
noncomputable def C1(n:Nat)(r:MGs):MG:=λd ls hd=>(Ai d).bind λds=>if 97=n then r ds ls hd else none
def az{n:Nat}(h':On K u r):RGt K (Rg K n u) (C1 n r):=by
 intro ρ σ H hd ls ls' d v Q hR hL hd hm hQ;obtain⟨ds,e1,hm⟩:=ij hm;split at hm
 .next c=>
  obtain⟨a,xs,rfl,q,rr⟩:=hd.tup e1;exact⟨a,xs,rfl,q,by rw[rr.len];exact c,h' ρ σ H _ ls ls' ds xs Q hR hL rr hm hQ⟩
 .cases hm
noncomputable def Fx(m:ME)(g:MG):MS:=λls hd=>(m ls hd).bind λp=>(g p.1 ls p.2).map λls'=>(.nx ls',p.2)
def Nf(h:RE K t m)(hg:RGt K g n):RS K (FF t g) (Fx m n):=by
 intro ρ σ H hd ls E f hd' hR hL hm hQ;obtain⟨⟨d1,h1⟩,e1,hm⟩:=ij hm;obtain⟨ls',e2,e3⟩:=ik hm;cases e3;exact h ρ σ H hd ls _ d1 _ hR hL e1 λρ1 H1 v x1 R1 r1=>hg ρ1 σ H1 _ ls ls' d1 v _ R1 138 r1 e2 λσ' L'=>hQ ρ1 H1 x1 R1 σ' L'
noncomputable abbrev AE(i:Nat)(m:ME):MS:=Fx m (AD i)
noncomputable abbrev Gd:=List (Nat×List D)
noncomputable abbrev MI:=Ls->Hd->Option ((List D×Gd)×Hd)
def GOk(hd:Hd)(g:Gd):Prop:=∀p∈g,hd[p.1]?=some (.lst p.2)
@[simp] theorem AJ(hd:Hd):GOk hd []:=λp h=>by cases h
def Oi(K:Frag)(ρ:111)(H:Hp)(J:It)(ds:137)(g:Gd):Prop:=∀(ρ2:111) (H2:Hp) (hd2:Hd),Ext ρ H ρ2 H2->RH K ρ2 H2 hd2->GOk hd2 g ->
 ∀i:Nat,(i<97->J.go i H2/\∀x H3,J.yld i H2 x H3->∃ρ3 d,Ext ρ2 H2 ρ3 H3/\ρ3=ρ2/\RH K ρ3 H3 hd2/\ds[i]?=some d/\RD K ρ3 H3 d x)/\(i=97->J.stop i H2)
def RIt(K:Frag)(t:TI)(m:MI):Prop:=∀(ρ:111) (σ:St) (H:Hp) (hd:Hd) (ls:Ls) (Q:It->Hp->Prop) (d:137) (g:Gd) (hd':Hd),RH K ρ H hd->RL K ρ H ls σ->m ls hd=some ((d,g),hd') ->
 (∀ρ' H' J,Ext ρ H ρ' H'->RH K ρ' H' hd'->GOk hd' g->Oi K ρ' H' J d g->Q J H')->t σ H Q
def Q8(hR:RH K ρ H hd)(q:SqT K H a xs)(r:RDs K ρ H ds xs)(g:Gd):Oi K ρ H (Itt K a) ds g:=by
 intro ρ2 H2 hd2 x2 R2 _ i;have q2:=(x2.grow hR).sq q;have r2:=r.ext hR x2;have uniq:∀ys,SqT K H2 a ys->True:=λ_ _=>trivial;refine⟨λhi=>?_,λhi=>⟨xs,q2,by rw[r2.len,hi];exact ir _⟩⟩;have e:ds[i]?=some ds[i]:=by simp[hi]
 obtain⟨x,x1,x3⟩:=r2.get e;refine⟨⟨xs,x,q2,x1⟩,λy H3 ⟨e3,hy⟩=>?_⟩;subst e3;have:=hy xs q2;rw[x1]at this;cases this;exact⟨ρ2,_,.refl,rfl,R2,e,x3⟩
noncomputable def Aw(m:ME):MI:=λls hd=>(m ls hd).bind λp=>(Ai p.1).map λds=>((ds,[]),p.2)
def Sj(h:RE K t m):RIt K (OG K t) (Aw m):=by
 intro ρ σ H hd ls Q d g hd' hR hL hm hQ;obtain⟨⟨d1,h1⟩,e1,hm⟩:=ij hm;obtain⟨ds,e2,e3⟩:=ik hm;cases e3;refine h ρ σ H hd ls _ d1 _ hR hL e1 λρ1 H1 v x1 R1 r1=>?_;obtain⟨a,xs,rfl,q,r⟩:=r1.tup e2;exact⟨a,rfl,⟨xs,q⟩,hQ ρ1 H1 _ x1 R1 (AJ _) (Q8 R1 q r [])⟩
noncomputable def Bs(m:ME):MI:=λls hd=>(m ls hd).bind λp=>match p.1 with
 |.mu n=>match p.2[n]? with
  |some (.lst ds)=>some ((ds,[(n,ds)]),p.2)
  |_=>none
 |.ro ns=>some ((ns.map λn=>.im (.int n),[]),p.2)
 |_=>none
def PQ(h:RE K t m):RIt K (Gk K t) (Bs m):=by
 intro ρ σ H hd ls Q d g hd' hR hL hm hQ;obtain⟨⟨d1,h1⟩,e1,hm⟩:=ij hm;dsimp only at hm;split at hm
 .next n=>
  split at hm
  .next ds q=>
   cases hm;refine h ρ σ H hd ls _ _ _ hR hL e1 λρ1 H1 v x1 R1 r1=>?_;simp only[RD]at r1;obtain⟨a,hn,rfl⟩:=r1;obtain⟨xs,e2,e3⟩:=R1.lst hn q;refine⟨a,rfl,⟨xs,SqL.of e2⟩,hQ ρ1 H1 _ x1 R1 (λp z=>by simp at z;subst z;exact q) ?_⟩;intro ρ2 H2 hd2 x2 R2 G2 i;have q2:=G2 (n,d) 71;have hn2:ρ2[n]?=some a:=by
    obtain⟨r,rfl,_⟩:=x2.pre;rw[List.getElem?_append_left (List.getElem?_eq_some_iff.mp hn).1];exact hn
   obtain⟨ys,e4,e5⟩:=R2.lst hn2 q2;refine⟨λhi=>?_,λhi=>⟨ys,SqL.of e4,by rw[e5.len,hi];exact ir _⟩⟩;have e:d[i]?=some d[i]:=by simp[hi]
   obtain⟨x,y1,y2⟩:=e5.get e;refine⟨⟨ys,x,SqL.of e4,y1⟩,λy H3 ⟨e6,hy⟩=>?_⟩;subst e6;have:=hy ys (SqL.of e4);rw[y1]at this;cases this;exact⟨ρ2,_,.refl,rfl,R2,e,y2⟩
  .cases hm
 .next ns=>
  cases hm;refine h ρ σ H hd ls _ _ _ hR hL e1 λρ1 H1 v x1 R1 r1=>?_;simp only[RD]at r1;obtain⟨a,rfl,q⟩:=r1;refine⟨a,rfl,⟨_,q.sq⟩,hQ ρ1 H1 _ x1 R1 (AJ _) ?_⟩;intro ρ2 H2 hd2 x2 R2 G2 i;have q2:=(q.grow (x2.grow R1)).sq;have e5:RDs K ρ2 H2 (ns.map λn=>.im (.int n)) 157:=E8;refine⟨λhi=>?_,λhi=>⟨_,q2,by rw[e5.len,hi];exact ir _⟩⟩;have e:(ns.map λn=>D.im (.int n))[i]?=some ((ns.map λn=>D.im (.int n))[i]):=by simp[hi]
  obtain⟨x,y1,y2⟩:=e5.get e;refine⟨⟨_,x,q2,y1⟩,λy H3 ⟨e6,hy⟩=>?_⟩;subst e6;have:=hy _ q2;rw[y1]at this;cases this;exact⟨ρ2,_,.refl,rfl,R2,e,y2⟩
 .cases hm
noncomputable def EX(ml:MA):MI:=λls hd=>(ml ls hd).map λp=>((p.1,[]),p.2)
def ay(h:RN K t m):RIt K (Gk K t) (EX m):=by
 intro ρ σ H hd ls Q d g hd' hR hL hm hQ;obtain⟨⟨d1,h1⟩,e1,e3⟩:=ik hm;obtain⟨⟨rfl,rfl⟩,rfl⟩:=Prod.mk.inj e3 |>.imp Prod.mk.inj id;clear e3 hm;refine h ρ σ H hd ls _ _ _ hR hL e1 λρ1 H1 a xs x1 R1 na oa ea r1=>?_;refine⟨a,rfl,⟨xs,SqL.of ea⟩,hQ ρ1 H1 _ x1 R1 (AJ _) ?_⟩;intro ρ2 H2 hd2 x2 R2 G2 i;have q2:SqL K H2 a xs:=SqL.of (x2.keep a _ ea oa nt);have r2:=r1.ext R1 x2;refine⟨λhi=>?_,λhi=>⟨xs,q2,by rw[r2.len,hi];exact ir _⟩⟩;have hi:i<d1.length:=hi;have e:d1[i]?=some d1[i]:=by simp[hi]
 obtain⟨x,y1,y2⟩:=r2.get e;refine⟨⟨xs,x,q2,y1⟩,λy H3 ⟨e6,hy⟩=>?_⟩;subst e6;have:=hy xs q2;rw[y1]at this;cases this;exact⟨ρ2,_,.refl,rfl,R2,e,y2⟩
noncomputable def B1(lo:Int):Nat->List D
 |0=>[]
 |n+1=>.im (.int lo)::B1 (lo+1) n
@[simp] theorem K4(lo:Int)(n:Nat):(B1 lo n).length=n:=by
 induction n generalizing lo with
 |zero=>rfl
 |succ n ih=>simp[B1,ih]
def K5{n:Nat}:∀{lo:Int} {i:Nat},i<n->(B1 lo n)[i]?=some (.im (.int (lo+i))):=by
 induction n with
 |zero=>intro lo i h;omega
 |succ n ih=>
  intro lo i h;cases i with
  |zero=>simp[B1]
  |succ i=>
   simp only[B1,List.getElem?_cons_succ];rw[ih 68]
   congr 3
   push_cast
   omega
def Q9{lo:Int}{n:Nat}:Oi K ρ H (Itr lo n) (B1 lo n) g:=by
 intro ρ2 H2 hd2 x2 R2 G2 i;refine⟨λhi=>?_,λhi=>by rw[hi,K4];exact ir _⟩;rw[K4]at hi;refine⟨hi,λx H3 ⟨e1,e2⟩=>?_⟩;subst e1 e2;exact⟨ρ2,_,.refl,rfl,R2,K5 hi,by simp[RD,RI]⟩
open Classical in
noncomputable def Cu(m:MA):MI:=λls hd=>(m ls hd).bind λp=>match p.1 with
 |[.im (.int j)]=>if GW j then some ((B1 0 j.toNat,[]),p.2)else none
 |_=>none
def YL(h:RA K t m):RIt K (Ra t) (Cu m):=by
 intro ρ σ H hd ls Q d g hd' hR hL hm hQ;obtain⟨⟨d1,h1⟩,e1,hm⟩:=ij hm;dsimp only at hm;split at hm
 .next j=>
  split at hm
  .next c=>
   cases hm;refine h ρ σ H hd ls _ _ _ hR hL e1 λρ1 H1 v x1 R1 r1=>?_;simp only[RDs,RD,RI]at r1;obtain⟨x,r,rfl,rfl,rfl⟩:=r1;exact⟨j,rfl,c.1,c.2,hQ ρ1 H1 _ x1 R1 (AJ _) Q9⟩
  .cases hm
 .cases hm
open Classical in
noncomputable def Bp(n:MG)(b:MS)(g:Gd):List D->Ls->Hd->Option (Fl×Hd)
 |[],ls,hd=>some (.nx ls,hd)
 |d::r,ls,hd=>(n d ls hd).bind λls1=>(b ls1 hd).bind λp=>match p.1 with
  |.nx ls2=>if GOk p.2 g then Bp n b g r ls2 p.2 else none
  |.ct ls2=>if GOk p.2 g then Bp n b g r ls2 p.2 else none
  |.bk ls2=>some (.nx ls2,p.2)
  |.rt d=>some (.rt d,p.2)
noncomputable def Be(mi:MI)(n:MG)(b:MS):MS:=λls hd=>(mi ls hd).bind λp=>Bp n b p.1.2 p.1.1 ls p.2
def aj(hi:RIt K wi mi)(hg:RGt K g n)(hb:RS K tb b):RS K (Uj wi g tb) (Be mi n b):=by
 intro ρ σ H hd ls E f hd' hR hL hm hQ;obtain⟨⟨⟨ds,gd⟩,h1⟩,e1,hm⟩:=ij hm;refine hi ρ σ H hd ls _ ds gd h1 hR hL e1 λρ1 H1 J x1 R1 G1 Y=>?_;dsimp only at hm;refine⟨λi m σ2 H2=>m=97-i/\i<=97/\∃ρ2 ls2 hd2,Ext ρ1 H1 ρ2 H2/\RH K ρ2 H2 hd2/\RL K ρ2 H2 ls2 σ2/\GOk hd2 gd/\Bp n b gd (ds.drop i) ls2 hd2=some (f,hd'),
  ⟨97,by simp,jw _,ρ1,ls,h1,.refl,R1,hL.ext hR x1,G1,by simpa using hm⟩,?_⟩
 rintro i m σ2 H2 ⟨rfl,hi,ρ2,ls2,hd2,x2,R2,L2',G2,hm2⟩;obtain⟨Y1,Y2⟩:=Y ρ2 H2 hd2 x2 R2 G2 i;by_cases hlt:i<97
 .obtain⟨go,Y1⟩:=Y1 hlt;have ed:ds.drop i=ds[i]::ds.drop (i+1):=List.drop_eq_getElem_cons hlt;rw[ed]at hm2;unfold Bp at hm2;obtain⟨ls3,e3,hm2⟩:=ij hm2;obtain⟨⟨fl,hd4⟩,e4,hm2⟩:=ij hm2;refine .inr ⟨go,λσ' H'=>∃ρ2 ls2 hd2,Ext ρ1 H1 ρ2 H'/\RH K ρ2 H' hd2/\RL K ρ2 H' ls2 σ'/\GOk hd2 gd/\Bp n b gd (ds.drop (i+1)) ls2 hd2=some (f,hd'),λσ' H' z=>⟨97-(i+1),by omega,rfl,hlt,z⟩,λx H3 y=>?_⟩;obtain⟨ρ3,d3,x3,rfl,R3,e5,r3⟩:=Y1 x H3 y;have e6:d3=ds[i]:=by
   have:ds[i]?=some ds[i]:=by simp[hlt]
   rw[this]at e5;exact(102 e5).symm
  subst e6;refine hg ρ3 σ2 H3 hd2 ls2 ls3 _ x _ R3 (L2'.ext R2 x3) r3 e3 λσ4 L4=>?_;refine hb ρ3 σ4 H3 hd2 ls3 _ fl hd4 R3 L4 e4 λρ5 H5 x5 R5=>?_;have x15:=(x2.trans R2 x3).trans R3 x5;cases fl with
  |nx ls5=>
   intro σ5 L5;dsimp only at hm2;split at hm2
   .next c=>exact⟨ρ5,ls5,hd4,x15,R5,L5,c,hm2⟩
   .cases hm2
  |ct ls5=>
   intro σ5 L5;dsimp only at hm2;split at hm2
   .next c=>exact⟨ρ5,ls5,hd4,x15,R5,L5,c,hm2⟩
   .cases hm2
  |bk ls5=>
   intro σ5 L5;cases hm2;exact hQ ρ5 H5 (x1.trans R1 x15) R5 σ5 L5
  |rt d5=>
   intro v5 r5;cases hm2;exact hQ ρ5 H5 (x1.trans R1 x15) R5 v5 r5
 .have e:i=ds.length:=by omega
  subst e;rw[List.drop_length]at hm2;unfold Bp at hm2;cases hm2;exact .inl ⟨Y2 rfl,hQ ρ2 H2 89 R2 σ2 L2'⟩
open Classical in
noncomputable def CO(n:MG)(c:MT)(m:ME)(g:Gd):List D->Ls->Hd->Option (List D×Hd)
 |[],_,hd=>some ([],hd)
 |d::r,ls,hd=>(n d ls hd).bind λls1=>(c ls1 hd).bind λp=>if p.1=true then(m ls1 p.2).bind λq=>if GOk q.2 g then(CO n c m g r ls1 q.2).map λz=>(q.1::z.1,z.2)else none else if GOk p.2 g then CO n c m g r ls1 p.2 else none
noncomputable def DS(k:Nat)(ix:73)(ls:Ls):Ls:=79 k none++ix.map λi=>(ls[i]?).join
open Classical in
noncomputable def Ab(k:Nat)(ix:73)(mi:MI)(n:MG)(c:MT)(m:ME):MA:=λls hd=>(mi ls hd).bind λp=>if Bu p.1.1.length then CO n c m p.1.2 p.1.1 (DS k ix ls) p.2 else none
def aG{k:Nat}(h:RL K ρ H ls σ):RL K ρ H (DS k ix ls) (ID k ix σ):=by
 refine⟨by simp[DS,ID],λi d e=>?_⟩;unfold DS at e;unfold ID;by_cases hi:i<k
 .rw[List.getElem?_append_left (by simpa using hi),List.getElem?_replicate]at e;split at e<;>cases e
 .have hi':k<=i:=not_lt.mp hi;rw[List.getElem?_append_right (by simpa using hi'),List.length_replicate,List.getElem?_map]at e ⊢;cases q:ix[i-k]? with
  |none=>rw[q]at e;cases e
  |some j=>
   rw[q]at e;simp only[je,Option.some.injEq]at e ⊢;have e5:ls[j]?=some (some d):=by
    cases w:ls[j]? with
    |none=>rw[w]at e;cases e
    |some z=>rw[w]at e;simpa using e
   obtain⟨v,e6,e7⟩:=h.ob j d e5;exact⟨v,by rw[e6];rfl,e7⟩
def RH.hputO(h:RH K ρ H hd)(out:a∉ρ)(hl:H a=some o)(c:Chg H a)(n1:∀ps,o≠.tbl ps)(n2:∀φ,o≠.ext φ):RH K ρ (upd H a ho) hd:=by
 have gr:Grow H (upd H a ho):=Grow.refl.put c;refine⟨h.len,h.nd,h.tabs.upd (λps z=>n1 ps (102 (hl.symm.trans z))) (λps z=>n2 ps (102 (hl.symm.trans z))),λm o' b e1 e2=>?_⟩;obtain⟨ho',q1,q2⟩:=h.ob m o' b e1 e2;have:b≠a:=λz=>out (by rw[<- z];exact jf e2);exact⟨ho',by rw[upd_ne this];exact q1,by simpa using q2.mono gr []⟩
def Ext.outk(x:Ext ρ H ρ' H')(h:H a=some o)(out:a∉ρ):a∉ρ':=by
 obtain⟨r,rfl,fr⟩:=x.pre;intro z;rcases mem_append.mp z with z|z
 .exact out z
 .have:=fr _ z;rw[h]at this;cases this
structure Acc(K:Frag)(α:Type)(o0:HO)(a0:α) where
 rel:List Addr->Hp->α->HO->Prop
 mono:∀{ρ:111} {H H':Hp} {a:α} {o:HO} (r:111),Grow H H'->rel ρ H a o->rel (ρ++r) H' a o
 chg:∀{ρ:111} {H:Hp} {a:α} {o:HO},rel ρ H a o->¬ Stb o
 chg2:∀{ρ:111} {H:Hp} {a:α} {o:HO},rel ρ H a o->(∀xs,o≠.tbl xs)/\∀z,o≠.ext z
 init:∀ρ H,rel ρ H a0 o0
noncomputable abbrev MM(α:Type):=Ls->Hd->α->Option (α×Hd)
def RM1{α:Type}{o0:HO}{a0:α}(B:Acc K α o0 a0)(t:TM)(m:MM α):Prop:=∀(ρ:111) (σ:St) (H:Hp) (hd:Hd) (ls:Ls) (a a':α) (hd':Hd) (Da:Addr) (o:HO) (Q:Hp->Prop),RH K ρ H hd->RL K ρ H ls σ->Da∉ρ->H Da=some o->B.rel ρ H a o ->
 m ls hd a=some (a',hd')->(∀ρ' H' o',Ext ρ H ρ' H'->RH K ρ' H' hd'->H' Da=some o->B.rel ρ' H' a' o'->Q (upd H' Da o'))->t Da σ H Q
open Classical in
noncomputable def mGo{α:Type}(n:MG)(c:MT)(me:MM α)(g:Gd):List D->Ls->Hd->α->Option (α×Hd)
 |[],_,hd,a=>some (a,hd)
 |d::r,ls,hd,a=>(n d ls hd).bind λls1=>(c ls1 hd).bind λp=>if p.1=true then(me ls1 p.2 a).bind λq=>if GOk q.2 g then mGo n c me g r ls1 q.2 q.1 else none else if GOk p.2 g then mGo n c me g r ls1 p.2 a else none
noncomputable def Ho{α:Type}(k:Nat)(ix:73)(mi:MI)(n:MG)(c:MT)(a0:α)(me:MM α):Ls->Hd->Option (α×Hd):=λls hd=>(mi ls hd).bind λp=>mGo n c me p.1.2 p.1.1 (DS k ix ls) p.2 a0
def RNG{α:Type}{o0:HO}{a0:α}(B:Acc K α o0 a0)(t:TE)(m:Ls->Hd->Option (α×Hd)):Prop:=∀(ρ:111) (σ:St) (H:Hp) (hd:Hd) (ls:Ls) (Q:VK) (a:α) (hd':Hd),RH K ρ H hd->RL K ρ H ls σ->m ls hd=some (a,hd') ->
 (∀ρ' H' Da o,Ext ρ H ρ' H'->RH K ρ' H' hd'->H Da=none->Da∉ρ'->H' Da=some o->B.rel ρ' H' a o->Q (.ref Da) H')->t σ H Q
def Ng{α:Type}{o0:HO}{a0:α}{B:Acc K α o0 a0}{k:Nat}{ix:73}{wi:TI}{g:TG}{tf:TT}{tm:TM}{mi:MI}{n:MG}{c:MT}{m:MM α}(hi:RIt K wi mi)(hg:RGt K g n)(hf:RT K tf c)(he:RM1 B tm m):RNG B (G7 o0 k ix wi g tf tm) (Ho k ix mi n c a0 m):=by
 intro ρ σ H hd ls Q out hd' hR hL hm hQ;obtain⟨⟨⟨ds,gd⟩,h1⟩,e1,hm⟩:=ij hm;dsimp only at hm;refine hi ρ σ H hd ls _ ds gd h1 hR hL e1 λρ1 H1 J x1 R1 G1 Y=>?_;intro Da hDa;obtain⟨R1',x1'⟩:=R1.hid (ho:=o0) hDa;have oD:Da∉ρ1:=R1.out hDa;have nD:H Da=none:=x1.none hR hDa R1;refine⟨λi mm σ2 H2=>mm=97-i/\i<=97/\∃ρ2 ls2 hd2 a2 o2,Ext ρ1 H1 ρ2 H2/\Da∉ρ2/\H2 Da=some o2/\RH K ρ2 H2 hd2/\RL K ρ2 H2 ls2 σ2/\B.rel ρ2 H2 a2 o2/\GOk hd2 gd/\mGo n c m gd (ds.drop i) ls2 hd2 a2=some (out,hd'),
  ⟨97,by simp,jw _,ρ1,_,h1,a0,o0,x1',oD,AH,R1',(aG ((138).ext R1 x1')),B.init _ _,G1,by simpa using hm⟩,?_⟩
 rintro i mm σ2 H2 ⟨rfl,hi,ρ2,ls2,hd2,a2,o2,x2,oD2,hD2,R2,L2',r2,G2,hm2⟩;obtain⟨Y1,Y2⟩:=Y ρ2 H2 hd2 x2 R2 G2 i;by_cases hlt:i<97
 .obtain⟨go,Y1⟩:=Y1 hlt;have ed:ds.drop i=ds[i]::ds.drop (i+1):=List.drop_eq_getElem_cons hlt;rw[ed]at hm2;unfold mGo at hm2;obtain⟨ls3,e3,hm2⟩:=ij hm2;obtain⟨⟨bb,hd4⟩,e4,hm2⟩:=ij hm2;refine .inr ⟨go,λσ' H'=>∃ρ2 ls2 hd2 a2 o2,Ext ρ1 H1 ρ2 H'/\Da∉ρ2/\H' Da=some o2/\RH K ρ2 H' hd2/\RL K ρ2 H' ls2 σ'/\B.rel ρ2 H' a2 o2/\GOk hd2 gd/\mGo n c m gd (ds.drop (i+1)) ls2 hd2 a2=some (out,hd'),λσ' H' z=>⟨97-(i+1),by omega,rfl,hlt,z⟩,λx H3 y=>?_⟩;obtain⟨ρ3,d3,x3,rfl,R3,e5,r3⟩:=Y1 x H3 y;have e6:d3=ds[i]:=by
   have:ds[i]?=some ds[i]:=by simp[hlt]
   rw[this]at e5;exact(102 e5).symm
  subst e6;refine hg ρ3 σ2 H3 hd2 ls2 ls3 _ x _ R3 (L2'.ext R2 x3) r3 e3 λσ4 L4=>?_;refine hf ρ3 σ4 H3 hd2 ls3 _ bb hd4 R3 L4 e4 λρ5 H5 x5 R5=>?_;have hD3:H3 Da=some o2:=x3.keep Da _ hD2 oD2 (B.chg2 r2).1;have hD5:H5 Da=some o2:=x5.keep Da _ hD3 oD2 (B.chg2 r2).1;have out5:Da∉ρ5:=x5.outk hD3 oD2;have y25:=x3.trans R3 x5;have r5:B.rel ρ5 H5 a2 o2:=by
   obtain⟨r,rfl,fr⟩:=y25.pre;exact B.mono r (y25.grow R2) r2
  cases bb with
  |false=>
   rw[ip Bool.false_ne_true]at hm2 ⊢;split at hm2
   .next g5=>exact⟨ρ5,ls3,hd4,a2,o2,x2.trans R2 y25,out5,hD5,R5,L4.ext R3 x5,r5,g5,hm2⟩
   .cases hm2
  |true=>
   rw[il rfl]at hm2 ⊢;obtain⟨⟨z,hd6⟩,e6,hm2⟩:=ij hm2;dsimp only at hm2;split at hm2
   .next g6=>
    refine he ρ5 σ4 H5 hd4 ls3 a2 z hd6 Da o2 _ R5 (L4.ext R3 x5) out5 hD5 r5 e6 λρ6 H6 o6 x6 R6 hD6 r6=>?_;have out6:Da∉ρ6:=x6.outk hD5 out5;have c6:Chg H6 Da:=λu st z=>B.chg r5 (by rw[hD6]at z;cases z;exact st);have gr:Grow H6 (upd H6 Da o6):=Grow.refl.put c6;have R7:=R6.hputO (ho:=o6) out6 hD6 c6 (B.chg2 r5).1 (B.chg2 r5).2;have x12:=(x2.trans R2 y25).trans R5 x6;have ext7:Ext ρ1 H1 ρ6 (upd H6 Da o6):=⟨x12.pre,λb o q nb t=>by
     have:b≠Da:=AM q hDa;rw[upd_ne this];exact x12.keep b o q nb t,λb ps q=>by
     have:b≠Da:=AM q hDa;rw[upd_ne this];exact x12.tab b ps q⟩
    have L6:=(L4.ext R3 x5).ext R5 x6;exact⟨ρ6,ls3,hd6,z,o6,ext7,out6,AH,R7,⟨L6.len,λi d e=>let ⟨v,a,b⟩:=L6.ob i d e;⟨v,a,by simpa using b.mono gr []⟩⟩,by simpa using B.mono [] gr r6,g6,hm2⟩
   .cases hm2
 .have e:i=ds.length:=by omega
  subst e;rw[List.drop_length]at hm2;unfold mGo at hm2;cases hm2;exact .inl ⟨Y2 rfl,hQ ρ2 H2 Da o2 89 R2 nD oD2 hD2 r2⟩
noncomputable def gu(K:Frag):Acc K (List D) (.lst []) [] where
 rel:=λρ H a o=>∃xs,o=.lst xs/\RDs K ρ H a xs
 mono:=λr g ⟨xs,e,q⟩=>⟨xs,e,q.mono g r⟩
 chg:=λ⟨xs,e,q⟩ st=>by subst e;exact st
 chg2:=λ⟨xs,e,q⟩=>⟨λ_ z=>(by subst e;cases z),λ_ z=>(by subst e;cases z)⟩
 init:=λρ H=>⟨[],rfl,.nil⟩
noncomputable def RU(m:ME):MM (List D):=λls hd a=>(m ls hd).bind λq=>if a.length<sizeLine then some (a++[q.1],q.2)else none
def av(he:RE K te m):RM1 (gu K) (RV te) (RU m):=by
 intro ρ σ H hd ls a a' hd' Da o Q hR hL out hD hrel hm hQ;obtain⟨⟨d1,h1⟩,e1,hm⟩:=ij hm;obtain⟨xs,rfl,r⟩:=hrel;dsimp only at hm;split at hm
 .next c=>
  cases hm;refine he ρ σ H hd ls _ d1 _ hR hL e1 λρ1 H1 v1 x1 R1 r1=>?_;have hD1:H1 Da=some 158:=x1.keep Da _ hD out nt;have r':=r.ext hR x1;exact⟨xs,hD1,by rw[r'.len];exact c,hQ ρ1 H1 _ x1 R1 hD1 ⟨_,rfl,r'.app (.cons r1 .nil)⟩⟩
 .cases hm
theorem O4{n:MG}{c:MT}{m:ME}{g:Gd}{hd':Hd}:∀{ds:137} {ls:Ls} {hd:Hd} {a rest:137},a.length+97<=sizeLine->CO n c m g ds ls hd=some (rest,hd')->mGo n c (RU m) g ds ls hd a=some (a++rest,hd')
 |[],ls,hd,a,rest,l,e=>by cases e;simp[mGo]
 |d::r,ls,hd,a,rest,l,e=>by
  rw[ji]at l;unfold CO at e;unfold mGo;obtain⟨ls1,e1,e⟩:=ij e;obtain⟨⟨b,h1⟩,e2,e⟩:=ij e;rw[e1,bind_some,e2,bind_some];cases b with
  |false=>
   simp only[Bool.false_eq_true,jj]at e ⊢;split at e
   .next q=>rw[il q];exact O4 68 e
   .cases e
  |true=>
   simp only[j8]at e ⊢;obtain⟨⟨z,h2⟩,e3,e⟩:=ij e;dsimp only at e;split at e
   .next q=>
    obtain⟨⟨zs,h3⟩,e4,e⟩:=ik e;cases e;simp only[RU,e3,bind_some];rw[il (show a.length<sizeLine by omega)];simp only[bind_some];rw[il q,O4 82 e4];simp
   .cases e
def PP{k:Nat}{ix:73}{wi:TI}{g:TG}{tf:TT}{te:TE}{mi:MI}{n:MG}{c:MT}{m:ME}(hi:RIt K wi mi)(hg:RGt K g n)(hf:RT K tf c)(he:RE K te m):RN K (GT k ix wi g tf te) (Ab k ix mi n c m):=by
 intro ρ σ H hd ls Q out hd' hR hL hm hQ;obtain⟨⟨⟨ds,gd⟩,h1⟩,e1,hm⟩:=ij hm;dsimp only at hm;split at hm
 .next hlen=>
  have hlen:97<=sizeLine:=hlen;refine Ng hi hg hf (av he) ρ σ H hd ls Q out hd' hR hL (Option.bind_eq_some_iff.mpr ⟨_,e1,O4 (by simpa using hlen) hm⟩) λρ' H' Da o x R n1 n2 e r=>?_;obtain⟨xs,rfl,r⟩:=r;exact hQ ρ' H' Da xs x R n1 n2 e r
 .cases hm
end
mutual
noncomputable def clD(w:Nat):D->Bool
 |.im _=>true
 |.mu n=>decide (n<w)
 |.tm ds=>As w ds
 |.ro _=>true
 |.op _ _ ds=>As w ds
 |.fv _ ds=>As w ds
noncomputable def As(w:Nat):List D->Bool
 |[]=>true
 |d::ds=>clD w d&&As w ds
end
noncomputable def Gw(w:Nat):List (Key×D)->Bool
 |[]=>true
 |d::ds=>clD w d.2&&Gw w ds
noncomputable def clO(w:Nat):MO->Bool
 |.lst ds=>As w ds
 |.dic ds=>Gw w ds
section
variable{K:Frag}
@[simp] theorem gp{w:Nat}(a b:137):As w (a++b)=(As w a&&As w b):=by induction a<;>simp_all [As,Bool.and_assoc]
mutual
theorem RD.take(w:Nat):∀{d:D} {v:V},RD K ρ H d v->clD w d=true->RD K (ρ.take w) H d v
 |.im i,v,h,_=>by simp only[RD]at h ⊢;exact h
 |.mu n,v,h,c=>by
  simp only[RD]at h ⊢;obtain⟨a,e,q⟩:=h;exact⟨a,by rw[List.getElem?_take_of_lt (by simpa [clD]using c)];exact e,q⟩
 |.tm ds,v,h,c=>by
  simp only[RD]at h ⊢;obtain⟨a,xs,e,q,z⟩:=h;exact⟨a,xs,e,q,RDs.take' w z (by simpa [clD]using c)⟩
 |.ro ns,v,h,c=>by simp only[RD]at h ⊢;exact h
 |.op nm fs ds,v,h,c=>by
  simp only[RD]at h ⊢;obtain⟨a,xs,e,q,z⟩:=h;exact⟨a,xs,e,q,RDs.take' w z (by simpa [clD]using c)⟩
 |.fv k ds,v,h,c=>by
  simp only[RD]at h ⊢;obtain⟨a,xs,e,q,z⟩:=h;exact⟨a,xs,e,q,RDs.take' w z (by simpa [clD]using c)⟩
theorem RDs.take'(w:Nat):∀{d:137} {v:155},RDs K ρ H d v->As w d=true->RDs K (ρ.take w) H d v
 |[],v,h,_=>by simpa only[RDs]using h
 |d::ds,v,h,c=>by
  simp only[RDs]at h ⊢;obtain⟨x,r',e,q,z⟩:=h;have c:clD w d=true/\As w ds=true:=by simpa [As]using c
  exact⟨x,r',e,q.take w c.1,RDs.take' w z c.2⟩
end
theorem RKs.take(w:Nat):∀{d:List (Key×D)} {v:List (Key×V)},RKs K ρ H d v->Gw w d=true->RKs K (ρ.take w) H d v
 |[],v,h,_=>by simpa only[RKs]using h
 |d::ds,v,h,c=>by
  simp only[RKs]at h ⊢;obtain⟨x,r',e,q1,q,z⟩:=h;have c:clD w d.2=true/\Gw w ds=true:=by simpa [Gw]using c
  exact⟨x,r',e,q1,q.take w c.1,RKs.take w z c.2⟩
theorem RC.take(w:Nat)(h:RC K ρ H o ho)(c:clO w o=true):RC K (ρ.take w) H o ho:=by
 cases o with
 |lst ds=>obtain⟨xs,e,q⟩:=h;exact⟨xs,e,q.take' w c⟩
 |dic ds=>obtain⟨xs,e,q⟩:=h;exact⟨xs,e,q.take w c⟩
theorem RH.take(h:RH K ρ H hd)(w:Nat)(c:(hd.take w).all (clO w)=true):RH K (ρ.take w) H (hd.take w):=by
 refine⟨by simp[h.len],h.nd.sublist (List.take_sublist _ _),h.tabs,λn o a e1 e2=>?_⟩;have co:=all_eq_true.mp c o (jf e1);have hn:n<w:=by
  have:=(75 e1).1;simp at this;omega
 rw[List.getElem?_take_of_lt hn]at e1 e2;obtain⟨ho,q1,q2⟩:=h.ob n o a e1 e2;exact⟨ho,q1,q2.take w co⟩
def RH.back(R1:RH K ρ1 H1 h1){w:Nat}(hw:w<=h1.length)(c1:(h1.take w).all (clO w)=true)(x:Ext (ρ1.take w) H1 ρ' H')(R':RH K ρ' H' h2)(c:(h2.take w).all (clO w)=true):
 RH K ρ1 H' (h2.take w++h1.drop w)/\Ext ρ1 H1 ρ1 H'/\ρ'.take w=ρ1.take w:=by
 obtain⟨r,rfl,fr⟩:=x.pre;have lw:(ρ1.take w).length=w:=by rw[jL,R1.len];omega
 have l2:w<=h2.length:=by rw[<- R'.len];simp[lw]
 have tk:(ρ1.take w++r).take w=ρ1.take w:=by rw[List.take_append_of_le_length 68,List.take_take];simp
 refine⟨⟨?_,R1.nd,R'.tabs,λn o a e1 e2=>?_⟩,⟨⟨[],by simp,by simp⟩,λb o q nb t=>x.keep b o q (λm=>nb (List.mem_of_mem_take m)) t,x.tab⟩,tk⟩
 .rw[jo,jL,length_drop,R1.len];omega
 .by_cases hn:n<w
  .rw[List.getElem?_append_left (by rw[jL];omega),List.getElem?_take_of_lt hn]at e1;have e3:(ρ1.take w++r)[n]?=some a:=by
    rw[List.getElem?_append_left 68,List.getElem?_take_of_lt hn];exact e2
   obtain⟨ho,q1,q2⟩:=R'.ob n o a e1 e3;have co:=all_eq_true.mp c o (by
    have:(h2.take w)[n]?=some o:=by rw[List.getElem?_take_of_lt hn];exact e1
    exact jf this)
   have q3:=q2.take w co;rw[tk]at q3;have q4:=q3.mono (Grow.refl (H:=H')) (ρ1.drop w);rw[List.take_append_drop]at q4;exact⟨ho,q1,q4⟩
  .rw[List.getElem?_append_right (by rw[jL];omega),jL,List.getElem?_drop]at e1;have e1:h1[n]?=some o:=by
    have:w+(n-min w h2.length)=n:=by omega
    rw[this]at e1;exact e1
   obtain⟨ho,q1,q2⟩:=R1.ob n o a e1 e2;have out:a∉ρ1.take w:=λm=>by
    obtain⟨k,hk⟩:=mem_iff_getElem?.mp m;have kw:k<w:=by
     have:=(75 hk).1;rw[lw]at this;exact this
    rw[List.getElem?_take_of_lt kw]at hk;have:=(List.getElem?_inj (75 e2).1 R1.nd).mp (e2.trans hk.symm);omega
   have gr:=x.grow (R1.take w c1);exact⟨ho,x.keep a ho q1 out (λps z=>by rcases R1.mut (jf e2)with⟨y,w⟩|⟨y,w⟩<;>(rw[q1,z]at w;cases w)),by simpa using q2.mono gr []⟩
noncomputable def spF(K:Frag)(k:Nat)(F:118):Sp:=λvs H Q _=>112=k/\∃(ρ:111) (hd:Hd) (ds:137) (d:D) (hd':Hd),RH K ρ H hd/\RDs K ρ H ds vs/\F ds hd=some (d,hd')/\
 ∀ρ' H' v,Ext ρ H ρ' H'->RH K ρ' H' hd'->RD K ρ' H' d v->Q v H'
noncomputable def mkF(k n:Nat)(m:MS):List D->Hd->Option 161:=λds hd=>if 97=k then(match m (ds.map some++79 (n-k) none) hd with
 |some (.rt d,hd')=>some (d,hd')
 |some (.nx _,hd')=>some (.im .non,hd')
 | _=>none)else none
def Nh{N:190}:∀{ds:137} {vs:155},RDs K ρ H ds vs->RL K ρ H (ds.map some++79 (N.length-97) none) (start N vs):=by
 intro ds vs r;have hl:=r.len;refine⟨by simp[start,hl],λi d e=>?_⟩;unfold start;by_cases hi:i<97
 .rw[List.getElem?_append_left (by simpa using hi),List.getElem?_map]at e;have e':ds[i]?=some d:=by
   cases q:ds[i]? with
   |none=>rw[q]at e;cases e
   |some z=>rw[q]at e;simpa using e
  obtain⟨x,x1,x2⟩:=r.get e';exact⟨x,by rw[List.getElem?_append_left (by rw[ja,hl];exact hi),List.getElem?_map,x1];rfl,x2⟩
 .rw[List.getElem?_append_right (by simpa using not_lt.mp hi),List.getElem?_replicate]at e;split at e<;>cases e
def PB{k:Nat}{N:190}(h:RS K t m)(s:spF K k (mkF k N.length m) vs H Q E):t { nx:=λ_ H'=>Q .non H',rt:=Q } (start N vs) H:=by
 obtain⟨hk,ρ,hd,ds,d,hd',hR,hr,hF,hQ⟩:=s;unfold mkF at hF;split at hF
 .next hl=>
  subst hl;split at hF
  .next q=>
   cases hF;exact h ρ _ H hd _ _ _ _ hR (Nh hr) q λρ' H' x R v r=>hQ ρ' H' v x R r
  .next q=>
   cases hF;exact h ρ _ H hd _ _ _ _ hR (Nh hr) q λρ' H' x R σ L=>hQ ρ' H' .non x R 133
  .cases hF
 .cases hF
noncomputable def BZ(F:118)(ma:MA):ME:=λls hd=>(186).bind λp=>F p.1 p.2
def VG{k:Nat}{F:118}(h:RA K t m)(hk:∀ds hd z,F ds hd=some z->97=k):RE K (CU (spF K k F) [] E0 t) (BZ F m):=by
 and_intros;obtain⟨⟨d1,h1⟩,e1,hm⟩:=ij hm;refine h ρ σ H hd ls _ d1 h1 hR hL e1 λρ1 H1 v1 x1 R1 r1=>?_;rw[jq];exact⟨by rw[r1.len];exact hk _ _ _ hm,ρ1,h1,d1,d,hd',R1,r1,hm,λρ' H' w x2 R2 r2=>hQ ρ' H' w 89 R2 r2⟩
def Pi{k n:Nat}:∀ds hd z,mkF k n m ds hd=some z->97=k:=λds hd z h=>by
 unfold mkF at h;split at h
 .next e=>exact e
 .cases h
def fin(w:Nat)(d:D)(h2 rest:Hd):Option 161:=if(h2.take w).all (clO w)=true then(match d with
 | .mu k=>if k<w then some (.mu k,h2.take w++rest)else(match h2[k]? with
  |some (.lst ds)=>if As w ds=true then some (.mu (w+rest.length),h2.take w++rest++[.lst ds])else none
  | _=>none)
 | d=>if clD w d=true then some (d,h2.take w++rest)else none)else none
noncomputable def A8(w:Nat)(F:118)(ma:MA):ME:=λls hd=>(186).bind λp=>
 if w<=p.2.length/\As w p.1=true/\(p.2.take w).all (clO w)=true then(F p.1 (p.2.take w)).bind λr=>fin w r.1 r.2 (p.2.drop w)else none
def Nl{w k:Nat}{F:118}(h:RA K t m)(hk:∀ds hd z,F ds hd=some z->97=k):RE K (CU (spF K k F) [] E0 t) (A8 w F m):=by
 and_intros;obtain⟨⟨d1,h1⟩,e1,hm⟩:=ij hm;dsimp only at hm;split at hm
 .next c=>
  obtain⟨c0,c1,c2⟩:=c;obtain⟨⟨d2,h2⟩,e2,hm⟩:=ij hm;refine h ρ σ H hd ls _ d1 h1 hR hL e1 λρ1 H1 v1 x1 R1 r1=>?_;rw[jq];refine⟨by rw[r1.len];exact hk _ _ _ e2,ρ1.take w,h1.take w,d1,d2,h2,R1.take w c2,r1.take' w c1,e2,λρ' H' v x2 R2 r2=>?_⟩;unfold fin at hm;dsimp only at hm;split at hm
  .next c3=>
   obtain⟨R3,x3,tk⟩:=R1.back c0 c2 x2 R2 c3;have up:∀{d:D} {v:V},RD K ρ' H' d v->clD w d=true->RD K ρ1 H' d v:=λr c=>by
    have q:=r.take w c;rw[tk]at q;have q:=q.mono (Grow.refl (H:=H')) (ρ1.drop w);rw[List.take_append_drop]at q;exact q
   have ups:∀{d:137} {v:155},RDs K ρ' H' d v->As w d=true->RDs K ρ1 H' d v:=λr c=>by
    have q:=r.take' w c;rw[tk]at q;have q:=q.mono (Grow.refl (H:=H')) (ρ1.drop w);rw[List.take_append_drop]at q;exact q
   split at hm
   .next k'=>
    split at hm
    .next hk'=>
     cases hm;exact hQ ρ1 H' v (x1.trans R1 x3) R3 (up r2 (by simpa [clD]using hk'))
    .next hk'=>
     split at hm
     .next ds q=>
      split at hm
      .next c4=>
       cases hm;simp only[RD]at r2;obtain⟨a,ea,rfl⟩:=r2;obtain⟨xs,l1,l2⟩:=R2.lst ea q;have len3:=R3.len;have out:a∉ρ1:=λm=>by
        -- a is one of those made behind the first w
        obtain⟨r,er,fr⟩:=x2.pre;have lw:(ρ1.take w).length=w:=by rw[jL,R1.len];omega
        have ma:a∈r:=by
         rw[er,List.getElem?_append_right (by rw[lw];omega)]at ea;exact jf ea
        exact R1.out (fr a ma) m
       have na:H1 a=none:=by
        obtain⟨r,er,fr⟩:=x2.pre;have lw:(ρ1.take w).length=w:=by rw[jL,R1.len];omega
        have ma:a∈r:=by
         rw[er,List.getElem?_append_right (by rw[lw];omega)]at ea;exact jf ea
        exact fr a ma
       refine hQ (ρ1++[a]) H' _ (x1.trans R1 (x3.name na)) (R3.name out l1 (ups l2 c4)) ?_;simp only[RD];refine⟨a,?_,rfl⟩;have:w+(List.drop w h1).length=ρ1.length:=by rw[length_drop,R1.len];omega
       rw[this];simp
      .cases hm
     .cases hm
   .next d' nd=>
    split at hm
    .next c4=>cases hm;exact hQ ρ1 H' v (x1.trans R1 x3) R3 (up r2 c4)
    .cases hm
  .cases hm
 .cases hm
noncomputable def BB(c:MT)(b:MS):Nat->Ls->Hd->Option (Fl×Hd)
 |0,_,_=>none
 | k+1,ls,hd=>(c ls hd).bind λp=>if p.1=true then(b ls p.2).bind λq=>(match q.1 with
  |.nx ls2=>BB c b k ls2 q.2
  |.ct ls2=>BB c b k ls2 q.2
  |.bk ls2=>some (.nx ls2,q.2)
  | .rt d=>some (.rt d,q.2))else some (.nx ls,p.2)
open Classical in
noncomputable def CN(c:MT)(b:MS):MS:=λls hd=>if h:∃r k,BB c b k ls hd=some r then some h.choose else none
theorem E9:∀{k j:Nat} {ls:Ls} {hd:Hd} {r:Fl×Hd},BB c b k ls hd=some r->k<=j->BB c b j ls hd=some r
 |0,_,_,_,_,h,_=>by cases h
 |k+1,0,_,_,_,_,hj=>by omega
 |k+1,j+1,ls,hd,r,h,hj=>by
  unfold BB at h ⊢;obtain⟨p,e1,h⟩:=ij h;rw[e1];show(if p.1=true then _ else _)=_;split at h
  .next c=>
   rw[il c];obtain⟨q,e2,h⟩:=ij h;rw[e2];obtain⟨f,hd2⟩:=q;cases f with
   |nx ls2=>exact E9 h 68
   |ct ls2=>exact E9 h 68
   |bk ls2=>exact h
   |rt d=>exact h
  .next c=>rw[ip c];exact h
def M6{k:Nat}(h:BB c b k ls hd=some r):CN c b ls hd=some r:=by
 unfold CN;have ex:∃r k,BB c b k ls hd=some r:=⟨r,k,h⟩
 rw[dif_pos ex];obtain⟨j,e⟩:=ex.choose_spec;have e1:=E9 e (Nat.le_max_left j k);have e2:=E9 h (Nat.le_max_right j k);rw[e1]at e2;exact e2
def Uy(hc:RT K tc c)(hb:RS K tb b):RS K (NE tc tb) (CN c b):=by
 intro ρ σ H hd ls E f hd' hR hL hm hQ;obtain⟨k,hk⟩:∃k,BB c b k ls hd=some (f,hd'):=by
  unfold CN at hm;split at hm
  .next ex=>
   obtain⟨j,e⟩:=ex.choose_spec;exact⟨j,by rw[e];exact hm⟩
  .cases hm
 refine⟨λm σ2 H2=>∃ρ2 ls2 hd2,Ext ρ H ρ2 H2/\RH K ρ2 H2 hd2/\RL K ρ2 H2 ls2 σ2/\BB c b m ls2 hd2=some (f,hd'),⟨k,ρ,ls,hd,.refl,hR,hL,hk⟩,?_⟩;rintro m σ2 H2 ⟨ρ2,ls2,hd2,x2,R2,L2',hm2⟩;cases m with
 |zero=>cases hm2
 |succ m=>
  unfold BB at hm2;obtain⟨⟨bb,hd3⟩,e1,hm2⟩:=ij hm2;refine hc ρ2 σ2 H2 hd2 ls2 _ bb hd3 R2 L2' e1 λρ3 H3 x3 R3=>?_;cases bb with
  |false=>
   rw[ip Bool.false_ne_true]at hm2 ⊢;cases hm2;exact hQ ρ3 H3 (x2.trans R2 x3) R3 σ2 (L2'.ext R2 x3)
  |true=>
   rw[il rfl]at hm2 ⊢;obtain⟨⟨fl,hd4⟩,e2,hm2⟩:=ij hm2;refine⟨λσ' H'=>∃ρ2 ls2 hd2,Ext ρ H ρ2 H'/\RH K ρ2 H' hd2/\RL K ρ2 H' ls2 σ'/\BB c b m ls2 hd2=some (f,hd'),λσ' H' z=>⟨m,Nat.lt_succ_self m,z⟩,?_⟩;refine hb ρ3 σ2 H3 hd3 ls2 _ fl hd4 R3 (L2'.ext R2 x3) e2 λρ5 H5 x5 R5=>?_;have x15:=(x2.trans R2 x3).trans R3 x5;cases fl with
   |nx ls5=>intro σ5 L5;exact⟨ρ5,ls5,hd4,x15,R5,L5,hm2⟩
   |ct ls5=>intro σ5 L5;exact⟨ρ5,ls5,hd4,x15,R5,L5,hm2⟩
   |bk ls5=>intro σ5 L5;cases hm2;exact hQ ρ5 H5 x15 R5 σ5 L5
   |rt d5=>intro v5 r5;cases hm2;exact hQ ρ5 H5 x15 R5 v5 r5
noncomputable def BU(kvs:List (Key×D))(k:Key):Option D:=(kvs.find? λkv=>decide (kv.1=k)).map (·.2)
noncomputable def E5(kvs:List (Key×D))(k:Key)(v:D):List (Key×D):=
 if(kvs.any λkv=>decide (kv.1=k))=true then kvs.map (λkv=>if kv.1=k then(kv.1,v)else kv)else kvs++[(k,v)]
theorem RKs.val:∀{kvs:List (Key×D)} {xs:List (Key×V)} {k:Key} {d:D},RKs K ρ H kvs xs->BU kvs k=some d->∃v,E3 xs k=some v/\RD K ρ H d v
 |[],xs,k,d,h,e=>by simp[BU]at e
 |p::kvs,xs,k,d,h,e=>by
  simp only[RKs]at h;obtain⟨x,r,rfl,e1,r1,r2⟩:=h;by_cases hk:p.1=k
  .rw[FC (e1.trans hk)];simp[BU,jK,hk]at e;subst e;exact⟨_,rfl,r1⟩
  .rw[FE (by rw[e1];exact hk)];simp only[BU,jK,hk,kF]at e;exact RKs.val r2 e
theorem RKs.valN:∀{kvs:List (Key×D)} {xs:List (Key×V)} {k:Key},RKs K ρ H kvs xs->(E3 xs k).isSome=(BU kvs k).isSome
 |[],xs,k,h=>by simp only[RKs]at h;subst h;rfl
 |p::kvs,xs,k,h=>by
  simp only[RKs]at h;obtain⟨x,r,rfl,e1,r1,r2⟩:=h;by_cases hk:p.1=k
  .rw[FC (e1.trans hk)];simp[BU,jK,hk]
  .rw[FE (by rw[e1];exact hk)];simp only[BU,jK,hk,kF];exact RKs.valN r2
theorem RKs.any:∀{kvs:List (Key×D)} {xs:List (Key×V)} {k:Key},RKs K ρ H kvs xs->(xs.any λkv=>decide (kv.1=k))=(kvs.any λkv=>decide (kv.1=k))
 |[],xs,k,h=>by simp only[RKs]at h;subst h;rfl
 |p::kvs,xs,k,h=>by
  simp only[RKs]at h;obtain⟨x,r,rfl,e1,r1,r2⟩:=h;simp only[jV,e1,RKs.any r2]
theorem RKs.upd:∀{kvs:List (Key×D)} {xs:List (Key×V)} {k:Key} {d:D} {v:V},RKs K ρ H kvs xs->RD K ρ H d v->RKs K ρ H (kvs.map (λkv=>if kv.1=k then(kv.1,d)else kv)) (xs.map (λkv=>if kv.1=k then(kv.1,v)else kv))
 |[],xs,k,d,v,h,_=>by simp only[RKs]at h;subst h;simp[RKs]
 |p::kvs,xs,k,d,v,h,q=>by
  simp only[RKs]at h;obtain⟨x,r,rfl,e1,r1,r2⟩:=h;simp only[j3,RKs];refine⟨_,_,rfl,?_,?_,RKs.upd r2 q⟩
  .rw[e1];split<;>simp[e1]
  .rw[e1];split
   .exact q
   .exact r1
theorem RKs.app:∀{kvs ks:List (Key×D)} {xs ys:List (Key×V)},RKs K ρ H kvs xs->RKs K ρ H ks ys->RKs K ρ H (kvs++ks) (xs++ys)
 |[],ks,xs,ys,h,t=>by simp only[RKs]at h;subst h;simpa using t
 |d::ds,ks,xs,ys,h,t=>by
  simp only[RKs]at h;obtain⟨x,r,rfl,e,z,q⟩:=h;simp only[jM,RKs];exact⟨_,_,rfl,e,z,q.app t⟩
def RKs.put(h:RKs K ρ H kvs xs)(q:RD K ρ H d v):RKs K ρ H (E5 kvs k d) (Cs xs k v):=by
 unfold E5 Cs;rw[h.any];split
 .exact h.upd q
 .exact h.app (by simp only[RKs];exact⟨_,_,rfl,rfl,q,rfl⟩)
noncomputable def Cv:D->Option Key
 |.im (.int i)=>some (.inl i)
 |.im (.str x)=>some (.inr x)
 |_=>none
def Ia(h:RD K ρ H d v)(e:Cv d=some k):v=kV k:=by
 cases d with
 |im i=>
  cases i with
  |int i=>simp only[Cv,Option.some.injEq]at e;subst e;simp only[RD,RI]at h;exact h
  |str i=>simp only[Cv,Option.some.injEq]at e;subst e;simp only[RD,RI]at h;exact h
  |_=>simp[Cv]at e
 |_=>simp[Cv]at e
noncomputable def CP(hd:Hd):D->Option (List (Key×D))
 |.mu n=>match hd[n]? with
  |some (.dic kvs)=>some kvs
  |_=>none
 |_=>none
theorem RD.dic(hR:RH K ρ H hd)(h:RD K ρ H d v)(e:CP hd d=some kvs):∃n a xs,d=.mu n/\v=.ref a/\ρ[n]?=some a/\H a=some (.dK xs)/\RKs K ρ H kvs xs:=by
 cases d with
 |mu n=>
  simp only[CP]at e;simp only[RD]at h;obtain⟨a,hn,rfl⟩:=h;split at e
  .next q=>
   cases e;obtain⟨xs,e1,e2⟩:=hR.dic hn q;exact⟨n,a,xs,rfl,rfl,hn,e1,e2⟩
  .cases e
 |_=>simp[CP]at e
noncomputable def Ep:D->D->Hd->Option 161:=λd e hd=>(CP hd d).bind λkvs=>(Cv e).bind λk=>(BU kvs k).map (·,hd)
def YZ(hd:RE K td md)(hy:RE K ty my):RE K (QP td ty) (mOp Ep md my):=by
 intro ρ σ H hd0 ls Q d hd' hR hL hm hQ;obtain⟨⟨d1,h1⟩,e1,hm⟩:=ij hm;obtain⟨⟨d2,h2⟩,e2,hm⟩:=ij hm;obtain⟨kvs,e3,hm⟩:=ij hm;obtain⟨k,e4,hm⟩:=ij hm;obtain⟨w,e5,e6⟩:=ik hm;cases e6;refine hd ρ σ H hd0 ls _ d1 h1 hR hL e1 λρ1 H1 v1 x1 R1 r1=>?_;refine hy ρ1 σ H1 h1 ls _ d2 _ R1 138 e2 λρ2 H2 v2 x2 R2 r2=>?_;obtain⟨n,a,xs,rfl,rfl,hn,l1,l2⟩:=RD.dic R2 (r1.ext R1 x2) e3;have:=Ia r2 e4;subst this;obtain⟨v,v1,v2⟩:=l2.val e5;exact⟨a,v,rfl,v1 ▸ DGet.k l1,hQ ρ2 H2 v 89 R2 v2⟩
noncomputable def Hv(neg:Bool):D->D->Hd->Option 161:=λe d hd=>(CP hd d).bind λkvs=>(Cv e).map λk=>(.im (.bl (if neg then !(BU kvs k).isSome else(BU kvs k).isSome)),hd)
def bL(hd:RE K td md)(hy:RE K ty my):RE K (Uk ty td) (mOp (Hv false) my md):=by
 intro ρ σ H hd0 ls Q d hd' hR hL hm hQ;obtain⟨⟨d1,h1⟩,e1,hm⟩:=ij hm;obtain⟨⟨d2,h2⟩,e2,hm⟩:=ij hm;obtain⟨kvs,e3,hm⟩:=ij hm;obtain⟨k,e4,e6⟩:=ik hm;cases e6;refine hy ρ σ H hd0 ls _ d1 h1 hR hL e1 λρ1 H1 v1 x1 R1 r1=>?_;refine hd ρ1 σ H1 h1 ls _ d2 _ R1 138 e2 λρ2 H2 v2 x2 R2 r2=>?_;obtain⟨n,a,xs,rfl,rfl,hn,l1,l2⟩:=RD.dic R2 r2 e3;have:=Ia r1 e4;subst this;refine⟨a,_,rfl,DGet.k l1,?_⟩;rw[l2.valN];exact hQ ρ2 H2 _ 89 R2 133
open Classical in
noncomputable def IU(md my mv:ME):MS:=λls hd=>(mv ls hd).bind λp=>(md ls p.2).bind λq=>(my ls q.2).bind λr=>(Cv r.1).bind λk=>match q.1 with
 |.mu n=>match r.2[n]? with
  |some (.dic kvs)=>if D5 184 then some (.nx ls,r.2.set n (.dic (E5 kvs k p.1)))else none
  |_=>none
 |_=>none
def YG(hd:RE K td md)(hy:RE K ty my)(hv:RE K tv mv):RS K (Qe td ty tv) (IU md my mv):=by
 intro ρ σ H hd0 ls E f hd' hR hL hm hQ;obtain⟨⟨d1,h1⟩,e1,hm⟩:=ij hm;obtain⟨⟨d2,h2⟩,e2,hm⟩:=ij hm;obtain⟨⟨d3,h3⟩,e3,hm⟩:=ij hm;obtain⟨k,e4,hm⟩:=ij hm;dsimp only at hm;split at hm
 .split at hm
  .next q=>
   split at hm
   .next c=>
    cases hm;refine hv ρ σ H hd0 ls _ d1 h1 hR hL e1 λρ1 H1 v1 x1 R1 r1=>?_;refine hd ρ1 σ H1 h1 ls _ _ h2 R1 138 e2 λρ2 H2 v2 x2 R2 r2=>?_;refine hy ρ2 σ H2 h2 ls _ d3 _ R2 (hL.ext hR 89) e3 λρ3 H3 v3 x3 R3 r3=>?_;have r2:=r2.ext R2 x3;simp only[RD]at r2;obtain⟨a,hn,rfl⟩:=r2;obtain⟨xs,l1,l2⟩:=R3.dic hn q;have:=Ia r3 e4;subst this;obtain⟨R4,x4⟩:=R3.put hn (o:=.dic (E5 _ k d1)) (ho:=.dK (Cs xs k v1)) ⟨_,rfl,l2.put ((r1.ext R1 x2).ext R2 x3)⟩;have x13:=(89).trans R2 x3;exact⟨a,_,rfl,DPut.k l1 (by rw[l2.len];exact c),hQ ρ3 _ (x13.trans R3 x4) R4 σ ((hL.ext hR x13).ext R3 x4)⟩
   .cases hm
  .cases hm
 .cases hm
def RH.nameD(hR:RH K ρ H hd)(out:a∉ρ)(e:H a=some o)(hs:¬ Stb o)(r:RKs K ρ H kvs xs)(h1:∀ps,o≠.tbl ps:=by intro _ z;cases z)(h2:∀φ,o≠.ext φ:=by intro _ z;cases z):RH K (ρ++[a]) (upd H a (.dK xs)) (hd++[.dic kvs]):=by
 have gr:Grow H (upd H a (.dK xs)):=Grow.refl.put λu st z=>hs (by rw[e]at z;cases z;exact st);refine⟨by simp[hR.len],?_,hR.tabs.upd (λps z=>h1 ps (102 (e.symm.trans z))) (λps z=>h2 ps (102 (e.symm.trans z))),λn o' b e1 e2=>?_⟩
 .rw[nodup_append];refine⟨hR.nd,by simp,λx hx y hy z=>?_⟩;simp at hy;subst hy;subst z;exact out hx
 .by_cases hn:n<ρ.length
  .rw[List.getElem?_append_left hn]at e2;rw[List.getElem?_append_left (by rw[<- hR.len];exact hn)]at e1;obtain⟨ho',q1,q2⟩:=hR.ob n o' b e1 e2;have:b≠a:=λz=>out (by rw[<- z];exact jf e2);exact⟨ho',by rw[upd_ne this];exact q1,q2.mono gr [a]⟩
  .have hn':n=ρ.length:=by
    have:=(75 e2).1;simp at this;omega
   subst hn';simp at e2;rw[hR.len]at e1;simp at e1;subst e1;subst e2;exact⟨_,AH,⟨xs,rfl,r.mono gr [_]⟩⟩
noncomputable def Ch(mo mi mv:ME):MS:=λls hd=>(mv ls hd).bind λp=>(mo ls p.2).bind λq=>(mi ls q.2).bind λr=>match q.1,r.1 with
 |.mu n,.im (.int i)=>match r.2[n]? with
  |some (.lst ds)=>(ixN 97 i).map λj=>(.nx ls,r.2.set n (.lst (ds.set j p.1)))
  |_=>none
 |_,_=>none
def YD(ho:RE K to mo)(hi:RE K ti mi)(hv:RE K tv mv):RS K (FF tv (WO to ti K6)) (Ch mo mi mv):=by
 intro ρ σ H hd0 ls E f hd' hR hL hm hQ;obtain⟨⟨d1,h1⟩,e1,hm⟩:=ij hm;obtain⟨⟨d2,h2⟩,e2,hm⟩:=ij hm;obtain⟨⟨d3,h3⟩,e3,hm⟩:=ij hm;dsimp only at hm;split at hm
 .split at hm
  .next q=>
   obtain⟨j,e4,e5⟩:=ik hm;cases e5;refine hv ρ σ H hd0 ls _ d1 h1 hR hL e1 λρ1 H1 v1 x1 R1 r1=>?_;refine ho ρ1 σ H1 h1 ls _ _ h2 R1 138 e2 λρ2 H2 v2 x2 R2 r2=>?_;refine hi ρ2 σ H2 h2 ls _ _ _ R2 (hL.ext hR 89) e3 λρ3 H3 v3 x3 R3 r3=>?_;have r2:=r2.ext R2 x3;simp only[RD]at r2;obtain⟨a,hn,rfl⟩:=r2;simp only[RD,RI]at r3;subst r3;obtain⟨xs,l1,l2⟩:=R3.lst hn q;obtain⟨R4,x4⟩:=R3.put hn (o:=.lst _) (ho:=.lst (xs.set j v1)) ⟨_,rfl,l2.set j ((r1.ext R1 x2).ext R2 x3)⟩;have x13:=(89).trans R2 x3;exact⟨a,xs,_,j,rfl,rfl,l1,by rw[l2.len];exact e4,hQ ρ3 _ (x13.trans R3 x4) R4 σ ((hL.ext hR x13).ext R3 x4)⟩
  .cases hm
 .cases hm
end
end L2
namespace L2
open PySem PySem.Spec PyProof.Rows
structure QG(K:Frag)(X:Cx)(e:Expr)(t:TG)(m:MG):Prop where
 p:PG X e t
 r:RGt K t m
structure QGs(K:Frag)(X:Cx)(e:List Expr)(t:TGs)(m:MGs):Prop where
 p:PGs X e t
 r:On K t m
structure QI(K:Frag)(X:Cx)(tg e:Expr)(t:TI)(m:MI):Prop where
 p:PI X tg e t
 r:RIt K t m
structure QF(K:Frag)(X:Cx)(e:List Expr)(t:TT)(m:MT):Prop where
 p:PF X e t
 r:RT K t m
structure QO(K:Frag)(X:Cx)(e:Option Expr)(t:TO)(m:MO1):Prop where
 p:PO X e t
 r:RO1 K t m
def Xc(a b:137):Prop:=a≠[]/\Bu (a.length+b.length)
open Classical in
noncomputable def KP:D->D->Hd->Option 161:=λd e hd=>(Ai d).bind λa=>(Ai e).bind λb=>if Xc a b then some (B7 (a++b),hd)else none
def Yg{K:Frag}:RB K (Qr K) KP:=by
 intro ρ H hd d e v u Q z hd' hR h1 h2 hf hQ;unfold KP at hf;obtain⟨a,e1,hf⟩:=ij hf;obtain⟨b,e2,hf⟩:=ij hf;split at hf
 .next c=>
  cases hf;obtain⟨p,xs,rfl,q1,r1⟩:=h1.tup e1;obtain⟨p2,ys,rfl,q2,r2⟩:=h2.tup e2;have l1:=r1.len;have l2:=r2.len;refine⟨p,p2,xs,ys,rfl,rfl,q1,q2,λz=>c.1 (by rw[z]at l1;simpa using l1.symm),by rw[l1,l2];exact c.2,λz=>?_,λ_ p3 hp=>?_⟩
  .have:b=[]:=by rw[z]at l2;simpa using l2.symm
   subst this;exact hQ ρ H _ .refl hR (by rw[jq];exact DX q1 r1)
  .obtain⟨R2,x2⟩:=hR.hid (ho:=.tup (xs++ys)) hp;exact hQ ρ _ _ x2 R2 (DX (SqT.of AH) ((r1.app r2).ext hR x2))
 .cases hf
noncomputable abbrev B0:=Ie Rj KP
noncomputable def FP(neg:Bool)(m:ME):ME:=λls hd=>(m ls hd).bind λp=>some (.im (.bl (match p.1 with
 |.im .non=>!neg
 | _=>neg)),p.2)
def gU{K:Frag}(h:RD K ρ H d v):decide (v=.non)=(match d with|.im .non=>true|_=>false):=by
 cases d with
 |im i=>
  cases i with
  |non=>simp only[RD,RI]at h;subst h;rfl
  |tup is=>simp only[RD,RI]at h;obtain⟨a,xs,rfl,_⟩:=h;rfl
  |_=>simp only[RD,RI]at h;subst h;rfl
 |mu n=>simp only[RD]at h;obtain⟨a,_,rfl⟩:=h;rfl
 |tm ds=>simp only[RD]at h;obtain⟨a,xs,rfl,_⟩:=h;rfl
 |ro ns=>simp only[RD]at h;obtain⟨a,rfl,_⟩:=h;rfl
 |op nm fs ds=>simp only[RD]at h;obtain⟨a,xs,rfl,_⟩:=h;rfl
 |fv k ds=>simp only[RD]at h;obtain⟨a,xs,rfl,_⟩:=h;rfl
def bJ{K:Frag}(h:RE K t m):RE K (Uh t) (FP false m):=by
 and_intros;obtain⟨⟨d1,h1⟩,e1,hm⟩:=ij hm;cases hm;refine h ρ σ H hd ls _ d1 _ hR hL e1 λρ1 H1 v x1 R1 r1=>?_;rw[gU r1];refine hQ ρ1 H1 _ x1 R1 ?_;simp only[RD,RI];cases d1 with
 |im i=>cases i<;>rfl
 |_=>rfl
noncomputable def EW(m:ME):ME:=λls hd=>(m ls hd).bind λp=>match p.1 with
 |.im (.int i)=>some (.im (.int (-i)),p.2)
 |_=>none
def bF{K:Frag}(h:RE K t m):RE K (tUn (rU λi=>.int (-i)) t) (EW m):=by
 and_intros;obtain⟨⟨d1,h1⟩,e1,hm⟩:=ij hm;dsimp only at hm;split at hm
 .cases hm;exact h ρ σ H hd ls _ _ _ hR hL e1 λρ1 H1 v x1 R1 r1=>⟨_,by simpa only[RD,RI]using r1,hQ ρ1 H1 _ x1 R1 133⟩
 .cases hm
noncomputable def BV:MT:=λ_ hd=>some (true,hd)
def ad{K:Frag}:RT K Ua BV:=by
 and_intros;cases hm;exact hQ ρ H .refl hR
section
variable(K:Frag){X:Cx}{tc:TE}{mc:ME}
def qv(i:Nat){pos:Pos}(hN:X.N[i]?=some x:=by rfl)(hv:Vis X.env.scope x:=by first|exact Or.inl rfl|exact Or.inr (Or.inl rfl)|exact Or.inr (Or.inr rfl))(hd:141=false:=by decide)
 (hcd:(x==("__classdict__":Str))=false:=by decide):QE K X (.Name x pos) (NF i) (A0 i):=⟨Nu hN hv hd hcd,bD⟩
def cM{i:Int}{j pos}:QE K X (.Constant 135 j pos) (tC 135) (mC 135):=⟨cr,Qk λ_=>by simp[RI]⟩
def fJ{i:Bool}{j pos}:QE K X (.Constant (.bool i) j pos) (tC (.bl i)) (mC (.bl i)):=⟨fO,Qk λ_=>by simp[RI]⟩
def cH{j pos}:QE K X (.Constant .none j pos) (tC .non) (mC .non):=⟨ck,Qk λ_=>by simp[RI]⟩
def cE{j pos}:QE K X (.Constant (.str x) j pos) (tC (.str x)) (mC (.str x)):=⟨cg,Qk λ_=>by simp[RI]⟩
def Eg{f:D->D->Hd->Option 161}(ho:OpR X (binaryOp op) r)(hr:RB K r f)(ha:QE K X a ta ma)(hb:QE K X b tb mb):QE K X (.BinOp a op b pos) (tOp r ta tb) (mOp f ma mb):=⟨Qv ho ha.p hb.p,Mu hr ha.r hb.r⟩
def cJ(ha:QE K X a ta ma):QE K X (.UnaryOp .USub a pos) (tUn (rU λi=>.int (-i)) ta) (EW ma):=⟨fM aU ha.p,bF ha.r⟩
def GC{f:D->D->Hd->Option 161}(ho:OpR X (compareOp op) r)(hr:RB K r f)(ha:QE K X a ta ma)(hb:QE K X b tb mb)(hm:behindInMarks op b=false:=by first|exact Hc _|rfl):QE K X (.Compare a [op] [b] pos) (tOp r ta tb) (mOp f ma mb):=⟨ZQ ho ha.p hb.p hm,Mu hr ha.r hb.r⟩
def EL{f:D->D->Hd->Option 161}(ho:OpR X (compareOp op) r)(hr:RB K r f)(ha:QE K X a ta ma)(hb:QE K X b tb mb)(hm:behindInMarks op b=false:=by first|exact Hc _|rfl):QT K X (.Compare a [op] [b] pos) (Fh (tOp r ta tb)) (AB (mOp f ma mb)):=⟨IL ho ha.p hb.p hm,Dd (Mu hr ha.r hb.r)⟩
def bh{j pos'}(ha:QE K X a ta ma):QT K X (.Compare a [.Is] [.Constant .none j pos'] pos) (tB (Uh ta)) (AB (FP false ma)):=⟨T6 (cy ha.p),ag (bJ ha.r)⟩
def VP(ha:QE K X a ta ma)(he:∀whole,isTrue a X.env whole=(do let v <- whole;standAt a.pos;holding [v] (truthy v)):=by intro _;rfl)(hK:X.K=K:=by rfl):
 QT K X a (λσ H Q=>ta σ H λx H'=>∃k,Oj K x H' k/\Q k H') (C9 ma):=by
 subst hK;exact⟨Vf ha.p he,Ux ha.r⟩
def bg(ha:QT K X a tA nA):QT K X (.UnaryOp .Not a pos) (Ue tA) (Hk nA):=⟨cR ha.p,ae ha.r⟩
def Yj(ha:QT K X a tA nA):QW K X (.BoolOp .And [a] pos) tA nA:=⟨Z8 ha.p,ha.r⟩
def bc(ha:QT K X a tA nA):QW K X (.BoolOp .Or [a] pos) tA nA:=⟨cP ha.p,ha.r⟩
def bf{rest:List Expr}(ha:QT K X a tA nA)(hb:QW K X (.BoolOp .And (b::rest) pos) tB' nB):QW K X (.BoolOp .And (a::b::rest) pos) (Uo tA tB') (DB nA nB):=⟨cQ ha.p hb.p,af ha.r hb.r⟩
def fE{rest:List Expr}(ha:QT K X a tA nA)(hb:QW K X (.BoolOp .Or (b::rest) pos) tB' nB):QW K X (.BoolOp .Or (a::b::rest) pos) (tOr tA tB') (mOr nA nB):=⟨fK ha.p hb.p,f7 ha.r hb.r⟩
def QW.toT{K:Frag}(h:QW K X e t m):QT K X e t m:=⟨h.p.pt,h.r⟩
def cF{op}(ha:QE K X a ta ma):QE K X (.BoolOp op [a] pos) ta ma:=⟨ci ha.p,ha.r⟩
def cN{rest:List Expr}(ha:QE K X a ta ma)(hb:QE K X (.BoolOp .And (b::rest) pos) tb mb):QE K X (.BoolOp .And (a::b::rest) pos) (QV ta tb) (Gf ma mb):=⟨cv ha.p hb.p,Yc ha.r hb.r⟩
def cG(ha:QE K X a ta ma):QE K X (.UnaryOp .Not a pos) (QL ta) (IS ma):=⟨cj ha.p,YU ha.r⟩
def VZ(hc:QT K X c tA nA)(ha:QE K X a ta ma)(hb:QE K X b tb mb):QE K X (.IfExp c a b pos) (tIf tA ta tb) (mIf nA ma mb):=⟨Vn hc.p ha.p hb.p,fA hc.r ha.r hb.r⟩
def cO:QA K X [] BM A4:=⟨CC,Nn⟩
def Z6(ha:QE K X e te me)(hr:QA K X es t m)(hs:starEach 179 X.env=109::starEach es X.env:=by rfl):QA K X 179 (BJ te t) (A1 me m):=⟨Bm ha.p hr.p hs,Yh ha.r hr.r⟩
def cD{x1}(h:QA K X es t m):QE K X (.Tuple es x1 pos) (Ub t) (B5 m):=⟨cf h.p,bE h.r⟩
def bx(h:QA K X es t m):QN K X (.List es pos) (Uf t) (Af m):=⟨cm h.p,ap h.r⟩
def cI(h:QN K X e te m):QE K X e te (AU m):=⟨h.p,Sr h.r⟩
def fG(ha:QE K X a ta ma)(hb:QE K X b tb mb)(hs:Ll b:=by exact λ_ _=>rfl)(hK:X.K=K:=by rfl):QE K X (.Subscript a b pos) (tOp (Mv K) ta tb) (mOp gIx ma mb):=⟨Qw ((OC K hK).or (Po K hK)) ha.p hb.p hs,Mu fC ha.r hb.r⟩
def Z5(hu:X.A.units+1<cLine)(ha:QE K X a ta ma)(hb:QE K X b tb mb)(hs:Wv b:=by exact λ_ _=>rfl):QE K X (.Subscript a b pos) (QP ta tb) (mOp Ep ma mb):=⟨ZO hu ha.p hb.p hs,YZ ha.r hb.r⟩
def Yx:QO K X none Kw GH:=⟨ZH,YJ⟩
def Yw(h:QE K X e te me):QO K X (some e) (QK te) (KG me):=⟨ZG h.p,YI h.r⟩
def bv{lo:Option Expr}(h:QE K X e te me)(hl:QO K X lo tl ml)(hh:QO K X hi th mh)(hK:X.K=K:=by rfl):QN K X (.Subscript e (.Slice lo hi none p2) pos) (tSl (Qp K) te tl th) (LI me ml mh):=⟨Vm (Us K hK) h.p hl.p hh.p,am h.r hl.r hh.r⟩
def Eh{id:String}{p:Pos}{r:List V->Hp->VK->Prop}{f:118}(hc:CallR X (.builtin id) r)(hr:RF K r f)(hm:X.mg x=none)(hv:bootBuiltins x=some (.builtin id))(ha:QA K X 179 t m)(hg:Gl X x:=by rfl)(hn:x≠"__name__":=by decide)(hdb:141=false:=by decide)
 (he:starEach 179 X.env=109::starEach es X.env:=by rfl) (hpl:(backTo pos 149).any (·.1)=false:=by rfl):QE K X (.Call (.Name x p) 179 [] pos) (tCB r t) (mCB f m):=⟨E6 hc hg hm hv ha.p hn hdb he hpl,XB hr ha.r⟩
def XQ{id:String}{p:Pos}{r:List V->Hp->VK->Prop}{f:118}(hc:CallR X (.type id) r)(hr:RF K r f)(hm:X.mg x=none)(hv:bootBuiltins x=some (.type id))(ha:QA K X 179 t m)(hg:Gl X x:=by rfl)(hn:x≠"__name__":=by decide)(hdb:141=false:=by decide)
 (he:starEach 179 X.env=109::starEach es X.env:=by rfl) (hpl:(backTo pos 149).any (·.1)=false:=by rfl):QE K X (.Call (.Name x p) 179 [] pos) (tCB r t) (mCB f m):=⟨CB hc hg hm hv ha.p hn hdb he hpl,XB hr ha.r⟩
def K8{id:String}{p:Pos}{r:List V->Hp->VK->Prop}{tp:Bool}{g:List D->Option D}(hc:CallR X (.builtin id) r)(hr:RG K tp r g)(hm:X.mg x=none)(hv:bootBuiltins x=some (.builtin id))(ha:QN K X e te m)(hg:Gl X x:=by rfl)(hn:x≠"__name__":=by decide)(hdb:141=false:=by decide)
 (he:starEach [e] X.env=[109]:=by rfl):QE K X (.Call (.Name x p) [e] [] pos) (tCB r (BJ te BM)) (B6 g m):=⟨E6 hc hg hm hv (Bm ha.p CC he) hn hdb he rfl,Su hr ha.r⟩
def fH{id:String}{p:Pos}{r:List V->Hp->VK->Prop}{tp:Bool}{g:List D->Option D}(hc:CallR X (.type id) r)(hr:RG K tp r g)(hm:X.mg x=none)(hv:bootBuiltins x=some (.type id))(ha:QN K X e te m)(hg:Gl X x:=by rfl)(hn:x≠"__name__":=by decide)(hdb:141=false:=by decide)
 (he:starEach [e] X.env=[109]:=by rfl):QE K X (.Call (.Name x p) [e] [] pos) (tCB r (BJ te BM)) (B6 g m):=⟨CB hc hg hm hv (Bm ha.p CC he) hn hdb he rfl,Su hr ha.r⟩
def Yy(hm:X.mg "list"=none)(ha:QE K X e te me)(hg:Gl X "list":=by rfl)(he:starEach [e] X.env=[109]:=by rfl)(hK:X.K=K:=by rfl):QN K X (.Call (.Name "list" p) [e] [] pos) (tCB (GB K) (BJ te BM)) (IT me):=⟨CB (Kl K hK) hg hm Ld (Bm ha.p CC he) 95 95 he rfl,YK ha.r⟩
def VX(hm:X.mg "list"=none)(ha:QN K X e te m)(hg:Gl X "list":=by rfl)(he:starEach [e] X.env=[109]:=by rfl)(hK:X.K=K:=by rfl):QN K X (.Call (.Name "list" p) [e] [] pos) (tCB (GB K) (BJ te BM)) (Hm m):=⟨CB (Kl K hK) hg hm Ld (Bm ha.p CC he) 95 95 he rfl,V6 ha.r⟩
def Mw{id:String}{r:V->List V->Hp->VK->Prop}{f:D->List D->Hd->Option 161}{apos cpos:Pos}(slot:Slot "list" name id)(hty:typeOf (.builtin id)=pure (.type "method_descriptor"))(hm:MtM X id r)(hr:RM K r f)(ho:QE K X o to mo)(ha:QA K X 179 t m)
 (hbase:attributeBase o name X.env (eval o X.env)=eval o X.env:=by rfl)
 (hfew:((backTo cpos (starEach 179 X.env)).all (λx=>!x.1)&&(backToKw cpos (keywordEach [] X.env)).all (λx=>x.1.isSome)
  && decide ((179).length+([]:List Keyword).length+(if([]:List Keyword).isEmpty then 0 else 1)<30))=true:=by rfl)
 (hline:(apos.endLine==cpos.line)=true:=by rfl) (hs:starEach 179 X.env=109::starEach es X.env:=by rfl) (hplain:(backTo cpos 149).any (·.1)=false:=by rfl) (hK:X.K=K:=by rfl):
 QE K X (.Call (.Attribute o name apos) 179 [] cpos) (tBM K "list" r to t) (mMt f mo m):=by
 subst hK;exact⟨fN PySem.F.plainAttrs_list slot hty hm ho.p ha.p hbase hfew hline hs hplain,XA hr ho.r ha.r⟩
def cK{id:String}{r:V->List V->Hp->VK->Prop}{f:D->List D->Hd->Option 161}{apos cpos:Pos}(slot:Slot "list" name id)(hty:typeOf (.builtin id)=pure (.type "method_descriptor"))(hm:MtM X id r)(hr:RM K r f)(ho:QE K X o to mo)
 (hbase:attributeBase o name X.env (eval o X.env)=eval o X.env:=by rfl) (hline:(apos.endLine==cpos.line)=true:=by rfl) (hK:X.K=K:=by rfl):
 QE K X (.Call (.Attribute o name apos) [] [] cpos) (Ul K "list" r to) (mMt f mo A4):=by
 subst hK;exact⟨cu PySem.F.plainAttrs_list slot hty hm ho.p hbase hline,bG hr ho.r⟩
def Vb(w:Nat){j k:Nat}{n:Nat}{F:118}{st:Stmt}{p:Pos}(G:FnOk X.prog X.w X.K X.mg X.base CX0 j f fd ps (spF K n F))(hr:Room k X.A)(DA:DefAt X.K X.mg x st f fd ps)(ha:QA K X 179 t m)(hF:∀ds hd z,F ds hd=some z->97=n)
 (hjk:j<=k:=by decide) (hg:Gl X x:=by rfl) (hdb:141=false:=by decide) (he:starEach 179 X.env=109::starEach es X.env:=by rfl) (hpl:(backTo pos 149).any (·.1)=false:=by rfl):
 QE K X (.Call (.Name x p) 179 [] pos) (CU (spF K n F) [] E0 t) (A8 w F m):=⟨Qx G hr DA ha.p hjk hg hdb he hpl,Nl ha.r hF⟩
def Ve{j k:Nat}{n:Nat}{F:118}{st:Stmt}{p:Pos}(G:FnOk X.prog X.w X.K X.mg X.base CX0 j f fd ps (spF K n F))(hr:Room k X.A)(DA:DefAt X.K X.mg x st f fd ps)(ha:QA K X 179 t m)(hF:∀ds hd z,F ds hd=some z->97=n)
 (hjk:j<=k:=by decide) (hg:Gl X x:=by rfl) (hdb:141=false:=by decide) (he:starEach 179 X.env=109::starEach es X.env:=by rfl) (hpl:(backTo pos 149).any (·.1)=false:=by rfl):
 QE K X (.Call (.Name x p) 179 [] pos) (CU (spF K n F) [] E0 t) (BZ F m):=⟨Qx G hr DA ha.p hjk hg hdb he hpl,VG ha.r hF⟩
def Z3{i:Nat}(hN:X.N.Nodup)(hi:X.N[i]?=some x)(hx:Loc X.env.scope x)(hf:X.fn x=true∨X.env.scope.names.lookup x=some .local:=by first|exact .inl rfl|exact .inr rfl|assumption):QG K X (.Name x pos) (EB i) (AD i):=⟨ZM hN hi hx hf,L3⟩
def Z2:QGs K X [] WR C2:=⟨ZK,YM⟩
def VY(h1:QG K X e tg n)(h2:QGs K X es tgs ns)(hs:(assignEach 179 X.env).map (·.2)=assign e X.env::(assignEach es X.env).map (·.2):=by rfl):QGs K X 179 (Ri tg tgs) (AV n ns):=⟨Vk h1.p h2.p hs,V8 h1.r h2.r⟩
def c9{k n:Nat}(hc:164)(h:QGs K X es tgs ns)(hK:X.K=K:=by rfl)(hn:(assignEach es X.env).length=n:=by rfl)(hst:(assignEach es X.env).findIdx? (·.1)=none:=by rfl):QG K X (.Tuple es k pos) (Rg K n tgs) (C1 n ns):=⟨ZL K hc h.p hK hn hst,az h.r⟩
def c5(h:QE K X e te me)(hK:X.K=K:=by rfl):QI K X tg e (OG K te) (Aw me):=⟨Pe K h.p hK,Sj h.r⟩
def Z1(h:QE K X e te me)(hK:X.K=K:=by rfl):QI K X tg e (Gk K te) (Bs me):=⟨JK K h.p hK,PQ h.r⟩
def c8(h:QN K X e te m)(hK:X.K=K:=by rfl):QI K X tg e (Gk K te) (EX m):=⟨JK K h.p hK,ay h.r⟩
def Z0(hm:X.mg "range"=none)(ha:QA K X [a] t m)(hg:Gl X "range":=by rfl)(hs:starEach [a] X.env=[(false,eval a X.env)]:=by rfl):QI K X tg (.Call (.Name "range" p) [a] [] pos) (Ra t) (Cu m):=⟨TC hg hm ha.p hs,YL ha.r⟩
def cC:QF K X [] Ua BV:=⟨ce,ad⟩
def cB(h:QT K X c tA nA):QF K X [c] tA nA:=⟨cZ h.p,h.r⟩
def Yz{iter:Expr}(hc:164)(S:163)(hi:QI K X tg iter wi mi)
 (hg:∀s H ex,QG K 127 tg g n) (hf:∀s H ex,QF K 127 ifs tf mf) (he:∀s H ex,QE K 127 elt te mm)
 (hs:∀x,foldedSetIterable iter X.env x=pure x:=by intro _;rfl):QN K X 187 (GT loc.length ix wi g tf te) (Ab loc.length ix mi n mf mm):=
 ⟨ZP hc S hi.p (λs H ex=>(hg s H ex).p) (λs H ex=>(hf s H ex).p) (λs H ex=>(he s H ex).p) hs,PP hi.r (hg X.s₀ X.H₀ []).r (hf X.s₀ X.H₀ []).r (he X.s₀ X.H₀ []).r⟩
def Yn:QSs K X [] Jr AZ:=⟨ZA,PN⟩
def VR{st:Stmt}{rest:List Stmt}{m1:MS}(h1:QS K X st u m1)(h2:QSs K X rest v m2):QSs K X (st::rest) (Uc u v) (A6 m1 m2):=⟨Vh h1.p h2.p,ah h1.r h2.r⟩
def Ym{st:Stmt}{m1:MS}(h1:QS K X st u m1):QSs K X [st] u m1:=⟨Z9 h1.p,h1.r⟩
def Yp:QS K X (.Pass pos) Jr AZ:=⟨ZC,PN⟩
def Ys(he:QE K X e te me)(hs:swapsWith e none pos.line X.env=pure false:=by rfl):QS K X (.Expr e pos) (QM te) (An me):=⟨ZD he.p hs,YF he.r⟩
def bp(he:QE K X e te me):QS K X (.Return (some e) pos) (Ud te) (AN me):=⟨cT he.p,ai he.r⟩
def fF{m1:MS}(hc:QT K X c tA nA)(ha:QSs K X a u m1)(hb:QSs K X b v m2):QS K X (.If c a b pos) (Ui tA u v) (Ak nA m1 m2):=⟨fL hc.p ha.p hb.p,f8 hc.r ha.r hb.r⟩
def VU{st:Stmt}:QS K X st NG GI:=⟨Vj,V0⟩
def br(he:QE K X e te me)(hg:QG K X tg g n)(hs:swapsWithSole [tg] e pos.line X.env=pure false:=by rfl)(hw:swappedStores [tg] e X.env=pure none:=by rfl)
 (h1:(assignEach [tg] X.env).map (·.2)=[assign tg X.env]:=by rfl):QS K X (.Assign [tg] e pos) (FF te g) (Fx me n):=⟨T7 he.p hg.p hs hw h1,Nf he.r hg.r⟩
def bo{i:Nat}(hN:X.N.Nodup)(hi:X.N[i]?=some x)(hx:Loc X.env.scope x)(he:QE K X e te me)(hs:swapsWith e (some (.Name x pos')) pos.line X.env=pure false:=by rfl)(hf:X.fn x=true∨X.env.scope.names.lookup x=some .local:=by first|exact .inl rfl|exact .inr rfl|assumption):
 QS K X (.Assign [.Name x pos'] e pos) (FF te (EB i)) (AE i me):=⟨cS hN hi hx he.p hs hf,Nf he.r L3⟩
def Yo{i:Nat}{iter:Expr}{spos:Pos}(hN:X.N.Nodup)(hiN:X.N[i]?=some y)(hy:X.env.scope.names.lookup y=some .local)
 (hc:164) (S:163) (hi:QI K X tg iter wi mi)
 (hg:∀s H ex,QG K 127 tg g n) (hf:∀s H ex,QF K 127 ifs tf mf) (he:∀s H ex,QE K 127 elt te mm)
 (hsw:swapsWith 187 (some (.Name y py)) spos.line X.env=pure true:=by rfl) (hs:∀x,foldedSetIterable iter X.env x=pure x:=by intro _;rfl):
 QS K X (.Assign [.Name y py] 187 spos) (FF (GT loc.length ix wi g tf te) (EB i)) (AE i (AU (Ab loc.length ix mi n mf mm))):=
 ⟨ZB hN hiN hy hc S hi.p (λs H ex=>(hg s H ex).p) (λs H ex=>(hf s H ex).p) (λs H ex=>(he s H ex).p) hsw hs,Nf (Sr (PP hi.r (hg X.s₀ X.H₀ []).r (hf X.s₀ X.H₀ []).r (he X.s₀ X.H₀ []).r)) L3⟩
def Yt(hu:X.A.units+1<cLine)(ho:QE K X o td md)(hi:QE K X i ty my)(hv:QE K X value tv mv)(hs:swapsWith value (some (.Subscript o i pos')) pos.line X.env=pure false:=by rfl):
 QS K X (.Assign [.Subscript o i pos'] value pos) (Qe td ty tv) (IU md my mv):=⟨ZE hu ho.p hi.p hv.p hs,YG ho.r hi.r hv.r⟩
def Yq(ho:QE K X o to mo)(hi:QE K X i ti mi)(hv:QE K X value tv mv)(hs:swapsWithSole [.Subscript o i pos'] value pos.line X.env=pure false:=by rfl)(hw:swappedStores [.Subscript o i pos'] value X.env=pure none:=by rfl)
 (h1:(assignEach [.Subscript o i pos'] X.env).map (·.2)=[assign (.Subscript o i pos') X.env]:=by rfl)
 (ha:∀v,assign (.Subscript o i pos') X.env v=(do
  let ov <- holding [v] (eval o X.env)
  let iv <- holding [v,ov] (eval i X.env)
  standAt pos'
  holding [v,ov,iv] (setItem ov iv v)
  release [v,ov,iv] []):=by intro _;rfl):QS K X (.Assign [.Subscript o i pos'] value pos) (FF tv (WO to ti K6)) (Ch mo mi mv):=⟨T7 hv.p (cY ho.p hi.p NU ha) hs hw h1,YD ho.r hi.r hv.r⟩
def bq{iter:Expr}(hc:164)(hi:QI K X tg iter wi mi)(hg:QG K X tg g n)(hb:QSs K X body tb mb)(hp:PassesOwn 70 X.A X.env X.xe:=by exact PassesOwn.never)
 (hs:∀x,foldedSetIterable iter X.env x=pure x:=by intro _;rfl):QS K X (.For tg iter body [] pos) (Uj wi g tb) (Be mi n mb):=⟨cU hp hc hi.p hg.p hb.p hs,aj hi.r hg.r hb.r⟩
def VT(hc:QT K X c tA nA)(hb:QSs K X body tb mb)(hp:PassesOwn 70 X.A X.env X.xe:=by exact PassesOwn.never):QS K X (.While c body [] pos) (NE tA tb) (CN nA mb):=⟨Vi hp hc.p hb.p,Uy hc.r hb.r⟩
end
def ZY{K:Frag}{mg:130}{st:Stmt}{j:Nat}(DA:DefAt K mg x st f fd ps)(S:FnScope N ps (AC st))
 (h:∀(cdv:168) (A:Around) (outer:List Env) (s:120) (H:Hp) (E:XK),Room j (A.deeper (envOfC x (AC st) 65 f cdv))->∃t,QSs K (G4 CX0 P w K mg base N x (AC st) f cdv A outer s H E).nox (BR st) t m):
 FnOk P w K mg base CX0 (j+1) f fd ps (spF K 126 (mkF 126 N.length m)):=by
 refine DA.fn.ok S (λvs H Q E h=>h.1) (λcdv A outer s H vs Q E hr hs=>?_);obtain⟨t,q⟩:=h cdv A outer s H E hr;exact⟨t,q.p,PB q.r hs⟩
def ig(tp:Bool)(h:Heap)(it l:Addr)(k:Nat):Prop:=match tp with
 |true=>h.IsTupleIter it l k
 |false=>h.IsListIter it l k
def SqS(K:Frag)(tp:Bool)(H:Hp)(a:Addr)(xs:155):Prop:=match tp with
 |true=>SqT K H a xs
 |false=>SqL K H a xs
def gF(K:Frag)(ρ:111)(H:Hp)(tp:Bool)(a:Addr)(ds:137)(g:Gd):Prop:=∀(ρ2:111) (H2:Hp) (hd2:Hd),Ext ρ H ρ2 H2->RH K ρ2 H2 hd2->GOk hd2 g->∃xs,SqS K tp H2 a xs/\RDs K ρ2 H2 ds xs
def RRw(K:Frag)(tp:Bool)(t:TE)(m:MI):Prop:=∀(ρ:111) (σ:St) (H:Hp) (hd:Hd) (ls:Ls) (Q:VK) (d:137) (g:Gd) (hd':Hd),RH K ρ H hd->RL K ρ H ls σ->m ls hd=some ((d,g),hd') ->
 (∀ρ' H' a,Ext ρ H ρ' H'->RH K ρ' H' hd'->GOk hd' g->gF K ρ' H' tp a d g->Q (.ref a) H')->t σ H Q
structure QR(K:Frag)(tp:Bool)(X:Cx)(e:Expr)(t:TE)(m:MI):Prop where
 p:PE X e t
 r:RRw K tp t m
section
variable{K:Frag}{ρ':111}{H':Hp}
def aa(h:RE K t m):RRw K true t (Aw m):=by
 intro ρ σ H hd ls Q d g hd' hR hL hm hQ;obtain⟨⟨d1,h1⟩,e1,hm⟩:=ij hm;obtain⟨ds,e2,e3⟩:=ik hm;cases e3;refine h ρ σ H hd ls _ d1 _ hR hL e1 λρ1 H1 v x1 R1 r1=>?_;obtain⟨a,xs,rfl,q,r⟩:=r1.tup e2;exact hQ ρ1 H1 a x1 R1 (AJ _) λρ2 H2 hd2 x2 R2 _=>⟨xs,(x2.grow R1).sq q,r.ext R1 x2⟩
def YB(h:RE K t m):RRw K false t (Bs m):=by
 intro ρ σ H hd ls Q d g hd' hR hL hm hQ;obtain⟨⟨d1,h1⟩,e1,hm⟩:=ij hm;dsimp only at hm;split at hm
 .next n=>
  split at hm
  .next ds q=>
   cases hm;refine h ρ σ H hd ls _ _ _ hR hL e1 λρ1 H1 v x1 R1 r1=>?_;simp only[RD]at r1;obtain⟨a,hn,rfl⟩:=r1;refine hQ ρ1 H1 a x1 R1 (λp z=>by simp at z;subst z;exact q) λρ2 H2 hd2 x2 R2 G2=>?_;have hn2:ρ2[n]?=some a:=by
    obtain⟨r,rfl,_⟩:=x2.pre;rw[List.getElem?_append_left (List.getElem?_eq_some_iff.mp hn).1];exact hn
   obtain⟨ys,e4,e5⟩:=R2.lst hn2 (G2 (n,d) 71);exact⟨ys,SqL.of e4,e5⟩
  .cases hm
 .next ns=>
  cases hm;refine h ρ σ H hd ls _ _ _ hR hL e1 λρ1 H1 v x1 R1 r1=>?_;simp only[RD]at r1;obtain⟨a,rfl,q⟩:=r1;exact hQ ρ1 H1 a x1 R1 (AJ _) λρ2 H2 hd2 x2 R2 _=>⟨_,(q.grow (x2.grow R1)).sq,E8⟩
 .cases hm
def ac(h:RN K t m):RRw K false t (EX m):=by
 intro ρ σ H hd ls Q d g hd' hR hL hm hQ;obtain⟨⟨d1,h1⟩,e1,e3⟩:=ik hm;cases e3;refine h ρ σ H hd ls _ _ _ hR hL e1 λρ1 H1 a xs x1 R1 na oa ea r1=>?_;exact hQ ρ1 H1 a x1 R1 (AJ _) λρ2 H2 hd2 x2 R2 _=>⟨xs,SqL.of (x2.keep a _ ea oa nt),r1.ext R1 x2⟩
end
section
variable(K:Frag)
def T2(h:QE K X e te me):QR K true X e te (Aw me):=⟨h.p,aa h.r⟩
def Yv(h:QE K X e te me):QR K false X e te (Bs me):=⟨h.p,YB h.r⟩
def bu(h:QN K X e te m):QR K false X e te (EX m):=⟨h.p,ac h.r⟩
end
section
variable{K:Frag}
noncomputable def Hn(ml:MA)(mb:ME):ME:=λls hd=>(ml ls hd).bind λp=>(mb ls p.2).bind λq=>match q.1 with
 |.im (.int i)=>(atI p.1 i).map (·,q.2)
 |_=>none
def bH(ha:RN K ta ml)(hb:RE K tb mb):RE K (tOp (Mv K) ta tb) (Hn ml mb):=by
 and_intros;obtain⟨⟨d1,h1⟩,e1,hm⟩:=ij hm;obtain⟨⟨d2,h2⟩,e2,hm⟩:=ij hm;dsimp only at hm;split at hm
 .obtain⟨w,e3,e4⟩:=ik hm;cases e4;refine ha ρ σ H hd ls _ d1 h1 hR hL e1 λρ1 H1 a xs x1 R1 na oa ea r1=>?_;refine hb ρ1 σ H1 h1 ls _ _ _ R1 138 e2 λρ2 H2 v2 x2 R2 r2=>?_;simp only[RD,RI]at r2;subst r2;have r1':=r1.ext R1 x2;obtain⟨j,j1,j2⟩:=Lh r1'.len e3;obtain⟨x,y1,y2⟩:=r1'.get j1;exact .inl ⟨a,xs,_,x,rfl,rfl,SqL.of (x2.keep a _ ea oa nt),j2 x y1,hQ ρ2 H2 x 89 R2 y2⟩
 .cases hm
noncomputable def FV(neg:Bool)(x y:PyData)(hd:Hd):Option 161:=if x.canLay0=true/\y.canLay0=true/\min x.depth y.depth<=60 then some (.im (.bl (if neg then !PyData.eqv x y else PyData.eqv x y)),hd)else none
noncomputable def Ci(neg:Bool)(ma:ME)(ml:MA):ME:=λls hd=>(186).bind λp=>(ml ls p.2).bind λq=>(pyD q.2 p.1).bind λx=>(B9 q.1).bind λis=>FV neg x (.list (I.pys is)) q.2
noncomputable def Em(neg:Bool)(ml mk:MA):ME:=λls hd=>(ml ls hd).bind λp=>(mk ls p.2).bind λq=>(B9 p.1).bind λis=>(B9 q.1).bind λjs=>FV neg (.list (I.pys is)) (.list (I.pys js)) q.2
noncomputable def rEN(K:Frag)(neg:Bool):R2:=λx y H Q=>∃d e,Rep K H d x/\Rep K H e y/\d.canLay0=true/\e.canLay0=true/\min d.depth e.depth<=60/\Q (.bl (if neg then !PyData.eqv d e else PyData.eqv d e)) H
def L7(ea:H a=some 158)(r:RDs K ρ H ds xs)(e:B9 ds=some is):Rep K H (.list (I.pys is)) (.ref a):=by
 rw[Gy e]at r;simp only[Rep];exact⟨a,xs,rfl,SqL.of ea,r.is.rep⟩
def YY{neg:Bool}(ha:RE K ta ma)(hb:RN K tb ml):RE K (tOp (rEN K neg) ta tb) (Ci neg ma ml):=by
 and_intros;obtain⟨⟨d1,h1⟩,e1,hm⟩:=ij hm;obtain⟨⟨d2,h2⟩,e2,hm⟩:=ij hm;obtain⟨x,e3,hm⟩:=ij hm;obtain⟨is,e4,hm⟩:=ij hm;unfold FV at hm;split at hm
 .next c=>
  cases hm;refine ha ρ σ H hd ls _ d1 h1 hR hL e1 λρ1 H1 v x1 R1 r1=>?_;refine hb ρ1 σ H1 h1 ls _ d2 _ R1 138 e2 λρ2 H2 a xs x2 R2 na oa ea r2=>?_;exact⟨_,_,De R2 (r1.ext R1 x2) e3,L7 ea r2 e4,c.1,c.2.1,c.2.2,hQ ρ2 H2 _ 89 R2 133⟩
 .cases hm
def YW{neg:Bool}(ha:RN K ta ml)(hb:RN K tb mk):RE K (tOp (rEN K neg) ta tb) (Em neg ml mk):=by
 and_intros;obtain⟨⟨d1,h1⟩,e1,hm⟩:=ij hm;obtain⟨⟨d2,h2⟩,e2,hm⟩:=ij hm;obtain⟨is,e4,hm⟩:=ij hm;obtain⟨js,e3,hm⟩:=ij hm;unfold FV at hm;split at hm
 .next c=>
  cases hm;refine ha ρ σ H hd ls _ d1 h1 hR hL e1 λρ1 H1 a xs x1 R1 na oa ea r1=>?_;refine hb ρ1 σ H1 h1 ls _ d2 _ R1 138 e2 λρ2 H2 b ys x2 R2 nb ob eb r2=>?_;exact⟨_,_,L7 (x2.keep a _ ea oa nt) (r1.ext R1 x2) e4,L7 eb r2 e3,c.1,c.2.1,c.2.2,hQ ρ2 H2 _ 89 R2 133⟩
 .cases hm
end
def dH(K:Frag){X:Cx}(hu:X.A.units+64<cLine)(hK:X.K=K:=by rfl):OpR X (compareOp .Eq) (rEN K false):=IN K hu hK
def TH(K:Frag){X:Cx}(hu:X.A.units+64<cLine)(hK:X.K=K:=by rfl):OpR X (compareOp .NotEq) (rEN K true):=LF K hu hK
section
variable(K:Frag){e:Expr}{te:TE}{me:ME}{neg:Bool}
def cL(ha:QN K X a ta m)(hb:QE K X b tb mb)(hs:Ll b:=by exact λ_ _=>rfl)(hK:X.K=K:=by rfl):QE K X (.Subscript a b pos) (tOp (Mv K) ta tb) (Hn m mb):=⟨Qw ((OC K hK).or (Po K hK)) ha.p hb.p hs,bH ha.r hb.r⟩
def Pa(ho:OpR X (compareOp op) (rEN K neg))(ha:QE K X a ta ma)(hb:QN K X b tb m)(hm:behindInMarks op b=false:=by first|exact Hc _|rfl):QT K X (.Compare a [op] [b] pos) (Fh (tOp (rEN K neg) ta tb)) (AB (Ci neg ma m)):=⟨IL ho ha.p hb.p hm,Dd (YY ha.r hb.r)⟩
def Yl(ho:OpR X (compareOp op) (rEN K neg))(ha:QN K X a ta m)(hb:QN K X b tb mk)(hm:behindInMarks op b=false:=by first|exact Hc _|rfl):QT K X (.Compare a [op] [b] pos) (Fh (tOp (rEN K neg) ta tb)) (AB (Em neg m mk)):=⟨IL ho ha.p hb.p hm,Dd (YW ha.r hb.r)⟩
end
noncomputable def BO(lo:Int):Nat->List V
 |0=>[]
 |n+1=>.int lo::BO (lo+1) n
def K3(lo:Int)(n:Nat):(BO lo n).length=n:=by
 induction n generalizing lo with
 |zero=>rfl
 |succ n ih=>simp[BO,ih]
def GZ{K:Frag}(lo:Int)(n:Nat):RDs K ρ H (B1 lo n) (BO lo n):=by
 induction n generalizing lo with
 |zero=>simp[B1,BO,RDs]
 |succ n ih=>exact .cons 133 (ih _)
theorem K2{lo:Int}:∀{n:Nat} {us:83},us.length=n->(∀(j:Nat) (v:168),us[j]?=some v->∃t,v=.int (lo+j*1) t)->Vals (BO lo n) us
 |0,us,h,_=>by
  have:us=[]:=List.length_eq_zero_iff.mp h;subst this;exact .nil
 |n+1,[],h,_=>by simp at h
 |n+1,u::us,h,k=>by
  obtain⟨t,e⟩:=k 0 u rfl;refine .cons ⟨t,by rw[e];simp⟩ (K2 (by simpa using h) λj v q=>?_);obtain⟨t',e'⟩:=k (j+1) v (by simpa using q);exact⟨t',by rw[e'];congr 1;push_cast;omega⟩
section
variable{A:Around}{E:78}{s:120}
def Iu{Q:List Value->Shared->Prop}{a b c:Int}{n:Nat}(hh:A.handled=none)(hr:IsRange s.heap r a b c t u v)(hsm:Builtin.Range.small a b c=true)(hn:Builtin.Range.rangeSize a b c=n)(hl:n<=2^24)
 (hQ:∀g tk (acc:Array Value),(∀b o,s.heap.get? b=some o->g.get? b=some o)->ItemsOf (λi v=>∃t,v=.int (a+i*c) t) acc n->Q acc.toList { s with heap:=g,toks:=tk }):
 wpAny 110 A (collect (.ref r)) Q E s:=by
 unfold collect;refine iq (wpAny_runValue (kh F.entry_proto_collect ?_));rw[Around.under_plainId F.plain_proto_collect _];show wpAny _ A.in1 (newList [] >>= λl=>again (.builtin "list.__iadd__" ⟨[l,.ref r],[]⟩)) _ _ s;refine iq (wpAny_newObj_type (iu ⟨k8 F.plain_list_iadd _,kh F.entry_list_iadd ?_⟩));rw[Around.under_plainId F.plain_list_iadd _];show wpAny _ A.in1 (Builtin.List.listExtendWith (.ref 65) (.ref r) (.ref 65)) _ _ _;have e0:(s.heap.push { cls:=.type "list",data:=.seq ([]:List Value).toArray }).get? 65=some { cls:=.type "list",data:=.seq #[] 0 }:=87 _ rfl;have fin:∀g tk (acc:Array Value) c',(∀b o,b≠65->(s.heap.push { cls:=.type "list",data:=.seq ([]:List Value).toArray }).get? b=some o->g.get? b=some o)->g.get? 65=some { cls:=.type "list",dict:=none,data:=.seq acc c',slots:=#[] }->ItemsOf (λi v=>∃t,v=.int (a+i*c) t) acc n ->
  wpAny 110 A (load 65 >>= λo=>match o.data with|Data.seq xs epoch=>pure xs.toList|x=>unsupported "internal:collect") Q E { s with heap:=g,toks:=tk }:=λg tk acc c' kp eS it=>
  iq (wpAny_load eS (iu (hQ g tk acc (λb o q=>kp b o (jb (84 q)) (72 _ q)) it)))
 refine jh (wpAny_extend_range (A:=A) (R:=λr s'=>r=.ok (.ret (.ref 65))/\∃g tk,s'={ s with heap:=g,toks:=tk }/\wpAny 110 A (load 65 >>= λo=>match o.data with|Data.seq xs epoch=>pure xs.toList|x=>unsupported "internal:collect") Q E s')
  (s:={ s with heap:=s.heap.push { cls:=.type "list",data:=.seq ([]:List Value).toArray } }) hh (72 _ hr) hsm hn hl 65 (.ref 65) 0 e0 λg tk acc c' kp eS it=>⟨rfl,g,tk,rfl,fin g tk acc c' kp eS it⟩) (λfn s' h=>?_) (λe s' h=>absurd h.1 (by simp))
 cases fn with
 |done f=>
  obtain⟨e,_,_,_,q⟩:=h;cases e;exact q
 |again c'=>exact⟨h.1,kr h.2 λr s'' hr=>by obtain⟨rfl,_,_,_,q⟩:=hr;exact q⟩
def NC(r:Addr)(a b c:Int)(t u v:Tok)(n:Nat)(hsm:Builtin.Range.small a b c=true)(hn:Builtin.Range.rangeSize a b c=n)(hl:n<=2^24):
 Meets (Builtin.«tuple.__new__» ⟨[.type "tuple",.ref r],[]⟩)
  (λ(A:Around) (R:Result->Shared->Prop) (s:120)=>A.handled=none/\IsRange s.heap r a b c t u v/\∀(g:Heap) (tk:Nat) (acc:Array Value),(∀b o,s.heap.get? b=some o->g.get? b=some o)->ItemsOf (λi v=>∃t,v=.int (a+i*c) t) acc n->R (.ok (.ret (.ref g.objs.size))) { s with heap:=g.push { cls:=.type "tuple",data:=.seq acc },toks:=tk }):=
 .of_wp λprog w A R s h=>by
  obtain⟨hp,gg,d,tk,os⟩:=s;obtain⟨hh,hr,h⟩:=h;have hsub:=sub_tuple_self;have hinit:=init_tuple_lookup;have hmh:=madeHere_tuple;have hT:Shared.TypeIs ⟨hp,gg,d,tk,os⟩ (.ref r) "range":=⟨_,hr,rfl⟩
  have hh':A.in1.handled=none:=hh
  wp_walk using wpAny_typeOf hT,wpAny_loadPart' hr,Iu hh' hr hsm hn hl
  intro g tk2 acc kp it;show wpAny _ _ (Builtin.Tuple.tupleExact acc.toList.toArray >>= λv=>ret v) _ _ _;unfold Builtin.Tuple.tupleExact;refine iq (wpAny_newObj_type ?_ (by show acc.toList.toArray.size<=sizeLine;rw[jt];have:=it.1;simp only[Array.toArray_toList];omega));refine iu ⟨_,rfl,?_⟩;have e:acc.toList.toArray=acc:=by simp
  rw[e];exact h g tk2 acc kp it
end
def PV:List V->Hp->VK->Prop:=λxs H Q=>∃j:Int,xs=[.int j]/\∀p,H p=none->Q (.ref p) (upd H p (.rng 0 j))
def PU:List V->Hp->VK->Prop:=λxs H Q=>∃i j:Int,xs=[.int i,.int j]/\∀p,H p=none->Q (.ref p) (upd H p (.rng i j))
def Np:List V->Hp->VK->Prop:=λxs H Q=>∃a lo hi,xs=[.ref a]/\H a=some (.rng lo hi)/\(-(2^62)<=lo/\lo<2^62/\-(2^62)<=hi/\hi<2^62)/\(hi-lo).toNat<=2^24/\∀p,H p=none->Q (.ref p) (upd H p (.lst (BO lo (hi-lo).toNat)))
def LB:List V->Hp->VK->Prop:=λxs H Q=>∃a lo hi,xs=[.ref a]/\H a=some (.rng lo hi)/\(-(2^62)<=lo/\lo<2^62/\-(2^62)<=hi/\hi<2^62)/\(hi-lo).toNat<=2^24/\∀p,H p=none->Q (.ref p) (upd H p (.tup (BO lo (hi-lo).toNat)))
section
def call_rng1:CallR X (.type "range") PV:=by
 intro pins s σ H xs us Q I r h;obtain⟨j,rfl,q⟩:=h;obtain⟨u,rfl,t,rfl⟩:=BL r;exact call_range_1 ⟨.ref 65,_,I.laid (a:=65) (o:=.rng 0 j) (λb o e=>72 _ e) (ir _) ⟨_,_,_,87 _ rfl⟩,rfl,q _ (I.hok.fresh (ir _))⟩
def MQ:CallR X (.type "range") PU:=by
 intro pins s σ H xs us Q I r h;obtain⟨i,j,rfl,q⟩:=h;obtain⟨u,v,rfl,⟨t,rfl⟩,⟨t',rfl⟩⟩:=Mo r;exact call_range_2 ⟨.ref 65,_,I.laid (a:=65) (o:=.rng i j) (λb o e=>72 _ e) (ir _) ⟨_,_,_,87 _ rfl⟩,rfl,q _ (I.hok.fresh (ir _))⟩
def Qf{lo hi:Int}:Builtin.Range.rangeSize lo hi 1=((hi-lo).toNat:Nat):=by rw[rangeSize_one];split<;>omega
def Gi{lo:Int}{n:Nat}(it:ItemsOf (λi v=>∃t,v=.int (lo+i*1) t) acc n):Vals (BO lo n) acc.toList:=K2 (by simpa using it.1) λj v q=>it.2 j v (by simpa using q)
def Ry(hc:164):CallR X (.type "list") Np:=by
 intro pins s σ H xs us Q I r h;obtain⟨a,lo,hi,rfl,ha,⟨b1,b2,b3,b4⟩,hz,q⟩:=h;obtain⟨u,rfl,ru⟩:=BL r;cases ru;obtain⟨t,u,v,hr⟩:∃t u v,s.heap.get? a=some { cls:=.type "range",data:=.fields #[.int lo t,.int hi u,.int 1 v] }:=I.hok a _ ha;refine call_list_range (I.ok.hd hc) hr (small_one b1 b2 b3 b4) Qf hz λg tk acc c' kp e it=>?_;exact⟨.ref 65,_,I.laid (t':=tk) (o:=.lst _) kp (ir _) ⟨by rw[K3,jt];omega,acc.toList,c',Gi it,by simpa using e⟩,rfl,q _ (I.hok.fresh (ir _))⟩
def P2(hc:164):CallR X (.type "tuple") LB:=by
 intro pins s σ H xs us Q I r h;obtain⟨a,lo,hi,rfl,ha,⟨b1,b2,b3,b4⟩,hz,q⟩:=h;obtain⟨u,rfl,ru⟩:=BL r;cases ru;obtain⟨t,u,v,hr⟩:∃t u v,s.heap.get? a=some { cls:=.type "range",data:=.fields #[.int lo t,.int hi u,.int 1 v] }:=I.hok a _ ha;refine callType_new F.called_tuple 95 (F.typeCall_tuple_1 _) (F.newCall_tuple_1 _) (λobj=>F.args_object_init_2 obj _) F.entry_tuple_new (NC a lo hi 1 t u v _ (small_one b1 b2 b3 b4) Qf hz)
  ⟨I.ok.hd hc,hr,λg tk acc kp it=>⟨⟨_,87 _ rfl,rfl⟩,?_⟩⟩
 have I1:Inv X pins σ H { s with heap:=g,toks:=tk }:=I.kept kp;exact⟨.ref g.objs.size,_,I1.laid (t':=tk) (o:=.tup (BO lo (hi-lo).toNat)) (λb o e=>72 _ e) (ir _) ⟨by rw[K3,jt];omega,acc.toList,Gi it,⟨_,87 _ rfl,rfl,⟨0,by simp⟩,rfl⟩⟩,rfl,q _ (I1.hok.fresh (ir _))⟩
end
section
variable{K:Frag}
open Classical in
noncomputable def Gb(m:MA):MA:=λls hd=>(m ls hd).bind λp=>match p.1 with
 |[.im (.int j)]=>if Fm j then some (B1 0 j.toNat,p.2)else none
 |[.im (.int i),.im (.int j)]=>if X6 i j then some (B1 i (j-i).toNat,p.2)else none
 |_=>none
def K7:List V->Hp->VK->Prop:=λxs H Q=>PV xs H Q∨PU xs H Q
def V5(h:RA K t m):RN K (tCB Np (BJ (tCB K7 t) BM)) (Gb m):=by
 and_intros;obtain⟨⟨d1,h1⟩,e1,hm⟩:=ij hm;dsimp only at hm;refine h ρ σ H hd ls _ d1 h1 hR hL e1 λρ1 H1 v x1 R1 r1=>?_;split at hm
 .next j=>
  split at hm
  .next c=>
   have c:j<2^24/\-(2^62)<=j:=c;cases hm;simp only[RDs,RD,RI]at r1;obtain⟨x,r,rfl,rfl,rfl⟩:=r1;refine .inl ⟨j,rfl,λp hp=>⟨p,0,j,rfl,AH,⟨by decide,by decide,c.2,by omega⟩,by omega,λl hl=>?_⟩⟩;obtain⟨R2,x2⟩:=R1.hid (ho:=.rng 0 j) hp;obtain⟨R3,x3⟩:=R2.hid (ho:=.lst (BO 0 (j-0).toNat)) hl;refine hQ ρ1 _ l (BO 0 (j-0).toNat) ((89).trans R2 x3) R3 ((89).none hR hl R2) (R2.out hl) AH ?_;rw[Int.sub_zero];exact GZ 0 _
  .cases hm
 .next i j=>
  split at hm
  .next c=>
   cases hm;simp only[RDs,RD,RI]at r1;obtain⟨x,r,rfl,rfl,y,r2,rfl,rfl,rfl⟩:=r1;refine .inr ⟨i,j,rfl,λp hp=>⟨p,i,j,rfl,AH,⟨c.1.1,c.1.2,c.2.1.1,c.2.1.2⟩,c.2.2,λl hl=>?_⟩⟩;obtain⟨R2,x2⟩:=R1.hid (ho:=.rng i j) hp;obtain⟨R3,x3⟩:=R2.hid (ho:=.lst (BO i (j-i).toNat)) hl;exact hQ ρ1 _ l (BO i (j-i).toNat) ((89).trans R2 x3) R3 ((89).none hR hl R2) (R2.out hl) AH (GZ i _)
  .cases hm
 .cases hm
noncomputable def IQ(m:MA):ME:=λls hd=>(Gb m ls hd).bind λp=>some (B7 p.1,p.2)
def YT(h:RA K t m):RE K (tCB LB (BJ (tCB K7 t) BM)) (IQ m):=by
 and_intros;obtain⟨⟨dd,h0⟩,e0,hm⟩:=ij hm;cases hm;obtain⟨⟨d1,h1⟩,e1,hm⟩:=ij e0;dsimp only at hm;refine h ρ σ H hd ls _ d1 h1 hR hL e1 λρ1 H1 v x1 R1 r1=>?_;split at hm
 .next j=>
  split at hm
  .next c=>
   have c:j<2^24/\-(2^62)<=j:=c;cases hm;simp only[RDs,RD,RI]at r1;obtain⟨x,r,rfl,rfl,rfl⟩:=r1;refine .inl ⟨j,rfl,λp hp=>⟨p,0,j,rfl,AH,⟨by decide,by decide,c.2,by omega⟩,by omega,λl hl=>?_⟩⟩;obtain⟨R2,x2⟩:=R1.hid (ho:=.rng 0 j) hp;obtain⟨R3,x3⟩:=R2.hid (ho:=.tup (BO 0 (j-0).toNat)) hl;refine hQ ρ1 _ _ ((89).trans R2 x3) R3 (DX (SqT.of AH) ?_);rw[Int.sub_zero];exact GZ 0 _
  .cases hm
 .next i j=>
  split at hm
  .next c=>
   cases hm;simp only[RDs,RD,RI]at r1;obtain⟨x,r,rfl,rfl,y,r2,rfl,rfl,rfl⟩:=r1;refine .inr ⟨i,j,rfl,λp hp=>⟨p,i,j,rfl,AH,⟨c.1.1,c.1.2,c.2.1.1,c.2.1.2⟩,c.2.2,λl hl=>?_⟩⟩;obtain⟨R2,x2⟩:=R1.hid (ho:=.rng i j) hp;obtain⟨R3,x3⟩:=R2.hid (ho:=.tup (BO i (j-i).toNat)) hl;exact hQ ρ1 _ _ ((89).trans R2 x3) R3 (DX (SqT.of AH) (GZ i _))
  .cases hm
 .cases hm
def D3:∀{xs ys:88},xs.Perm ys->xs.Pairwise (·<=·)->ys.Pairwise (·<=·)->xs=ys:=λ{xs ys} p a b=>
 p.eq_of_pairwise (le:=(·<=·)) (λ_ _ _ _ h1 h2=>kg h1 h2) a b
noncomputable def AY(xs:88):List Int:=xs.mergeSort (λa b=>decide (a<=b))
def Bw(xs:88):(AY xs).Perm xs:=List.mergeSort_perm ..
def Cp(xs:88):(AY xs).Pairwise (·<=·):=by
 have:=List.pairwise_mergeSort (le:=λa b:Int=>decide (a<=b)) (by intro a b c h1 h2;simp at *;omega) (by intro a b;simp;omega) xs;exact this.imp 71
noncomputable def Bo(m:MI):MA:=λls hd=>(m ls hd).bind λp=>(Av p.1.1).bind λns=>if 169<64 then some ((AY ns).map λi=>.im 135,p.2)else none
def Qi(h:RRw K false t m):RN K (tCB (LD K) (BJ t BM)) (Bo m):=by
 and_intros;obtain⟨⟨⟨d1,g1⟩,h1⟩,e1,hm⟩:=ij hm;obtain⟨ns,e2,hm⟩:=ij hm;split at hm
 .next c=>
  cases hm;refine h ρ σ H hd ls _ d1 g1 _ hR hL e1 λρ1 H1 a x1 R1 G1 S1=>?_;obtain⟨xs,q,r⟩:=S1 ρ1 H1 _ .refl R1 G1;have e3:d1=ns.map λi=>.im 135:=Bt e2;rw[e3]at r;have:=E4 r;subst this;refine⟨a,ns,rfl,q,c,λp ns' hp pm pw=>?_⟩;have:ns'=AY ns:=D3 (pm.trans (Bw ns).symm) pw (Cp ns);subst this;obtain⟨R2,x2⟩:=R1.hid (ho:=.lst ((AY ns).map V.int)) hp;exact hQ ρ1 _ p _ 89 R2 (x1.none hR hp R1) (R1.out hp) AH E8
 .cases hm
end
section
variable(K:Frag){X:Cx}{b:Expr}{ta tb:TE}{me:ME}
def VW(hm:X.mg "list"=none)(hm2:X.mg "range"=none)(ha:QA K X (a::es) t m)(hc:X.calm=true:=by rfl)(hg:Gl X "list":=by rfl)(hg2:Gl X "range":=by rfl)(he2:starEach (a::es) X.env=(false,eval a X.env)::starEach es X.env:=by rfl)(hpl:(backTo pos2 149).any (·.1)=false:=by rfl)
 (he:starEach [.Call (.Name "range" p2) (a::es) [] pos2] X.env=[(false,eval (.Call (.Name "range" p2) (a::es) [] pos2) X.env)]:=by rfl):
 QN K X (.Call (.Name "list" p) [.Call (.Name "range" p2) (a::es) [] pos2] [] pos) (tCB Np (BJ (tCB K7 t) BM)) (Gb m):=
 ⟨CB (Ry hc) hg hm Ld (Bm (CB (call_rng1.or MQ) hg2 hm2 boot_range ha.p 95 95 he2 hpl) CC he) 95 95 he rfl,V5 ha.r⟩
def Z4(hm:X.mg "tuple"=none)(hm2:X.mg "range"=none)(ha:QA K X (a::es) t m)(hc:X.calm=true:=by rfl)(hg:Gl X "tuple":=by rfl)(hg2:Gl X "range":=by rfl)(he2:starEach (a::es) X.env=(false,eval a X.env)::starEach es X.env:=by rfl)(hpl:(backTo pos2 149).any (·.1)=false:=by rfl)
 (he:starEach [.Call (.Name "range" p2) (a::es) [] pos2] X.env=[(false,eval (.Call (.Name "range" p2) (a::es) [] pos2) X.env)]:=by rfl):
 QE K X (.Call (.Name "tuple" p) [.Call (.Name "range" p2) (a::es) [] pos2] [] pos) (tCB LB (BJ (tCB K7 t) BM)) (IQ m):=
 ⟨CB (P2 hc) hg hm bt_tuple (Bm (CB (call_rng1.or MQ) hg2 hm2 boot_range ha.p 95 95 he2 hpl) CC he) 95 95 he rfl,YT ha.r⟩
def Qu(hm:X.mg "sorted"=none)(ha:QR K false X e te mi)(hg:Gl X "sorted":=by rfl)(he:starEach [e] X.env=[109]:=by rfl)(hK:X.K=K:=by rfl):QN K X (.Call (.Name "sorted" p) [e] [] pos) (tCB (LD K) (BJ te BM)) (Bo mi):=
 ⟨E6 (Ob K hK) hg hm Ft (Bm ha.p CC he) 95 95 he rfl,Qi ha.r⟩
end
end L2
namespace L2
structure BltA(mg:PySem.Str->Option PySem.Value):Prop where
 list:mg "list"=none
 tuple:mg "tuple"=none
 len:mg "len"=none
 range:mg "range"=none
 repr:mg "repr"=none
 sum:mg "sum"=none
 min:mg "min"=none
 max:mg "max"=none
 abs:mg "abs"=none
 all:mg "all"=none
 any:mg "any"=none
 sorted:mg "sorted"=none
 zip:mg "zip"=none
 isinstance:mg "isinstance"=none
 int:mg "int"=none
 bool:mg "bool"=none
 str:mg "str"=none
 set:mg "set"=none
 enumerate:mg "enumerate"=none
 reversed:mg "reversed"=none
 dict:mg "dict"=none
end L2
namespace L2
open PySem PySem.Spec PyProof.Rows
section
variable{ls:Ls}{hd:Hd}{a b c:MS}{ma mb mc:ME}{ta tb:MT}{m m1 m2:MA}{n:MG}{ns:MGs}{d e:D}
@[simp] theorem KY:A6 a b ls hd=(a ls hd).bind λp=>match p.1 with
 |.nx ls1=>b ls1 p.2
 |f=>some (f,p.2):=rfl
@[simp] theorem Pw:AZ ls hd=some (.nx ls,hd):=rfl
@[simp] theorem a9:An ma ls hd=(186).bind λp=>some (.nx ls,p.2):=rfl
@[simp] theorem To:AN ma ls hd=(186).bind λp=>some (.rt p.1,p.2):=rfl
@[simp] theorem OO:Ak ta a b ls hd=(ta ls hd).bind λp=>if p.1=true then a ls p.2 else b ls p.2:=rfl
@[simp] theorem Ka:Fx ma n ls hd=(186).bind λp=>(n p.1 ls p.2).map λls'=>(.nx ls',p.2):=rfl
@[simp] theorem LS(i:Nat):AD i d ls hd=some (ls.set i (some d)):=rfl
@[simp] theorem hZ(k:Nat):C1 k ns d ls hd=(Ai d).bind λds=>if 97=k then ns ds ls hd else none:=rfl
@[simp] theorem ga(d:D)(ds:137):AV n ns (d::ds) ls hd=(n d ls hd).bind λls1=>ns ds ls1 hd:=rfl
@[simp] theorem i4:C2 [] ls hd=some ls:=rfl
@[simp] theorem DJ(i:Nat):A0 i ls hd=match ls[i]? with
 |some (some d)=>some (d,hd)
 |_=>none:=rfl
@[simp] theorem gj(i:I):mC i ls hd=some (.im i,hd):=rfl
@[simp] theorem KZ(f:D->D->Hd->Option 161):mOp f ma mb ls hd=(186).bind λp=>(mb ls p.2).bind λq=>f p.1 q.1 q.2:=rfl
@[simp] theorem OQ:DB ta tb ls hd=(ta ls hd).bind λp=>if p.1=true then tb ls p.2 else some (false,p.2):=rfl
@[simp] theorem iV:mOr ta tb ls hd=(ta ls hd).bind λp=>if p.1=true then some (true,p.2)else tb ls p.2:=rfl
@[simp] theorem iE:Hk ta ls hd=(ta ls hd).bind λp=>some (!p.1,p.2):=rfl
@[simp] theorem KW:C9 ma ls hd=(186).bind λp=>(CI p.2 p.1).map (·,p.2):=rfl
@[simp] theorem Ig:AB ma ls hd=(186).bind λp=>match p.1 with
 |.im (.bl b)=>some (b,p.2)
 |_=>none:=rfl
@[simp] theorem iW:mIf ta ma mb ls hd=(ta ls hd).bind λp=>if p.1=true then ma ls p.2 else mb ls p.2:=rfl
@[simp] theorem i8:Gf ma mb ls hd=(AB ma ls hd).bind λp=>if p.1=true then mb ls p.2 else some (.im (.bl false),p.2):=rfl
@[simp] theorem i3:IS ma ls hd=(AB ma ls hd).bind λp=>some (.im (.bl (!p.1)),p.2):=rfl
@[simp] theorem I0:A4 ls hd=some ([],hd):=rfl
@[simp] theorem Ih:A1 ma m ls hd=(186).bind λp=>(m ls p.2).bind λq=>some (p.1::q.1,q.2):=rfl
open Classical in
@[simp] theorem du:B5 m ls hd=(m ls hd).bind λp=>if Bu p.1.length then some (B7 p.1,p.2)else none:=rfl
open Classical in
@[simp] theorem dz:Af m ls hd=(m ls hd).bind λp=>if Bu p.1.length then some (p.1,p.2)else none:=rfl
@[simp] theorem dw:AU m ls hd=(m ls hd).bind λp=>some (.mu p.2.length,p.2++[.lst p.1]):=rfl
@[simp] theorem dy:EW ma ls hd=(186).bind λp=>match p.1 with
 |.im (.int i)=>some (.im (.int (-i)),p.2)
 |_=>none:=rfl
@[simp] theorem iF(neg:Bool):FP neg ma ls hd=(186).bind λp=>some (.im (.bl (match p.1 with
 |.im .non=>!neg
 | _=>neg)),p.2):=rfl
@[simp] theorem iX(g:Int->Int->Option I)(i j:Int):fI g (.im 135) (.im (.int j)) hd=(g i j).map (.im ·,hd):=rfl
@[simp] theorem LU(f g:D->D->Hd->Option 161):Ie f g d e hd=match f d e hd with
 |some z=>some z
 |none=>g d e hd:=rfl
@[simp] theorem OP(neg:Bool)(i j:Int):G0 neg (.im 135) (.im (.int j)) hd=some (.im (.bl (if neg then !decide (i=j)else decide (i=j))),hd):=by
 have q:NV 135 (.int j)=true:=rfl;simp[G0,scI,q]
@[simp] theorem iG(neg:Bool)(i j:Str):G0 neg (.im (.str i)) (.im (.str j)) hd=some (.im (.bl (if neg then !decide (i=j)else decide (i=j))),hd):=by
 have q:NV (.str i) (.str j)=true:=rfl;simp[G0,scI,q]
@[simp] theorem Xa(i:Int):gIx d (.im 135) hd=(Ao hd d).bind λds=>(atI ds i).map (·,hd):=rfl
@[simp] theorem aB:Ep d e hd=(CP hd d).bind λkvs=>(Cv e).bind λk=>(BU kvs k).map (·,hd):=rfl
@[simp] theorem iY(f:118):mCB f m ls hd=(m ls hd).bind λp=>f p.1 p.2:=rfl
@[simp] theorem fj(tp:Bool)(g:List D->Option D):f1 tp g [d] hd=((if tp then Ao hd d else Ad hd d)).bind λds=>(g ds).map (·,hd):=rfl
@[simp] theorem Tr(g:List D->Option D):B6 g m ls hd=(m ls hd).bind λp=>(g p.1).map (·,p.2):=rfl
@[simp] theorem Rm(f:D->List D->Hd->Option 161):mMt f ma m ls hd=(186).bind λp=>match Ad p.2 p.1 with
 |some _=>(m ls p.2).bind λq=>f p.1 q.1 q.2
 |none=>none:=rfl
@[simp] theorem i6(i j:Int):DP [.im 135,.im (.int j)] hd=some (.im (.int (if j>i then j else i)),hd):=rfl
@[simp] theorem i5(i j:Int):Gp [.im 135,.im (.int j)] hd=some (.im (.int (if j<i then j else i)),hd):=rfl
@[simp] theorem e9:Hn m ma ls hd=(m ls hd).bind λp=>(ma ls p.2).bind λq=>match q.1 with
 |.im (.int i)=>(atI p.1 i).map (·,q.2)
 |_=>none:=rfl
@[simp] theorem eB:Aw ma ls hd=(186).bind λp=>(Ai p.1).map λds=>((ds,[]),p.2):=rfl
@[simp] theorem eD:EX m ls hd=(m ls hd).map λp=>((p.1,[]),p.2):=rfl
@[simp] theorem Tq:Bs ma ls hd=(186).bind λp=>match p.1 with
 |.mu n=>match p.2[n]? with
  |some (.lst ds)=>some ((ds,[(n,ds)]),p.2)
  |_=>none
 |.ro ns=>some ((ns.map λn=>.im (.int n),[]),p.2)
 |_=>none:=rfl
open Classical in
@[simp] theorem eC:Cu m ls hd=(m ls hd).bind λp=>match p.1 with
 |[.im (.int j)]=>if GW j then some ((B1 0 j.toNat,[]),p.2)else none
 |_=>none:=rfl
@[simp] theorem eE(mi:MI):Be mi n a ls hd=(mi ls hd).bind λp=>Bp n a p.1.2 p.1.1 ls p.2:=rfl
open Classical in
@[simp] theorem i7(k:Nat)(ix:73)(mi:MI):Ab k ix mi n ta ma ls hd=(mi ls hd).bind λp=>if Bu p.1.1.length then CO n ta ma p.1.2 p.1.1 (DS k ix ls) p.2 else none:=rfl
@[simp] theorem iC:BV ls hd=some (true,hd):=rfl
@[simp] theorem gh(F:118):BZ F m ls hd=(m ls hd).bind λp=>F p.1 p.2:=rfl
@[simp] theorem gK:GH ls hd=some (none,hd):=rfl
@[simp] theorem hJ:KG ma ls hd=(186).bind λp=>match p.1 with
 |.im (.int i)=>some (some i,p.2)
 |_=>none:=rfl
@[simp] theorem a8:IT ma ls hd=(186).bind λp=>(Ao p.2 p.1).map (·,p.2):=rfl
@[simp] theorem gb:Hm m ls hd=m ls hd:=rfl
@[simp] theorem iD(ml mh:MO1):LI ma ml mh ls hd=(186).bind λp=>(ml ls p.2).bind λl=>(mh ls l.2).bind λh=>(Ad h.2 p.1).bind λds=>some (Gv ds l.1 h.1,h.2):=rfl
@[simp] theorem hE:IQ m ls hd=(Gb m ls hd).bind λp=>some (B7 p.1,p.2):=rfl
open Classical in
@[simp] theorem dv:Gb m ls hd=(m ls hd).bind λp=>match p.1 with
 |[.im (.int j)]=>if Fm j then some (B1 0 j.toNat,p.2)else none
 |[.im (.int i),.im (.int j)]=>if X6 i j then some (B1 i (j-i).toNat,p.2)else none
 |_=>none:=rfl
@[simp] theorem Tm(mi:MI):Bo mi ls hd=(mi ls hd).bind λp=>(Av p.1.1).bind λns=>if 169<64 then some ((AY ns).map λi=>.im 135,p.2)else none:=rfl
open Classical in
@[simp] theorem aA:IU ma mb mc ls hd=(mc ls hd).bind λp=>(ma ls p.2).bind λq=>(mb ls q.2).bind λr=>(Cv r.1).bind λk=>match q.1 with
 |.mu n=>match r.2[n]? with
  |some (.dic kvs)=>if D5 184 then some (.nx ls,r.2.set n (.dic (E5 kvs k p.1)))else none
  |_=>none
 |_=>none:=rfl
@[simp] theorem a7:Ch ma mb mc ls hd=(mc ls hd).bind λp=>(ma ls p.2).bind λq=>(mb ls q.2).bind λr=>match q.1,r.1 with
 |.mu n,.im (.int i)=>match r.2[n]? with
  |some (.lst ds)=>(ixN 97 i).map λj=>(.nx ls,r.2.set n (.lst (ds.set j p.1)))
  |_=>none
 |_,_=>none:=rfl
@[simp] theorem i9(is:List I):Ai (.im (.tup is))=some (is.map .im):=rfl
@[simp] theorem iL(ds:137):Ai (.tm ds)=some ds:=rfl
@[simp] theorem iN(k:Nat):Ai (.mu k)=none:=rfl
@[simp] theorem iM(k:88):Ai (.ro k)=none:=rfl
@[simp] theorem Cb(is:List I):Ao hd (.im (.tup is))=some (is.map .im):=rfl
@[simp] theorem iO(ds:137):Ao hd (.tm ds)=some ds:=rfl
@[simp] theorem X1(k:Nat):Ao hd (.mu k)=Ad hd (.mu k):=rfl
@[simp] theorem iP(k:88):Ao hd (.ro k)=some (k.map λn=>.im (.int n)):=rfl
@[simp] theorem IV(k:Nat):Ad hd (.mu k)=match hd[k]? with
 |some (.lst ds)=>some ds
 |_=>none:=rfl
@[simp] theorem iR(k:88):Ad hd (.ro k)=some (k.map λn=>.im (.int n)):=rfl
@[simp] theorem iZ(k:Nat):CP hd (.mu k)=match hd[k]? with
 |some (.dic ds)=>some ds
 |_=>none:=rfl
@[simp] theorem iT(i:Int):Cv (.im 135)=some (.inl i):=rfl
@[simp] theorem iS(i:Str):Cv (.im (.str i))=some (.inr i):=rfl
@[simp] theorem iK:B9 []=some []:=rfl
@[simp] theorem ic(i:I)(r:137):B9 (.im i::r)=(B9 r).map (i::·):=rfl
@[simp] theorem iA:Av []=some []:=rfl
@[simp] theorem iB(i:Int)(r:137):Av (.im 135::r)=(Av r).map (i::·):=rfl
@[simp] theorem iJ:CS []=some []:=rfl
@[simp] theorem ia(i:Bool)(r:137):CS (.im (.bl i)::r)=(CS r).map (i::·):=rfl
@[simp] theorem Bc(is:List I):B7 (is.map .im)=.im (.tup is):=by simp[B7]
@[simp] theorem gJ:B7 []=.im (.tup []):=rfl
@[simp] theorem Ph(i:I):B7 [.im i]=.im (.tup [i]):=rfl
@[simp] theorem Ex(i j:I):B7 [.im i,.im j]=.im (.tup [i,j]):=rfl
@[simp] theorem GG(i j k:I):B7 [.im i,.im j,.im k]=.im (.tup [i,j,k]):=rfl
@[simp] theorem gz(i j k l:I):B7 [.im i,.im j,.im k,.im l]=.im (.tup [i,j,k,l]):=rfl
@[simp] theorem iI(w:Nat)(i:I):clD w (.im i)=true:=by simp[clD]
@[simp] theorem iH(w n:Nat):clD w (.mu n)=decide (n<w):=by simp[clD]
@[simp] theorem gn(w:Nat):As w []=true:=by simp[As]
@[simp] theorem U5(w:Nat)(d:D)(ds:137):As w (d::ds)=(clD w d&&As w ds):=by simp[As]
@[simp] theorem Cg{α:Type}(x:α)(r:List α):atI (x::r) 0=some x:=BD (j:=0) rfl
@[simp] theorem DD{α:Type}(x y:α)(r:List α):atI (x::y::r) 1=some y:=BD (j:=1) rfl
@[simp] theorem Ef{α:Type}(x y z:α)(r:List α):atI (x::y::z::r) 2=some z:=BD (j:=2) rfl
def IH{α:Type}{xs:List α}{i:Int}{k:Nat}{x:α}(hi:i=k)(h:xs[k]?=some x):atI xs i=some x:=by subst hi;exact BD h
@[simp] theorem DI:Bu 0:=AL 95
@[simp] theorem Cw:Bu 1:=AL 95
@[simp] theorem DH:Bu 2:=AL 95
@[simp] theorem Cc:Bu 3:=AL 95
@[simp] theorem KU:Bu 4:=AL 95
@[simp] theorem KS:Bu 5:=AL 95
open Classical in
@[simp] theorem Ts(k:Nat)(x:D):AX (.mu k) [x] hd=match hd[k]? with
 |some (.lst ds)=>if D5 97 then some (.im .non,hd.set k (.lst (ds++[x])))else none
 |_=>none:=rfl
def IE{F:118}(h1:m ls hd=some (ds,hd1))(hc:As 0 ds=true)(hF:F ds []=some (.im i,h2)):A8 0 F m ls hd=some (.im i,hd1):=by
 simp[A8,h1,hc,hF,fin]
def S0{F:118}{k:Nat}(h1:m ls hd=some (ds,hd1))(hc:As 0 ds=true)(hF:F ds []=some (.mu k,h2))(hk:h2[k]?=some (.lst es))(hes:As 0 es=true):A8 0 F m ls hd=some (.mu hd1.length,hd1++[.lst es]):=by
 simp[A8,h1,hc,hF,fin,hk,hes]
def Of{w:Nat}{F:118}{pre pre' rest:Hd}(hw:pre.length=w)(hw':pre'.length=w)(h1:m ls hd=some (ds,pre++rest))(hc:As w ds=true)(hp:pre.all (clO w)=true)(hp':pre'.all (clO w)=true)(hF:F ds pre=some (.im i,pre'++g)):A8 w F m ls hd=some (.im i,pre'++rest):=by
 subst hw;have e1:(pre++rest).take pre.length=pre:=by simp
 have e2:(pre'++g).take pre.length=pre':=by rw[<- hw'];simp
 simp only[A8,h1,bind_some,e1,hc,hp,hF,fin,e2,hp'];simp
end
def O6:Bp n b g [] ls hd=some (.nx ls,hd):=by unfold Bp;rfl
def Hr(h1:n d ls hd=some ls1)(h2:b ls1 hd=some (.nx ls2,hd2))(h3:GOk hd2 g):Bp n b g (d::r) ls hd=Bp n b g r ls2 hd2:=by
 conv=>lhs;unfold Bp
 simp[h1,h2,h3]
def W7(h1:n d ls hd=some ls1)(h2:b ls1 hd=some (.rt v,hd2)):Bp n b g (d::r) ls hd=some (.rt v,hd2):=by
 conv=>lhs;unfold Bp
 simp[h1,h2]
section
variable{K:Frag}
def Zy(G:GOk h g)(r:Hd):GOk (h++r) g:=λp hp=>by
 have:=G p hp;have hl:p.1<h.length:=(75 this).1;rw[List.getElem?_append_left hl];exact this
end
open Classical in
noncomputable def Ge(ma mb:ME):MA:=λls hd=>(186).bind λp=>(mb ls p.2).bind λq=>match p.1,q.1 with
 |.mu i,.mu j=>match q.2[i]?,q.2[j]? with
  |some (.lst xs),some (.lst ys)=>if Bu (96+ys.length)then some (xs++ys,q.2)else none
  |_,_=>none
 |_,_=>none
def aq{K:Frag}(ha:RE K ta ma)(hb:RE K tb mb):RN K (tOp VO ta tb) (Ge ma mb):=by
 and_intros;obtain⟨⟨d1,h1⟩,e1,hm⟩:=ij hm;obtain⟨⟨d2,h2⟩,e2,hm⟩:=ij hm;dsimp only at hm;split at hm
 .next i j=>
  split at hm
  .next xs ys q1 q2=>
   split at hm
   .next c=>
    cases hm;refine ha ρ σ H hd ls _ _ h1 hR hL e1 λρ1 H1 v x1 R1 r1=>?_;refine hb ρ1 σ H1 h1 ls _ _ _ R1 138 e2 λρ2 H2 u x2 R2 r2=>?_;have r1':=r1.ext R1 x2;simp only[RD]at r1' r2;obtain⟨a,ka,rfl⟩:=r1';obtain⟨b,kb,rfl⟩:=r2;obtain⟨vs,f1,f2⟩:=R2.lst ka q1;obtain⟨us,f3,f4⟩:=R2.lst kb q2;refine⟨a,b,vs,us,rfl,rfl,f1,f3,by rw[f2.len,f4.len];exact c,λp hp=>?_⟩;obtain⟨R3,x3⟩:=R2.hid (ho:=.lst (vs++us)) hp;have x12:=x1.trans R1 x2;exact hQ ρ2 _ p _ (x12.trans R2 x3) R3 (x12.none hR hp R2) (R2.out hp) AH ((f2.app f4).ext R2 x3)
   .cases hm
  .cases hm
 .cases hm
def bz(K:Frag)(ha:QE K X a ta ma)(hb:QE K X b tb mb):QN K X (.BinOp a .Add b pos) (tOp VO ta tb) (Ge ma mb):=⟨Qv dL ha.p hb.p,aq ha.r hb.r⟩
end L2
namespace L2
open PySem PySem.Spec PyProof.Rows PySem.W
section
variable(r:74)(n:Nat)
def PWp{α:Type}:KasT α->(α->Prop)->Prop
 |.ret a,Q=>Q a
 |.ask i j k,Q=>i<n/\j<n/\PWp (k (decide (r i<r j))) Q
noncomputable def kv(p:Array Nat)(i:Nat):Int:=r (p.getD i 0)
def STo(p:Array Nat)(m:Nat):Prop:=∀i j,i<=j->j<m->kv r p i<=kv r p j
def DTo(p:Array Nat)(m:Nat):Prop:=∀i j,i<=j->j<m->kv r p j<=kv r p i
def EqL(p:Array Nat)(m q:Nat):Prop:=∀k,m-(q+1)<=k->k<m->kv r p k=kv r p (m-1)
def PAr(p:Array Nat):Prop:=p.Perm (69 n).toArray
end
section
variable{r:74}{n:Nat}
theorem PWp.bind{α β:Type}{f:α->KasT β}{Q:β->Prop}:∀{t:KasT α},PWp r n t (λa=>PWp r n (f a) Q)->PWp r n (t.bind f) Q
 |.ret _,h=>h
 |.ask i j k,h=>⟨h.1,h.2.1,PWp.bind h.2.2⟩
theorem PWp.mono{α:Type}{Q Q':α->Prop}:∀{t:KasT α},PWp r n t Q->(∀a,Q a->Q' a)->PWp r n t Q'
 |.ret _,h,q=>q _ h
 |.ask i j k,h,q=>⟨h.1,h.2.1,PWp.mono h.2.2 q⟩
theorem PWp.wp{α:Type}{cmp:Nat->Nat->(Bool->Shared->Prop)->Shared->Prop}{P:Shared->Prop}{Q:α->Shared->Prop}(hc:∀i j C s,i<n->j<n->P s->(∀s',P s'->C (decide (r i<r j)) s')->cmp i j C s):∀{t:KasT α} {s:120},PWp r n t (λa=>∀s,P s->Q a s)->P s->t.kasWp cmp Q s
 |.ret _,s,h,p=>h s p
 |.ask i j k,s,h,p=>hc i j _ s h.1 h.2.1 p λs' p'=>PWp.wp hc h.2.2 p'
theorem PAr.size(h:PAr n p):p.size=n:=by have:=h.size_eq;simpa using this
def PAr.lt(h:PAr n p){i:Nat}(hi:i<n):p.getD i 0<n:=by
 have hs:=h.size;have hi':i<p.size:=by omega
 have:p[i]∈(69 n).toArray:=h.mem_iff.mp (Array.getElem_mem hi');have e:p.getD i 0=p[i]:=by simp[Array.getD,hi']
 rw[e];simpa using this
def KJ{p:Array Nat}{i j:Nat}(hj:j<=p.size)(k:Nat):kv r (kas_rev p i j) k=if i<=k/\k<j then kv r p (i+j-1-k)else kv r p k:=by
 unfold kv kas_rev;simp only[Array.getD_eq_getD_getElem?];rw[getElem?_mirror_all hj];split<;>rfl
def PAr.rev(h:PAr n p)(i j:Nat):PAr n (kas_rev p i j):=(mirror_perm _ _ _ _).trans h
def Pl{p:Array Nat}{m q:Nat}(hj:m<=p.size)(hq:q+1<=m)(h:EqL r p m q)(k:Nat):kv r (kas_rev p (m-(q+1)) m) k=kv r p k:=by
 rw[KJ hj];split
 .next c=>rw[h _ 68 68,h k c.1 c.2]
 .rfl
theorem Og(pa:PAr n p):∀(f m:Nat),1<=m->m+f<=n->STo r p m->PWp r n (kas_asc p f m) λm'=>m<=m'/\m'<=m+f/\STo r p m'/\(m'<m+f->kv r p m'<kv r p (m'-1))
 |0,m,h1,hn,hs=>⟨ir _,ir _,hs,λh=>by omega⟩
 |f+1,m,h1,hn,hs=>by
  refine⟨pa.lt 68,pa.lt 68,?_⟩;by_cases c:r (p.getD m 0)<r (p.getD (m-1) 0)
  .rw[jI c];exact⟨ir _,by omega,hs,λ_=>c⟩
  .rw[jx c];refine(Og pa f (m+1) 68 68 ?_).mono λm' h=>⟨by omega,by omega,h.2.2.1,λz=>h.2.2.2 68⟩
   intro i j hij hj;by_cases e:j<m
   .exact hs i j hij e
   .have:j=m:=by omega
    subst this;by_cases e2:i=j
    .subst e2;exact 123 _
    .have:=hs i (j-1) 68 68;have:kv r p (j-1)<=kv r p j:=by unfold kv;omega
     omega
def JZ{m:Nat}(h1:1<=m)(h:DTo r p m)(c:kv r p m<=kv r p (m-1)):DTo r p (m+1):=by
 intro i j hij hj;by_cases e:j<m
 .exact h i j hij e
 .have:j=m:=by omega
  subst this;by_cases e2:i=j
  .subst e2;exact 123 _
  .have:=h i (j-1) 68 68;omega
theorem Ii:∀(f:Nat) (p:Array Nat) (m q:Nat),PAr n p->1<=m->q+1<=m->m+f<=n->DTo r p m->EqL r p m q ->
 PWp r n (kas_desc f p m q) λz=>PAr n z.1/\m<=z.2.1/\z.2.1<=m+f/\DTo r z.1 z.2.1/\EqL r z.1 z.2.1 z.2.2/\z.2.2+1<=z.2.1
 |0,p,m,q,pa,h1,hq,hn,hd,he=>⟨pa,ir _,ir _,hd,he,hq⟩
 |f+1,p,m,q,pa,h1,hq,hn,hd,he=>by
  refine⟨pa.lt 68,pa.lt 68,?_⟩;have sz:=pa.size;by_cases c:r (p.getD m 0)<r (p.getD (m-1) 0)
  .rw[jI c];have c':kv r p m<=kv r p (m-1):=by unfold kv;omega
   dsimp only;rw[il rfl];by_cases hq0:q>0
   .rw[il hq0];have sm:=Pl (r:=r) (p:=p) (m:=m) (q:=q) 68 hq he;refine(Ii f _ (m+1) 0 (pa.rev _ _) 68 68 68 ?_ ?_).mono λz h=>⟨h.1,by omega,by omega,h.2.2.2⟩
    .have:=JZ h1 hd c';intro i j a b;rw[sm,sm];exact this i j a b
    .intro k a b;have:k=m:=by omega
     subst this;rfl
   .rw[ip hq0];refine(Ii f p (m+1) 0 pa 68 68 68 (JZ h1 hd c') ?_).mono λz h=>⟨h.1,by omega,by omega,h.2.2.2⟩
    intro k a b;have:k=m:=by omega
    subst this;rfl
  .rw[jx c];dsimp only;rw[ip Bool.false_ne_true];refine⟨pa.lt 68,pa.lt 68,?_⟩;by_cases d:r (p.getD (m-1) 0)<r (p.getD m 0)
   .rw[jI d];exact⟨pa,ir _,by show m<=m+(f+1);omega,hd,he,hq⟩
   .rw[jx d];dsimp only;rw[ip Bool.false_ne_true];have e:kv r p m=kv r p (m-1):=by unfold kv;omega
    refine(Ii f p (m+1) (q+1) pa 68 68 68 (JZ h1 hd 68) ?_).mono λz h=>⟨h.1,by omega,by omega,h.2.2.2⟩
    intro k a b;by_cases e2:k=m
    .subst e2;rfl
    .have:=he k 68 68;have e3:m+1-1=m:=rfl;rw[e3];omega
def Run(z:Nat×Array Nat)(r:74)(n:Nat):Prop:=PAr n z.2/\1<=z.1/\z.1<=n/\STo r z.2 z.1
def ND{m:Nat}(pa:PAr n p)(h1:1<=m)(hn:m<=n)(hd:DTo r p m):PWp r n (kas_tail3 m n p) λz=>Run z r n:=by
 have sz:=pa.size;have st:STo r (kas_rev p 0 m) m:=by
  intro i j a b;rw[KJ 68,KJ 68,il ⟨by omega,by omega⟩,il ⟨by omega,by omega⟩];exact hd _ _ 68 68
 refine PWp.bind ((Og (pa.rev 0 m) (n-m) m h1 68 st).mono λm' h=>?_);exact⟨pa.rev 0 m,by show 1<=m';omega,by show m'<=n;omega,h.2.2.1⟩
def Iv{m:Nat}(pa:PAr n p)(hn:m+1<=n)(hd:DTo r p (m+1)):PWp r n (kas_descPart m n p) λz=>Run z r n:=by
 refine PWp.bind ((Ii (n-(m+1)) p (m+1) 0 pa 68 68 68 hd ?_).mono λz h=>?_)
 .intro k a b;have:k=m:=by omega
  subst this;rfl
 .obtain⟨a,b,c,d,e,g⟩:=h;have sz:=a.size;by_cases hq:z.2.2>0
  .rw[il hq];have sm:=Pl (r:=r) (p:=z.1) (m:=z.2.1) (q:=z.2.2) 68 g e;exact ND (a.rev _ _) 68 68 λi j x y=>by rw[sm,sm];exact d i j x y
  .rw[ip hq];exact ND a 68 68 d
def Wc(h1:1<=n):PWp r n (kas_count n (List.toArray (69 n))) λz=>Run z r n:=by
 have pa:PAr n (69 n).toArray:=.refl _;have sz:=pa.size;refine PWp.bind ((Og pa (n-1) 1 68 68 λi j a b=>?_).mono λm h=>?_)
 .have:i=j:=by omega
  subst this;exact 123 _
 .obtain⟨a,b,c,d⟩:=h;by_cases e:(m==n)=true
  .rw[il e];have:m=n:=by simpa using e
   exact⟨pa,by show 1<=m;omega,by show m<=n;omega,c⟩
  .rw[ip e];have hne:m≠n:=by simpa using e
   have dd:=d 68;by_cases h2:m>1
   .rw[il h2];refine⟨pa.lt 68,pa.lt 68,?_⟩;by_cases g:r ((69 n).toArray.getD 0 0)<r ((69 n).toArray.getD (m-1) 0)
    .rw[jI g];exact⟨pa,by show 1<=m;omega,by show m<=n;omega,c⟩
    .rw[jx g];dsimp only;rw[ip Bool.false_ne_true];have g':kv r (69 n).toArray (m-1)<=kv r (69 n).toArray 0:=by unfold kv;omega
     have eq:∀k,k<m->kv r (69 n).toArray k=kv r (69 n).toArray 0:=λk hk=>by
      have x1:=c 0 k 68 hk;have x2:=c k (m-1) 68 68;omega
     have rv:∀k,kv r (kas_rev (69 n).toArray 0 m) k=kv r (69 n).toArray k:=λk=>by
      rw[KJ 68];split
      .next z=>rw[eq _ 68,eq k z.2]
      .rfl
     refine Iv (pa.rev 0 m) 68 λi j x y=>?_;rw[rv,rv];by_cases z:j<m
     .rw[eq i 68,eq j z];exact 123 _
     .have:j=m:=by omega
      subst this;by_cases z2:i=j
      .subst z2;exact 123 _
      .rw[eq i 68];have:=eq (j-1) 68;omega
   .rw[ip h2];have:m=1:=by omega
    subst this;refine Iv pa 68 λi j x y=>?_;by_cases z:i=j
    .subst z;exact 123 _
    .have:i=0:=by omega
     have:j=1:=by omega
     subst i j;have:kv r (69 n).toArray 1<kv r (69 n).toArray 0:=dd;omega
theorem JJ{k:Nat}(pa:PAr n p)(hk:k<n)(hs:STo r p k):∀(f l q:Nat),l<=q->q<=k->q-l<=f->(∀i,i<l->kv r p i<=kv r p k)->(∀i,q<=i->i<k->kv r p k<kv r p i) ->
 PWp r n (kas_place p k f l q) λm=>m<=k/\(∀i,i<m->kv r p i<=kv r p k)/\∀i,m<=i->i<k->kv r p k<kv r p i
 |0,l,q,a,b,c,d,e=>⟨by omega,d,λi x y=>e i 68 y⟩
 |f+1,l,q,a,b,c,d,e=>by
  unfold kas_place;by_cases h:l>=q
  .rw[il h];exact⟨by omega,d,λi x y=>e i 68 y⟩
  .rw[ip h];refine⟨pa.lt 68,pa.lt 68,?_⟩;by_cases g:r (p.getD k 0)<r (p.getD ((l+q)/2) 0)
   .rw[jI g];dsimp only;rw[il rfl];have g':kv r p k<kv r p ((l+q)/2):=g;refine JJ pa hk hs f l ((l+q)/2) 68 68 68 d λi x y=>?_;have:=hs ((l+q)/2) i x y;omega
   .rw[jx g];dsimp only;rw[ip Bool.false_ne_true];have g':kv r p ((l+q)/2)<=kv r p k:=by unfold kv;omega
    refine JJ pa hk hs f ((l+q)/2+1) q 68 68 68 (λi x=>?_) e;have:=hs i ((l+q)/2) 68 68;omega
def M9{p:Array Nat}{k d:Nat}(hk:k<p.size)(hd:d<=k)(i:Nat):kv r (bubble p k d) i=if i=k-d then kv r p k else if k-d<i/\i<=k then kv r p (i-1)else kv r p i:=by
 unfold kv;simp only[Array.getD_eq_getD_getElem?];rw[getElem?_bubble hk d hd];split
 .rfl
 .split<;>rfl
theorem UE:∀(f:Nat) (p:Array Nat) (k:Nat),PAr n p->k+f=n->STo r p k->PWp r n (kas_bin f p k) λz=>PAr n z/\STo r z n
 | 0,p,k,pa,e,hs=>⟨pa,by
  have:k=n:=by omega
  subst this;exact hs⟩
 |f+1,p,k,pa,e,hs=>by
  have sz:=pa.size;refine PWp.bind ((JJ pa 68 hs k 0 k 68 68 68 (λi h=>by omega) (λi a b=>by omega)).mono λm h=>?_);obtain⟨a,b,c⟩:=h;refine UE f _ (k+1) ((bubble_perm _ _ _).trans pa) 68 λi j x y=>?_;rw[M9 68 68,M9 68 68];have ek:k-(k-m)=m:=by omega
  rw[ek]
  repeat' split
  .exact 123 _
  .exact Int.le_of_lt (c _ 68 68)
  .omega
  .exact b _ 68
  .exact hs _ _ 68 68
  .omega
  .exact b _ 68
  .exact hs _ _ 68 68
  .exact hs _ _ 68 68
def PD(h1:1<=n):PWp r n (kas_sort n) λp=>PAr n p/\STo r p n:=by
 refine PWp.bind ((Wc h1).mono λz h=>?_);obtain⟨a,b,c,d⟩:=h;by_cases e:z.1<n
 .rw[il e];have:max z.1 1=z.1:=by omega
  rw[this];exact UE _ _ _ a 68 d
 .rw[ip e];have:z.1=n:=by omega
  exact⟨a,this ▸ d⟩
end
def PairAt(h:Heap)(v:168)(p:Int×Int):Prop:=∃(x:Addr) (o:Obj) (t u:Tok) (k:Nat),v=.ref x/\h.get? x=some o/\o.cls=.type "tuple"/\o.data=.seq #[.int p.1 t,.int p.2 u] k
noncomputable def B2(p:Int×Int):Int:=p.1*4000000000+p.2
def pok(p:Int×Int):Prop:=-1000000000<=p.1/\p.1<=1000000000/\-1000000000<=p.2/\p.2<=1000000000
section
variable{E:78}{s:120}
def Pj{C:Bool->Shared->Prop}(hx:PairAt s.heap x p)(hy:PairAt s.heap y q)(op:pok p)(oq:pok q)(h:C (decide (B2 p<B2 q)) s):
 wpAny 110 A (keyLt' (tuples' true) x y) C E s:=by
 obtain⟨a,o,t,u,k,rfl,ho,hc,hd⟩:=hx;obtain⟨a2,o2,t2,u2,k2,rfl,ho2,hc2,hd2⟩:=hy;obtain⟨p1,p2⟩:=p;obtain⟨q1,q2⟩:=q;unfold pok at op oq;unfold B2 at h;dsimp only at op oq h;refine kat_lt ho hd ho2 hd2 ?_;refine kat_cons (kC ?_);by_cases e1:p1=q1
 .have b1:(p1==q1)=true:=by simp[e1]
  rw[b1];refine kat_yes (kat_cons (kC ?_));by_cases e2:p2=q2
  .have b2:(p2==q2)=true:=by simp[e2]
   rw[b2];refine kat_yes (kat_nil ?_);have:decide (p1*4000000000+p2<q1*4000000000+q2)=false:=jx 68;rw[this]at h;exact h
  .have b2:(p2==q2)=false:=by simp[e2]
   rw[b2];refine kat_no (kat_one _ _ (lt_int ?_));have:decide (p1*4000000000+p2<q1*4000000000+q2)=decide (p2<q2):=decide_eq_decide.mpr 68;rw[this]at h;exact h
 .have b1:(p1==q1)=false:=by simp[e1]
  rw[b1];refine kat_no (oneLt_int ?_);have:decide (p1*4000000000+p2<q1*4000000000+q2)=decide (p1<q1):=decide_eq_decide.mpr 68;rw[this]at h;exact h
theorem Kv:∀{vs:83} {ps:185},112=126->(∀(i:Nat) (v:168) (p:Int×Int),vs[i]?=some v->ps[i]?=some p->PairAt h v p)->∃fs,KatTups h vs fs/\fs.length=112/\∀f∈fs,∃i t,f=.int i t
 |[],[],_,_=>⟨[],.nil,rfl,λ_ z=>by cases z⟩
 |v::vs,p::ps,hl,hp=>by
  obtain⟨fs,a,b,c⟩:=Kv (vs:=vs) (ps:=ps) (by simpa using hl) λi v q e1 e2=>hp (i+1) v q (by simpa using e1) (by simpa using e2);obtain⟨x,o,t,u,k,rfl,ho,hc,hd⟩:=hp 0 v p rfl rfl;exact⟨.int p.1 t::fs,.cons ho hc hd rfl a,by simp[b],λf hf=>by
   rcases mem_cons.mp hf with rfl|hf
   .exact⟨_,_,rfl⟩
   .exact c f hf⟩
def F6(vs:83)(ps:185)(out:83):Prop:=∃zs:List (Value×128),zs.Perm (vs.zip ps)/\(zs.map λz=>B2 z.2).Pairwise (·<=·)/\out=zs.map (·.1)
def SK{vs:83}{ps:185}(hl:112=126)(pa:PAr 112 p)(hs:STo (λi=>B2 (ps.getD i (0,0))) p 112):F6 vs ps (p.toList.map λi=>vs.getD i Value.none):=by
 have sz:=pa.size;refine⟨p.toList.map λi=>(vs.getD i Value.none,ps.getD i (0,0)),?_,?_,by rw[j5];rfl⟩
 .have e:vs.zip ps=(69 112).map λi=>(vs.getD i Value.none,ps.getD i (0,0)):=by
   refine ext_getElem? λi=>?_;by_cases hi:i<112
   .have hi2:i<ps.length:=by omega
    rw[(List.getElem?_zip_eq_some (z:=(vs[i],ps[i]))).mpr ⟨by simp[hi],by simp[hi2]⟩];simp[hi,hi2]
   .rw[List.getElem?_eq_none 82,List.getElem?_eq_none 82]
  rw[e];have:=Array.perm_iff_toList_perm.mp pa;simpa using this.map _
 .rw[j5,List.pairwise_iff_getElem];intro i j hi hj hij;simp only[ja,Array.length_toList]at hi hj;have:=hs i j 68 68;unfold kv at this;simpa [Array.getD,hi,hj]using this
def QY{vs:83}{ps:185}{n:Nat}{P:PySem.Fin->Shared->Prop}(ho:s.heap.get? a=some (seqObj "list" 86 n))(hl:112=126)(h64:112<64)(hok:∀p∈ps,pok p)
 (hp:∀(i:Nat) (v:168) (p:Int×Int),vs[i]?=some v->ps[i]?=some p->PairAt (s.heap.update a (142 λ_=>#[])) v p)
 (h:∀out:List Value,F6 vs ps out->P (.done (.ret .none)) { s with heap:=sortedHeap s.heap a vs out.toArray }):
 wpAny 110 A (Builtin.«list.sort» ⟨[.ref a],[]⟩) P E s:=by
 have ha:=84 ho;have line:112<=sizeLine:=by rw[jt];omega
 obtain⟨e1,ho1⟩:∃e1,(s.heap.update a (Obj.mapSeq λ_=>#[])).get? a=some (seqObj "list" #[] e1):=⟨_,kB ho _⟩
 rw[list_sort_plain];refine iq (listItems_at ho rfl (iq (ki ho rfl (iq (seqEpoch_at ho1 rfl (iq (wpAny_newTuple (iq (ku (jy ?_) (jw _))) line)))) (by rw[iy];exact line) (jw _))));have grow:∀b o,(s.heap.update a (142 λ_=>#[])).get? b=some o->(((s.heap.update a (142 λ_=>#[])).push (seqObj "tuple" 86 0)).push (seqObj "list" #[] 0)).get? b=some o:=λb o e=>72 _ (72 _ e);have ho6:=grow _ _ ho1;generalize h6:((s.heap.update a (142 λ_=>#[])).push (seqObj "tuple" 86 0)).push (seqObj "list" #[] 0)=hp6 at *;have done:∀out:List Value,F6 vs ps out->P (.done (.ret .none)) { s with heap:=hp6.update a (Obj.mapSeq λ_=>out.toArray) }:=λout z=>by
  have:=h out z;unfold sortedHeap at this;rw[h6]at this;exact this
 show wpAny 110 A _ P E { s with heap:=hp6 };dsimp only;have pairs6:∀(i:Nat) (v:168) (p:Int×Int),vs[i]?=some v->ps[i]?=some p->PairAt hp6 v p:=λi v p x y=>by
  obtain⟨x',o,t,u,k,e,q,c,d⟩:=hp i v p x y;exact⟨x',o,t,u,k,e,grow _ _ q,c,d⟩
 by_cases h2:vs.toArray.size<2
 .rw[il h2,il h2];refine iq (iu ?_);rw[StateT.run_pure];refine iq (iu ?_);dsimp only;have hout:(arrOf (SortSt.mk' general' (vs.toArray.zip 86) #[] 7 none)).map (·.2)=vs.toArray:=by
   show(vs.toArray.zip 86).map (·.2)=86;apply Array.toList_inj.mp;simp only[Array.toList_map,Array.toList_zip];exact map_snd_zip (ir _)
  rw[hout];refine iq (seqEpoch_at ho6 rfl (iq (ki ho6 rfl ?_ (jw _) (by rw[iy];omega))));simp only[bne_self_eq_false,Bool.false_eq_true,jj];refine iu (done vs ⟨vs.zip ps,.refl _,?_,?_⟩)
  .have hz:(vs.zip ps).length<2:=by simp at h2 ⊢;omega
   cases hh:vs.zip ps with
   |nil=>exact .nil
   |cons z r=>
    cases r with
    |nil=>exact List.pairwise_singleton _ _
    |cons y t=>rw[hh]at hz;exact absurd hz 71
  .rw[List.map_fst_zip 68]
 .rw[ip h2,ip h2];have h2':2<=vs.length:=by simp at h2;omega
  obtain⟨fs,t1,t2,t3⟩:=Kv hl pairs6;have tT:∀f∈fs,Looks 110 hp6 (typeOf f) (Value.type "int"):=λf hf=>by
   obtain⟨i,t,rfl⟩:=t3 f hf;exact .of_pure rfl
  refine iq (kat_kind (s:={ s with heap:=hp6 }) t1 68 tT rfl ?_);have est:SortSt.mk' (tuples' true) (vs.toArray.zip 86) #[] 7 none=kas_st (tuples' true) (pairsOf vs) (List.toArray (69 112)):=by
   unfold kas_st;rw[<- pairsOf_size vs,kas_range];rfl
  have ask:(kas_sort 112).kasWp (kas_cmp prog w A (tuples' true) (pairsOf vs)) (λp s'=>s'={ s with heap:=hp6 }/\F6 vs ps (p.toList.map λi=>vs.getD i Value.none)) { s with heap:=hp6 }:=by
   rw[<- kas_ask_eq];refine PWp.wp (n:=112) (r:=λi=>B2 (ps.getD i (0,0))) (P:=λs'=>s'={ s with heap:=hp6 }) (λi j C s' hi hj e hC=>?_) ((PD 68).mono λp z s' e=>⟨e,SK hl z.1 z.2⟩) rfl;subst e;have pi:ps[i]?=some (ps.getD i (0,0)):=by simp[show i<ps.length by omega]
   have pj:ps[j]?=some (ps.getD j (0,0)):=by simp[show j<ps.length by omega]
   have vi:vs[i]?=some (vs.getD i Value.none):=by simp[hi]
   have vj:vs[j]?=some (vs.getD j Value.none):=by simp[hj]
   exact Pj (s:={ s with heap:=hp6 }) (pairs6 i _ _ vi pi) (pairs6 j _ _ vj pj) (hok _ (jf pi)) (hok _ (jf pj)) (hC _ rfl)
  have run:=kas_runs (E:=E) (Q:=λ_ st' s'=>∃p:Array Nat,p.size=112/\arrOf st'=p.map (kas_item (pairsOf vs))/\failedOf st'=none/\s'={ s with heap:=hp6 }/\F6 vs ps (p.toList.map λi=>vs.getD i Value.none)) h2' h64 (λp st' s' x1 x2 x3 x4=>⟨p,x1,x2,x3,x4⟩) ask;rw[<- est]at run;refine iq (jh run ?_ λ_ _ e=>e);rintro⟨⟨⟩,st'⟩ s' ⟨p,hsz,har,hf,rfl,so⟩;dsimp only;have hout:(arrOf st').map (·.2)=(p.toList.map λi=>vs.getD i Value.none).toArray:=by
   rw[har];apply Array.toList_inj.mp;simp only[Array.toList_map,j5];exact jE λi _=>jm Prod.snd (kas_item_eq vs i)
  rw[hout];refine iq (seqEpoch_at ho6 rfl (iq (ki ho6 rfl ?_ (jw _) (by simp[hsz];omega))));rw[hf];simp only[bne_self_eq_false,Bool.false_eq_true,jj];exact iu (done _ so)
end
def PairAt.keep{h h':Heap}(k:∀b o,h.get? b=some o->h'.get? b=some o)(q:PairAt h v p):PairAt h' v p:=by
 obtain⟨x,o,t,u,n,e,ho,c,d⟩:=q;exact⟨x,o,t,u,n,e,k _ _ ho,c,d⟩
section
variable{E:78}{s:120}
def NO{vs:83}{ps:185}{Q:78}(hl:s.heap.IsList l 86)(hlen:112=126)(h64:112<64)(hok:∀p∈ps,pok p)
 (hp:∀(i:Nat) (v:168) (p:Int×Int),vs[i]?=some v->ps[i]?=some p->PairAt s.heap v p)
 (h:∀out:List Value,F6 vs ps out->Q (.ref (65+1)) { s with heap:=sortedAll s.heap vs out.toArray }):
 wpAny 110 A (call (.builtin "sorted") [.ref l]) Q E s:=by
 have line:112<=sizeLine:=by rw[jt];omega
 refine Calls.call_function_entry kind_sorted plain_sorted entry_sorted (args_sorted1 _) ?_;unfold Builtin.«sorted»;refine iq (m:=checkCount "sorted" 1 1 _) (iu (iq (collect_list hl (iq (ku ?_ line)) line)));have sz:((s.heap.push (seqObj "list" #[] 0)).update 65 (142 (·++86))).objs.size=65+1:=by rw[Heap.size_update,size_push']
 have at1:(((s.heap.push (seqObj "list" #[] 0)).update 65 (142 (·++86))).push (seqObj "list" 86 0)).get? (65+1)=some (seqObj "list" 86 0):=by
  have:=Heap.get?_push_size ((s.heap.push (seqObj "list" #[] 0)).update 65 (142 (·++86))) (o:=seqObj "list" 86 0) rfl
  rwa [sz]at this
 have old:∀b o,s.heap.get? b=some o->((((s.heap.push (seqObj "list" #[] 0)).update 65 (142 (·++86))).push (seqObj "list" 86 0)).update (65+1) (142 λ_=>#[])).get? b=some o:=λb o e=>by
  have lt:=84 e;rw[Heap.get?_update_ne _ _ _ _ (jb (Nat.lt_succ_of_lt lt)),Heap.get?_push_ne _ _ _ (by rw[sz];exact jb (Nat.lt_succ_of_lt lt)),Heap.get?_update_ne _ _ _ _ (jb lt),Heap.get?_push_ne _ _ _ (jb lt)];exact e
 show wpAny _ _ _ _ _ { s with heap:=((s.heap.push (seqObj "list" #[] 0)).update s.heap.objs.size (Obj.mapSeq (·++vs.toArray))).push (seqObj "list" vs.toArray 0) };rw[sz];refine iq (jy (wpAny_call_entry slot_list_sort ⟨_,at1,rfl⟩ entry_list_sort (QY at1 hlen h64 hok (λi v p a b=>(hp i v p a b).keep old) λout z=>⟨_,rfl,?_⟩) (args_list_sort _)));exact iu ⟨_,rfl,h out z⟩
end
section
variable(K:Frag){X:Cx}
def JH:List V->Hp->VK->Prop:=λxs H Q=>∃(a:Addr) (us:155) (ps:185),xs=[.ref a]/\SqL K H a us/\us.length=126/\us.length<64/\(∀q∈ps,pok q)/\
 (∀(i:Nat) (u:V) (q:Int×Int),us[i]?=some u->ps[i]?=some q->∃x,u=.ref x/\SqT K H x [.int q.1,.int q.2])/\
 ∀(p:Addr) (zs:List (V×128)),H p=none->zs.Perm (us.zip ps)->(zs.map λz=>B2 z.2).Pairwise (·<=·)->Q (.ref p) (upd H p (.lst (zs.map (·.1))))
noncomputable def GX:Value->V
 |.ref x=>.ref x
 |_=>.non
theorem J9:∀{us:155} {its:83} {i:Nat} {u:V},Vals us its->us[i]?=some u->∃v,its[i]?=some v/\RelV u v
 |_,_,_,_,.nil,h=>by simp at h
 |_::_,_::_,0,_,.cons r _,h=>by
  simp at h;subst h;exact⟨_,rfl,r⟩
 |_::_,_::_,i+1,_,.cons _ t,h=>J9 (i:=i) t (by simpa using h)
def Oa(hK:X.K=K:=by rfl):CallR X (.builtin "sorted") (JH K):=by
 subst hK;intro pins s σ H xs us0 Q I r h;obtain⟨a,us,ps,rfl,hq,hlen,h64,hok,hpr,q⟩:=h;obtain⟨u,rfl,ru⟩:=BL r;cases ru;obtain⟨its,rv,p,hz⟩:=I.list hq;have hl2:us.length=its.length:=rv.length;have point:∀(i:Nat) (v:168) (q:Int×Int),its[i]?=some v->ps[i]?=some q->(∃x,us[i]?=some (.ref x)/\v=.ref x)/\PairAt s.heap v q:=by
  intro i v q e1 e2;have hi:i<us.length:=by rw[hl2];exact(75 e1).1
  have eu:us[i]?=some us[i]:=by simp[hi]
  obtain⟨x,ex,sq⟩:=hpr i _ q eu e2;obtain⟨v',ev,rel⟩:=J9 rv eu;rw[e1]at ev;cases ev;rw[ex]at rel eu;have rel:v=Value.ref x:=rel;subst rel;refine⟨⟨x,eu,rfl⟩,?_⟩;obtain⟨jts,rj,⟨o,ho,hc,n,hd⟩,_⟩:=I.tuple sq;cases rj with
  |cons r1 t1=>
   cases t1 with
   |cons r2 t2=>
    cases t2;obtain⟨t,rfl⟩:=r1;obtain⟨t',rfl⟩:=r2;exact⟨x,o,t,t',n,rfl,ho,hc,hd⟩
 refine NO (ps:=ps) p.isList 68 68 hok (λi v q a b=>(point i v q a b).2) λout z=>?_;obtain⟨zs,pm,pw,rfl⟩:=z;obtain⟨e,he⟩:=sortedAll_at s.heap its (zs.map (·.1)).toArray;have mz:∀z∈zs,∃x,z.1=.ref x:=λz hz=>by
  have:=pm.mem_iff.mp hz;obtain⟨i,hi⟩:=mem_iff_getElem?.mp this;obtain⟨e1,e2⟩:=List.getElem?_zip_eq_some.mp hi;obtain⟨⟨x,_,ex⟩,_⟩:=point i _ _ e1 e2;exact⟨x,ex⟩
 have vz:∀{zs:List (Value×128)},(∀z∈zs,∃x,z.1=.ref x)->Vals (zs.map λz=>GX z.1) (zs.map (·.1)):=by
  intro zs
  induction zs with
  |nil=>intro _;exact .nil
  |cons z r ih=>
   intro h;obtain⟨x,ex⟩:=h z j4;refine .cons ?_ (ih λy hy=>h y (iw _ hy));show RelV (GX z.1) z.1;rw[ex];rfl
 have pm2:(zs.map λz=>(GX z.1,z.2)).Perm (us.zip ps):=by
  have:=pm.map λz:Value×128=>(GX z.1,z.2)
  have e:((its.zip ps).map λz:Value×128=>(GX z.1,z.2))=us.zip ps:=by
   refine ext_getElem? λi=>?_;by_cases hi:i<us.length
   .have h1:i<its.length:=by omega
    have h2:i<ps.length:=by omega
    have e1:its[i]?=some its[i]:=by simp[h1]
    have e2:ps[i]?=some ps[i]:=by simp[h2]
    obtain⟨⟨x,ex,ev⟩,_⟩:=point i _ _ e1 e2;rw[List.getElem?_map,(List.getElem?_zip_eq_some (z:=(its[i],ps[i]))).mpr ⟨e1,e2⟩,(List.getElem?_zip_eq_some (z:=(V.ref x,ps[i]))).mpr ⟨ex,e2⟩,je,ev];rfl
   .rw[List.getElem?_eq_none 82,List.getElem?_eq_none 82]
  rwa [e]at this
 have pw2:((zs.map λz=>(GX z.1,z.2)).map λz:V×128=>B2 z.2).Pairwise (·<=·):=by rw[j5];exact pw
 have fin:=q (65+1) _ (I.hok.fresh (jR _)) pm2 pw2;have em:(zs.map λz=>(GX z.1,z.2)).map (·.1)=zs.map λz=>GX z.1:=by rw[j5];rfl
 rw[em]at fin;have zl:zs.length<64:=by rw[pm.length_eq];simp;omega
 refine⟨.ref (65+1),_,I.laid (a:=65+1) (o:=.lst (zs.map λz=>GX z.1)) (t':=s.toks) (λb o hb=>sortedAll_old hb) (jR _) ⟨?_,_,e,vz mz,he⟩,rfl,fin⟩;rw[ja];exact jF (HQ 68)
end
noncomputable def AT(p:Int×Int):D:=.im (.tup [.int p.1,.int p.2])
noncomputable def DE:List D->Option (List 128)
 |[]=>some []
 |.im (.tup [.int a,.int b])::r=>(DE r).map ((a,b)::·)
 |_=>none
def Hb:∀{ds:137} {ps:185},DE ds=some ps->ds=ps.map AT:=by
 intro ds
 induction ds with
 |nil=>intro ps h;simp[DE]at h;subst h;rfl
 |cons d r ih=>
  intro ps h;unfold DE at h;split at h
  .next e=>cases e
  .next a b r' e=>
   cases e;obtain⟨qs,e1,rfl⟩:=ik h;rw[ih e1];rfl
  .cases h
@[simp] theorem KA(ps:185):DE (ps.map AT)=some ps:=by
 induction ps with
 |nil=>rfl
 |cons p r ih=>simp[DE,AT]at ih ⊢;exact ih
noncomputable def Bl(ps:185):List 128:=ps.mergeSort λa b=>decide (B2 a<=B2 b)
def CV(ps:185):(Bl ps).Perm ps:=List.mergeSort_perm ..
def NR(ps:185):(Bl ps).Pairwise λa b=>B2 a<=B2 b:=by
 have:=List.pairwise_mergeSort (le:=λa b:Int×Int=>decide (B2 a<=B2 b)) (by intro a b c h1 h2;simp at *;omega) (by intro a b;simp;omega) ps;exact this.imp 71
def Nt(a:pok p)(b:pok q)(h:B2 p=B2 q):p=q:=by
 unfold pok at a b;unfold B2 at h;exact Prod.ext 68 68
open Classical in
noncomputable def DZ(m:MI):MA:=λls hd=>(m ls hd).bind λp=>(DE p.1.1).bind λps=>if 126<64/\∀q∈ps,pok q then some ((Bl ps).map AT,p.2)else none
section
variable{K:Frag}
def PR(h:RD K ρ H (AT p) v):∃x,v=.ref x/\SqT K H x [.int p.1,.int p.2]:=by
 simp only[AT,RD,RI,RIs]at h;obtain⟨a,xs,rfl,q,x,r,rfl,rfl,y,r2,rfl,rfl,rfl⟩:=h;exact⟨a,rfl,q⟩
def Qh(h:RRw K false t m):RN K (tCB (JH K) (BJ t BM)) (DZ m):=by
 and_intros;obtain⟨⟨⟨d1,g1⟩,h1⟩,e1,hm⟩:=ij hm;obtain⟨ps,e2,hm⟩:=ij hm;split at hm
 .next c=>
  cases hm;refine h ρ σ H hd ls _ d1 g1 _ hR hL e1 λρ1 H1 a x1 R1 G1 S1=>?_;obtain⟨xs,q,r⟩:=S1 ρ1 H1 _ .refl R1 G1;have e2:DE d1=some ps:=e2;rw[Hb e2]at r;have hl:96=ps.length:=by simpa using r.len
  have each:∀(i:Nat) (u:V) (q:Int×Int),xs[i]?=some u->ps[i]?=some q->RD K ρ1 H1 (AT q) u:=λi u q a b=>by
   obtain⟨x,e,z⟩:=r.get (i:=i) (d:=AT q) (by simp[b]);rw[a]at e;cases e;exact z
  refine⟨a,xs,ps,rfl,q,hl,by rw[hl];exact c.1,c.2,λi u q a b=>PR (each i u q a b),λp zs hp pm pw=>?_⟩;have es:zs.map (·.2)=Bl ps:=by
   have pp:(zs.map (·.2)).Perm ps:=by
    have:=pm.map (λz:V×128=>z.2)
    rwa [map_snd_zip 68]at this
   refine(pp.trans (CV ps).symm).eq_of_pairwise (le:=λa b=>B2 a<=B2 b) (λx y hx hy l1 l2=>Nt (c.2 _ (pp.mem_iff.mp hx)) (c.2 _ ((CV ps).mem_iff.mp hy)) (kg l1 l2)) ?_ (NR ps);rw[jQ]at pw ⊢;exact pw
  obtain⟨R2,x2⟩:=R1.hid (ho:=.lst (zs.map (·.1))) hp;have all:∀z∈zs,RD K ρ1 H1 (AT z.2) z.1:=λz hz=>by
   obtain⟨i,hi⟩:=mem_iff_getElem?.mp (pm.mem_iff.mp hz);obtain⟨a1,a2⟩:=List.getElem?_zip_eq_some.mp hi;exact each i _ _ a1 a2
  have rd:∀{zs:List (V×128)},(∀z∈zs,RD K ρ1 H1 (AT z.2) z.1)->RDs K ρ1 H1 ((zs.map (·.2)).map AT) (zs.map (·.1)):=by
   intro zs
   induction zs with
   |nil=>intro _;exact .nil
   |cons z r ih=>intro h;exact .cons (h z j4) (ih λy hy=>h y (iw _ hy))
  have rz:=rd all;rw[es]at rz;exact hQ ρ1 _ p _ 89 R2 (x1.none hR hp R1) (R1.out hp) AH (rz.ext R1 x2)
 .cases hm
open Classical in
noncomputable def FU:D->List D->Hd->Option 161
 |.mu n,[.im (.int i)],hd=>match hd[n]? with
  |some (.lst ds)=>if GW i then(ixN 97 i).bind λk=>(ds[k]?).map λy=>(y,hd.set n (.lst (ds.eraseIdx k)))else none
  |_=>none
 |_,_,_=>none
theorem RDs.erase:∀{ds:137} {xs:155} (k:Nat),RDs K ρ H ds xs->RDs K ρ H (ds.eraseIdx k) (xs.eraseIdx k)
 |[],_,_,h=>by simp only[RDs]at h;subst h;simp[RDs]
 |d::ds,_,0,h=>by simp only[RDs]at h;obtain⟨x,r,rfl,_,t⟩:=h;simpa using t
 |d::ds,_,k+1,h=>by
  simp only[RDs]at h;obtain⟨x,r,rfl,a,t⟩:=h;simpa using RDs.cons a (RDs.erase k t)
end
def V7{K:Frag}:RM K T0 FU:=by
 intro ρ H hd d v ds vs Q z hd' hR h1 h2 hf hQ;unfold FU at hf;split at hf
 .split at hf
  .next q=>
   split at hf
   .next c=>
    obtain⟨k,e0,hf⟩:=ij hf;obtain⟨y,e1,e3⟩:=ik hf;cases e3;simp only[RD]at h1;obtain⟨a,hn,rfl⟩:=h1;simp only[RDs,RD,RI]at h2;obtain⟨x,r,rfl,rfl,rfl⟩:=h2;obtain⟨xs,f1,f2⟩:=hR.lst hn q;obtain⟨x,x1,x3⟩:=f2.get e1;obtain⟨R2,x2⟩:=hR.put hn (o:=.lst _) (ho:=.lst (xs.eraseIdx k)) ⟨_,rfl,f2.erase k⟩;obtain⟨s1,s2,s3,s4⟩:=LO e0;have sz:=f2.len;unfold GW at c;exact⟨a,xs,_,k,x,rfl,rfl,f1,by omega,by omega,by rw[sz];exact s1,x1,hQ ρ _ _ x2 R2 (x3.ext hR x2)⟩
   .cases hf
  .cases hf
 .cases hf
section
variable(K:Frag){X:Cx}
def Qt(hm:X.mg "sorted"=none)(ha:QR K false X e te mi)(hg:Gl X "sorted":=by rfl)(he:starEach [e] X.env=[109]:=by rfl)(hK:X.K=K:=by rfl):QN K X (.Call (.Name "sorted" p) [e] [] pos) (tCB (JH K) (BJ te BM)) (DZ mi):=
 ⟨E6 (Oa K hK) hg hm Ft (Bm ha.p CC he) 95 95 he rfl,Qh ha.r⟩
end
section
open Classical in
@[simp] theorem WX(k:Nat)(i:Int):FU (.mu k) [.im 135] hd=match hd[k]? with
 |some (.lst ds)=>if GW i then(ixN 97 i).bind λj=>(ds[j]?).map λy=>(y,hd.set k (.lst (ds.eraseIdx j)))else none
 |_=>none:=rfl
open Classical in
@[simp] theorem Rl(mi:MI):DZ mi ls hd=(mi ls hd).bind λp=>(DE p.1.1).bind λps=>if 126<64/\∀q∈ps,pok q then some ((Bl ps).map AT,p.2)else none:=rfl
end
noncomputable def FO(m:ME):MI:=λls hd=>match Aw m ls hd with
 |some z=>some z
 |none=>Bs m ls hd
noncomputable def Pr(K:Frag)(t:TE):TI:=λσ H R=>OG K t σ H R∨Gk K t σ H R
def ax{K:Frag}(h:RE K t m):RIt K (Pr K t) (FO m):=by
 intro ρ σ H hd ls Q d g hd' hR hL hm hQ;unfold FO at hm;split at hm
 .next z e=>
  cases hm;exact .inl (Sj h ρ σ H hd ls Q d g hd' hR hL e hQ)
 .exact .inr (PQ h ρ σ H hd ls Q d g hd' hR hL hm hQ)
def c7(K:Frag)(h:QE K X e t m)(hK:X.K=K:=by rfl):QI K X tg e (Pr K t) (FO m):=
 ⟨λpins s σ H R I q=>q.elim (λq=>(Pe K h.p hK) pins s σ H R I q) λq=>(JK K h.p hK) pins s σ H R I q,ax h.r⟩
section
def Zr(e:m ls hd=some (.im (.tup is),hd')):FO m ls hd=some ((is.map .im,[]),hd'):=by unfold FO;simp[e]
end
noncomputable def GD(p:Int×Int):I:=.tup [.int p.1,.int p.2]
end L2
namespace L2
open PySem PySem.Spec PyProof.Rows
section
variable{prog:Program}{w:World}{R:Result->Shared->Prop}
def Ml(k v target iter:Expr)(ifs:List Expr)(scope:Scope)(pos:Pos)(it acc:168)(env:Env):
 compTurn (.DictComp k v [⟨target,iter,ifs,0⟩] scope pos) 0 it acc env=(do
  standAt iter.pos
  match <- pyNext it with
  |none=>pure (.done .next)
  |some x=>
   letOwnedTupleGo target it x
   assign target env x
   let mut ok:=true
   for c in ifs do
    if ok then ok <- isTrue c env (eval c env)
   if ok then
    (do
     let kv <- eval k env
     let vv <- holding [kv] (eval v env)
     match acc with
     |.ref d=>do
      standAt { k.pos with endLine:=v.pos.endLine,endCol:=v.pos.endCol }
      holding [kv,vv] (dictSet d kv vv)
     | _=>unsupported "internal:dictcomp")
   again (.compLoop (.DictComp k v [⟨target,iter,ifs,0⟩] scope pos) 0 it acc env)):=by rfl
end
section
noncomputable def KF(tk tv:TE):TM:=λD σ H Q=>tk σ H λy H1=>tv σ H1 λv H2=>∃kvs k,H2 D=some (.dK kvs)/\y=kV k/\184<sizeLine/\Q (upd H2 D (.dK (Cs kvs k v)))
def U3{E:78}{Q:Unit->Shared->Prop}(I:76)(e:H a=some (.dK kvs))(l:184<sizeLine)(ry:RelV (kV k) u)(rv:RelV v r)(h:∀s',Inv X pins σ (upd H a (.dK (Cs kvs k v))) s'->Q () s'):
 wpAny 70 A (dictSet a u r) Q E s:=by
 obtain⟨z,hd,vs,rel,dd⟩:=Xb I.hok e;have hz:112<=sizeLine:=by rw[<- rel.length];exact z
 have hl:(Cs kvs k v).length<=sizeLine:=by have:=Fz kvs k v;omega
 refine wpAny_dictSet_pairs (hsz:=hz) (KL ry) dd λh' dd' hs=>h _ ?_;have he:∃q,h'.get? a=some q:=let ⟨q,_,_,hq,_⟩:=dd';⟨q,hq⟩
 exact La I (by rw[e];exact True.intro) hs he (Tx hl hd (rel.put k rv) dd')
noncomputable def Rq(k v:Expr):Value->Env->Sem Unit:=λacc env=>do
 let kv <- eval k env
 let vv <- holding [kv] (eval v env)
 match acc with
 |.ref d=>do
  standAt { k.pos with endLine:=v.pos.endLine,endCol:=v.pos.endCol }
  holding [kv,vv] (dictSet d kv vv)
 |_=>unsupported "internal:dictcomp"
def ZI(hk:PE X k tk)(hv:PE X v tv):PM X (Rq k v) (KF tk tv):=by
 intro D pins s σ H Q I h;unfold Rq;refine iq (thn (hk pins s σ H _ I h) λu s1 ⟨y,H1,I1,r1,q1⟩=>?_);refine iq (jy (thn (hv pins s1 σ H1 _ I1 q1) λr s2 ⟨v,H2,I2,r2,kvs,k,e,ey,l,q2⟩=>?_));refine iq (k3 (jy ?_));subst ey;exact U3 I2 e l r1 r2 λs' I'=>⟨_,I',q2⟩
def Vo{iter:Expr}
 (hc:164) (S:163) (hi:PI X tg iter wi)
 (hg:∀s H ex,PG 127 tg g) (hf:∀s H ex,PF 127 ifs tf) (hk:∀s H ex,PE 127 k tk) (hv:∀s H ex,PE 127 v tv)
 (hs:∀x,foldedSetIterable iter X.env x=pure x:=by intro _;rfl):PE X (.DictComp k v [⟨tg,iter,ifs,0⟩] scope pos) (G7 (.dK []) loc.length ix wi g tf (KF tk tv)):=by
 refine Nv (emit:=Rq k v) (newAcc:=newDict) (pos:=firstIterPos [⟨tg,iter,ifs,0⟩] pos) ⟨rfl,λit acc env=>Ml ..,λ_ _ _=>rfl,λ_ _ _=>rfl,λ_ _ _=>rfl,λ_ _ _=>rfl,λpins s σ H E Q I h=>?_⟩ hc S hi hg hf (λs H ex=>ZI (hk s H ex) (hv s H ex)) rfl hs;simp only[newDict,newObj];refine iq (wpAny_alloc (iu (h _ ?_)));exact I.laid (a:=65) (o:=.dK []) (t':=s.toks) (λ_ _ q=>72 _ q) (ir _) (WZ s.heap I.big)
end
section
variable{K:Frag}{ρ ρ':111}{H H':Hp}{hd hd':Hd}
noncomputable def eQ(K:Frag):Acc K (List (Key×D)) (.dK []) [] where
 rel:=λρ H a o=>∃xs,o=.dK xs/\RKs K ρ H a xs
 mono:=λr g ⟨xs,e,q⟩=>⟨xs,e,q.mono g r⟩
 chg:=λ⟨xs,e,q⟩ st=>by subst e;exact st
 chg2:=λ⟨xs,e,q⟩=>⟨λ_ z=>(by subst e;cases z),λ_ z=>(by subst e;cases z)⟩
 init:=λρ H=>⟨[],rfl,by simp[RKs]⟩
open Classical in
noncomputable def IR(mk mv:ME):MM (List (Key×D)):=λls hd a=>(mk ls hd).bind λq=>(mv ls q.2).bind λz=>(Cv q.1).bind λk=>if D5 a.length then some (E5 a k z.1,z.2)else none
def ar(hk:RE K tk mk)(hv:RE K tv mv):RM1 (eQ K) (KF tk tv) (IR mk mv):=by
 intro ρ σ H hd ls a a' hd' Da o Q hR hL out hD hrel hm hQ;obtain⟨⟨d1,h1⟩,e1,hm⟩:=ij hm;obtain⟨⟨d2,h2⟩,e2,hm⟩:=ij hm;obtain⟨k,e4,hm⟩:=ij hm;obtain⟨xs,rfl,r⟩:=hrel;dsimp only at hm;split at hm
 .next c=>
  cases hm;refine hk ρ σ H hd ls _ d1 h1 hR hL e1 λρ1 H1 v1 x1 R1 r1=>?_;refine hv ρ1 σ H1 h1 ls _ d2 _ R1 138 e2 λρ2 H2 v2 x2 R2 r2=>?_;have:=Ia r1 e4;subst this;have hD2:H2 Da=some (.dK xs):=x2.keep Da _ (x1.keep Da _ hD out nt) (x1.outk hD out) nt;have x12:=x1.trans R1 x2;have r':RKs K ρ2 H2 a xs:=by
   obtain⟨rr,rfl,fr⟩:=x12.pre;exact r.mono (x12.grow hR) rr
  exact⟨xs,k,hD2,rfl,by rw[r'.len];exact c,hQ ρ2 H2 _ x12 R2 hD2 ⟨_,rfl,r'.put r2⟩⟩
 .cases hm
noncomputable def KH(m:Ls->Hd->Option (List (Key×D)×Hd)):ME:=λls hd=>(m ls hd).bind λp=>some (.mu p.2.length,p.2++[.dic p.1])
def YV{m:Ls->Hd->Option (List (Key×D)×Hd)}(h:RNG (eQ K) t m):RE K t (KH m):=by
 and_intros;obtain⟨⟨a,h1⟩,e1,hm⟩:=ij hm;cases hm;refine h ρ σ H hd ls Q a h1 hR hL e1 λρ1 H1 Da o x1 R1 nD oD hD ⟨xs,eo,r⟩=>?_;subst eo;have R2:=R1.nameD oD hD (λz=>z) r;have e0:upd H1 Da (.dK xs)=H1:=by
  funext b
  by_cases hb:b=Da
  .subst hb;rw[AH,hD]
  .rw[upd_ne hb]
 rw[e0]at R2;refine hQ (ρ1++[Da]) H1 _ (x1.name nD) R2 ?_;simp only[RD];exact⟨Da,by rw[<- R1.len];simp,rfl⟩
noncomputable def X0(t:TE):TE:=tCB (λxs H Q=>∃a S n,xs=[V.ref a]/\H a=some (.set S n)/\Q (.int n) H) (BJ t BM)
def UA:CallR X (.builtin "len") (λxs H Q=>∃a S n,xs=[V.ref a]/\H a=some (.set S n)/\Q (.int n) H):=by
 intro pins s σ H xs us Q I r h;obtain⟨a,S,n,rfl,ha,q⟩:=h;obtain⟨u,rfl,ru⟩:=BL r;cases ru;obtain⟨o,es,ep,t,ho,hex,hd,_,_,hb,hf,rfl⟩:=I.hok a _ ha;exact call_len_set ho hex hd hf (Int.lt_of_lt_of_le (Int.ofNat_lt.mpr hb) 95) ⟨.int es.size,H,I.tok _,⟨_,rfl⟩,q⟩
def ZN{X:Cx}{p pos:Pos}(hm:X.mg "len"=none)(ha:PE X e te)(hg:Gl X "len":=by rfl)
 (he:starEach [e] X.env=[109]:=by rfl):PE X (.Call (.Name "len" p) [e] [] pos) (X0 te):=by
 exact E6 (X:=X) (x:="len") (p:=p) (pos:=pos) UA hg hm L2.bt_len (Bm ha CC he) 95 95 he (by rfl)
variable(K:Frag){X:Cx}
def Va{iter:Expr}(hc:164)(S:163)(hi:QI K X tg iter wi mi)
 (hg:∀s H ex,QG K 127 tg g n) (hf:∀s H ex,QF K 127 ifs tf mf) (hk:∀s H ex,QE K 127 k tk mk) (hv:∀s H ex,QE K 127 v tv mv)
 (hs:∀x,foldedSetIterable iter X.env x=pure x:=by intro _;rfl):QE K X (.DictComp k v [⟨tg,iter,ifs,0⟩] scope pos) (G7 (.dK []) loc.length ix wi g tf (KF tk tv)) (KH (Ho loc.length ix mi n mf [] (IR mk mv))):=
 ⟨Vo hc S hi.p (λs H ex=>(hg s H ex).p) (λs H ex=>(hf s H ex).p) (λs H ex=>(hk s H ex).p) (λs H ex=>(hv s H ex).p) hs,
  YV (Ng hi.r (hg X.s₀ X.H₀ []).r (hf X.s₀ X.H₀ []).r (ar (hk X.s₀ X.H₀ []).r (hv X.s₀ X.H₀ []).r))⟩
def bi(hu:X.A.units+1<cLine)(ha:QE K X a ta ma)(hb:QE K X b tb mb)(hmk:behindInMarks .In b=false:=by rfl):QT K X (.Compare a [.In] [b] pos) (tB (Uk ta tb)) (AB (mOp (Hv false) ma mb)):=⟨T6 (cz hu ha.p hb.p) hmk,ag (bL hb.r ha.r)⟩
end
def WP{α:Type}(o:Option (α×Hd))(Q:α->Hd->Prop):Prop:=∃z h,o=some (z,h)/\Q z h
abbrev WS(m:MS)(ls:Ls)(hd:Hd)(Q:Fl->Hd->Prop):Prop:=WP (m ls hd) Q
abbrev WE(m:ME)(ls:Ls)(hd:Hd)(Q:172):Prop:=WP (m ls hd) Q
abbrev WT(m:MT)(ls:Ls)(hd:Hd)(Q:Bool->Hd->Prop):Prop:=WP (m ls hd) Q
abbrev WA(m:MA)(ls:Ls)(hd:Hd)(Q:List D->Hd->Prop):Prop:=WP (m ls hd) Q
abbrev WI(m:MI)(ls:Ls)(hd:Hd)(Q:List D×Gd->Hd->Prop):Prop:=WP (m ls hd) Q
abbrev WF(F:118)(ds:137)(hd:Hd)(Q:172):Prop:=WP (F ds hd) Q
section
variable{α β:Type}{Q:α->Hd->Prop}{R:β->Hd->Prop}
theorem WP.some{z:α}(q:Q z h):WP (some (z,h)) Q:=⟨z,h,rfl,q⟩
def WP.mono{Q':α->Hd->Prop}(h:WP o Q)(k:∀z h,Q z h->Q' z h):WP o Q':=let ⟨z,x,e,q⟩:=h;⟨z,x,e,k z x q⟩
theorem WP.bind{f:α×Hd->Option (β×Hd)}(h:WP o λz x=>WP (f (z,x)) R):WP (o.bind f) R:=by
 obtain⟨z,x,e,q⟩:=h;rw[e];exact q
def WP.eq{z:α}(e:o=Option.some (z,h))(q:Q z h):WP o Q:=⟨z,h,e,q⟩
end
section
variable{ls:Ls}{hd:Hd}{a b:MS}{ma mb mc:ME}{ta tb:MT}{m m1 m2:MA}{n:MG}{ns:MGs}{mi:MI}{d e:D}{i j:Nat}{QS:Fl->Hd->Prop}{QE:172}{QT:Bool->Hd->Prop}{QA:List D->Hd->Prop}{QO:Option Int->Hd->Prop}{QI:List D×Gd->Hd->Prop}
def Mp(b:MS)(Q:Fl->Hd->Prop):Fl->Hd->Prop
 |.nx l,h=>WS b l h Q
 |f,h=>Q f h
def AA(h:WS a ls hd (Mp b QS)):WS (A6 a b) ls hd QS:=by
 obtain⟨f,x,e,q⟩:=h;show WP (A6 a b ls hd) QS;rw[KY,e];cases f<;>first|exact q|exact⟨_,_,rfl,q⟩
def A5(q:WS b l h QS):Mp b QS (.nx l) h:=q
def GS(q:QS (.rt d) h):Mp b QS (.rt d) h:=q
def Az(h:QS (.nx ls) hd):WS AZ ls hd QS:=⟨_,_,rfl,h⟩
def Ap(h:WE ma ls hd λd x=>QS (.rt d) x):WS (AN ma) ls hd QS:=WP.bind (h.mono λ_ _ q=>WP.some q)
def AK(h:WE ma ls hd λd x=>QS (.nx (ls.set i (some d))) x):WS (AE i ma) ls hd QS:=by
 obtain⟨d,x,e,q⟩:=h;exact⟨_,_,by simp only[Ka,e,bind_some,LS,je],q⟩
def HK(h:WE ma ls hd λd x=>∃l,n d ls x=some l/\QS (.nx l) x):WS (Fx ma n) ls hd QS:=by
 obtain⟨d,x,e,l,e2,q⟩:=h;exact⟨_,_,by simp only[Ka,e,bind_some,e2,je],q⟩
def BP(h:WE ma ls hd λ_ x=>QS (.nx ls) x):WS (An ma) ls hd QS:=WP.bind (h.mono λ_ _ q=>WP.some q)
def Ww(h:WT ta ls hd λc x=>if c=true then WS a ls x QS else WS b ls x QS):WS (Ak ta a b) ls hd QS:=by
 refine WP.bind (h.mono λc x q=>?_);dsimp only;cases c<;>simpa using q
def BA(h:WT ta ls hd λc x=>(c=true->WS a ls x QS)/\(c=false->WS b ls x QS)):WS (Ak ta a b) ls hd QS:=
 Ww (h.mono λc x q=>by cases c<;>simp_all)
def WL(n:MG)(b:MS)(g:Gd)(ds:137)(ls:Ls)(hd:Hd)(Q:Fl->Hd->Prop):Prop:=WP (Bp n b g ds ls hd) Q
def CL(h:WI mi ls hd λp x=>WL n b p.2 p.1 ls x QS):WS (Be mi n b) ls hd QS:=WP.bind (h.mono λ_ _ q=>q)
def Wx(g:Gd)(P:Ls->Hd->Prop)(Q:Fl->Hd->Prop):Fl->Hd->Prop
 |.nx l,h=>GOk h g/\P l h
 |.ct l,h=>GOk h g/\P l h
 |.bk l,h=>Q (.nx l) h
 |.rt d,h=>Q (.rt d) h
theorem BX(P:List D->Ls->Hd->Prop):∀{ds:137} {ls:Ls} {hd:Hd},P ds ls hd ->
 (∀d r ls hd,P (d::r) ls hd->∃ls1,n d ls hd=some ls1/\WS b ls1 hd (Wx g (P r) QS))->(∀ls hd,P [] ls hd->QS (.nx ls) hd)->WL n b g ds ls hd QS
 |[],ls,hd,h,_,z=>⟨_,_,by unfold Bp;rfl,z _ _ h⟩
 |d::r,ls,hd,h,k,z=>by
  obtain⟨ls1,e1,f,x,e2,q⟩:=k d r ls hd h;unfold WL;unfold Bp;rw[e1,bind_some,e2,bind_some];cases f with
  |nx l=>exact(show GOk x g/\P r l x from q).1 |> λg1=>by dsimp only;rw[il g1];exact BX P q.2 k z
  |ct l=>exact(show GOk x g/\P r l x from q).1 |> λg1=>by dsimp only;rw[il g1];exact BX P q.2 k z
  |bk l=>exact⟨_,_,rfl,q⟩
  |rt l=>exact⟨_,_,rfl,q⟩
def A2(h:ls[i]?=some (some d))(q:QE d hd):WE (A0 i) ls hd QE:=⟨d,hd,by rw[DJ,h],q⟩
def AS{i:I}(q:QE (.im i) hd):WE (mC i) ls hd QE:=⟨_,_,rfl,q⟩
def A9{f:D->D->Hd->Option 161}(h:WE ma ls hd λd x=>WE mb ls x λe y=>WP (f d e y) QE):WE (mOp f ma mb) ls hd QE:=WP.bind (h.mono λ_ _ q=>WP.bind (q.mono λ_ _ q=>q))
def eV(h:WT ta ls hd λc x=>if c=true then WE ma ls x QE else WE mb ls x QE):WE (mIf ta ma mb) ls hd QE:=by
 refine WP.bind (h.mono λc x q=>?_);dsimp only;cases c<;>simpa using q
def N5(h:WT ta ls hd λc x=>(c=true->WE ma ls x QE)/\(c=false->WE mb ls x QE)):WE (mIf ta ma mb) ls hd QE:=
 eV (h.mono λc x q=>by cases c<;>simp_all)
def BY(h:WA m ls hd λds x=>Bu 97/\QE (B7 ds) x):WE (B5 m) ls hd QE:=WP.bind (h.mono λds x q=>by dsimp only;rw[il q.1];exact WP.some q.2)
def Al(h:WA m ls hd λds x=>QE (.mu x.length) (x++[.lst ds])):WE (AU m) ls hd QE:=WP.bind (h.mono λ_ _ q=>WP.some q)
def Bj{g:List D->Option D}(h:WA m ls hd λds x=>∃d,g ds=some d/\QE d x):WE (B6 g m) ls hd QE:=by
 obtain⟨ds,x,e,d,e2,q⟩:=h;exact⟨d,x,by simp only[Tr,e,bind_some,e2,je],q⟩
def Jn(h:WA m ls hd λds x=>WE ma ls x λe y=>∃i d,e=.im 135/\atI ds i=some d/\QE d y):WE (Hn m ma) ls hd QE:=by
 obtain⟨ds,x,e,d,y,e2,i,z,rfl,e4,q⟩:=h;exact⟨z,y,by simp only[e9,e,bind_some,e2,e4,je],q⟩
def BE{f:118}(h:WA m ls hd λds x=>WP (f ds x) QE):WE (mCB f m) ls hd QE:=WP.bind (h.mono λ_ _ q=>q)
def CT{f:D->List D->Hd->Option 161}(h:WE ma ls hd λd x=>(∃l,Ad x d=some l)/\WA m ls x λds y=>WP (f d ds y) QE):WE (mMt f ma m) ls hd QE:=by
 obtain⟨d,x,e,⟨l,hl⟩,q⟩:=h;unfold WE;rw[Rm,e,bind_some];dsimp only;rw[hl];exact WP.bind (q.mono λ_ _ q=>q)
def Br{F:118}(h:WA m ls hd λds x=>WF F ds x QE):WE (BZ F m) ls hd QE:=WP.bind (h.mono λ_ _ q=>q)
def HN(h:WE ma ls hd λd x=>∃i,d=.im 135/\QE (.im (.int (-i))) x):WE (EW ma) ls hd QE:=by
 obtain⟨d,x,e,i,rfl,q⟩:=h;exact⟨_,x,by simp only[dy,e,bind_some],q⟩
def P6(h:WT (AB ma) ls hd λc x=>if c=true then WE mb ls x QE else QE (.im (.bl false)) x):WE (Gf ma mb) ls hd QE:=by
 refine WP.bind (h.mono λc x q=>?_);dsimp only;cases c
 .exact WP.some (by simpa using q)
 .simpa using q
def Xp(h:WT (AB ma) ls hd λc x=>QE (.im (.bl (!c))) x):WE (IS ma) ls hd QE:=WP.bind (h.mono λ_ _ q=>WP.some q)
def AR(h:WE ma ls hd λd x=>∃b,d=.im (.bl b)/\QT b x):WT (AB ma) ls hd QT:=by
 obtain⟨d,x,e,b,rfl,q⟩:=h;exact⟨b,x,by simp only[Ig,e,bind_some],q⟩
def Dq(h:WE ma ls hd λd x=>∃b,CI x d=some b/\QT b x):WT (C9 ma) ls hd QT:=by
 obtain⟨d,x,e,b,e2,q⟩:=h;exact⟨b,x,by simp only[KW,e,bind_some,e2,je],q⟩
def F8(h:WT ta ls hd λc x=>QT (!c) x):WT (Hk ta) ls hd QT:=WP.bind (h.mono λ_ _ q=>WP.some q)
def F9(h:WT ta ls hd λc x=>if c=true then WT tb ls x QT else QT false x):WT (DB ta tb) ls hd QT:=by
 refine WP.bind (h.mono λc x q=>?_);dsimp only;cases c
 .exact WP.some (by simpa using q)
 .simpa using q
def Dr(h:WT ta ls hd λc x=>if c=true then QT true x else WT tb ls x QT):WT (mOr ta tb) ls hd QT:=by
 refine WP.bind (h.mono λc x q=>?_);dsimp only;cases c
 .simpa using q
 .exact WP.some (by simpa using q)
def BF(h:QT true hd):WT BV ls hd QT:=⟨_,_,rfl,h⟩
def A7(h:QA [] hd):WA A4 ls hd QA:=⟨_,_,rfl,h⟩
def A3(h:WE ma ls hd λd x=>WA m ls x λds y=>QA (d::ds) y):WA (A1 ma m) ls hd QA:=WP.bind (h.mono λ_ _ q=>WP.bind (q.mono λ_ _ q=>WP.some q))
def BG(h:WA m ls hd λds x=>Bu 97/\QA ds x):WA (Af m) ls hd QA:=WP.bind (h.mono λds x q=>by dsimp only;rw[il q.1];exact WP.some q.2)
def Xu{k:Int}(e:m ls hd=some ([.im (.int k)],hd))(hk:Fm k)(q:QA (B1 0 k.toNat) hd):WA (Gb m) ls hd QA:=⟨_,_,by simp only[dv,e,bind_some,hk,j8],q⟩
def Xv(h:WE ma ls hd λd x=>∃ds,Ao x d=some ds/\QA ds x):WA (IT ma) ls hd QA:=by
 obtain⟨d,x,e,ds,e2,q⟩:=h;exact⟨ds,x,by simp only[a8,e,bind_some,e2,je],q⟩
def Fu(h:WA m ls hd λds x=>∃k,ds=[.im (.int k)]/\GW k/\QI (B1 0 k.toNat,[]) x):WI (Cu m) ls hd QI:=by
 obtain⟨ds,x,e,k,rfl,c,q⟩:=h;exact⟨_,x,by simp only[eC,e,bind_some,c,j8],q⟩
def Bv(h:WE ma ls hd λd x=>∃ds,Ai d=some ds/\QI (ds,[]) x):WI (Aw ma) ls hd QI:=by
 obtain⟨d,x,e,ds,e2,q⟩:=h;exact⟨_,x,by simp only[eB,e,bind_some,e2,je],q⟩
def J7(h:WA m ls hd λds x=>QI (ds,[]) x):WI (EX m) ls hd QI:=by
 obtain⟨ds,x,e,q⟩:=h;exact⟨_,x,by simp only[eD,e,je],q⟩
def Fv(h:WE ma ls hd λd x=>∃k ds,d=.mu k/\x[k]?=some (.lst ds)/\QI (ds,[(k,ds)]) x):WI (Bs ma) ls hd QI:=by
 obtain⟨d,x,e,k,ds,rfl,e2,q⟩:=h;exact⟨_,x,by simp only[Tq,e,bind_some,e2],q⟩
def Ah{k:Nat}(h:WI mi ls hd λp x=>Bu p.1.length/\WP (CO n ta ma p.2 p.1 (DS k ix ls) x) QA):WA (Ab k ix mi n ta ma) ls hd QA:=WP.bind (h.mono λp x q=>by dsimp only;rw[il q.1];exact q.2)
def Cl{i j:Int}(q:QE (.im (.int (i+j))) hd):WP (B0 (.im 135) (.im (.int j)) hd) QE:=⟨_,_,by simp,q⟩
def EI{i j:Int}(q:QE (.im (.int (i-j))) hd):WP (CK (.im 135) (.im (.int j)) hd) QE:=⟨_,_,by simp,q⟩
def FB{i j:Int}(c:Ei i j)(q:QE (.im (.int (i*j))) hd):WP (Bx (.im 135) (.im (.int j)) hd) QE:=⟨_,_,by simp[c],q⟩
def EJ{i j:Int}(c:Ej j)(q:QE (.im (.int (i%j))) hd):WP (DC (.im 135) (.im (.int j)) hd) QE:=⟨_,_,by simp[c],q⟩
def Kt{i j:Int}(c:N2 j)(q:QE (.im (.int (i/j))) hd):WP (Go (.im 135) (.im (.int j)) hd) QE:=⟨_,_,by simp[c],q⟩
def Fd{i j:Int}(q:QE (.im (.bl (decide (i<j)))) hd):WP (gLt (.im 135) (.im (.int j)) hd) QE:=⟨_,_,by simp,q⟩
def Ff{i j:Int}(q:QE (.im (.bl (decide (i<=j)))) hd):WP (gLe (.im 135) (.im (.int j)) hd) QE:=⟨_,_,by simp,q⟩
def Fg{i j:Int}(q:QE (.im (.bl (decide (j<i)))) hd):WP (gGt (.im 135) (.im (.int j)) hd) QE:=⟨_,_,by simp,q⟩
def Jm{i j:Int}(q:QE (.im (.bl (decide (j<=i)))) hd):WP (gGe (.im 135) (.im (.int j)) hd) QE:=⟨_,_,by simp,q⟩
def Ck{i j:Int}(q:QE (.im (.bl (decide (i=j)))) hd):WP (gEq (.im 135) (.im (.int j)) hd) QE:=⟨_,_,by simp,q⟩
def FA{i j:Int}(q:QE (.im (.bl (!decide (i=j)))) hd):WP (gNe (.im 135) (.im (.int j)) hd) QE:=⟨_,_,by simp,q⟩
def EK{i j:Str}(q:QE (.im (.bl (decide (i=j)))) hd):WP (gEq (.im (.str i)) (.im (.str j)) hd) QE:=⟨_,_,by simp,q⟩
def HL{i j:Str}(q:QE (.im (.bl (!decide (i=j)))) hd):WP (gNe (.im (.str i)) (.im (.str j)) hd) QE:=⟨_,_,by simp,q⟩
def AF{i:Int}(e1:Ao hd d=some ds)(e2:atI ds i=some e)(q:QE e hd):WP (gIx d (.im 135) hd) QE:=⟨_,_,by rw[Xa,e1,bind_some,e2];rfl,q⟩
def Xm(e1:CP hd d=some kvs)(e2:Cv e=some k)(e3:BU kvs k=some z)(q:QE z hd):WP (Ep d e hd) QE:=⟨_,_,by rw[aB,e1,bind_some,e2,bind_some,e3];rfl,q⟩
def aP{neg:Bool}(e1:CP hd d=some kvs)(e2:Cv e=some k)(q:QE (.im (.bl (if neg then !(BU kvs k).isSome else(BU kvs k).isSome))) hd):WP (Hv neg e d hd) QE:=⟨_,_,by unfold Hv;rw[e1,bind_some,e2];rfl,q⟩
def Ew{i j:Int}(q:QE (.im (.int (max i j))) hd):WP (DP [.im 135,.im (.int j)] hd) QE:=⟨_,_,rfl,by have:(if j>i then j else i)=max i j:=(by split<;>omega);rw[this];exact q⟩
def G6{i j:Int}(q:QE (.im (.int (min i j))) hd):WP (Gp [.im 135,.im (.int j)] hd) QE:=⟨_,_,rfl,by have:(if j<i then j else i)=min i j:=(by split<;>omega);rw[this];exact q⟩
def BK{tp:Bool}{g:List D->Option D}(e1:(if tp then Ao hd d else Ad hd d)=some ds)(e2:g ds=some z)(q:QE z hd):WP (f1 tp g [d] hd) QE:=⟨_,_,by rw[fj,e1,bind_some,e2];rfl,q⟩
def C0{k:Nat}(e1:hd[k]?=some (.lst ds))(c:D5 97)(q:QE (.im .non) (hd.set k (.lst (ds++[x])))):WP (AX (.mu k) [x] hd) QE:=⟨_,_,by rw[Ts,e1];simp only[c,j8],q⟩
def Xk{w:Nat}(h:WE mc ls hd λp x=>WE ma ls x λq y=>WE mb ls y λr z=>∃w k kvs,q=.mu w/\Cv r=some k/\z[w]?=some (.dic kvs)/\D5 184/\QS (.nx ls) (z.set w (.dic (E5 kvs k p)))):WS (IU ma mb mc) ls hd QS:=by
 obtain⟨p,x,e1,q,y,e2,r,z,e3,w,k,kvs,rfl,e4,e5,c,qq⟩:=h;exact⟨_,_,by simp only[aA,e1,bind_some,e2,e3,e4,e5,c,j8],qq⟩
def Cd(h:WE mc ls hd λp x=>WE ma ls x λq y=>WE mb ls y λr z=>∃w i j ds,q=.mu w/\r=.im 135/\z[w]?=some (.lst ds)/\ixN 97 i=some j/\QS (.nx ls) (z.set w (.lst (ds.set j p)))):WS (Ch ma mb mc) ls hd QS:=by
 obtain⟨p,x,e1,q,y,e2,r,z,e3,w,i,j,ds,rfl,rfl,e5,c,qq⟩:=h;exact⟨_,_,by simp only[a7,e1,bind_some,e2,e3,e5,c,je],qq⟩
def Au{k n:Nat}{m:MS}{ds:137}{Q:172}(hl:97=k)(h:WS m (ds.map some++79 (n-k) none) hd λf x=>match f with
 |.rt d=>Q d x
 |.nx _=>Q (.im .non) x
 | _=>False):WF (mkF k n m) ds hd Q:=by
 obtain⟨f,x,e,q⟩:=h;unfold WF mkF;rw[il hl,e];cases f with
 |nx l=>exact⟨_,_,rfl,q⟩
 |rt l=>exact⟨_,_,rfl,q⟩
 |bk l=>exact q.elim
 |ct l=>exact q.elim
def Ae{F:118}(h:WA m ls hd λds x=>As 0 ds=true/\WF F ds [] λd _=>∃i,d=.im i/\QE (.im i) x):WE (A8 0 F m) ls hd QE:=by
 obtain⟨ds,x,e,c,d,y,e2,i,rfl,q⟩:=h;exact⟨_,_,IE e c e2,q⟩
end
structure Tap(T:Nat->MO->MO->Prop)(P:118):Prop where
 cl:∀{k:Nat} {a b:MO},T k a b->clO 2 a=true/\clO 2 b=true
 le:∀{j k:Nat} {a b:MO},T k a b->j<=k->T j a b
 pick:∀{k:Nat} {a b:MO} {many:Int},T (k+1) a b->0<many->many<1073741824->∃r a' b',0<=r/\r<many/\P [.mu 1,.im (.int many)] [a,b]=some (.im (.int r),[a',b'])/\T k a' b'
section
variable{T:Nat->MO->MO->Prop}{P:118}{rest:Hd}{QE:172}{n c:Nat}
def Tap.draw(t:Tap T P)(hT:T (n+1) a b){many:Int}(e:m ls hd=some ([.mu 1,.im (.int many)],a::b::rest))(h0:0<many)(h1:many<1073741824)
 (k:∀r a' b',T n a' b'->0<=r->r<many->QE (.im (.int r)) (a'::b'::rest)):WE (A8 2 P m) ls hd QE:=by
 obtain⟨r,a',b',p1,p2,e2,hT'⟩:=t.pick hT h0 h1;refine⟨_,_,Of (w:=2) (ds:=[.mu 1,.im (.int many)]) (pre:=[a,b]) (pre':=[a',b']) (rest:=rest) (g:=[]) rfl rfl e 71 ?_ ?_ (by simpa using e2),k r a' b' hT' p1 p2⟩
 .simp[t.cl hT]
 .simp[t.cl hT']
end
section
variable{K:Frag}
noncomputable def IJ(w:Nat)(ls:Ls):Ls:=ls.map λo=>match o with
 |some d=>if clD w d=true then some d else none
 |none=>none
noncomputable def GR(w:Nat):Fl->Option Fl
 |.nx ls=>some (.nx (IJ w ls))
 |.bk ls=>some (.bk (IJ w ls))
 |.ct ls=>some (.ct (IJ w ls))
 |.rt d=>if clD w d=true then some (.rt d)else none
noncomputable def KD(w:Nat)(m:MS):MS:=λls hd=>if 150<=w then(m ls hd).bind λp=>if(p.2.take w).all (clO w)=true then(GR w p.1).map λf=>(f,p.2.take w)else none else none
def RL.trim(h:RL K ρ H ls σ)(w:Nat):RL K (ρ.take w) H (IJ w ls) σ:=by
 refine⟨by simp[IJ,h.len],λi d e=>?_⟩;unfold IJ at e;rw[List.getElem?_map]at e;cases q:ls[i]? with
 |none=>rw[q]at e;cases e
 |some o=>
  rw[q]at e;cases o with
  |none=>simp at e
  |some z=>
   simp only[je,Option.some.injEq]at e;split at e
   .next c=>
    cases e;obtain⟨v,e1,e2⟩:=h.ob i _ q;exact⟨v,e1,e2.take w c⟩
   .cases e
def Ext.trim(x:Ext ρ H ρ' H'){w:Nat}(h:ρ.length<=w):Ext ρ H (ρ'.take w) H':=by
 obtain⟨r,rfl,fr⟩:=x.pre;refine⟨⟨r.take (w-ρ.length),?_,λb hb=>fr b (List.mem_of_mem_take hb)⟩,x.keep,x.tab⟩;rw[List.take_append,kx h]
def YC(w:Nat)(h:RS K t m):RS K t (KD w m):=by
 intro ρ σ H hd ls E f hd' hR hL hm hQ;unfold KD at hm;split at hm
 .next hw=>
  obtain⟨⟨f1,h1⟩,e1,hm⟩:=ij hm;dsimp only at hm;split at hm
  .next c=>
   obtain⟨f2,e2,e3⟩:=ik hm;cases e3;refine h ρ σ H hd ls E f1 h1 hR hL e1 λρ1 H1 x1 R1=>?_;have q:=hQ (ρ1.take w) H1 (x1.trim (by rw[hR.len];exact hw)) (R1.take w c);cases f1 with
   |nx l=>simp only[GR,Option.some.injEq]at e2;subst e2;exact λσ' L=>q σ' (L.trim w)
   |bk l=>simp only[GR,Option.some.injEq]at e2;subst e2;exact λσ' L=>q σ' (L.trim w)
   |ct l=>simp only[GR,Option.some.injEq]at e2;subst e2;exact λσ' L=>q σ' (L.trim w)
   |rt d=>
    simp only[GR]at e2;split at e2
    .next c2=>cases e2;exact λv r=>q v (r.take w c2)
    .cases e2
  .cases hm
 .cases hm
def Xi{w:Nat}{Q:Fl->Hd->Prop}(hw:150<=w)(h:WS m ls hd λf x=>(x.take w).all (clO w)=true/\∃f',GR w f=some f'/\Q f' (x.take w)):WS (KD w m) ls hd Q:=by
 obtain⟨f,x,e,c,f',e2,q⟩:=h;exact⟨f',x.take w,by unfold KD;rw[il hw,e,bind_some];dsimp only;rw[il c,e2];rfl,q⟩
noncomputable def Hi(m:MS):MS:=λls hd=>KD 150 m ls hd
def Uz(h:RS K t m):RS K t (Hi m):=λρ σ H hd ls E f hd' hR hL hm hQ=>YC 150 h ρ σ H hd ls E f hd' hR hL hm hQ
def T1(K:Frag){st:List Stmt}(h:QSs K X st t m):QSs K X st t (Hi m):=⟨h.p,Uz h.r⟩
def UH{Q:Fl->Hd->Prop}(h:WS m ls hd λf x=>(x.take 150).all (clO 150)=true/\∃f',GR 150 f=some f'/\Q f' (x.take 150)):WS (Hi m) ls hd Q:=Xi (ir _) h
noncomputable def iQ:ME:=λ_ hd=>some (.mu 150,hd++[.dic []])
def cw{X:Cx}{j k:Nat}{st:Stmt}{p pos:Pos}(F:FnOk X.prog X.w X.K X.mg X.base CX0 j f fd ps sp)(hr:Room k X.A)(D:DefAt X.K X.mg x st f fd ps)
 (hjk:j<=k:=by decide) (hg:Gl X x:=by rfl) (hdb:141=false:=by decide):
 PE X (.Call (.Name x p) [] [] pos) (CU sp [] E0 BM):=
 Vr (F.mono hjk) hr hg D.mg D.fn.kp D.bd .nil XT hdb
def T4(K:Frag){X:Cx}(w:Nat){j k:Nat}{n:Nat}{F:118}{st:Stmt}{p pos:Pos}(G:FnOk X.prog X.w X.K X.mg X.base CX0 j f fd ps (spF K n F))(hr:Room k X.A)(DA:DefAt X.K X.mg x st f fd ps)(hF:∀ds hd z,F ds hd=some z->97=n)
 (hjk:j<=k:=by decide) (hg:Gl X x:=by rfl) (hdb:141=false:=by decide):
 QE K X (.Call (.Name x p) [] [] pos) (CU (spF K n F) [] E0 BM) (A8 w F A4):=⟨cw G hr DA hjk hg hdb,Nl Nn hF⟩
end
mutual
theorem OX{v w:Nat}(h:v<=w):∀{d:D},clD v d=true->clD w d=true
 |.im i,_=>by simp
 |.mu n,c=>by simp at c ⊢;omega
 |.tm ds,c=>by rw[clD]at c ⊢;exact ES h c
 |.ro ns,_=>by rw[clD]
 |.op _ _ ds,c=>by rw[clD]at c ⊢;exact ES h c
 |.fv _ ds,c=>by rw[clD]at c ⊢;exact ES h c
theorem ES{v w:Nat}(h:v<=w):∀{ds:137},As v ds=true->As w ds=true
 |[],_=>by simp
 |d::ds,c=>by
  simp only[U5,Bool.and_eq_true]at c ⊢;exact⟨OX h c.1,ES h c.2⟩
end
theorem MN{v w:Nat}(h:v<=w):∀{ds:List (Key×D)},Gw v ds=true->Gw w ds=true
 |[],_=>by simp[Gw]
 |d::ds,c=>by
  simp only[Gw,Bool.and_eq_true]at c ⊢;exact⟨OX h c.1,MN h c.2⟩
def Je{v w:Nat}(h:v<=w)(c:clO v o=true):clO w o=true:=by
 cases o with
 |lst ds=>exact ES h c
 |dic ds=>exact MN h c
section
variable{T:Nat->MO->MO->Prop}{P:118}{rest:Hd}{QE:172}
def Tap.callX(t:Tap T P){n c:Nat}(hT:T (n+c) a b)(ex:Hd){w:Nat}{F:118}{R:I->Prop}(e:m ls hd=some (.mu 1::as,a::b::(ex++rest)))(hw:w=ex.length+2)(ha:As w as=true)(hx:ex.all (clO w)=true)
 (hF:∀a b,T (n+c) a b->WF F (.mu 1::as) (a::b::ex) λd x=>∃i a' b' g,d=.im i/\R i/\T n a' b'/\x=a'::b'::(ex++g))
 (k:∀i a' b',T n a' b'->R i->QE (.im i) (a'::b'::(ex++rest))):WE (A8 w F m) ls hd QE:=by
 subst hw;have hcl:∀o,clO 2 o=true->clO (ex.length+2) o=true:=λo h=>Je 68 h;obtain⟨d,x,e2,i,a',b',g,rfl,hR,hT',rfl⟩:=hF a b hT;refine⟨_,_,Of (w:=ex.length+2) (ds:=.mu 1::as) (pre:=a::b::ex) (pre':=a'::b'::ex) (rest:=rest) (g:=g) rfl rfl e (by simp[ha]) ?_ ?_ e2,k i a' b' hT' hR⟩
 .simp[hcl _ (t.cl hT).1,hcl _ (t.cl hT).2];simpa using hx
 .simp[hcl _ (t.cl hT').1,hcl _ (t.cl hT').2];simpa using hx
def Tap.call(t:Tap T P){n c:Nat}(hT:T (n+c) a b){F:118}{R:I->Prop}(e:m ls hd=some (.mu 1::as,a::b::rest))(ha:As 2 as=true)
 (hF:∀a b,T (n+c) a b->WF F (.mu 1::as) [a,b] λd x=>∃i a' b' g,d=.im i/\R i/\T n a' b'/\x=a'::b'::g)
 (k:∀i a' b',T n a' b'->R i->QE (.im i) (a'::b'::rest)):WE (A8 2 F m) ls hd QE:=
 t.callX hT [] (w:=2) e rfl ha rfl hF k
end
end L2
namespace L2
open PySem PySem.Spec PyProof.Rows
section
variable{Q:Fl->Hd->Prop}{QE:172}
def eX(P:Ls->Hd->Prop)(Q:Fl->Hd->Prop):Fl->Hd->Prop
 |.nx l,h=>P l h
 |.ct l,h=>P l h
 |.bk l,h=>Q (.nx l) h
 |.rt d,h=>Q (.rt d) h
def GP(P:Nat->Ls->Hd->Prop){n:Nat}(h:P n ls hd)
 (k:∀n ls hd,P n ls hd->WT c ls hd λt x=>if t=true then WS b ls x (eX (λl y=>∃m,m<n/\P m l y) Q)else Q (.nx ls) x):WS (CN c b) ls hd Q:=by
 have go:∀n ls hd,P n ls hd->∃j r,BB c b j ls hd=some r/\Q r.1 r.2:=by
  intro n
  induction n using Nat.strongRecOn with
  |ind n ih=>
   intro ls hd h;obtain⟨t,x,e1,q⟩:=k n ls hd h;cases t with
   |false=>
    rw[ip Bool.false_ne_true]at q;exact⟨1,(.nx ls,x),by unfold BB;rw[e1];rfl,q⟩
   |true=>
    rw[il rfl]at q;obtain⟨f,y,e2,q⟩:=q;cases f with
    |nx l=>
     obtain⟨m,hm,p⟩:=q;obtain⟨j,r,e3,q3⟩:=ih m hm l y p;exact⟨j+1,r,by unfold BB;rw[e1,bind_some,il rfl,e2];exact e3,q3⟩
    |ct l=>
     obtain⟨m,hm,p⟩:=q;obtain⟨j,r,e3,q3⟩:=ih m hm l y p;exact⟨j+1,r,by unfold BB;rw[e1,bind_some,il rfl,e2];exact e3,q3⟩
    |bk l=>exact⟨1,(.nx l,y),by unfold BB;rw[e1,bind_some,il rfl,e2];rfl,q⟩
    |rt d=>exact⟨1,(.rt d,y),by unfold BB;rw[e1,bind_some,il rfl,e2];rfl,q⟩
 obtain⟨j,⟨f,x⟩,e,q⟩:=go n ls hd h;exact⟨f,x,M6 e,q⟩
def N3{k j:Nat}{i:Int}(e1:hd[k]?=some (.lst ds))(hr:GW i)(e2:ixN 97 i=some j)(e3:ds[j]?=some z)(q:QE z (hd.set k (.lst (ds.eraseIdx j)))):WP (FU (.mu k) [.im 135] hd) QE:=⟨_,_,by rw[WX,e1];simp[hr,e2,e3],q⟩
end
end L2
namespace Bd
open PySem L2
@[reducible] noncomputable def Tp:MS:=(A6 (AE 2 122)
 (A6 (Be (Aw 77) (C1 2 (AV (AD 3) (AV (AD 4) C2)))
  (A6 (Ak (AB (mOp gGt 167 131))
  (AN 153)
  AZ)
 (AE 2 (A0 4))))
 (AN 153)))
noncomputable def HR:List D->Hd->Option 161:=mkF 2 5 Tp
@[reducible] def gV:MS:=(A6 (AE 2 (mOp gIx 77 122))
 (A6 (Ak (AB (mOp gEq 153 (mC (.str "steps"))))
  (AN (A8 0 HR (A1 (mOp gIx 77 124) (A1 131 A4))))
  AZ)
 (A6 (Ak (AB (mOp gEq 153 (mC (.str "ends"))))
  (AN (mOp Bx (mOp gIx 77 124) 131))
  AZ)
 (A6 (AE 3 (mOp CK 131 (mOp gIx 77 124)))
 (A6 (Ak (AB (mOp gEq 153 (mC (.str "late"))))
  (AN 167)
  AZ)
 (A6 (Ak (AB (mOp gLe 167 122))
  (AN 122)
  AZ)
 (A6 (Ak (AB (mOp gEq 153 (mC (.str "tardy"))))
  (AN (mOp Bx (mOp gIx 77 188) 167))
  AZ)
 (AN (mOp gIx 77 188)))))))))
noncomputable def F_cost_at:List D->Hd->Option 161:=mkF 2 4 gV
theorem Cr:∀ns:List Int,I.pys (ns.map I.int)=ns.map PyData.int
 |[]=>by simp[I.pys]
 |n::ns=>by simp[I.pys,I.py,Cr ns]
def Ca(ns:88):B9 (ns.map λi=>D.im 135)=some (ns.map I.int):=by
 have:(ns.map λi=>D.im 135)=(ns.map I.int).map D.im:=by rw[j5];rfl
 rw[this];exact allIm_map _
def aC(ns:88):PyData.eqv (.list 154) (.list [])=decide (ns=[]):=by
 cases ns<;>simp[PyData.eqv,PyData.eqvAll]
def lay_ints(ns:88):(PyData.list 154).canLay0=true:=by simp[PyData.canLay0,Ix]
def Q3(ns:88)(hd:Hd)(neg:Bool):FV neg (.list 154) (.list []) hd=some (.im (.bl (if neg then !decide (ns=[])else decide (ns=[]))),hd):=by
 unfold FV;rw[il,aC];refine⟨lay_ints ns,by simp[PyData.canLay0,PyData.canLayAll0],?_⟩;have:(PyData.list []).depth<=1:=by simp[PyData.depth,PyData.depthAll]
 omega
def Fo{x:Int}(m:Int)(h:0<m):0<=x%m/\x%m<m:=⟨Int.emod_nonneg _ 68,Int.emod_lt_of_pos _ h⟩
def gE(h:xs≠[])(n:Int):∃c,atI (xs.map λi=>D.im 135) (n%(xs.length:Int))=some (.im (.int c)):=by
 have hl:0<xs.length:=GK h;obtain⟨a,b⟩:=Fo (x:=n) (xs.length:Int) 68;obtain⟨k,hk⟩:=Int.eq_ofNat_of_zero_le a;have hk':k<xs.length:=by omega
 exact⟨xs[k],IH hk (by simp[hk'])⟩
def po1:IM 10 18:=by unfold IM;decide
inductive Cost where
 |late (d:Int)|tardy (d w:Int)|miss (d w:Int)|ends (w:Int)|steps (rows:185)
noncomputable def GV(r:Int×Int):I:=.tup [.int r.1,.int r.2]
noncomputable def BC:Cost->I
 |.late d=>.tup [.str "late",.int d]
 |.tardy d w=>.tup [.str "tardy",.int d,.int w]
 |.miss d w=>.tup [.str "miss",.int d,.int w]
 |.ends w=>.tup [.str "ends",.int w]
 |.steps rows=>.tup [.str "steps",.tup (rows.map GV)]
noncomputable def BQ(t:Int):List 128->Int->Int
 |[],told=>told
 |(b,a)::r,told=>if t<b then told else BQ t r a
noncomputable def Cost.at:Cost->Int->Int
 |.late d,t=>t-d
 |.tardy d w,t=>if t-d<=0 then 0 else w*(t-d)
 |.miss d w,t=>if t-d<=0 then 0 else w
 |.ends w,t=>w*t
 |.steps rows,t=>BQ t rows 0
def Cost.wok:Cost->Prop
 |.tardy _ w=>0<=w/\w<=1000000
 |.miss _ w=>0<=w/\w<=1000000
 |.ends w=>0<=w/\w<=1000000
 |_=>True
def n1:¬ (("late":Str)="steps"):=by decide +kernel
def n2:¬ (("tardy":Str)="steps"):=by decide +kernel
def n3:¬ (("miss":Str)="steps"):=by decide +kernel
def n4:¬ (("ends":Str)="steps"):=by decide +kernel
def n5:¬ (("late":Str)="ends"):=by decide +kernel
def n6:¬ (("tardy":Str)="ends"):=by decide +kernel
def n7:¬ (("miss":Str)="ends"):=by decide +kernel
def n8:¬ (("tardy":Str)="late"):=by decide +kernel
def n9:¬ (("miss":Str)="late"):=by decide +kernel
def n10:¬ (("miss":Str)="tardy"):=by decide +kernel
theorem Jt(t:Int)(z:D)(hd:Hd):∀(rows:185) (told:Int) (x y:Option D),∃fl x' y',Bp (C1 2 (AV (AD 3) (AV (AD 4) C2))) (A6 (Ak (AB (mOp gGt 167 131)) (AN 153) AZ) (AE 2 (A0 4))) [] ((rows.map GV).map .im)
 [some z,some (.im (.int t)),some (.im (.int told)),x,y] hd=some (fl,hd)/\(fl=.rt (.im (.int (BQ t rows told)))∨fl=.nx [some z,some (.im (.int t)),some (.im (.int (BQ t rows told))),x',y'])
 |[],told,x,y=>⟨_,x,y,O6,.inr rfl⟩
 |(b,a)::rows,told,x,y=>by
   by_cases h:t<b
   .refine⟨_,x,y,W7 (ls1:=[some z,some (.im (.int t)),some (.im (.int told)),some (.im (.int b)),some (.im (.int a))]) (by simp[GV]) (v:=.im (.int told)) (hd2:=hd) ?_,.inl ?_⟩
    .simp[h]
    .simp[BQ,h]
   .obtain⟨fl,x',y',e,q⟩:=Jt t z hd rows a (some (.im (.int b))) (some (.im (.int a)));refine⟨fl,x',y',?_,?_⟩
    .rw[<- e];refine Hr (ls1:=[some z,some (.im (.int t)),some (.im (.int told)),some (.im (.int b)),some (.im (.int a))]) (by simp[GV]) ?_ (AJ _);simp[h]
    .simpa [BQ,h]using q
def Oo(rows:185)(t:Int):HR [.im (.tup (rows.map GV)),.im (.int t)] []=some (.im (.int (BQ t rows 0)),[]):=by
 obtain⟨fl,x',y',e,q⟩:=Jt t (.im (.tup (rows.map GV))) [] rows 0 none none;rcases q with rfl|rfl
 .simp[HR,mkF]at e ⊢;simp[e]
 .simp[HR,mkF]at e ⊢;simp[e]
def Kb(c:Cost)(t:Int)(h:c.wok):F_cost_at [.im (BC c),.im (.int t)] []=some (.im (.int (c.at t)),[]):=by
 cases c with
 |late d=>simp[F_cost_at,mkF,BC,n1,n5,Cost.at]
 |tardy d w=>
  have b1:∀j,Ei w j:=λj=>Dg (by obtain⟨a,b⟩:=h;omega) (by obtain⟨a,b⟩:=h;omega);by_cases q:t-d<=0
  .simp[F_cost_at,mkF,BC,n2,n6,n8,Cost.at,q]
  .simp[F_cost_at,mkF,BC,n2,n6,n8,Cost.at,q,b1]
 |miss d w=>
  by_cases q:t-d<=0
  .simp[F_cost_at,mkF,BC,n3,n7,n9,Cost.at,q]
  .simp[F_cost_at,mkF,BC,n3,n7,n9,n10,Cost.at,q]
 |ends w=>
  have b1:∀j,Ei w j:=λj=>Dg (by obtain⟨a,b⟩:=h;omega) (by obtain⟨a,b⟩:=h;omega);simp[F_cost_at,mkF,BC,n4,Cost.at,b1]
 |steps rows=>
  have:=IE (m:=A1 (mOp gIx 77 124) (A1 131 A4)) (ls:=[some (.im (BC (.steps rows))),some (.im (.int t)),some (.im (.str "steps")),none]) (hd:=[]) (hd1:=[]) (F:=HR) (ds:=[.im (.tup (rows.map GV)),.im (.int t)]) (by simp[BC]) 71 (Oo rows t);simp[BC]at this;simp[F_cost_at,mkF,BC,Cost.at,this]
def Cy(w:Nat)(ns:88):As w (ns.map λi=>D.im 135)=true:=by induction ns<;>simp_all [As,clD]
noncomputable abbrev Aa(ks:73):I:=.tup (ks.map λk:Nat=>.int k)
def Wb(ns:88)(lo hi:Option Int):∃cs:List Int,Gv (ns.map λn=>.im (.int n)) lo hi=cs.map λn=>.im (.int n):=⟨(ns.drop _).take _,by unfold Gv;rw[map_take,List.map_drop]⟩
noncomputable abbrev AG(ks:73):List D:=ks.map λk:Nat=>D.im 136
def Pq{n:Nat}{i:Int}(a:0<=i)(b:i<n):ixN n i=some i.toNat:=by unfold ixN;rw[il a,il b]
theorem K9:∀{a:73} {k x:Nat},a[k]?=some x->(x::a.eraseIdx k).Perm a
 |[],k,x,h=>by simp at h
 |y::r,0,x,h=>by simp at h;subst h;exact .refl _
 |y::r,k+1,x,h=>by
  have ih:=K9 (a:=r) (k:=k) (x:=x) (by simpa using h);exact(List.Perm.swap y x _).trans (ih.cons y)
theorem IA{α β:Type}(f:α->β):∀(l:List α) (k:Nat),(l.map f).eraseIdx k=(l.eraseIdx k).map f
 |[],k=>rfl
 |y::r,0=>rfl
 |y::r,k+1=>by simp[IA f r k]
def M1{k x:Nat}(h:a[k]?=some x):(b++[x]++a.eraseIdx k).Perm (b++a):=by
 rw[jJ];exact List.Perm.append_left b (K9 h)
noncomputable def Mx(p:Int×Int):I:=.tup [.int p.1,.int p.2]
def Along(seq:73)(ps:185):Prop:=∀p∈ps,∃i j a b:Nat,i<j/\seq[i]?=some a/\seq[j]?=some b/\p=((a:Int),(b:Int))
def GF{i a:Nat}(h:seq[i]?=some a):atI (AG seq) (i:Int)=some (.im (.int (a:Int))):=IH rfl (by simp[h])
def Wa(xs:137)(k:Nat):Gv xs none (some (k:Int))=xs.take k:=by
 unfold Gv;rw[HT.sIx_none,HT.sIx_nat,Nat.sub_zero,List.drop_zero];by_cases h:k<=96
 .rw[Nat.min_eq_left h]
 .rw[Nat.min_eq_right 68,List.take_length,kx 68]
def Bg(n:Nat):B1 0 n=AG (69 n):=by
 refine ext_getElem? λi=>?_;by_cases h:i<n
 .rw[K5 h];simp[h]
 .rw[List.getElem?_eq_none 82,List.getElem?_eq_none 82]
theorem Along.pok{seq:73}{n:Nat}(hp:seq.Perm (69 n))(hn:n<=1000)(h:Along seq ps):∀p∈ps,pok p:=by
 intro p hp';obtain⟨i,j,a,b,_,ea,eb,rfl⟩:=h p hp';have ha:a<n:=by simpa using hp.mem_iff.mp (jf ea)
 have hb:b<n:=by simpa using hp.mem_iff.mp (jf eb)
 exact⟨by show -1000000000<=(a:Int);omega,by show(a:Int)<=1000000000;omega,by show -1000000000<=(b:Int);omega,by show(b:Int)<=1000000000;omega⟩
noncomputable abbrev intD(xs:88):List D:=xs.map λx=>D.im (.int x)
noncomputable abbrev FG:MS:=(Ak (DB (AB (mOp gEq (A0 5) (A0 4))) (AB (mOp (gIn true) (A0 6) 153)))
 (A6 (An (mMt AX 153 (A1 (A0 6) A4)))
 (An (mMt AX 167 (A1 (A0 6) A4))))
  AZ)
noncomputable abbrev OH:MS:=(A6 (AE 4 (mMt Hz 167 A4))
 (Be (FO 77) (C1 2 (AV (AD 5) (AV (AD 6) C2))) FG))
@[reducible] noncomputable def Le:MS:=(A6 (AE 2 (AU (Af A4)))
 (A6 (AE 3 (AU (Af (A1 131 A4))))
 (A6 (CN (C9 167) OH)
 (AN (B6 B8 (Bo (Bs 153)))))))
noncomputable def F_reached:List D->Hd->Option 161:=mkF 2 7 Le
def Tk(xs:88):CD (intD xs)=some (xs.map V.int):=by
 induction xs with
 |nil=>rfl
 |cons x r ih=>simp[CD,Er]at ih ⊢;exact ih
def WH(x:Int)(xs:88):inV (.int x) (xs.map V.int)=decide (x∈xs):=by
 unfold inV
 induction xs with
 |nil=>simp
 |cons y r ih=>
  simp only[j3,jV,ih,mem_cons];have:eqV (V.int y) (V.int x)=decide (x=y):=by
   unfold eqV;by_cases h:x=y
   .subst h;simp
   .have h':¬ y=x:=λz=>h z.symm;simp[h,h']
  rw[this,Bool.decide_or]
def in_ints(x:Int)(neg:Bool)(h:Ao hd d=some (intD xs)):gIn neg (.im (.int x)) d hd=some (.im (.bl (if neg then !decide (x∈xs)else decide (x∈xs))),hd):=by
 simp only[gIn,Er,bind_some,h,Tk,je,WH]
def g0(hd:Hd)(x y:MO):(hd++[x,y])[150]?=some x:=by simp
def g1(hd:Hd)(x y:MO):(hd++[x,y])[150+1]?=some y:=by simp
def t0(hd:Hd)(x y z:MO):(hd++[x,y]).set 150 z=hd++[z,y]:=by simp
def t1(hd:Hd)(x y z:MO):(hd++[x,y]).set (150+1) z=hd++[x,z]:=by simp
theorem HU(P:D)(hd:Hd)(g:Gd)(G:GOk hd g)(a at_:Int):∀(qs:185) (found fresh:88) (z5 z6:Option D),found.length+qs.length<=1000->fresh.length+qs.length<=10000->∃(new:88) (y5 y6:Option D),
 Bp (C1 2 (AV (AD 5) (AV (AD 6) C2))) FG g (qs.map AT) [some P,some (.im (.int a)),some (.mu 150),some (.mu (150+1)),some (.im (.int at_)),z5,z6] (hd++[.lst (intD found),.lst (intD fresh)]) =
  some (.nx [some P,some (.im (.int a)),some (.mu 150),some (.mu (150+1)),some (.im (.int at_)),y5,y6],hd++[.lst (intD (found++new)),.lst (intD (fresh++new))])/\
 new.length<=qs.length/\new.Nodup/\(∀y∈new,y∉found/\(at_,y)∈qs)/\∀y,(at_,y)∈qs->y∈found++new
 |[],found,fresh,z5,z6,_,_=>⟨[],z5,z6,by simp[O6],by simp,.nil,λy h=>by simp at h,λy h=>by simp at h⟩
 |(u,v)::qs,found,fresh,z5,z6,hf,hr=>by
   simp only[ji]at hf hr;have gg:∀r:Hd,GOk (hd++r) g:=λr=>Zy G r;have nm:∀z5 z6:Option D,∀h:Hd,C1 2 (AV (AD 5) (AV (AD 6) C2)) (AT (u,v)) [some P,some (.im (.int a)),some (.mu 150),some (.mu (150+1)),some (.im (.int at_)),z5,z6] h=some [some P,some (.im (.int a)),some (.mu 150),some (.mu (150+1)),some (.im (.int at_)),some (.im (.int u)),some (.im (.int v))]:=λz5 z6 h=>by simp[AT]
   have sv:Ao (hd++[.lst (intD found),.lst (intD fresh)]) (.mu 150)=some (intD found):=by rw[X1,IV,g0]
   have gi:=in_ints v true sv;by_cases c:u=at_/\v∉found
   .obtain⟨new,y5,y6,q,l,nd,fr,al⟩:=HU P hd g G a at_ qs (found++[v]) (fresh++[v]) (some (.im (.int u))) (some (.im (.int v))) 82 82;refine⟨v::new,y5,y6,?_,by simp;omega,?_,λy hy=>?_,λy hy=>?_⟩
    .have e1:found++v::new=found++[v]++new:=by simp
     have e2:fresh++v::new=fresh++[v]++new:=by simp
     rw[e1,e2,<- q,j3];have f1:D5 found.length:=Ax 68;have f2:D5 fresh.length:=Ax 68;refine Hr (nm _ _ _) ?_ (gg _);simp only[FG,OO,OQ,Ig,KZ,DJ,List.getElem?_cons_zero,List.getElem?_cons_succ,bind_some,LU,OP,c.1,decide_true,j8,Bool.false_eq_true,jj,gi,c.2,kF,Bool.not_false,KY,a9,Rm,IV,g0,g1,Ih,I0,Ts,ja,f1,f2,t0,t1,jB,j3,jr]
    .refine nodup_cons.mpr ⟨λh=>(fr v h).1 71,nd⟩
    .rcases mem_cons.mp hy with rfl|hy
     .exact⟨c.2,by rw[c.1];exact j4⟩
     .have:=fr y hy;exact⟨λh=>this.1 (by simp[h]),iw _ this.2⟩
    .rcases mem_cons.mp hy with h|h
     .cases h;simp
     .have:=al y h;simp at this ⊢;rcases this with h|h|h
      .exact .inl h
      .exact .inr (.inl h)
      .exact .inr (.inr h)
   .obtain⟨new,y5,y6,q,l,nd,fr,al⟩:=HU P hd g G a at_ qs found fresh (some (.im (.int u))) (some (.im (.int v))) 68 68;refine⟨new,y5,y6,?_,by simp;omega,nd,λy hy=>⟨(fr y hy).1,iw _ (fr y hy).2⟩,λy hy=>?_⟩
    .rw[<- q,j3];refine Hr (nm _ _ _) ?_ (gg _);by_cases c1:u=at_
     .have c2:v∈found:=Classical.not_not.mp λh=>c ⟨c1,h⟩;simp only[FG,OO,OQ,Ig,KZ,DJ,List.getElem?_cons_zero,List.getElem?_cons_succ,bind_some,LU,OP,c1,decide_true,j8,Bool.false_eq_true,jj,gi,c2,Bool.not_true,Pw]
     .simp only[FG,OO,OQ,Ig,KZ,DJ,List.getElem?_cons_zero,List.getElem?_cons_succ,bind_some,LU,OP,c1,kF,j8,Bool.false_eq_true,jj,Pw]
    .rcases mem_cons.mp hy with h|h
     .cases h;have c2:v∈found:=Classical.not_not.mp λh=>c ⟨rfl,h⟩;simp[c2]
     .exact al y h
end Bd
namespace L2
open PySem PySem.Spec PyProof.Rows
def Cn(p:Key×D)(r:List (Key×D))(k:Key):BU (p::r) k=if p.1=k then some p.2 else BU r k:=by
 unfold BU;rw[jK];by_cases e:p.1=k<;>simp[e]
theorem NB(k:Key):∀kvs:List (Key×D),(kvs.any λkv=>decide (kv.1=k))=(BU kvs k).isSome
 |[]=>rfl
 |p::r=>by
  rw[jV,Cn];by_cases e:p.1=k
  .simp[e]
  .rw[ip e,jx e,Bool.false_or];exact NB k r
theorem NA(k j:Key)(y:D):∀kvs:List (Key×D),BU (kvs.map λkv=>if kv.1=k then(kv.1,y)else kv) j=(BU kvs j).map λx=>if j=k then y else x
 |[]=>rfl
 |p::r=>by
  have ih:=NA k j y r;rw[j3,Cn,Cn,ih];by_cases h:p.1=k
  .rw[il h];by_cases e:p.1=j
   .have:j=k:=e.symm.trans h;simp[e,this]
   .simp[e]
  .rw[ip h];by_cases e:p.1=j
   .have:¬ j=k:=λz=>h (e.trans z);simp[e,this]
   .simp[e]
theorem Lp(k j:Key)(y:D):∀kvs:List (Key×D),BU kvs k=none->BU (kvs++[(k,y)]) j=if j=k then some y else BU kvs j
 |[],_=>by
  rw[jP,Cn];by_cases e:k=j
  .subst e;simp
  .have:¬ j=k:=λz=>e z.symm;simp[e,this]
 |p::r,hn=>by
  rw[Cn]at hn;have hk:¬ p.1=k:=λz=>by rw[il z]at hn;cases hn
  rw[ip hk]at hn;have ih:=Lp k j y r hn;rw[jM,Cn,Cn,ih];by_cases e:p.1=j
  .have:¬ j=k:=λz=>hk (e.trans z);simp[e,this]
  .simp[e]
def UV(kvs:List (Key×D))(k j:Key)(y:D):BU (E5 kvs k y) j=if j=k then some y else BU kvs j:=by
 unfold E5;rw[NB];by_cases a:(BU kvs k).isSome=true
 .rw[il a,NA];by_cases e:j=k
  .subst e;obtain⟨x,hx⟩:=isSome_iff_exists.mp a;simp[hx]
  .simp[e]
 .rw[ip a];exact Lp k j y kvs (by simpa using a)
def Nr(kvs:List (Key×D))(k:Key)(y:D):(E5 kvs k y).length<=184+1:=by
 unfold E5;split<;>simp
def DicI(kvs:List (Key×D))(g:Nat->Option Int):Prop:=∀k:Nat,BU kvs (.inl (k:Int))=(g k).map λv=>.im (.int v)
def DicI.put{g:Nat->Option Int}(h:DicI kvs g)(k:Nat)(v:Int):DicI (E5 kvs (.inl (k:Int)) (.im (.int v))) λj=>if j=k then some v else g j:=λj=>by
 rw[UV];by_cases e:j=k
 .subst e;simp
 .have:¬ (Sum.inl (j:Int):Key)=Sum.inl (k:Int):=λz=>e (by have:=Sum.inl.inj z;omega);rw[ip this];dsimp only;rw[ip e];exact h j
section
variable{ls:Ls}{hd:Hd}{QE:172}{QI:List D×Gd->Hd->Prop}{ma:ME}{n:MG}{ta:MT}{mi:MI}{m:MA}
def J0{g:Nat->Option Int}{k:Nat}{v:Int}(e1:CP hd d=some kvs)(h:DicI kvs g)(e:g k=some v)(q:QE (.im (.int v)) hd):WP (Ep d (.im 136) hd) QE:=
 Xm e1 rfl (by rw[h k,e];rfl) q
def P5{g:Nat->Option Int}{k:Nat}{neg:Bool}(e1:CP hd d=some kvs)(h:DicI kvs g)(q:QE (.im (.bl (if neg then !(g k).isSome else(g k).isSome))) hd):WP (Hv neg (.im 136) d hd) QE:=
 aP e1 rfl (by rw[h k,isSome_map];exact q)
def aN{x:Int}{neg:Bool}(e1:Ao hd d=some (Bd.intD xs))(q:QE (.im (.bl (if neg then !decide (x∈xs)else decide (x∈xs)))) hd):WP (gIn neg (.im (.int x)) d hd) QE:=WP.eq (Bd.in_ints x neg e1) q
def Xr{mm:Ls->Hd->Option (List (Key×D)×Hd)}(h:WP (mm ls hd) λkvs x=>QE (.mu x.length) (x++[.dic kvs])):WE (KH mm) ls hd QE:=WP.bind (h.mono λ_ _ q=>WP.some q)
def UK{α:Type}{k:Nat}{ix:73}{a0:α}{me:MM α}{Q:α->Hd->Prop}(h:WI mi ls hd λp x=>WP (mGo n ta me p.2 p.1 (DS k ix ls) x a0) Q):WP (Ho k ix mi n ta a0 me ls hd) Q:=WP.bind (h.mono λ_ _ q=>q)
theorem N4{α:Type}{me:MM α}{g:Gd}{Q:α->Hd->Prop}(P:List D->α->Ls->Hd->Prop):∀{ds:137} {a:α} {ls:Ls} {hd:Hd},P ds a ls hd ->
 (∀d r a ls hd,P (d::r) a ls hd->∃ls1,n d ls hd=some ls1/\WT ta ls1 hd λc x=>if c=true then WP (me ls1 x a) λa' y=>GOk y g/\P r a' ls1 y else GOk x g/\P r a ls1 x) ->
 (∀a ls hd,P [] a ls hd->Q a hd)->WP (mGo n ta me g ds ls hd a) Q
 |[],a,ls,hd,h,k,z=>⟨_,_,by unfold mGo;rfl,z _ _ _ h⟩
 |d::r,a,ls,hd,h,k,z=>by
  obtain⟨ls1,e1,c,x,e2,q⟩:=k d r a ls hd h;unfold mGo;rw[e1,bind_some,e2,bind_some];cases c with
  |true=>
   rw[il rfl]at q ⊢;obtain⟨a',y,e3,g3,p3⟩:=q;rw[e3,bind_some];dsimp only;rw[il g3];exact N4 P p3 k z
  |false=>
   rw[ip Bool.false_ne_true]at q ⊢;dsimp only;rw[il q.1];exact N4 P q.2 k z
def aR{a:List (Key×D)}{Q:List (Key×D)->Hd->Prop}(h:WE mk ls hd λd x=>WE mv ls x λe y=>∃k,Cv d=some k/\D5 a.length/\Q (E5 a k e) y):WP (IR mk mv ls hd a) Q:=by
 obtain⟨d,x,e1,e,y,e2,k,e3,c,q⟩:=h;exact⟨_,_,by simp only[IR,e1,bind_some,e2,e3,c,j8],q⟩
def Ay{α:Type}{g:Gd}{QA:List D->Hd->Prop}(inj:α->D)(f:α->Option D)(L:D->Ls->Prop)(l0:Ls){xs:List α}{hd:Hd}(hg:GOk hd g)
 (k:∀x∈xs,∀ls,ls=l0∨(∃d,L d ls)->∃ls1,n (inj x) ls hd=some ls1/\L (inj x) ls1/\WT ta ls1 hd λc y=>y=hd/\if c=true then ∃z,f x=some z/\WE ma ls1 hd λe y=>y=hd/\e=z else f x=none)
 (q:QA (xs.filterMap f) hd):WP (CO n ta ma g (xs.map inj) l0 hd) QA:=by
 have go:∀(xs':List α) (ls:Ls),(∀x∈xs',x∈xs)->(ls=l0∨∃d,L d ls)->CO n ta ma g (xs'.map inj) ls hd=some (xs'.filterMap f,hd):=by
  intro xs'
  induction xs' with
  |nil=>intro ls _ _;unfold CO;rfl
  |cons x r ih=>
   intro ls hs hl;obtain⟨ls1,e1,L1,c,y,e2,rfl,q⟩:=k x (hs x j4) ls hl;have ih:=ih ls1 (λz hz=>hs z (iw _ hz)) (.inr ⟨_,L1⟩);rw[j3];unfold CO;rw[e1,bind_some,e2,bind_some];cases c with
   |true=>
    rw[il rfl]at q;obtain⟨z,ez,e,y,e3,rfl,rfl⟩:=q;rw[il rfl,e3,bind_some];dsimp only;rw[il hg,ih,jO,ez];rfl
   |false=>
    rw[ip Bool.false_ne_true]at q;rw[ip Bool.false_ne_true];dsimp only;rw[il hg,ih,jO,q]
 exact⟨_,_,go xs l0 (λ_ h=>h) (.inl rfl),q⟩
end
mutual
noncomputable def shD(k:Nat):D->D
 |.im i=>.im i
 |.mu n=>.mu (n+k)
 |.tm ds=>.tm (EV k ds)
 |.ro ns=>.ro ns
 |.op nm fs ds=>.op nm fs (EV k ds)
 |.fv m ds=>.fv m (EV k ds)
noncomputable def EV(k:Nat):List D->List D
 |[]=>[]
 |d::ds=>shD k d::EV k ds
end
noncomputable def NT(k:Nat):List (Key×D)->List (Key×D)
 |[]=>[]
 |d::ds=>(d.1,shD k d.2)::NT k ds
noncomputable def shO(k:Nat):MO->MO
 |.lst ds=>.lst (EV k ds)
 |.dic kvs=>.dic (NT k kvs)
section
variable{K:Frag}
mutual
theorem RD.shift(ρ1:111):∀{d:D} {v:V},RD K ρ H d v->RD K (ρ1++ρ) H (shD ρ1.length d) v
 |.im i,v,h=>by simp only[RD,shD]at h ⊢;exact h
 |.mu n,v,h=>by
  simp only[RD,shD]at h ⊢;obtain⟨a,e,q⟩:=h;exact⟨a,by rw[List.getElem?_append_right 68,Nat.add_sub_cancel];exact e,q⟩
 |.tm ds,v,h=>by
  simp only[RD,shD]at h ⊢;obtain⟨a,xs,e,q,z⟩:=h;exact⟨a,xs,e,q,RDs.shift ρ1 z⟩
 |.ro ns,v,h=>by simp only[RD,shD]at h ⊢;exact h
 |.op nm fs ds,v,h=>by
  simp only[RD,shD]at h ⊢;obtain⟨a,xs,e,q,z⟩:=h;exact⟨a,xs,e,q,RDs.shift ρ1 z⟩
 |.fv k ds,v,h=>by
  simp only[RD,shD]at h ⊢;obtain⟨a,xs,e,q,z⟩:=h;exact⟨a,xs,e,q,RDs.shift ρ1 z⟩
theorem RDs.shift(ρ1:111):∀{d:137} {v:155},RDs K ρ H d v->RDs K (ρ1++ρ) H (EV ρ1.length d) v
 |[],v,h=>by simpa only[RDs,EV]using h
 |d::ds,v,h=>by
  simp only[RDs,EV]at h ⊢;obtain⟨x,r',e,q,z⟩:=h;exact⟨x,r',e,q.shift ρ1,RDs.shift ρ1 z⟩
end
theorem RKs.shift(ρ1:111):∀{d:List (Key×D)} {v:List (Key×V)},RKs K ρ H d v->RKs K (ρ1++ρ) H (NT ρ1.length d) v
 |[],v,h=>by simpa only[RKs,NT]using h
 |d::ds,v,h=>by
  simp only[RKs,NT]at h ⊢;obtain⟨x,r',e,q1,q,z⟩:=h;exact⟨x,r',e,q1,q.shift ρ1,RKs.shift ρ1 z⟩
theorem RC.shift(ρ1:111)(h:RC K ρ H o ho):RC K (ρ1++ρ) H (shO ρ1.length o) ho:=by
 cases o with
 |lst ds=>obtain⟨xs,e,q⟩:=h;exact⟨xs,e,q.shift ρ1⟩
 |dic ds=>obtain⟨xs,e,q⟩:=h;exact⟨xs,e,q.shift ρ1⟩
def RH.join(R1:RH K ρ H h1)(x:Ext [] H ρ' H')(R2:RH K ρ' H' h2):RH K (ρ++ρ') H' (h1++h2.map (shO ρ.length))/\Ext ρ H (ρ++ρ') H':=by
 obtain⟨r,er,fr⟩:=x.pre;have er:ρ'=r:=by simpa using er
 subst er;have kp:∀b o,H b=some o->(∀ps,o≠.tbl ps)->H' b=some o:=λb o e t=>x.keep b o e 71 t;have gr:Grow H H':=⟨λb o s e=>kp b _ e (NM s)⟩
 refine⟨⟨by simp[R1.len,R2.len],?_,R2.tabs,λn o a e1 e2=>?_⟩,⟨⟨ρ',rfl,fr⟩,λb o e _ t=>kp b o e t,x.tab⟩⟩
 .rw[nodup_append];refine⟨R1.nd,R2.nd,λa ha b hb z=>?_⟩;subst z;exact R1.out (fr a hb) ha
 .by_cases hn:n<ρ.length
  .rw[List.getElem?_append_left hn]at e2;rw[List.getElem?_append_left (by rw[<- R1.len];exact hn)]at e1;obtain⟨ho,q1,q2⟩:=R1.ob n o a e1 e2;exact⟨ho,kp a ho q1 (λps z=>by rcases R1.mut (jf e2)with⟨y,w⟩|⟨y,w⟩<;>(rw[q1,z]at w;cases w)),q2.mono gr ρ'⟩
  .have hn':ρ.length<=n:=not_lt.mp hn;rw[List.getElem?_append_right hn']at e2;rw[List.getElem?_append_right (by rw[<- R1.len];exact hn'),List.getElem?_map,<- R1.len]at e1;cases q:h2[n-ρ.length]? with
   |none=>rw[q]at e1;cases e1
   |some o2=>
    rw[q]at e1;cases e1;obtain⟨ho,q1,q2⟩:=R2.ob _ o2 a q e2;exact⟨ho,q1,q2.shift ρ⟩
noncomputable def EN(F:118)(ma:MA):ME:=λls hd=>(186).bind λp=>if As 0 p.1=true then(F p.1 []).map λr=>(shD p.2.length r.1,p.2++r.2.map (shO p.2.length))else none
def VE{k:Nat}{F:118}(h:RA K t m)(hk:∀ds hd z,F ds hd=some z->97=k):RE K (CU (spF K k F) [] E0 t) (EN F m):=by
 and_intros;obtain⟨⟨d1,h1⟩,e1,hm⟩:=ij hm;dsimp only at hm;split at hm
 .next c1=>
  obtain⟨⟨d2,h2⟩,e2,e3⟩:=ik hm;cases e3;refine h ρ σ H hd ls _ d1 h1 hR hL e1 λρ1 H1 v1 x1 R1 r1=>?_;rw[jq];have R0:RH K [] H1 []:=by simpa using R1.take 0 71
  have r0:RDs K [] H1 d1 v1:=by simpa using r1.take' 0 c1
  refine⟨by rw[r1.len];exact hk _ _ _ e2,[],[],d1,d2,h2,R0,r0,e2,λρ' H' v x2 R2 r2=>?_⟩;obtain⟨R3,x3⟩:=R1.join x2 R2;rw[R1.len]at R3;refine hQ (ρ1++ρ') H' v (x1.trans R1 x3) R3 ?_;have:=r2.shift ρ1;rw[R1.len]at this;exact this
 .cases hm
def Vd(K:Frag){X:Cx}{j k:Nat}{n:Nat}{F:118}{st:Stmt}{p:Pos}(G:FnOk X.prog X.w X.K X.mg X.base CX0 j f fd ps (spF K n F))(hr:Room k X.A)(DA:DefAt X.K X.mg x st f fd ps)(ha:QA K X 179 t m)(hF:∀ds hd z,F ds hd=some z->97=n)
 (hjk:j<=k:=by decide) (hg:Gl X x:=by rfl) (hdb:141=false:=by decide) (he:starEach 179 X.env=109::starEach es X.env:=by rfl) (hpl:(backTo pos 149).any (·.1)=false:=by rfl):
 QE K X (.Call (.Name x p) 179 [] pos) (CU (spF K n F) [] E0 t) (EN F m):=⟨Qx G hr DA ha.p hjk hg hdb he hpl,VE ha.r hF⟩
noncomputable def LJ(neg:Bool)(ma:ME)(ml:MA):ME:=λls hd=>(186).bind λp=>(ml ls p.2).bind λq=>match p.1 with
 |.im i=>(Er i).bind λx=>(CD q.1).map λxs=>(.im (.bl (if neg then !inV x xs else inV x xs)),q.2)
 |_=>none
def bK{neg:Bool}(ha:RE K ta ma)(hb:RN K tb ml):RE K (tOp (rIn K neg) ta tb) (LJ neg ma ml):=by
 and_intros;obtain⟨⟨d1,h1⟩,e1,hm⟩:=ij hm;obtain⟨⟨d2,h2⟩,e2,hm⟩:=ij hm;dsimp only at hm;split at hm
 .obtain⟨x,e3,hm⟩:=ij hm;obtain⟨xs,e4,e5⟩:=ik hm;cases e5;refine ha ρ σ H hd ls _ _ h1 hR hL e1 λρ1 H1 v1 x1 R1 r1=>?_;refine hb ρ1 σ H1 h1 ls _ d2 _ R1 138 e2 λρ2 H2 a ys x2 R2 na oa ea r2=>?_;have r1:=r1.ext R1 x2;simp only[RD]at r1;obtain⟨rfl,f1⟩:=JT e3 r1;obtain⟨rfl,f2⟩:=Hw e4 r2;exact⟨a,ys,rfl,.inl (SqL.of ea),f1,f2,hQ ρ2 H2 _ 89 R2 133⟩
 .cases hm
def Yk(K:Frag){neg:Bool}(ho:OpR X (compareOp op) (rIn K neg))(ha:QE K X a ta ma)(hb:QN K X b tb ml)(hm:behindInMarks op b=false:=by first|exact Hc _|rfl):QT K X (.Compare a [op] [b] pos) (Fh (tOp (rIn K neg) ta tb)) (AB (LJ neg ma ml)):=⟨IL ho ha.p hb.p hm,Dd (bK ha.r hb.r)⟩
open Classical in
noncomputable def Hj(ml:MA)(mb:ME):MA:=λls hd=>(ml ls hd).bind λp=>(mb ls p.2).bind λq=>match q.1 with
 |.im (.int k)=>if(0<=k/\k<=1000)/\Bu (p.1.length*k.toNat)then some ((79 k.toNat p.1).flatten,q.2)else none
 |_=>none
theorem RDs.rep(r:RDs K ρ H ds xs):∀n,RDs K ρ H (79 n ds).flatten (79 n xs).flatten
 |0=>by simp[RDs]
 |n+1=>by
  simp only[jW,flatten_cons];exact r.app (r.rep n)
def ao(ha:RN K ta ml)(hb:RE K tb mb):RN K (tOp VL ta tb) (Hj ml mb):=by
 and_intros;obtain⟨⟨d1,h1⟩,e1,hm⟩:=ij hm;obtain⟨⟨d2,h2⟩,e2,hm⟩:=ij hm;dsimp only at hm;split at hm
 .next k=>
  split at hm
  .next c=>
   cases hm;refine ha ρ σ H hd ls _ d1 h1 hR hL e1 λρ1 H1 a xs x1 R1 na oa ea r1=>?_;refine hb ρ1 σ H1 h1 ls _ _ _ R1 138 e2 λρ2 H2 v2 x2 R2 r2=>?_;simp only[RD,RI]at r2;subst r2;have ea2:=x2.keep a _ ea oa nt;refine⟨a,k,xs,rfl,rfl,ea2,by omega,by omega,by rw[r1.len];exact c.2,λp hp=>?_⟩;obtain⟨R3,x3⟩:=R2.hid (ho:=.lst (79 k.toNat xs).flatten) hp;have x12:=x1.trans R1 x2;exact hQ ρ2 _ p _ (x12.trans R2 x3) R3 (x12.none hR hp R2) (R2.out hp) AH (((r1.ext R1 x2).rep k.toNat).ext R2 x3)
  .cases hm
 .cases hm
def bw(K:Frag)(ha:QN K X a ta ml)(hb:QE K X b tb mb):QN K X (.BinOp a .Mult b pos) (tOp VL ta tb) (Hj ml mb):=⟨Qv d9 ha.p hb.p,ao ha.r hb.r⟩
end
section
variable{mb:ME}{QE:172}{QA:List D->Hd->Prop}
def N6{F:118}(h:WA m ls hd λds x=>As 0 ds=true/\WF F ds [] λd y=>QE (shD x.length d) (x++y.map (shO x.length))):WE (EN F m) ls hd QE:=by
 obtain⟨ds,x,e,c,d,y,e2,q⟩:=h;exact⟨_,_,by simp only[EN,e,bind_some,c,j8,e2,je],q⟩
def aS{neg:Bool}(h:WE ma ls hd λd x=>WA ml ls x λds y=>∃i v vs,d=.im i/\Er i=some v/\CD ds=some vs/\QE (.im (.bl (if neg then !inV v vs else inV v vs))) y):WE (LJ neg ma ml) ls hd QE:=by
 obtain⟨d,x,e1,ds,y,e2,i,v,vs,rfl,e3,e4,q⟩:=h;exact⟨_,_,by simp only[LJ,e1,bind_some,e2,e3,e4,je],q⟩
end
end L2
namespace L2
open PySem PySem.Spec PyProof.Rows
noncomputable abbrev blD(bs:List Bool):List D:=bs.map λb=>D.im (.bl b)
inductive Ty where
 |int|bool|str|tuple|list
 deriving DecidableEq
noncomputable def Ty.nm:Ty->String
 |.int=>"int" | .bool=>"bool" | .str=>"str" | .tuple=>"tuple" | .list=>"list"
def IsT(K:Frag)(T:Ty)(H:Hp)(v:V)(b:Bool):Prop:=
 (v=.non/\b=false)∨(∃x,v=.bl x/\b=decide (T=.int∨T=.bool))∨(∃i,v=.int i/\b=decide (T=.int))∨(∃x,v=.str x/\b=decide (T=.str)) ∨
 (∃a xs,v=.ref a/\SqL K H a xs/\b=decide (T=.list))∨∃a xs,v=.ref a/\SqT K H a xs/\b=decide (T=.tuple)
section
variable{E:78}{Q:78}
def dh{T:Ty}{b:Bool}(I:76)(r:RelV v u)(h:IsT X.K T H v b)(q:∀tk,Q (.bool b) { s with toks:=tk }):wpAny 70 A (call (.builtin "isinstance") [u,.type T.nm]) Q E s:=by
 have q0:=q s.toks;have q1:=q (s.toks+1);rcases h with⟨rfl,rfl⟩|⟨x,rfl,rfl⟩|⟨i,rfl,rfl⟩|⟨x,rfl,rfl⟩|⟨a,xs,rfl,hl,rfl⟩|⟨a,xs,rfl,ht,rfl⟩
 .cases(show u=Value.none from r);cases T
  .exact IsiPair.NoneType_int q1
  .exact IsiPair.NoneType_bool q1
  .exact IsiPair.NoneType_str q1
  .exact IsiPair.NoneType_tuple q1
  .exact IsiPair.NoneType_list q1
 .cases(show u=Value.bool x from r);cases T
  .first|exact IsiPair.bool_int q0|exact IsiPair.bool_int q1
  .first|exact IsiPair.bool_bool q0|exact IsiPair.bool_bool q1
  .exact IsiPair.bool_str q1
  .exact IsiPair.bool_tuple q1
  .exact IsiPair.bool_list q1
 .obtain⟨t,rfl⟩:=(show ∃t,u=Value.int i t from r)
  cases T
  .exact IsiPair.int_int q0
  .exact IsiPair.int_bool q1
  .exact IsiPair.int_str q1
  .exact IsiPair.int_tuple q1
  .exact IsiPair.int_list q1
 .obtain⟨t,rfl⟩:=(show ∃t,u=Value.str x t from r)
  cases T
  .exact IsiPair.str_int q1
  .exact IsiPair.str_bool q1
  .exact IsiPair.str_str q0
  .exact IsiPair.str_tuple q1
  .exact IsiPair.str_list q1
 .cases(show u=Value.ref a from r);obtain⟨its,_,⟨o,n,e,c,_,_⟩,_⟩:=I.list hl;cases T
  .exact IsiPair.list_int e c q1
  .exact IsiPair.list_bool e c q1
  .exact IsiPair.list_str e c q1
  .exact IsiPair.list_tuple e c q1
  .exact IsiPair.list_list e c q0
 .cases(show u=Value.ref a from r);obtain⟨its,_,⟨o,e,c,_⟩,_⟩:=I.tuple ht;cases T
  .exact IsiPair.tuple_int e c q1
  .exact IsiPair.tuple_bool e c q1
  .exact IsiPair.tuple_str e c q1
  .exact IsiPair.tuple_tuple e c q0
  .exact IsiPair.tuple_list e c q1
end
noncomputable def Ug(K:Frag)(T:Ty)(te:TE):TE:=λσ H Q=>te σ H λv H1=>∃b,IsT K T H1 v b/\Q (.bl b) H1
def cq(K:Frag){X:Cx}(T:Ty)(hm:X.mg "isinstance"=none)(hmT:X.mg x=none)(hvT:bootBuiltins x=some (.type T.nm))(he:PE X e te)
 (hv:bootBuiltins "isinstance"=some (.builtin "isinstance")) (hK:X.K=K) (hg:Gl X "isinstance") (hgT:Gl X x) (hnT:x≠"__name__") (hdT:141=false)
 (hs:starEach [e,.Name x px] X.env=[109,(false,eval (.Name x px) X.env)]) (hs2:starEach [.Name x px] X.env=[(false,eval (.Name x px) X.env)]):PE X (.Call (.Name "isinstance" p) [e,.Name x px] [] pos) (Ug K T te):=by
 subst hK;intro pins s σ H Q I h;refine k4 (FS I hg hm hv ?_);have go:wpAny 70 X.A (spliced (backTo pos (starEach [e,.Name x px] X.env))) (λvs s₁=>wpAny 70 X.A (call (.builtin "isinstance") vs) 191 X.xe s₁) X.xe s:=by
  rw[hs];show wpAny _ _ (spliced (109::backTo pos [(false,eval (.Name x px) X.env)])) _ _ s;refine Calls.spliced_cons (thn (he pins s σ H _ I h) λu s1 ⟨v,H1,I1,r1,b,ib,q1⟩=>?_);show wpAny _ _ (spliced ((false,eval (.Name x px) X.env)::backTo pos [])) _ _ s1;refine Calls.spliced_cons (FS I1 hgT hmT hvT ?_ hnT hdT);refine Calls.spliced_nil ?_;exact dh I1 r1 ib λtk=>⟨.bl b,H1,I1.tok _,rfl,q1⟩
 exact PyProof.Rows.callWith_builtin1 go (by rw[hs,hs2]) (by rw[hs2];rfl)
section
variable{K:Frag}
noncomputable def isD(T:Ty)(hd:Hd):D->Option Bool
 |.im .non=>some false
 |.im (.bl _)=>some (decide (T=.int∨T=.bool))
 |.im (.int _)=>some (decide (T=.int))
 |.im (.str _)=>some (decide (T=.str))
 |.im (.tup _)=>some (decide (T=.tuple))
 |.tm _=>some (decide (T=.tuple))
 |.ro _=>some (decide (T=.list))
 |.op _ _ _=>none
 |.fv _ _=>none
 |.mu n=>match hd[n]? with
  |some (.lst _)=>some (decide (T=.list))
  |_=>none
def di{T:Ty}{b:Bool}(hR:RH K ρ H hd)(h:RD K ρ H d v)(e:isD T hd d=some b):IsT K T H v b:=by
 cases d with
 |im i=>
  cases i with
  |non=>simp only[RD,RI]at h;subst h;simp only[isD,Option.some.injEq]at e;exact .inl ⟨rfl,e.symm⟩
  |bl c=>simp only[RD,RI]at h;subst h;simp only[isD,Option.some.injEq]at e;exact .inr (.inl ⟨c,rfl,e.symm⟩)
  |int c=>simp only[RD,RI]at h;subst h;simp only[isD,Option.some.injEq]at e;exact .inr (.inr (.inl ⟨c,rfl,e.symm⟩))
  |str c=>simp only[RD,RI]at h;subst h;simp only[isD,Option.some.injEq]at e;exact .inr (.inr (.inr (.inl ⟨c,rfl,e.symm⟩)))
  |tup is=>
   obtain⟨a,xs,rfl,q,r⟩:=h.tup (ds:=is.map .im) rfl;simp only[isD,Option.some.injEq]at e;exact .inr (.inr (.inr (.inr (.inr ⟨a,xs,rfl,q,e.symm⟩))))
 |tm ds=>
  obtain⟨a,xs,rfl,q,r⟩:=h.tup (ds:=ds) rfl;simp only[isD,Option.some.injEq]at e;exact .inr (.inr (.inr (.inr (.inr ⟨a,xs,rfl,q,e.symm⟩))))
 |ro ns=>
  obtain⟨a,xs,rfl,q,r⟩:=h.lst hR (hd:=hd) (ds:=ns.map λn=>.im (.int n)) rfl;simp only[isD,Option.some.injEq]at e;exact .inr (.inr (.inr (.inr (.inl ⟨a,xs,rfl,q,e.symm⟩))))
 |op _ _ _=>simp[isD]at e
 |fv _ _=>simp[isD]at e
 |mu n=>
  simp only[isD]at e;split at e
  .next q=>
   cases e;simp only[RD]at h;obtain⟨a,hn,rfl⟩:=h;obtain⟨xs,e1,e2⟩:=hR.lst hn q;exact .inr (.inr (.inr (.inr (.inl ⟨a,xs,rfl,SqL.of e1,rfl⟩))))
  .cases e
noncomputable def EY(T:Ty)(ma:ME):ME:=λls hd=>(186).bind λp=>(isD T p.2 p.1).map λb=>(.im (.bl b),p.2)
def bI{T:Ty}(h:RE K te me):RE K (Ug K T te) (EY T me):=by
 and_intros;obtain⟨⟨d1,h1⟩,e1,hm⟩:=ij hm;obtain⟨b,e2,e3⟩:=ik hm;cases e3;exact h ρ σ H hd ls _ d1 _ hR hL e1 λρ1 H1 v x1 R1 r1=>⟨b,di R1 r1 e2,hQ ρ1 H1 _ x1 R1 133⟩
def Km:∀T:Ty,bootBuiltins T.nm=some (.type T.nm)
 |.int=>by decide +kernel
 |.bool=>by decide +kernel
 |.str=>by decide +kernel
 |.tuple=>by decide +kernel
 |.list=>by decide +kernel
def Nq(K:Frag){X:Cx}(T:Ty){p px pos:Pos}(hm:X.mg "isinstance"=none)(hmT:X.mg x=none)(he:QE K X e te me)(hx:bootBuiltins x=some (.type T.nm):=by first|exact Km .int|exact Km .bool|exact Km .str|exact Km .tuple|exact Km .list)(hK:X.K=K:=by rfl)(hg:Gl X "isinstance":=by rfl)(hgT:Gl X x:=by rfl)
 (hnT:x≠"__name__":=by decide) (hdT:141=false:=by decide)
 (hs:starEach [e,.Name x px] X.env=[109,(false,eval (.Name x px) X.env)]:=by rfl) (hs2:starEach [.Name x px] X.env=[(false,eval (.Name x px) X.env)]:=by rfl):QE K X (.Call (.Name "isinstance" p) [e,.Name x px] [] pos) (Ug K T te) (EY T me):=
 ⟨cq K T hm hmT hx he.p Mn hK hg hgT hnT hdT hs hs2,bI he.r⟩
noncomputable def Gc(mo mi me:ME)(f:Int->Int->Int):MS:=λls hd=>(mo ls hd).bind λp=>(mi ls p.2).bind λq=>match p.1,q.1 with
 |.mu n,.im (.int i)=>match q.2[n]? with
  |some (.lst ds)=>(ixN 97 i).bind λj=>match ds[j]? with
   |some (.im (.int x))=>(me ls q.2).bind λr=>match r.1,r.2[n]? with
    |.im (.int y),some (.lst ds')=>if ds'.length=97 then some (.nx ls,r.2.set n (.lst (ds'.set j (.im (.int (f x y))))))else none
    |_,_=>none
   |_=>none
  |_=>none
 |_,_=>none
theorem RDs.ints:∀{ns:88} {xs:155},RDs K ρ H (ns.map λx=>D.im (.int x)) xs->xs=ns.map V.int
 |[],xs,h=>by simpa only[RDs,jr]using h
 |n::ns,xs,h=>by
  simp only[j3,RDs,RD,RI]at h;obtain⟨x,r,rfl,rfl,t⟩:=h;rw[RDs.ints t];rfl
def TD(K:Frag){X:Cx}(hK:X.K=K:=by rfl):eR X (JI K):=by
 subst hK;intro pins s σ H o i ov iv Q I ro ri h;obtain⟨p,xs,k,z,rfl,rfl,hq,he,q⟩:=h;cases ro;obtain⟨t,rfl⟩:=ri;obtain⟨its,r,pl,hz⟩:=I.list hq;obtain⟨j,h1,h2,h3,h4,h5⟩:=Li he;obtain⟨w,ew,rw'⟩:=r.get h2;have hl:=r.length;have hn:=FR;have fin:EP X pins σ Q w s:=⟨z,H,I,rw',q⟩
 by_cases h0:0<=k
 .have hj:k.toNat=j:=by
   rw[seqIndex_of h0 h5]at h1;exact 102 h1
  exact wpAny_getItem_list pl.isList h0 68 (by rw[hj];simpa using ew) fin
 .have hj:(k+(its.toArray.size:Int)).toNat=j:=by
   rw[seqIndex_neg 68 h4]at h1;rw[iy,<- hl];exact 102 h1
  exact wpAny_getItem_list_neg pl.isList 68 (by rw[iy]<;>omega) 68 (by rw[hj];simpa using ew) fin
def Zz(x:Ext ρ H ρ' H'){n:Nat}(h:ρ[n]?=some a):ρ'[n]?=some a:=by
 obtain⟨r,rfl,_⟩:=x.pre;rw[List.getElem?_append_left (List.getElem?_eq_some_iff.mp h).1];exact h
def YE{f:Int->Int->Int}(ho:RE K to mo)(hi:RE K ti mi)(he:RE K te me):RS K (QU to ti te (JI K) (ipI f) K6) (Gc mo mi me f):=by
 intro ρ σ H hd0 ls E fl hd' hR hL hm hQ;obtain⟨⟨d1,h1⟩,e1,hm⟩:=ij hm;obtain⟨⟨d2,h2⟩,e2,hm⟩:=ij hm;dsimp only at hm;split at hm
 .split at hm
  .next ds q=>
   obtain⟨j,e4,hm⟩:=ij hm;split at hm
   .next x ex=>
    obtain⟨⟨d3,h3⟩,e3,hm⟩:=ij hm;dsimp only at hm;split at hm
    .next y ds' q'=>
     split at hm
     .next el=>
      cases hm;refine ho ρ σ H hd0 ls _ _ h1 hR hL e1 λρ1 H1 v1 x1 R1 r1=>?_;refine hi ρ1 σ H1 h1 ls _ _ _ R1 138 e2 λρ2 H2 v2 x2 R2 r2=>?_;have r1':=r1.ext R1 x2;simp only[RD]at r1';obtain⟨a,hn,rfl⟩:=r1';simp only[RD,RI]at r2;subst r2;obtain⟨xs,l1,l2⟩:=R2.lst hn q;obtain⟨w,ew,rw'⟩:=l2.get ex;simp only[RD,RI]at rw';subst rw';refine⟨a,xs,_,.int x,rfl,rfl,SqL.of l1,?_,?_⟩
      .unfold atI;rw[l2.len];rw[e4];exact ew
      refine he ρ2 σ H2 h2 ls _ _ h3 R2 (hL.ext hR 89) e3 λρ3 H3 v3 x3 R3 r3=>?_;simp only[RD,RI]at r3;subst r3;refine⟨x,y,rfl,rfl,?_⟩;have hn3:=Zz x3 hn;obtain⟨xs3,l3,l4⟩:=R3.lst hn3 q';obtain⟨R4,x4⟩:=R3.put hn3 (o:=.lst _) (ho:=.lst (xs3.set j (.int (f x y)))) ⟨_,rfl,l4.set j (d:=.im (.int (f x y))) 133⟩;have x13:=(89).trans R2 x3;exact⟨a,xs3,_,j,rfl,rfl,l3,by rw[l4.len,el];exact e4,hQ ρ3 _ (x13.trans R3 x4) R4 σ ((hL.ext hR x13).ext R3 x4)⟩
     .cases hm
    .cases hm
   .cases hm
  .cases hm
 .cases hm
def Yr(K:Frag){f:Int->Int->Int}{tpos pos:Pos}(ho:QE K X o to mo)(hi:QE K X i ti mi)(he:QE K X e te me)(hp:PIp X op (ipI f))(hK:X.K=K:=by rfl)
 (ha:∀ov iv new,augStore i ov iv new=(do holding [new,ov,iv] (setItem ov iv new);release [new,ov,iv] [];pure .next):=by intros;rfl):QS K X (.AugAssign (.Subscript o i tpos) op e pos) (QU to ti te (JI K) (ipI f) K6) (Gc mo mi me f):=
 ⟨ZF ho.p hi.p (TD K hK) he.p hp NU ha,YE ho.r hi.r he.r⟩
end
section
variable{mo mi me:ME}{QE:172}{QS:Fl->Hd->Prop}
def Jo{T:Ty}(h:WE ma ls hd λd x=>∃b,isD T x d=some b/\QE (.im (.bl b)) x):WE (EY T ma) ls hd QE:=by
 obtain⟨d,x,e,b,e2,q⟩:=h;exact⟨_,_,by simp only[EY,e,bind_some,e2,je],q⟩
end
def PX:V->List V->Hp->VK->Prop:=λx vs H Q=>∃(l:Addr) (xs:155) (i:Int) (k:Nat) (y:V),x=.ref l/\vs=[.int i,y]/\i=(k:Int)/\H l=some 158/\k<=96/\96<sizeLine/\Q .non (upd H l (.lst (xs.take k++y::xs.drop k)))
def TR:MtM X "list.insert" PX:=by
 intro pins s σ H x vs v us Q I rx rv h;obtain⟨l,xs,i,k,y,rfl,rfl,hi,hH,hk,hz,q⟩:=h;cases rx;obtain⟨u,w,rfl,ru,rw'⟩:=Mo rv;obtain⟨t,rfl⟩:=ru;obtain⟨z,its,n,r,hl,e⟩:=I.lstM hH;have h1:129<=sizeLine:=by rw[iy,<- hl];exact z
 have hkl:k<=its.length:=by rw[<- hl];exact hk
 have hf:¬ (!Builtin.List.listFitsIndex i)=true:=by
  have h3:=FR;have h4:=Nat.lt_of_le_of_lt hk hz;rw[fitsIndex_both (k:=i) 68 68];decide
 have M:=AutoSeq1.list_insert_list_int_val_1 l 107 n i t w hf;have M:=M h1;refine k6 F.slot_list_insert ⟨_,e,rfl⟩ F.entry_list_insert (F.args_list_insert_3 _ _ _) M ⟨e,?_⟩
 .refine⟨.non,_,I.lset (its':=its.take k++w::its.drop k) hH e ?_ ((r.take k).append (.cons rw' (r.drop k))) ?_,rfl,q⟩
  .show((its.toArray.extract 0 (if i<0 then(i+(its.toArray.size:Int)).toNat else min i.toNat 129)).push w++its.toArray.extract (if i<0 then(i+(its.toArray.size:Int)).toNat else min i.toNat 129))=_;have e1:(if i<0 then(i+(its.toArray.size:Int)).toNat else min i.toNat 129)=k:=by
    rw[ip 68,hi,jl,iy];omega
   rw[e1];apply Array.ext';simp[List.extract_eq_drop_take]
   try exact kx 71
  .rw[jo,jL,ji,length_drop];have:=Nat.succ_le_of_lt hz;rw[Nat.min_eq_left hk];omega
open Classical in
noncomputable def F0:D->List D->Hd->Option 161
 |.mu n,[.im (.int i),y],hd=>match hd[n]? with
  |some (.lst ds)=>if 0<=i/\i<=97/\D5 97 then some (.im .non,hd.set n (.lst (ds.take i.toNat++y::ds.drop i.toNat)))else none
  |_=>none
 |_,_,_=>none
section
variable{K:Frag}{ρ':111}{H':Hp}
theorem RDs.takeD:∀{ds:137} {xs:155} (k:Nat),RDs K ρ H ds xs->RDs K ρ H (ds.take k) (xs.take k)
 |[],xs,k,h=>by simp only[RDs]at h;subst h;simp[RDs]
 |d::ds,xs,0,h=>by simp[RDs]
 |d::ds,xs,k+1,h=>by
  simp only[RDs]at h;obtain⟨x,r,rfl,h1,h2⟩:=h;simp only[List.take_succ_cons,RDs];exact⟨x,_,rfl,h1,RDs.takeD k h2⟩
theorem RDs.dropD:∀{ds:137} {xs:155} (k:Nat),RDs K ρ H ds xs->RDs K ρ H (ds.drop k) (xs.drop k)
 |[],xs,k,h=>by simp only[RDs]at h;subst h;simp[RDs]
 |d::ds,xs,0,h=>by simpa using h
 |d::ds,xs,k+1,h=>by
  simp only[RDs]at h;obtain⟨x,r,rfl,h1,h2⟩:=h;simp only[List.drop_succ_cons];exact RDs.dropD k h2
def Sg:RM K PX F0:=by
 intro ρ H hd d v ds vs Q z hd' hR h1 h2 hf hQ;unfold F0 at hf;split at hf
 .next n i y=>
  split at hf
  .next es q=>
   split at hf
   .next c=>
    cases hf;simp only[RD]at h1;obtain⟨a,hn,rfl⟩:=h1;simp only[RDs,RD,RI]at h2;obtain⟨x,r,rfl,rfl,y',r',rfl,hy,rfl⟩:=h2;obtain⟨xs,f1,f2⟩:=hR.lst hn q;have l:=f2.len;obtain⟨R2,x2⟩:=hR.put hn (o:=.lst (es.take i.toNat++y::es.drop i.toNat)) (ho:=.lst (xs.take i.toNat++y'::xs.drop i.toNat)) ⟨_,rfl,(RDs.takeD _ f2).app (.cons hy (RDs.dropD _ f2))⟩;exact⟨a,xs,i,i.toNat,y',rfl,rfl,by omega,f1,by omega,by rw[l];exact c.2.2,hQ ρ _ _ x2 R2 133⟩
   .cases hf
  .cases hf
 .cases hf
end
def S6{k:Nat}{i:Int}{QE:172}(e1:hd[k]?=some (.lst ds))(c1:0<=i)(c2:i<=97)(c3:D5 97)(q:QE (.im .non) (hd.set k (.lst (ds.take i.toNat++y::ds.drop i.toNat)))):WP (F0 (.mu k) [.im 135,y] hd) QE:=by
 refine⟨_,_,?_,q⟩;simp only[F0,e1,c1,c2,c3,and_self,j8]
section
variable{E:78}{s:120}
def Iw{vs:83}{Q:List Value->Shared->Prop}(hl:IsTup s.heap l 86)
 (h:Q vs { s with heap:=(s.heap.push (seqObj "list" #[] 0)).update s.heap.objs.size (Obj.mapSeq (·++vs.toArray)) }) (hsz:112<=sizeLine:=by size_fits):
 wpAny 110 A (collect (.ref l)) Q E s:=by
 obtain⟨o,ho,hc,n,hd⟩:=id hl;unfold collect;refine iq (wpAny_runValue (kh entry_proto_collect' ?_));show wpAny _ _ (do again (.builtin "list.__iadd__" ⟨[<- newList [],.ref l],[]⟩)) _ _ s;refine iq (ku (iu ⟨Code.quiet_builtin _ (by decide +kernel),kh entry_list_iadd' ?_⟩));show wpAny _ _ (Builtin.List.listExtendWith (.ref 65) (.ref l) (.ref 65)) _ _ { s with heap:=s.heap.push (seqObj "list" #[] 0) };unfold Builtin.List.listExtendWith;have ho':(s.heap.push (seqObj "list" #[] 0)).get? l=some o:=72 _ ho;refine iq (wpAny_typeOf (T:="tuple") ⟨o,ho',hc⟩ ?_);have ht:(Value.type "tuple"==Value.type "tuple")=true:=by rfl
 rw[il (by rw[ht];simp)];refine iq (listItems_at ho' hd ?_);refine iq (listItems_at (xs:=#[]) (n:=0) (87 _ rfl) rfl ?_);rw[ip 71];refine iq (ki (xs:=#[]) (n:=0) (87 _ rfl) rfl ?_ (jw _) (by show(#[]++86).size<=sizeLine+1;simp only[Array.size_append,iy,jG];omega));refine iu ?_;show wpAny 110 A (do
  let o <- load 65
  match o.data with
  |.seq xs _=>pure xs.toList
  | _=>unsupported "internal:collect") Q E { s with heap:=(s.heap.push (seqObj "list" #[] 0)).update s.heap.objs.size (Obj.mapSeq (·++vs.toArray)) }
 refine iq (wpAny_load (kB (87 _ rfl) _) ?_);show wpAny _ _ (pure ((#[]:Array Value)++86).toList) Q E _;rw[show((#[]:Array Value)++86).toList=vs by simp];exact iu h
def NP{vs:83}{Q:78}(hl:IsTup s.heap l 86)(hI:IntsAre vs ns)(h64:112<64)
 (h:∀(out:Array Value) (ns':88),IntsAre out.toList ns'->ns'.Perm ns->ns'.Pairwise (·<=·)->Q (.ref (65+1)) { s with heap:=sortedAll s.heap vs out }):
 wpAny 110 A (call (.builtin "sorted") [.ref l]) Q E s:=by
 refine Calls.call_function_entry kind_sorted plain_sorted entry_sorted (args_sorted1 _) ?_;unfold Builtin.«sorted»;refine iq (m:=checkCount "sorted" 1 1 _) (iu ?_);refine iq (Iw hl ?_);refine iq (ku ?_);have hsz:((s.heap.push (seqObj "list" #[] 0)).update 65 (142 (·++86))).objs.size=65+1:=by
  rw[Heap.size_update,size_push']
 have hoL:(((s.heap.push (seqObj "list" #[] 0)).update 65 (142 (·++86))).push (seqObj "list" 86 0)).get? (65+1)=some (seqObj "list" 86 0):=by
  rw[<- hsz];exact 87 _ rfl
 show wpAny _ _ _ _ _ { s with heap:=((s.heap.push (seqObj "list" #[] 0)).update s.heap.objs.size (Obj.mapSeq (·++vs.toArray))).push (seqObj "list" vs.toArray 0) };rw[hsz];refine iq (jy (wpAny_call_entry slot_list_sort ⟨_,hoL,rfl⟩ entry_list_sort (list_sort_tree hoL hI h64 λout ns' a1 a2 a3=>⟨_,rfl,?_⟩) (args_list_sort _)));exact iu ⟨_,rfl,h out ns' a1 a2 a3⟩
end
section
variable(K:Frag){X:Cx}
def JG:List V->Hp->VK->Prop:=λxs H Q=>∃(a:Addr) (ns:88),xs=[.ref a]/\SqT K H a 157/\169<64/\∀(p:Addr) (ns':88),H p=none->ns'.Perm ns->ns'.Pairwise (·<=·)->Q (.ref p) (upd H p (.lst (ns'.map V.int)))
def OZ(hK:X.K=K:=by rfl):CallR X (.builtin "sorted") (JG K):=by
 subst hK;intro pins s σ H xs us Q I r h;obtain⟨a,ns,rfl,hq,h64,q⟩:=h;obtain⟨u,rfl,ru⟩:=BL r;cases ru;obtain⟨its,rv,p,hz⟩:=I.tuple hq;have hlen:=rv.length;rw[ja]at hlen;refine NP p (Dj rv) 68 λout ns' a1 a2 a3=>?_;obtain⟨e,he⟩:=sortedAll_at s.heap its out;have hl':ns'.length=ns.length:=a2.length_eq;refine⟨.ref (65+1),_,I.laid (a:=65+1) (o:=.lst (ns'.map V.int)) (t':=s.toks) (λb o hb=>sortedAll_old hb) (jR _) ⟨?_,out.toList,e,Ku a1,he⟩,rfl,q _ _ (I.hok.fresh (jR _)) a2 a3⟩;rw[ja,hl'];exact jF (HQ 68)
end
section
variable{K:Frag}
def Qg(h:RRw K true t m):RN K (tCB (JG K) (BJ t BM)) (Bo m):=by
 and_intros;obtain⟨⟨⟨d1,g1⟩,h1⟩,e1,hm⟩:=ij hm;obtain⟨ns,e2,hm⟩:=ij hm;split at hm
 .next c=>
  cases hm;refine h ρ σ H hd ls _ d1 g1 _ hR hL e1 λρ1 H1 a x1 R1 G1 S1=>?_;obtain⟨xs,q,r⟩:=S1 ρ1 H1 _ .refl R1 G1;have e3:d1=ns.map λi=>.im 135:=Bt e2;rw[e3]at r;have:=E4 r;subst this;refine⟨a,ns,rfl,q,c,λp ns' hp pm pw=>?_⟩;have:ns'=AY ns:=D3 (pm.trans (Bw ns).symm) pw (Cp ns);subst this;obtain⟨R2,x2⟩:=R1.hid (ho:=.lst ((AY ns).map V.int)) hp;exact hQ ρ1 _ p _ 89 R2 (x1.none hR hp R1) (R1.out hp) AH E8
 .cases hm
def Qs(K:Frag){X:Cx}(hm:X.mg "sorted"=none)(ha:QR K true X e te mi)(hg:Gl X "sorted":=by rfl)(he:starEach [e] X.env=[109]:=by rfl)(hK:X.K=K:=by rfl):QN K X (.Call (.Name "sorted" p) [e] [] pos) (tCB (JG K) (BJ te BM)) (Bo mi):=
 ⟨E6 (OZ K hK) hg hm Ft (Bm ha.p CC he) 95 95 he rfl,Qg ha.r⟩
end
section
variable{K:Frag}{ρ':111}{H':Hp}
open Classical in
noncomputable abbrev WQ:D->D->Hd->Option 161:=fI λi j=>if IM i j then some (.int (i*2^j.toNat))else none
def bP:RB K (rI S5 λi j=>.int (i*2^j.toNat)) WQ:=L9 λi j z h=>by
 split at h
 .next q=>cases h;exact⟨q,λ_=>by simp[RI]⟩
 .cases h
noncomputable abbrev OK:D->D->Hd->Option 161:=fI λi j=>if 0<=j then some (.int (i/2^j.toNat))else none
def bO:RB K (rI (λ_ j=>0<=j) λi j=>.int (i/2^j.toNat)) OK:=L9 λi j z h=>by
 split at h
 .next q=>cases h;exact⟨q,λ_=>by simp[RI]⟩
 .cases h
noncomputable abbrev OL:D->D->Hd->Option 161:=fI λi j=>some (.int (Builtin.bitAnd i j))
def bV:RB K (rI0 λi j=>.int (Builtin.bitAnd i j)) OL:=GY λ_ _ _=>by simp[RI]
noncomputable def ON:List D->Hd->Option 161
 |[.im (.int i)],hd=>some (.im 135,hd)
 |[.im (.bl b)],hd=>some (.im (.int (if b then 1 else 0)),hd)
 |_,_=>none
def bB:RF K (λxs H Q=>(∃i,xs=[.int i]/\Q 135 H)∨∃k,xs=[.bl k]/\Q (.int (if k then 1 else 0)) H) ON:=by
 intro ρ H hd ds vs Q z hd' hR h1 hf hQ;unfold ON at hf;split at hf
 .cases hf;simp only[RDs,RD,RI]at h1;obtain⟨x,r,rfl,rfl,rfl⟩:=h1;exact .inl ⟨_,rfl,hQ ρ H _ .refl hR 133⟩
 .cases hf;simp only[RDs,RD,RI]at h1;obtain⟨x,r,rfl,rfl,rfl⟩:=h1;exact .inr ⟨_,rfl,hQ ρ H _ .refl hR 133⟩
 .cases hf
end
section
variable{QE:172}
def aM{i j:Int}(c:0<=j)(q:QE (.im (.int (i/2^j.toNat))) hd):WP (OK (.im 135) (.im (.int j)) hd) QE:=⟨_,_,by simp[c],q⟩
def aQ{i j:Int}(q:QE (.im (.int (Builtin.bitAnd i j))) hd):WP (OL (.im 135) (.im (.int j)) hd) QE:=⟨_,_,by simp,q⟩
end
end L2
namespace L2
open PySem PySem.Spec PyProof.Rows PySem.W
inductive KeysOk(h:Heap):List Value->List Int->Prop
 |kI {ks:83} {kz:88}:IntsAre ks kz->KeysOk h ks kz
 |kP {ks:83} {ps:185}:181=126->(∀(i:Nat) (v:168) (p:Int×Int),ks[i]?=some v->ps[i]?=some p->PairAt h v p)->(∀p∈ps,pok p)->KeysOk h ks (ps.map B2)
def KeysOk.len(K:KeysOk h ks kz):kz.length=ks.length:=by
 cases K with
 |kI i=>have:=i.length;omega
 |kP hl _ _=>simp[hl]
theorem Gj:∀{ks:83} {kz:88} {i:Nat},IntsAre ks kz->i<181->∃t,ks.getD i .none=.int (kz.getD i 0) t
 |_,_,0,.cons ..,_=>⟨_,rfl⟩
 |_,_,i+1,.cons _ _ h,hi=>by
  obtain⟨t,e⟩:=Gj (i:=i) h (by simpa using hi);exact⟨t,by simpa using e⟩
section
variable{E:78}{s:120}
def WC(K:KeysOk s.heap ks kz)(h2:2<=181){Q:SortKind->Shared->Prop}
 (h:∀κ,(∀(i j:Nat) (C:Bool->Shared->Prop),i<181->j<181->C (decide (kz.getD i 0<kz.getD j 0)) s->wpAny 110 A (keyLt' κ (ks.getD i .none) (ks.getD j .none)) C (λ_ _=>False) s)->Q κ s):
 wpAny 110 A (keyKind' ks.toArray) Q E s:=by
 cases K with
 |kI hk=>
  rw[ksk_kind (kz:=kz) (by simpa using hk) (by simpa using h2)];refine iu (h _ λi j C hi hj hC=>?_);obtain⟨t,e1⟩:=Gj hk hi;obtain⟨u,e2⟩:=Gj hk hj;rw[e1,e2];exact kat_lt_int hC
 |@kP ps hl hp hok=>
  obtain⟨fs,t1,t2,t3⟩:=Kv hl hp;have tT:∀f∈fs,Looks 110 s.heap (typeOf f) (Value.type "int"):=λf hf=>by
   obtain⟨i,t,rfl⟩:=t3 f hf;exact .of_pure rfl
  refine kat_kind t1 68 tT rfl (h _ λi j C hi hj hC=>?_);have pi:ps[i]?=some (ps.getD i (0,0)):=by simp[show i<ps.length by omega]
  have pj:ps[j]?=some (ps.getD j (0,0)):=by simp[show j<ps.length by omega]
  have vi:ks[i]?=some (ks.getD i Value.none):=by simp[hi]
  have vj:ks[j]?=some (ks.getD j Value.none):=by simp[hj]
  have ei:(ps.map B2).getD i 0=B2 (ps.getD i (0,0)):=by simp[show i<ps.length by omega]
  have ej:(ps.map B2).getD j 0=B2 (ps.getD j (0,0)):=by simp[show j<ps.length by omega]
  rw[ei,ej]at hC;exact Pj (hp i _ _ vi pi) (hp j _ _ vj pj) (hok _ (jf pi)) (hok _ (jf pj)) hC
def Zp{vs:83}{kz:88}(hl:kz.length=112)(pa:PAr 112 p)(hs:STo (λi=>kz.getD i 0) p 112):KskOut false kz vs (p.toList.map λi=>vs.getD i Value.none):=by
 have sz:=pa.size;refine⟨p.toList.map λi=>(kz.getD i 0,vs.getD i Value.none),?_,by rw[j5];rfl,?_⟩
 .have e:kz.zip vs=(69 112).map λi=>(kz.getD i 0,vs.getD i Value.none):=by
   refine ext_getElem? λi=>?_;by_cases hi:i<112
   .have hi2:i<kz.length:=by omega
    rw[(List.getElem?_zip_eq_some (z:=(kz[i],vs[i]))).mpr ⟨by simp[hi2],by simp[hi]⟩];simp[hi,hi2]
   .rw[List.getElem?_eq_none 82,List.getElem?_eq_none 82]
  rw[e];have:=Array.perm_iff_toList_perm.mp pa;simpa using this.map _
 .rw[jQ,List.pairwise_iff_getElem];intro i j hi hj hij;simp only[Array.length_toList]at hi hj;have:=hs i j 68 68;unfold kv at this;simpa [Array.getD,hi,hj]using this
def Zq{e e1:Nat}{ks vs:83}{P:PySem.Fin->Shared->Prop}(nk:s.heap.get? kS=some (seqObj "list" ks.toArray e))(na:s.heap.get? a=some (seqObj "list" #[] e1))(hka:kS≠a)(K:KeysOk s.heap ks kz)(hl:181=112)(h64:112<64)
 (h:∀out:List Value,KskOut false kz vs out->P (.done (.ret .none)) { s with heap:=(s.heap.update kS (Obj.mapSeq λ_=>#[])).update a (Obj.mapSeq λ_=>out.toArray) }):
 wpAny 110 A (ksk_end a false 86 e1 (.ref kS) ks.toArray) P E s:=by
 have hz:kz.length=vs.length:=by have:=K.len;omega
 have s1:=Heap.SameBut.update s.heap kS (142 λ_=>(#[]:Array Value));have na1:(s.heap.update kS (142 λ_=>(#[]:Array Value))).get? a=some (seqObj "list" #[] e1):=(s1.2 a hka.symm).trans na;have tail:∀(st:SortSt) (out:83),(arrOf st).map (·.2)=out.toArray->out.length=112->failedOf st=none->KskOut false kz vs out->wpAny 110 A (ksk_tail a false e1 (.ref kS) st) P E s:=by
  intro st out ho hlo hf so;unfold ksk_tail;dsimp only;refine iq (ki nk rfl ?_ (by simp[jt];omega) (jw _));refine iq (wpAny_letGo ?_);refine iq (seqEpoch_at na1 rfl ?_);simp only[Bool.false_eq_true,jj];rw[ho];refine iq (ki na1 rfl ?_ (jw _) (by rw[iy,jt];omega));rw[hf];simp only[bne_self_eq_false,Bool.false_eq_true,jj];exact iu (h out so)
 unfold ksk_end;simp only[Bool.false_eq_true,jj];by_cases h2:vs.toArray.size<2
 .rw[il h2,il h2];refine iq (iu ?_);rw[StateT.run_pure];refine iq (iu ?_);dsimp only;refine tail _ vs ?_ rfl rfl ⟨kz.zip vs,.refl _,?_,?_⟩
  .show(ks.toArray.zip 86).map (·.2)=86;apply Array.toList_inj.mp;simp only[Array.toList_map,Array.toList_zip];exact map_snd_zip 68
  .exact(map_snd_zip 68).symm
  .have hzl:(kz.zip vs).length<2:=by simp at h2 ⊢;omega
   cases hh:kz.zip vs with
   |nil=>exact .nil
   |cons z r=>
    cases r with
    |nil=>exact List.pairwise_singleton _ _
    |cons y t=>rw[hh]at hzl;exact absurd hzl 71
 .rw[ip h2,ip h2];have h2':2<=vs.length:=by simp at h2;omega
  refine iq (WC K 68 λκ cmp=>?_);have hsz:(ks.toArray.zip 86).size=vs.length:=by simp[hl]
  have it:∀i,i<112->kas_item (ks.toArray.zip 86) i=(ks.getD i .none,vs.getD i .none):=λi hi=>by
   unfold kas_item;have h1:i<ks.length:=by omega
   have h3:i<(ks.toArray.zip 86).size:=by omega
   have e:(ks.toArray.zip 86).getD i (Value.none,Value.none)=(ks.toArray.zip 86)[i]:=by simp only[Array.getD,h3,dite_true];rfl
   have e2:(ks.toArray.zip 86)[i]=(ks[i],vs[i]):=by rw[Array.getElem_zip];simp
   rw[e,e2];simp[h1,hi]
  have est:SortSt.mk' κ (ks.toArray.zip 86) #[] 7 none=kas_st κ (ks.toArray.zip 86) (List.toArray (69 112)):=by
   unfold kas_st;rw[<- hsz,kas_range]
  have ask:(kas_sort 112).kasWp (kas_cmp prog w A κ (ks.toArray.zip 86)) (λp s'=>s'=s/\PAr 112 p/\STo (λi=>kz.getD i 0) p 112) s:=by
   refine PWp.wp (n:=112) (r:=λi=>kz.getD i 0) (P:=λs'=>s'=s) (λi j C s' hi hj e hC=>?_) ((PD 68).mono λp z s' e=>⟨e,z.1,z.2⟩) rfl;subst e;unfold kas_cmp;rw[it i hi,it j hj];exact cmp i j C 68 68 (hC _ rfl)
  have run:=kas_runs (E:=E) (Q:=λ_ st' s'=>∃p:Array Nat,arrOf st'=p.map (kas_item (ks.toArray.zip 86))/\failedOf st'=none/\s'=s/\PAr 112 p/\STo (λi=>kz.getD i 0) p 112) h2' h64 (λp st' s' x1 x2 x3 x4=>⟨p,x2,x3,x4⟩) ask;rw[<- est]at run;refine iq (jh run ?_ λ_ _ e=>e);rintro⟨⟨⟩,st'⟩ s' ⟨p,har,hf,rfl,pa,so⟩;dsimp only;refine tail st' (p.toList.map λi=>vs.getD i Value.none) ?_ ?_ hf (Zp hz pa so)
  .rw[har];apply Array.toList_inj.mp;simp only[Array.toList_map,j5,List.toList_toArray];refine jE λi hi=>?_;have hi':i<vs.length:=by
    have:=(Array.perm_iff_toList_perm.mp pa).mem_iff.mp hi;simpa using this
   exact jm Prod.snd (it i hi')
  .simp[pa.size]
end
def IZ(G:Hp->Prop)(tb:TE)(cap:St):List Int->Hp->(List V->Hp->Prop)->Prop
 |[],H,Q=>Q [] H
 |n::r,H,Q=>G H/\tb (some (.int n)::cap) H λk H1=>IZ G tb cap r H1 λks H2=>Q (k::ks) H2
def Ik(K:Frag)(H:Hp)(ks:155)(kz:88):Prop:=ks=kz.map V.int∨∃ps:List 128,kz=ps.map B2/\(∀p∈ps,pok p)/\181=126/\∀(i:Nat) (k:V) (p:Int×Int),ks[i]?=some k->ps[i]?=some p->∃x,k=.ref x/\SqT K H x [.int p.1,.int p.2]
def Jl(kz ns ms:88):Prop:=∃zs:List 128,zs.Perm (kz.zip ns)/\zs.Pairwise (λa b=>a.1<=b.1)/\ms=zs.map (·.2)
noncomputable def EA:Value->Int
 |.int n _=>n
 |_=>0
theorem OE:∀{vs:83} {ns:88},IntsAre vs ns->vs.map EA=ns
 |_,_,.nil=>rfl
 |_,_,.cons _ _ h=>by rw[j3,OE h];rfl
theorem OF:∀{vs:83} {ns:88},IntsAre vs ns->∀v∈vs,∃t,v=.int (EA v) t
 |_,_,.nil,v,h=>by cases h
 |_,_,.cons _ _ h,v,hv=>by
  rcases mem_cons.mp hv with rfl|hv
  .exact⟨_,rfl⟩
  .exact OF h v hv
theorem Fq:∀{xs:155} {vs:83} {ns:88},xs=ns.map V.int->Vals xs vs->IntsAre vs ns
 |_,_,[],e,h=>by subst e;cases h;exact .nil
 |_,_,n::r,e,h=>by
  subst e;cases h with
  |cons a b=>obtain⟨t,rfl⟩:=a;exact .cons n t (Fq rfl b)
theorem Jp:∀{vs:83},(∀v∈vs,∃t,v=Value.int (EA v) t)->Vals ((vs.map EA).map V.int) vs
 |[],_=>.nil
 |v::r,h=>by
  refine .cons ?_ (Jp λw hw=>h w (iw _ hw));obtain⟨t,e⟩:=h v j4;exact⟨t,e⟩
def fP(hi:IntsAre vs ns)(so:KskOut false kz vs out):Jl kz ns (out.map EA)/\∀v∈out,∃t,v=Value.int (EA v) t:=by
 obtain⟨zs,pm,rfl,pw⟩:=so;refine⟨⟨zs.map λz=>(z.1,EA z.2),?_,?_,by rw[j5,j5];rfl⟩,?_⟩
 .have:=pm.map λz:Int×Value=>(z.1,EA z.2)
  have e:((kz.zip vs).map λz:Int×Value=>(z.1,EA z.2))=kz.zip ns:=by
   rw[<- OE hi,List.zip_map_right];rfl
  rwa [e]at this
 .rw[jQ];exact pw.imp λh=>by simpa using h
 .intro v hv;obtain⟨z,hz,rfl⟩:=mem_map.mp hv;have:=pm.mem_iff.mp hz;exact OF hi _ (of_mem_zip this).2
section
def Inv.adopt(I:76)(f:FpOk X pins H a)(h0:146<=a)(new:ObjOk X.prog X.w (upd H a o) s.heap a o):Inv X pins σ (upd H a o) s:=by
 obtain⟨hn,hL,hfs,_,hc,hp⟩:=f;have nb:∀b u,H b=some u->b≠a:=λb u e=>AM e hn;have n0:∀b o,X.s₀.heap.get? b=some o->b≠a:=λb o e=>jb (jk (84 e) h0);refine⟨I.ok,I.os,I.bare,⟨I.base.keep,I.base.slot,λb o e n hx=>?_,I.base.there,λb xs e=>?_,λb o u e=>?_,λb ps e=>?_⟩,I.loc,I.cell,?_,λx c e=>?_,λp hp'=>?_,λb u e=>?_,I.len⟩
 .rw[upd_ne (n0 b o e)];exact I.base.free b o e n hx
 .have:=I.base.tups b xs e;rw[upd_ne (nb b _ this)];exact this
 .have:=I.base.frzs b o u e;rw[upd_ne (nb b _ this)];exact this
 .obtain⟨m,e1⟩:=I.base.tbls b ps e;exact⟨m,by rw[upd_ne (nb b _ e1)];exact e1⟩
 .rw[upd_ne (λz=>hL z.symm)];exact I.free
 .rw[upd_ne (hc x c e)];exact I.freeC x c e
 .obtain⟨q1,q2,q3⟩:=I.pin p hp';exact⟨q1,by rw[upd_ne (hp p hp')];exact q2,q3⟩
 .by_cases z:b=a
  .subst z;rw[AH]at e;cases e;exact new
  .rw[upd_ne z]at e;exact(I.hok b u e).stay (λ_ _ _ q=>q) (λd q=>by rw[upd_ne (nb d _ q)];exact q) λd xs q=>by rw[upd_ne (nb d _ q)];exact q
def Zo(I:76)(k:Ik X.K H ks kz)(r:Vals ks us):KeysOk s.heap us kz:=by
 rcases k with rfl|⟨ps,rfl,hok,hl,hp⟩
 .exact .kI (Fq rfl r)
 .refine .kP (by rw[<- r.length];exact hl) (λi v p e1 e2=>?_) hok;have hi:i<ks.length:=by rw[hl];exact(75 e2).1
  have ek:ks[i]?=some ks[i]:=by simp[hi]
  obtain⟨x,ex,sq⟩:=hp i _ p ek e2;obtain⟨v',ev,rel⟩:=J9 r ek;rw[e1]at ev;cases ev;rw[ex]at rel;have rel:v=Value.ref x:=rel;subst rel;obtain⟨jts,rj,⟨o,ho,hc,n,hd⟩,_⟩:=I.tuple sq;cases rj with
  |cons r1 t1=>
   cases t1 with
   |cons r2 t2=>
    cases t2;obtain⟨t,rfl⟩:=r1;obtain⟨t',rfl⟩:=r2;exact⟨x,o,t,t',n,rfl,ho,hc,hd⟩
end
section
def Inv.turn1{t':Nat}(I:Inv X ((b,o)::pins) σ H s)(f:FpOk X pins H b)(hs:Heap.SameBut b s.heap h'):Inv X pins σ H { s with heap:=h',toks:=t' }:=by
 have J:Inv X pins σ H s:=I.pins_of λp hp=>I.pin p (j7 _ (iw _ hp));obtain⟨hn,hL,_,h1,h2,h3⟩:=f;exact J.turned (λc u n e=>(hs.2 c n).trans e) hn hL h1 h2 h3
def FpOk.more(f:FpOk X pins H b)(h:c≠b):FpOk X ((c,o)::pins) H b:=by
 obtain⟨a1,a2,a3,a4,a5,a6⟩:=f;refine⟨a1,a2,a3,a4,a5,λp hp=>?_⟩;rcases mem_append.mp hp with q|q
 .exact a6 p (jv _ q)
 .rcases mem_cons.mp q with rfl|q
  .exact h
  .exact a6 p (j7 _ q)
def Inv.repin(I:76)(f:FpOk X pins H b)(e:s.heap.get? b=some o)(hd:∀v,o.data≠.cell v):Inv X ((b,o)::pins) σ H s:=
 I.pins_of λp hp=>by
  rcases mem_cons.mp hp with rfl|hp
  .exact⟨e,f.1,f.2.1,f.2.2.1,hd⟩
  .exact I.pin p (j7 _ hp)
def QX{f:Addr}{ns:88}{G:Hp->Prop}{tb:TE}{cap:St}{E:78}(I:76)(h64:169<64)
 (hcol:∀(Q:List Value->Shared->Prop) (E:78),(∀(g:Heap) (tk:Nat) (vs:83),(∀b o,s.heap.get? b=some o->g.get? b=some o)->IntsAre vs ns->Q vs { s with heap:=g,toks:=tk })->wpAny 70 X.A.in1 (collect l) Q E s)
 (turn:∀(pins':90) (H1:Hp) (s1:120) (n:Int) (u:168) (Q1:VK),(∀p∈pins,p∈pins')->Inv X pins' σ H1 s1->RelV (.int n) u->G H1->tb (some (.int n)::cap) H1 Q1->wpAny 70 X.A.in1.in1 (call (.ref f) [u]) (EP X pins' σ Q1) (λ_ _=>False) s1)
 (h:IZ G tb cap ns H λks H3=>∃kz,Ik X.K H3 ks kz/\∀p ms,H3 p=none->Jl kz ns ms->Q (.ref p) (upd H3 p (.lst (ms.map V.int)))):
 wpAny 70 X.A (call (.builtin "sorted") [l] [(Str.ofString "key",.ref f)]) 191 E s:=by
 refine call_function_entry_kw kind_sorted plain_sorted entry_sorted (ksk_s1 _ _) ?_;unfold Builtin.«sorted»;refine iq (m:=checkCount "sorted" 1 1 _) (iu ?_);refine iq (hcol _ _ λg tk vs keep0 hi=>?_)
 replace I:Inv X pins σ H { s with heap:=g,toks:=tk }:=I.kept (t':=tk) keep0
 clear hcol;generalize { s with heap:=g,toks:=tk }=s at I ⊢;clear keep0 g tk;have line:112<=sizeLine:=by have:=hi.length;rw[jt];omega
 have h64:112<64:=by have:=hi.length;omega
 refine iq (ku ?_ line);show wpAny _ _ _ _ _ { s with heap:=s.heap.push (seqObj "list" vs.toArray 0) };have hoL:(s.heap.push (seqObj "list" 86 0)).get? 65=some (seqObj "list" 86 0):=87 _ rfl;have keep1:∀b o,s.heap.get? b=some o->(s.heap.push (seqObj "list" 86 0)).get? b=some o:=λb o q=>72 _ q;have sz1:(s.heap.push (seqObj "list" 86 0)).objs.size=65+1:=by rw[size_push']
 generalize s.heap.push (seqObj "list" 86 0)=h1 at hoL keep1 sz1 ⊢;have fa:∀H',H' 65=none->FpOk X pins H' s.heap.objs.size:=λH' hn=>I.fpOk (ir _) hn;have fk:∀H',H' (65+2)=none->FpOk X pins H' (65+2):=λH' hn=>I.fpOk 68 hn;refine iq (jy (wpAny_call_entry_kw slot_list_sort ⟨_,hoL,rfl⟩ entry_list_sort ?_ (ksk_l1 _ _)));show wpAny 70 X.A.in1.in1 (Builtin.«list.sort» ⟨[.ref (65)],[(Str.ofString "key",.ref f)]⟩) _ _ _;rw[ksk_t1];have u1:=Heap.SameBut.update h1 (65) (142 λ_=>(#[]:Array Value));obtain⟨e1,ho1⟩:∃e1,(h1.update (s.heap.objs.size) (Obj.mapSeq λ_=>(#[]:Array Value))).get? (s.heap.objs.size)=some (seqObj "list" #[] e1):=⟨_,kB hoL λ_=>#[]⟩
 have sz2:(h1.update (65) (142 λ_=>(#[]:Array Value))).objs.size=65+1:=by rw[Heap.size_update,sz1]
 have keep2:∀b o,s.heap.get? b=some o->(h1.update (65) (142 λ_=>(#[]:Array Value))).get? b=some o:=λb o q=>(u1.2 b (jb (84 q))).trans (keep1 b o q);unfold ksk_tree;refine iq (listItems_at hoL rfl ?_);refine iq (ki hoL rfl ?_ (by rw[iy,jt];omega) (jw _));refine iq (seqEpoch_at ho1 rfl ?_);generalize h1.update (65) (142 λ_=>(#[]:Array Value))=h2 at ho1 sz2 keep2 ⊢;refine iq (wpAny_newTuple ?_ (by show 112<=_;exact line));refine iq (ku ?_ (jw _));have sz3:(h2.push (seqObj "tuple" 86 0)).objs.size=65+2:=by rw[size_push',sz2]
 have okS:((h2.push (seqObj "tuple" 86 0)).push (seqObj "list" #[] 0)).get? (65+2)=some (seqObj "list" #[] 0):=by rw[<- sz3];exact 87 _ rfl
 have oa4:((h2.push (seqObj "tuple" 86 0)).push (seqObj "list" #[] 0)).get? (65)=some (seqObj "list" #[] e1):=72 _ (72 _ ho1);have keep4:∀b o,s.heap.get? b=some o->((h2.push (seqObj "tuple" 86 0)).push (seqObj "list" #[] 0)).get? b=some o:=λb o q=>72 _ (72 _ (keep2 b o q));have ekS:∀o:Obj,Value.ref ((({ s with heap:=h2.push o }:Shared)).heap.objs.size)=Value.ref (h2.push o).objs.size:=λ_=>rfl;refine jy ?_;have goal:∀kS:Addr,kS=65+2->wpAny 70 X.A.in1.in1 (ksk_rest (65) (.ref f) false 86 e1 (.ref kS)) (λfin s'=>∃v,fin=PySem.Fin.done (.ret v)/\wpAny 70 X.A.in1 (ret (.ref (65))) (λfin s'=>∃v,fin=PySem.Fin.done (.ret v)/\EP X pins σ Q v s') E s') E { s with heap:=(h2.push (seqObj "tuple" vs.toArray 0)).push (seqObj "list" #[] 0) }:=by
  intro kS ek;rw[ek];have fresh0:H (65)=none/\H (65+2)=none:=⟨I.hok.fresh 68,I.hok.fresh 68⟩
  have I4:Inv X pins σ H { s with heap:=(h2.push (seqObj "tuple" vs.toArray 0)).push (seqObj "list" #[] 0) }:=I.kept (t':=s.toks) keep4;have nak:65≠65+2:=by omega
  have I5:=(I4.repin (fk H fresh0.2) okS (λv z=>by cases z)).repin ((fa H fresh0.1).more nak.symm) oa4 (λv z=>by cases z);unfold ksk_rest;refine iq (wpAny_rule ?_)
  first
   |rw[List.forIn_toArray]
   |(rw[<- Array.forIn_toList];simp only[List.toList_toArray])
   |rw[<- Array.forIn_toList]
  refine iq (ksk_fold (λi s'=>∃(H':Hp) (kA:Array Value) (e:Nat) (ks:155),Inv X ((65,seqObj "list" #[] e1)::(65+2,seqObj "list" kA e)::pins) σ H' s'/\Vals ks kA.toList/\kA.size=i /\
   IZ G tb cap (ns.drop i) H' λks' H3=>∃kz,Ik X.K H3 (ks++ks') kz/\∀p ms,H3 p=none->Jl kz ns ms->Q (.ref p) (upd H3 p (.lst (ms.map V.int)))) vs 0 _ ⟨H,#[],0,[],I5,.nil,rfl,h⟩ ?step ?done)
  case step=>
   rintro j x s' hx ⟨H',kA,e,ks,J,rk,hsz,hgo⟩;simp only[Nat.zero_add]at hsz hgo ⊢;have hj:j<vs.length:=(75 hx).1;have hjn:j<ns.length:=by have:=hi.length;omega
   have enx:ns[j]?=some ns[j]:=by simp[hjn]
   have edr:ns.drop j=ns[j]::ns.drop (j+1):=List.drop_eq_getElem_cons hjn;rw[edr]at hgo;obtain⟨hG,hgo⟩:=hgo;have rx:RelV (.int ns[j]) x:=by
    obtain⟨t,et⟩:=Gj hi hj;have:vs.getD j .none=x:=by simp[List.getD,hx]
    rw[this]at et;have:ns.getD j 0=ns[j]:=by simp[hjn]
    rw[this]at et;exact⟨t,et⟩
   refine iq (wpAny_attempt (jh (turn _ H' s' ns[j] x _ (λp hp=>iw _ (iw _ hp)) J rx hG hgo) (λv s'' he=>?_) λ_ _ hF=>hF.elim));obtain⟨k,H2,J2,r2,hgo2⟩:=he;dsimp only;have pk:=J2.pin (65+2,seqObj "list" kA e) (j7 _ (iw _ j4));have pa:=J2.pin (65,seqObj "list" #[] e1) (j7 _ j4);have u2:=Heap.SameBut.update s''.heap (65+2) (142 (·.push v));obtain⟨c2,hc2⟩:∃c2,(s''.heap.update (s.heap.objs.size+2) (Obj.mapSeq (·.push v))).get? (s.heap.objs.size+2)=some (seqObj "list" (kA.push v) c2):=⟨_,kB pk.1 (·.push v)⟩
   refine iq (ki pk.1 rfl ?_ (by rw[jt];omega) (j6 (Nat.le_of_eq (Array.size_push ..)) (by rw[jt];omega)));have J3:Inv X ((65+2,seqObj "list" kA e)::pins) σ H2 s'':=J2.pins_of λp hp=>J2.pin p (j7 _ (iw _ hp));have J4:Inv X pins σ H2 { s'' with heap:=s''.heap.update (s.heap.objs.size+2) (Obj.mapSeq (·.push v)) }:=J3.turn1 (t':=s''.toks) (fk H2 pk.2.1) u2;have oa:(s''.heap.update (65+2) (142 (·.push v))).get? (65)=some (seqObj "list" #[] e1):=(u2.2 _ nak).trans pa.1;have J5:=(J4.repin (fk H2 pk.2.1) hc2 (λv z=>by cases z)).repin ((fa H2 pa.2.1).more nak.symm) oa (λv z=>by cases z);refine iu ⟨rfl,H2,kA.push v,c2,ks++[k],J5,?_,by simp[hsz],?_⟩
   .rw[Array.toList_push];exact rk.append (.cons r2 .nil)
   .simpa [jJ]using hgo2
  case done=>
   rintro s' ⟨H',kA,e,ks,J,rk,hsz,hgo⟩;have hdr:ns.drop (0+112)=[]:=List.drop_of_length_le (by have:=hi.length;omega);rw[hdr]at hgo;obtain⟨kz,kv,fin⟩:∃kz,Ik X.K H' (ks++[]) kz/\∀p ms,H' p=none->Jl kz ns ms->Q (.ref p) (upd H' p (.lst (ms.map V.int))):=hgo;rw[jq]at kv;have pk:=J.pin (65+2,seqObj "list" kA e) (j7 _ (iw _ j4));have pa:=J.pin (65,seqObj "list" #[] e1) (j7 _ j4);refine iq (listItems_at pk.1 rfl ?_);have ekA:kA=kA.toList.toArray:=by simp
   rw[ekA]at pk ⊢;have lk:kA.toList.length=vs.length:=by rw[Array.length_toList];omega
   refine Zq pk.1 pa.1 nak.symm (Zo J kv rk) lk h64 λout so=>⟨_,rfl,iu ⟨_,rfl,?_⟩⟩
   obtain⟨on,oi⟩:=fP hi so;have u5:=Heap.SameBut.update s'.heap (65+2) (142 λ_=>(#[]:Array Value));have oa:(s'.heap.update (65+2) (142 λ_=>(#[]:Array Value))).get? (65)=some (seqObj "list" #[] e1):=(u5.2 _ nak).trans pa.1;have u6:=Heap.SameBut.update (s'.heap.update (65+2) (142 λ_=>(#[]:Array Value))) (65) (142 λ_=>out.toArray);obtain⟨c6,hc6⟩:∃c6,((s'.heap.update (s.heap.objs.size+2) (Obj.mapSeq λ_=>(#[]:Array Value))).update (s.heap.objs.size) (Obj.mapSeq λ_=>out.toArray)).get? (s.heap.objs.size)=some (seqObj "list" out.toArray c6):=⟨_,kB oa λ_=>out.toArray⟩
   have J3:Inv X ((65+2,seqObj "list" kA e)::pins) σ H' s':=J.pins_of λp hp=>J.pin p (j7 _ (iw _ hp));have J4:Inv X pins σ H' { s' with heap:=s'.heap.update (s.heap.objs.size+2) (Obj.mapSeq λ_=>(#[]:Array Value)) }:=J3.turn1 (t':=s'.toks) (fk H' pk.2.1) u5;have J5:Inv X pins σ H' { s' with heap:=(s'.heap.update (s.heap.objs.size+2) (Obj.mapSeq λ_=>(#[]:Array Value))).update (s.heap.objs.size) (Obj.mapSeq λ_=>out.toArray) }:=(J4.repin (fa H' pa.2.1) oa (λv z=>by cases z)).turn1 (t':=s'.toks) (fa H' pa.2.1) u6;have lo:out.length<64:=by
    obtain⟨zs,pm,rfl,_⟩:=so;have:=pm.length_eq;simp at this ⊢;omega
   have J6:=J5.adopt (o:=.lst ((out.map EA).map V.int)) (fa H' pa.2.1) (I.sz) ⟨by simp[jt];omega,out,c6,Jp oi,hc6⟩;exact⟨.ref _,_,J6,rfl,fin _ _ pa.2.1 on⟩
 exact goal _ sz3
end
def Src(K:Frag)(H:Hp)(a:Addr)(ns:88):Prop:=SqT K H a 157∨∃n:Nat,n<64/\H a=some (.rng 0 n)/\ns=(69 n).map λk:Nat=>(k:Int)
noncomputable def Jq(K:Frag)(P:Addr)(q:Str)(pos:Pos)(ix:73)(te tb:TE):TE:=λσ H Q=>te σ H λv H1=>∃(a:Addr) (ns:88) (ps:Array Value),v=.ref a/\Src K H1 a ns/\169<64/\H1 P=some (.tbl ps)/\EH H1 q pos ps /\
 ∀H2 c,TabStep P q pos H1 H2->H2 c=some (.ext (cdF c q))->IZ (λH=>H c=some (.ext (cdF c q))) tb (ix.map λi=>(σ[i]?).join) ns H2 λks H3=>∃kz,Ik K H3 ks kz/\∀p ms,H3 p=none->Jl kz ns ms->Q (.ref p) (upd H3 p (.lst (ms.map V.int)))
def TabStep.rd(t:TabStep P q pos H H')(hP:H P=some (.tbl ps))(r:Rd H a (.tup xs)):Rd H' a (.tup xs):=by
 rcases t with rfl|⟨c,hc,_,rfl⟩
 .exact r
 .have ne:∀u,H a=some u->(∀ps,u≠.tbl ps)->upd (upd H P (.tbl #[rawInt pos.line,rawInt pos.col,.ref c])) c (.ext (cdF c q)) a=some u:=λu e n=>by
   rw[upd_ne (AM e hc),upd_ne (λz=>by subst z;rw[hP]at e;cases e;exact n _ rfl)];exact e
  rcases r with r|⟨o,r⟩
  .exact .inl (ne _ r λps z=>by cases z)
  .exact .inr ⟨o,ne _ r λps z=>by cases z⟩
def TabStep.sqt{K:Frag}(t:TabStep P q pos H H')(hP:H P=some (.tbl ps))(r:SqT K H a xs):SqT K H' a xs:=by
 rcases r with r|r
 .exact .inl (t.rd hP r)
 .exact .inr r
def TabStep.src{K:Frag}(t:TabStep P q pos H H')(hP:H P=some (.tbl ps))(r:Src K H a ns):Src K H' a ns:=by
 rcases r with r|⟨n,h,e,z⟩
 .exact .inl (t.sqt hP r)
 .refine .inr ⟨n,h,?_,z⟩;rcases t with rfl|⟨c,hc,_,rfl⟩
  .exact e
  .rw[upd_ne (AM e hc),upd_ne (λz=>by subst z;rw[hP]at e;cases e)];exact e
def RY{n:Nat}(it:ItemsOf (λi v=>∃t,v=.int (0+i*1) t) acc n):IntsAre acc.toList ((69 n).map λk:Nat=>(k:Int)):=by
 have:=Gi (lo:=0) it;have e:BO 0 n=((69 n).map λk:Nat=>(k:Int)).map V.int:=by
  have:∀(lo:Nat) (n:Nat),BO (lo:Int) n=((List.range' lo n).map λk:Nat=>(k:Int)).map V.int:=by
   intro lo n
   induction n generalizing lo with
   |zero=>rfl
   |succ n ih=>rw[BO,List.range'_succ];simp only[j3];rw[<- ih (lo+1)];rfl
  rw[List.range_eq_range'];exact this 0 n
 rw[e]at this;exact Fq rfl this
section
def Vl(LA:LamAt X c P)(S:163)(L:LSc scope prm)(hr:Room 3 X.A)(hcm:164)(hg:Gl X "sorted")(hm:X.mg "sorted"=none)
 (hbind:∀(cl:List (Str×Addr)) (pm cd ctv us:168),bindArgs (kla_fn "<lambda>" 101 params body scope cl pm cd ctv) ⟨[us],[]⟩=pure [(prm,us)])
 (he:PE X e te) (hb:∀(f:Addr) (cd:168) (s:120) (H:Hp),PE (lCx X X.A.in1.in1 (prm::fr) 101 scope f cd 147 s H) body tb)
 (hdef:defaultsOf params X.env=([],[]):=by rfl) (hs:starEach [e] X.env=[109]:=by rfl):
 PE X (.Call (.Name "sorted" p) [e] [⟨some "key",.Lambda params body scope lpos,kpos⟩] pos) (Jq X.K P 101 lpos ix te tb):=by
 intro pins s σ H Q I h;have PAe:PA X [e] (BJ te BM):=Bm he CC hs;refine k4 (FS (u:=.builtin "sorted") I hg hm Ft ?_);have pl:(backTo pos (starEach [e] X.env)).any (·.1)=false:=by rw[hs];rfl
 refine callWith_builtin_kwB pl rfl (evalArgs_kw2 (env:=X.env) (e:=e) (rest:=[]) (kws:=[⟨some "key",.Lambda params body scope lpos,kpos⟩]) rfl (thn (PAe pos pins s σ H (λvs H1=>match vs with
  |[v]=>∃(a:Addr) (ns:88) (ps:Array Value),v=.ref a/\Src X.K H1 a ns/\169<64/\H1 P=some (.tbl ps)/\EH H1 101 lpos ps /\
   ∀H2 c,TabStep P 101 lpos H1 H2->H2 c=some (.ext (cdF c 101))->IZ (λH=>H c=some (.ext (cdF c 101))) tb (ix.map λi=>(σ[i]?).join) ns H2 λks H3=>∃kz,Ik X.K H3 ks kz/\∀p ms,H3 p=none->Jl kz ns ms->Q (.ref p) (upd H3 p (.lst (ms.map V.int)))
  | _=>False) I h) λus s1 hq=>?_) hs)
 obtain⟨vs,H1,I1,r,q⟩:=hq;rcases vs with _|⟨v,_|_⟩<;>try exact(q:False).elim
 obtain⟨a,ns,ps,rfl,sq,h64,hP,hg1,go⟩:=q;obtain⟨u,rfl,ru⟩:=BL r;cases ru;show wpAny _ _ (evalAll [(do let v <- eval (.Lambda params body scope lpos) X.env;standAt pos;pure v)]) _ _ s1;refine wpAny_evalAll_cons (iq (JQ S LA I1 hdef hP hg1 λf cd ctv H2 s2 I2 M=>iq (k3 (iu (wpAny_evalAll_nil ?_)))));show wpAny _ _ (call (.builtin "sorted") [.ref a] [(Str.ofString "key",.ref f)]) _ _ s2;have sq2:=M.step.src hP sq;obtain⟨c',rfl,hc'⟩:=M.cdc;have ff:FpOk X pins H2 f:=I1.fpOk M.new M.fre;have I3:=I2.repin ff M.fn (λv z=>by cases z);refine jh (QX (pins:=(f,_)::pins) I3 h64 (λQ E hq=>?_) (λpins' H' s' n u Q1 sub J ru hG hq=>?_) (go H2 c' M.step hc')) (λv s' hv=>?_) λ_ _ z=>z
 .rcases sq2 with sq2|⟨n,hn,er,rfl⟩
  .obtain⟨its,rv,tp,_⟩:=I2.tuple sq2;have hi:IntsAre its ns:=Fq rfl rv;have hlen:its.length<=sizeLine:=by have:=hi.length;rw[jt];omega
   refine Iw tp (hq _ s2.toks its (λb o q=>?_) hi) hlen;have hlt:b<s2.heap.objs.size:=84 q;rw[Heap.get?_update_ne _ _ _ _ (jb hlt),Heap.get?_push_ne _ _ _ (jb hlt)];exact q
  .obtain⟨t,u,v,hr'⟩:∃t u v,s2.heap.get? a=some { cls:=.type "range",data:=.fields #[.int 0 t,.int n u,.int 1 v] }:=I2.hok a _ er;refine Iu (n:=n) (I2.ok.hd hcm) hr' (small_one 68 68 68 68) (by rw[Qf];omega) 68 λg tk acc kp it=>hq g tk _ kp (RY it)
 .have pf:=J.pin (f,_) (j7 _ (sub _ j4));exact O9 (A:=X.A.in1.in1) (f:=f) S L J rfl hr.in1.in1 pf.1 (J.hok c' _ hG).1 (λus=>hbind _ _ _ _ us) (λs H=>hb f _ s H) ru hq
 .obtain⟨y,H',J,ry,qy⟩:=hv;exact⟨y,H',J.pins_of λp hp=>J.pin p (j7 _ (iw _ hp)),ry,qy⟩
end
def Ij(K:Frag)(P:Addr)(q:Str)(pos:Pos):Prop:=∃p':Pos,(P,q,p')∈Co K/\((Co K).map (·.1)).Nodup/\p'.line=pos.line/\p'.col=pos.col
open Classical in
noncomputable def EO(ds:137):Option (List Int):=match Av ds with
 |some ns=>some ns
 |none=>match DE ds with
  |some ps=>if ∀p∈ps,pok p then some (ps.map B2)else none
  |none=>none
open Classical in
noncomputable def Eo(mb:ME)(cap:Ls)(hd:Hd):List Int->Option (List D)
 |[]=>some []
 |n::r=>match mb (some (.im (.int n))::cap) hd with
  |some (k,h)=>match Eo mb cap hd r with
   |some ks=>if h=hd then some (k::ks)else none
   |none=>none
  |none=>none
theorem MC:∀{ns:88} {ks:137},Eo mb cap hd ns=some ks->181=169
 |[],ks,e=>by cases e;rfl
 |n::r,ks,e=>by
  unfold Eo at e;split at e
  .split at e
   .next ks' e2=>
    split at e
    .cases e;simp[MC e2]
    .cases e
   .cases e
  .cases e
def RW(e:EO ds=some kz):kz.length=ds.length:=by
 unfold EO at e;split at e
 .next ns e6=>cases e;rw[Bt e6];simp
 .split at e
  .next ps e6=>
   split at e
   .cases e;rw[Hb e6];simp
   .cases e
  .cases e
noncomputable def Fi(kz ns:88):List Int:=((kz.zip ns).mergeSort λa b=>decide (a.1<=b.1)).map (·.2)
def Vu{kz ns:88}(nd:kz.Nodup)(hl:kz.length=169)(o:Jl kz ns ms):ms=Fi kz ns:=by
 obtain⟨zs,pm,pw,rfl⟩:=o;have pm2:((kz.zip ns).mergeSort λa b=>decide (a.1<=b.1)).Perm (kz.zip ns):=List.mergeSort_perm ..;have pw2:((kz.zip ns).mergeSort λa b=>decide (a.1<=b.1)).Pairwise λa b=>a.1<=b.1:=by
  have:=List.pairwise_mergeSort (le:=λa b:Int×Int=>decide (a.1<=b.1)) (by intro a b c h1 h2;simp at *;omega) (by intro a b;simp;omega) (kz.zip ns);exact this.imp 71
 have inj:∀a∈kz.zip ns,∀b∈kz.zip ns,a.1=b.1->a=b:=by
  intro a ha b hb e;obtain⟨i,hi⟩:=mem_iff_getElem?.mp ha;obtain⟨j,hj⟩:=mem_iff_getElem?.mp hb;obtain⟨i1,i2⟩:=List.getElem?_zip_eq_some.mp hi;obtain⟨j1,j2⟩:=List.getElem?_zip_eq_some.mp hj;rw[e]at i1;have:i=j:=(List.getElem?_inj (75 i1).1 nd).mp (i1.trans j1.symm);subst this;rw[i2]at j2;exact Prod.ext e (102 j2)
 have:zs=(kz.zip ns).mergeSort λa b=>decide (a.1<=b.1):=
  (pm.trans pm2.symm).eq_of_pairwise (le:=λa b=>a.1<=b.1) (λa b ha hb h1 h2=>inj a (pm.mem_iff.mp ha) b (pm2.mem_iff.mp hb) (kg h1 h2)) pw pw2
 rw[this];rfl
noncomputable def My(mi:ME):Ls->Hd->Option (List Int×Hd):=λls hd=>(mi ls hd).bind λp=>(Ai p.1).bind λds=>(Av ds).bind λns=>some (ns,p.2)
open Classical in
noncomputable def EM(src:Ls->Hd->Option (List Int×Hd))(ix:73)(mb:ME):MA:=λls hd=>(src ls hd).bind λp=>(Eo mb (ix.map λi=>(ls[i]?).join) p.2 p.1).bind λks=>(EO ks).bind λkz=>
 if p.1.length<64/\kz.Nodup then some ((Fi kz p.1).map λi=>.im 135,p.2)else none
noncomputable abbrev TW(mi:ME)(ix:73)(mb:ME):MA:=EM (My mi) ix mb
def Wt(K:Frag)(te:TE)(src:Ls->Hd->Option (List Int×Hd)):Prop:=∀(ρ:111) (σ:St) (H:Hp) (hd:Hd) (ls:Ls) (Q:VK) (ns:88) (hd':Hd),RH K ρ H hd->RL K ρ H ls σ->src ls hd=some (ns,hd') ->
 (∀ρ1 H1 a,Ext ρ H ρ1 H1->RH K ρ1 H1 hd'->Src K H1 a ns->Q (.ref a) H1)->te σ H Q
section
variable{K:Frag}
def JA(R:RH K ρ H hd)(hP:H P=some (.tbl ps))(t:TabStep P q pos H H2)(TI:Ij K P q pos):RH K ρ H2 hd/\Ext ρ H ρ H2:=by
 rcases t with rfl|⟨c,hc,ncP,rfl⟩
 .exact⟨R,.refl⟩
 .obtain⟨p',et,nd,e1,e2⟩:=TI;have nP:∀b,b∈ρ->b≠P:=λb hb z=>by
   subst z;rcases R.mut hb with⟨y,w⟩|⟨y,w⟩<;>(rw[hP]at w;cases w)
  have nc:∀b u,H b=some u->b≠c:=λb u e=>AM e hc;have ex:Ext ρ H ρ (upd (upd H P (.tbl #[rawInt pos.line,rawInt pos.col,.ref c])) c (.ext (cdF c q))):=by
   refine⟨⟨[],by simp,by simp⟩,λb o e nb nt'=>?_,λb ps e=>?_⟩
   .rw[upd_ne (nc b _ e),upd_ne (λz=>by subst z;rw[hP]at e;cases e;exact nt' _ rfl)];exact e
   .by_cases z:b=P
    .subst z;exact⟨_,by rw[upd_ne (nc _ _ hP),AH]⟩
    .exact⟨ps,by rw[upd_ne (nc b _ e),upd_ne z];exact e⟩
  refine⟨⟨R.len,R.nd,λx hx=>?_,λn o a h1 h2=>?_⟩,ex⟩
  .by_cases hxP:x.1=P
   .have ex:x=(P,q,p'):=by
     obtain⟨i,hi⟩:=mem_iff_getElem?.mp hx;obtain⟨j,hj⟩:=mem_iff_getElem?.mp et;have i1:((Co K).map (·.1))[i]?=some P:=by rw[List.getElem?_map,hi];simp[hxP]
     have j1:((Co K).map (·.1))[j]?=some P:=by rw[List.getElem?_map,hj];rfl
     have:i=j:=(List.getElem?_inj (75 i1).1 nd).mp (i1.trans j1.symm);subst this;exact 102 (hi.symm.trans hj)
    subst ex;refine⟨#[rawInt pos.line,rawInt pos.col,.ref c],by rw[upd_ne (nc _ _ hP),AH],.inr ⟨c,?_,AH⟩⟩;show #[rawInt pos.line,rawInt pos.col,Value.ref c]=#[rawInt p'.line,rawInt p'.col,Value.ref c];rw[e1,e2]
   .obtain⟨ps',hx1,hG⟩:=R.tabs x hx;refine⟨ps',by rw[upd_ne (nc _ _ hx1),upd_ne hxP];exact hx1,?_⟩;rcases hG with g|⟨c',g1,g2⟩
    .exact .inl g
    .exact .inr ⟨c',g1,by rw[upd_ne (nc _ _ g2),upd_ne (λz=>by subst z;rw[hP]at g2;cases g2)];exact g2⟩
  .obtain⟨ho,q1,q2⟩:=R.ob n o a h1 h2;exact⟨ho,by rw[upd_ne (nc a _ q1),upd_ne (nP a (jf h2))];exact q1,by simpa using q2.mono (ex.grow R) []⟩
theorem Pm{ix:73}(hb:RE K tb mb):∀{ns:88} {kds:137} {ρ:111} {H:Hp} {Q:List V->Hp->Prop},RH K ρ H hd->RL K ρ H ls σ->H c=some (.ext (cdF c q)) ->
 Eo mb (ix.map λi=>(ls[i]?).join) hd ns=some kds->(∀ρ' H' ks,Ext ρ H ρ' H'->RH K ρ' H' hd->RDs K ρ' H' kds ks->Q ks H')->IZ (λH=>H c=some (.ext (cdF c q))) tb (ix.map λi=>(σ[i]?).join) ns H Q
 |[],kds,ρ,H,Q,R,L,hc,e,k=>by
  cases e;exact k ρ H [] .refl R (by simp[RDs])
 |n::r,kds,ρ,H,Q,R,L,hc,e,k=>by
  unfold Eo at e;split at e
  .next kd h e1=>
   split at e
   .next ks e2=>
    split at e
    .next eh=>
     cases e;rw[eh]at e1;refine⟨hc,hb ρ _ H _ (some (.im (.int n))::ix.map λi=>(ls[i]?).join) _ kd _ R ⟨by simp,λi d ei=>?_⟩ e1 λρ1 H1 v1 x1 R1 r1=>?_⟩
     .cases i with
      |zero=>cases ei;exact⟨.int n,rfl,by simp[RD,RI]⟩
      |succ j=>
       have ei:(ix.map λi=>(ls[i]?).join)[j]?=some (some d):=ei;rw[List.getElem?_map]at ei;cases qj:ix[j]? with
       |none=>rw[qj]at ei;cases ei
       |some m=>
        rw[qj]at ei;have ei:(ls[m]?).join=some d:=102 ei;have em:ls[m]?=some (some d):=by
         cases w:ls[m]? with
         |none=>rw[w]at ei;cases ei
         |some z=>rw[w]at ei;simpa using ei
        obtain⟨v,ev,rv⟩:=L.ob m d em;refine⟨v,?_,rv⟩;show(ix.map λi=>(σ[i]?).join)[j]?=some (some v);rw[List.getElem?_map,qj];simp[ev]
     .have oc:c∉ρ:=λm=>by rcases R.mut m with⟨y,w⟩|⟨y,w⟩<;>(rw[hc]at w;cases w)
      refine Pm hb R1 (L.ext R x1) (x1.keep c _ hc oc nt) e2 λρ2 H2 ks2 x2 R2 r2=>?_;exact k ρ2 H2 (v1::ks2) 89 R2 (.cons (r1.ext R1 x2) r2)
    .cases e
   .cases e
  .cases e
def Y3(hi:RE K te mi):Wt K te (My mi):=by
 intro ρ σ H hd ls Q ns hd' hR hL hm k;obtain⟨⟨d1,h1⟩,e1,hm⟩:=ij hm;obtain⟨ds,e2,hm⟩:=ij hm;obtain⟨ns,e3,hm⟩:=ij hm;cases hm;refine hi ρ σ H hd ls _ d1 _ hR hL e1 λρ1 H1 v1 x1 R1 r1=>?_;obtain⟨a,xs,rfl,sq,rs⟩:=r1.tup e2;rw[Bt e3]at rs;have exs:xs=ns.map V.int:=rs.ints;subst exs;exact k ρ1 H1 a x1 R1 (.inl sq)
def V3{src:Ls->Hd->Option (List Int×Hd)}(hi:Wt K te src)(hb:RE K tb mb)(TI:Ij K P q pos):RN K (Jq K P q pos ix te tb) (EM src ix mb):=by
 and_intros;obtain⟨⟨ns,h1⟩,e1,hm⟩:=ij hm;obtain⟨kds,e4,hm⟩:=ij hm;obtain⟨kz,e5,hm⟩:=ij hm;dsimp only at hm e4;split at hm
 .next cc=>
  cases hm;refine hi ρ σ H hd ls _ ns _ hR hL e1 λρ1 H1 a x1 R1 sq=>?_;obtain⟨p',et,_,l1,l2⟩:=id TI;obtain⟨ps,hP,hG⟩:=R1.tabs (P,q,p') et;have hG':EH H1 q pos ps:=by
   rcases hG with g|⟨c,g1,g2⟩
   .exact .inl g
   .refine .inr ⟨c,?_,g2⟩;rw[g1];show #[rawInt p'.line,rawInt p'.col,Value.ref c]=_;rw[l1,l2]
  refine⟨a,ns,ps,rfl,sq,cc.1,hP,hG',λH2 c step hc=>?_⟩;obtain⟨R2,x2⟩:=JA R1 hP step TI;have x12:=x1.trans R1 x2;refine Pm hb R2 (hL.ext hR x12) hc e4 λρ3 H3 ks x3 R3 r3=>?_;have x13:=x12.trans R2 x3;refine⟨kz,?_,λp ms hp out=>?_⟩
  .unfold EO at e5;split at e5
   .next ns' e6=>
    cases e5;rw[Bt e6]at r3;exact .inl r3.ints
   .split at e5
    .next ps' e6=>
     split at e5
     .next ok=>
      cases e5;rw[Hb e6]at r3;refine .inr ⟨ps',rfl,ok,by have:=r3.len;simp at this;omega,λi k p ek ep=>?_⟩;obtain⟨w,ew,rw_⟩:=r3.get (i:=i) (d:=AT p) (by rw[List.getElem?_map,ep];rfl);rw[ek]at ew;cases ew;exact PR rw_
     .cases e5
    .cases e5
  .have lz:kz.length=ns.length:=by
    rw[RW e5,MC e4]
   have:=Vu cc.2 lz out;subst this;obtain⟨R4,x4⟩:=R3.hid (ho:=.lst ((Fi kz ns).map V.int)) hp;exact hQ ρ3 _ p _ (x13.trans R3 x4) R4 (x13.none hR hp R3) (R3.out hp) AH E8
 .cases hm
end
structure LamC(K:Frag)(mg:130)(base:Heap)(fd:FuncData)(c P:Addr)(q:Str)(pos:Pos):Prop where
 code:fd.code=.ref c
 hd:CodeHd base c P
 bl:base.BuiltinsAt mg P
 ti:Ij K P q pos
structure QSrc(K:Frag)(X:Cx)(e:Expr)(te:TE)(src:Ls->Hd->Option (List Int×Hd)):Prop where
 p:PE X e te
 r:Wt K te src
def VS(K:Frag)(h:QE K X e te mi):QSrc K X e te (My mi):=⟨h.p,Y3 h.r⟩
def VV(K:Frag){src:Ls->Hd->Option (List Int×Hd)}{p pos kpos:Pos}{k:Nat}(LA:LamAt X c P)(TI:Ij K P 101 lpos)(S:163)(L:LSc scope prm)(hr:Room k X.A)(h3:3<=k)(hm:X.mg "sorted"=none)
 (he:QSrc K X e te src) (hb:∀(f:Addr) (cd:168) (s:120) (H:Hp),QE K (lCx X X.A.in1.in1 (prm::fr) 101 scope f cd 147 s H) body tb mb)
 (hbind:∀(cl:List (Str×Addr)) (pm cd ctv us:168),bindArgs (kla_fn "<lambda>" 101 params body scope cl pm cd ctv) ⟨[us],[]⟩=pure [(prm,us)])
 (hcm:X.calm=true:=by rfl) (hg:Gl X "sorted":=by rfl) (hdef:defaultsOf params X.env=([],[]):=by rfl) (hs:starEach [e] X.env=[109]:=by rfl) (hK:X.K=K:=by rfl):
 QN K X (.Call (.Name "sorted" p) [e] [⟨some "key",.Lambda params body scope lpos,kpos⟩] pos) (Jq K P 101 lpos ix te tb) (EM src ix mb):=by
 subst hK;exact⟨Vl LA S L (hr.mono h3) hcm hg hm hbind he.p (λf cd s H=>(hb f cd s H).p) hdef hs,V3 he.r (hb 0 .none X.s₀ X.H₀).r TI⟩
def Vx{K:Frag}{mg:130}{st:Stmt}{j:Nat}(DA:DefAt K mg x st f fd ps)(S:FnScope N ps (AC st))
 (h:∀(cdv:168) (A:Around) (outer:List Env) (s:120) (H:Hp) (E:XK),fd.code=cdv->Room j (A.deeper (envOfC x (AC st) 65 f cdv))->∃t,QSs K (G4 CX0 P w K mg base N x (AC st) f cdv A outer s H E).nox (BR st) t m):
 FnOk P w K mg base CX0 (j+1) f fd ps (spF K 126 (mkF 126 N.length m)):=by
 obtain⟨F,hmg,bd⟩:=DA;obtain⟨⟨oc,od,kV,doc,pm,an,cdv,ct,osl,rfl,lk,hcd⟩,kp⟩:=F;refine XZ lk hcd S (λvs H Q E h=>h.1) λA outer s H vs Q E hr hs=>?_;obtain⟨t,q⟩:=h cdv A outer s H E rfl hr;exact⟨t,q.p.nox,PB q.r hs⟩
def QZ(g:Int->Int)(ns:88):(Fi (ns.map g) ns).Perm ns/\(Fi (ns.map g) ns).Pairwise λa b=>g a<=g b:=by
 have pm:(((ns.map g).zip ns).mergeSort λa b=>decide (a.1<=b.1)).Perm ((ns.map g).zip ns):=List.mergeSort_perm ..;have pw:(((ns.map g).zip ns).mergeSort λa b=>decide (a.1<=b.1)).Pairwise λa b=>a.1<=b.1:=by
  have:=List.pairwise_mergeSort (le:=λa b:Int×Int=>decide (a.1<=b.1)) (by intro a b c h1 h2;simp at *;omega) (by intro a b;simp;omega) ((ns.map g).zip ns);exact this.imp 71
 have ez:(ns.map g).zip ns=ns.map λn=>(g n,n):=by
  clear pm pw
  induction ns with
  |nil=>rfl
  |cons n r ih=>simp[ih]
 have el:∀a∈(((ns.map g).zip ns).mergeSort λa b=>decide (a.1<=b.1)),a.1=g a.2:=λa ha=>by
  have:=pm.mem_iff.mp ha;rw[ez]at this;obtain⟨n,_,rfl⟩:=mem_map.mp this;rfl
 refine⟨?_,?_⟩
 .have:=pm.map (·.2);unfold Fi;refine this.trans ?_;rw[ez,j5];have:((λx:Int×Int=>x.2) ∘ λn=>(g n,n))=id:=rfl;rw[this,map_id]
 .unfold Fi;rw[jQ];exact pw.imp_of_mem λ{a b} ha hb h=>by rw[<- el a ha,<- el b hb];exact h
theorem MB(kf:Int->D):∀{ns:88},(∀n∈ns,mb (some (.im (.int n))::cap) hd=some (kf n,hd))->Eo mb cap hd ns=some (ns.map kf)
 |[],_=>rfl
 |n::r,h=>by
  unfold Eo;rw[h n j4,MB kf λm hm=>h m (iw _ hm)];simp
def OA(hne:ps≠[])(hok:∀p∈ps,pok p):EO (ps.map AT)=some (ps.map B2):=by
 unfold EO;have:Av (ps.map AT)=none:=by
  cases ps with
  |nil=>exact absurd rfl hne
  |cons p r=>rfl
 rw[this,KA];simp only[il hok]
def TN{g:Int->Int}{ns:88}(nd:ns.Nodup)(h:∀a∈ns,∀b∈ns,g a=g b->a=b):(ns.map g).Nodup:=by
 rw[List.nodup_iff_pairwise_ne,jQ];exact(List.nodup_iff_pairwise_ne.mp nd).imp_of_mem λ{a b} ha hb hne e=>hne (h a ha b hb e)
def UT{src:Ls->Hd->Option (List Int×Hd)}{ix:73}{QA:List D->Hd->Prop}(h:∃ns x,src ls hd=some (ns,x)/\∃(kf:Int->Int×Int),169<64/\ns.Nodup/\(∀n∈ns,pok (kf n))/\(∀a∈ns,∀b∈ns,B2 (kf a)=B2 (kf b)->a=b)/\
 (∀n∈ns,mb (some (.im (.int n))::ix.map λi=>(ls[i]?).join) x=some (AT (kf n),x))/\∀ms:List Int,ms.Perm ns->ms.Pairwise (λa b=>B2 (kf a)<=B2 (kf b))->QA (ms.map λn=>.im (.int n)) x):WA (EM src ix mb) ls hd QA:=by
 obtain⟨ns,x,e,kf,h64,nd,ok,inj,ek,q⟩:=h;have e2:=MB (λn=>AT (kf n)) ek;by_cases hne:ns=[]
 .subst hne;refine⟨[],x,?_,q [] (.refl _) .nil⟩;simp[EM,e,Av,Eo,EO,Fi]
 .have e3:EO (ns.map λn=>AT (kf n))=some (ns.map λn=>B2 (kf n)):=by
   have:=OA (ps:=ns.map kf) (by simpa using hne) (by simpa using ok);rw[j5,j5]at this;exact this
  have sp:=QZ (λn=>B2 (kf n)) ns;refine⟨_,x,?_,q _ sp.1 sp.2⟩;simp only[EM,e,bind_some,e2,e3,h64,TN nd inj,and_self,j8]
def UU{ix:73}{QA:List D->Hd->Prop}(h:WE mi ls hd λd x=>∃(ns:88) (kf:Int->Int×Int),Ai d=some (ns.map λn=>.im (.int n))/\169<64/\ns.Nodup/\(∀n∈ns,pok (kf n))/\(∀a∈ns,∀b∈ns,B2 (kf a)=B2 (kf b)->a=b)/\
 (∀n∈ns,mb (some (.im (.int n))::ix.map λi=>(ls[i]?).join) x=some (AT (kf n),x))/\∀ms:List Int,ms.Perm ns->ms.Pairwise (λa b=>B2 (kf a)<=B2 (kf b))->QA (ms.map λn=>.im (.int n)) x):WA (TW mi ix mb) ls hd QA:=by
 obtain⟨d,x,e,ns,kf,e1,h⟩:=h;refine UT ⟨ns,x,?_,kf,h⟩;have ei:Av (ns.map λn=>D.im (.int n))=some ns:=by
  clear e1 h
  induction ns with
  |nil=>rfl
  |cons n r ih=>simp[Av]at ih ⊢
 simp only[My,e,bind_some,e1,ei]
end L2
namespace HS
open PySem PyProof.Rows
open PySem.AutoSeq1 (wpAny_loadPart')
open Sem (wp)
abbrev st(t:Tok):List (Str×Value):=[(Str.ofString "start",.int 1 t)]
end HS
namespace L2
open PySem PySem.Spec PyProof.Rows PySem.W
def SqY(y:Bool)(K:Frag):Hp->Addr->List V->Prop:=bif y then SqL K else SqT K
def IsY(y:Bool)(h:Heap)(l:Addr)(a:Array Value):Prop:=bif y then h.IsList l a else h.IsTuple l a
noncomputable def oY(y:Bool)(l:Addr)(j:Nat):Obj:={ cls:=.type (bif y then "list_iterator" else "tuple_iterator"),data:=.fields #[.ref l,.int j 0] }
def ItY(y:Bool)(h:Heap)(a l:Addr)(j:Nat):Prop:=∃o,h.get? a=some o/\o.cls=(oY y l j).cls/\o.data=(oY y l j).data
structure Wy(κ:Type) where
 z:Bool
 y:Bool
 op:κ->κ->Bool
 KR:Frag->Hp->V->κ->Prop
 kp:I->Option κ
 rd:∀{K ρ H v i n},kp i=some n->RD K ρ H (.im i) v->KR K H v n
 cmp:∀{X pins σ H s k n v m u w} {Q:78} {E},X.A.in1.units<cLine->Inv X pins σ H s->KR X.K H k n->KR X.K H v m->RelV k u->RelV v w->Q (.bool (op n m)) s->wpAny 70 X.A.in1 (richCompare (bif z then .Gt else .Lt) u w) Q E s
section
variable{E:78}{s:120}{i:Nat}
def gM(y:Bool){Q:78}(hl:IsY y s.heap l items)(hQ:Q (.ref 65) { s with heap:=s.heap.push (oY y l 0) }):wpAny 110 A (pyIter (.ref l)) Q E s:=by
 cases y
 .exact wpAny_pyIter_tuple hl hQ
 .exact kD hl hQ
def gL(y:Bool){Q:Option Value->Shared->Prop}(ht:ItY y s.heap it l i)(hl:IsY y s.heap l items)(hx:items[i]?=some x)
 (hQ:∀h',ItY y h' it l (i+1)->Heap.SameBut it s.heap h'->Q (some x) { s with heap:=h' }):wpAny 110 A (pyNext (.ref it)) Q E s:=by
 cases y
 .exact wpAny_pyNext_tuple_item ht hl hx hQ
 .exact wpAny_pyNext_list_item ht hl hx hQ
def eU(y:Bool){Q:Option Value->Shared->Prop}(hh:A.handled=none)(ht:ItY y s.heap it l i)(hl:IsY y s.heap l items)(hx:items[i]?=none)
 (hQ:∀h',Heap.ExtBut it s.heap h'->Q none { s with heap:=h' }):wpAny 110 A (pyNext (.ref it)) Q E s:=by
 cases y
 .exact wpAny_pyNext_tuple_end hh ht hl hx hQ
 .exact wpAny_pyNext_list_end hh ht hl hx hQ
end
section
variable{κ:Type}(KR:Hp->V->κ->Prop)(op:κ->κ->Bool)(src:Hp->List V->Prop)(G:Hp->Prop)(tb:TE)(cap:St)
def ET:Nat->Nat->Option (V×V×κ)->Hp->VK->Prop
 |0,j,o,H,Q=>(∃xs,src H xs/\96=j)/\∃p,o=some p/\Q p.1 H
 |m+1,j,o,H,Q=>∃xs x,src H xs/\xs[j]?=some x/\G H/\tb (some x::cap) H λk H1=>∃n:κ,KR H1 k n/\match o with
  |none=>ET m (j+1) (some (x,k,n)) H1 Q
  |some p=>KR H1 p.2.1 p.2.2/\ET m (j+1) (if op n p.2.2=true then some (x,k,n)else o) H1 Q
end
noncomputable def QQ{κ:Type}(W:Wy κ)(K:Frag)(P:Addr)(q:Str)(pos:Pos)(ix:73)(te tb:TE):TE:=λσ H Q=>te σ H λv H1=>∃(a:Addr) (m:Nat) (ps:Array Value),v=.ref a/\H1 P=some (.tbl ps)/\EH H1 q pos ps /\
 ∀H2 c,TabStep P q pos H1 H2->H2 c=some (.ext (cdF c q))->ET (W.KR K) W.op (λH xs=>SqY W.y K H a xs) (λH=>H c=some (.ext (cdF c q))) tb (ix.map λi=>(σ[i]?).join) m 0 none H2 Q
def Inv.turnE{h':Heap}{t':Nat}(I:Inv X ((b,o)::pins) σ H s)(f:FpOk X pins H b)(hs:∀c u,c≠b->s.heap.get? c=some u->h'.get? c=some u):Inv X pins σ H { s with heap:=h',toks:=t' }:=by
 have J:Inv X pins σ H s:=I.pins_of λp hp=>I.pin p (j7 _ (iw _ hp));obtain⟨hn,hL,_,h1,h2,h3⟩:=f;exact J.turned (λc u n e=>hs c u n e) hn hL h1 h2 h3
def gx{κ:Type}(o:Option (V×V×κ))(it:Array Value):Prop:=match o with
 |none=>it=#[]
 |some p=>∃vb vk,it=#[vb,vk]/\RelV p.1 vb/\RelV p.2.1 vk
section
variable{κ:Type}{X:Cx}{It:Addr}{src:Hp->List V->Prop}{G:Hp->Prop}{E:78}
set_option maxHeartbeats 1600000 in
def UF(W:Wy κ)(hu:X.A.in1.units<cLine)(hh:X.A.handled=none)
 (hsrc:∀pins' H' s' xs,Inv X pins' σ H' s'->src H' xs->∃its:List Value,Vals xs its/\IsY W.y s'.heap l 107) (hSI:S≠It) (hI0:∀H',H' It=none->FpOk X pins H' It) (hS0:∀H',H' S=none->FpOk X pins H' S)
 (turn:∀(pins':90) (H1:Hp) (s1:120) (x:V) (u:168) (Q1:VK),(∀p∈pins,p∈pins')->Inv X pins' σ H1 s1->RelV x u->G H1->tb (some x::cap) H1 Q1->wpAny 70 X.A.in1 (call (.ref f) [u]) (EP X pins' σ Q1) (λ_ _=>False) s1):
 ∀(m j:Nat) (o:Option (V×V×κ)) (it:Array Value) (c:Nat) (oI:Obj) (H:Hp) (s:120),Inv X ((S,seqObj "list" it c)::(It,oI)::pins) σ H s->ItY W.y s.heap It l j->gx o it ->
   ET (W.KR X.K) W.op src G tb cap m j o H Q->codeAny 70 X.A (.builtin (bif W.z then "max.loop" else "min.loop") ⟨[.ref It,.ref f,.ref S],[]⟩) (λr s'=>match r with|.ok (.ret v)=>EP X pins σ Q v s'|.ok _=>False|.error e=>E e s') s:=by
 obtain⟨z,y,op,KR,kp,rd,cmp⟩:=W;have hname:(toString "max"++toString ".loop":String)="max.loop":=by decide
 have hnam2:(toString "min"++toString ".loop":String)="min.loop":=by decide
 obtain⟨b,hb⟩:∃b,b=z:=⟨z,rfl⟩
 cases z<;>dsimp only[cond]at cmp hsrc ⊢
 all_goals
  intro m
  induction m with
  |zero=>
   intro j o it c oI H s J hit ro hgo;obtain⟨⟨xs,hG,hje⟩,p,rfl,hQ⟩:=hgo;obtain⟨vb,vk,rfl,rb,_⟩:=ro;have nS:=J.pin (S,seqObj "list" #[vb,vk] c) (j7 _ j4);have nI:=J.pin (It,oI) (j7 _ (iw _ j4))
   first|(guard_hyp hb:b=true;refine kh PySem.F.entry_max_loop ?_;rw[Around.under_plainId PySem.F.plain_max_loop _])|(refine kh PySem.F.entry_min_loop ?_;rw[Around.under_plainId PySem.F.plain_min_loop _])
   show wpAny _ X.A.in1 (seqItems? (.ref S) >>= _) _ _ _;refine iq (wpAny_seqItems nS.1 rfl ?_);show wpAny _ X.A.in1 (tryCatch (pyNext (.ref It)) _ >>= _) _ _ _;obtain⟨its,hv,hil⟩:=hsrc _ _ _ _ J hG;have hlen:=hv.length;refine iq (wpAny_tryCatch (eU y hh hit hil 82 λh' hk'=>?_));have hS':=hk' S _ hSI nS.1;have s1:=Heap.SameBut.update h' S (142 λ_=>(#[]:Array Value));show wpAny _ X.A.in1 (updateSeq S (λ_=>#[]) >>= _) _ _ _;refine iq (wpAny_updateSeq hS' rfl (iq (wpAny_letGo (iu ?_))));have J1:Inv X ((It,oI)::pins) σ H s:=J.pins_of λp hp=>J.pin p (j7 _ (iw _ hp));have J2:Inv X pins σ H { s with heap:=h',toks:=s.toks }:=J1.turnE (hI0 H nI.2.1) λc u n e=>hk' c u n e;exact⟨p.1,H,(J2.repin (hS0 H nS.2.1) hS' (λv z=>by cases z)).turnE (t':=s.toks) (hS0 H nS.2.1) λc u n e=>(s1.2 c n).trans e,rb,hQ⟩
  |succ m ih=>
   intro j o it c oI H s J hit ro hgo;obtain⟨xs,x,hsr,hxj,hG,hgo⟩:=hgo;obtain⟨its,hv,hil⟩:=hsrc _ _ _ _ J hsr;obtain⟨u,hu9,ru⟩:=hv.get hxj;have nS:=J.pin (S,seqObj "list" it c) (j7 _ j4);have nI:=J.pin (It,oI) (j7 _ (iw _ j4))
   first|(guard_hyp hb:b=true;refine kh PySem.F.entry_max_loop ?_;rw[Around.under_plainId PySem.F.plain_max_loop _])|(refine kh PySem.F.entry_min_loop ?_;rw[Around.under_plainId PySem.F.plain_min_loop _])
   show wpAny _ X.A.in1 (seqItems? (.ref S) >>= _) _ _ _;refine iq (wpAny_seqItems nS.1 rfl ?_);show wpAny _ X.A.in1 (tryCatch (pyNext (.ref It)) _ >>= _) _ _ _;refine iq (wpAny_tryCatch (gL y hit hil (x:=u) (by simpa using hu9) λh' hit' hs'=>?_));obtain⟨oI',hoI',hoc,hod⟩:=id hit';have hSh':h'.get? S=some (seqObj "list" it c):=(hs'.2 S hSI).trans nS.1;have dI:∀v,oI'.data≠.cell v:=λv z=>by rw[hod]at z;cases z
   have J1:Inv X ((It,oI)::pins) σ H s:=J.pins_of λp hp=>J.pin p (j7 _ (iw _ hp));have J2:Inv X pins σ H { s with heap:=h',toks:=s.toks }:=J1.turnE (hI0 H nI.2.1) λc u n e=>(hs'.2 c n).trans e;have J3:=(J2.repin (hI0 H nI.2.1) hoI' dI).repin ((hS0 H nS.2.1).more hSI.symm) hSh' (λv z=>by cases z);show wpAny _ X.A.in1 (tryCatch (holding [u] (call (.ref f) [u])) _ >>= _) _ _ _;refine iq (wpAny_tryCatch (jy (jh (turn _ H _ x u _ (λp hp=>iw _ (iw _ hp)) J3 ru hG hgo) (λw s2 he=>?_) λ_ _ hF=>hF.elim)));obtain⟨k,H2,J4,rk,n,hn,hgo2⟩:=he;have nS2:=J4.pin (S,seqObj "list" it c) (j7 _ j4);have nI2:=J4.pin (It,oI') (j7 _ (iw _ j4));have put:ET (KR X.K) op src G tb cap m (j+1) (some (x,k,n)) H2 Q->codeAny 70 X.A (.builtin (bif b then "max.loop" else "min.loop") ⟨[.ref It,.ref f,.ref S],[]⟩) (λr s'=>match r with|.ok (.ret v)=>EP X pins σ Q v s'|.ok _=>False|.error e=>E e s') { s2 with heap:=s2.heap.update S (Obj.mapSeq λ_=>#[u,w]),toks:=s2.toks }:=λhg=>by
    have s1:=Heap.SameBut.update s2.heap S (142 λ_=>#[u,w]);obtain⟨c2,hc2⟩:∃c2,(s2.heap.update S (Obj.mapSeq λ_=>#[u,w])).get? S=some (seqObj "list" #[u,w] c2):=⟨_,kB nS2.1 λ_=>#[u,w]⟩
    have J5:Inv X ((S,seqObj "list" it c)::pins) σ H2 s2:=J4.pins_of λp hp=>by
     rcases mem_cons.mp hp with rfl|hp
     .exact nS2
     .exact J4.pin p (j7 _ (iw _ (iw _ hp)))
    have J6:Inv X pins σ H2 { s2 with heap:=s2.heap.update S (Obj.mapSeq λ_=>#[u,w]),toks:=s2.toks }:=J5.turnE (hS0 H2 nS2.2.1) λc u n e=>(s1.2 c n).trans e;have gI:(s2.heap.update S (142 λ_=>#[u,w])).get? It=some oI':=(s1.2 It hSI.symm).trans nI2.1;rw[hb];exact ih (j+1) (some (x,k,n)) _ c2 oI' H2 _ ((J6.repin (hI0 H2 nI2.2.1) gI dI).repin ((hS0 H2 nS2.2.1).more hSI.symm) hc2 (λv z=>by cases z)) ⟨oI',gI,hoc,hod⟩ ⟨u,w,rfl,ru,rk⟩ hg
   cases o with
   |none=>
    cases ro;show wpAny _ X.A.in1 (updateSeq S (λ_=>#[u,w]) >>= _) _ _ _;refine iq (wpAny_updateSeq nS2.1 rfl ?_);subst hb
    first|rw[hname]|rw[hnam2]
    exact iu ⟨(by first|exact k8 PySem.F.plain_max_loop _|exact k8 PySem.F.plain_min_loop _),put hgo2⟩
   |some p=>
    obtain⟨vb,vk,rfl,rb,r0⟩:=ro;obtain⟨hn0,hgo2⟩:=hgo2;show wpAny _ X.A.in1 (tryCatch (holding [u,w] (richCompare _ w vk >>= _)) _ >>= _) _ _ _;refine iq (wpAny_tryCatch (jy (iq (cmp hu J4 hn hn0 rk r0 ?_))));refine iq (jy (jS (iq (wpAny_letGo (iu ?_)))));subst hb;cases hb':op n p.2.2
    .simp only[hb',Bool.false_eq_true,jj]at hgo2 ⊢;refine iq (wpAny_letGo ?_)
     first|rw[hname]|rw[hnam2]
     exact iu ⟨(by first|exact k8 PySem.F.plain_max_loop _|exact k8 PySem.F.plain_min_loop _),ih (j+1) (some p) _ c oI' H2 _ J4 ⟨oI',nI2.1,hoc,hod⟩ ⟨vb,vk,rfl,rb,r0⟩ hgo2⟩
    .simp only[hb',j8]at hgo2 ⊢;refine iq (wpAny_updateSeq nS2.1 rfl (iq (wpAny_letGo ?_)))
     first|rw[hname]|rw[hnam2]
     exact iu ⟨(by first|exact k8 PySem.F.plain_max_loop _|exact k8 PySem.F.plain_min_loop _),put hgo2⟩
set_option maxHeartbeats 800000 in
def Wp(W:Wy κ)(hu:X.A.in1.units<cLine)(hh:X.A.handled=none)(I:76)(hsrc:∀pins' H' s' xs,Inv X pins' σ H' s'->src H' xs->∃its:List Value,Vals xs its/\IsY W.y s'.heap l 107)
 (turn:∀(pins':90) (H1:Hp) (s1:120) (x:V) (u:168) (Q1:VK),(∀p∈pins,p∈pins')->Inv X pins' σ H1 s1->RelV x u->G H1->tb (some x::cap) H1 Q1->wpAny 70 X.A.in1 (call (.ref f) [u]) (EP X pins' σ Q1) (λ_ _=>False) s1)
 {m:Nat} (h:ET (W.KR X.K) W.op src G tb cap m 0 none H Q):wpAny 70 X.A (call (.builtin (bif W.z then "max" else "min")) [.ref l] [(Str.ofString "key",.ref f)]) 191 E s:=by
 have hname:(toString "max"++toString ".loop":String)="max.loop":=by decide
 have hnam2:(toString "min"++toString ".loop":String)="min.loop":=by decide
 obtain⟨xs,hsr⟩:∃xs,src H xs:=by
  cases m with
  |zero=>obtain⟨⟨xs,h,_⟩,_⟩:=h;exact⟨xs,h⟩
  |succ m=>obtain⟨xs,_,h,_⟩:=h;exact⟨xs,h⟩
 obtain⟨_,_,hls⟩:=hsrc _ _ _ _ I hsr;obtain⟨z,y,op,KR,kp,rd,cmp⟩:=W;obtain⟨b,hb⟩:∃b,b=z:=⟨z,rfl⟩
 cases z<;>dsimp only[cond]at h hls hsrc ⊢
 all_goals
  first|(guard_hyp hb:b=true;refine kmk_tree PySem.F.kind_max PySem.F.plain_max PySem.F.entry_max (kmk_max_key _ _) ?_;show wpAny _ X.A.in1 (Builtin.Builtins.bindParams "max" ["key","default"] 0 ⟨[],[(Str.ofString "key",.ref f)]⟩ >>= _) _ _ s;refine iq (wpAny_of_eq (show Builtin.Builtins.bindParams "max" ["key","default"] 0 ⟨[],[(Str.ofString "key",.ref f)]⟩=pure [some (.ref f),none]from rfl) ?_))|(refine kmk_tree PySem.F.kind_min PySem.F.plain_min PySem.F.entry_min (kmk_min_key _ _) ?_;show wpAny _ X.A.in1 (Builtin.Builtins.bindParams "min" ["key","default"] 0 ⟨[],[(Str.ofString "key",.ref f)]⟩ >>= _) _ _ s;refine iq (wpAny_of_eq (show Builtin.Builtins.bindParams "min" ["key","default"] 0 ⟨[],[(Str.ofString "key",.ref f)]⟩=pure [some (.ref f),none]from rfl) ?_))
  refine iq (iu (iq (gM y hls (iq (ku ?_ (jw _))))))
  first|rw[hname]|rw[hnam2]
  generalize hIt:oY y l 0=oIt;have dI:∀v,oIt.data≠.cell v:=λv z=>by subst hIt;cases z
  have hS:(s.heap.push oIt).objs.size=65+1:=size_push' ..;rw[hS];have gI:((s.heap.push oIt).push (seqObj "list" #[] 0)).get? 65=some oIt:=
   72 _ (87 _ (by subst hIt;rfl))
  have gS:((s.heap.push oIt).push (seqObj "list" #[] 0)).get? (65+1)=some (seqObj "list" #[] 0):=by rw[<- hS];exact 87 _ rfl
  have I1:Inv X pins σ H { s with heap:=(s.heap.push oIt).push (seqObj "list" #[] 0),toks:=s.toks }:=I.kept (t':=s.toks) λb o e=>72 _ (72 _ e);have hSI:65+1≠s.heap.objs.size:=ne_of_gt (Nat.lt_succ_self _);have hI0:∀H',H' 65=none->FpOk X pins H' s.heap.objs.size:=λH' hn=>I.fpOk (ir _) hn;have hS0:∀H',H' (65+1)=none->FpOk X pins H' (65+1):=λH' hn=>I.fpOk (jR _) hn;exact iu ⟨(by first|exact k8 PySem.F.plain_max_loop _|exact k8 PySem.F.plain_min_loop _),UF ⟨_,y,op,KR,kp,rd,cmp⟩ hu hh hsrc hSI hI0 hS0 turn m 0 none #[] 0 oIt H _ ((I1.repin (hI0 H (I.hok.fresh (ir _))) gI dI).repin ((hS0 H (I.hok.fresh (jR _))).more hSI.symm) gS (λv z=>by cases z)) ⟨oIt,gI,by rw[hIt],by rw[hIt]⟩ rfl h⟩
end
section
variable{κ:Type}
def ZS(W:Wy κ)(LA:LamAt X c P)(S:163)(L:LSc scope prm)(hr:Room 3 X.A)(hcm:164)(hg:Gl X (bif W.z then "max" else "min"))(hm:X.mg (bif W.z then "max" else "min")=none)
 (hbind:∀(cl:List (Str×Addr)) (pm cd ctv us:168),bindArgs (kla_fn "<lambda>" 101 params body scope cl pm cd ctv) ⟨[us],[]⟩=pure [(prm,us)])
 (he:PE X e te) (hb:∀(f:Addr) (cd:168) (s:120) (H:Hp),PE (lCx X X.A.in1 (prm::fr) 101 scope f cd 147 s H) body tb)
 (hdef:defaultsOf params X.env=([],[])) (hs:starEach [e] X.env=[109]):
 PE X (.Call (.Name (bif W.z then "max" else "min") p) [e] [⟨some "key",.Lambda params body scope lpos,kpos⟩] pos) (QQ W X.K P 101 lpos ix te tb):=by
 intro pins s σ H Q I h;have PAe:PA X [e] (BJ te BM):=Bm he CC hs;have pl:(backTo pos (starEach [e] X.env)).any (·.1)=false:=by rw[hs];rfl
 have bt:bootBuiltins (bif W.z then "max" else "min")=some (.builtin (bif W.z then "max" else "min")):=by
  cases W.z
  .exact bt_min
  .exact bt_max
 refine k4 (FS (u:=.builtin (bif W.z then "max" else "min")) I hg hm bt ?_ (by cases W.z<;>decide) (by cases W.z<;>decide));refine callWith_builtin_kwB pl rfl (evalArgs_kw2 (env:=X.env) (e:=e) (rest:=[]) (kws:=[⟨some "key",.Lambda params body scope lpos,kpos⟩]) rfl (thn (PAe pos pins s σ H (λvs H1=>match vs with
  |[v]=>∃(a:Addr) (m:Nat) (ps:Array Value),v=.ref a/\H1 P=some (.tbl ps)/\EH H1 101 lpos ps /\
   ∀H2 c,TabStep P 101 lpos H1 H2->H2 c=some (.ext (cdF c 101))->ET (W.KR X.K) W.op (λH xs=>SqY W.y X.K H a xs) (λH=>H c=some (.ext (cdF c 101))) tb (ix.map λi=>(σ[i]?).join) m 0 none H2 Q
  | _=>False) I h) λus s1 hq=>?_) hs)
 obtain⟨vs,H1,I1,r,q⟩:=hq;rcases vs with _|⟨v,_|_⟩<;>try exact(q:False).elim
 obtain⟨a,m,ps,rfl,hP,hg1,go⟩:=q;obtain⟨u,rfl,ru⟩:=BL r;cases ru;show wpAny _ _ (evalAll [(do let v <- eval (.Lambda params body scope lpos) X.env;standAt pos;pure v)]) _ _ s1;refine wpAny_evalAll_cons (iq (JQ S LA I1 hdef hP hg1 λf cd ctv H2 s2 I2 M=>iq (k3 (iu (wpAny_evalAll_nil ?_)))));show wpAny _ _ (call (.builtin (bif W.z then "max" else "min")) [.ref a] [(Str.ofString "key",.ref f)]) _ _ s2;obtain⟨c',rfl,hc'⟩:=M.cdc;have ff:FpOk X pins H2 f:=I1.fpOk M.new M.fre;have I3:=I2.repin ff M.fn (λv z=>by cases z);refine jh (Wp W hr.in1.units0 (pins:=(f,_)::pins) (I3.ok.hd hcm) I3 (λpins' H' s' xs J hG=>?_) (λpins' H' s' x u Q1 sub J ru hG hq=>?_) (go H2 c' M.step hc')) (λv s' hv=>?_) λ_ _ z=>z
 .revert hG
  unfold SqY IsY;cases W.y<;>intro hG
  .obtain⟨its,rv,pl2,hz⟩:=J.tuple hG;exact⟨its,rv,pl2⟩
  .obtain⟨its,rv,pl2,hz⟩:=J.list hG;exact⟨its,rv,pl2.isList⟩
 .have pf:=J.pin (f,_) (j7 _ (sub _ j4));exact O9 (A:=X.A.in1) (f:=f) S L J rfl (hr.in1.mono 95) pf.1 (J.hok c' _ hG).1 (λus=>hbind _ _ _ _ us) (λs H=>hb f _ s H) ru hq
 .obtain⟨y,H',J,ry,qy⟩:=hv;exact⟨y,H',J.pins_of λp hp=>J.pin p (j7 _ (iw _ hp)),ry,qy⟩
end
section
variable{κ:Type}
open Classical in
noncomputable def IX(kp:I->Option κ)(mb:ME)(cap:Ls)(hd:Hd):List D->Option (List κ)
 |[]=>some []
 |d::r=>match mb (some d::cap) hd with
  |some (.im i,h)=>match kp i,IX kp mb cap hd r with
   |some n,some ks=>if h=hd then some (n::ks)else none
   |_,_=>none
  |_=>none
noncomputable def BW(op:κ->κ->Bool):List D->List κ->D->κ->D
 |x::r,n::ns,b,kb=>if op n kb=true then BW op r ns x n else BW op r ns b kb
 |_,_,b,_=>b
noncomputable def EG(op:κ->κ->Bool):List D->List κ->Option (D×κ)->Option D
 |x::r,n::ns,none=>EG op r ns (some (x,n))
 |x::r,n::ns,some p=>EG op r ns (if op n p.2=true then some (x,n)else some p)
 |_,_,o=>o.map (·.1)
theorem Q7(op:κ->κ->Bool):∀(r:137) (ns:List κ) (b:D) (kb:κ),EG op r ns (some (b,kb))=some (BW op r ns b kb)
 |[],_,_,_=>by simp[EG,BW]
 |_::_,[],_,_=>by simp[EG,BW]
 |x::r,n::ns,b,kb=>by
  unfold EG BW;split<;>exact Q7 op r ns _ _
noncomputable def FQ(vw:Hd->D->Option (List D))(kp:I->Option κ)(op:κ->κ->Bool)(mi:ME)(ix:73)(mb:ME):ME:=λls hd=>(mi ls hd).bind λp=>(vw p.2 p.1).bind λds=>(IX kp mb (ix.map λi=>(ls[i]?).join) p.2 ds).bind λkz=>(EG op ds kz none).map (·,p.2)
noncomputable def vwY(y:Bool):Hd->D->Option (List D):=bif y then Ad else λ_ d=>Ai d
noncomputable def mKI(i:I):Option Int:=match i with
 |.int n=>some n
 |_=>none
noncomputable def O5(op:Int->Int->Bool)(mi:ME)(ix:73)(mb:ME):ME:=FQ Ad mKI op mi ix mb
noncomputable def LK(op:Int->Int->Bool)(mi:ME)(ix:73)(mb:ME):ME:=FQ (λ_ d=>Ai d) mKI op mi ix mb
section
variable{K:Frag}
def aw{ix:73}(L:RL K ρ H ls σ)(r:RD K ρ H d v):RL K ρ H (some d::ix.map λi=>(ls[i]?).join) (some v::ix.map λi=>(σ[i]?).join):=by
 refine⟨by simp,λi d' ei=>?_⟩;cases i with
 |zero=>cases ei;exact⟨v,rfl,r⟩
 |succ j=>
  have ei:(ix.map λi=>(ls[i]?).join)[j]?=some (some d'):=ei;rw[List.getElem?_map]at ei;cases qj:ix[j]? with
  |none=>rw[qj]at ei;cases ei
  |some m=>
   rw[qj]at ei;have ei:(ls[m]?).join=some d':=102 ei;have em:ls[m]?=some (some d'):=by
    cases w:ls[m]? with
    |none=>rw[w]at ei;cases ei
    |some z=>rw[w]at ei;simpa using ei
   obtain⟨v,ev,rv⟩:=L.ob m d' em;refine⟨v,?_,rv⟩;show(ix.map λi=>(σ[i]?).join)[j]?=some (some v);rw[List.getElem?_map,qj];simp[ev]
def RO(kp:I->Option κ)(K:Frag)(ρ:111)(H:Hp):Option (D×κ)->Option (V×V×κ)->Prop
 |none,none=>True
 |some d,some p=>RD K ρ H d.1 p.1/\d.2=p.2.2/\∃i,kp i=some d.2/\RD K ρ H (.im i) p.2.1
 |_,_=>False
theorem Q5(W:Wy κ){ix:73}(hb:RE K tb mb)(ev:∀ρ H,RH K ρ H hd->RD K ρ H d1 (.ref a)->∃xs,SqY W.y K H a xs/\RDs K ρ H ds xs):∀(rs:137) (ns:List κ) (j:Nat) (od:Option (D×κ)) (o:Option (V×V×κ)) (ρ:111) (H:Hp) (Q:VK) (z:D),ds.drop j=rs->j<=97 ->
 IX W.kp mb (ix.map λi=>(ls[i]?).join) hd rs=some ns->EG W.op rs ns od=some z->RH K ρ H hd->RL K ρ H ls σ->H c=some (.ext (cdF c q))->RD K ρ H d1 (.ref a)->RO W.kp K ρ H od o ->
 (∀ρ' H' v,Ext ρ H ρ' H'->RH K ρ' H' hd->RD K ρ' H' z v->Q v H') ->
 ET (W.KR K) W.op (λH xs=>SqY W.y K H a xs) (λH=>H c=some (.ext (cdF c q))) tb (ix.map λi=>(σ[i]?).join) rs.length j o H Q
 |[],ns,j,od,o,ρ,H,Q,z,hr,hj,e,ez,R,L,hc,r1,rb,k=>by
  obtain⟨xs,sq,rs⟩:=ev ρ H R r1;have hl:=rs.len;have hd0:=jm List.length hr;simp at hd0;cases od with
  |none=>simp[EG]at ez
  |some d=>cases o with
   |none=>exact rb.elim
   |some p=>
    simp only[EG,je,Option.some.injEq]at ez;subst ez;exact⟨⟨xs,sq,by omega⟩,p,rfl,k ρ H _ .refl R rb.1⟩
 |x::r,ns,j,od,o,ρ,H,Q,z,hr,hj,e,ez,R,L,hc,r1,rb,k=>by
  obtain⟨xs,sq,rs⟩:=ev ρ H R r1;have hjl:j<ds.length:=by
   have:=jm List.length hr;simp at this;omega
  rw[List.drop_eq_getElem_cons hjl]at hr;obtain⟨hxj,hr'⟩:=166 hr;obtain⟨v,hv,rv⟩:=rs.get ((List.getElem?_eq_getElem hjl).trans (jm some hxj));unfold IX at e;split at e
  .next i h e1=>
   split at e
   .next n ks e0 e2=>
    split at e
    .next eh=>
     cases e;rw[eh]at e1;refine⟨xs,v,sq,hv,hc,hb ρ _ H _ _ _ (.im i) _ R (aw L rv) e1 λρ1 H1 v1 x1 R1 rk=>?_⟩;have oc:c∉ρ:=λm=>by rcases R.mut m with⟨y,w⟩|⟨y,w⟩<;>(rw[hc]at w;cases w)
     have go:=λod o hz ho=>Q5 W hb ev r ks (j+1) od o ρ1 H1 Q z hr' hjl e2 hz R1 (L.ext R x1) (x1.keep c _ hc oc nt) (r1.ext R x1) ho λρ2 H2 w x2 R2 r2=>k ρ2 H2 w 89 R2 r2;have new:RO W.kp K ρ1 H1 (some (x,n)) (some (v,v1,n)):=⟨rv.ext R x1,rfl,i,e0,rk⟩
     refine⟨n,W.rd e0 rk,?_⟩;cases od with
     |none=>cases o with
      |none=>exact go _ _ ez new
      |some p=>exact rb.elim
     |some d=>cases o with
      |none=>exact rb.elim
      |some p=>
       obtain⟨b1,b2,i0,b3,b4⟩:=rb;have b4:=b4.ext R x1;rw[b2]at b3;refine⟨W.rd b3 b4,go _ _ ez ?_⟩;rw[b2];split
       .exact new
       .exact⟨b1.ext R x1,b2,i0,b2 ▸ b3,b4⟩
    .cases e
   .cases e
  .cases e
def Yb(W:Wy κ)(hi:RE K te mi)(hb:RE K tb mb)(TI:Ij K P q pos):RE K (QQ W K P q pos ix te tb) (FQ (vwY W.y) W.kp W.op mi ix mb):=by
 have hvw:∀{ρ H hd d v ds},RH K ρ H hd->RD K ρ H d v->vwY W.y hd d=some ds->∃a xs,v=.ref a/\SqY W.y K H a xs/\RDs K ρ H ds xs:=by
  unfold vwY SqY;cases W.y
  .exact λ_ r e=>RD.tup r e
  .exact λR r e=>RD.lst R r e
 and_intros;obtain⟨⟨d1,h1⟩,e1,hm⟩:=ij hm;obtain⟨ds,e2,hm⟩:=ij hm;obtain⟨kz,e3,hm⟩:=ij hm;obtain⟨z,ez,hm⟩:=ik hm;cases hm;refine hi ρ σ H hd ls _ d1 _ hR hL e1 λρ1 H1 v1 x1 R1 r1=>?_;obtain⟨a,xs,rfl,sq,rs⟩:=hvw R1 r1 e2;obtain⟨p',et,_,l1,l2⟩:=id TI;obtain⟨ps,hP,hG⟩:=R1.tabs (P,q,p') et;have hG':EH H1 q pos ps:=by
  rcases hG with g|⟨c,g1,g2⟩
  .exact .inl g
  .refine .inr ⟨c,?_,g2⟩;rw[g1];show #[rawInt p'.line,rawInt p'.col,Value.ref c]=_;rw[l1,l2]
 refine⟨a,97,ps,rfl,hP,hG',λH2 c step hc=>?_⟩;obtain⟨R2,x2⟩:=JA R1 hP step TI;have x12:=x1.trans R1 x2;exact Q5 W hb (λρ H R r=>by obtain⟨a2,xs,ea,sq,rs⟩:=hvw R r e2;cases ea;exact⟨xs,sq,rs⟩) ds kz 0 none none ρ1 H2 Q d rfl (jw _) e3 ez R2 (hL.ext hR x12) hc (r1.ext R1 x2) trivial λρ4 H4 w x4 R4 r4=>hQ ρ4 H4 w (x12.trans R2 x4) R4 r4
end
end
def wI(z y:Bool)(op:Int->Int->Bool)(ho:∀n m,op n m=bif z then decide (n>m)else decide (n<m)):Wy Int where
 z:=z
 y:=y
 op:=op
 KR:=λ_ _ k n=>k=.int n
 kp:=mKI
 rd:=λ{_ _ _ _ i _} e r=>by
  cases i<;>cases e;simpa only[RD,RI]using r
 cmp:=λ{_ _ _ _ s _ n _ m _ _ _ _} _ _ h1 h2 r1 r2 q=>by
  subst h1 h2;obtain⟨t1,rfl⟩:=r1;obtain⟨t2,rfl⟩:=r2;rw[ho]at q;cases z
  .exact kG (op:=.Lt) (jN s _ t1) (jN s _ t2) F.slot_int_lt F.entry_int_lt (F.args_int_lt_2 _ _) (gives_int_lt _ _ t1 t2) (λx=>nomatch x) q
  .exact kG (op:=.Gt) (jN s _ t1) (jN s _ t2) F.slot_int_gt F.entry_int_gt (F.args_int_gt_2 _ _) (gives_int_gt _ _ t1 t2) (λx=>nomatch x) q
abbrev wMx:=wI true true (λn m=>decide (n>m)) λ_ _=>rfl
abbrev wMn:=wI false true (λn m=>decide (n<m)) λ_ _=>rfl
abbrev wMt:=wI false false (λn m=>decide (n<m)) λ_ _=>rfl
def J8{κ:Type}{vw:Hd->D->Option (List D)}{kp:I->Option κ}{op:κ->κ->Bool}{ix:73}{Q:172}(h:WE mi ls hd λd x=>∃(e:D) (es:137) (kf:D->κ),vw x d=some 179/\(∀y∈e::es,∃i,kp i=some (kf y)/\mb (some y::ix.map λi=>(ls[i]?).join) x=some (.im i,x))/\Q (BW op es (es.map kf) e (kf e)) x):WE (FQ vw kp op mi ix mb) ls hd Q:=by
 obtain⟨d,x,e1,e,es,kf,e2,ek,q⟩:=h;have go:∀ys:List D,(∀y∈ys,∃i,kp i=some (kf y)/\mb (some y::ix.map λi=>(ls[i]?).join) x=some (.im i,x))->IX kp mb (ix.map λi=>(ls[i]?).join) x ys=some (ys.map kf):=by
  intro ys
  induction ys with
  |nil=>intro _;rfl
  |cons y r ih=>
   intro h;obtain⟨i,e3,e4⟩:=h y j4;unfold IX;rw[e4,ih λz hz=>h z (iw _ hz)];simp[e3]
 refine⟨_,x,?_,q⟩;simp only[FQ,e1,bind_some,e2,go _ ek,j3];exact jm (Option.map (·,x)) (Q7 op es _ e (kf e))
def US{op:Int->Int->Bool}{ix:73}{QE:172}(h:WE mi ls hd λd x=>∃(e:D) (es:137) (kf:D->Int),Ad x d=some 179/\(∀y∈e::es,mb (some y::ix.map λi=>(ls[i]?).join) x=some (.im (.int (kf y)),x))/\QE (BW op es (es.map kf) e (kf e)) x):WE (O5 op mi ix mb) ls hd QE:=
 J8 (h.mono λ_ _ ⟨e,es,kf,h1,h2,h3⟩=>⟨e,es,kf,h1,λy hy=>⟨_,rfl,h2 y hy⟩,h3⟩)
theorem Ji(kf:D->Int):∀(es:137) (b:D),BW (λn m=>decide (n>m)) es (es.map kf) b (kf b)∈b::es/\∀y∈b::es,kf y<=kf (BW (λn m=>decide (n>m)) es (es.map kf) b (kf b))
 |[],b=>⟨j4,λy hy=>by rw[jd]at hy;subst hy;exact 123 _⟩
 |e::es,b=>by
  rw[j3,BW];by_cases h:kf e>kf b
  .rw[il (by simpa using h)];obtain⟨h1,h2⟩:=Ji kf es e;refine⟨iw _ h1,λy hy=>?_⟩;rcases mem_cons.mp hy with rfl|hy
   .have:=h2 e j4;omega
   .exact h2 y hy
  .rw[ip (by simpa using h)];obtain⟨h1,h2⟩:=Ji kf es b;refine⟨?_,λy hy=>?_⟩
   .rcases mem_cons.mp h1 with q|q
    .rw[q];exact j4
    .exact iw _ (iw _ q)
   .rcases mem_cons.mp hy with rfl|hy
    .exact h2 y j4
    .rcases mem_cons.mp hy with rfl|hy
     .have:=h2 b j4;omega
     .exact h2 y (iw _ hy)
def SE{op:Int->Int->Bool}{ix:73}{QE:172}(h:WE mi ls hd λd x=>∃(e:D) (es:137) (kf:D->Int),Ai d=some 179/\(∀y∈e::es,mb (some y::ix.map λi=>(ls[i]?).join) x=some (.im (.int (kf y)),x))/\QE (BW op es (es.map kf) e (kf e)) x):WE (LK op mi ix mb) ls hd QE:=
 J8 (h.mono λ_ _ ⟨e,es,kf,h1,h2,h3⟩=>⟨e,es,kf,h1,λy hy=>⟨_,rfl,h2 y hy⟩,h3⟩)
theorem Jh(kf:D->Int):∀(es:137) (b:D),BW (λn m=>decide (n<m)) es (es.map kf) b (kf b)∈b::es/\∀y∈b::es,kf (BW (λn m=>decide (n<m)) es (es.map kf) b (kf b))<=kf y
 |[],b=>by simp[BW]
 |x::r,b=>by
  rw[j3,BW];by_cases h:decide (kf x<kf b)=true
  .rw[il h];have h:=jA h;obtain⟨h1,h2⟩:=Jh kf r x;refine⟨iw _ h1,λy hy=>?_⟩;rcases mem_cons.mp hy with rfl|hy
   .have:=h2 x j4;omega
   .exact h2 y hy
  .rw[ip h];have h:¬ kf x<kf b:=λz=>h (jI z);obtain⟨h1,h2⟩:=Jh kf r b;refine⟨?_,λy hy=>?_⟩
   .rcases mem_cons.mp h1 with e|e
    .rw[e];exact j4
    .exact iw _ (iw _ e)
   .rcases mem_cons.mp hy with rfl|hy
    .exact h2 y j4
    .rcases mem_cons.mp hy with rfl|hy
     .have:=h2 b j4;omega
     .exact h2 y (iw _ hy)
noncomputable def XH(K:Frag):R2:=λx y H Q=>∃d ds,Rep K H d x/\Rep K H (.list ds) y/\d.canLay0=true/\PyData.canLayAll0 ds=true/\d.depth<=40/\Q (.bl (!(ds.any λz=>PyData.eqv z d))) H
def ZV(K:Frag){X:Cx}(hu:X.A.units+64<cLine)(hK:X.K=K:=by rfl):OpR X (compareOp .NotIn) (XH K):=by
 subst hK;intro pins s σ H x y v u Q I rx ry h;obtain⟨d,ds,h1,h2,c1,c2,hm,q⟩:=h;obtain⟨as,q1⟩:=Cq I d x v h1 rx;have hmn:=Nat.min_le_right (PyData.depthAll ds) d.depth;obtain⟨bs,q2⟩:=Cq I _ y u h2 ry;exact PySem.SeqAt.notIn_list_reads q2 q1 c2 c1 68 ⟨.bl _,H,I,rfl,q⟩
noncomputable def Ic:D->D->Hd->Option 161
 |.im i,e,hd=>(pyD hd e).bind λy=>match y with
  |.list ds=>if i.py.canLay0=true/\PyData.canLayAll0 ds=true/\i.py.depth<=40 then some (.im (.bl (!(ds.any λz=>PyData.eqv z i.py))),hd)else none
  |_=>none
 |_,_,_=>none
def Yd{K:Frag}:RB K (XH K) Ic:=by
 intro ρ H hd d e v u Q z hd' hR h1 h2 hf hQ;unfold Ic at hf;split at hf
 .obtain⟨y,e1,hf⟩:=ij hf;split at hf
  .split at hf
   .next c=>
    cases hf;have r2:=De hR h2 e1;simp only[RD]at h1;exact⟨_,_,RI.rep h1,r2,c.1,c.2.1,c.2.2,hQ ρ H _ .refl hR 133⟩
   .cases hf
  .cases hf
 .cases hf
end L2
namespace L2
open PySem PySem.Spec PyProof.Rows
theorem MF{i:Int}:∀(L:88) (m:Nat),m<L.idxOf i->L[m]?≠some i
 |[],m,h=>by simp at h
 |y::r,m,h=>by
  rw[idxOf_cons]at h;by_cases hy:y=i
  .simp[hy]at h
  .have hy':(y==i)=false:=by simpa using hy
   rw[hy']at h;cases m with
   |zero=>simpa using hy
   |succ m=>simpa using MF r m (by simpa using h)
def Md:seqSlot? (.type "list") (dunderI "add")=pure (some (.builtin "list.__iadd__")):=PySem.seqSlot_of F.slot_list_iadd.lookup (by decide +kernel)
def UJ{E:78}{s:120}{Q:78}(ha:s.TypeIs a "list")(hb:s.TypeIs b "list")
 (hc:wpAny M A (call (.builtin "list.__iadd__") [a,b]) Q E s):wpAny M A (inplaceOp .Add a b) Q E s:=by
 unfold inplaceOp;refine jy ?_;have hfi:fillsInplaceSlot (.type "list") "add" (Operator.Add==.Add)=pure false:=by
  unfold fillsInplaceSlot;show(typeLookup (.type "list") (dunderI "add") >>= λfi=>pure (fi.isSome&&!isSeqSlot fi))=pure false;rw[F.slot_list_iadd.lookup,pure_bind];have:isSeqSlot (some (.builtin "list.__iadd__"))=true:=by decide +kernel
  rw[this];rfl
 refine iq (wpAny_typeOf ha (iq (wpAny_of_eq hfi ?_)));show wpAny M A (if false=true then _ else _) Q E s;rw[ip Bool.false_ne_true];refine iq (wpAny_binaryOp1_none (nm:="add") ha hb noFill_list_add ?_);refine iq (wpAny_of_eq Md ?_);exact iq (wpAny_rule hc)
def ipL:TIp:=λx y H Q=>∃l b xs zs,x=.ref l/\y=.ref b/\H l=some 158/\H b=some (.lst zs)/\96+zs.length<=sizeLine/\Q (.ref l) (upd H l (.lst (xs++zs)))
def Zt:PIp X .Add ipL:=by
 intro pins s σ H x y v u Q I rx ry h;obtain⟨l,b,xs,zs,rfl,rfl,hH,hB,hz,q⟩:=h;cases rx;cases ry;obtain⟨z,its,n,r,hl,e⟩:=I.lstM hH;obtain⟨z2,its2,n2,r2,hl2,e2⟩:=I.lstM hB;have hsz:129+its2.toArray.size<=sizeLine:=by rw[iy,iy];omega
 have hlong:¬ (!its.toArray.isEmpty&&Builtin.List.listTooLong (129+its2.toArray.size))=true:=by
  rw[JN hsz,Bool.and_false];exact 106
 refine UJ ⟨_,e,rfl⟩ ⟨_,e2,rfl⟩ (k6 F.slot_list_iadd ⟨_,e,rfl⟩ F.entry_list_iadd (F.args_list_iadd_2 _ _)
  (AutoSeq1.list___iadd___list_list_0 l 107 n b its2.toArray n2 hlong (by rw[iy];omega) 68) ⟨e,e2,?_⟩)
 refine⟨.ref l,_,I.lset (its':=its++its2) hH e 71 (r.append r2) ?_,rfl,q⟩;rw[jo];omega
section
variable{K:Frag}
open Classical in
noncomputable def iU:D->List D->Hd->Option 161
 |.mu n,[d],hd=>match hd[n]?,Ai d with
  |some (.lst ds),some es=>if Bu (97+es.length)then some (.im .non,hd.set n (.lst (ds++es)))else none
  |_,_=>none
 |_,_,_=>none
open Classical in
noncomputable def Fp(i:Nat)(m:ME):MS:=λls hd=>match ls[i]? with
 |some (some (.mu n))=>(m ls hd).bind λp=>match p.1 with
  |.mu k=>match p.2[n]?,p.2[k]? with
   |some (.lst ds),some (.lst es)=>if Bu (97+es.length)then some (.nx (ls.set i (some (.mu n))),p.2.set n (.lst (ds++es)))else none
   |_,_=>none
  |_=>none
 |_=>none
def YH{i:Nat}(h:RE K t m):RS K (Um i t ipL) (Fp i m):=by
 intro ρ σ H hd0 ls E f hd' hR hL hm hQ;unfold Fp at hm;split at hm
 .next n e0=>
  obtain⟨⟨d1,h1⟩,e1,hm⟩:=ij hm;dsimp only at hm;split at hm
  .next k=>
   split at hm
   .next ds es q1 q2=>
    split at hm
    .next c=>
     cases hm;obtain⟨v,v1,v2⟩:=hL.ob i _ e0;refine⟨_,v1,h ρ σ H hd0 ls _ _ _ hR hL e1 λρ1 H1 w x1 R1 r1=>?_⟩;have v3:=v2.ext hR x1;simp only[RD]at v3 r1;obtain⟨a,hn,rfl⟩:=v3;obtain⟨b,hm,rfl⟩:=r1;obtain⟨xs,f1,f2⟩:=R1.lst hn q1;obtain⟨ys,g1,g2⟩:=R1.lst hm q2;have l1:=f2.len;have l2:=g2.len;obtain⟨R2,x2⟩:=R1.put hn (o:=.lst (ds++es)) (ho:=.lst (xs++ys)) ⟨_,rfl,f2.app g2⟩;refine⟨a,b,xs,ys,rfl,rfl,f1,g1,by rw[l1,l2];exact c,hQ ρ1 _ 89 R2 _ ((hL.ext hR 89).set i ?_)⟩;simp only[RD];exact⟨a,hn,rfl⟩
    .cases hm
   .cases hm
  .cases hm
 .cases hm
def Yu{X:Cx}{i:Nat}{pos pos':Pos}(hN:X.N.Nodup)(hi:X.N[i]?=some x)(hx:Loc X.env.scope x)(he:QE K X e te me)(hf:X.fn x=true∨X.env.scope.names.lookup x=some .local:=by first|exact .inl rfl|exact .inr rfl|assumption):
 QS K X (.AugAssign (.Name x pos') .Add e pos) (Um i te ipL) (Fp i me):=⟨cV hN hi hx he.p Zt hf,YH he.r⟩
noncomputable def DF(f g:D->D->Hd->Option 161)(ma mb mc:ME):ME:=λls hd=>(186).bind λp=>(mb ls p.2).bind λq=>(f p.1 q.1 q.2).bind λr=>match r.1 with
 |.im (.bl k)=>if k=true then(mc ls r.2).bind λu=>g q.1 u.1 u.2 else some (.im (.bl false),r.2)
 |_=>none
def VC{f g:D->D->Hd->Option 161}(hr:RB K r f)(hr':RB K r' g)(ha:RE K ta ma)(hb:RE K tb mb)(hc:RE K tc mc):RE K (NH r r' ta tb tc) (DF f g ma mb mc):=by
 and_intros;obtain⟨⟨d1,h1⟩,e1,hm⟩:=ij hm;obtain⟨⟨d2,h2⟩,e2,hm⟩:=ij hm;obtain⟨⟨d3,h3⟩,e3,hm⟩:=ij hm;dsimp only at hm;refine ha ρ σ H hd ls _ d1 h1 hR hL e1 λρ1 H1 v1 x1 R1 r1=>?_;refine hb ρ1 σ H1 h1 ls _ d2 h2 R1 138 e2 λρ2 H2 v2 x2 R2 r2=>?_;refine hr ρ2 H2 h2 d1 d2 v1 v2 _ d3 h3 R2 (r1.ext R1 x2) r2 e3 λρ3 H3 w x3 R3 r3=>?_;have X3:=(89).trans R2 x3;split at hm
 .next k=>
  simp only[RD,RI]at r3;refine⟨k,r3,?_⟩;cases k with
  |false=>
   simp only[Bool.false_eq_true,jj]at hm ⊢;cases hm;exact hQ ρ3 H3 _ X3 R3 133
  |true=>
   simp only[j8]at hm ⊢;obtain⟨⟨d4,h4⟩,e4,hm⟩:=ij hm;refine hc ρ3 σ H3 h3 ls _ d4 h4 R3 (hL.ext hR X3) e4 λρ4 H4 v4 x4 R4 r4=>?_;exact hr' ρ4 H4 h4 d2 d4 v2 v4 Q d hd' R4 ((r2.ext R2 x3).ext R3 x4) r4 hm λρ' H' w x5 R5 r5=>hQ ρ' H' w ((X3.trans R3 x4).trans R4 x5) R5 r5
 .cases hm
def VQ{f g:D->D->Hd->Option 161}(ho:OpR X (compareOp op) r)(hr:RB K r f)(ho':OpR X (compareOp op') r')(hr':RB K r' g)(ha:QE K X a ta ma)(hb:QE K X b tb mb)(hc:QE K X c tc mc)
 (hm:lastMarks [op,op'] [b,c]=false:=by with_unfolding_all rfl):QT K X (.Compare a [op,op'] [b,c] pos) (Fh (NH r r' ta tb tc)) (AB (DF f g ma mb mc)):=⟨Vg ho ho' ha.p hb.p hc.p hm,Dd (VC hr hr' ha.r hb.r hc.r)⟩
def UQ{f g:D->D->Hd->Option 161}{Q:172}(h:WE ma ls hd λd x=>WE mb ls x λe y=>WP (f d e y) λr z=>∃k,r=.im (.bl k)/\(k=true->WE mc ls z λu w=>WP (g e u w) Q)/\(k=false->Q (.im (.bl false)) z)):WE (DF f g ma mb mc) ls hd Q:=by
 obtain⟨d,x,e1,e,y,e2,r,z,e3,k,rfl,h1,h2⟩:=h;cases k with
 |false=>exact⟨_,_,by simp only[DF,e1,e2,e3,bind_some,Bool.false_eq_true,jj],h2 rfl⟩
 |true=>
  obtain⟨u,w,e4,v,t,e5,q⟩:=h1 rfl;exact⟨v,t,by simp only[DF,e1,e2,e3,bind_some,j8,e4,e5],q⟩
def P4{i n:Nat}{Q:Fl->Hd->Prop}(e:ls[i]?=some (some (.mu n)))(h:WE m ls hd λd y=>∃k ds es,d=.mu k/\y[n]?=some (.lst ds)/\y[k]?=some (.lst es)/\Bu (97+es.length)/\Q (.nx (ls.set i (some (.mu n)))) (y.set n (.lst (ds++es)))):WS (Fp i m) ls hd Q:=by
 obtain⟨d,y,e1,k,ds,es,rfl,q1,q2,c,q⟩:=h;exact⟨_,_,by unfold Fp;rw[e];simp only[e1,bind_some,q1,q2,c,j8],q⟩
end
noncomputable def dkL(ns:88):List Int:=ns.foldl step_dedup []
def Qo:∀ns:List Int,(69 169).map (λi=>ns.getD i 0)=ns:=λns=>by
 apply List.ext_getElem
 .simp
 .intro i h1 h2;simp at h1;simp[h1]
def WV(ns:88):firstMet (λi=>ns.getD i 0) 169=dkL ns:=by
 unfold firstMet dkL;rw[Qo]
def XG:List V->Hp->VK->Prop:=λxs H Q=>∃(a:Addr) (ns:88),xs=[.ref a]/\H a=some (.lst 157)/\169<=1000/\∀p,H p=none->Q (.ref p) (upd H p (.set (λk=>(dkL ns).any (·==k)) (dkL ns).length))
def Wl:bootBuiltins "set"=some (.type "set"):=by decide +kernel
def U7{X:Cx}(hc:164):CallR X (.type "set") XG:=by
 intro pins s σ H xs us Q I r h;obtain⟨a,ns,rfl,ha,hl,q⟩:=h;obtain⟨u,rfl,ru⟩:=BL r;cases ru;obtain⟨_,its,n,r1,e⟩:=(show ObjOk X.prog X.w H s.heap a (.lst 157)from I.hok a _ ha)
 have i1:IntsAre its.toArray.toList ns:=RZ r1;have ln:its.length=ns.length:=by have:=r1.length;simpa using this.symm
 refine PySem.call_set_list (I.ok.hd hc) ⟨_,e,rfl,n,rfl⟩ i1 (by show 129+1<scanBound;rw[iy,ln];exact Nat.lt_of_le_of_lt (by omega:169+1<=1001) 95) λh' tk hS k=>?_;have z:129=ns.length:=by rw[iy,ln]
 rw[z,WV]at hS;have ke:∀b o,s.heap.get? b=some o->h'.get? b=some o:=λb o e=>k b o (84 e) e;exact⟨.ref 65,_,I.laid (a:=65) (o:=.set (λk=>(dkL ns).any (·==k)) (dkL ns).length) (t':=tk) ke (ir _) hS,rfl,q _ (I.hok.fresh (ir _))⟩
noncomputable def P9(t:TE):TE:=X0 (tCB XG (BJ t BM))
noncomputable def Dh(m:MA):ME:=λls hd=>(m ls hd).bind λp=>match Av p.1 with
 |some ns=>if 169<=1000 then some (.im (.int (dkL ns).length),p.2)else none
 |none=>none
def Ss{K:Frag}(h:RN K t m):RE K (P9 t) (Dh m):=by
 and_intros;obtain⟨⟨ds,h1⟩,e1,hm⟩:=ij hm;dsimp only at hm;split at hm
 .next ns en=>
  split at hm
  .next hl=>
   cases hm;refine h ρ σ H hd ls _ ds hd' hR hL e1 λρ1 H1 a xs x1 R1 na oa ea r=>?_;have ex:xs=ns.map V.int:=by
    rw[Bt en]at r;exact RDs.ints r
   subst ex;refine⟨a,ns,rfl,ea,hl,λp np=>?_⟩;obtain⟨R2,x2⟩:=R1.hid np (ho:=.set (λk=>(dkL ns).any (·==k)) (dkL ns).length);exact⟨p,_,_,rfl,AH,hQ ρ1 _ _ 89 R2 133⟩
  .cases hm
 .cases hm
def T3(K:Frag){X:Cx}{p p1 pos pos1:Pos}(hm:X.mg "len"=none)(hs:X.mg "set"=none)(h:QN K X e te m)(hc:X.calm=true:=by rfl)(hg:Gl X "len":=by rfl)(hg2:Gl X "set":=by rfl)
 (he:starEach [e] X.env=109::starEach [] X.env:=by rfl) (he2:starEach [.Call (.Name "set" p1) [e] [] pos1] X.env=[(false,eval (.Call (.Name "set" p1) [e] [] pos1) X.env)]:=by rfl):
 QE K X (.Call (.Name "len" p) [.Call (.Name "set" p1) [e] [] pos1] [] pos) (P9 te) (Dh m):=
 ⟨ZN hm (CB (U7 hc) hg2 hs Wl (Bm h.p CC he) 95 95 he (by rfl)) hg he2,Ss h.r⟩
def SA{QE:172}(h:WA m ls hd λds x=>∃ns:List Int,ds=ns.map (λi=>D.im 135)/\169<=1000/\QE (.im (.int (dkL ns).length)) x):WE (Dh m) ls hd QE:=by
 obtain⟨ds,x,e,ns,rfl,hl,q⟩:=h;refine⟨_,x,?_,q⟩;unfold Dh;rw[e];dsimp only[bind_some];rw[Hu];dsimp only;rw[il hl]
theorem Tz{x:Int}:∀(ns:88),(∀n∈ns,n=x)->ns.foldl step_dedup [x]=[x]
 |[],_=>rfl
 |n::ns,h=>by
  rw[foldl_cons,h n 71];have:step_dedup [x] x=[x]:=by unfold step_dedup;rw[il 71]
  rw[this];exact Tz ns λm hm=>h m (by simp[hm])
theorem LZ:∀(ns l:88),l.length<=(ns.foldl step_dedup l).length
 |[],l=>ir _
 |n::ns,l=>by
  rw[foldl_cons];refine j6 ?_ (LZ ns _);unfold step_dedup;split<;>simp
theorem Tw{x:Int}:∀(ns:88),(∃n∈ns,n≠x)->2<=(ns.foldl step_dedup [x]).length
 |[],h=>by obtain⟨n,hn,_⟩:=h;cases hn
 |n::ns,h=>by
  rw[foldl_cons];by_cases e:n=x
  .subst e;have:step_dedup [n] n=[n]:=by unfold step_dedup;rw[il 71]
   rw[this];refine Tw ns ?_;obtain⟨m,hm,ne⟩:=h;rcases mem_cons.mp hm with rfl|hm
   .exact absurd rfl ne
   .exact⟨m,hm,ne⟩
  .have:step_dedup [x] n=[x,n]:=by unfold step_dedup;rw[ip (by simpa using λz:x=n=>e z.symm)];rfl
   rw[this];exact LZ ns [x,n]
def ft(x:Int)(ns:88):1<((dkL (x::ns)).length:Int)↔¬ ∀n∈ns,n=x:=by
 have e:dkL (x::ns)=ns.foldl step_dedup [x]:=by
  unfold dkL;rw[foldl_cons];have:step_dedup [] x=[x]:=by unfold step_dedup;rw[ip 71];rfl
  rw[this]
 rw[e];constructor
 .intro h q;rw[Tz ns q]at h;simp at h
 .intro h;have:2<=(ns.foldl step_dedup [x]).length:=Tw ns (by
   apply 159;intro z;exact h λn hn=>159 λne=>z ⟨n,hn,ne⟩)
  omega
end L2
namespace L2
open PySem PySem.W
noncomputable def tg1:Expr->List Str
 |.Name x _=>[x]
 |_=>[]
def tg2:Expr->List Str
 |.Tuple es _ _=>es.flatMap tg1
 |e=>tg1 e
def tgN:Expr->List Str
 |.Tuple es _ _=>es.flatMap tg2
 |e=>tg1 e
noncomputable def frN(X:Cx)(ix:73):List Str:=ix.filterMap λi=>X.N[i]?
noncomputable def ndB:List Str->Bool
 |[]=>true
 |x::xs=>!xs.elem x&&ndB xs
theorem GE:∀{l:190},ndB l=true->l.Nodup
 |[],_=>List.nodup_nil
 |x::xs,h=>by
  obtain⟨h1,h2⟩:=Bool.and_eq_true_iff.mp h;refine nodup_cons.mpr ⟨λhm=>?_,GE h2⟩;rw[List.elem_eq_true_of_mem hm]at h1;cases h1
section
variable{K:Frag}{X:Cx}{iter:Expr}{spos:Pos}{k i:Nat}
def qgA(hN:ndB X.N=true:=by kernel_rfl)(hi:X.N[i]?=some x:=by rfl)(hx:Loc X.env.scope x:=by first|exact Or.inl rfl|exact Or.inr rfl)(hf:X.fn x=true∨X.env.scope.names.lookup x=some .local:=by first|exact .inl rfl|exact .inr rfl):QG K X (.Name x pos) (EB i) (AD i):=Z3 K (GE hN) hi hx hf
def qnA(hi:QI K X tg iter wi mi)(hg:∀s H ex,QG K (cCx X (tgN tg++frN X ix) scope s H ex) tg g n)(hf:∀s H ex,QF K (cCx X (tgN tg++frN X ix) scope s H ex) ifs tf mf)(he:∀s H ex,QE K (cCx X (tgN tg++frN X ix) scope s H ex) elt te me)
 (hc:X.calm=true:=by rfl) (S:CSc X scope (frN X ix) ix:=by exact⟨rfl,by decide +kernel,rfl,rfl,rfl,by decide +kernel⟩) (hs:∀x,foldedSetIterable iter X.env x=pure x:=by intro _;rfl) (hk:(tgN tg).length=k:=by rfl):
 QN K X 187 (GT k ix wi g tf te) (Ab k ix mi n mf me):=by
 subst hk;exact Yz K hc S hi hg hf he hs
def gP(hi:QI K X tg iter wi mi)(hg:∀s H ex,QG K (cCx X (tgN tg++frN X ix) scope s H ex) tg g n)(hf:∀s H ex,QF K (cCx X (tgN tg++frN X ix) scope s H ex) ifs tf mf)(he:∀s H ex,QE K (cCx X (tgN tg++frN X ix) scope s H ex) elt te me)
 (hsw:swapsWith 187 (some (.Name y py)) spos.line X.env=pure true:=by rfl) (hN:ndB X.N=true:=by kernel_rfl) (hiN:X.N[i]?=some y:=by rfl) (hy:X.env.scope.names.lookup y=some .local:=by rfl)
 (hc:X.calm=true:=by rfl) (S:CSc X scope (frN X ix) ix:=by exact⟨rfl,by decide +kernel,rfl,rfl,rfl,by decide +kernel⟩) (hs:∀x,foldedSetIterable iter X.env x=pure x:=by intro _;rfl) (hk:(tgN tg).length=k:=by rfl):
 QS K X (.Assign [.Name y py] 187 spos) (FF (GT k ix wi g tf te) (EB i)) (AE i (AU (Ab k ix mi n mf me))):=by
 subst hk;exact Yo K (GE hN) hiN hy hc S hi hg hf he hsw hs
def qdA(hi:QI K X tg iter wi mi)(hg:∀s H ex,QG K (cCx X (tgN tg++frN X ix) scope s H ex) tg g n)(hf:∀s H ex,QF K (cCx X (tgN tg++frN X ix) scope s H ex) ifs tf mf)(hkk:∀s H ex,QE K (cCx X (tgN tg++frN X ix) scope s H ex) k' tk mk)(hv:∀s H ex,QE K (cCx X (tgN tg++frN X ix) scope s H ex) v tv mv)
 (hc:X.calm=true:=by rfl) (S:CSc X scope (frN X ix) ix:=by exact⟨rfl,by decide +kernel,rfl,rfl,rfl,by decide +kernel⟩) (hs:∀x,foldedSetIterable iter X.env x=pure x:=by intro _;rfl) (hk:(tgN tg).length=k:=by rfl):
 QE K X (.DictComp k' v [⟨tg,iter,ifs,0⟩] scope pos) (G7 (.dK []) k ix wi g tf (KF tk tv)) (KH (Ho k ix mi n mf [] (IR mk mv))):=by
 subst hk;exact Va K hc S hi hg hf hkk hv hs
def qsA(he:QE K X e te me)(hs:swapsWith e (some (.Name x pos')) pos.line X.env=pure false:=by rfl)(hN:ndB X.N=true:=by kernel_rfl)(hi:X.N[i]?=some x:=by rfl)(hx:Loc X.env.scope x:=by first|exact Or.inl rfl|exact Or.inr rfl)(hf:X.fn x=true∨X.env.scope.names.lookup x=some .local:=by first|exact .inl rfl|exact .inr rfl):
 QS K X (.Assign [.Name x pos'] e pos) (FF te (EB i)) (AE i me):=bo K (GE hN) hi hx he hs hf
end
end L2
namespace L2
open PySem PySem.Spec PyProof.Rows PySem.W
noncomputable abbrev Tb:=Addr×Str×Nat×Nat
noncomputable def Ze(ts:List Tb):Obj:={ cls:=.str "tables" 0,data:=.fields (ts.flatMap λt=>[.ref t.1,.str t.2.1 0,.int t.2.2.1 0,.int t.2.2.2 0]).toArray }
noncomputable def Bh(K:Frag)(ts:List Tb):Frag:=(K.filter λp=>!(ts.map (·.1)).contains p.1)++[(mainGlobals,Ze ts)]
theorem SJ:∀ts:List Tb,Mq (ts.flatMap λt=>[Value.ref t.1,.str t.2.1 0,.int t.2.2.1 0,.int t.2.2.2 0])=ts.map λt=>(t.1,t.2.1,⟨t.2.2.1,t.2.2.2,0,0⟩)
 |[]=>rfl
 |t::r=>by
  rw[List.flatMap_cons,j3,<- SJ r];rfl
def HP(K:Frag)(ts:List Tb):Co (Bh K ts)=ts.map λt=>(t.1,t.2.1,⟨t.2.2.1,t.2.2.2,0,0⟩):=by
 unfold Co Bh;rw[List.getLast?_concat];show Mq _=_;rw[<- SJ ts]
theorem Fy{L:111}{a:Addr}(ha:a∉L):∀K:Frag,(K.filter λp=>!L.contains p.1).lookup a=K.lookup a
 |[]=>rfl
 |(b,o)::r=>by
   have ih:=Fy ha r;rw[jY];by_cases hb:b∈L
   .have h1:(!L.contains (b,o).1)=false:=by simp[hb]
    have h2:(a==b)=false:=beq_eq_false_iff_ne.mpr λz=>ha (z ▸ hb);rw[ip (by rw[h1];decide),jg,h2,ih]
   .have h1:(!L.contains (b,o).1)=true:=by simp[hb]
    rw[il h1,jg,jg,ih]
theorem Ht{L:111}{P:Addr}(hP:P∈L):∀K:Frag,(K.filter λp=>!L.contains p.1).lookup P=none
 |[]=>rfl
 |(b,o)::r=>by
   have ih:=Ht hP r;rw[jY];by_cases hb:b∈L
   .rw[ip (by simp[hb])];exact ih
   .have h2:(P==b)=false:=beq_eq_false_iff_ne.mpr λz=>hb (z ▸ hP);rw[il (by simp[hb]),jg,h2];exact ih
section
variable{K:Frag}{ts:List Tb}
def Hf{a:Addr}{o:Obj}(ha:a∉ts.map (·.1))(e:K.lookup a=some o):(Bh K ts).lookup a=some o:=by
 unfold Bh;rw[jX,Fy ha,e];rfl
def Zd{h:Heap}(X:K.In h){g:Obj}(hg:K.lookup mainGlobals=some g)(hP:mainGlobals∉ts.map (·.1)):(Bh K ts).In h:=λa o e=>by
 unfold Bh at e;rw[jX]at e;by_cases ha:a∈ts.map (·.1)
 .rw[Ht ha,none_or]at e;have h2:(a==mainGlobals)=false:=beq_eq_false_iff_ne.mpr λz=>hP (z ▸ ha);rw[jg,h2]at e;cases e
 .rw[Fy ha]at e;cases k:K.lookup a with
  |some o'=>rw[k]at e;cases e;exact X _ _ k
  |none=>
   rw[k,none_or,jg]at e;by_cases hm:a=mainGlobals
   .subst hm;rw[hg]at k;cases k
   .rw[beq_eq_false_iff_ne.mpr hm]at e;cases e
def Zc(hM:mainGlobals∉ts.map (·.1)){P:Addr}(hP:P∈ts.map (·.1)):(Bh K ts).lookup P=none:=by
 unfold Bh;have h2:(P==mainGlobals)=false:=beq_eq_false_iff_ne.mpr λz=>hM (z ▸ hP);rw[jX,Ht hP,none_or,jg,h2];rfl
def Fun.mark{st:Stmt}(D:Fun K x qual st f fd)(X:K.In h)(hP:∀P∈ts.map (·.1),h.get? P=some (tabObj #[])):Fun (Bh K ts) x qual st f fd:=by
 have neP:∀a o,K.lookup a=some o->o≠tabObj #[]->a∉ts.map (·.1):=λa o e n z=>by
  have:=X _ _ e;rw[hP a z]at this;exact n (102 this).symm
 obtain⟨⟨oc,od,kV,doc,pm,an,cdv,ct,osl,rfl,lk,hcd⟩,kp⟩:=D;have hf:f∉ts.map (·.1):=neP f _ lk (λz=>by cases z);refine⟨⟨oc,od,kV,doc,pm,an,cdv,ct,osl,rfl,Hf hf lk,?_⟩,?_⟩
 .unfold codeIn at hcd ⊢;split at hcd
  .next c0=>
   split at hcd
   .next vs sl k=>
    have hc:c0∉ts.map (·.1):=neP c0 _ k (λz=>by
     have:vs=#[]:=by injection z with _ _ z _;injection z
     rw[this]at hcd;cases hcd)
    simp only[Hf hc k];exact hcd
   .cases hcd
  .cases hcd
 .unfold keepIn;simp only[Hf hf lk]
end
def f9{K:Frag}(hS:SqL K H a xs)(hO:∀ys,H a≠some (.lst ys)):RoL K H a xs:=by
 rcases hS with(h|h)|h
 .exact absurd h (hO xs)
 .exact .inl h
 .exact .inr h
def TY{Pg:Program}{w:World}{K:Frag}{mg mb:130}{k:Nat}{fa:Addr}{fd:FuncData}{ts:List Tb}{s₁:120}{vs:83}{F:118}
 (KX:K.In s₁.heap) (hns:s₁.heap.Ns mainGlobals mg) (hb:s₁.heap.Ns builtinsNs mb) (hbb:∀x:Str,x≠"__name__"->mb x=bootBuiltins x) (hlim:s₁.heap.NoLimit) (hg:s₁.gens=#[])
 (ha:s₁.heap.get? a=some { cls:=.type "list",data:=.seq 86 }) (hi:IntsAre vs ns) (hl:169<=sizeLine) (hr:Room k callerA)
 (hT:∀P∈ts.map (·.1),∃cc,s₁.heap.TableAt cc P #[]) (hPK:∀P∈ts.map (·.1),K.lookup P=none) (htab:Co K=ts.map λt=>(t.1,t.2.1,⟨t.2.2.1,t.2.2.2,0,0⟩))
 (Fn:∀base:Heap,K.In base->base.Ns mainGlobals mg->(∀b o,b∉ts.map (·.1)->b≠a->s₁.heap.get? b=some o->base.get? b=some o)->FnOk Pg w K mg base CX0 k fa fd [x] (spF K 1 F)) (hbind:∀(s:120) (u:168),BindsTo s fd ⟨[u],[]⟩ [(x,u)])
 (hF:∃hd',F [.ro ns] []=some (.im (.bl true),hd')):
 codeAny (model Pg w) callerA (.call (.ref fa) ⟨[.ref a],[]⟩) (λr s'=>r=.ok (.ret (.bool true))/\OldK s₁.heap s'.heap/\s'.os=s₁.os/\AllBare s'.gens) s₁:=by
 have rv:=Lo hi;have lenV:=hi.length;have hP:∀P∈ts.map (·.1),s₁.heap.get? P=some (tabObj #[]):=λP h=>let ⟨cc,t⟩:=hT P h;t.2
 have haP:a∉ts.map (·.1):=λz=>by rw[hP a z]at ha;cases ha
 have core:∀H:Hp,(∀b,b∉ts.map (·.1)->H b=none∨∃o xs,H b=some (.frz o 158))->(∀P∈ts.map (·.1),H P=some (.tbl #[]))->SqL K H a 157->HOk Pg w H s₁.heap->(∀b,H b≠none->b=a∨b∈ts.map (·.1))->(H a≠none->K.lookup a=none) ->
  codeAny (model Pg w) callerA (.call (.ref fa) ⟨[.ref a],[]⟩) (λr s'=>r=.ok (.ret (.bool true))/\OldK s₁.heap s'.heap/\s'.os=s₁.os/\AllBare s'.gens) s₁:=by
  intro H hO hHP hS hok hA hK;have base_of:∀{b:Addr} {o:Obj},s₁.heap.get? b=some o->H b=none->(Gm s₁.heap H).get? b=some o:=λe n=>WK e n;have noA:∀{b:Addr} {o:Obj} {es:Array DictEntry} {ep:Nat},s₁.heap.get? b=some o->o.data=.dict es ep->H b=none:=λ{b o es ep} e d=>by
   cases q:H b with
   |none=>rfl
   |some u=>
    rcases hA b (by rw[q];simp)with e'|e'
    .subst e';rw[ha]at e;cases e;have d':Data.seq 86 _=Data.dict es ep:=d;cases d'
    .rw[hP b e']at e;cases e;cases d
  have nsK:∀{b:Addr} {m:130},s₁.heap.Ns b m->(Gm s₁.heap H).Ns b m:=λ{b m} ⟨o,es,ep,e,d,r⟩=>⟨o,es,ep,base_of e (noA e d),d,r⟩
  have hKb:K.In (Gm s₁.heap H):=λb o e=>base_of (KX b o e) (by
   cases q:H b with
   |none=>rfl
   |some u=>
    rcases hA b (by rw[q];simp)with e'|e'
    .subst e';rw[hK (by rw[q];simp)]at e;cases e
    .rw[hPK b e']at e;cases e)
  have hM:Mod K mg (Gm s₁.heap H):=⟨hKb,nsK hns,⟨mb,nsK hb,hbb⟩,let ⟨mc,h1,h2⟩:=hlim;⟨mc,nsK h1,h2⟩⟩
  have e0:Env0 Pg w K mg (Gm s₁.heap H) callerA [] s₁ H:=⟨rfl,hM,λb o e=>ZZ e,Nat.le_of_eq (Tf _ _),trivial,λb hb=>absurd (show b∈([]:List Addr)from hb) 71,hok,.of_eq hg⟩
  have hsp:spF K 1 F [.ref a] H (λv _=>v=.bl true) λ_ _ _=>False:=by
   obtain⟨hd',e⟩:=hF;refine⟨rfl,[],[],[.ro ns],.im (.bl true),hd',⟨rfl,List.nodup_nil,λy hy=>?_,λn o a h=>by simp at h⟩,?_,e,λρ' H' v _ _ r=>?_⟩
   .rw[htab]at hy;obtain⟨t,ht,rfl⟩:=mem_map.mp hy;exact⟨#[],hHP t.1 (mem_map.mpr ⟨t,ht,rfl⟩),.inl rfl⟩
   .simp only[RDs,RD];refine⟨_,_,rfl,⟨a,rfl,f9 hS λys z=>?_⟩,rfl⟩;rcases hO a haP with q|⟨o,ys,q⟩<;>(rw[q]at z;cases z)
   .simpa only[RD,RI]using r
  refine kr ((Fn _ hKb (nsK hns) λb o n1 n2 e=>base_of e (by
   cases q:H b with
   |none=>rfl
   |some u=>
    rcases hA b (by rw[q];simp)with e'|e'
    .exact absurd e' n2
    .exact absurd e' n1)).run callerA [] s₁ H ⟨[.ref a],[]⟩ [.ref a] [.ref a] _ _ hr e0 (hbind s₁ (.ref a)) (.cons rfl .nil) hsp) λr s' h=>?_
  cases r with
  |error e=>exact h.elim
  |ok fl=>
   cases fl with
   |next=>exact False.elim h
   |brk=>exact False.elim h
   |cont=>exact False.elim h
   |ret u=>
    obtain⟨v,H',os,bare,un,hok',r',q⟩:=h;have q':v=.bl true:=q;subst q';obtain rfl:u=Value.bool true:=r';have keep:∀b o,b∉ts.map (·.1)->s₁.heap.get? b=some o->s'.heap.get? b=some o:=λb o nb e=>by
     cases q:H b with
     |none=>exact un.keep b o e q (by intro z;exact absurd (show b∈([]:List Addr)from z) 71) 71
     |some u=>
      rcases hO b nb with z|⟨ob,xs,z⟩
      .rw[q]at z;cases z
      .have z2:=un.frzs b ob _ z;obtain⟨e1,_⟩:=hok b _ z;obtain⟨e2,_⟩:=hok' b _ z2;rw[e]at e1;cases e1;exact e2
    refine⟨rfl,⟨λb o e=>?_,λb o e=>?_⟩,os,bare⟩
    .by_cases nb:b∈ts.map (·.1)
     .obtain⟨cc,tb⟩:=hT b nb;obtain⟨more,hm⟩:=un.tbls b #[] (hHP b nb);have hb':s'.heap.get? b=some (tabObj (#[]++more)):=hok' b _ hm;rw[hP b nb]at e;cases e;exact .inr (.inl ⟨tb.isCodeTable,rfl,#[],more,rfl,hb'⟩)
     .exact .inl (keep b o nb e)
    .by_cases nb:b∈ts.map (·.1)
     .obtain⟨more,hm⟩:=un.tbls b #[] (hHP b nb);exact⟨_,hok' b _ hm⟩
     .exact⟨o,keep b o nb e⟩
 cases hk:K.lookup a with
 |some o=>
  have e:=KX a o hk;rw[ha]at e;cases e;refine core (λb=>if b∈ts.map (·.1)then some (.tbl #[])else none) (λb nb=>.inl (ip nb)) (λP hp=>il hp) (.inr ⟨_,86,_,hk,rfl,rfl,rfl,by rw[iy,lenV];exact hl,by simpa using rv⟩) (λb u z=>?_) (λb z=>?_) λz=>absurd (ip haP) z
  .by_cases hb:b∈ts.map (·.1)
   .have z':=(il hb).symm.trans z;cases z';exact hP b hb
   .have z':=(ip hb).symm.trans z;cases z'
  .by_cases hb:b∈ts.map (·.1)
   .exact .inr hb
   .exact absurd (ip hb) z
 |none=>
  refine core (λb=>if b∈ts.map (·.1)then some (.tbl #[])else if b=a then some (.frz { cls:=.type "list",data:=.seq 86 } (.lst 157))else none) (λb nb=>?_) (λP hp=>il hp) (.inl (.inr ⟨{ cls:=.type "list",data:=.seq 86 },(ip haP).trans (il rfl)⟩)) (λb u z=>?_) (λb z=>?_) λ_=>hk
  .rw[ip nb];by_cases hb:b=a
   .exact .inr ⟨_,_,il hb⟩
   .exact .inl (ip hb)
  .by_cases hp:b∈ts.map (·.1)
   .have z':=(il hp).symm.trans z;cases z';exact hP b hp
   .have z:=(ip hp).symm.trans z;by_cases hb:b=a
    .have z':=(il hb).symm.trans z;cases z';subst hb;exact⟨ha,by rw[ja];exact hl,vs,_,rv,ha⟩
    .have z':=(ip hb).symm.trans z;cases z'
  .by_cases hp:b∈ts.map (·.1)
   .exact .inr hp
   .by_cases hb:b=a
    .exact .inl hb
    .exact absurd ((ip hp).trans (ip hb)) z
def walkL{l:OpenLaw}{n k:Nat}{XP:(Str->Option Value)->Heap->Prop}{YP:World->Heap->Prop}{d:DefRec}{K:Params->Frag}{F:118}(xs:List (Str×Str×Nat×Nat))
 (hn:l.most=some n) (hn2:n<=sizeLine) (hdf:d.params.defaults=[]) (hr:Room k callerA) (hdr:∀x∈xs,∃dr,(recsOf q).find? (λe=>e.name==x.1)=some dr)
 (hF:∀ns:List Int,∃hd',F [.ro ns] []=some (.im (.bl true),hd'))
 (hY:∀(w:World) (h:Heap),YP w h->(K w.params).In h)
 (G:∀(w:World) (mg:130) (fa:Addr) (h:Heap) (c P:Str->Addr),(K w.params).In h->h.Ns mainGlobals mg->mg d.name=some (.ref fa) ->
  (∀x∈xs,h.get? (P x.1)=some (tabObj #[])/\CodeHd h (c x.1) (P x.1)/\∃a o fd,mg x.1=some (.ref a)/\h.get? a=some o/\o.data=.func fd/\fd.code=.ref (c x.1)) ->
  (∃g,(K w.params).lookup mainGlobals=some g)/\∃fd:FuncData,(∀(s:120) (u:168),BindsTo s fd ⟨[u],[]⟩ [("_law_script",u)])/\
   ∀base:Heap,(Bh (K w.params) (xs.map λx=>(P x.1,x.2))).In base->base.Ns mainGlobals mg->(∀x∈xs,CodeHd base (c x.1) (P x.1))->(∀x∈xs,base.BuiltinsAt mg (P x.1))->FnOk l.prog w (Bh (K w.params) (xs.map λx=>(P x.1,x.2))) mg base CX0 k fa fd ["_law_script"] (spF (Bh (K w.params) (xs.map λx=>(P x.1,x.2))) 1 F)):
 PySem.W.WalkO q loose XP YP l.row.toRowW d [] (λf vs=>PySem.call f vs):=by
 refine Att.attach_call hn hdf λw s₀ s₁ mg mb fa o pm cd doc a vs ns Gr Y ho hd hcd hmg hobj hints hlen hg=>?_;have KX:=hY w _ Y;have each:∀x:Str,∃cp:Addr×Addr,(∃y∈xs,y.1=x)->(∃cc,s₁.heap.TableAt cc cp.2 #[])/\CodeHd s₁.heap cp.1 cp.2/\∃a o fd,mg x=some (.ref a)/\s₁.heap.get? a=some o/\o.data=.func fd/\fd.code=.ref cp.1:=by
  intro x;by_cases hx:∃y∈xs,y.1=x
  .obtain⟨y,hy,rfl⟩:=hx;obtain⟨dr,hdr⟩:=hdr y hy;have hnm:dr.name=y.1:=beq_iff_eq.mp (List.find?_some (p:=λe:DefRec=>e.name==y.1) hdr);obtain⟨a',o',fd',c,P,h1,h2,h3,h4,h5,h6⟩:=Gr.T.tab dr (List.mem_of_find?_eq_some hdr);rw[hnm]at h1;exact⟨(c,P),λ_=>⟨⟨_,h6⟩,CodeHd.of h5 h6,a',o',fd',h1,h2,h3,h4⟩⟩
  .exact⟨(0,0),λh=>absurd h hx⟩
 obtain⟨cp,hcp⟩:=Classical.skolem.mp each;have hcp:∀x∈xs,(∃cc,s₁.heap.TableAt cc (cp x.1).2 #[])/\CodeHd s₁.heap (cp x.1).1 (cp x.1).2/\∃a o fd,mg x.1=some (.ref a)/\s₁.heap.get? a=some o/\o.data=.func fd/\fd.code=.ref (cp x.1).1:=λx hx=>hcp x.1 ⟨x,hx,rfl⟩;have hts:∀P∈(xs.map λx=>((cp x.1).2,x.2)).map (·.1),∃x∈xs,P=(cp x.1).2:=λP hP=>by
  obtain⟨t,ht,rfl⟩:=mem_map.mp hP;obtain⟨x,hx,rfl⟩:=mem_map.mp ht;exact⟨x,hx,rfl⟩
 have hP:∀x∈xs,s₁.heap.get? (cp x.1).2=some (tabObj #[]):=λx hx=>by
  obtain⟨⟨cc,t⟩,_⟩:=hcp x hx;exact t.2
 have hmP:mainGlobals∉(xs.map λx=>((cp x.1).2,x.2)).map (·.1):=λz=>by
  obtain⟨x,hx,ez⟩:=hts _ z;obtain⟨o,es,ep,e,dd,_⟩:=Gr.T.g;rw[ez,hP x hx]at e;cases e;cases dd
 obtain⟨⟨g,hgl⟩,fd,hb,hFn⟩:=G w mg fa _ (λx=>(cp x).1) (λx=>(cp x).2) KX Gr.T.g hmg λx hx=>⟨hP x hx,(hcp x hx).2⟩
 refine TY (ts:=xs.map λx=>((cp x.1).2,x.2)) (K:=Bh (K w.params) (xs.map λx=>((cp x.1).2,x.2))) (Zd KX hgl hmP) Gr.T.g Gr.T.b Gr.T.builtins Gr.T.nolimit hg hobj hints (j6 hlen hn2) hr (λP hp=>by obtain⟨x,hx,rfl⟩:=hts P hp;exact(hcp x hx).1) (λP hp=>Zc hmP hp) (HP _ _) (λbase kb nb keep=>hFn base kb nb (λx hx=>?_) λx hx=>?_) hb (hF ns)
 .obtain⟨oc,vs',file,tf,flags,tg,inF,text,tt,e1,r1,r2,r3,r4,r5,r6,r7,r8,hne⟩:=(hcp x hx).2.1;have hn:(cp x.1).1∉(xs.map λx=>((cp x.1).2,x.2)).map (·.1):=λz=>by
   obtain⟨y,hy,ez⟩:=hts _ z;rw[ez,hP y hy]at e1;cases e1;cases r1
  exact⟨oc,vs',file,tf,flags,tg,inF,text,tt,keep (cp x.1).1 oc hn (λz=>by rw[z,hobj]at e1;cases e1;exact absurd (show Value.type "list"=Value.type "code" from r1) 95) e1,r1,r2,r3,r4,r5,r6,r7,r8,hne⟩
 .obtain⟨bm,ob,b1,b2,b3,b4,b5,b6⟩:=Gr.T.bmain;have nP:∀y∈xs,bm≠(cp y.1).2:=λy hy z=>by rw[z,hP y hy]at b3;cases b3;cases b4
  have hn:bm∉(xs.map λx=>((cp x.1).2,x.2)).map (·.1):=λz=>by
   obtain⟨y,hy,ez⟩:=hts _ z;exact nP y hy ez
  refine⟨bm,ob,b1,b2,λz=>?_,nP x hx,keep bm ob hn (λz=>by rw[z,hobj]at b3;cases b3;exact absurd (show Value.type "list"=Value.type "module" from b4) 95) b3,b4,b5,b6⟩;obtain⟨o,es,ep,e,dd,_⟩:=Gr.T.g;rw[<- z,b3]at e;cases e;rw[b6]at dd;cases dd
noncomputable def UZ(o:Obj):Option Addr:=match o.data with
 | .fields vs=>(match (vs[11]?:Option Value)with
  |some (Value.ref P)=>some P
  | _=>none)
 |_=>none
def aX{K:Frag}(X:K.In h)(hc:CodeHd h c P)(k:K.lookup c=some o)(e:UZ o=some p):P=p:=by
 obtain⟨o',vs,file,tf,flags,tg,inF,text,tt,e1,e2,e3,e4,_⟩:=hc;have:=X _ _ k;rw[e1]at this;cases this;simp only[UZ,e3,e4]at e;exact 102 e
end L2
namespace L2
open PySem PySem.W PyProof.Rows
noncomputable abbrev FD:=List D->Hd->Option 161
structure EnK where
 P:Program
 w:World
 K:Frag
 mg:Str->Option Value
 base:Heap
structure Df where
 x:Str
 st:Stmt
 ps:List Str
 k:Nat
 F:FD
def Dn(E:EnK)(e:Df):Prop:=∃f fd,DefAt E.K E.mg e.x e.st f fd e.ps
def Dl(E:EnK)(e:Df)(ps:Pos):Prop:=∃f fd c P,DefAt E.K E.mg e.x e.st f fd e.ps/\LamC E.K E.mg E.base fd c P ((e.x++".<locals>.")++"<lambda>") ps
def Kn(E:EnK)(e:Df):Prop:=∃f fd,DefAt E.K E.mg e.x e.st f fd e.ps/\FnOk E.P E.w E.K E.mg E.base CX0 e.k f fd e.ps (spF E.K e.ps.length e.F)/\∀ds hd z,e.F ds hd=some z->97=e.ps.length
def okK{st:Stmt}{j k:Nat}(D:Dn E ⟨x,st,ps,k,F⟩)(S:FnScope N ps (AC st))(hF:F=mkF 126 N.length m)(hk:k=j+1)
 (h:∀(f:Addr) (cdv:168) (A:Around) (outer:List Env) (s:120) (H:Hp) (Ek:XK),Room j (A.deeper (envOfC x (AC st) 65 f cdv))->∃t,QSs E.K (G4 CX0 E.P E.w E.K E.mg E.base N x (AC st) f cdv A outer s H Ek).nox (BR st) t m):Kn E ⟨x,st,ps,k,F⟩:=by
 obtain⟨f,fd,D⟩:=D;subst hF;subst hk;exact⟨f,fd,D,ZY D S (h f),Pi⟩
def okL{st:Stmt}{j k:Nat}(D:Dl E ⟨x,st,ps,k,F⟩ pos)(S:FnScope N ps (AC st))(hF:F=mkF 126 N.length m)(hk:k=j+1)
 (h:∀(f c P:Addr) (fd:FuncData) (LC:LamC E.K E.mg E.base fd c P ((x++".<locals>.")++"<lambda>") pos) (cdv:168) (A:Around) (outer:List Env) (s:120) (H:Hp) (Ek:XK),fd.code=cdv->Room j (A.deeper (envOfC x (AC st) 65 f cdv))->∃t,QSs E.K (G4 CX0 E.P E.w E.K E.mg E.base N x (AC st) f cdv A outer s H Ek).nox (BR st) t m):Kn E ⟨x,st,ps,k,F⟩:=by
 obtain⟨f,fd,c,P,D,LC⟩:=D;subst hF;subst hk;exact⟨f,fd,D,Vx D S (h f c P fd LC),Pi⟩
def ok0{st:Stmt}{k k':Nat}(D:Dn E ⟨x,st,ps,k',F⟩):Kn E ⟨x,st,ps,k,λ_ _=>none⟩:=by
 obtain⟨f,fd,D⟩:=D;refine⟨f,fd,D,⟨λvs H Q E h=>h.1,λA outer s H args us vs Q E hr e0 hb hv h=>?_⟩,λ_ _ _ h=>nomatch h⟩;obtain⟨_,_,_,_,_,_,_,_,e,_⟩:=h;cases e
section
variable{K:Frag}{X:Cx}{j k:Nat}{st:Stmt}
def qcW(w:Nat)(G:Kn ⟨X.prog,X.w,X.K,X.mg,X.base⟩ ⟨x,st,ps,j,F⟩)(hr:Room k X.A)(ha:QA K X 179 t m)
 (hjk:j<=k:=by first|decide|omega) (hg:Gl X x:=by rfl) (hdb:141=false:=by decide) (he:starEach 179 X.env=109::starEach es X.env:=by rfl) (hpl:(backTo pos 149).any (·.1)=false:=by rfl) (hK:X.K=K:=by rfl):
 QE K X (.Call (.Name x p) 179 [] pos) (CU (spF K 126 F) [] E0 t) (A8 w F m):=by
 subst hK;obtain⟨f,fd,D,G,l⟩:=G;exact Vb _ w G hr D ha l hjk hg hdb he hpl
def qcG(G:Kn ⟨X.prog,X.w,X.K,X.mg,X.base⟩ ⟨x,st,ps,j,F⟩)(hr:Room k X.A)(ha:QA K X 179 t m)
 (hjk:j<=k:=by first|decide|omega) (hg:Gl X x:=by rfl) (hdb:141=false:=by decide) (he:starEach 179 X.env=109::starEach es X.env:=by rfl) (hpl:(backTo pos 149).any (·.1)=false:=by rfl) (hK:X.K=K:=by rfl):
 QE K X (.Call (.Name x p) 179 [] pos) (CU (spF K 126 F) [] E0 t) (BZ F m):=by
 subst hK;obtain⟨f,fd,D,G,l⟩:=G;exact Ve _ G hr D ha l hjk hg hdb he hpl
def qcS(G:Kn ⟨X.prog,X.w,X.K,X.mg,X.base⟩ ⟨x,st,ps,j,F⟩)(hr:Room k X.A)(ha:QA K X 179 t m)
 (hjk:j<=k:=by first|decide|omega) (hg:Gl X x:=by rfl) (hdb:141=false:=by decide) (he:starEach 179 X.env=109::starEach es X.env:=by rfl) (hpl:(backTo pos 149).any (·.1)=false:=by rfl) (hK:X.K=K:=by rfl):
 QE K X (.Call (.Name x p) 179 [] pos) (CU (spF K 126 F) [] E0 t) (EN F m):=by
 subst hK;obtain⟨f,fd,D,G,l⟩:=G;exact Vd _ G hr D ha l hjk hg hdb he hpl
def qc0(w:Nat)(G:Kn ⟨X.prog,X.w,X.K,X.mg,X.base⟩ ⟨x,st,ps,j,F⟩)(hr:Room k X.A)
 (hjk:j<=k:=by first|decide|omega) (hg:Gl X x:=by rfl) (hdb:141=false:=by decide) (hK:X.K=K:=by rfl) (h0:126=0:=by rfl):QE K X (.Call (.Name x p) [] [] pos) (CU (spF K 126 F) [] E0 BM) (A8 w F A4):=by
 subst hK;obtain⟨f,fd,D,G,l⟩:=G;exact T4 _ w G hr D l hjk hg hdb
noncomputable def Dt(a:Arguments):Str:=match a.args with
 |x::_=>x.arg
 |[]=>""
def qbA{κ:Type}(W:Wy κ)(LC:LamC X.K X.mg X.base fd c P q lpos)(hcd:fd.code=cdv)(hr:Room k X.A)(hm:X.mg (bif W.z then "max" else "min")=none)(he:QE K X e te mi)
 (hb:∀(f:Addr) (cd:168) (s:120) (H:Hp),QE K (lCx X X.A.in1 (Dt params::frN X ix) 101 scope f cd 147 s H) body tb mb)
 (hcv:X.env.code=cdv:=by rfl) (hq:q=X.env.qual++"<lambda>":=by rfl) (S:CSc X scope (frN X ix) ix:=by exact⟨rfl,by decide +kernel,rfl,rfl,rfl,by decide +kernel⟩) (L:LSc scope (Dt params):=by exact⟨rfl,rfl,rfl,rfl⟩) (h3:3<=k:=by decide)
 (hbind:∀(cl:List (Str×Addr)) (pm cd ctv us:168),bindArgs (kla_fn "<lambda>" 101 params body scope cl pm cd ctv) ⟨[us],[]⟩=pure [(Dt params,us)]:=by exact λ_ _ _ _ _=>rfl)
 (hcm:X.calm=true:=by rfl) (hg:Gl X (bif W.z then "max" else "min"):=by rfl) (hdef:defaultsOf params X.env=([],[]):=by rfl) (hs:starEach [e] X.env=[109]:=by rfl) (hK:X.K=K:=by rfl):
 QE K X (.Call (.Name (bif W.z then "max" else "min") p) [e] [⟨some "key",.Lambda params body scope lpos,kpos⟩] pos) (QQ W K P 101 lpos ix te tb) (FQ (vwY W.y) W.kp W.op mi ix mb):=by
 subst hq;subst hK;exact⟨ZS W ⟨hcv.trans (hcd.symm.trans LC.code),LC.hd,LC.bl⟩ S L (hr.mono h3) hcm hg hm hbind he.p (λf cd s H=>(hb f cd s H).p) hdef hs,Yb W he.r (hb 0 .none X.s₀ X.H₀).r LC.ti⟩
def bj{src:Ls->Hd->Option (List Int×Hd)}(LC:LamC X.K X.mg X.base fd c P q lpos)(hcd:fd.code=cdv)(hr:Room k X.A)(hm:X.mg "sorted"=none)(he:QSrc K X e te src)
 (hb:∀(f:Addr) (cd:168) (s:120) (H:Hp),QE K (lCx X X.A.in1.in1 (Dt params::frN X ix) 101 scope f cd 147 s H) body tb mb)
 (hcv:X.env.code=cdv:=by rfl) (hq:q=X.env.qual++"<lambda>":=by rfl) (S:CSc X scope (frN X ix) ix:=by exact⟨rfl,by decide +kernel,rfl,rfl,rfl,by decide +kernel⟩) (L:LSc scope (Dt params):=by exact⟨rfl,rfl,rfl,rfl⟩) (h3:3<=k:=by decide)
 (hbind:∀(cl:List (Str×Addr)) (pm cd ctv us:168),bindArgs (kla_fn "<lambda>" 101 params body scope cl pm cd ctv) ⟨[us],[]⟩=pure [(Dt params,us)]:=by exact λ_ _ _ _ _=>rfl)
 (hcm:X.calm=true:=by rfl) (hg:Gl X "sorted":=by rfl) (hdef:defaultsOf params X.env=([],[]):=by rfl) (hs:starEach [e] X.env=[109]:=by rfl) (hK:X.K=K:=by rfl):
 QN K X (.Call (.Name "sorted" p) [e] [⟨some "key",.Lambda params body scope lpos,kpos⟩] pos) (Jq K P 101 lpos ix te tb) (EM src ix mb):=by
 subst hq;exact VV K ⟨hcv.trans (hcd.symm.trans LC.code),LC.hd,LC.bl⟩ (hK ▸ LC.ti) S L hr h3 hm he hb hbind hcm hg hdef hs hK
end
def FnAt(K:Frag)(n:Str)(s:Stmt)(f:Addr)(cd:168):Prop:=∃oc kV dc pm ct od an sl,PySem.W.nsIn K mainGlobals n=some (some (.ref f))/\K.lookup f=some ⟨oc,od,.func (fnOf n n (CQ s) (BR s) (AC s) .none kV dc pm an cd ct),sl⟩/\codeIn K cd n=true/\keepIn K (.ref f)=true
def Fe(K:Frag)(e:Df):Prop:=∃f cd,FnAt K e.x e.st f cd
def Fla(K:Frag)(e:Df)(p:Addr):Prop:=∃f ca ob,FnAt K e.x e.st f (.ref ca)/\K.lookup ca=some ob/\UZ ob=some p
noncomputable abbrev Xs:=List (Str×Str×Nat×Nat)
def HX(xs:Xs)(mg:130)(h:Heap)(c P:Str->Addr):Prop:=∀x∈xs,h.get? (P x.1)=some (tabObj #[])/\CodeHd h (c x.1) (P x.1)/\∃a o fd,mg x.1=some (.ref a)/\h.get? a=some o/\o.data=.func fd/\fd.code=.ref (c x.1)
noncomputable abbrev tbs(xs:Xs)(P:Str->Addr):List Tb:=xs.map λx=>(P x.1,x.2)
abbrev enM(l:OpenLaw)(w:World)(K:Frag)(xs:Xs)(P:Str->Addr)(mg:130)(base:Heap):EnK:=⟨l.prog,w,Bh K (tbs xs P),mg,base⟩
def Bd(e:Df):Prop:=∀(kV doc pm:168) (an:Option Addr) (cdv ct:168) (us:83),us.length=e.ps.length->bindArgs (fnOf e.x e.x (CQ e.st) (BR e.st) (AC e.st) .none kV doc pm an cdv ct) ⟨us,[]⟩=pure (e.ps.zip us)
section
variable{K:Frag}{mg:130}{c P:Str->Addr}(X:K.In h)(G:h.Ns mainGlobals mg)(hx:HX xs mg h c P)
include hx in
theorem gX:∀P'∈(tbs xs P).map (·.1),h.get? P'=some (tabObj #[]):=λP' hp=>by
 obtain⟨t,ht,rfl⟩:=mem_map.mp hp;obtain⟨x,hxx,rfl⟩:=mem_map.mp ht;exact(hx x hxx).1
include X G hx in
theorem FnAt.def{e:Df}(H:FnAt K e.x e.st f cd)(b:Bd e):∃fd,DefAt (Bh K (tbs xs P)) mg e.x e.st f fd e.ps/\fd.code=cd:=by
 obtain⟨oc,kV,dc,pm,ct,od,an,sl,a,l,cc,k⟩:=H;have F:=Fun.mark (ts:=tbs xs P) (dm (st:=e.st) l cc k) X (gX hx);exact⟨_,⟨F,PySem.W.mg_of X G a,F.binds b⟩,rfl⟩
include X G hx in
theorem Fe.dn(H:Fe K e)(b:Bd e)(l:OpenLaw)(w:World)(base:Heap):Dn (enM l w K xs P mg base) e:=by
 obtain⟨f,cd,H⟩:=H;obtain⟨fd,D,_⟩:=H.def X G hx b;exact⟨f,fd,D⟩
include X G hx in
theorem Fla.code(H:Fla K e p){i j:Nat}(hm:(e.x,q,i,j)∈xs):P e.x=p/\∃f,FnAt K e.x e.st f (.ref (c e.x)):=by
 obtain⟨f,ca,ob,⟨oc,kV,dc,pm,ct,od,an,sl,a,l,cc,k⟩,t,v⟩:=H;obtain⟨_,hh,a',ob',fd,h1,h2,h3,h4⟩:=hx _ hm;have e1:=h1.symm.trans (PySem.W.mg_of X G a);cases e1;have e2:=h2.symm.trans (X _ _ l);cases e2;cases h3;have e3:Value.ref ca=.ref (c e.x):=h4;cases e3;exact⟨aX X hh t v,f,⟨_,_,_,_,_,_,_,_,a,l,cc,k⟩⟩
include X G hx in
theorem Fla.dl(H:Fla K e p)(b:Bd e){i j:Nat}(hm:(e.x,q,i,j)∈xs){i' j':Nat}(l:OpenLaw)(w:World)(hd:∀x∈xs,CodeHd base (c x.1) (P x.1))(bl:∀x∈xs,base.BuiltinsAt mg (P x.1))(nd:((Co (Bh K (tbs xs P))).map (·.1)).Nodup)(hq:q=(e.x++".<locals>.")++"<lambda>"):
 Dl (enM l w K xs P mg base) e ⟨i,j,i',j'⟩:=by
 obtain⟨_,f,H⟩:=H.code X G hx hm;obtain⟨fd,D,e1⟩:=H.def X G hx b;subst hq;exact⟨f,fd,_,_,D,⟨e1,hd _ hm,bl _ hm,⟨i,j,0,0⟩,by rw[HP];exact mem_map.mpr ⟨(P e.x,_,i,j),mem_map.mpr ⟨_,hm,rfl⟩,rfl⟩,nd,rfl,rfl⟩⟩
def fV(h:(xs.map λx=>P x.1)=ps)(n:ps.Nodup):((Co (Bh K (tbs xs P))).map (·.1)).Nodup:=by
 rw[HP,j5,j5];subst h;exact n
end
def Zs(K:Frag):Prop:=∀n∈(["list","tuple","len","range","repr","sum","min","max","abs","all","any","sorted","zip","isinstance","int","bool","str","set","enumerate","reversed","dict"]:List Str),PySem.W.nsIn K mainGlobals n=some none
def Zs.blt{K:Frag}(Z:Zs K){mg:130}(X:K.In h)(G:h.Ns mainGlobals mg):BltA mg:=by
 constructor<;>exact PySem.W.mg_none_of X G (Z _ 71)
def bd0{e:Df}(hl:e.ps.length=0:=by rfl)(h:∀(kV doc pm:168) (an:Option Addr) (cdv ct:168),bindArgs (fnOf e.x e.x (CQ e.st) (BR e.st) (AC e.st) .none kV doc pm an cdv ct) ⟨[],[]⟩=pure (e.ps.zip []):=by intros;rfl):Bd e:=λ_ _ _ _ _ _ us hu=>match us,hu.trans hl with|[],_=>h ..
def bd1{e:Df}(hl:e.ps.length=1:=by rfl)(h:∀(kV doc pm:168) (an:Option Addr) (cdv ct:168) a,bindArgs (fnOf e.x e.x (CQ e.st) (BR e.st) (AC e.st) .none kV doc pm an cdv ct) ⟨[a],[]⟩=pure (e.ps.zip [a]):=by intros;rfl):Bd e:=by
 intro _ _ _ _ _ _ us hu;rcases us with _|⟨_,_|⟨_,_⟩⟩<;>first|exact h .. | cases hu.trans hl
def bd2{e:Df}(hl:e.ps.length=2:=by rfl)(h:∀(kV doc pm:168) (an:Option Addr) (cdv ct:168) a b,bindArgs (fnOf e.x e.x (CQ e.st) (BR e.st) (AC e.st) .none kV doc pm an cdv ct) ⟨[a,b],[]⟩=pure (e.ps.zip [a,b]):=by intros;rfl):Bd e:=by
 intro _ _ _ _ _ _ us hu;rcases us with _|⟨_,_|⟨_,_|⟨_,_⟩⟩⟩<;>first|exact h .. | cases hu.trans hl
def bd3{e:Df}(hl:e.ps.length=3:=by rfl)(h:∀(kV doc pm:168) (an:Option Addr) (cdv ct:168) a b c,bindArgs (fnOf e.x e.x (CQ e.st) (BR e.st) (AC e.st) .none kV doc pm an cdv ct) ⟨[a,b,c],[]⟩=pure (e.ps.zip [a,b,c]):=by intros;rfl):Bd e:=by
 intro _ _ _ _ _ _ us hu;rcases us with _|⟨_,_|⟨_,_|⟨_,_|⟨_,_⟩⟩⟩⟩<;>first|exact h .. | cases hu.trans hl
def bd4{e:Df}(hl:e.ps.length=4:=by rfl)(h:∀(kV doc pm:168) (an:Option Addr) (cdv ct:168) a b c d,bindArgs (fnOf e.x e.x (CQ e.st) (BR e.st) (AC e.st) .none kV doc pm an cdv ct) ⟨[a,b,c,d],[]⟩=pure (e.ps.zip [a,b,c,d]):=by intros;rfl):Bd e:=by
 intro _ _ _ _ _ _ us hu;rcases us with _|⟨_,_|⟨_,_|⟨_,_|⟨_,_|⟨_,_⟩⟩⟩⟩⟩<;>first|exact h .. | cases hu.trans hl
def B3{ps:190}{sc:Scope}(h:(decide (sc.kind=.function)&&!sc.isCoroutine&&!sc.isGenerator&&ndB N&&(N.take 126==ps)&&(ps.all λx=>sc.names.lookup x==some .local||sc.names.lookup x==some .cell)&&sc.names.all λy=>y.2 != .free)=true):FnScope N ps sc:=by
 simp only[Bool.and_eq_true,all_eq_true,Bool.or_eq_true,beq_iff_eq,kj,Bool.not_eq_true',bne_iff_ne]at h;obtain⟨⟨⟨⟨⟨⟨h1,h2⟩,h3⟩,h4⟩,h5⟩,h6⟩,h7⟩:=h;exact⟨h1,h2,h3,GE h4,h5,h6,h7⟩
abbrev HG(l:OpenLaw)(w:World)(K:Frag)(xs:Xs)(mg:130)(c P:Str->Addr)(fa:Addr)(e:Df):Prop:=(∃g,K.lookup mainGlobals=some g)/\∃fd:FuncData,(∀(s:120) (v:168),BindsTo s fd ⟨[v],[]⟩ [("_law_script",v)])/\∀base:Heap,(Bh K (tbs xs P)).In base->base.Ns mainGlobals mg->(∀x∈xs,CodeHd base (c x.1) (P x.1))->(∀x∈xs,base.BuiltinsAt mg (P x.1))->FnOk l.prog w (Bh K (tbs xs P)) mg base CX0 e.k fa fd ["_law_script"] (spF (Bh K (tbs xs P)) 1 e.F)
def WM{K:Frag}{mg:130}{c P:Str->Addr}{e:Df}(X:K.In h)(G:h.Ns mainGlobals mg)(hfa:mg e.x=some (.ref fa))(hx:HX xs mg h c P)(H:Fe K e)(b:Bd e)(hps:e.ps=(["_law_script"]:List Str))
 (ok:∀base:Heap,(∀x∈xs,CodeHd base (c x.1) (P x.1))->(∀x∈xs,base.BuiltinsAt mg (P x.1))->Kn (enM l w K xs P mg base) e):
 HG l w K xs mg c P fa e:=by
 obtain⟨f,cd,H⟩:=H;obtain⟨fd,D,_⟩:=H.def X G hx b;obtain⟨oc,kV,dc,pm,ct,od,an,sl,a,lk,cc,k⟩:=H;have hg:∃g,K.lookup mainGlobals=some g:=by
  cases e:K.lookup mainGlobals with
  |some g=>exact⟨g,rfl⟩
  |none=>unfold PySem.W.nsIn at a;rw[e]at a;cases a
 have e1:=hfa.symm.trans D.mg;cases e1;refine⟨hg,fd,λs v=>?_,λbase _ _ hd bl=>?_⟩
 .obtain⟨⟨oc',od',kV',dc',pm',an',cd',ct',sl',rfl,_,_⟩,_⟩:=D.fn;have:=b kV' dc' pm' an' cd' ct' [v] (by rw[hps];rfl);rw[hps]at this;exact .of_eq this
 .obtain⟨f',fd',D',F',_⟩:=ok base hd bl;have e2:=D.mg.symm.trans D'.mg;cases e2;obtain⟨⟨oc',od',kV',dc',pm',an',cd',ct',sl',h1,h2,_⟩,_⟩:=D.fn;obtain⟨⟨oc2,od2,kV2,dc2,pm2,an2,cd2,ct2,sl2,h3,h4,_⟩,_⟩:=D'.fn;have e3:=h2.symm.trans h4;cases e3;rw[hps]at F';exact F'
end L2
namespace L2
open PySem PySem.Spec PyProof.Rows
noncomputable def Fc{α:Type}:List (Option α)->Option (List α)
 |[]=>some []
 |some x::r=>(Fc r).map (x::·)
 |none::_=>none
def pyN:Nat->Hd->D->Option PyData
 |_,_,.im i=>some i.py
 |_,_,.ro ns=>some (.list (I.pys (ns.map I.int)))
 |0,_,_=>none
 |n+1,hd,.tm ds=>(Fc (ds.map (pyN n hd))).map .tuple
 |n+1,hd,.mu k=>match hd[k]? with
  |some (.lst ds)=>(Fc (ds.map (pyN n hd))).map .list
  |_=>none
 |_+1,_,.op _ _ _=>none
 |_+1,_,.fv _ _=>none
section
variable{K:Frag}
theorem Jk{f:D->Option PyData}(hf:∀d v p,RD K ρ H d v->f d=some p->Rep K H p v):∀{ds:137} {xs:155} {ps:List PyData},RDs K ρ H ds xs->Fc (ds.map f)=some ps->C5 K H ps xs
 |[],xs,ps,r,e=>by
  simp only[RDs]at r;subst r;simp[Fc]at e;subst e;simp only[C5]
 |d::ds,xs,ps,r,e=>by
  simp only[RDs]at r;obtain⟨x,r',rfl,h1,h2⟩:=r;rw[j3]at e;cases q:f d with
  |none=>rw[q]at e;cases e
  |some p=>
   rw[q]at e;obtain⟨ps',e1,rfl⟩:=ik (show(Fc (ds.map f)).map (p::·)=some ps from e);simp only[C5];exact⟨x,r',rfl,hf d x p h1 q,Jk hf h2 e1⟩
theorem IK(hR:RH K ρ H hd):∀(n:Nat) (d:D) (v:V) (p:PyData),RD K ρ H d v->pyN n hd d=some p->Rep K H p v
 |n,.im i,v,p,h,e=>De (hd:=hd) hR h (by cases n<;>exact e)
 |n,.ro ns,v,p,h,e=>De (hd:=hd) hR h (by cases n<;>exact e)
 |0,.tm ds,v,p,h,e=>by cases e
 |0,.mu k,v,p,h,e=>by cases e
 |0,.op _ _ _,v,p,h,e=>by cases e
 |n+1,.op _ _ _,v,p,h,e=>by cases e
 |0,.fv _ _,v,p,h,e=>by cases e
 |n+1,.fv _ _,v,p,h,e=>by cases e
 |n+1,.tm ds,v,p,h,e=>by
  simp only[RD]at h;obtain⟨a,xs,rfl,q,r⟩:=h;obtain⟨ps,e1,rfl⟩:=ik (show(Fc (ds.map (pyN n hd))).map PyData.tuple=some p from e);simp only[Rep];exact⟨a,xs,rfl,q,Jk (λd v p=>IK hR n d v p) r e1⟩
 |n+1,.mu k,v,p,h,e=>by
  simp only[pyN]at e;simp only[RD]at h;obtain⟨a,hn,rfl⟩:=h;split at e
  .next ds q=>
   obtain⟨ps,e1,rfl⟩:=ik e;obtain⟨xs,e2,e3⟩:=hR.lst hn q;simp only[Rep];exact⟨a,xs,rfl,SqL.of e2,Jk (λd v p=>IK hR n d v p) e3 e1⟩
  .cases e
end
noncomputable def LQ(neg:Bool):D->D->Hd->Option 161:=λd e hd=>match pyN 30 hd d,pyN 30 hd e with
 |some x,some y=>if x.canLay0=true/\y.canLay0=true/\min x.depth y.depth<=60 then some (.im (.bl (if neg then !PyData.eqv x y else PyData.eqv x y)),hd)else none
 |_,_=>none
def bU{K:Frag}:RB K (Qq K) (LQ false):=by
 intro ρ H hd d e v u Q z hd' hR h1 h2 hf hQ;unfold LQ at hf;split at hf
 .next e1 e2=>
  split at hf
  .next c=>cases hf;exact⟨_,_,IK hR _ _ _ _ h1 e1,IK hR _ _ _ _ h2 e2,c.1,c.2.1,c.2.2,hQ ρ H _ .refl hR 133⟩
  .cases hf
 .cases hf
section
variable{QE:172}
def aO{neg:Bool}(h1:pyN 30 hd d=some x)(h2:pyN 30 hd e=some y)(c:x.canLay0=true/\y.canLay0=true/\min x.depth y.depth<=60)(q:QE (.im (.bl (if neg then !PyData.eqv x y else PyData.eqv x y))) hd):WP (LQ neg d e hd) QE:=⟨_,_,by unfold LQ;rw[h1,h2];dsimp only;rw[il c],q⟩
end
end L2
namespace L2
open PySem PySem.Spec PyProof.Rows PySem.W
noncomputable def ltZ(p q:Int×Int):Bool:=decide (p.1<q.1∨p.1=q.1/\p.2<q.2)
def TPair(h:Heap)(a:Addr)(p:Int×Int):Prop:=∃(o:Obj) (n:Nat) (t u:Tok),h.get? a=some o/\o.cls=.type "tuple"/\o.data=.seq #[.int p.1 t,.int p.2 u] n
section
variable{E:78}{s:120}
def TPair.typeIs(h:TPair s.heap a p):s.TypeIs (.ref a) "tuple":=let ⟨o,_,_,_,h1,h2,_⟩:=h;⟨o,h1,h2⟩
def UX{P:PySem.Fin->Shared->Prop}(ha:TPair s.heap a p)(hb:TPair s.heap b q)(h:P (.done (.ret (.bool (ltZ p q)))) s):
 wpAny 110 A (Builtin.«tuple.__lt__» ⟨[.ref a,.ref b],[]⟩) P E s:=by
 have hTb:=hb.typeIs;obtain⟨oa,na,t1,t2,hoa,_,hda⟩:=ha;obtain⟨ob,nb,u1,u2,hob,_,hdb⟩:=hb;show wpAny _ _ (isInstance (.ref b) (.type "tuple") >>= _) _ _ s;refine iq (wpAny_isInstance hTb isSubtype_tuple_tuple ?_);simp only[Bool.not_true,Bool.false_eq_true,jj];refine iq (wpAny_tupleItemsOf hoa hda ?_);refine iq (wpAny_tupleItemsOf hob hdb ?_);refine iq ?_;have neq:∀(x y:Int) (t u:Tok),x≠y->P (.done (.ret (.bool (ltZ p q)))) s->decide (x<y)=ltZ p q->True:=λ_ _ _ _ _ _ _=>trivial;refine wpAny_forIn_list _
  (λrest r s'=>r.1=none/\s'=s/\(rest=[(.int p.1 t1,.int q.1 u1),(.int p.2 t2,.int q.2 u2)]∨rest=[(.int p.2 t2,.int q.2 u2)]/\p.1=q.1∨rest=[]/\p.1=q.1/\p.2=q.2))
  _ ?_ ?_ _ _ ⟨rfl,rfl,.inl rfl⟩
 .rintro⟨u,v⟩ rest r s' ⟨hr,rfl,hz⟩;rcases hz with hz|⟨hz,e1⟩|⟨hz,e1⟩
  .simp only[List.cons.injEq,Prod.mk.injEq]at hz;obtain⟨⟨rfl,rfl⟩,rfl⟩:=hz;refine iq (kC ?_);by_cases hk:p.1=q.1
   .rw[beq_iff_eq.mpr hk];simp only[Bool.not_true,Bool.false_eq_true,jj];exact iu ⟨rfl,rfl,.inr (.inl ⟨by trivial,hk⟩)⟩
   .rw[beq_eq_false_iff_ne.mpr hk];simp only[Bool.not_false,j8];have hf:ltZ p q=decide (p.1<q.1):=by unfold ltZ;simp[hk]
    rw[hf]at h;refine iq (iq (wpAny_rule (iu (iq (kG (op:=.Lt) (jN _ _ _) (jN _ _ _) F.slot_int_lt F.entry_int_lt (F.args_int_lt_2 _ _) (gives_int_lt _ _ _ _) (λx=>nomatch x) ?_)))));exact iu (iu h)
  .simp only[List.cons.injEq,Prod.mk.injEq]at hz;obtain⟨⟨rfl,rfl⟩,rfl⟩:=hz;refine iq (kC ?_);by_cases hk:p.2=q.2
   .rw[beq_iff_eq.mpr hk];simp only[Bool.not_true,Bool.false_eq_true,jj];exact iu ⟨rfl,rfl,.inr (.inr ⟨by trivial,e1,hk⟩)⟩
   .rw[beq_eq_false_iff_ne.mpr hk];simp only[Bool.not_false,j8];have hf:ltZ p q=decide (p.2<q.2):=by unfold ltZ;simp[e1]
    rw[hf]at h;refine iq (iq (wpAny_rule (iu (iq (kG (op:=.Lt) (jN _ _ _) (jN _ _ _) F.slot_int_lt F.entry_int_lt (F.args_int_lt_2 _ _) (gives_int_lt _ _ _ _) (λx=>nomatch x) ?_)))));exact iu (iu h)
  .cases hz
 .rintro⟨r1,r2⟩ s' ⟨hr,rfl,hz⟩;simp only at hr;subst hr;refine iu ?_;rcases hz with hz|⟨hz,e1⟩|⟨hz,e1,e2⟩
  .cases hz
  .cases hz
  .have hf:ltZ p q=false:=by unfold ltZ;simp[e1,e2]
   rw[hf]at h;exact h
def UY{Q:78}(hu:A.units<cLine)(ha:TPair s.heap a p)(hb:TPair s.heap b q)(h:Q (.bool (ltZ p q)) s):wpAny 110 A (richCompare .Lt (.ref a) (.ref b)) Q E s:=
 wpAny_richCompare_same_room (op:=.Lt) ha.typeIs hb.typeIs F.slot_tuple_lt
  (wpAny_call_entry F.slot_tuple_lt ha.typeIs F.entry_tuple_lt (UX ha hb ⟨_,rfl,(λe=>nomatch e),h⟩) (F.args_tuple_lt_2 _ _)) hu
end
section
variable{E:78}
def Oe{rest:List Expr}{Q:78}
 (h:wpAny M A (spliced (backTo pos (starEach (e::rest) env))) (λvs s₁=>(∃(o:Obj) (fd:FuncData),s₁.heap.get? a=some o/\o.data=.func fd)/\wpAny M A (call (.ref a) vs) Q E s₁) E s)
 (he:starEach (e::rest) env=(false,eval e env)::starEach rest env:=by rfl):
 wpAny M A (callWith pos (.ref a) [] (backTo pos (starEach (e::rest) env)) []) Q E s:=by
 rw[he]at h ⊢;unfold callWith;refine iq (jy (jh (Calls.evalArgs_plain (Q:=λx s₁=>(∃(o:Obj) (fd:FuncData),s₁.heap.get? a=some o/\o.data=.func fd)/\wpAny M A (call (.ref a) ([]++x.pos) x.kw) Q E s₁) (jh h (λvs s₁ h₁=>h₁) λ_ _ x=>x)) (λx s₁ h₁=>iq (k3 ?_)) λ_ _ x=>x));obtain⟨⟨o,fd,g1,g2⟩,g3⟩:=h₁;have tail:∀{t:Sem Value},wpAny M A t Q E s₁->wpAny M A (t >>= λr=>holding [r] point >>= λ_=>pure r) Q E s₁:=
  λht=>iq (jh ht (λr s₂ hr=>iq (jy (wpAny_point (iu hr)))) λ_ _ x=>x)
 cases hs:((backTo pos ((false,eval e env)::starEach rest env)).any (·.1)||([]:List (Option Str×Sem Value)).any (·.1.isNone))<;>refine iq (m:=keeperOf (.ref a)) ?_<;>unfold keeperOf<;>refine iq (wpAny_load g1 ?_)<;>rw[g2]<;>refine iu ?_
 .first|refine wpAny_ite ?_|skip
  split<;>first|exact tail g3|exact tail (by unfold callMarked;exact Calls.wpAny_keep g3)
 .first|exact tail (by unfold callMarked;exact Calls.wpAny_keep g3)|exact tail g3
end
noncomputable def NI(tf:TE)(ta:TA):TE:=λσ H Q=>tf σ H λv H1=>∃f,v=.ref f/\ta σ H1 λvs H2=>∃x y,vs=[x,y]/\∃c q cl a0 o1 o2 xs j z,x=.int j/\H2 f=some (.ext (fnG f c q cl))/\H2 c=some (.ext (cdF c q))/\Ki o1 a0/\H2 cl=some (.frz o1 G5)/\H2 a0=some (.frz o2 158)/\atI xs j=some z/\Q z H2
section
variable{X:Cx}{P:Addr}{fr:190}{ix:73}{lpos:Pos}
def Vp{pos:Pos}(hr:Room 1 X.A)(hf:PE X (.Name x p) tf)(ha:PA X 179 ta)(he:starEach 179 X.env=109::starEach es X.env:=by rfl):
 PE X (.Call (.Name x p) 179 [] pos) (NI tf ta):=by
 intro pins s σ H Q I h;refine k4 (thn (hf pins s σ H _ I h) λu s1 hu=>?_);obtain⟨v,H1,I1,rv,q⟩:=hu;obtain⟨f,rfl,q⟩:=q;cases rv;refine Oe (thn (ha pos pins s1 σ H1 _ I1 q) λus s2 hus=>?_) he;obtain⟨vs,H2,I2,r,x,y,rfl,hQ⟩:=hus;obtain⟨u0,u1,rfl,r0,r1⟩:∃u0 u1,us=[u0,u1]/\RelV x u0/\RelV y u1:=by
  cases r with
  |cons a b=>cases b with
   |cons a2 b2=>cases b2;exact⟨_,_,rfl,a,a2⟩
 obtain⟨c,q,cl,a0,o1,o2,xs,j,z,rfl,g1,g2,g3,g4,g5,g6,hQ⟩:=hQ;obtain⟨params,scope,p1,p2,xn,px,pp,pos',pm,ctv,ho',S⟩:=(I2.hok f _ g1).1;refine⟨⟨_,_,ho',rfl⟩,?_⟩;exact jh (Wk I2 rfl hr g1 g2 g3 g4 g5 r0 r1 g6 hQ) (λ_ _ z=>z) λ_ _ z=>z.elim
end
def Xh(K:Frag)(H:Hp)(k:V)(n:Int×Int):Prop:=∃a,k=.ref a/\SqT K H a [.int n.1,.int n.2]
def Pf{n:Int×Int}(I:76)(h:SqT X.K H a [.int n.1,.int n.2]):TPair s.heap a n:=by
 obtain⟨jts,rj,⟨o,ho,hc,m,hd⟩,_⟩:=I.tuple h;cases rj with
 |cons a1 b1=>cases b1 with
  |cons a2 b2=>
   cases b2;obtain⟨t,rfl⟩:=a1;obtain⟨u,rfl⟩:=a2;exact⟨o,m,t,u,ho,hc,hd⟩
def Vt{K:Frag}{a b:Int}(h:RD K ρ H (.im (.tup [.int a,.int b])) k):Xh K H k (a,b):=by
 simp only[RD,RI,RIs]at h;obtain⟨p,xs,rfl,sq,x,r,rfl,rfl,y,r',rfl,rfl,rfl⟩:=h;exact⟨p,rfl,sq⟩
noncomputable def mKP(i:I):Option 128:=match i with
 |.tup [.int a,.int b]=>some (a,b)
 |_=>none
def wMp:Wy 128 where
 z:=false
 y:=true
 op:=ltZ
 KR:=Xh
 kp:=mKP
 rd:=λ{_ _ _ _ _ _} e r=>by
  unfold mKP at e;split at e<;>cases e;exact Vt r
 cmp:=λhu I h1 h2 r1 r2 q=>by
  obtain⟨a,rfl,sa⟩:=h1;obtain⟨b,rfl,sb⟩:=h2;cases r1;cases r2;exact UY hu (Pf I sa) (Pf I sb) q
noncomputable def Dv(mf:ME)(ma:MA):ME:=λls hd=>(mf ls hd).bind λp=>match p.1 with
 |.fv 1 ds=>(ma ls p.2).bind λr=>match r.1 with
  |[.im (.int j),_]=>(atI ds j).map (·,r.2)
  |_=>none
 |_=>none
def VD{K:Frag}(hf:RE K tf mf)(ha:RA K ta ma):RE K (NI tf ta) (Dv mf ma):=by
 and_intros;obtain⟨⟨d1,h1⟩,e1,hm⟩:=ij hm;dsimp only at hm;split at hm
 .next es=>
  obtain⟨⟨ds,h2⟩,e2,hm⟩:=ij hm;dsimp only at hm;split at hm
  .next l0 j d0=>
   obtain⟨w,ew,e3⟩:=ik hm;cases e3;refine hf ρ σ H hd ls _ _ _ hR hL e1 λρ1 H1 v1 x1 R1 r1=>?_;simp only[RD]at r1;obtain⟨f,xs,rfl,⟨_,c,q,cl,a0,o1,o2,g1,g2,g3,g4,g5⟩,rs⟩:=r1;refine⟨f,rfl,ha ρ1 σ H1 _ ls _ _ _ R1 138 e2 λρ2 H2 vs x2 R2 r2=>?_⟩;simp only[RDs]at r2;obtain⟨x,r,rfl,q1,y,r',rfl,q2,rfl⟩:=r2;simp only[RD,RI]at q1;subst q1;have rs2:=rs.ext R1 x2;have gr:=x2.grow R1;obtain⟨n,n1,n2⟩:=Lh rs2.len ew;obtain⟨z,ez,rz⟩:=rs2.get n1;exact⟨_,y,rfl,c,q,cl,a0,o1,o2,xs,j,z,rfl,gr.keep _ _ trivial g1,gr.keep _ _ trivial g2,g3,gr.keep _ _ trivial g4,gr.keep _ _ trivial g5,n2 z ez,hQ ρ2 H2 z 89 R2 rz⟩
  .cases hm
 .cases hm
noncomputable def KI(mi:ME)(ix:73)(mb:ME):ME:=FQ Ad mKP ltZ mi ix mb
def Vc(K:Frag){X:Cx}{pos:Pos}{k:Nat}(hr:Room k X.A)(hf:QE K X (.Name x p) tf mf)(ha:QA K X 179 ta ma)(hk:1<=k:=by decide)(he:starEach 179 X.env=109::starEach es X.env:=by rfl):
 QE K X (.Call (.Name x p) 179 [] pos) (NI tf ta) (Dv mf ma):=⟨Vp (hr.mono hk) hf.p ha.p he,VD hf.r ha.r⟩
section
variable{Q:172}
def SC(h:WE mf ls hd λd x=>d=.fv 1 es/\WA ma ls x λds y=>∃(j:Int) (b c:D),ds=[.im (.int j),b]/\atI es j=some c/\Q c y):WE (Dv mf ma) ls hd Q:=by
 obtain⟨d,x,e1,rfl,ds,y,e2,j,b,c,rfl,e3,q⟩:=h;refine⟨_,_,?_,q⟩;simp only[Dv,e1,bind_some,e2,e3,je]
def UR{ix:73}(h:WE mi ls hd λd x=>∃(e:D) (es:137) (kf:D->Int×Int),Ad x d=some 179/\(∀y∈e::es,mb (some y::ix.map λi=>(ls[i]?).join) x=some (.im (.tup [.int (kf y).1,.int (kf y).2]),x))/\Q (BW ltZ es (es.map kf) e (kf e)) x):WE (KI mi ix mb) ls hd Q:=
 J8 (h.mono λ_ _ ⟨e,es,kf,h1,h2,h3⟩=>⟨e,es,kf,h1,λy hy=>⟨_,rfl,h2 y hy⟩,h3⟩)
def leP(p q:Int×Int):Prop:=ltZ q p=false
def W9(p:Int×Int):leP p p:=by unfold leP ltZ;simp
def M8(h:leP p q)(h':leP q r):leP p r:=by
 unfold leP ltZ at *;simp only[kH,not_or,not_and,Int.not_lt]at *;omega
theorem IG(kf:D->Int×Int):∀(es:137) (b:D),BW ltZ es (es.map kf) b (kf b)∈b::es/\∀y∈b::es,leP (kf (BW ltZ es (es.map kf) b (kf b))) (kf y)
 |[],b=>⟨j4,λy hy=>by rw[jd]at hy;subst hy;exact W9 _⟩
 |e::es,b=>by
  rw[j3,BW];by_cases h:ltZ (kf e) (kf b)=true
  .rw[il h];obtain⟨h1,h2⟩:=IG kf es e;refine⟨iw _ h1,λy hy=>?_⟩;rcases mem_cons.mp hy with rfl|hy
   .refine M8 (h2 e j4) ?_;unfold leP ltZ at *;simp only[kj,kH,not_or,not_and,Int.not_lt]at *;omega
   .exact h2 y hy
  .rw[ip h];obtain⟨h1,h2⟩:=IG kf es b;refine⟨?_,λy hy=>?_⟩
   .rcases mem_cons.mp h1 with q|q
    .rw[q];exact j4
    .exact iw _ (iw _ q)
   .rcases mem_cons.mp hy with rfl|hy
    .exact h2 y j4
    .rcases mem_cons.mp hy with rfl|hy
     .refine M8 (h2 b j4) ?_;unfold leP;simpa using h
     .exact h2 y (iw _ hy)
end
theorem OD:∀{bs:88} {us:83} {i:Nat} {v:168},Vals (bs.map V.int) us->us[i]?=some v->∃b t,bs[i]?=some b/\v=.int b t
 |[],_,_,_,.nil,e=>by simp at e
 |b::bs,_,0,_,.cons r _,e=>by
  simp at e;subst e;obtain⟨t,rfl⟩:=r;exact⟨b,t,rfl,rfl⟩
 |b::bs,_,i+1,_,.cons _ t,e=>by
  obtain⟨c,t,h1,h2⟩:=OD (i:=i) t (by simpa using e);exact⟨c,t,by simpa using h1,h2⟩
def XN(K:Frag):List V->Hp->VK->Prop:=λxs H Q=>∃(a:Addr) (bs:88),xs=[.ref a]/\SqL K H a (bs.map V.int)/\Q (.bl (bs.any λn=>n != 0)) H
theorem any_map(bs:88):((69 bs.length).any λi=>((bs[i]?).getD 0) != 0)=bs.any λn=>n != 0:=by
 have:=LSm.range_any (bs.map λn=>n != 0);rw[ja,List.any_map]at this;rw[show(id ∘ λn:Int=>n != 0)=λn:Int=>n != 0 from rfl]at this;rw[<- this,Bool.eq_iff_iff,List.any_eq_true,List.any_eq_true];constructor
 .rintro⟨i,hi,h⟩;have hi':i<bs.length:=by simpa using hi
  exact⟨i,hi,by simpa [hi']using h⟩
 .rintro⟨i,hi,h⟩;have hi':i<bs.length:=by simpa using hi
  exact⟨i,hi,by simpa [hi']using h⟩
def Rz(K:Frag){X:Cx}(hc:164)(hK:X.K=K:=by rfl):CallR X (.builtin "any") (XN K):=by
 subst hK;intro pins s σ H xs us Q I r h;obtain⟨a,bs,rfl,hq,q⟩:=h;obtain⟨u,rfl,ru⟩:=BL r;cases ru;obtain⟨its,rv,p,hz⟩:=I.list hq;have hl:=p.isList;have hlen:=rv.length;have hlt:a<s.heap.objs.size:=by obtain⟨_,e,_⟩:=hl;exact 84 e
 refine call_any_walk (kD hl ?_);refine⟨65,[65,a],[65],129,_,_,λi=>((bs[i]?).getD 0) != 0,rfl,Walks.list (A:=X.A.in1) (I.ok.hd hc) _ a (jb hlt) 107,
  ⟨⟨_,87 _ rfl,rfl,rfl⟩,hl.push _⟩,λi v s' Q' E' hP hQ=>?_,λh' tk hk=>?_⟩
 .obtain⟨b,t,e,rfl⟩:=OD rv (by simpa using hP);simp only[e,getD_some]at hQ;exact P.truthy_int hQ
 .have e:((69 129).any λi=>((bs[i]?).getD 0) != 0)=bs.any λn=>n != 0:=by
   rw[iy,<- hlen,ja];exact any_map bs
  rw[e];exact⟨.bl _,H,I.kept (LSm.kept_iter hk),rfl,q⟩
noncomputable def KM(ds:137):Option D:=(Av ds).map λns=>.im (.bl (ns.any λn=>n != 0))
def YN{K:Frag}:RG K false (XN K) KM:=by
 intro ρ H hd a xs ds Q z hR q r e hQ;obtain⟨ns,e1,rfl⟩:=ik e;rw[Bt e1]at r;have:=E4 r;subst this;rcases q with q|⟨q,_⟩
 .exact⟨a,ns,rfl,q,hQ H _ .refl hR 133⟩
 .cases q
def ice(H:Hp)(cl:Addr)(o1:Obj)(a0:Addr)(o2:Obj)(xs:155):Hp:=upd (upd H cl (.frz o1 G5)) a0 (.frz o2 158)
def thaw(H:Hp)(cl a0:Addr)(xs:155):Hp:=upd (del H cl) a0 158
noncomputable def NJ(sp:Sp)(P:Addr)(q:Str)(pos:Pos)(i:Nat)(t1 t2:TE):TE:=λσ H Q=>t1 σ H λx1 H1=>t2 σ H1 λx2 H2=>∃ps a0 xs,H2 P=some (.tbl ps)/\EH H2 q pos ps/\σ[i]?=some (some (.ref a0))/\H2 a0=some 158/\
 ∀H3 c f cl o1 o2,TabStep P q pos H2 H3->H3 c=some (.ext (cdF c q))->H3 f=none->H3 cl=none->cl≠f->H3 a0=some 158->Ki o1 a0->sp [x1,x2,.ref f] (ice (upd H3 f (.ext (fnG f c q cl))) cl o1 a0 o2 xs) (λv H'=>Q v (thaw H' cl a0 xs)) E0
theorem TabStep.lst(t:TabStep P q pos H H')(hP:H P=some (.tbl ps))(h:H a=some 158):H' a=some 158:=by
 rcases t with rfl|⟨c,hc,_,rfl⟩
 .exact h
 .rw[upd_ne (AM h hc),upd_ne (λe=>by subst e;rw[hP]at h;cases h)];exact h
section
theorem HOk.ice(k:HOk P w H h)(h1:H cl=none)(h2:H a0=some 158)(g1:h.get? cl=some o1)(g2:h.get? a0=some o2):HOk P w (ice H cl o1 a0 o2 xs) h:=by
 have nac:a0≠cl:=AM h2 h1;have oth:∀b ho,H b=some ho->b≠a0->L2.ice H cl o1 a0 o2 xs b=some ho:=λb ho e n=>by
  unfold L2.ice;rw[upd_ne n,upd_ne (AM e h1)];exact e
 have st:∀b ho,ObjOk P w H h b ho->ObjOk P w (L2.ice H cl o1 a0 o2 xs) h b ho:=λb ho x=>x.stay (λ_ _ _ z=>z) (λb z=>oth b _ z λe=>by subst e;rw[h2]at z;cases z) λb ys z=>oth b _ z λe=>by subst e;rw[h2]at z;cases z
 intro b ho e;by_cases n:b=a0
 .subst n;unfold L2.ice at e;rw[AH]at e;cases e;exact⟨g2,st _ _ (k _ _ h2)⟩
 .by_cases m:b=cl
  .subst m;unfold L2.ice at e;rw[upd_ne n,AH]at e;cases e;exact⟨g1,trivial,⟨_,g1⟩,λ_ _ _ _=>trivial⟩
  .have e2:H b=some ho:=by
    unfold L2.ice at e;rw[upd_ne n,upd_ne m]at e;exact e
   exact st _ _ (k b ho e2)
theorem HOk.thaw(k:HOk P w H h)(h1:H cl=some (.frz o1 G5))(h2:H a0=some (.frz o2 158)):HOk P w (thaw H cl a0 xs) h:=by
 have d:=k.del h1;have nac:a0≠cl:=λe=>by subst e;rw[h1]at h2;cases h2
 have e0:L2.del H cl a0=some (.frz o2 158):=by rw[EQ nac];exact h2
 have st:∀b ho,ObjOk P w (L2.del H cl) h b ho->ObjOk P w (L2.thaw H cl a0 xs) h b ho:=λb ho x=>x.stay (λ_ _ _ z=>z) (λb z=>by unfold L2.thaw;rw[upd_ne λe=>by subst e;rw[e0]at z;cases z];exact z) λb ys z=>by unfold L2.thaw;rw[upd_ne λe=>by subst e;rw[e0]at z;cases z];exact z
 intro b ho e;by_cases n:b=a0
 .subst n;unfold L2.thaw at e;rw[AH]at e;cases e;exact st _ _ (d _ _ e0).2
 .unfold L2.thaw at e;rw[upd_ne n]at e;exact st _ _ (d b ho e)
theorem Un.thaw(u:Un fs [] (ice H cl o1 a0 o2 xs) H' h h')(h1:H cl=none)(h2:H a0=some 158)(g1:h.get? cl=some o1)(g1':h'.get? cl=some o1):Un fs [] H (thaw H' cl a0 xs) h h':=by
 have nac:a0≠cl:=AM h2 h1;have n0:∀b,H b=none->b≠cl->L2.ice H cl o1 a0 o2 xs b=none:=λb n m=>by
  unfold L2.ice;rw[upd_ne (AM h2 n).symm,upd_ne m];exact n
 have s0:∀b ho,H b=some ho->(∀ys,ho≠.lst ys)->L2.ice H cl o1 a0 o2 xs b=some ho:=λb ho e n=>by
  unfold L2.ice;rw[upd_ne (λz=>by subst z;rw[h2]at e;exact n xs (102 e).symm),upd_ne (AM e h1)];exact e
 have t0:∀b ho,H b≠none->H' b=some ho->b≠a0->L2.thaw H' cl a0 xs b=some ho:=λb ho e q n=>by
  unfold L2.thaw;rw[upd_ne n,EQ λz=>by subst z;exact e h1];exact q
 refine⟨λb o e n m1 m2=>?_,λb o e n m1 m2=>?_,λb o e n m=>?_,λb o e m=>u.there b o e m,λb ys e=>?_,λb o v e=>?_,λb ps e=>?_⟩
 .by_cases z:b=cl
  .subst z;rw[g1]at e;cases e;exact g1'
  .exact u.keep b o e (n0 b n z) m1 m2
 .by_cases z:b=cl
  .subst z;rw[g1]at e;cases e;exact⟨_,g1'⟩
  .exact u.slot b o e (n0 b n z) m1 m2
 .unfold L2.thaw;rw[upd_ne (AM h2 n).symm];by_cases z:b=cl
  .subst z;exact Jc
  .rw[EQ z];exact u.free b o e (n0 b n z) m
 .exact t0 b _ (by rw[e];simp) (u.tups b ys (s0 b _ e λ_ z=>by cases z)) λz=>by subst z;rw[h2]at e;cases e
 .exact t0 b _ (by rw[e];simp) (u.frzs b o v (s0 b _ e λ_ z=>by cases z)) λz=>by subst z;rw[h2]at e;cases e
 .obtain⟨more,q⟩:=u.tbls b ps (s0 b _ e λ_ z=>by cases z);exact⟨more,t0 b _ (by rw[e];simp) q λz=>by subst z;rw[h2]at e;cases e⟩
end
section
variable{X:Cx}{k:Nat}{i:Nat}{e1 e2:Expr}{t1:TE}
def Vq(F:FnOk X.prog X.w X.K X.mg X.base CX0 k fa fd ps sp)(hr:Room k X.A)(hg:Gl X x)(hm:X.mg x=some (.ref fa))(hk:keepIn X.K (.ref fa)=true)(hb:Binds X.K fd ps [])(h1:PE X e1 t1)(h2:PE X e2 t2)(hN:X.N[i]?=some nm)
 (LA:LamAt X c P) (S:163) (L:CapOk 101 params scope (.Subscript (.Name nm px) (.Name p1 pp) spos) p1 p2 nm) (hkind:X.env.scope.names.lookup nm=some .cell) (hfn:X.fn nm=true)
 (hcl:Ac X.env.cells 92 []=[(nm,(X.env.cells.lookup nm).getD 0)]:=by rfl) (hdef:defaultsOf params X.env=([],[]):=by rfl) (hdb:141=false:=by decide)
 (hs1:starEach [e1,e2,.Lambda params (.Subscript (.Name nm px) (.Name p1 pp) spos) scope lpos] X.env=(false,eval e1 X.env)::starEach [e2,.Lambda params (.Subscript (.Name nm px) (.Name p1 pp) spos) scope lpos] X.env:=by rfl)
 (hs2:starEach [e2,.Lambda params (.Subscript (.Name nm px) (.Name p1 pp) spos) scope lpos] X.env=[(false,eval e2 X.env),(false,eval (.Lambda params (.Subscript (.Name nm px) (.Name p1 pp) spos) scope lpos) X.env)]:=by rfl) (hpl:(backTo pos (starEach [e2,.Lambda params (.Subscript (.Name nm px) (.Name p1 pp) spos) scope lpos] X.env)).any (·.1)=false:=by rfl):
 PE X (.Call (.Name x p) [e1,e2,.Lambda params (.Subscript (.Name nm px) (.Name p1 pp) spos) scope lpos] [] pos) (NJ sp P 101 lpos i t1 t2):=by
 intro pins s σ H Q I h;refine k4 (LM I hg hm ?_ hdb);refine PySem.W.callWith_K (h₀:=X.base) I.ok.mod.kin hk ?_ hs1 hpl;rw[hs1,hs2];show wpAny _ _ (spliced ((false,eval e1 X.env)::backTo pos [(false,eval e2 X.env),(false,eval (.Lambda params (.Subscript (.Name nm px) (.Name p1 pp) spos) scope lpos) X.env)])) _ _ s;refine Calls.spliced_cons (thn (h1 pins s σ H _ I h) λu1 s1 ⟨x1,H1,I1,r1,q1⟩=>?_);refine Calls.spliced_cons (thn (h2 pins s1 σ H1 _ I1 q1) λu2 s2 ⟨x2,H2,I2,r2,q2⟩=>?_);obtain⟨psT,a0,xs,hP,hgd,hσ,hx,go⟩:=q2;refine Calls.spliced_cons (JQ S LA I2 hdef hP hgd λf cd ctv H3 s3 I3 M=>?_);refine Calls.spliced_nil ?_;obtain⟨c',rfl,hc'⟩:=M.cdc;have ho:=M.fn;rw[hcl]at ho;have hx3:=M.step.lst hP hx;have ff:FpOk X pins H3 f:=I2.fpOk M.new M.fre;obtain⟨m,hn,hlk⟩:=I3.loc;obtain⟨u0,ru,lk⟩:=hlk i nm (.ref a0) hN hσ (.inr (.inl hkind));cases ru;obtain⟨cl,ecl,o1,g1,ho1⟩:∃cl,X.env.cells.lookup nm=some cl/\∃o,s3.heap.get? cl=some o/\o.data=.cell (some (.ref a0)):=by
  rcases lk with⟨kk,_⟩|⟨_,c,ec,hc⟩
  .have kk:X.env.scope.names.lookup nm=some .local:=kk;rw[hkind]at kk;cases kk
  .exact⟨c,ec,hc⟩
 rw[ecl,getD_some]at ho;have J:=I3.adopt (o:=.ext (fnG f c' 101 cl)) ff (j6 I2.sz M.new) ⟨⟨_,_,_,_,_,_,_,_,_,_,ho,L⟩,⟨_,ho⟩,λh1 h2 q k=>by
  obtain⟨b1,b2,b3,b4,b5,b6,b7,b8,b9,b10,g,z⟩:=q;exact⟨b1,b2,b3,b4,b5,b6,b7,b8,b9,b10,k _ g,z⟩⟩
 have cn:H3 cl=none:=I3.freeC nm cl ecl;have J1:=J.freeC nm cl ecl;have ncf:cl≠f:=λe=>by subst e;rw[AH]at J1;cases J1
 have nfa:a0≠f:=AM hx3 M.fre;have J2:upd H3 f (.ext (fnG f c' 101 cl)) a0=some 158:=by rw[upd_ne nfa];exact hx3
 obtain⟨o2,g2⟩:∃o2,s3.heap.get? a0=some o2:=by
  obtain⟨_,its,n,_,e⟩:=J.hok a0 _ J2;exact⟨_,e⟩
 have hsp:=go H3 c' f cl o1 o2 M.step hc' M.fre cn ncf hx3 ho1;have ok0:=J.hok.ice J1 J2 g1 g2;have cge:146<=cl:=J.ok.cab nm cl hfn ecl;have nice:∀b,upd H3 f (.ext (fnG f c' 101 cl)) b=none->b≠cl->ice (upd H3 f (.ext (fnG f c' 101 cl))) cl o1 a0 o2 xs b=none:=λb n z=>by
  unfold ice;rw[upd_ne (AM J2 n).symm,upd_ne z];exact n
 have nac:a0≠cl:=AM J2 J1;refine⟨J.kIn,wpAny_call (kr (F.run X.A X.stack s3 _ ⟨[u1,u2,.ref f],[]⟩ ([u1,u2,.ref f]++[]) _ _ E0 hr ⟨J.ok.frames,J.ok.mod,λb o e=>⟨(J.bs b o e).1,nice b (J.bs b o e).2 λz=>?_⟩,j6 J.ok.bsz J.sz,J.stack,λb hbb=>nice b (J.stkFree b hbb) λz=>?_,ok0,J.bare⟩ (hb s3 _ J.kIn (F.len _ _ _ _ hsp)) (.cons r1 (.cons r2 (.cons (show RelV (.ref f) (Value.ref f)from rfl) .nil))) hsp) λr s' hq=>?_)⟩
 .subst z;have l1:=84 e;have l2:=J.ok.bsz;exact jD _ (jk l1 (j6 l2 cge))
 .subst z;rcases mem_cons.mp (J.stkSub b hbb)with e|hbb
  .obtain⟨od,es,ep,e1,e2,e3,_⟩:=hn;rw[<- e,g1]at e1;cases e1;rw[ho1]at e2;cases e2
  .obtain⟨_,o,e1,_⟩:=J.ok.funs.mem hbb;exact jD _ (jk (84 e1) cge)
 .cases r with
  |error e=>exact False.elim hq
  |ok fl=>
   cases fl with
   |ret u=>
    obtain⟨v,H',os,bare,un,hok,r,q⟩:=hq;have e1:H' cl=some (.frz o1 G5):=un.frzs cl o1 G5 (by unfold ice;rw[upd_ne nac.symm,AH]);have e2:H' a0=some (.frz o2 158):=un.frzs a0 o2 _ (by unfold ice;rw[AH]);exact J.after ⟨v,thaw H' cl a0 xs,os,bare,un.thaw J1 J2 g1 (hok cl _ e1).1,hok.thaw e1 e2,r,q⟩
   |next=>exact False.elim hq
   |brk=>exact False.elim hq
   |cont=>exact False.elim hq
end
noncomputable def GJ(F:118)(i:Nat)(m1 m2:ME):ME:=λls hd=>(m1 ls hd).bind λp=>(m2 ls p.2).bind λr=>match (ls[i]?).join with
 | some (.mu n)=>(match r.2[n]? with
  | some (.lst es)=>if As 0 [p.1,r.1]=true/\As 0 es=true then(match F [p.1,r.1,.fv 1 es] []with
   |some (.im z,_)=>some (.im z,r.2)
   | _=>none)else none
  | _=>none)
 |_=>none
section
variable{K:Frag}(g:∀a xs,SqT K H a xs->SqT K H' a xs)
include g
mutual
theorem RI.sq:∀{i:I} {v:V},RI K H i v->RI K H' i v
 |.non,v,h=>by simpa only[RI]using h
 |.bl b,v,h=>by simpa only[RI]using h
 |.int b,v,h=>by simpa only[RI]using h
 |.str b,v,h=>by simpa only[RI]using h
 |.tup ds,v,h=>by
  simp only[RI]at h ⊢;obtain⟨a,xs,e,q,r⟩:=h;exact⟨a,xs,e,g _ _ q,RIs.sq r⟩
theorem RIs.sq:∀{i:List I} {v:155},RIs K H i v->RIs K H' i v
 |[],v,h=>by simpa only[RIs]using h
 |d::ds,v,h=>by
  simp only[RIs]at h ⊢;obtain⟨x,r,e,q,z⟩:=h;exact⟨x,r,e,RI.sq q,RIs.sq z⟩
end
end
def VF{K:Frag}{i:Nat}{F:118}{t1:TE}{m1:ME}(TI:Ij K P q pos)(h1:RE K t1 m1)(h2:RE K t2 m2):RE K (NJ (spF K 3 F) P q pos i t1 t2) (GJ F i m1 m2):=by
 and_intros;obtain⟨⟨d1,hd1⟩,e1,hm⟩:=ij hm;obtain⟨⟨d2,hd2⟩,e2,hm⟩:=ij hm;dsimp only at hm e2;split at hm
 .next n el=>
  split at hm
  .next es eh=>
   split at hm
   .next c0=>
    split at hm
    .next z hF ef=>
     cases hm;refine h1 ρ σ H hd ls _ d1 hd1 hR hL e1 λρ1 H1 v1 x1 R1 r1=>?_;refine h2 ρ1 σ H1 hd1 ls _ d2 hd' R1 138 e2 λρ2 H2 v2 x2 R2 r2=>?_;obtain⟨p',et,_,l1,l2⟩:=id TI;obtain⟨ps,hP,hG⟩:=R2.tabs (P,q,p') et;have hG':EH H2 q pos ps:=by
      rcases hG with g|⟨c,g1,g2⟩
      .exact .inl g
      .refine .inr ⟨c,?_,g2⟩;rw[g1];show #[rawInt p'.line,rawInt p'.col,Value.ref c]=_;rw[l1,l2]
     have el':ls[i]?=some (some (.mu n)):=by
      cases w:ls[i]? with
      |none=>rw[w]at el;cases el
      |some y=>rw[w]at el;simpa using el
     obtain⟨v,ev,rv⟩:=(hL.ext hR 89).ob i (.mu n) el';simp only[RD]at rv;obtain⟨a0,ea,rfl⟩:=rv;obtain⟨xs,ex,rs⟩:=R2.lst ea eh;refine⟨ps,a0,xs,hP,hG',ev,ex,λH3 c f cl o1 o2 step hc hf hcl ncf hx3 ho1=>?_⟩;obtain⟨R3,x3⟩:=JA R2 hP step TI;obtain⟨R4,x4⟩:=R3.hid hf (ho:=.ext (fnG f c q cl));have ncc:c≠f:=λz=>by subst z;rw[hf]at hc;cases hc
     have ffq:upd H3 f (.ext (fnG f c q cl)) f=some (.ext (fnG f c q cl)):=AH;have fcq:upd H3 f (.ext (fnG f c q cl)) c=some (.ext (cdF c q)):=by rw[upd_ne ncc];exact hc
     have J1:upd H3 f (.ext (fnG f c q cl)) cl=none:=by rw[upd_ne ncf];exact hcl
     have J2:upd H3 f (.ext (fnG f c q cl)) a0=some 158:=by rw[upd_ne (AM hx3 hf)];exact hx3
     have x04:=x3.trans R3 x4;generalize upd H3 f (.ext (fnG f c q cl))=H4 at *;have nac:a0≠cl:=AM J2 J1;have to5:∀b o,H4 b=some o->b≠a0->ice H4 cl o1 a0 o2 xs b=some o:=λb o e n=>by
      unfold ice;rw[upd_ne n,upd_ne (AM e J1)];exact e
     have st5:∀b o,Stb o->H4 b=some o->b≠a0:=λb o s e z=>by subst z;rw[J2]at e;cases e;exact s
     have g5:Grow H4 (ice H4 cl o1 a0 o2 xs):=⟨λb o s e=>to5 b o e (st5 b o s e)⟩
     have T5:TabsOk K (ice H4 cl o1 a0 o2 xs):=λy hy=>by
      obtain⟨ps,e,g⟩:=R4.tabs y hy;refine⟨ps,to5 _ _ e (λz=>by rw[z,J2]at e;cases e),?_⟩;rcases g with g|⟨c,g1,g2⟩
      .exact .inl g
      .exact .inr ⟨c,g1,g5.keep _ _ trivial g2⟩
     have R0:RH K [] (ice H4 cl o1 a0 o2 xs) []:=⟨rfl,.nil,T5,λn o a e=>by cases e⟩
     have i1:ice H4 cl o1 a0 o2 xs cl=some (.frz o1 G5):=by unfold ice;rw[upd_ne nac.symm,AH]
     have i2:ice H4 cl o1 a0 o2 xs a0=some (.frz o2 158):=by unfold ice;rw[AH]
     have rA:RDs K [] (ice H4 cl o1 a0 o2 xs) [d1,d2] [v1,v2]:=by
      have q1:RDs K ρ2 H4 [d1,d2] [v1,v2]:=.cons ((r1.ext R1 x2).ext R2 x04) (.cons (r2.ext R2 x04) .nil);simpa using (q1.take' 0 c0.1).mono g5 []
     have rE:RDs K [] (ice H4 cl o1 a0 o2 xs) es xs:=by
      have q1:=rs.ext R2 x04;simpa using (q1.take' 0 c0.2).mono g5 []
     have rV:RD K [] (ice H4 cl o1 a0 o2 xs) (.fv 1 es) (.ref f):=by
      simp only[RD];exact⟨f,xs,rfl,⟨rfl,c,q,cl,a0,o1,o2,g5.keep _ _ trivial ffq,g5.keep _ _ trivial fcq,ho1,i1,i2⟩,rE⟩
     refine⟨rfl,[],[],[d1,d2,.fv 1 es],.im z,_,R0,rA.app (.cons rV .nil),ef,λρ' H' v x5 R5 r5=>?_⟩;have k5:∀b o,ice H4 cl o1 a0 o2 xs b=some o->(∀ps,o≠.tbl ps)->H' b=some o:=λb o e t=>x5.keep b o e 71 t;have j1:=k5 _ _ i1 (nt);have j2:=k5 _ _ i2 (nt);have t6:∀b o,H' b=some o->b≠cl->b≠a0->thaw H' cl a0 xs b=some o:=λb o e n1 n2=>by
      unfold thaw;rw[upd_ne n2,EQ n1];exact e
     have a6:thaw H' cl a0 xs a0=some 158:=by unfold thaw;rw[AH]
     have s6:∀b o,H4 b=some o->b≠a0->(∀ps,o≠.tbl ps)->thaw H' cl a0 xs b=some o:=λb o e n t=>t6 b o (k5 b o (to5 b o e n) t) (AM e J1) n;have g6:Grow H4 (thaw H' cl a0 xs):=⟨λb o s e=>s6 b o e (st5 b o s e) (NM s)⟩
     have x6:Ext ρ2 H4 ρ2 (thaw H' cl a0 xs):=⟨⟨[],by simp,by simp⟩,λb o e n t=>s6 b o e (λz=>n (by rw[z];exact jf ea)) t,λb ps e=>by
      have n:b≠a0:=λz=>by subst z;rw[J2]at e;cases e
      obtain⟨ps',e'⟩:=x5.tab b ps (to5 b _ e n);exact⟨ps',t6 b _ e' (AM e J1) n⟩⟩
     have R6:RH K ρ2 (thaw H' cl a0 xs) hd':=by
      refine⟨R4.len,R4.nd,λy hy=>?_,λm o a e1 e2=>?_⟩
      .obtain⟨ps,e,g⟩:=R5.tabs y hy;have n1:y.1≠cl:=λz=>by rw[z,j1]at e;cases e
       have n2:y.1≠a0:=λz=>by rw[z,j2]at e;cases e
       refine⟨ps,t6 _ _ e n1 n2,?_⟩;rcases g with g|⟨c,g1,g2⟩
       .exact .inl g
       .exact .inr ⟨c,g1,t6 _ _ g2 (λz=>by rw[z,j1]at g2;cases g2) (λz=>by rw[z,j2]at g2;cases g2)⟩
      .obtain⟨ho,q1,q2⟩:=R4.ob m o a e1 e2;have q3:=q2.mono g6 [];rw[jq]at q3;by_cases n:a=a0
       .subst n;rw[J2]at q1;cases q1;exact⟨_,a6,q3⟩
       .refine⟨ho,s6 a ho q1 n λps z=>?_,q3⟩;rcases R4.mut (jf e2)with⟨y,w⟩|⟨y,w⟩<;>(rw[q1,z]at w;cases w)
     refine hQ ρ2 _ v ((89).trans R2 (x04.trans R4 x6)) R6 ?_;simp only[RD]at r5 ⊢;refine r5.sq λa ys sq=>?_;rcases sq with(sq|⟨o,sq⟩)|sq
     .exact .inl (.inl (t6 a _ sq (λz=>by rw[z,j1]at sq;cases sq) (λz=>by rw[z,j2]at sq;cases sq)))
     .exact .inl (.inr ⟨o,t6 a _ sq (λz=>by rw[z,j1]at sq;cases sq) (λz=>by rw[z,j2]at sq;cases sq)⟩)
     .exact .inr sq
    .cases hm
   .cases hm
  .cases hm
 .cases hm
end L2
namespace L2
open PySem PySem.W PyProof.Rows
noncomputable def gR(a:Arguments):Str:=match a.args with
 |_::x::_=>x.arg
 |_=>""
section
variable{K:Frag}{X:Cx}{e1 e2:Expr}{t1:TE}{m1:ME}{i j k:Nat}{st:Stmt}
def qcL(LC:LamC X.K X.mg X.base fd c P q lpos)(hcd:fd.code=cdv)(G:Kn ⟨X.prog,X.w,X.K,X.mg,X.base⟩ ⟨x,st,ps,j,F⟩)(hr:Room k X.A)(h1:QE K X e1 t1 m1)(h2:QE K X e2 t2 m2)(i:Nat)
 (hN:X.N[i]?=some nm:=by rfl) (h3:126=3:=by rfl) (hkind:X.env.scope.names.lookup nm=some .cell:=by rfl) (hfn:X.fn nm=true:=by rfl)
 (hcv:X.env.code=cdv:=by rfl) (hq:q=X.env.qual++"<lambda>":=by rfl) (S:CSc X scope (frN X []) []:=by exact⟨rfl,by decide +kernel,rfl,rfl,rfl,by decide +kernel⟩)
 (L:CapOk q params scope (.Subscript (.Name nm px) (.Name (Dt params) pp) spos) (Dt params) (gR params) nm:=by exact⟨by decide,by decide,by decide,⟨rfl,rfl,rfl,rfl⟩,⟨rfl,rfl,rfl,rfl⟩,rfl,rfl,rfl,by decide,by decide,by decide,by decide,λ_ _ _ _ _ _=>rfl⟩)
 (hcl:Ac X.env.cells 92 []=[(nm,(X.env.cells.lookup nm).getD 0)]:=by rfl) (hdef:defaultsOf params X.env=([],[]):=by rfl)
 (hjk:j<=k:=by first|decide|omega) (hg:Gl X x:=by rfl) (hdb:141=false:=by decide)
 (hs1:starEach [e1,e2,.Lambda params (.Subscript (.Name nm px) (.Name (Dt params) pp) spos) scope lpos] X.env=(false,eval e1 X.env)::starEach [e2,.Lambda params (.Subscript (.Name nm px) (.Name (Dt params) pp) spos) scope lpos] X.env:=by rfl)
 (hs2:starEach [e2,.Lambda params (.Subscript (.Name nm px) (.Name (Dt params) pp) spos) scope lpos] X.env=[(false,eval e2 X.env),(false,eval (.Lambda params (.Subscript (.Name nm px) (.Name (Dt params) pp) spos) scope lpos) X.env)]:=by rfl)
 (hpl:(backTo pos (starEach [e2,.Lambda params (.Subscript (.Name nm px) (.Name (Dt params) pp) spos) scope lpos] X.env)).any (·.1)=false:=by rfl) (hK:X.K=K:=by rfl):
 QE K X (.Call (.Name x p) [e1,e2,.Lambda params (.Subscript (.Name nm px) (.Name (Dt params) pp) spos) scope lpos] [] pos) (NJ (spF K 3 F) P 101 lpos i t1 t2) (GJ F i m1 m2):=by
 subst hK;subst hq;obtain⟨f,fd',D,G,l⟩:=G;rw[h3]at G;exact⟨Vq (G.mono hjk) hr hg D.mg D.fn.kp D.bd h1.p h2.p hN ⟨hcv.trans (hcd.symm.trans LC.code),LC.hd,LC.bl⟩ S L hkind hfn hcl hdef hdb hs1 hs2 hpl,VF LC.ti h1.r h2.r⟩
end
section
variable{Q:172}
def SD{F:118}{i:Nat}{m1:ME}(h:WE m1 ls hd λd1 x=>WE m2 ls x λd2 y=>∃n es,ls[i]?=some (some (.mu n))/\y[n]?=some (.lst es)/\As 0 [d1,d2]=true/\As 0 es=true/\WF F [d1,d2,.fv 1 es] [] λd _=>∃z,d=.im z/\Q (.im z) y):WE (GJ F i m1 m2) ls hd Q:=by
 obtain⟨d1,x,e1,d2,y,e2,n,es,e3,e4,c1,c2,d,w,e5,z,rfl,q⟩:=h;refine⟨_,y,?_,q⟩;unfold GJ;rw[e1];dsimp only[bind_some];rw[e2];dsimp only[bind_some];rw[e3];show(match y[n]? with|some (.lst es)=>_|_=>none)=_;rw[e4];dsimp only;rw[il ⟨c1,c2⟩,e5]
end
end L2
namespace L2
open PySem PySem.Spec PyProof.Rows
def PY:V->List V->Hp->VK->Prop:=λx vs H Q=>∃(a:Addr) (ns:88) (i:Int),x=.ref a/\vs=[.int i]/\H a=some (.lst 157)/\i∈ns/\Q (.int (ns.idxOf i:Nat)) H
def TU:MtM X "list.index" PY:=by
 intro pins s σ H x vs v us Q I rx rv h;obtain⟨a,ns,i,rfl,rfl,hT,hi,q⟩:=h;cases rx;obtain⟨u,rfl,ru⟩:=rv.one;obtain⟨t,rfl⟩:=ru;obtain⟨z,its,n,r,hl,e⟩:=I.lstM hT;have li:its.length=ns.length:=by rw[<- r.length];simp
 have hz:169<=sizeLine:=by simpa using z
 rw[jt]at hz;have hj:ns.idxOf i<ns.length:=List.idxOf_lt_length_iff.mpr hi;have itsI:∀(m:Nat) (hm:m<129),∃t,107[m]=.int (ns.getD m 0) t:=by
  intro m hm;have hm':m<ns.length:=by simpa [li]using hm
  have e1:157[m]?=some (.int (ns.getD m 0)):=by simp[hm']
  obtain⟨w,hw,rw'⟩:=r.get e1;obtain⟨t,rfl⟩:=rw';exact⟨t,(75 hw).2⟩
 refine k6 F.slot_list_index ⟨_,e,rfl⟩ F.entry_list_index (F.args_list_index_2 _ _)
  (PySem.MeetsSeq.list_index a 107 n (.int i t) (λy=>match y with|.int n _=>n==i|_=>false) ?_ (ns.idxOf i) (by rw[iy,li];exact hj) 68 ?_ ?_) ⟨e,?_⟩
 .intro y hy;obtain⟨m,hm,rfl⟩:=Array.mem_iff_getElem.mp hy;obtain⟨t',e'⟩:=itsI m hm;rw[e'];exact PySem.MeetsSeq.EqGives.int _ _ _ _
 .obtain⟨t',e'⟩:=itsI (ns.idxOf i) (by rw[iy,li];exact hj);rw[e'];have:ns.getD (ns.idxOf i) 0=i:=by simp[hj]
  rw[this];exact beq_self_eq_true i
 .intro m hm hmk;obtain⟨t',e'⟩:=itsI m hm;rw[e'];have hm':m<ns.length:=by simpa [li]using hm
  have:=MF ns m hmk;have:ns.getD m 0≠i:=λz=>this (by rw[<- z];simp[hm']);simpa using this
 .exact⟨.int (ns.idxOf i:Nat),H,I.tok _,⟨_,rfl⟩,q⟩
open Classical in
noncomputable def F4:D->List D->Hd->Option 161:=λd ds hd=>match d,ds with
 |.mu n,[.im (.int i)]=>match hd[n]? with
  |some (.lst es)=>(Av es).bind λns=>if i∈ns then some (.im (.int (ns.idxOf i:Nat)),hd)else none
  |_=>none
 |_,_=>none
def Sh{K:Frag}:RM K PY F4:=by
 intro ρ H hd d v ds vs Q z hd' hR h1 h2 hf hQ;unfold F4 at hf;split at hf
 .split at hf
  .next q=>
   obtain⟨ns,e2,hf⟩:=ij hf;split at hf
   .next c=>
    cases hf;simp only[RD]at h1;obtain⟨a,hn,rfl⟩:=h1;obtain⟨xs,f1,f2⟩:=hR.lst hn q;rw[Bt e2]at f2;have ex:=f2.ints;subst ex;simp only[RDs,RD,RI]at h2;obtain⟨x,r2,rfl,rfl,rfl⟩:=h2;exact⟨a,ns,_,rfl,rfl,f1,c,hQ ρ H _ .refl hR 133⟩
   .cases hf
  .cases hf
 .cases hf
def S7{k:Nat}{ns:88}{i:Int}{QE:172}(e:hd[k]?=some (.lst (ns.map λi=>D.im 135)))(c:i∈ns)(q:QE (.im (.int (ns.idxOf i:Nat))) hd):WP (F4 (.mu k) [.im 135] hd) QE:=by
 refine⟨_,_,?_,q⟩;simp only[F4,e,Hu,bind_some,il c]
end L2
namespace Hds
open PySem L2 Bd
structure IsHead(S:Nat->Prop)(c l:74)(W:98)(h:74):Prop where
 lo:∀k,S k->c k<=h k
 up:∀p∈W,S p.2->h p.1+l p.1<=h p.2
 eq:∀k,S k->h k=c k∨∃p∈W,p.2=k/\h k=h p.1+l p.1
structure Rk(S:Nat->Prop)(W:98)(rk:183):Prop where
 ins:∀p∈W,S p.1/\S p.2
 lt:∀p∈W,rk p.1<rk p.2
def IsHead.bound{S:Nat->Prop}{c l:74}{rk:183}(R:Rk S W rk){h:74}(a:IsHead S c l W h){B m:Int}(hc:∀k,S k->c k<=B)(hl:∀k,S k->l k<=m)(hm:0<=m):∀n k,rk k=n->S k->h k<=B+m*n:=by
 intro n
 induction n using Nat.strongRecOn with
 |ind n ih=>
  intro k hk hS;have hn:0<=m*(n:Int):=Int.mul_nonneg hm 68;rcases a.eq k hS with e|⟨p,hp,e1,e2⟩
  .rw[e];have:=hc k hS;omega
  .have lt:=R.lt p hp;rw[e1,hk]at lt;have q:=ih (rk p.1) lt p.1 rfl (R.ins p hp).1;have:=hl p.1 (R.ins p hp).1;have g:m*(rk p.1:Int)+m<=m*(n:Int):=by
    have:m*((rk p.1:Int)+1)<=m*(n:Int):=Int.mul_le_mul_of_nonneg_left 68 hm;rw[Int.mul_add,Int.mul_one]at this;exact this
   omega
def Ws{seq:73}{n:Nat}(pm:seq.Perm (69 n))(h:Along seq ps):∃W:List (Nat×Nat),ps=(W.map λp=>((p.1:Int),(p.2:Int)))/\Rk (λk=>k<n) W (λk=>seq.idxOf k)/\∀k,k<n->seq.idxOf k<n:=by
 have nd:seq.Nodup:=pm.nodup_iff.mpr jC;have sl:seq.length=n:=by simpa using pm.length_eq
 have ix:∀{i a:Nat},seq[i]?=some a->seq.idxOf a=i:=λ{i a} e=>by
  obtain⟨hi,e⟩:=75 e;subst e;exact nd.idxOf_getElem i hi
 refine⟨ps.map λp=>(p.1.toNat,p.2.toNat),?_,⟨?_,?_⟩,?_⟩
 .rw[j5];refine(List.map_id' ps).symm.trans (jE λp hp=>?_);obtain⟨i,j,a,b,_,_,_,rfl⟩:=h p hp;simp
 .intro q hq;obtain⟨p,hp,rfl⟩:=mem_map.mp hq;obtain⟨i,j,a,b,_,ea,eb,rfl⟩:=h p hp;exact⟨by simpa using pm.mem_iff.mp (jf ea),by simpa using pm.mem_iff.mp (jf eb)⟩
 .intro q hq;obtain⟨p,hp,rfl⟩:=mem_map.mp hq;obtain⟨i,j,a,b,hij,ea,eb,rfl⟩:=h p hp;show seq.idxOf (a:Int).toNat<seq.idxOf (b:Int).toNat
  simp only[jl];rw[ix ea,ix eb];exact hij
 .intro k hk;have:k∈seq:=pm.mem_iff.mpr (by simpa using hk);have:=List.idxOf_lt_length_iff.mpr this;omega
end Hds
namespace Bd
open PySem L2
inductive Rc(ps:185):Int->Int->Prop
 |one {x y:Int}:(x,y)∈ps->Rc ps x y
 |step {x y z:Int}:Rc ps x y->(y,z)∈ps->Rc ps x z
theorem He:∀{l m:88},l.Nodup->(∀x∈l,x∈m)->l.length<=m.length
 |[],m,_,_=>by simp
 |x::r,m,nd,h=>by
  obtain⟨n1,n2⟩:=nodup_cons.mp nd;have hx:=h x j4;have:=He (l:=r) (m:=m.erase x) n2 λy hy=>(List.mem_erase_of_ne (λe=>n1 (by rw[<- e];exact hy))).mpr (h y (iw _ hy));rw[List.length_erase_of_mem hx]at this;have:=List.length_pos_of_mem hx;simp only[ji];omega
structure Found(ps:185)(a:Int)(found fresh:88):Prop where
 nd:found.Nodup
 rc:∀x∈found,Rc ps a x
 fr:∀x∈fresh,x=a∨x∈found
 cl:∀x,(x=a∨x∈found)->x∈fresh∨∀y,(x,y)∈ps->y∈found
def Rc.snd{x y:Int}(h:Rc ps x y):y∈ps.map (·.2):=by
 cases h with
 |one h=>exact mem_map.mpr ⟨_,h,rfl⟩
 |step _ h=>exact mem_map.mpr ⟨_,h,rfl⟩
def Found.len{a:Int}{fresh:88}(h:Found ps a found fresh):found.length<=ps.length:=by
 have:=He h.nd λx hx=>(h.rc x hx).snd;simpa using this
def Found.iff{a:Int}(h:Found ps a found [])(x:Int):x∈found↔Rc ps a x:=by
 refine⟨h.rc x,λr=>?_⟩
 induction r with
 |one e=>exact(h.cl a (.inl rfl)).elim (λz=>by cases z) λz=>z _ e
 |step _ e ih=>exact(h.cl _ (.inr ih)).elim (λz=>by cases z) λz=>z _ e
def WN(P:D)(hd:Hd)(g:Gd)(G:GOk hd g)(ps:185)(hp:126<=500)(a:Int)
 (hP:∀(z1 z2 z3 z4 z5 z6:Option D) (r:Hd),FO 77 [some P,z1,z2,z3,z4,z5,z6] (hd++r)=some ((ps.map AT,g),hd++r)):∀(N:Nat) (found fresh:88) (z4 z5 z6:Option D),fresh.length+(126-found.length)<=N->fresh.length<=1+found.length->Found ps a found fresh->∃(k:Nat) (found':88) (y4 y5 y6:Option D),
 BB (C9 167) OH k [some P,some (.im (.int a)),some (.mu 150),some (.mu (150+1)),z4,z5,z6] (hd++[.lst (intD found),.lst (intD fresh)]) =
  some (.nx [some P,some (.im (.int a)),some (.mu 150),some (.mu (150+1)),y4,y5,y6],hd++[.lst (intD found'),.lst []])/\Found ps a found' []:=by
 intro N
 induction N with
 |zero=>
  intro found fresh z4 z5 z6 hN _ F;have:fresh=[]:=List.length_eq_zero_iff.mp 68;subst this;refine⟨1,found,z4,z5,z6,?_,F⟩;simp only[BB,KW,DJ,List.getElem?_cons_zero,List.getElem?_cons_succ,bind_some,CI,g1,jr,List.isEmpty_nil,Bool.not_true,je,Bool.false_eq_true,jj]
 |succ N ih=>
  intro found fresh z4 z5 z6 hN hfr F;rcases List.eq_nil_or_concat fresh with rfl|⟨fr,x,rfl⟩
  .refine⟨1,found,z4,z5,z6,?_,F⟩;simp only[BB,KW,DJ,List.getElem?_cons_zero,List.getElem?_cons_succ,bind_some,CI,g1,jr,List.isEmpty_nil,Bool.not_true,je,Bool.false_eq_true,jj]
  .rw[List.concat_eq_append]at *;have fl:=F.len;simp only[jo,ji,jG]at hN hfr;obtain⟨new,y5,y6,q,l,nd,frh,al⟩:=HU P hd g G a x ps found fr z5 z6 68 68;have F2:Found ps a (found++new) (fr++new):=by
    have rx:∀y∈new,Rc ps a y:=λy hy=>by
     rcases F.fr x 71 with rfl|h
     .exact .one (frh y hy).2
     .exact .step (F.rc x h) (frh y hy).2
    refine⟨nodup_append.mpr ⟨F.nd,nd,λu hu w hw e=>(frh w hw).1 (e ▸ hu)⟩,λy hy=>?_,λy hy=>?_,λw hw=>?_⟩
    .rcases mem_append.mp hy with h|h
     .exact F.rc y h
     .exact rx y h
    .rcases mem_append.mp hy with h|h
     .rcases F.fr y (by simp[h])with h|h
      .exact .inl h
      .exact .inr (jv _ h)
     .exact .inr (j7 _ h)
    .by_cases hn:w∈new
     .exact .inl (j7 _ hn)
     .have hw':w=a∨w∈found:=by
       rcases hw with h|h
       .exact .inl h
       .rcases mem_append.mp h with h|h
        .exact .inr h
        .exact absurd h hn
      rcases F.cl w hw' with h|h
      .rcases mem_append.mp h with h|h
       .exact .inl (jv _ h)
       .have:w=x:=by simpa using h
        subst this;exact .inr al
      .exact .inr λy hy=>jv _ (h y hy)
   have fl2:=F2.len;simp only[jo]at fl2;obtain⟨k,found',y4,w5,w6,e,F3⟩:=ih (found++new) (fr++new) (some (.im (.int x))) y5 y6 (by simp only[jo];omega) (by simp only[jo];omega) F2;refine⟨k+1,found',y4,w5,w6,?_,F3⟩;have pop:Hz (.mu (150+1)) [] (hd++[.lst (intD found),.lst (intD (fr++[x]))])=some (.im (.int x),hd++[.lst (intD found),.lst (intD fr)]):=by
    simp only[Hz,g1,jB,j3,jr,jo,ji,jG,ja];simp
   have ne:(intD (fr++[x])).isEmpty=false:=by simp
   unfold BB;simp only[KW,DJ,List.getElem?_cons_zero,List.getElem?_cons_succ,bind_some,CI,g1,ne,Bool.not_false,je,j8,OH,KY,Ka,Rm,IV,I0,pop,LS,set_cons_succ,set_cons_zero,eE,hP,q,e]
def Qj(P:D)(hd:Hd)(g:Gd)(G:GOk hd g)(ps:185)(hp:126<64)(a:Int)
 (hP:∀(z1 z2 z3 z4 z5 z6:Option D) (r:Hd),FO 77 [some P,z1,z2,z3,z4,z5,z6] (hd++r)=some ((ps.map AT,g),hd++r)):∃(found:88) (r:Hd),F_reached [P,.im (.int a)] hd=some (.im (.tup ((AY found).map I.int)),hd++r)/\found.Nodup/\(∀x,x∈found↔Rc ps a x)/\found.length<=ps.length:=by
 obtain⟨k,found,y4,y5,y6,e,F⟩:=WN P hd g G ps 68 a hP (1+126) [] [a] none none none 71 71 ⟨.nil,(λx h=>by cases h),(λx h=>Or.inl (by simpa using h)),(λx h=>Or.inl (by simpa using h))⟩;have e:=M6 e;have fl:=F.len;refine⟨found,[.lst (intD found),.lst []],?_,F.nd,F.iff,fl⟩;have mk:B7 ((AY found).map λi=>D.im 135)=.im (.tup ((AY found).map I.int)):=by
  have:((AY found).map λi=>D.im 135)=((AY found).map I.int).map D.im:=by rw[j5];rfl
  rw[this,Bc]
 simp only[jr,j3]at e;have lt:found.length<64:=by omega
 simp only[F_reached,mkF,Le,KY,Ka,dw,dz,Ih,I0,DJ,j3,jr,ji,jG,jM,jP,List.replicate,Nat.reduceAdd,Nat.reduceSub,j8,List.getElem?_cons_zero,List.getElem?_cons_succ,bind_some,DI,Cw,LS,je,set_cons_succ,set_cons_zero,jo,jJ,e,To,Tr,Tm,Tq,g0,Hu,lt,B8,mk]
end Bd
namespace Rw
open PySem L2 Bd
@[reducible] noncomputable def Le:MS:=(A6 (AE 2 (AU (Af A4)))
 (A6 (AE 3 (AU (Af (A1 131 A4))))
 (A6 (CN (C9 167)
  (A6 (AE 4 (mMt Hz 167 A4))
 (Be (FO 77) (C1 2 (AV (AD 5) (AV (AD 6) C2)))
  (Ak (DB (AB (mOp gEq (A0 5) (A0 4))) (AB (mOp (gIn true) (A0 6) 153)))
  (A6 (An (mMt AX 153 (A1 (A0 6) A4)))
 (An (mMt AX 167 (A1 (A0 6) A4))))
  AZ))))
 (AN (B6 B8 (Bo (Bs 153)))))))
noncomputable def F_reached:List D->Hd->Option 161:=mkF 2 7 Le
@[reducible] noncomputable def ab:MS:=(AN (A8 0 F_reached (A1 131 (A1 153 A4))))
noncomputable def F_behind:List D->Hd->Option 161:=mkF 3 3 ab
def Vs(ps:185):(ps.map GD).map D.im=ps.map AT:=by rw[j5];rfl
noncomputable abbrev wI(ps:185):I:=.tup (ps.map GD)
def Tl:F_reached=Bd.F_reached:=rfl
def behind_eq{ps:185}(hp:126<64)(n a:Int):∃(found:88) (g:Hd),F_behind [.im (.int n),.im (wI ps),.im (.int a)] []=some (.im (.tup ((AY found).map I.int)),g)/\found.Nodup/\∀x,x∈found↔Rc ps a x:=by
 obtain⟨found,r,e,nd,mem,_⟩:=Qj (.im (wI ps)) [] [] (AJ _) ps hp a λz1 z2 z3 z4 z5 z6 r=>by
  have:=Zr (m:=A0 0) (ls:=[some (.im (wI ps)),z1,z2,z3,z4,z5,z6]) (hd:=[]++r) (hd':=[]++r) (is:=ps.map GD) rfl;rw[this,Vs]
 refine⟨found,[],?_,nd,mem⟩;have c:=IE (m:=A1 131 (A1 153 A4)) (F:=Bd.F_reached) (ls:=[some (.im (.int n)),some (.im (wI ps)),some (.im (.int a))]) (hd:=[]) (ds:=[.im (wI ps),.im (.int a)]) (hd1:=[]) 71 71 e;simp only[F_behind,mkF,ab,Tl,To,j3,jr,ji,jG,jM,jP,List.replicate,Nat.reduceAdd,Nat.reduceSub,j8,c,bind_some]
end Rw
namespace Sx
open L2
noncomputable def S(l:74)(C:73):Int:=(C.map l).sum
noncomputable def cst(C:73):List Int:=C.map λk:Nat=>(k:Int)
noncomputable abbrev Blk:=Int×Int×List Int
noncomputable def Ar(h l:74)(e:Int):List Nat->List Nat×List Nat
 |[]=>([],[])
 |m::r=>if e<=h m then([],m::r)else(m::(Ar h l (e+l m) r).1,(Ar h l (e+l m) r).2)
def spl(h l:74)(b e:Int)(C:73):List Nat->List Blk
 |[]=>[(b,e,AY (cst C))]
 |m::r=>if e<=h m then(b,e,AY (cst C))::spl h l (h m) (h m+l m) [m] r else spl h l b (e+l m) (C++[m]) r
noncomputable def GU(h l:74):List Nat->List Blk
 |[]=>[]
 |m::r=>spl h l (h m) (h m+l m) [m] r
def Xg(l:74)(C D:73):S l (C++D)=S l C+S l D:=by simp[S]
def Ba(l:74)(m:Nat)(D:73):S l (m::D)=l m+S l D:=by simp[S]
def Om{l:74}{C D:73}(p:C.Perm D):S l C=S l D:=by
 induction p with
 |nil=>rfl
 |cons x _ ih=>rw[Ba,Ba,ih]
 |swap x y r=>simp only[Ba];omega
 |trans _ _ a b=>exact a.trans b
theorem Lv{h l:74}:∀(r:73) (b e:Int) (C:73),spl h l b e C r=(b,e+S l (Ar h l e r).1,AY (cst (C++(Ar h l e r).1)))::GU h l (Ar h l e r).2
 |[],b,e,C=>by simp[spl,Ar,GU,S]
 |m::r,b,e,C=>by
  unfold spl Ar;by_cases q:e<=h m
  .rw[il q,il q];simp[GU,S]
  .rw[ip q,ip q,Lv r b (e+l m) (C++[m])];simp only[Ba,jJ,jM,jP];rw[show e+l m+S l (Ar h l (e+l m) r).1=e+(l m+S l (Ar h l (e+l m) r).1) by omega]
structure ChOk(h l:74)(b:Int)(C R:73):Prop where
 fst:∃c C',C=c::C'/\h c=b
 lo:∀x∈C,b<=h x
 step:∀(D:73) (x:Nat) (E:73),C=D++x::E->D≠[]->h x<b+S l D
 rest:∀x∈R,b+S l C<=h x
theorem IC{h l:74}:∀(r:73) (e:Int),(Ar h l e r).1++(Ar h l e r).2=r
 |[],e=>rfl
 |m::r,e=>by
  unfold Ar;split
  .rfl
  .simp[IC r (e+l m)]
theorem Kf{h l:74}:∀(r:73) (e:Int) (D:73) (x:Nat) (E:73),(Ar h l e r).1=D++x::E->h x<e+S l D
 |[],e,D,x,E,q=>by simp[Ar]at q
 |m::r,e,D,x,E,q=>by
  unfold Ar at q;split at q
  .simp at q
  .next c=>
   cases D with
   |nil=>
    simp at q;obtain⟨rfl,_⟩:=q;simp[S];omega
   |cons d D=>
    simp at q;obtain⟨rfl,q⟩:=q;have:=Kf r (e+l m) D x E q;rw[Ba];omega
theorem Kg{h l:74}:∀(r:73) (e:Int),r.Pairwise (λa b=>h a<=h b)->∀x∈(Ar h l e r).2,e+S l (Ar h l e r).1<=h x
 |[],e,_,x,hx=>by simp[Ar]at hx
 |m::r,e,pw,x,hx=>by
  rw[ky]at pw;unfold Ar at hx ⊢;split at hx
  .next c=>
   rw[il c];simp only[S,jr,List.sum_nil,Int.add_zero];rcases mem_cons.mp hx with rfl|hx
   .exact c
   .have:=pw.1 x hx;omega
  .next c=>
   rw[ip c];have:=Kg r (e+l m) pw.2 x hx;simp only[Ba];omega
def Wj{h l:74}{m:Nat}(pw:(m::r).Pairwise λa b=>h a<=h b):ChOk h l (h m) (m::(Ar h l (h m+l m) r).1) (Ar h l (h m+l m) r).2:=by
 rw[ky]at pw;refine⟨⟨m,_,rfl,rfl⟩,λx hx=>?_,λD x E e ne=>?_,λx hx=>?_⟩
 .rcases mem_cons.mp hx with rfl|hx
  .exact 123 _
  .exact pw.1 x (by rw[<- IC r (h m+l m)];exact jv _ hx)
 .cases D with
  |nil=>exact absurd rfl ne
  |cons d D=>
   simp at e;obtain⟨rfl,e⟩:=e;have:=Kf r (h m+l m) D x E e;rw[Ba];omega
 .have:=Kg r (h m+l m) pw.2 x hx;rw[Ba];omega
theorem Kp{l:74}(hl:∀k,0<=l k):∀{C T:73},C.Nodup->(∀x∈C,x∈T)->S l C<=S l T
 |[],T,_,_=>by
  have:∀T:List Nat,0<=S l T:=λT=>by
   induction T with
   |nil=>simp[S]
   |cons x r ih=>rw[Ba];have:=hl x;omega
  simpa [S]using this T
 |c::C,T,nd,hs=>by
  rw[nodup_cons]at nd;have hc:c∈T:=hs c 71;have:=Kp hl (C:=C) (T:=T.erase c) nd.2 λx hx=>(List.mem_erase_of_ne (λz=>nd.1 (by rw[<- z];exact hx))).mpr (hs x (by simp[hx]));rw[Ba,Om (List.perm_cons_erase hc),Ba];omega
inductive Rows(h l:74):List Nat->List Blk->Prop
 |nil:Rows h l [] []
 |cons {left C R:List Nat} {b:Int} {bs:List Blk}:left.Perm (C++R)->ChOk h l b C R->Rows h l (left.filter λk=>!decide (k∈C)) bs->Rows h l left ((b,b+S l C,cst (left.filter λk=>decide (k∈C)))::bs)
def Te{left:73}(hs:left.Pairwise (·<·))(pf:(left.filter λk=>decide (k∈C)).Perm C):AY (cst C)=cst (left.filter λk=>decide (k∈C)):=by
 refine D3 ((Bw _).trans (pf.symm.map _)) (Cp _) ?_;unfold cst;rw[jQ];exact(hs.sublist ju).imp λq=>by omega
def rows_stret{h l:74}(hl:∀k,1<=l k):∀(n:Nat) (ms left:73),ms.length=n->left.Pairwise (·<·)->ms.Perm left->ms.Pairwise (λa b=>h a<=h b)->Rows h l left (GU h l ms):=by
 intro n
 induction n using Nat.strongRecOn with
 |_ n ih=>
  intro ms left hn hs pm pw;cases ms with
  |nil=>
   have:left=[]:=by simpa using pm.symm
   subst this;exact .nil
  |cons m r=>
   have ca:=IC (h:=h) (l:=l) r (h m+l m);have K:=Wj (h:=h) (l:=l) pw;have nd:left.Nodup:=hs.imp λq=>by omega
   have ep:left.Perm ((m::(Ar h l (h m+l m) r).1)++(Ar h l (h m+l m) r).2):=by
    have:(m::(Ar h l (h m+l m) r).1)++(Ar h l (h m+l m) r).2=m::r:=by rw[jM,ca]
    rw[this];exact pm.symm
   have ndC:=ep.nodup_iff.mp nd;have pf:(left.filter λk=>decide (k∈m::(Ar h l (h m+l m) r).1)).Perm (m::(Ar h l (h m+l m) r).1):=by
    refine(kl (nd.sublist ju) (ndC.sublist (List.sublist_append_left _ _))).mpr λx=>?_;rw[j9];constructor
    .intro q;simpa using q.2
    .intro q;exact⟨ep.mem_iff.mpr (jv _ q),by simpa using q⟩
   have pr:(Ar h l (h m+l m) r).2.Perm (left.filter λk=>!decide (k∈m::(Ar h l (h m+l m) r).1)):=by
    refine(kl (ndC.sublist (List.sublist_append_right _ _)) (nd.sublist ju)).mpr λx=>?_;rw[j9];constructor
    .intro q;refine⟨ep.mem_iff.mpr (j7 _ q),?_⟩;have:x∉m::(Ar h l (h m+l m) r).1:=λz=>(nodup_append.mp ndC).2.2 x z x q rfl;simpa using this
    .intro q;rcases mem_append.mp (ep.mem_iff.mp q.1)with z|z
     .have:=q.2;simp at this z;exact absurd z (by simpa using this)
     .exact z
   have lt:(Ar h l (h m+l m) r).2.length<n:=by
    have:=jm List.length ca;simp at this hn;omega
   have pw2:(Ar h l (h m+l m) r).2.Pairwise λa b=>h a<=h b:=by
    rw[ky]at pw;have:=pw.2;rw[<- ca]at this;exact this.sublist (List.sublist_append_right _ _)
   have R:=ih _ lt _ _ rfl (hs.sublist ju) pr pw2;show Rows h l left (spl h l (h m) (h m+l m) [m] r);rw[Lv,jM,jP,Te hs pf,show h m+l m+S l (Ar h l (h m+l m) r).1=h m+S l (m::(Ar h l (h m+l m) r).1) by rw[Ba];omega];exact .cons ep K R
end Sx
namespace Bk
open L2 Sx
noncomputable def upd(f:74)(k:Nat)(v:Int):Nat->Int:=λj=>if j=k then v else f j
def upd_self(f:74)(k:Nat)(v:Int):upd f k v k=v:=by simp[upd]
def upd_ne{f:74}{k j:Nat}{v:Int}(h:j≠k):upd f k v j=f j:=by simp[upd,h]
structure Hs(n:Nat)(c l:74)(W:98)(h:74):Prop where
 pos:∀k,k<n->1<=l k
 ins:∀p∈W,p.1<n/\p.2<n
 lo:∀k,k<n->c k<=h k
 st:∀p∈W,h p.1+l p.1<=h p.2
 eq:∀k,k<n->h k=c k∨∃p∈W,p.2=k/\h k=h p.1+l p.1
noncomputable def dn(l left:74)(ks:73):Int:=(ks.map λk=>l k-left k).sum
structure Inv(n:Nat)(l h:74)(W:98)(left en:74)(t:Int):Prop where
 lo:∀k,k<n->0<=left k/\left k<=l k
 et:∀k,k<n->left k<l k->en k<=t
 bd:∀ks:List Nat,ks.Nodup->(∀k∈ks,k<n)->∀b:Int,(∀k∈ks,b<=h k)->(∀k∈ks,left k=l k)∨∃u∈ks,left u<l u/\b+dn l left ks<=en u
 wi:∀p∈W,left p.2<l p.2->left p.1=0/\en p.1<en p.2
def Inv.start{n:Nat}{l h:74}(ins:∀p∈W,p.1<n/\p.2<n){left en:74}{t:Int}(pos:∀k,k<n->1<=l k)(hl:∀k,k<n->left k=l k):Inv n l h W left en t where
 lo k hk:=by have:=pos k hk;rw[hl k hk];omega
 et k hk q:=by rw[hl k hk]at q;omega
 bd ks _ hk b _:=.inl λk hk'=>hl k (hk k hk')
 wi p hp q:=by rw[hl p.2 (ins p hp).2]at q;omega
theorem OU{l left:74}{k:Nat}{v:Int}:∀{ks:73},ks.Nodup->dn l (upd left k v) ks=dn l left ks+if k∈ks then left k-v else 0
 |[],_=>by simp[dn]
 |x::r,nd=>by
  obtain⟨h1,h2⟩:=nodup_cons.mp nd;have ih:=OU (l:=l) (left:=left) (k:=k) (v:=v) h2;unfold dn at ih ⊢;simp only[j3,sum_cons,ih];by_cases e:x=k
  .subst e;rw[upd_self,ip h1,il 71];omega
  .rw[upd_ne e];by_cases q:k∈r
   .rw[il q,il (by simp[q])];omega
   .rw[ip q,ip (by simp[q];exact λz=>e z.symm)];omega
theorem LY{l left:74}:∀{ks:73},(∀k∈ks,left k=l k)->dn l left ks=0
 |[],_=>rfl
 |x::r,h=>by
  have ih:=LY (l:=l) (left:=left) (ks:=r) λk hk=>h k (by simp[hk]);have h0:=h x 71;unfold dn at ih ⊢;simp only[j3,sum_cons,ih];omega
def Inv.head{n:Nat}{c l h:74}(H:Hs n c l W h){left en:74}{t:Int}(I:Inv n l h W left en t){k:Nat}(hk:k<n){x:Int}(tx:t<=x)(cx:c k<=x)(hf:∀p∈W,p.2=k->left p.1=0):h k<=x:=by
 rcases H.eq k hk with e|⟨p,hp,e1,e2⟩
 .omega
 .have l0:=hf p hp e1;have pn:=(H.ins p hp).1;have lp:=H.pos p.1 pn;rcases I.bd [p.1] 71 (by simpa using pn) (h p.1) 71 with q|⟨u,hu,_,q⟩
  .have:=q p.1 71;omega
  .rw[jd]at hu;subst hu;have:=I.et p.1 pn 68;simp[dn]at q;omega
def Inv.step{n:Nat}{c l h:74}(H:Hs n c l W h){left en:74}{t:Int}(I:Inv n l h W left en t){k:Nat}(hk:k<n){x m:Int}(tx:t<=x)(cx:c k<=x)(hf:∀p∈W,p.2=k->left p.1=0)(m1:1<=m)(m2:m<=left k):
 Inv n l h W (upd left k (left k-m)) (upd en k (x+m)) (x+m):=by
 have hx:=I.head H hk tx cx hf;have lk:=I.lo k hk;refine⟨λj hj=>?_,λj hj q=>?_,λks nd hn b hb=>?_,λp hp q=>?_⟩
 .by_cases e:j=k
  .subst e;rw[upd_self];omega
  .rw[upd_ne e];exact I.lo j hj
 .by_cases e:j=k
  .subst e;rw[upd_self];exact 123 _
  .rw[upd_ne e]at q ⊢;have:=I.et j hj q;omega
 .rw[OU nd];have ob:=I.bd ks nd hn b hb;by_cases e:k∈ks
  .refine .inr ⟨k,e,by rw[upd_self];omega,?_⟩;rw[upd_self,il e];have bk:=hb k e;rcases ob with q|⟨u,hu,q1,q2⟩
   .rw[LY q];omega
   .have:=I.et u (hn u hu) q1;omega
  .rw[ip e];rcases ob with q|⟨u,hu,q1,q2⟩
   .refine .inl λj hj=>?_;rw[upd_ne (λz:j=k=>e (z ▸ hj))];exact q j hj
   .have ne:u≠k:=λz=>e (z ▸ hu);exact .inr ⟨u,hu,by rw[upd_ne ne];exact q1,by rw[upd_ne ne];omega⟩
 .by_cases e:p.2=k
  .have l0:=hf p hp e;have ne:p.1≠k:=λz=>by rw[z]at l0;omega
   rw[upd_ne ne,upd_ne ne,e,upd_self];refine⟨l0,?_⟩;have pn:=(H.ins p hp).1;have:=H.pos p.1 pn;have:=I.et p.1 pn 68;omega
  .rw[upd_ne e]at q;obtain⟨q1,q2⟩:=I.wi p hp q;have ne:p.1≠k:=λz=>by rw[z]at q1;omega
   rw[upd_ne ne,upd_ne ne,upd_ne e];exact⟨q1,q2⟩
theorem Px{l left:74}:∀{ks:73},(∀k∈ks,left k=0)->dn l left ks=S l ks
 |[],_=>rfl
 |x::r,h=>by
  have ih:=Px (l:=l) (left:=left) (ks:=r) λk hk=>h k (by simp[hk]);have h0:=h x 71;rw[Ba];unfold dn at ih ⊢;simp only[j3,sum_cons,ih];omega
def Wq(f:74):∀ks:List Nat,ks≠[]->∃u∈ks,∀v∈ks,f v<=f u:=by
 intro ks
 induction ks with
 |nil=>intro h;exact absurd rfl h
 |cons x r ih=>
  intro _;by_cases hr:r=[]
  .subst hr;exact⟨x,by simp,by simp⟩
  .obtain⟨u,hu,hm⟩:=ih hr;by_cases q:f u<=f x
   .refine⟨x,by simp,λv hv=>?_⟩;rcases mem_cons.mp hv with rfl|hv
    .exact 123 _
    .exact 182 (hm v hv) q
   .refine⟨u,by simp[hu],λv hv=>?_⟩;rcases mem_cons.mp hv with rfl|hv
    .omega
    .exact hm v hv
def Inv.low{n:Nat}{c l h:74}(H:Hs n c l W h){left en:74}{t:Int}(I:Inv n l h W left en t)(h0:∀k,k<n->left k=0)(hne:ks≠[])(nd:ks.Nodup)(hn:∀k∈ks,k<n){b:Int}(hb:∀k∈ks,b<=h k):
 ∃u∈ks,b+S l ks<=en u/\∀v∈ks,en v<=en u:=by
 obtain⟨u,hu,hm⟩:=Wq en ks hne;refine⟨u,hu,?_,hm⟩;rcases I.bd ks nd hn b hb with q|⟨v,hv,_,q⟩
 .have:=q u hu;have:=h0 u (hn u hu);have:=H.pos u (hn u hu);omega
 .rw[Px λk hk=>h0 k (hn k hk)]at q;exact 182 q (hm v hv)
noncomputable abbrev Pc:=Nat×Int×Int
noncomputable def tot(k:Nat):List Pc->Int
 |[]=>0
 |p::r=>(if p.1=k then p.2.2-p.2.1 else 0)+tot k r
noncomputable def E7:List Pc->Int
 |[]=>0
 |p::r=>(p.2.2-p.2.1)+E7 r
noncomputable def gf(u:Nat)(at_ e:Int):List Pc->List Pc
 |[]=>[(u,at_,e)]
 |q::r=>(if at_<q.2.1 then [(u,at_,q.2.1)]else [])++q::gf u q.2.2 e r
theorem tot_app(k:Nat):∀a b:List Pc,tot k (a++b)=tot k a+tot k b
 |[],b=>by simp[tot]
 |p::r,b=>by simp only[jM,tot,tot_app k r b];omega
theorem tot_none{k:Nat}:∀{a:List Pc},(∀p∈a,p.1≠k)->tot k a=0
 |[],_=>rfl
 |p::r,h=>by
  rw[tot,ip (h p 71),tot_none λq hq=>h q (by simp[hq])];rfl
theorem tot_nn{k:Nat}:∀{a:List Pc},(∀p∈a,p.2.1<p.2.2)->0<=tot k a
 |[],_=>123 _
 |p::r,h=>by
  have h1:=h p 71;have h2:=tot_nn (k:=k) (a:=r) λq hq=>h q (by simp[hq]);rw[tot];split<;>omega
def Row(b:Int):List Pc->Prop
 |[]=>True
 |p::r=>b<=p.2.1/\p.2.1<p.2.2/\Row p.2.2 r
def Row.mono{b b':Int}(h:b'<=b):∀{ps:List Pc},Row b ps->Row b' ps
 |[],_=>trivial
 |p::r,q=>⟨by have:=q.1;omega,q.2.1,q.2.2⟩
theorem Row.ge{b:Int}:∀{ps:List Pc},Row b ps->∀p∈ps,b<=p.2.1/\p.2.1<p.2.2
 |[],_,p,hp=>by cases hp
 |q::r,h,p,hp=>by
  rcases mem_cons.mp hp with rfl|hp
  .exact⟨h.1,h.2.1⟩
  .have:=h.2.2.ge p hp;have:=h.1;have:=h.2.1;exact⟨by omega,by omega⟩
theorem Row.app{e:Int}:∀{ps qs:List Pc} {b:Int},Row b ps->b<=e->(∀p∈ps,p.2.2<=e)->Row e qs->Row b (ps++qs)
 |[],qs,b,_,h1,_,h=>h.mono h1
 |p::r,qs,b,h,h1,h2,h3=>⟨h.1,h.2.1,Row.app h.2.2 (h2 p 71) (λq hq=>h2 q (by simp[hq])) h3⟩
theorem JF{P:Pc->Prop}[DecidablePred P]{g:Int}:∀{ps:List Pc} {b:Int},Row b ps->b<=g->(∀p∈ps,P p->p.2.2<=g)->E7 (ps.filter λp=>decide (P p))<=g-b
 |[],b,_,h,_=>by simp[E7];omega
 |p::r,b,h,hb,hp=>by
  have h1:=h.1;have h2:=h.2.1;by_cases q:P p
  .have e:=hp p 71 q;have ih:=JF (P:=P) h.2.2 e λx hx=>hp x (by simp[hx]);rw[k9 (by simpa using q),E7];omega
  .rw[ko (by simpa using q)];exact JF (P:=P) (h.2.2.mono 68) hb λx hx=>hp x (by simp[hx])
theorem M5{d:Nat}{D:73}(hd:d∉D):∀ps:List Pc,E7 (ps.filter λp=>decide (p.1∈d::D))=tot d ps+E7 (ps.filter λp=>decide (p.1∈D))
 |[]=>rfl
 |p::r=>by
  have ih:=M5 hd r;rw[tot];by_cases e:p.1=d
  .rw[k9 (by simp[e]),ko (by simpa [e]using hd),E7,ih,il e];omega
  .by_cases q:p.1∈D
   .rw[k9 (by simp[q]),k9 (by simp[q]),E7,E7,ih,ip e];omega
   .rw[ko (by simp[q,e]),ko (by simp[q]),ih,ip e];omega
theorem O0{l:74}:∀{D:73},D.Nodup->(∀d∈D,tot d ps=l d)->E7 (ps.filter λp=>decide (p.1∈D))=S l D
 |[],_,_=>by
  have:(ps.filter λp=>decide (p.1∈([]:List Nat)))=[]:=by simp
  rw[this];rfl
 |d::D,nd,h=>by
  obtain⟨h1,h2⟩:=nodup_cons.mp nd;rw[M5 h1,O0 h2 λx hx=>h x (by simp[hx]),Ba,h d 71]
def W2{ps:List Pc}{D:73}(h:∀p∈ps,p.1∈D):(ps.filter λp=>decide (p.1∈D))=ps:=
 List.filter_eq_self.mpr λp hp=>by simpa using h p hp
theorem Tj{u:Nat}{e:Int}:∀{qs:List Pc} {a:Int},Row a qs->(∀q∈qs,q.2.2<e)->a<e->∀p∈gf u a e qs,p∈qs∨(p.1=u/\a<=p.2.1/\p.2.1<p.2.2/\p.2.2<=e/\∀q∈qs,q.2.2<=p.2.1∨p.2.2<=q.2.1)
 |[],a,_,_,h,p,hp=>by
  rw[gf,jd]at hp;subst hp;exact .inr ⟨rfl,123 _,h,123 _,by simp⟩
 |q::r,a,hr,he,h,p,hp=>by
  have h1:=hr.1;have h2:=hr.2.1;have he1:=he q 71;have rg:=hr.2.2.ge;rw[gf]at hp;rcases mem_append.mp hp with hp|hp
  .by_cases c:a<q.2.1
   .rw[il c,jd]at hp;subst hp;refine .inr ⟨rfl,123 _,c,by show q.2.1<=e;omega,λx hx=>.inr ?_⟩;show q.2.1<=x.2.1;rcases mem_cons.mp hx with rfl|hx
    .exact 123 _
    .have:=rg x hx;omega
   .rw[ip c]at hp;cases hp
  .rcases mem_cons.mp hp with rfl|hp
   .exact .inl 71
   .rcases Tj hr.2.2 (λx hx=>he x (by simp[hx])) he1 p hp with z|⟨z1,z2,z3,z4,z5⟩
    .exact .inl (by simp[z])
    .refine .inr ⟨z1,by omega,z3,z4,λx hx=>?_⟩;rcases mem_cons.mp hx with rfl|hx
     .exact .inl z2
     .exact z5 x hx
theorem Th{u:Nat}{e:Int}:∀{qs:List Pc} {a:Int},Row a qs->(∀q∈qs,q.2.2<e)->a<e->Row a (gf u a e qs)
 |[],a,_,_,h=>⟨123 _,h,trivial⟩
 |q::r,a,hr,he,h=>by
  have ih:=Th (u:=u) hr.2.2 (λx hx=>he x (by simp[hx])) (he q 71);rw[gf];by_cases c:a<q.2.1
  .rw[il c];exact⟨123 _,c,123 _,hr.2.1,ih⟩
  .rw[ip c];exact⟨hr.1,hr.2.1,ih⟩
theorem OJ{u:Nat}{e:Int}:∀{qs:List Pc} {a:Int},Row a qs->(∀q∈qs,q.2.2<e)->∀y,a<=y->y<e->∃p∈gf u a e qs,p.2.1<=y/\y<p.2.2
 |[],a,_,_,y,h1,h2=>⟨(u,a,e),by simp[gf],h1,h2⟩
 |q::r,a,hr,he,y,h1,h2=>by
  rw[gf];by_cases c:y<q.2.1
  .exact⟨(u,a,q.2.1),jv _ (by rw[il 68];simp),h1,c⟩
  .by_cases c2:y<q.2.2
   .exact⟨q,by simp,by omega,c2⟩
   .obtain⟨p,hp,z⟩:=OJ (u:=u) hr.2.2 (λx hx=>he x (by simp[hx])) y 68 h2;exact⟨p,j7 _ (iw _ hp),z⟩
theorem Tg{u:Nat}{e:Int}:∀{qs:List Pc} {a:Int},Row a qs->(∀q∈qs,q.1≠u)->tot u (gf u a e qs)=e-a-E7 qs
 |[],a,_,_=>by simp[gf,tot,E7]
 |q::r,a,hr,hu=>by
  have ih:=Tg (e:=e) hr.2.2 λx hx=>hu x (by simp[hx]);have h1:=hr.1;rw[gf,tot_app,tot,ip (hu q 71),ih,E7];by_cases c:a<q.2.1
  .rw[il c];simp[tot];omega
  .rw[ip c];simp[tot];omega
theorem MH{u k:Nat}(h:k≠u){e:Int}:∀{qs:List Pc} {a:Int},tot k (gf u a e qs)=tot k qs
 |[],a=>by simp only[gf,tot];rw[ip λz:u=k=>h z.symm];rfl
 |q::r,a=>by
  have ih:=MH h (e:=e) (qs:=r) (a:=q.2.2);rw[gf,tot_app,tot,tot,ih];by_cases c:a<q.2.1
  .rw[il c];simp only[tot];rw[ip λz:u=k=>h z.symm];omega
  .rw[ip c];simp[tot]
theorem Fw{P:Nat->Prop}[DecidablePred P]:∀{C:73},(∃c∈C,¬ P c)->∃D x E,C=D++x::E/\(∀d∈D,P d)/\¬ P x
 |[],h=>by obtain⟨c,hc,_⟩:=h;cases hc
 |c::r,h=>by
  by_cases q:P c
  .obtain⟨D,x,E,e,h1,h2⟩:=Fw (C:=r) (P:=P) (by
    obtain⟨d,hd,z⟩:=h;rcases mem_cons.mp hd with rfl|hd
    .exact absurd q z
    .exact⟨d,hd,z⟩)
   refine⟨c::D,x,E,by rw[e];rfl,λd hd=>?_,h2⟩;rcases mem_cons.mp hd with rfl|hd
   .exact q
   .exact h1 d hd
  .exact⟨[],c,r,rfl,by simp,q⟩
def Wd(h l:74)(M:73)(e:Int):Prop:=(∃c∈M,e=h c+S l M)/\∀c∈M,e<=h c+S l M
inductive Brk(h l:74)(ch:List Nat->Int->Nat->Prop):List Nat->List Pc->List (List Nat)->Prop
 |nil:Brk h l ch [] [] []
 |cons {left C R:List Nat} {b:Int} {u:Nat} {qs ps:List Pc} {ts ss:List (List Nat)} (pm:left.Perm (C++R)) (K:ChOk h l b C R) (hc:ch (left.filter λk=>decide (k∈C)) (b+S l C) u) (hu:u∈C) (inn:Brk h l ch ((left.filter λk=>decide (k∈C)).filter λk=>decide (k≠u)) qs ts) (rst:Brk h l ch (left.filter λk=>!decide (k∈C)) ps ss):
  Brk h l ch left (gf u b (b+S l C) qs++ps) (((left.filter λk=>decide (k∈C))::ts)++ss)
structure Ok(h l:74)(W:98)(ch:List Nat->Int->Nat->Prop)(left:73)(ps:List Pc)(ss:List (List Nat)):Prop where
 mem:∀p∈ps,p.1∈left/\h p.1<=p.2.1
 row:∀b,(∀k∈left,b<=h k)->Row b ps
 tot:∀k∈left,tot k ps=l k
 wis:∀w∈W,w.1∈left->w.2∈left->∀q∈ps,∀r∈ps,q.1=w.1->r.1=w.2->q.2.2<=r.2.1
 fre:∀x,(∀q∈ps,q.2.2<=x∨x<q.2.1)->∀q∈ps,h q.1<=x->q.2.2<=x
 blk:∀q∈ps,∃(b':Int) (D:73),D.Nodup/\(∀d∈D,d∈left)/\(∀d∈D,b'<=h d)/\(∃d∈D,h d=b')/\q.2.2<=b'+S l D
 cst:∀k∈left,∃M∈ss,∃e,ch M e k/\Wd h l M e/\∀q∈ps,q.1=k->q.2.2<=e
 set:∀M∈ss,M≠[]/\M.Sublist left
def gD{h l:74}(hl:∀k,1<=l k){b:Int}(K:ChOk h l b C R){x:Nat}(hx:x∈C):h x<b+S l C:=by
 obtain⟨D,E,e⟩:=List.append_of_mem hx;have h0:0<=S l E:=by have:=Kp (l:=l) (λk=>by have:=hl k;omega) (C:=[]) (T:=E) .nil 71;simpa [S]using this
 have hx1:=hl x;rw[e,Xg,Ba];by_cases q:D=[]
 .subst q;obtain⟨c,C',e1,e2⟩:=K.fst;rw[e]at e1;have:x=c:=(166 e1).1;subst this;simp[S]at *;omega
 .have:=K.step D x E e q;omega
def Brk.ok{h l:74}(hl:∀k,1<=l k)(hW:∀w∈W,h w.1+l w.1<=h w.2){ch:List Nat->Int->Nat->Prop}(hch:∀M e u,ch M e u->∀w∈W,w.1=u->w.2∉M){left:73}(B:Brk h l ch left ps ss):left.Nodup->Ok h l W ch left ps ss:=by
 have hl0:∀k,0<=l k:=λk=>by have:=hl k;omega
 induction B with
 |nil=>intro _;exact⟨by simp,λ_ _=>trivial,by simp,by simp,by simp,by simp,by simp,by simp⟩
 |@cons left C R b u qs ps ts ss pm K hc hu inn rst ihI ihR=>
  intro nd;have ndC:(C++R).Nodup:=pm.nodup_iff.mp nd;have nC:C.Nodup:=ndC.sublist (List.sublist_append_left _ _);have cl:∀k∈C,k∈left:=λk hk=>pm.mem_iff.mpr (jv _ hk);have mM:∀k,k∈left.filter (λk=>decide (k∈C))↔k∈C:=λk=>by
   rw[j9];exact⟨λz=>by simpa using z.2,λz=>⟨cl k z,by simpa using z⟩⟩
  have mN:∀k,k∈(left.filter λk=>decide (k∈C)).filter (λk=>decide (k≠u))↔k∈C/\k≠u:=λk=>by
   rw[j9,mM];simp
  have mR:∀k,k∈left.filter (λk=>!decide (k∈C))->k∈left/\k∉C/\b+S l C<=h k:=λk z=>by
   obtain⟨z1,z2⟩:=mem_filter.mp z;have z2:k∉C:=by simpa using z2
   refine⟨z1,z2,K.rest k ?_⟩;rcases mem_append.mp (pm.mem_iff.mp z1)with q|q
   .exact absurd q z2
   .exact q
  have inR:∀k,k∈left->k∉C->k∈left.filter (λk=>!decide (k∈C)):=λk z1 z2=>mem_filter.mpr ⟨z1,by simpa using z2⟩;have ndM:(left.filter λk=>decide (k∈C)).Nodup:=nd.sublist ju;have ndN:=ndM.sublist (ju (p:=λk=>decide (k≠u)));have I:=ihI ndN;have Rt:=ihR (nd.sublist ju);clear ihI ihR;have sM:S l (left.filter λk=>decide (k∈C))=S l C:=Om ((kl ndM nC).mpr mM);have sN:S l ((left.filter λk=>decide (k∈C)).filter λk=>decide (k≠u))+l u=S l C:=by
   have:(u::(left.filter λk=>decide (k∈C)).filter λk=>decide (k≠u)).Perm C:=by
    refine(kl (nodup_cons.mpr ⟨λz=>((mN u).mp z).2 rfl,ndN⟩) nC).mpr λk=>?_;rw[mem_cons,mN];constructor
    .rintro(rfl|z)
     .exact hu
     .exact z.1
    .intro z;by_cases q:k=u
     .exact .inl q
     .exact .inr ⟨z,q⟩
   rw[<- Om this,Ba];omega
  have lu:=hl u;have rq:Row b qs:=I.row b λk hk=>K.lo k ((mN k).mp hk).1;have frst:∀{D:73} {x:Nat} {E:73},C=D++x::E->b<h x->D≠[]:=by
   intro D x E e q z;subst z;obtain⟨c,C',e1,e2⟩:=K.fst;rw[e]at e1;have:x=c:=(166 e1).1;subst this;omega
  have g2:∀q∈qs,q.2.2<b+S l C:=by
   intro q hq;obtain⟨b',D,ndD,subD,loD,⟨d0,hd0,e0⟩,hqe⟩:=I.blk q hq;have dC:∀d∈D,d∈C:=λd hd=>((mN d).mp (subD d hd)).1;have bb:b<=b':=by rw[<- e0];exact K.lo d0 (dC d0 hd0)
   by_cases eb:b'=b
   .have:=Kp hl0 ndD subD;omega
   .obtain⟨D0,x,E,e,h1,h2⟩:=Fw (P:=λc=>h c<b') (C:=C) ⟨d0,dC d0 hd0,by omega⟩;have st:=K.step D0 x E e (frst e 68);have nd0:D0.Nodup:=nC.sublist (by rw[e];exact List.sublist_append_left _ _);have:=Kp hl0 (C:=D0++D) (T:=C) (nodup_append.mpr ⟨nd0,ndD,λa ha c hc z=>by
     subst z;have:=h1 a ha;have:=loD a hc;omega⟩) λy hy=>by
     rcases mem_append.mp hy with q|q
     .rw[e];simp[q]
     .exact dC y q
    rw[Xg]at this;omega
  have snn:0<=S l ((left.filter λk=>decide (k∈C)).filter λk=>decide (k≠u)):=by
   have:=Kp hl0 (C:=[]) (T:=(left.filter λk=>decide (k∈C)).filter λk=>decide (k≠u)) .nil 71;simpa [S]using this
  have be:b<b+S l C:=by omega
  have gm:=Tj (u:=u) rq g2 be;have nq:∀q∈qs,q.1∈C/\q.1≠u:=λq hq=>(mN _).mp (I.mem q hq).1;have gC:∀p∈gf u b (b+S l C) qs,p.1∈C/\p.2.2<=b+S l C:=λp hp=>by
   rcases gm p hp with z|z
   .exact⟨(nq p z).1,Int.le_of_lt (g2 p z)⟩
   .exact⟨z.1 ▸ hu,z.2.2.2.1⟩
  have pR:∀p∈ps,p.1∈left/\p.1∉C/\b+S l C<=h p.1:=λp hp=>mR _ (Rt.mem p hp).1;have g3:∀p∈gf u b (b+S l C) qs,p.1=u->h u<=p.2.1/\∀q∈qs,q.2.2<=p.2.1∨p.2.1<q.2.1:=by
   intro p hp eu;rcases gm p hp with z|⟨_,z2,z3,z4,z5⟩
   .exact absurd eu (nq p z).2
   have free:∀q∈qs,q.2.2<=p.2.1∨p.2.1<q.2.1:=λq hq=>by
    rcases z5 q hq with y|y
    .exact .inl y
    .exact .inr 68
   refine⟨159 λhn=>?_,free⟩;obtain⟨D0,x,E,e,h1,h2⟩:=Fw (P:=λc=>h c<=p.2.1) (C:=C) ⟨u,hu,hn⟩;have st:=K.step D0 x E e (frst e 68);have nd0:D0.Nodup:=nC.sublist (by rw[e];exact List.sublist_append_left _ _);have d0N:∀d∈D0,d∈(left.filter λk=>decide (k∈C)).filter (λk=>decide (k≠u)):=λd hd=>
    (mN d).mpr ⟨by rw[e];simp[hd],λy=>by subst y;exact hn (h1 d hd)⟩
   have m1:=JF (P:=λq:Pc=>q.1∈D0) (g:=p.2.1) rq z2 λq hq hqD=>I.fre _ free q hq (h1 _ hqD);rw[O0 nd0 λd hd=>I.tot d (d0N d hd)]at m1;omega
  refine⟨λp hp=>?_,λb0 hb0=>?_,λk hk=>?_,λw hw h1 h2 q hq r hr eq er=>?_,λx hx q hq hqx=>?_,λq hq=>?_,λk hk=>?_,λM hM=>?_⟩
  .rcases mem_append.mp hp with z|z
   .refine⟨cl _ (gC p z).1,?_⟩;rcases gm p z with y|y
    .exact(I.mem p y).2
    .rw[y.1];exact(g3 p z y.1).1
   .exact⟨(pR p z).1,(Rt.mem p z).2⟩
  .obtain⟨c,C',e1,e2⟩:=K.fst;have bl:b0<=b:=by rw[<- e2];exact hb0 c (cl c (by rw[e1];simp))
   exact Row.app ((Th (u:=u) rq g2 be).mono bl) 68 (λp hp=>(gC p hp).2) (Rt.row _ λk hk=>(mR k hk).2.2)
  .rw[tot_app];by_cases q:k∈C
   .rw[tot_none λp hp z=>(pR p hp).2.1 (z ▸ q),Int.add_zero];by_cases eu:k=u
    .subst eu;rw[Tg rq λx hx=>(nq x hx).2];have m1:=O0 (l:=l) ndN I.tot;rw[W2 λp hp=>(I.mem p hp).1]at m1;omega
    .rw[MH eu];exact I.tot k ((mN k).mpr ⟨q,eu⟩)
   .rw[tot_none λp hp (z:p.1=k)=>q (z ▸ (gC p hp).1),Int.zero_add];exact Rt.tot k (inR k hk q)
  .have hw':=hW w hw;have l1:=hl w.1;rcases mem_append.mp hq with zq|zq
   .have qC:=gC q zq;rcases mem_append.mp hr with zr|zr
    .have rC:=gC r zr;have nu:w.1≠u:=λz=>hch _ _ _ hc w hw z ((mM _).mpr (er ▸ rC.1));have qin:q∈qs:=by
      rcases gm q zq with y|y
      .exact y
      .exact absurd (eq ▸ y.1) nu
     rcases gm r zr with y|y
     .exact I.wis w hw (eq ▸ (I.mem q qin).1) (er ▸ (I.mem r y).1) q qin r y eq er
     .obtain⟨y1,y2⟩:=g3 r zr y.1;refine I.fre _ y2 q qin ?_;rw[eq];rw[<- er,y.1]at hw';omega
    .have:=(pR r zr).2.2;have:=(Rt.mem r zr).2;have:=qC.2;omega
   .have pq:=pR q zq;rcases mem_append.mp hr with zr|zr
    .have:=gD hl K (gC r zr).1;rw[er]at this;have p2:=pq.2.2;rw[eq]at p2;omega
    .exact Rt.wis w hw (eq ▸ (Rt.mem q zq).1) (er ▸ (Rt.mem r zr).1) q zq r zr eq er
  .rcases mem_append.mp hq with z|z
   .have qC:=gC q z;have lo:=K.lo _ qC.1;by_cases c:x<b+S l C
    .obtain⟨p,hp,y1,y2⟩:=OJ (u:=u) rq g2 x 68 c;rcases hx p (jv _ hp)with y|y<;>omega
    .have:=qC.2;omega
   .exact Rt.fre x (λy hy=>hx y (j7 _ hy)) q z hqx
  .rcases mem_append.mp hq with z|z
   .obtain⟨c,C',e1,e2⟩:=K.fst;exact⟨b,C,nC,cl,K.lo,⟨c,by rw[e1];simp,e2⟩,(gC q z).2⟩
   .obtain⟨b',D,y1,y2,y3⟩:=Rt.blk q z;exact⟨b',D,y1,λd hd=>(mR d (y2 d hd)).1,y3⟩
  .by_cases q:k∈C
   .by_cases eu:k=u
    .subst eu;refine⟨_,by simp,_,hc,⟨?_,λc hc'=>?_⟩,λp hp e=>?_⟩
     .obtain⟨c,C',e1,e2⟩:=K.fst;exact⟨c,(mM c).mpr (by rw[e1];simp),by rw[e2,sM]⟩
     .rw[sM];have:=K.lo c ((mM c).mp hc');omega
     .rcases mem_append.mp hp with z|z
      .exact(gC p z).2
      .exact absurd (e ▸ q) (pR p z).2.1
    .obtain⟨M,hM,e,y1,y2,y3⟩:=I.cst k ((mN k).mpr ⟨q,eu⟩);refine⟨M,by simp[hM],e,y1,y2,λp hp z=>?_⟩;rcases mem_append.mp hp with y|y
     .rcases gm p y with x|x
      .exact y3 p x z
      .exact absurd (z ▸ x.1) eu
     .exact absurd (z ▸ q) (pR p y).2.1
   .obtain⟨M,hM,e,y1,y2,y3⟩:=Rt.cst k (inR k hk q);refine⟨M,by simp[hM],e,y1,y2,λp hp z=>?_⟩;rcases mem_append.mp hp with y|y
    .exact absurd (z ▸ (gC p y).1) q
    .exact y3 p y z
  .rcases mem_append.mp hM with z|z
   .rcases mem_cons.mp z with rfl|z
    .exact⟨jH ((mM u).mpr hu),ju⟩
    .exact⟨(I.set M z).1,(I.set M z).2.trans (filter_sublist.trans ju)⟩
   .exact⟨(Rt.set M z).1,(Rt.set M z).2.trans ju⟩
end Bk
namespace Du
open Bk
open Sx (S Ba)
noncomputable def addP(P:List Pc)(k:Nat)(b e:Int):List Pc:=match P.getLast? with
 |some p=>if p.1=k/\p.2.2=b then P.dropLast++[(k,p.2.1,e)]else P++[(k,b,e)]
 |none=>P++[(k,b,e)]
def nil_or(P:List Pc):P=[]∨∃P' p,P=P'++[p]:=by
 rcases List.eq_nil_or_concat P with h|⟨P',p,h⟩
 .exact .inl h
 .exact .inr ⟨P',p,by rw[h,List.concat_eq_append]⟩
def addP_snoc(P:List Pc)(p:Pc)(k:Nat)(b e:Int):addP (P++[p]) k b e=if p.1=k/\p.2.2=b then P++[(k,p.2.1,e)]else P++[p]++[(k,b,e)]:=by
 unfold addP;rw[List.getLast?_concat,List.dropLast_concat]
def S2(P:List Pc)(k:Nat)(b e:Int):∃I b0,addP P k b e=I++[(k,b0,e)]/\(I=P/\b0=b∨P=I++[(k,b0,b)]):=by
 rcases nil_or P with rfl|⟨P',p,rfl⟩
 .exact⟨[],b,rfl,.inl ⟨rfl,rfl⟩⟩
 .rw[addP_snoc];by_cases c:p.1=k/\p.2.2=b
  .rw[il c];exact⟨P',p.2.1,rfl,.inr (by obtain⟨p1,p2,p3⟩:=p;obtain⟨rfl,rfl⟩:=c;rfl)⟩
  .rw[ip c];exact⟨P'++[p],b,rfl,.inl ⟨rfl,rfl⟩⟩
theorem nd_len:∀{l L:73},l.Nodup->(∀x∈l,x∈L)->l.length<=L.length
 |[],_,_,_=>by simp
 |x::r,L,nd,h=>by
  have hx:=h x 71;obtain⟨n1,n2⟩:=nodup_cons.mp nd;have ih:=nd_len (L:=L.erase x) n2 λy hy=>(List.mem_erase_of_ne λe=>by subst e;exact n1 hy).mpr (h y (by simp[hy]));have e:=List.length_erase_of_mem hx;have:0<L.length:=List.length_pos_of_mem hx;simp only[ji];omega
noncomputable def sel(n:Nat)(h dd:74)(D t0:Int):List Nat:=(69 n).filter λk=>decide (dd k<=D)&&decide (t0<=h k)
def sel_mem{n:Nat}{h dd:74}{D t0:Int}{k:Nat}:k∈sel n h dd D t0↔k<n/\dd k<=D/\t0<=h k:=by simp[sel]
def SQ(n:Nat)(h dd:74)(D t0:Int):(sel n h dd D t0).Nodup:=nodup_range.sublist ju
theorem Rs{l lf:74}:∀{ks:73},(∀k∈ks,lf k<=l k)->0<=dn l lf ks
 |[],_=>by simp[dn]
 |x::r,h=>by
  have ih:=Rs (l:=l) (lf:=lf) (ks:=r) λk hk=>h k (by simp[hk]);have h0:=h x 71;unfold dn at ih ⊢;simp only[j3,sum_cons];omega
theorem eG{l lf:74}:∀{ks:73},(∀k∈ks,0<=lf k)->dn l lf ks<=S l ks
 |[],_=>by simp[dn,S]
 |x::r,h=>by
  have ih:=eG (l:=l) (lf:=lf) (ks:=r) λk hk=>h k (by simp[hk]);have h0:=h x 71;rw[Ba];unfold dn at ih ⊢;simp only[j3,sum_cons];omega
structure St(n:Nat)(h l dd:74)(W:98)(lf:74)(P:List Pc)(t:Int):Prop where
 lo:∀k,k<n->0<=lf k/\lf k<=l k
 mem:∀p∈P,p.1<n/\h p.1<=p.2.1/\p.2.1<p.2.2/\p.2.2<=t
 pw:P.Pairwise λp q=>p.2.2<=q.2.1
 has:∀p∈P,lf p.1<l p.1
 tt:∀j,j<n->tot j P=l j-lf j
 wis:∀w∈W,∀p∈P,∀q∈P,p.1=w.1->q.1=w.2->p.2.2<=q.2.1
 beg:∀w∈W,lf w.2<l w.2->lf w.1=0
 th:∀D,∃t0,t0<=t/\(∀k,k<n->0<lf k->dd k<=D->t0<=h k)/\t-t0<=dn l lf (sel n h dd D t0)
 fin:∀j,j<n->lf j=0->∃t0 e,(∀p∈P,p.1=j->p.2.2<=e)/\t0<e/\e-t0<=S l (sel n h dd (dd j) t0)
structure Tn(n:Nat)(h dd lf:74)(t t':Int)(k:Nat)(s:Int):Prop where
 tt:t<=t'
 idle:t<t'->∀j,j<n->0<lf j->t'<=h j
 kn:k<n
 k0:0<lf k
 kc:h k<=t'
 km:∀j,j<n->0<lf j->h j<=t'->dd k<dd j∨dd k=dd j/\k<=j
 s0:t'<s
 s1:s<=t'+lf k
 s2:∀j,j<n->0<lf j->t'<h j->s<=h j
 s3:s=t'+lf k∨∃j,j<n/\0<lf j/\t'<h j/\s=h j
noncomputable def mu(n:Nat)(h lf:74)(t:Int):Nat:=(69 n).countP (λj=>decide (0<lf j))+(69 n).countP (λj=>decide (0<lf j/\t<h j))
def mu_le(n:Nat)(h lf:74)(t:Int):mu n h lf t<=2*n:=by
 unfold mu;have h1:=List.countP_le_length (p:=λj=>decide (0<lf j)) (l:=69 n);have h2:=List.countP_le_length (p:=λj=>decide (0<lf j/\t<h j)) (l:=69 n);simp only[length_range]at h1 h2;omega
theorem OW{p q:Nat->Bool}:∀{L:73},(∀i∈L,p i=true->q i=true)->(∃i∈L,q i=true/\p i=false)->L.countP p<L.countP q
 |[],_,h=>by obtain⟨_,h,_⟩:=h;cases h
 |x::r,h,⟨i,hi,h1,h2⟩=>by
  rw[List.countP_cons,List.countP_cons];rcases mem_cons.mp hi with rfl|hi
  .have:=List.countP_mono_left (l:=r) λj hj=>h j (by simp[hj]);rw[h1,h2];simp;omega
  .have ih:=OW (p:=p) (q:=q) (L:=r) (λj hj=>h j (by simp[hj])) ⟨i,hi,h1,h2⟩;have hx:=h x 71;by_cases px:p x=true
   .rw[px,hx px];simp;omega
   .have px:p x=false:=by simpa using px
    rw[px];simp;split<;>omega
section
variable{n:Nat}{h l dd:74}{lf:74}{t:Int}
def St.start(pos:∀k,k<n->1<=l k)(h0:∀k,k<n->0<=h k)(ins:∀w∈W,w.1<n/\w.2<n):St n h l dd W l [] 0 where
 lo k hk:=by have:=pos k hk;omega
 mem:=by simp
 pw:=.nil
 has:=by simp
 tt j _:=by simp[tot]
 wis:=by simp
 beg w _ q:=by omega
 th D:=⟨0,123 _,λk hk _ _=>h0 k hk,by rw[LY λ_ _=>rfl];omega⟩
 fin j hj q:=by have:=pos j hj;omega
theorem Tn.mu(X:Tn n h dd lf t t' k s):mu n h (upd lf k (lf k-(s-t'))) s<mu n h lf t:=by
 have tt:=X.tt;have s0:=X.s0;have s1:=X.s1;have k0:=X.k0;have up:∀i,0<upd lf k (lf k-(s-t')) i->0<lf i:=λi q=>by
  unfold upd at q;split at q
  .next e=>rw[e];exact k0
  .exact q
 unfold Du.mu;have le1:(69 n).countP (λj=>decide (0<upd lf k (lf k-(s-t')) j))<=(69 n).countP (λj=>decide (0<lf j)):=List.countP_mono_left λi _ q=>by
  simp only[kj]at q ⊢;exact up i q
 have le2:(69 n).countP (λj=>decide (0<upd lf k (lf k-(s-t')) j/\s<h j))<=(69 n).countP (λj=>decide (0<lf j/\t<h j)):=List.countP_mono_left λi _ q=>by
  simp only[kj]at q ⊢;exact⟨up i q.1,by omega⟩
 rcases X.s3 with e|⟨j,jn,j0,jc,e⟩
 .have:(69 n).countP (λj=>decide (0<upd lf k (lf k-(s-t')) j))<(69 n).countP (λj=>decide (0<lf j)):=by
   refine OW (λi _ q=>by simp only[kj]at q ⊢;exact up i q) ⟨k,by simpa using X.kn,by simpa using k0,?_⟩;simp only[kH,upd_self];omega
  omega
 .have:(69 n).countP (λj=>decide (0<upd lf k (lf k-(s-t')) j/\s<h j))<(69 n).countP (λj=>decide (0<lf j/\t<h j)):=by
   refine OW (λi _ q=>?_) ⟨j,by simpa using jn,by simp only[kj];omega,?_⟩
   .simp only[kj]at q ⊢;exact⟨up i q.1,by omega⟩
   .simp only[kH];omega
  omega
def St.turn(pos:∀k,k<n->1<=l k)(hs:∀w∈W,w.1<n/\w.2<n/\h w.1+l w.1<=h w.2)(hd:∀w∈W,dd w.1<=dd w.2-l w.2)(T:St n h l dd W lf P t)(X:Tn n h dd lf t t' k s):St n h l dd W (upd lf k (lf k-(s-t'))) (addP P k t' s) s/\(addP P k t' s).length<=P.length+1:=by
 have tt:=X.tt;have s0:=X.s0;have s1:=X.s1;have k0:=X.k0;have kn:=X.kn;have kc:=X.kc;have lk:=T.lo k kn;obtain⟨I,b0,eA,cA⟩:=S2 P k t' s;have sub:∀p∈I,p∈P:=λp hp=>by
  rcases cA with⟨rfl,_⟩|e
  .exact hp
  .rw[e];simp[hp]
 have bb:h k<=b0/\b0<=t':=by
  rcases cA with⟨_,rfl⟩|e
  .exact⟨kc,123 _⟩
  .have:=T.mem (k,b0,t') (by rw[e];simp);exact⟨this.2.1,Int.le_of_lt this.2.2.1⟩
 have bef:∀p∈I,p.2.2<=b0:=λp hp=>by
  rcases cA with⟨_,rfl⟩|e
  .have:=(T.mem p (sub p hp)).2.2.2;omega
  .have pw:=T.pw;rw[e,List.pairwise_append]at pw;exact pw.2.2 p hp (k,b0,t') 71
 have key:∀D,∃t0,t0<=s/\(∀j,j<n->0<upd lf k (lf k-(s-t')) j->dd j<=D->t0<=h j)/\s-t0<=dn l (upd lf k (lf k-(s-t'))) (sel n h dd D t0)/\(dd k<=D->t0<=t'):=λD=>by
  have up:∀i,0<upd lf k (lf k-(s-t')) i->0<lf i:=λi q=>by
   unfold upd at q;split at q
   .next e=>rw[e];exact k0
   .exact q
  by_cases c:dd k<=D
  .obtain⟨t0,a1,a2,a3⟩:∃t0,t0<=t'/\(∀j,j<n->0<lf j->dd j<=D->t0<=h j)/\t'-t0<=dn l lf (sel n h dd D t0):=by
    by_cases q:t<t'
    .exact⟨t',123 _,λj hj j0 _=>X.idle q j hj j0,by have:=Rs (l:=l) (lf:=lf) (ks:=sel n h dd D t') (λk hk=>(T.lo k (sel_mem.mp hk).1).2);omega⟩
    .obtain⟨t0,a1,a2,a3⟩:=T.th D;exact⟨t0,by omega,a2,by omega⟩
   refine⟨t0,by omega,λj hj q1 q2=>a2 j hj (up j q1) q2,?_,λ_=>a1⟩;rw[OU (SQ _ _ _ _ _),il (sel_mem.mpr ⟨kn,c,a2 k kn k0 c⟩)];omega
  .refine⟨s,123 _,λj hj q1 q2=>?_,?_,λq=>absurd q c⟩
   .have j0:=up j q1;by_cases q:h j<=t'
    .have:=X.km j hj j0 q;omega
    .exact X.s2 j hj j0 68
   .have:=Rs (l:=l) (lf:=upd lf k (lf k-(s-t'))) (ks:=sel n h dd D s) λi hi=>by
     have:=T.lo i (sel_mem.mp hi).1;unfold upd;split
     .next e=>subst e;omega
     .exact this.2
    omega
 have lo':∀i,i<n->0<=upd lf k (lf k-(s-t')) i/\upd lf k (lf k-(s-t')) i<=l i:=λi hi=>by
  have:=T.lo i hi;unfold upd;split
  .next e=>subst e;omega
  .exact this
 rw[eA];refine⟨⟨lo',λp hp=>?_,?_,λp hp=>?_,λj hj=>?_,λw hw p hp q hq e1 e2=>?_,λw hw q=>?_,λD=>?_,λj hj q=>?_⟩,?_⟩
 .rcases mem_append.mp hp with q|q
  .have:=T.mem p (sub p q);exact⟨this.1,this.2.1,this.2.2.1,by omega⟩
  .rw[jd]at q;subst q;exact⟨kn,bb.1,by show b0<s;omega,123 _⟩
 .rw[List.pairwise_append];refine⟨?_,List.pairwise_singleton _ _,λp hp q hq=>?_⟩
  .have pw:=T.pw;rcases cA with⟨rfl,_⟩|e
   .exact pw
   .rw[e,List.pairwise_append]at pw;exact pw.1
  .rw[jd]at hq;subst hq;exact bef p hp
 .rcases mem_append.mp hp with q|q
  .have:=T.has p (sub p q);unfold upd;split
   .next e=>rw[e]at this ⊢;omega
   .exact this
  .rw[jd]at q;subst q;show upd lf k _ k<l k;rw[upd_self];omega
 .have h1:=T.tt j hj;rw[tot_app];have e2:tot j I+(if k=j then t'-b0 else 0)=tot j P:=by
   rcases cA with⟨rfl,rfl⟩|e
   .split<;>omega
   .rw[e,tot_app];simp[tot]
  show tot j I+((if k=j then s-b0 else 0)+0)=_;by_cases q:j=k
  .subst q;rw[upd_self,il rfl];rw[il rfl]at e2;omega
  .rw[upd_ne q,ip λz=>q z.symm];rw[ip λz=>q z.symm]at e2;omega
 .rcases mem_append.mp hp with a|a
  .rcases mem_append.mp hq with b|b
   .exact T.wis w hw p (sub p a) q (sub q b) e1 e2
   .rw[jd]at b;subst b;exact bef p a
  .rw[jd]at a;subst a;have ek:k=w.1:=e1;rcases mem_append.mp hq with b|b
   .have:=T.has q (sub q b);rw[e2]at this;have:=T.beg w hw this;rw[<- ek]at this;omega
   .rw[jd]at b;subst b;have e2:k=w.2:=e2;have:=hs w hw;rw[<- ek,<- e2]at this;have:=pos k kn;omega
 .have:=hs w hw;have p1:=pos w.1 this.1;by_cases c:w.2=k
  .have ne:w.1≠k:=λz=>by rw[z,c]at this;rw[z]at p1;omega
   rw[upd_ne ne];refine 159 λz=>?_;have lo1:=T.lo w.1 this.1;have h1:=X.km w.1 this.1 68 (by rw[c]at this;omega);have h2:=hd w hw;have h3:=pos w.2 this.2.1;rw[c]at h2 h3;omega
  .rw[upd_ne c]at q;have b:=T.beg w hw q;rw[upd_ne λz=>by rw[z]at b;omega];exact b
 .obtain⟨t0,a1,a2,a3,_⟩:=key D;exact⟨t0,a1,a2,a3⟩
 .by_cases c:j=k
  .subst c;obtain⟨t0,a1,a2,a3,a4⟩:=key (dd j);refine⟨t0,s,λp hp e=>?_,by have:=a4 (123 _);omega,182 a3 (eG λi hi=>(lo' i (sel_mem.mp hi).1).1)⟩;rcases mem_append.mp hp with q|q
   .have:=bef p q;omega
   .rw[jd]at q;subst q;exact 123 _
  .rw[upd_ne c]at q;obtain⟨t0,e,a1,a2,a3⟩:=T.fin j hj q;refine⟨t0,e,λp hp ej=>?_,a2,a3⟩;rcases mem_append.mp hp with q|q
   .exact a1 p (sub p q) ej
   .rw[jd]at q;subst q;exact absurd ej.symm c
 .rcases cA with⟨rfl,_⟩|e
  .simp
  .rw[e];simp
theorem Sf{t:Int}:∀{P:List Pc} {b:Int},(∀p∈P,b<=p.2.1/\p.2.1<p.2.2)->P.Pairwise (λp q=>p.2.2<=q.2.1)->Row b P
 |[],_,_,_=>trivial
 |p::r,b,h1,h2=>by
  rw[ky]at h2;have:=h1 p 71;exact⟨this.1,this.2,Sf (t:=t) (λq hq=>⟨h2.1 q hq,(h1 q (by simp[hq])).2⟩) h2.2⟩
structure Pk(n:Nat)(h l:74)(W:98)(P:List Pc):Prop where
 mem:∀p∈P,p.1<n/\h p.1<=p.2.1
 row:Row 0 P
 tot:∀j,j<n->tot j P=l j
 wis:∀w∈W,∀p∈P,∀q∈P,p.1=w.1->q.1=w.2->p.2.2<=q.2.1
def St.pk(T:St n h l dd W lf P t)(h0:∀k,k<n->0<=h k)(z:∀j,j<n->lf j=0):Pk n h l W P where
 mem p hp:=⟨(T.mem p hp).1,(T.mem p hp).2.1⟩
 row:=Sf (t:=t) (λp hp=>by have:=T.mem p hp;have:=h0 _ this.1;exact⟨by omega,by omega⟩) T.pw
 tot j hj:=by rw[T.tt j hj,z j hj];omega
 wis:=T.wis
structure Tu(n:Nat)(l d:74)(W:98)(rk:183)(v:74)(t:Nat):Prop where
 le:∀k,k<n->v k<=d k
 wt:∀en:Nat->Int,(∀w∈W,en w.1+l w.2<=en w.2)->∀a,a<n->∃m,m<n/\en a-v a<=en m-d m
 sd:∀w∈W,n<=rk w.1+1+t->v w.1<=v w.2-l w.2
def Tu.start{d:74}{rk:183}(hr:∀w∈W,rk w.1<rk w.2/\rk w.2<n):Tu n l d W rk d 0:=
 ⟨λ_ _=>123 _,λen _ a ha=>⟨a,ha,123 _⟩,λw hw q=>by have:=hr w hw;omega⟩
structure Ti(n:Nat)(l d:74)(W:98)(rk:183)(v:74)(t:Nat)(A:98):Prop where
 T:Tu n l d W rk v t
 nw:∀w∈A,n<=rk w.1+1+(t+1)->v w.1<=v w.2-l w.2
def Ti.step{d v:74}{rk:183}{t:Nat}(hr:∀w∈W,(w.1<n/\w.2<n)/\rk w.1<rk w.2)(I:Ti n l d W rk v t A)(sub:∀w∈A,w∈W)(hq:q∈W):Ti n l d W rk (upd v q.1 (min (v q.1) (v q.2-l q.2))) t (A++[q]):=by
 have rq:=hr q hq;have mono:∀k,upd v q.1 (min (v q.1) (v q.2-l q.2)) k<=v k:=λk=>by
  unfold upd;split
  .next e=>subst e;omega
  .exact 123 _
 -- an edge whose far end is settled keeps
 have keep:∀w∈W,n<=rk w.1+1+(t+1)->v w.1<=v w.2-l w.2->upd v q.1 (min (v q.1) (v q.2-l q.2)) w.1<=upd v q.1 (min (v q.1) (v q.2-l q.2)) w.2-l w.2:=λw hw hn hv=>by
  have m1:=mono w.1;have rw_:=hr w hw;by_cases e:w.2=q.1
  .have:=I.T.sd q hq (by rw[<- e];omega);have e2:upd v q.1 (min (v q.1) (v q.2-l q.2)) w.2=v w.2:=by
    rw[e,upd_self];omega
   rw[e2];omega
  .rw[upd_ne e];omega
 refine⟨⟨λk hk=>182 (mono k) (I.T.le k hk),λen he a ha=>?_,λw hw hn=>keep w hw 68 (I.T.sd w hw hn)⟩,λw hw hn=>?_⟩
 .by_cases e:a=q.1
  .subst e;rw[upd_self];by_cases c:v q.1<=v q.2-l q.2
   .rw[show min (v q.1) (v q.2-l q.2)=v q.1 by omega];exact I.T.wt en he q.1 ha
   .rw[show min (v q.1) (v q.2-l q.2)=v q.2-l q.2 by omega];obtain⟨m,hm,q1⟩:=I.T.wt en he q.2 rq.1.2;have:=he q hq;exact⟨m,hm,by omega⟩
  .rw[upd_ne e];exact I.T.wt en he a ha
 .rcases mem_append.mp hw with a|a
  .exact keep w (sub w a) hn (I.nw w a hn)
  .rw[jd]at a;subst a;have ne:w.2≠w.1:=λz=>by have:=rq.2;rw[z]at this;omega
   rw[upd_self,upd_ne ne];omega
def Ti.next{d v:74}{rk:183}{t:Nat}(I:Ti n l d W rk v t W):Tu n l d W rk v (t+1):=⟨I.T.le,I.T.wt,λw hw hn=>I.nw w hw hn⟩
def Tu.done{d v:74}{rk:183}(T:Tu n l d W rk v n):∀w∈W,v w.1<=v w.2-l w.2:=λw hw=>T.sd w hw 68
structure Wr(n:Nat)(l h:74)(W:98)(left en:74)(t:Int):Prop where
 I:Inv n l h W left en t
 wh:∀k,k<n->left k=l k∨left k=0
 wd:∀w∈W,left w.2<l w.2->en w.1+l w.2<=en w.2
theorem Wr.step{c:74}(H:Hs n c l W h){left en:74}(R:Wr n l h W left en t){k:Nat}(hk:k<n){x:Int}(tx:t<=x)(cx:c k<=x)(hl:left k=l k)(hf:∀p∈W,p.2=k->left p.1=0):Wr n l h W (upd left k 0) (upd en k (x+l k)) (x+l k):=by
 have pk:=H.pos k hk;have st:=R.I.step H hk tx cx hf (m:=l k) pk 68;rw[show left k-l k=0 by omega]at st;refine⟨st,λj hj=>?_,λw hw q=>?_⟩
 .unfold upd;split
  .exact .inr rfl
  .exact R.wh j hj
 .have wn:=H.ins w hw;have p1:=H.pos w.1 wn.1;by_cases e:w.2=k
  .have l0:=hf w hw e;have ne:w.1≠k:=λz=>by rw[z]at l0;omega
   have:=R.I.et w.1 wn.1 68;rw[upd_ne ne,e,upd_self];omega
  .rw[upd_ne e]at q;have:=(R.I.wi w hw q).1;have ne:w.1≠k:=λz=>by rw[z]at this;omega
   rw[upd_ne ne,upd_ne e];exact R.wd w hw q
def beat{c:74}(H:Hs n c l W h){left en:74}{τ:Int}(R:Wr n l h W left en τ)(z:∀k,k<n->left k=0){d:74}{rk:183}(U:Tu n l d W rk dd n)(T:St n h l dd W lf P t){j:Nat}(hj:j<n)(lj:lf j=0){e:Int}(he:∃p∈P,p.1=j/\e=p.2.2):∃m,m<n/\e-d j<=en m-d m:=by
 obtain⟨t0,e',a1,a2,a3⟩:=T.fin j hj lj;obtain⟨p,hp,pj,rfl⟩:=he;have pe:=a1 p hp pj;have ne:sel n h dd (dd j) t0≠[]:=λq=>by rw[q]at a3;simp[S]at a3;omega
 obtain⟨u,hu,b1,_⟩:=R.I.low H z ne (SQ _ _ _ _ _) (λk hk=>(sel_mem.mp hk).1) (λk hk=>(sel_mem.mp hk).2.2);have su:=sel_mem.mp hu;obtain⟨m,hm,b2⟩:=U.wt en (λw hw=>R.wd w hw (by have:=H.pos w.2 (H.ins w hw).2;have:=z w.2 (H.ins w hw).2;omega)) u su.1;have:=U.le j hj;exact⟨m,hm,by omega⟩
end
end Du
namespace L2
open PySem PySem.W PyProof.Rows
def feE{K:Frag}{e:Df}(h:Ea.Fe K n s)(hn:e.x=n:=by rfl)(hs:e.st=s:=by rfl):Fe K e:=by subst hn;subst hs;exact h
def flE{K:Frag}{e:Df}(h:Ea.Fl K n s p)(hn:e.x=n:=by rfl)(hs:e.st=s:=by rfl):Fla K e p:=by subst hn;subst hs;exact h
def zsE{K:Frag}(h:Ea.Zs K):Zs K:=h
end L2
namespace T31
open PySem L2
noncomputable abbrev Jw:Stmt:=top 4
def Op:FnScope ["rows","t","told","begin","amount"] ["rows","t"] (AC Jw):=B3 108
@[reducible] noncomputable def Tp:MS:=(A6 (AE 2 122)
 (A6 (Be (Aw 77) (C1 2 (AV (AD 3) (AV (AD 4) C2)))
  (A6 (Ak (AB (mOp gGt 167 131))
  (AN 153)
  AZ)
 (AE 2 (A0 4))))
 (AN 153)))
noncomputable def HR:FD:=mkF 2 5 Tp
noncomputable abbrev Gq:Df:=⟨"steps_at",Jw,["rows","t"],1,HR⟩
noncomputable abbrev M0:Stmt:=top 5
def Qd:FnScope ["cost","t","word","above"] ["cost","t"] (AC M0):=B3 108
@[reducible] def gV:MS:=(A6 (AE 2 (mOp gIx 77 122))
 (A6 (Ak (AB (mOp gEq 153 (mC (.str "steps"))))
  (AN (A8 0 HR (A1 (mOp gIx 77 124) (A1 131 A4))))
  AZ)
 (A6 (Ak (AB (mOp gEq 153 (mC (.str "ends"))))
  (AN (mOp Bx (mOp gIx 77 124) 131))
  AZ)
 (A6 (AE 3 (mOp CK 131 (mOp gIx 77 124)))
 (A6 (Ak (AB (mOp gEq 153 (mC (.str "late"))))
  (AN 167)
  AZ)
 (A6 (Ak (AB (mOp gLe 167 122))
  (AN 122)
  AZ)
 (A6 (Ak (AB (mOp gEq 153 (mC (.str "tardy"))))
  (AN (mOp Bx (mOp gIx 77 188) 167))
  AZ)
 (AN (mOp gIx 77 188)))))))))
noncomputable def F_cost_at:FD:=mkF 2 4 gV
noncomputable abbrev Fs:Df:=⟨"cost_at",M0,["cost","t"],2,F_cost_at⟩
noncomputable abbrev Nb:Stmt:=top 7
def SV:FnScope ["works","wishes","some","t","told","within","turn","a","b"] ["works","wishes","some","t"] (AC Nb):=B3 108
@[reducible] noncomputable def W5:MS:=(A6 (AE 4 (KH (Ho 1 [0,3] (Aw 153) (AD 0) BV [] (IR 77 (mCB DP (A1 (mOp gIx 180 124) (A1 153 A4)))))))
 (A6 (AE 5 (AU (Ab 2 [4] (Aw 131) (C1 2 (AV (AD 0) (AV (AD 1) C2))) (DB (AB (mOp (Hv false) 77 153)) (AB (mOp (Hv false) 131 153))) (B5 (A1 77 (A1 131 A4))))))
 (A6 (Be (Aw 153) (AD 6)
  (Be (Bs (A0 5)) (C1 2 (AV (AD 7) (AV (AD 8) C2)))
  (IU (A0 4) (A0 8) (mCB DP (A1 (mOp Ep (A0 4) (A0 8)) (A1 (mOp B0 (mOp Ep (A0 4) (A0 7)) (mOp gIx (mOp gIx 77 (A0 7)) 122)) A4))))))
 (AN (B6 B8 (Ab 1 [4] (Aw 153) (AD 0) BV (mOp Ep 131 77)))))))
noncomputable def HB:FD:=mkF 4 9 W5
noncomputable abbrev JW:Df:=⟨"raised",Nb,["works","wishes","some","t"],1,HB⟩
noncomputable abbrev PK:Stmt:=top 8
def Uv:FnScope ["works","wishes"] ["works","wishes"] (AC PK):=B3 108
@[reducible] noncomputable def Zi:MS:=(AN (A8 0 HB (A1 77 (A1 131 (A1 (IQ (A1 (mCB 173 (A1 77 A4)) A4)) (A1 122 A4))))))
noncomputable def D9:FD:=mkF 2 2 Zi
noncomputable abbrev F5:Df:=⟨"heads",PK,["works","wishes"],2,D9⟩
noncomputable abbrev Ly:Stmt:=top 10
def Qc:FnScope ["pairs","a","found","fresh","at","one","other"] ["pairs","a"] (AC Ly):=B3 108
@[reducible] noncomputable def Le:MS:=(A6 (AE 2 (AU (Af A4)))
 (A6 (AE 3 (AU (Af (A1 131 A4))))
 (A6 (CN (C9 167)
  (A6 (AE 4 (mMt Hz 167 A4))
 (Be (FO 77) (C1 2 (AV (AD 5) (AV (AD 6) C2)))
  (Ak (DB (AB (mOp gEq (A0 5) (A0 4))) (AB (mOp (gIn true) (A0 6) 153)))
  (A6 (An (mMt AX 153 (A1 (A0 6) A4)))
 (An (mMt AX 167 (A1 (A0 6) A4))))
  AZ))))
 (AN (B6 B8 (Bo (Bs 153)))))))
noncomputable def F_reached:FD:=mkF 2 7 Le
noncomputable abbrev IB:Df:=⟨"reached",Ly,["pairs","a"],1,F_reached⟩
noncomputable abbrev Nd:Stmt:=top 11
def SY:FnScope ["many","wishes","a"] ["many","wishes","a"] (AC Nd):=B3 108
@[reducible] noncomputable def ab:MS:=(AN (A8 0 F_reached (A1 131 (A1 153 A4))))
noncomputable def F_behind:FD:=mkF 3 3 ab
noncomputable abbrev JY:Df:=⟨"behind",Nd,["many","wishes","a"],2,F_behind⟩
noncomputable abbrev Iq:Stmt:=top 12
def NX:FnScope ["many","wishes","some","told","u","later"] ["many","wishes","some"] (AC Iq):=B3 108
@[reducible] noncomputable def Oy:MS:=(A6 (AE 3 (AU (Af A4)))
 (A6 (Be (Aw 153) (AD 4)
  (A6 (AE 5 (A8 0 F_behind (A1 77 (A1 131 (A1 (A0 4) A4)))))
 (Ak (Hk (C9 (B6 JS (Ab 1 [5] (Aw 153) (AD 0) BV (mOp (gIn false) 77 131)))))
  (An (mMt AX 167 (A1 (A0 4) A4)))
  AZ)))
 (AN (mCB (f1 true B8) (A1 167 A4)))))
noncomputable def DN:FD:=mkF 3 6 Oy
noncomputable abbrev EF:Df:=⟨"last_ones",Iq,["many","wishes","some"],3,DN⟩
noncomputable abbrev Ip:Stmt:=top 14
def NW:FnScope ["works","some"] ["works","some"] (AC Ip):=B3 108
@[reducible] noncomputable def Ox:MS:=(AN (B6 JR (Ab 1 [0] (Aw 131) (AD 0) BV (mOp gIx 180 122))))
noncomputable def CJ:FD:=mkF 2 2 Ox
noncomputable abbrev EE:Df:=⟨"length_of",Ip,["works","some"],1,CJ⟩
noncomputable abbrev HE:Stmt:=top 15
def Ky:FnScope ["works","coming"] ["works"] (AC HE):=B3 108
@[reducible] noncomputable def Mi:MS:=(A6 (AE 1 (mOp gIx (mOp gIx 77 122) 124))
 (A6 (Ak (C9 (B6 OB (Ab 1 [1] (Aw 77) (AD 0) BV (mOp gEq (mOp gIx 77 124) 131))))
  (AN 131)
  AZ)
 (AN (mC .non))))
noncomputable def DU:FD:=mkF 1 2 Mi
noncomputable abbrev Ec:Df:=⟨"same_coming",HE,["works"],1,DU⟩
noncomputable abbrev HW:Stmt:=top 16
def Mf:FnScope ["works","coming"] ["works"] (AC HW):=B3 108
@[reducible] noncomputable def O3:MS:=(A6 (AE 1 (A8 0 DU (A1 77 A4)))
 (A6 (Ak (AB (FP false 131))
  GI
  AZ)
 (AN 131)))
noncomputable def E1:FD:=mkF 1 2 O3
noncomputable abbrev FX:Df:=⟨"one_coming",HW,["works"],2,E1⟩
noncomputable abbrev Ds:Stmt:=top 17
def G8:FnScope ["works","word"] ["works","word"] (AC Ds):=B3 108
@[reducible] noncomputable def Ga:MS:=(Ak (C9 (B6 JS (Ab 1 [1] (Aw 77) (AD 0) BV (mOp gNe (mOp gIx (mOp gIx 77 188) 122) 131))))
 GI
 AZ)
noncomputable def By:FD:=mkF 2 2 Ga
noncomputable abbrev CY:Df:=⟨"refuse_other_costs",Ds,["works","word"],1,By⟩
noncomputable abbrev K0:Stmt:=top 19
def Ou:FnScope ["works","wishes","some","begins","end"] ["works","wishes","some"] (AC K0):=B3 108
@[reducible] noncomputable def RQ:MS:=(A6 (AE 3 (A8 0 D9 (A1 77 (A1 131 A4))))
 (A6 (AE 4 (mOp B0 (B6 FT (Ab 1 [3] (Aw 153) (AD 0) BV 180)) (A8 0 CJ (A1 77 (A1 153 A4)))))
 (AN (B6 FT (Ab 1 [0,4] (Aw (A8 0 DN (A1 (mCB 173 (A1 77 A4)) (A1 131 (A1 153 A4))))) (AD 0) BV (A8 0 F_cost_at (A1 (mOp gIx 180 188) (A1 153 A4))))))))
noncomputable def Bz:FD:=mkF 3 5 RQ
noncomputable abbrev Et:Df:=⟨"bound_of",K0,["works","wishes","some"],4,Bz⟩
noncomputable abbrev G9:Stmt:=top 21
def Ju:FnScope ["works","wishes","some","begins","told","work","begin","end","members"] ["works","wishes","some"] (AC G9):=B3 108
@[reducible] noncomputable def LH:MS:=(A6 (AE 3 (A8 0 D9 (A1 77 (A1 131 A4))))
 (A6 (AE 4 (AU (Af A4)))
 (A6 (Be (EX (TW 153 [3] (B5 (A1 180 (A1 77 A4))))) (AD 5)
  (Ak (mOr (AB (Ci false (A0 4) (Af A4))) (AB (mOp gGe (mOp gIx 167 (A0 5)) (mOp gIx (mOp gIx (A0 4) (EW 124)) 124))))
  (An (mMt AX (A0 4) (A1 (B5 (A1 (mOp gIx 167 (A0 5)) (A1 (mOp B0 (mOp gIx 167 (A0 5)) (mOp gIx (mOp gIx 77 (A0 5)) 122)) (A1 (B5 (A1 (A0 5) A4)) A4)))) A4)))
  (A6 (Fx (mOp gIx (A0 4) (EW 124)) (C1 3 (AV (AD 6) (AV (AD 7) (AV (AD 8) C2)))))
 (Ch (A0 4) (EW 124) (B5 (A1 (A0 6) (A1 (mOp B0 (A0 7) (mOp gIx (mOp gIx 77 (A0 5)) 122)) (A1 (B6 B8 (Bo (Aw (mOp B0 (A0 8) (B5 (A1 (A0 5) A4)))))) A4))))))))
 (AN (A0 4)))))
noncomputable def D8:FD:=mkF 3 9 LH
noncomputable abbrev D6:Df:=⟨"stretches_of",G9,["works","wishes","some"],4,D8⟩
noncomputable abbrev Fk:Stmt:=top 23
def JE:FnScope ["works","wishes","some","end"] ["works","wishes","some","end"] (AC Fk):=B3 108
@[reducible] noncomputable def KC:MS:=(AN (LK (λn m=>decide (n<m)) (A8 0 DN (A1 (mCB 173 (A1 77 A4)) (A1 131 (A1 153 A4)))) [3,0] (A8 0 F_cost_at (A1 (mOp gIx (mOp gIx 153 77) 188) (A1 131 A4)))))
noncomputable def CH:FD:=mkF 4 4 KC
noncomputable abbrev CF:Df:=⟨"cheapest_last",Fk,["works","wishes","some","end"],6,CH⟩
noncomputable abbrev Lx:Stmt:=top 24
def Qb:FnScope ["some","u"] ["some","u"] (AC Lx):=B3 108
@[reducible] noncomputable def TV:MS:=(AN (B6 B8 (Ab 1 [1] (Aw 77) (AD 0) (AB (mOp gNe 77 131)) 77)))
noncomputable def EU:FD:=mkF 2 2 TV
noncomputable abbrev Fr:Df:=⟨"without",Lx,["some","u"],1,EU⟩
noncomputable abbrev HH:Stmt:=top 25
def L0:FnScope ["u","begin","end","pieces","told","at","piece"] ["u","begin","end","pieces"] (AC HH):=B3 108
@[reducible] noncomputable def Mk:MS:=(A6 (AE 4 (AU (Af A4)))
 (A6 (AE 5 131)
 (A6 (Be (Bs 167) (AD 6)
  (A6 (Ak (AB (mOp gLt (A0 5) (mOp gIx (A0 6) 124)))
  (An (mMt AX (A0 4) (A1 (B5 (A1 77 (A1 (A0 5) (A1 (mOp gIx (A0 6) 124) A4)))) A4)))
  AZ)
 (A6 (An (mMt AX (A0 4) (A1 (A0 6) A4)))
 (AE 5 (mOp gIx (A0 6) 188)))))
 (A6 (An (mMt AX (A0 4) (A1 (B5 (A1 77 (A1 (A0 5) (A1 153 A4)))) A4)))
 (AN (A0 4))))))
noncomputable def DW:FD:=mkF 4 7 Mk
noncomputable abbrev Ed:Df:=⟨"gaps_filled",HH,["u","begin","end","pieces"],1,DW⟩
noncomputable abbrev FJ:Stmt:=top 26
def Mg:FnScope ["works","wishes","some","pieces","sets","begin","end","members","u","inner_pieces","inner_sets"] ["works","wishes","some"] (AC FJ):=B3 108
@[reducible] noncomputable def Hg(E2:FD):MS:=(A6 (AE 3 (AU (Af A4)))
 (A6 (AE 4 (AU (Af A4)))
 (A6 (Be (Bs (A8 0 D8 (A1 77 (A1 131 (A1 153 A4))))) (C1 3 (AV (AD 5) (AV (AD 6) (AV (AD 7) C2))))
  (A6 (AE 8 (A8 0 CH (A1 77 (A1 131 (A1 (A0 7) (A1 (A0 6) A4))))))
 (A6 (Fx (EN E2 (A1 77 (A1 131 (A1 (A8 0 EU (A1 (A0 7) (A1 (A0 8) A4))) A4)))) (C1 2 (AV (AD 9) (AV (AD 10) C2))))
 (A6 (Fp 3 (BZ DW (A1 (A0 8) (A1 (A0 5) (A1 (A0 6) (A1 (A0 9) A4))))))
 (Fp 4 (AU (Ge (AU (Af (A1 (A0 7) A4))) (A0 10))))))))
 (AN (B5 (A1 167 (A1 (A0 4) A4)))))))
noncomputable def Cz:Nat->FD
 |0=>λ_ _=>none
 |n+1=>mkF 3 11 (Hg (Cz n))
noncomputable abbrev E2:FD:=Cz 10
noncomputable abbrev FZ:Df:=⟨"broken_off",FJ,["works","wishes","some"],16,E2⟩
noncomputable abbrev FI:Stmt:=top 27
def Io:FnScope ["works","wishes","sets"] ["works","wishes","sets"] (AC FI):=B3 108
@[reducible] noncomputable def JP:MS:=(AN (O5 (λn m=>decide (n>m)) 153 [0,1] (A8 0 Bz (A1 131 (A1 153 (A1 77 A4))))))
noncomputable def C6:FD:=mkF 3 3 JP
noncomputable abbrev C4:Df:=⟨"greatest_bound",FI,["works","wishes","sets"],7,C6⟩
noncomputable abbrev Fj:Stmt:=top 28
def JD:FnScope ["works","wishes","pieces","sets"] ["works","wishes"] (AC Fj):=B3 108
@[reducible] noncomputable def KB:MS:=(A6 (Fx (EN E2 (A1 77 (A1 131 (A1 (IQ (A1 (mCB 173 (A1 77 A4)) A4)) A4)))) (C1 2 (AV (AD 2) (AV (AD 3) C2))))
 (AN (B5 (A1 (mCB (f1 true B8) (A1 153 A4)) (A1 (BZ C6 (A1 77 (A1 131 (A1 167 A4)))) A4)))))
noncomputable def Cj:FD:=mkF 2 4 KB
noncomputable abbrev Dw:Df:=⟨"greatest_plan",Fj,["works","wishes"],17,Cj⟩
noncomputable abbrev HD:Stmt:=top 29
def Kx:FnScope ["works","wishes","dues","turn","a","b"] ["works","wishes"] (AC HD):=B3 108
@[reducible] noncomputable def Mh:MS:=(A6 (AE 2 (AU (Ab 1 [] (Aw 77) (AD 0) BV (mOp gIx (mOp gIx 77 188) 124))))
 (A6 (Be (Aw 77) (AD 3)
  (Be (Aw 131) (C1 2 (AV (AD 4) (AV (AD 5) C2)))
  (Ch 153 (A0 4) (mCB Gp (A1 (mOp gIx 153 (A0 4)) (A1 (mOp CK (mOp gIx 153 (A0 5)) (mOp gIx (mOp gIx 77 (A0 5)) 122)) A4))))))
 (AN 153)))
noncomputable def DT:FD:=mkF 2 6 Mh
noncomputable abbrev Eb:Df:=⟨"turned_dues",HD,["works","wishes"],1,DT⟩
noncomputable abbrev Ir:Stmt:=top 30
def NY:FnScope ["pieces","work","begin","end"] ["pieces","work","begin","end"] (AC Ir):=B3 108
@[reducible] noncomputable def Oz:MS:=(Ak (DB (C9 77) (DB (AB (mOp gEq (mOp gIx (mOp gIx 77 (EW 124)) 122) 131)) (AB (mOp gEq (mOp gIx (mOp gIx 77 (EW 124)) 188) 153))))
 (Ch 77 (EW 124) (B5 (A1 131 (A1 (mOp gIx (mOp gIx 77 (EW 124)) 124) (A1 167 A4)))))
 (An (mMt AX 77 (A1 (B5 (A1 131 (A1 153 (A1 167 A4)))) A4))))
noncomputable def DO:FD:=mkF 4 4 Oz
noncomputable abbrev G3:Df:=⟨"add_piece",Ir,["pieces","work","begin","end"],1,DO⟩
noncomputable abbrev HF:Stmt:=top 31
def Kz:FnScope ["works","begins","rank","left","pieces","t","undone","work","stop"] ["works","begins","rank"] (AC HF):=B3 108
@[reducible] noncomputable def Mj:MS:=(A6 (AE 3 (AU (Ab 1 [] (Aw 77) (AD 0) BV (mOp gIx 77 122))))
 (A6 (AE 4 (AU (Af A4)))
 (A6 (AE 5 122)
 (A6 (CN (C9 (mCB (f1 false KM) (A1 167 A4)))
  (A6 (AE 6 (AU (Ab 1 [3] (Cu (A1 (mCB 173 (A1 77 A4)) A4)) (AD 0) (AB (mOp gGt 180 122)) 77)))
 (A6 (AE 5 (mCB DP (A1 (A0 5) (A1 (B6 FT (Ab 1 [1] (Bs (A0 6)) (AD 0) BV 180)) A4))))
 (A6 (AE 7 (KI (AU (Ab 1 [1,5] (Bs (A0 6)) (AD 0) (AB (mOp gLe 180 153)) 77)) [2,3] (B5 (A1 (Dv 131 (A1 77 (A1 (mOp gIx 153 77) A4))) (A1 77 A4)))))
 (A6 (AE 8 (B6 FT (Ge (AU (Af (A1 (mOp B0 (A0 5) (mOp gIx 167 (A0 7))) A4))) (AU (Ab 1 [1,5] (Bs (A0 6)) (AD 0) (AB (mOp gGt 180 153)) 180)))))
 (A6 (An (BZ DO (A1 (A0 4) (A1 (A0 7) (A1 (A0 5) (A1 (A0 8) A4))))))
 (A6 (Gc 167 (A0 7) (mOp CK (A0 8) (A0 5)) (λi j=>i-j))
 (AE 5 (A0 8)))))))))
 (AN (mCB (f1 true B8) (A1 (A0 4) A4)))))))
noncomputable def DV:FD:=mkF 3 9 Mj
noncomputable abbrev DR:Df:=⟨"ranked_plan",HF,["works","begins","rank"],4,DV⟩
noncomputable abbrev Jz:Stmt:=top 32
def Ot:FnScope ["works","wishes","dues"] ["works","wishes"] (AC Jz):=B3 108
@[reducible] noncomputable def RP:MS:=(A6 (An (A8 0 By (A1 77 (A1 (mC (.str "late")) A4))))
 (A6 (AE 2 (A8 0 DT (A1 77 (A1 131 A4))))
 (AN (GJ DV 2 77 (A8 0 D9 (A1 77 (A1 131 A4)))))))
noncomputable def Eu:FD:=mkF 2 3 RP
noncomputable abbrev Es:Df:=⟨"due_plan",Jz,["works","wishes"],5,Eu⟩
noncomputable abbrev FH:Stmt:=top 34
def Im:FnScope ["works","wishes","coming","order","sets","left","u"] ["works","wishes"] (AC FH):=B3 108
@[reducible] noncomputable def JO:MS:=(A6 (AE 2 (A8 0 E1 (A1 77 A4)))
 (A6 (AE 3 (AU (Af A4)))
 (A6 (AE 4 (AU (Af A4)))
 (A6 (AE 5 (IQ (A1 (mCB 173 (A1 77 A4)) A4)))
 (A6 (CN (C9 (A0 5))
  (A6 (AE 6 (A8 0 CH (A1 77 (A1 131 (A1 (A0 5) (A1 (mOp B0 153 (A8 0 CJ (A1 77 (A1 (A0 5) A4)))) A4))))))
 (A6 (An (mMt F0 167 (A1 122 (A1 (A0 6) A4))))
 (A6 (An (mMt AX (A0 4) (A1 (A0 5) A4)))
 (AE 5 (A8 0 EU (A1 (A0 5) (A1 (A0 6) A4))))))))
 (AN (B5 (A1 (mCB (f1 true B8) (A1 167 A4)) (A1 (BZ C6 (A1 77 (A1 131 (A1 (A0 4) A4)))) A4)))))))))
noncomputable def Bf:FD:=mkF 2 7 JO
noncomputable abbrev Db:Df:=⟨"greatest_order",FH,["works","wishes"],8,Bf⟩
noncomputable abbrev Sa:Stmt:=top 36
def Y8:FnScope ["_law_script"] ["_law_script"] (AC Sa):=B3 108
@[reducible] def dU:MS:=(AN (AU (Af (A1 (AU (Hm (LI 77 GH (KG (mC (.int 63)))))) (A1 122 (A1 122 A4))))))
noncomputable def Kr:FD:=mkF 1 1 dU
noncomputable abbrev OR:Df:=⟨"_law_feed",Sa,["_law_script"],1,Kr⟩
noncomputable abbrev SZ:Stmt:=top 37
def Y7:FnScope ["_law_feed_here","_law_many","_law_digit","_law_at","_law_cell","_law_first"] ["_law_feed_here","_law_many"] (AC SZ):=B3 108
@[reducible] def dR:MS:=(A6 (Ak (AB (mOp gGt (mOp gIx 77 188) 122))
 (A6 (AE 2 (mOp DC (mOp gIx 77 188) 131))
 (A6 (Ch 77 188 (mOp Go (mOp gIx 77 188) 131))
 (AN 153)))
  AZ)
 (A6 (AE 3 (mOp gIx 77 124))
 (A6 (Ch 77 124 (mOp B0 167 124))
 (A6 (AE 4 (mIf (AB (Ci true (mOp gIx 77 122) (Af A4))) (mOp gIx (mOp gIx 77 122) (mOp DC 167 (mCB 173 (A1 (mOp gIx 77 122) A4)))) 122))
 (A6 (Ak (DB (AB (mOp gGe (A0 4) (mOp Rh (mC (.int 10)) (mC (.int 18))))) (AB (mOp gLt 167 (mCB 173 (A1 (mOp gIx 77 122) A4)))))
  (A6 (Ch 77 188 (mOp Go (A0 4) 131))
 (AN (mOp DC (A0 4) 131)))
  AZ)
 (A6 (AE 5 (mOp DC (mOp Bx (mOp B0 (mOp B0 (mOp B0 (mOp DC (A0 4) (mC (.int 1000003))) (mOp Bx (mOp Bx (mC (.int 37)) 167) 167)) (mOp Bx (mC (.int 13)) 167)) (mC (.int 5))) (mC (.int 48271))) (mC (.int 999983))))
 (AN (mOp DC (mOp Go (mOp DC (mOp Bx (mOp DC (mOp B0 (mOp B0 (mOp Bx (A0 5) (A0 5)) (mOp Bx (mC (.int 7919)) 167)) (mC (.int 11))) (mC (.int 2097143))) (mC (.int 69621))) (mC (.int 2147483629))) (mC (.int 7))) 131))))))))
noncomputable def Aq:FD:=mkF 2 6 dR
noncomputable abbrev FY:Df:=⟨"_law_next",SZ,["_law_feed_here","_law_many"],1,Aq⟩
noncomputable abbrev PJ:Stmt:=top 38
def Uu:FnScope [] [] (AC PJ):=B3 108
@[reducible] noncomputable def Zh:MS:=(AN (AU (Af (A1 (mC (.str "late")) (A1 (mC (.str "tardy")) (A1 (mC (.str "miss")) (A1 (mC (.str "ends")) (A1 (mC (.str "steps")) A4))))))))
noncomputable def F7:FD:=mkF 0 0 Zh
noncomputable abbrev LW:Df:=⟨"_law_words",PJ,[],1,F7⟩
noncomputable abbrev Sc:Stmt:=top 39
def YA:FnScope ["_law_feed_here","_law_words_here","_law_word","_law_dues","_law_due","_law_weight","_law_rows","_law_start","_law_height","_law_k"] ["_law_feed_here","_law_words_here"] (AC Sc):=B3 108
@[reducible] def dX:MS:=(A6 (AE 2 (mOp gIx 131 (A8 2 Aq (A1 77 (A1 (mCB 173 (A1 131 A4)) A4)))))
 (A6 (AE 3 (AU (Af (A1 (A8 2 Aq (A1 77 (A1 (mC (.int 40)) A4))) (A1 (A8 2 Aq (A1 77 (A1 (mC (.int 160)) A4))) (A1 (mOp CK (A8 2 Aq (A1 77 (A1 (mC (.int 500)) A4))) (mC (.int 99))) A4))))))
 (A6 (AE 4 (mOp gIx 167 (A8 2 Aq (A1 77 (A1 (mC (.int 3)) A4)))))
 (A6 (AE 5 (A8 2 Aq (A1 77 (A1 (mC (.int 10)) A4))))
 (A6 (Ak (AB (mOp gEq 153 (mC (.str "late"))))
  (AN (B5 (A1 153 (A1 (A0 4) A4))))
  AZ)
 (A6 (Ak (AB (mOp gEq 153 (mC (.str "ends"))))
  (AN (B5 (A1 153 (A1 (A0 5) A4))))
  AZ)
 (A6 (Ak (AB (mOp gNe 153 (mC (.str "steps"))))
  (AN (B5 (A1 153 (A1 (A0 4) (A1 (A0 5) A4)))))
  AZ)
 (A6 (AE 6 (AU (Af A4)))
 (A6 (AE 7 (mOp CK (A8 2 Aq (A1 77 (A1 (mC (.int 140)) A4))) (mC (.int 100))))
 (A6 (AE 8 122)
 (A6 (Be (Cu (A1 (mOp B0 124 (A8 2 Aq (A1 77 (A1 (mC (.int 5)) A4)))) A4)) (AD 9)
  (A6 (AE 7 (mOp B0 (mOp B0 (A0 7) 124) (A8 2 Aq (A1 77 (A1 (mC (.int 60)) A4)))))
 (A6 (AE 8 (mCB Gp (A1 (mC (.int 99)) (A1 (mOp B0 (A0 8) (A8 2 Aq (A1 77 (A1 (mC (.int 30)) A4)))) A4))))
 (An (mMt AX (A0 6) (A1 (B5 (A1 (A0 7) (A1 (A0 8) A4))) A4))))))
 (AN (B5 (A1 153 (A1 (mCB (f1 true B8) (A1 (A0 6) A4)) A4)))))))))))))))
noncomputable def Ks:FD:=mkF 2 10 dX
noncomputable abbrev OT:Df:=⟨"_law_cost",Sc,["_law_feed_here","_law_words_here"],2,Ks⟩
noncomputable abbrev PH:Stmt:=top 40
def Ut:FnScope ["_law_feed_here","_law_most","_law_words_here","_law_ways","_law_many","_law_longest","_law_way","_law_first","_law_works_here","_law_k","_law_comings"] ["_law_feed_here","_law_most","_law_words_here","_law_ways"] (AC PH):=B3 108
@[reducible] noncomputable def Zf:MS:=(A6 (AE 4 (mOp B0 124 (A8 2 Aq (A1 77 (A1 131 A4)))))
 (A6 (AE 5 (Hn (Af (A1 (mC (.int 3)) (A1 (mC (.int 20)) A4))) (A8 2 Aq (A1 77 (A1 188 A4)))))
 (A6 (AE 6 (mOp gIx 167 (A8 2 Aq (A1 77 (A1 (mCB 173 (A1 167 A4)) A4)))))
 (A6 (AE 7 (A8 2 Aq (A1 77 (A1 (mC (.int 61)) A4))))
 (A6 (AE 8 (AU (Af A4)))
 (A6 (Be (Cu (A1 (A0 4) A4)) (AD 9)
  (Hi (A6 (AE 10 (AU (Af (A1 (A0 7) (A1 (A8 2 Aq (A1 77 (A1 (mC (.int 8)) A4))) (A1 (A8 2 Aq (A1 77 (A1 (mC (.int 25)) A4))) (A1 (A8 2 Aq (A1 77 (A1 (mC (.int 61)) A4))) A4)))))))
 (An (mMt AX (A0 8) (A1 (B5 (A1 (mOp B0 124 (A8 2 Aq (A1 77 (A1 (A0 5) A4)))) (A1 (mOp gIx (A0 10) (A0 6)) (A1 (A8 3 Ks (A1 77 (A1 153 A4))) A4)))) A4))))))
 (AN (mCB (f1 true B8) (A1 (A0 8) A4)))))))))
noncomputable def Il:FD:=mkF 4 11 Zf
noncomputable abbrev LV:Df:=⟨"_law_works",PH,["_law_feed_here","_law_most","_law_words_here","_law_ways"],3,Il⟩
noncomputable abbrev NZ:Stmt:=top 41
def SS:FnScope ["_law_feed_here","_law_many","_law_left","_law_seq","_law_way","_law_found","_law_k","_law_j"] ["_law_feed_here","_law_many"] (AC NZ):=B3 108
@[reducible] noncomputable def W3:MS:=(A6 (AE 2 (AU (Gb (A1 131 A4))))
 (A6 (AE 3 (AU (Af A4)))
 (A6 (CN (AB (Ci true 153 (Af A4)))
  (An (mMt AX 167 (A1 (mMt FU 153 (A1 (A8 2 Aq (A1 77 (A1 (mCB 173 (A1 153 A4)) A4))) A4)) A4))))
 (A6 (AE 4 (A8 2 Aq (A1 77 (A1 (mC (.int 4)) A4))))
 (A6 (AE 5 (AU (Af A4)))
 (A6 (Be (Cu (A1 131 A4)) (AD 6)
  (Be (Cu (A1 (A0 6) A4)) (AD 7)
  (Ak (mOr (DB (AB (mOp gEq (A0 4) (mC (.int 3)))) (AB (mOp gEq (A0 7) (mOp CK (A0 6) 124)))) (DB (AB (mOp (gIn false) (A0 4) (B5 (A1 124 (A1 188 A4))))) (AB (mOp gEq (A8 2 Aq (A1 77 (A1 (Hn (Af (A1 124 (A1 (mC (.int 4)) (A1 188 A4)))) (A0 4)) A4))) 122))))
  (An (mMt AX (A0 5) (A1 (B5 (A1 (mOp gIx 167 (A0 7)) (A1 (mOp gIx 167 (A0 6)) A4))) A4)))
  AZ)))
 (AN (B6 B8 (LI (AU (DZ (Bs (A0 5)))) GH (KG (mC (.int 16))))))))))))
noncomputable def Gz:FD:=mkF 2 8 W3
noncomputable abbrev JU:Df:=⟨"_law_wishes",NZ,["_law_feed_here","_law_many"],2,Gz⟩
noncomputable abbrev PL:Stmt:=top 42
def Uw:FnScope ["_law_cost_here","_law_t"] ["_law_cost_here","_law_t"] (AC PL):=B3 108
@[reducible] noncomputable def Zj:MS:=(A6 (Ak (AB (mOp gEq (mOp gIx 77 122) (mC (.str "late"))))
 (AN (mOp CK 131 (mOp gIx 77 124)))
 AZ)
 (A6 (Ak (AB (mOp gEq (mOp gIx 77 122) (mC (.str "tardy"))))
  (AN (mOp Bx (mOp gIx 77 188) (mCB DP (A1 122 (A1 (mOp CK 131 (mOp gIx 77 124)) A4)))))
  AZ)
 (A6 (Ak (AB (mOp gEq (mOp gIx 77 122) (mC (.str "miss"))))
  (AN (mOp Bx (mOp gIx 77 188) (mCB ON (A1 (mOp gGt 131 (mOp gIx 77 124)) A4))))
  AZ)
 (A6 (Ak (AB (mOp gEq (mOp gIx 77 122) (mC (.str "ends"))))
  (AN (mOp Bx (mOp gIx 77 124) 131))
  AZ)
 (AN (B6 Gh (Ge (AU (Af (A1 122 A4))) (AU (Ab 2 [1] (Aw (mOp gIx 77 124)) (C1 2 (AV (AD 0) (AV (AD 1) C2))) (AB (mOp gLe 77 153)) 131)))))))))
noncomputable def Dm:FD:=mkF 2 2 Zj
noncomputable abbrev LX:Df:=⟨"_law_costs",PL,["_law_cost_here","_law_t"],1,Dm⟩
noncomputable abbrev Nc:Stmt:=top 43
def SX:FnScope ["_law_thing"] ["_law_thing"] (AC Nc):=B3 108
@[reducible] noncomputable def W6:MS:=(AN (Gf (EY .int 77) (IS (EY .bool 77))))
noncomputable def HC:FD:=mkF 1 1 W6
noncomputable abbrev JX:Df:=⟨"_law_is_int",Nc,["_law_thing"],1,HC⟩
noncomputable abbrev Sb:Stmt:=top 44
def Y9:FnScope ["_law_works_here","_law_wishes_here","_law_plan","_law_left","_law_ends_here","_law_at","_law_piece","_law_k","_law_begin","_law_end"] ["_law_works_here","_law_wishes_here","_law_plan"] (AC Sb):=B3 108
@[reducible] def dW:MS:=(A6 (Ak (Hk (C9 (EY .tuple 153)))
 (AN (mC .non))
 AZ)
 (A6 (AE 3 (AU (Ab 1 [] (Aw 77) (AD 0) BV (mOp gIx 77 122))))
 (A6 (AE 4 (AU (Hj (Af (A1 122 A4)) (mCB 173 (A1 77 A4)))))
 (A6 (AE 5 122)
 (A6 (Be (Aw 153) (AD 6)
  (A6 (Ak (mOr (Hk (C9 (EY .tuple (A0 6)))) (mOr (AB (mOp gNe (mCB 173 (A1 (A0 6) A4)) (mC (.int 3)))) (AB (LJ false (mC (.bl false)) (Ab 1 [] (Aw (A0 6)) (AD 0) BV (A8 0 HC (A1 77 A4)))))))
  (AN (mC .non))
  AZ)
 (A6 (Fx (A0 6) (C1 3 (AV (AD 7) (AV (AD 8) (AV (AD 9) C2)))))
 (A6 (Ak (mOr (Hk (AB (DF gLe gLt 122 (A0 7) (mCB 173 (A1 77 A4))))) (mOr (AB (mOp gLt (A0 8) (A0 5))) (mOr (AB (mOp gLe (A0 9) (A0 8))) (AB (mOp gLt (A0 8) (mOp gIx (mOp gIx 77 (A0 7)) 124))))))
  (AN (mC .non))
  AZ)
 (A6 (Ak (AB (Em true (Ab 2 [7,3,4,8] (Aw 131) (C1 2 (AV (AD 0) (AV (AD 1) C2))) (DB (AB (mOp gEq 131 153)) (mOr (AB (mOp gGt (mOp gIx 167 77) 122)) (AB (mOp gGt (mOp gIx (A0 4) 77) (A0 5))))) 77) (Af A4)))
  (AN (mC .non))
  AZ)
 (A6 (Ch 167 (A0 7) (mOp CK (mOp gIx 167 (A0 7)) (mOp CK (A0 9) (A0 8))))
 (A6 (Ch (A0 4) (A0 7) (A0 9))
 (AE 5 (A0 9)))))))))
 (AN (mIf (AB (Ci false 167 (Hj (Af (A1 122 A4)) (mCB 173 (A1 77 A4))))) (A0 4) (mC .non))))))))
noncomputable def GO:FD:=mkF 3 10 dW
noncomputable abbrev OS:Df:=⟨"_law_ends",Sb,["_law_works_here","_law_wishes_here","_law_plan"],2,GO⟩
noncomputable abbrev Jy:Stmt:=top 45
def Os:FnScope ["_law_works_here","_law_ends_here"] ["_law_works_here","_law_ends_here"] (AC Jy):=B3 108
@[reducible] noncomputable def RK:MS:=(AN (B6 Gh (Ab 1 [0,1] (Cu (A1 (mCB 173 (A1 77 A4)) A4)) (AD 0) BV (A8 0 Dm (A1 (mOp gIx 180 188) (A1 (mOp gIx 153 77) A4))))))
noncomputable def CG:FD:=mkF 2 2 RK
noncomputable abbrev Gu:Df:=⟨"_law_greatest",Jy,["_law_works_here","_law_ends_here"],2,CG⟩
noncomputable abbrev Jx:Stmt:=top 46
def Oq:FnScope ["_law_works_here","_law_order","_law_ends_here","_law_t","_law_k"] ["_law_works_here","_law_order"] (AC Jx):=B3 108
@[reducible] noncomputable def RJ:MS:=(A6 (AE 2 (AU (Hj (Af (A1 122 A4)) (mCB 173 (A1 77 A4)))))
 (A6 (AE 3 122)
 (A6 (Be (Aw 131) (AD 4)
  (A6 (AE 3 (mOp B0 (mCB DP (A1 167 (A1 (mOp gIx (mOp gIx 77 (A0 4)) 124) A4))) (mOp gIx (mOp gIx 77 (A0 4)) 122)))
 (Ch 153 (A0 4) 167)))
 (AN 153))))
noncomputable def Dz:FD:=mkF 2 5 RJ
noncomputable abbrev Gs:Df:=⟨"_law_run_ends",Jx,["_law_works_here","_law_order"],1,Dz⟩
noncomputable abbrev Na:Stmt:=top 47
def SU:FnScope ["_law_feed_here","_law_works_here","_law_wishes_here","_law_left","_law_numbers","_law_others","_law_pairs"] ["_law_feed_here","_law_works_here","_law_wishes_here"] (AC Na):=B3 108
@[reducible] noncomputable def W4:MS:=(A6 (AE 3 (AU (Gb (A1 (mCB 173 (A1 131 A4)) A4))))
 (A6 (AE 4 (AU (Af A4)))
 (A6 (CN (AB (Ci true 167 (Af A4)))
  (An (mMt AX (A0 4) (A1 (mMt FU 167 (A1 (A8 2 Aq (A1 77 (A1 (mCB 173 (A1 167 A4)) A4))) A4)) A4))))
 (A6 (AE 5 (AU (Ab 1 [1,4] (Cu (A1 (mCB 173 (A1 131 A4)) A4)) (AD 0) BV (mOp gIx 131 (mMt F4 153 (A1 77 A4))))))
 (A6 (AE 6 (AU (DZ (EX (Ab 2 [4] (Aw 153) (C1 2 (AV (AD 0) (AV (AD 1) C2))) BV (B5 (A1 (mOp gIx 153 77) (A1 (mOp gIx 153 131) A4))))))))
 (AN (B5 (A1 (A0 4) (A1 (mCB (f1 true B8) (A1 (A0 5) A4)) (A1 (mCB (f1 true B8) (A1 (A0 6) A4)) A4))))))))))
noncomputable def HA:FD:=mkF 3 7 W4
noncomputable abbrev JV:Df:=⟨"_law_turned",Na,["_law_feed_here","_law_works_here","_law_wishes_here"],2,HA⟩
noncomputable abbrev HV:Stmt:=top 48
def Me:FnScope ["_law_works_here","_law_wishes_here","_law_late","_law_plans","_law_found","_law_plan","_law_ends_here"] ["_law_works_here","_law_wishes_here","_law_late"] (AC HV):=B3 108
@[reducible] noncomputable def O2:MS:=(A6 (AE 3 (AU (Af (A1 (mOp gIx (A8 0 Cj (A1 77 (A1 131 A4))) 122) A4))))
 (A6 (Ak (C9 153)
  (An (mMt AX 167 (A1 (A8 0 Eu (A1 77 (A1 131 A4))) A4)))
  AZ)
 (A6 (AE 4 (AU (Af A4)))
 (A6 (Be (Bs 167) (AD 5)
  (A6 (AE 6 (A8 0 GO (A1 77 (A1 131 (A1 (A0 5) A4)))))
 (An (mMt AX (A0 4) (A1 (mIf (AB (FP false (A0 6))) (mC .non) (BZ CG (A1 77 (A1 (A0 6) A4)))) A4)))))
 (A6 (Ak (AB (mOp gEq (Dh (Ab 1 [] (Aw 77) (AD 0) BV (mOp gIx 77 124))) 124))
  (An (mMt AX (A0 4) (A1 (BZ CG (A1 77 (A1 (A8 0 Dz (A1 77 (A1 (mOp gIx (A8 0 Bf (A1 77 (A1 131 A4))) 122) A4))) A4))) A4)))
  AZ)
 (AN (A0 4)))))))
noncomputable def D1:FD:=mkF 3 7 O2
noncomputable abbrev FW:Df:=⟨"_law_told_costs",HV,["_law_works_here","_law_wishes_here","_law_late"],18,D1⟩
noncomputable abbrev X4:Stmt:=top 49
def aY:FnScope ["_law_script","_law_feed_here","_law_late","_law_works_here","_law_wishes_here","_law_numbers","_law_others","_law_pairs","_law_known","_law_turn","_law_number","_law_some","_law_same","_law_found"] ["_law_script"] (AC X4):=B3 108
@[reducible] def fY:MS:=(A6 (AE 1 (BZ Kr (A1 77 A4)))
 (A6 (AE 2 (mOp gEq (A8 2 Aq (A1 131 (A1 188 A4))) 122))
 (A6 (AE 3 (A8 4 Il (A1 131 (A1 (mC (.int 8)) (A1 (mIf (C9 153) (AU (Af (A1 (mC (.str "late")) A4))) (A8 0 F7 A4)) (A1 (AU (Af (A1 122 (A1 122 (A1 124 (A1 188 (A1 (mC (.int 3)) A4))))))) A4))))))
 (A6 (AE 4 (A8 2 Gz (A1 131 (A1 (mCB 173 (A1 167 A4)) A4))))
 (A6 (Fx (BZ HA (A1 131 (A1 167 (A1 (A0 4) A4)))) (C1 3 (AV (AD 5) (AV (AD 6) (AV (AD 7) C2)))))
 (A6 (AE 8 (A8 0 D9 (A1 167 (A1 (A0 4) A4))))
 (A6 (Ak (AB (Em true (Ab 1 [6,7,5] (Cu (A1 (mCB 173 (A1 167 A4)) A4)) (AD 0) BV (mOp gIx (A8 0 D9 (A1 131 (A1 153 A4))) (mOp gIx 167 77))) (IT (A0 8))))
  (AN (mC (.bl false)))
  AZ)
 (A6 (Be (Cu (A1 (mC (.int 10)) A4)) (AD 9)
  (A6 (AE 10 (mOp B0 124 (A8 2 Aq (A1 131 (A1 (mOp CK (mOp WQ 124 (mCB 173 (A1 167 A4))) 124) A4)))))
 (A6 (AE 11 (B6 B8 (Ab 1 [10] (Cu (A1 (mCB 173 (A1 167 A4)) A4)) (AD 0) (AB (mOp gEq (mOp OL (mOp OK 131 77) 124) 124)) 77)))
 (A6 (AE 12 (B6 B8 (Bo (EX (Ab 1 [5] (Aw (A0 11)) (AD 0) BV 180)))))
 (Ak (AB (mOp gNe (A8 0 Bz (A1 167 (A1 (A0 4) (A1 (A0 11) A4)))) (A8 0 Bz (A1 (A0 6) (A1 (A0 7) (A1 (A0 12) A4))))))
  (AN (mC (.bl false)))
  AZ)))))
 (A6 (AE 13 (A8 0 D1 (A1 167 (A1 (A0 4) (A1 153 A4)))))
 (AN (Gf (mOp Ic (mC .non) (A0 13)) (mOp (LQ false) (A0 13) (A8 0 D1 (A1 (A0 6) (A1 (A0 7) (A1 153 A4))))))))))))))))
def ii:FD:=mkF 1 14 fY
noncomputable abbrev Rr:Df:=⟨"law",X4,["_law_script"],19,ii⟩
set_option maxHeartbeats 0 in
def oks{E:EnK}(B:BltA E.mg):(Dn E Gq->Kn E Gq)/\
 (Dn E Fs->Kn E Gq->Kn E Fs)/\
 (Dn E JW->Kn E JW)/\
 (Dn E F5->Kn E JW->Kn E F5)/\
 (Dn E IB->Kn E IB)/\
 (Dn E JY->Kn E IB->Kn E JY)/\
 (Dn E EF->Kn E JY->Kn E EF)/\
 (Dn E EE->Kn E EE)/\
 (Dn E Ec->Kn E Ec)/\
 (Dn E FX->Kn E Ec->Kn E FX)/\
 (Dn E CY->Kn E CY)/\
 (Dn E Et->Kn E Fs->Kn E F5->Kn E EF->Kn E EE->Kn E Et)/\
 (Dl E D6 ⟨85,33,85,57⟩->Kn E F5->Kn E D6)/\
 (Dl E CF ⟨94,56,94,91⟩->Kn E Fs->Kn E EF->Kn E CF)/\
 (Dn E Fr->Kn E Fr)/\
 (Dn E Ed->Kn E Ed)/\
 (Dn E FZ->Kn E D6->Kn E CF->Kn E Fr->Kn E Ed->Kn E FZ)/\
 (Dl E C4 ⟨117,25,117,67⟩->Kn E Et->Kn E C4)/\
 (Dn E Dw->Kn E FZ->Kn E C4->Kn E Dw)/\
 (Dn E Eb->Kn E Eb)/\
 (Dn E G3->Kn E G3)/\
 (Dl E DR ⟨139,62,139,93⟩->Kn E G3->Kn E DR)/\
 (Dl E Es ⟨148,52,148,81⟩->Kn E F5->Kn E CY->Kn E Eb->Kn E DR->Kn E Es)/\
 (Dn E Db->Kn E EE->Kn E FX->Kn E CF->Kn E Fr->Kn E C4->Kn E Db)/\
 (Dn E OR->Kn E OR)/\
 (Dn E FY->Kn E FY)/\
 (Dn E LW->Kn E LW)/\
 (Dn E OT->Kn E FY->Kn E OT)/\
 (Dn E LV->Kn E FY->Kn E OT->Kn E LV)/\
 (Dn E JU->Kn E FY->Kn E JU)/\
 (Dn E LX->Kn E LX)/\
 (Dn E JX->Kn E JX)/\
 (Dn E OS->Kn E JX->Kn E OS)/\
 (Dn E Gu->Kn E LX->Kn E Gu)/\
 (Dn E Gs->Kn E Gs)/\
 (Dn E JV->Kn E FY->Kn E JV)/\
 (Dn E FW->Kn E Dw->Kn E Es->Kn E Db->Kn E OS->Kn E Gu->Kn E Gs->Kn E FW)/\
 (Dn E Rr->Kn E F5->Kn E Et->Kn E OR->Kn E FY->Kn E LW->Kn E LV->Kn E JU->Kn E JV->Kn E FW->Kn E Rr):=by
 refine⟨λD=>okK D Op rfl rfl λ_ _ _ _ _ _ _ hr=>?_,
  λD _=>okK D Qd rfl rfl λ_ _ _ _ _ _ _ hr=>?_,
  λD=>okK D SV rfl rfl λ_ _ _ _ _ _ _ hr=>?_,
  λD _=>okK D Uv rfl rfl λ_ _ _ _ _ _ _ hr=>?_,
  λD=>okK D Qc rfl rfl λ_ _ _ _ _ _ _ hr=>?_,
  λD _=>okK D SY rfl rfl λ_ _ _ _ _ _ _ hr=>?_,
  λD _=>okK D NX rfl rfl λ_ _ _ _ _ _ _ hr=>?_,
  λD=>okK D NW rfl rfl λ_ _ _ _ _ _ _ hr=>?_,
  λD=>okK D Ky rfl rfl λ_ _ _ _ _ _ _ hr=>?_,
  λD _=>okK D Mf rfl rfl λ_ _ _ _ _ _ _ hr=>?_,
  λD=>okK D G8 rfl rfl λ_ _ _ _ _ _ _ hr=>?_,
  λD _ _ _ _=>okK D Ou rfl rfl λ_ _ _ _ _ _ _ hr=>?_,
  λD _=>okL D Ju rfl rfl λ_ _ _ _ LC _ _ _ _ _ _ hcd hr=>?_,
  λD _ _=>okL D JE rfl rfl λ_ _ _ _ LC _ _ _ _ _ _ hcd hr=>?_,
  λD=>okK D Qb rfl rfl λ_ _ _ _ _ _ _ hr=>?_,
  λD=>okK D L0 rfl rfl λ_ _ _ _ _ _ _ hr=>?_,
  λD _ _ _ _=>Nat.rec (motive:=λn=>Kn E ⟨"broken_off",FJ,["works","wishes","some"],n+6,Cz n⟩) (ok0 D) (λn ih=>okK (j:=n+6) D Mg rfl 68 λ_ _ _ _ _ _ _ hr=>?_) 10,
  λD _=>okL D Io rfl rfl λ_ _ _ _ LC _ _ _ _ _ _ hcd hr=>?_,
  λD _ _=>okK D JD rfl rfl λ_ _ _ _ _ _ _ hr=>?_,
  λD=>okK D Kx rfl rfl λ_ _ _ _ _ _ _ hr=>?_,
  λD=>okK D NY rfl rfl λ_ _ _ _ _ _ _ hr=>?_,
  λD _=>okL D Kz rfl rfl λ_ _ _ _ LC _ _ _ _ _ _ hcd hr=>?_,
  λD _ _ _ _=>okL D Ot rfl rfl λ_ _ _ _ LC _ _ _ _ _ _ hcd hr=>?_,
  λD _ _ _ _ _=>okK D Im rfl rfl λ_ _ _ _ _ _ _ hr=>?_,
  λD=>okK D Y8 rfl rfl λ_ _ _ _ _ _ _ hr=>?_,
  λD=>okK D Y7 rfl rfl λ_ _ _ _ _ _ _ hr=>?_,
  λD=>okK D Uu rfl rfl λ_ _ _ _ _ _ _ hr=>?_,
  λD _=>okK D YA rfl rfl λ_ _ _ _ _ _ _ hr=>?_,
  λD _ _=>okK D Ut rfl rfl λ_ _ _ _ _ _ _ hr=>?_,
  λD _=>okK D SS rfl rfl λ_ _ _ _ _ _ _ hr=>?_,
  λD=>okK D Uw rfl rfl λ_ _ _ _ _ _ _ hr=>?_,
  λD=>okK D SX rfl rfl λ_ _ _ _ _ _ _ hr=>?_,
  λD _=>okK D Y9 rfl rfl λ_ _ _ _ _ _ _ hr=>?_,
  λD _=>okK D Os rfl rfl λ_ _ _ _ _ _ _ hr=>?_,
  λD=>okK D Oq rfl rfl λ_ _ _ _ _ _ _ hr=>?_,
  λD _=>okK D SU rfl rfl λ_ _ _ _ _ _ _ hr=>?_,
  λD _ _ _ _ _ _=>okK D Me rfl rfl λ_ _ _ _ _ _ _ hr=>?_,
  λD _ _ _ _ _ _ _ _ _=>okK D aY rfl rfl λ_ _ _ _ _ _ _ hr=>?_⟩
 all_goals (refine' ⟨_,_⟩;rotate_left;repeat' (first
  |((with_reducible show QE _ _ _ _ _);first|exact qv _ _|(first|exact cM _|exact cE _|exact fJ _|exact cH _)|((with_reducible show QE _ _ _ _ (mOp _ _ _));first|((with_reducible show QE _ _ _ _ (mOp gIx _ _));refine' fG _ _ _)|((with_reducible show QE _ _ _ _ (mOp Ep _ _));refine' Z5 _ (Rb hr) _ _)|((with_reducible show QE _ _ _ _ (mOp B0 _ _));refine' Eg _ ((dN).or (Vv _)) (GA bW Yg) _ _)|((with_reducible show QE _ _ _ _ (mOp CK _ _));refine' Eg _ d6 bN _ _)|((with_reducible show QE _ _ _ _ (mOp Bx _ _));refine' Eg _ dF bR _ _)|((with_reducible show QE _ _ _ _ (mOp DC _ _));refine' Eg _ dG bS _ _)|((with_reducible show QE _ _ _ _ (mOp Go _ _));refine' Eg _ ZW Ye _ _)|((with_reducible show QE _ _ _ _ (mOp Rh _ _));refine' Eg _ dD bQ _ _)|((with_reducible show QE _ _ _ _ (mOp WQ _ _));refine' Eg _ d8 bP _ _)|((with_reducible show QE _ _ _ _ (mOp OK _ _));refine' Eg _ d7 bO _ _)|((with_reducible show QE _ _ _ _ (mOp OL _ _));refine' Eg _ dM bV _ _)|((with_reducible show QE _ _ _ _ (mOp gGt _ _));refine' GC _ XV XD _ _)|((with_reducible show QE _ _ _ _ (mOp gEq _ _));refine' GC _ ((XW).or (IN _ hr.units)) (GA Sy Sz) _ _)|((with_reducible show QE _ _ _ _ (mOp gNe _ _));refine' GC _ ((XU).or (LF _ hr.units)) (GA Sv Sw) _ _)|((with_reducible show QE _ _ _ _ (mOp (gIn false) _ _));refine' GC _ (Nx _) Qn _ _)|((with_reducible show QE _ _ _ _ (mOp Ic _ _));refine' GC _ (ZV _ hr.units) Yd _ _)|((with_reducible show QE _ _ _ _ (mOp (LQ false) _ _));refine' GC _ (IN _ hr.units) bU _ _))|refine' cD _ _|((with_reducible show QE _ _ _ _ (AU _));refine' cI _ _)|refine' cJ _ _|((with_reducible show QE _ _ _ _ (A8 _ _ _));first|refine' qcW _ (by assumption) hr _|exact qc0 _ (by assumption) hr|refine' qcW _ (by assumption) (hr.in1.deeper _) _)|((with_reducible show QE _ _ _ _ (BZ _ _));refine' qcG (by assumption) hr _)|((with_reducible show QE _ _ _ _ (EN _ _));refine' qcS (by assumption) hr _)|((with_reducible show QE _ _ _ _ (O5 _ _ _ _));refine' qbA wMx LC hcd hr B.max _ (λ_ _ _ _=>_))|((with_reducible show QE _ _ _ _ (LK _ _ _ _));refine' qbA wMt LC hcd hr B.min _ (λ_ _ _ _=>_))|((with_reducible show QE _ _ _ _ (GJ _ _ _ _));refine' qcL LC hcd (by assumption) hr _ _ _)|((with_reducible show QE _ _ _ _ (Dv _ _));refine' Vc _ (hr.in1.deeper _) _ _)|((with_reducible show QE _ _ _ _ (KI _ _ _));refine' qbA wMp LC hcd hr B.min _ (λ_ _ _ _=>_))|((with_reducible show QE _ _ _ _ (B6 _ _));first|((with_reducible show QE _ _ _ _ (B6 OB _));refine' K8 _ (MW _ rfl) So B.all L2.bt_all _)|((with_reducible show QE _ _ _ _ (B6 JS _));refine' K8 _ (MV _ rfl) Sn B.any L2.bt_any _)|((with_reducible show QE _ _ _ _ (B6 JR _));refine' K8 _ ((MP _ rfl).or (Kj _ rfl)) Sk B.sum L2.bt_sum _)|((with_reducible show QE _ _ _ _ (B6 FT _));refine' K8 _ (MR _ rfl) Sl B.min L2.bt_min _)|((with_reducible show QE _ _ _ _ (B6 Gh _));refine' K8 _ ((MU _ rfl).or (Kk _ rfl)) Sm B.max L2.bt_max _)|((with_reducible show QE _ _ _ _ (B6 B8 _));refine' fH _ (Iy _) Ni B.tuple L2.bt_tuple _))|((with_reducible show QE _ _ _ _ (mCB _ _));first|((with_reducible show QE _ _ _ _ (mCB (f1 _ OB) _));refine' Eh _ (MW _ rfl) (HY So) B.all L2.bt_all _)|((with_reducible show QE _ _ _ _ (mCB (f1 _ JS) _));refine' Eh _ (MV _ rfl) (HY Sn) B.any L2.bt_any _)|((with_reducible show QE _ _ _ _ (mCB (f1 _ JR) _));refine' Eh _ ((MP _ rfl).or (Kj _ rfl)) (HY Sk) B.sum L2.bt_sum _)|((with_reducible show QE _ _ _ _ (mCB (f1 _ B4) _));refine' Eh _ (UB _) (HY bA) B.len L2.bt_len _)|((with_reducible show QE _ _ _ _ (mCB (f1 _ FT) _));refine' Eh _ (MR _ rfl) (HY Sl) B.min L2.bt_min _)|((with_reducible show QE _ _ _ _ (mCB (f1 _ Gh) _));refine' Eh _ ((MU _ rfl).or (Kk _ rfl)) (HY Sm) B.max L2.bt_max _)|((with_reducible show QE _ _ _ _ (mCB (f1 _ KM) _));refine' Eh _ (Rz _ rfl) (HY YN) B.any L2.bt_any _)|((with_reducible show QE _ _ _ _ (mCB DP _));refine' Eh _ (U9 rfl) YQ B.max L2.bt_max _)|((with_reducible show QE _ _ _ _ (mCB Gp _));refine' Eh _ (U8 rfl) YO B.min L2.bt_min _)|((with_reducible show QE _ _ _ _ (mCB (f1 _ B8) _));refine' XQ _ (Iy _) (HY Ni) B.tuple L2.bt_tuple _)|((with_reducible show QE _ _ _ _ (mCB ON _));refine' XQ _ UC bB B.int L2.bt_int _))|refine' Z4 _ B.tuple B.range _|((with_reducible show QE _ _ _ _ (Hn _ _));refine' cL _ _ _)|((with_reducible show QE _ _ _ _ (DF _ _ _ _ _));first|((with_reducible show QE _ _ _ _ (DF gLe gLt _ _ _));refine' qe_chain Qz Qm Qy Ql _ _ _))|refine' VZ _ _ _ _|((with_reducible show QE _ _ _ _ (mMt _ _ _));first|((with_reducible show QE _ _ _ _ (mMt AX _ _));refine' Mw _ PySem.F.slot_list_append PySem.F.type_list_append M4 Si _ _)|((with_reducible show QE _ _ _ _ (mMt Hz _ _));refine' cK _ PySem.F.slot_list_pop PySem.F.type_list_pop dQ au _)|((with_reducible show QE _ _ _ _ (mMt FU _ _));refine' Mw _ PySem.F.slot_list_pop PySem.F.type_list_pop Vz V7 _ _)|((with_reducible show QE _ _ _ _ (mMt F0 _ _));refine' Mw _ PySem.F.slot_list_insert PySem.F.type_list_insert TR Sg _ _)|((with_reducible show QE _ _ _ _ (mMt F4 _ _));refine' Mw _ PySem.F.slot_list_index PySem.F.type_list_index TU Sh _ _))|refine' qdA _ (λ_ _ _=>_) (λ_ _ _=>_) (λ_ _ _=>_) (λ_ _ _=>_)|((with_reducible show QE _ _ _ _ (Dh _));refine' T3 _ B.len B.set _)|((with_reducible show QE _ _ _ _ (EY _ _));first|((with_reducible show QE _ _ _ _ (EY .int _));refine' Nq _ .int B.isinstance B.int _)|((with_reducible show QE _ _ _ _ (EY .bool _));refine' Nq _ .bool B.isinstance B.bool _)|((with_reducible show QE _ _ _ _ (EY .tuple _));refine' Nq _ .tuple B.isinstance B.tuple _))|((with_reducible show QE _ _ _ _ (Gf _ _));refine' cN _ _ _)|((with_reducible show QE _ _ _ _ (IS _));refine' cG _ _)|refine' cF _ _)
  |refine' Z6 _ _ _|exact cO _
  |((with_reducible show QT _ _ _ _ _);first|((with_reducible show QT _ _ _ _ (AB (mOp _ _ _)));first|((with_reducible show QT _ _ _ _ (AB (mOp gLt _ _)));refine' EL _ Qy Ql _ _)|((with_reducible show QT _ _ _ _ (AB (mOp gLe _ _)));refine' EL _ Qz Qm _ _)|((with_reducible show QT _ _ _ _ (AB (mOp gGt _ _)));refine' EL _ XV XD _ _)|((with_reducible show QT _ _ _ _ (AB (mOp gGe _ _)));refine' EL _ fR fD _ _)|((with_reducible show QT _ _ _ _ (AB (mOp gEq _ _)));refine' EL _ ((XW).or (IN _ hr.units)) (GA Sy Sz) _ _)|((with_reducible show QT _ _ _ _ (AB (mOp gNe _ _)));refine' EL _ ((XU).or (LF _ hr.units)) (GA Sv Sw) _ _)|((with_reducible show QT _ _ _ _ (AB (mOp (gIn false) _ _)));refine' EL _ (Nx _) Qn _ _)|((with_reducible show QT _ _ _ _ (AB (mOp (gIn true) _ _)));refine' EL _ (TF _) Qn _ _)|((with_reducible show QT _ _ _ _ (AB (mOp (Hv false) _ _)));refine' bi _ (Rb hr) _ _))|refine' bg _ _|((with_reducible show QT _ _ _ _ (C9 _));refine' VP _ _)|((with_reducible show QT _ _ _ _ (DB _ _));refine' QW.toT _)|((with_reducible show QT _ _ _ _ (mOr _ _));refine' QW.toT _)|((with_reducible show QT _ _ _ _ (AB (FP _ _)));refine' bh _ _)|((with_reducible show QT _ _ _ _ (AB (Ci _ _ _)));first|refine' Pa _ (dH _ hr.units) _ _|refine' Pa _ (TH _ hr.units) _ _)|((with_reducible show QT _ _ _ _ (AB (Em _ _ _)));refine' Yl _ (TH _ hr.units) _ _)|((with_reducible show QT _ _ _ _ (AB (LJ _ _ _)));refine' Yk _ (Nx _) _ _)|((with_reducible show QT _ _ _ _ (AB (DF _ _ _ _ _)));first|((with_reducible show QT _ _ _ _ (AB (DF gLe gLt _ _ _)));refine' VQ Qz Qm Qy Ql _ _ _)))
  |refine' Yj _ _|refine' bc _ _|refine' bf _ _ _|refine' fE _ _ _
  |((with_reducible show QN _ _ _ _ _);first|((with_reducible show QN _ _ _ _ (EM _ _ _));refine' bj LC hcd hr B.sorted _ (λ_ _ _ _=>_))|refine' bx _ _|((with_reducible show QN _ _ _ _ (Ab _ _ _ _ _ _));refine' qnA _ (λ_ _ _=>_) (λ_ _ _=>_) (λ_ _ _=>_))|((with_reducible show QN _ _ _ _ (Hj _ _));refine' bw _ _ _)|((with_reducible show QN _ _ _ _ (Ge _ _));refine' bz _ _ _)|((with_reducible show QN _ _ _ _ (LI _ _ _));refine' bv _ _ _ _)|((with_reducible show QN _ _ _ _ (DZ _));refine' Qt _ B.sorted _)|((with_reducible show QN _ _ _ _ (Bo _));first|(refine' Qs _ B.sorted _;rotate_left;refine' T2 _ _)|refine' Qu _ B.sorted _)|((with_reducible show QN _ _ _ _ (Gb _));refine' VW _ B.list B.range _)|((with_reducible show QN _ _ _ _ (Hm _));refine' VX _ B.list _)|((with_reducible show QN _ _ _ _ (IT _));refine' Yy _ B.list _))
  |((with_reducible show QI _ _ _ _ _ _);first|((with_reducible show QI _ _ _ _ _ (Cu _));refine' Z0 _ B.range _)|((with_reducible show QI _ _ _ _ _ (Aw _));refine' c5 _ _)|((with_reducible show QI _ _ _ _ _ (Bs _));refine' Z1 _ _)|((with_reducible show QI _ _ _ _ _ (EX _));refine' c8 _ _)|((with_reducible show QI _ _ _ _ _ (FO _));refine' c7 _ _))
  |refine' VS _ _
  |((with_reducible show QR _ _ _ _ _ _);first|((with_reducible show QR _ _ _ _ _ (EX _));refine' bu _ _)|((with_reducible show QR _ _ _ _ _ (Bs _));refine' Yv _ _)|((with_reducible show QR _ _ _ _ _ (Aw _));refine' T2 _ _))
  |exact qgA
  |refine' c9 _ rfl _
  |exact Z2 _|refine' VY _ _ _
  |exact cC _|refine' cB _ _
  |exact Yx _|refine' Yw _ _
  |((with_reducible show QSs _ _ _ _ _);first|((with_reducible show QSs _ _ _ _ (A6 _ _));refine' VR _ _ _)|((with_reducible show QSs _ _ _ _ (Hi _));refine' T1 _ _)|(first|exact Yn _|refine' Ym _ _))
  |((with_reducible show QS _ _ _ _ _);first|((with_reducible show QS _ _ _ _ (AE _ (AU (Ab _ _ _ _ _ _))));first|refine' gP _ (λ_ _ _=>_) (λ_ _ _=>_) (λ_ _ _=>_)|refine' qsA _)|((with_reducible show QS _ _ _ _ (AE _ _));refine' qsA _)|refine' fF _ _ _ _|refine' bp _ _|refine' bq _ rfl _ _ _|refine' Ys _ _|((with_reducible show QS _ _ _ _ (IU _ _ _));refine' Yt _ (Rb hr) _ _ _)|((with_reducible show QS _ _ _ _ (Ch _ _ _));refine' Yq _ _ _ _)|refine' br _ _ _|refine' VT _ _ _|exact Yp _|((with_reducible show QS _ _ _ _ GI);exact VU _)|((with_reducible show QS _ _ _ _ (Fp _ _));refine' Yu (GE 108) rfl (by first|exact Or.inl rfl|exact Or.inr rfl) _)|((with_reducible show QS _ _ _ _ (Gc _ _ _ _));refine' Yr _ _ _ _ dj))))
open Bd
def ak{n:Nat}(h:n<=8):GW (n:Int):=CM 68 68
def GQ{neg:Bool}{QE:172}(h:WE ma ls hd λd x=>∃ns:List Int,pyD x d=some (.list 154)/\QE (.im (.bl (if neg then !decide (ns=[])else decide (ns=[])))) x):WE (Ci neg ma (Af A4)) ls hd QE:=by
 obtain⟨d,x,e,ns,e2,q⟩:=h;refine⟨_,x,?_,q⟩;unfold Ci;rw[e];simp[e2,I.pys,Q3]
def UI{QE:172}(q:QE (.im (.int 1000000000000000000)) hd):WP (Rh (.im (.int 10)) (.im (.int 18)) hd) QE:=⟨_,_,by simp[po1],q⟩
local macro_rules | `(tactic| nofun) => do `(tactic| repeat (first | (with_reducible refine A5 ?_; try dsimp only [set_cons_zero, set_cons_succ, j3, jr, jM, jP, List.replicate, Nat.reduceSub, Int.reduceToNat]) | (with_reducible first $[| $(← #["GS","AA","AK","Ap","BP","Az","BA","Cd","CL"].mapM fun i=>`(Lean.Parser.Tactic.tacticSeq|refine $(Lean.mkIdent i.toName) ?_))]* | refine A2 (d := _) rfl ?_ $[| $(← #["AS","A9","BY","Al","Bj","Jn","BE","CT","Br","AR","F8","F9","Dr","BF","A7","A3","BG","Ah","Fu","Bv","J7","Fv","Cl","EI","Fd","Ff","Fg","Jm","Ck","FA","EK","HL","Ew","G6"].mapM fun i=>`(Lean.Parser.Tactic.tacticSeq|refine $(Lean.mkIdent i.toName) ?_))]* | refine ⟨_, rfl, ?_⟩) | refine AF rfl (Cg _ _) ?_ | refine AF rfl (DD _ _ _) ?_ | refine AF rfl (Ef _ _ _ _) ?_ | refine ⟨_, _, _, _, rfl, rfl, rfl, rfl, ?_⟩ | refine ⟨⟨_, rfl⟩, ?_⟩ | refine ⟨DH, ?_⟩ | refine ⟨Cc, ?_⟩ | refine ⟨KU, ?_⟩ | refine ⟨KS, ?_⟩ | refine ⟨DI, ?_⟩ | refine ⟨Cw, ?_⟩ | (with_reducible first | refine GQ ?_)))
def T(k:Nat)(a b:MO):Prop:=∃(cs:88) (nx lf:Int),0<=nx/\nx+k<=1000000000/\a=.lst (cs.map λi=>.im 135)/\b=.lst [.mu 0,.im (.int nx),.im (.int lf)]
def dO(k:Nat)(cs:88)(nx lf many:Int)(n0:0<=nx)(n1:nx+(k+1)<=1000000000)(h0:0<many)(h1:many<1073741824):WF Aq [.mu 1,.im (.int many)] [.lst (cs.map λi=>.im 135),.lst [.mu 0,.im (.int nx),.im (.int lf)]] λd x=>∃r a' b',0<=r/\r<many/\d=.im (.int r)/\x=[a',b']/\T k a' b':=by
 have hm:Ej many:=h0;have hv:N2 many:=⟨h0,h1⟩
 unfold Aq;refine Au rfl ?_
 nofun
 refine⟨λhc=>?_,λhc=>?_⟩
 .nofun
  refine EJ hm ?_
  nofun
  refine Kt hv ?_
  nofun
  exact⟨_,_,_,(Fo many h0).1,(Fo many h0).2,rfl,rfl,cs,nx,lf/many,n0,by omega,rfl,rfl⟩
 .nofun
  refine WP.mono (Q:=λd x=>x=[.lst (cs.map λi=>.im 135),.lst [.mu 0,.im (.int (nx+1)),.im (.int lf)]]/\∃cell,d=.im (.int cell)) (N5 ?_) ?_
  .nofun
   refine⟨cs,by simp[pyD,Ca,Cr],_,rfl,λhb=>?_,λhb=>?_⟩
   .nofun
    refine BK rfl rfl ?_;have hc:cs≠[]:=by simpa using hb
    have hl:=GK hc;obtain⟨c,e⟩:=gE hc nx;refine EJ (show Ej _ by unfold Ej;simp;omega) ?_;refine AF rfl (by simpa using e) ?_;exact⟨rfl,c,rfl⟩
   .nofun
    exact⟨rfl,_,rfl⟩
  .rintro d x ⟨rfl,cell,rfl⟩;have fin:∀ls,ls=[some (.mu 1),some (.im (.int many)),none,some (.im (.int nx)),some (.im (.int cell)),none]->WS (A6 (AE 5 (mOp DC (mOp Bx (mOp B0 (mOp B0 (mOp B0 (mOp DC (A0 4) (mC (.int 1000003))) (mOp Bx (mOp Bx (mC (.int 37)) 167) 167)) (mOp Bx (mC (.int 13)) 167)) (mC (.int 5))) (mC (.int 48271))) (mC (.int 999983))))
    (AN (mOp DC (mOp Go (mOp DC (mOp Bx (mOp DC (mOp B0 (mOp B0 (mOp Bx (A0 5) (A0 5)) (mOp Bx (mC (.int 7919)) 167)) (mC (.int 11))) (mC (.int 2097143))) (mC (.int 69621))) (mC (.int 2147483629))) (mC (.int 7))) 131))) ls [.lst (cs.map λi=>.im (.int i)),.lst [.mu 0,.im (.int (nx+1)),.im (.int lf)]]
    (λf x=>match f with
     |.rt d=>∃r a' b',0<=r/\r<many/\d=.im (.int r)/\x=[a',b']/\T k a' b'
     |.nx _=>∃r a' b',0<=r/\r<many/\D.im .non=.im (.int r)/\x=[a',b']/\T k a' b'
     | _=>False):=by
    rintro ls rfl
    nofun
    refine EJ (by unfold Ej;decide) ?_
    nofun
    refine FB (Dg 95 95) ?_
    nofun
    refine FB (IP 68 68) ?_
    nofun
    refine FB (Dg 95 95) ?_
    nofun
    refine FB (IP 95 95) ?_
    nofun
    refine EJ (by unfold Ej;decide) ?_
    nofun
    generalize hx:(((cell%1000003+37*nx*nx+13*nx+5)*48271)%999983:Int)=x;have b1:=Fo (x:=(cell%1000003+37*nx*nx+13*nx+5)*48271) 999983 95;rw[hx]at b1;refine FB (IP 68 68) ?_
    nofun
    refine FB (Dg 95 95) ?_
    nofun
    refine EJ (by unfold Ej;decide) ?_
    nofun
    refine FB (IP 95 95) ?_
    nofun
    refine EJ (by unfold Ej;decide) ?_
    nofun
    refine Kt (by unfold N2;decide) ?_
    nofun
    refine EJ hm ?_;exact⟨_,_,_,(Fo many h0).1,(Fo many h0).2,rfl,rfl,cs,nx+1,lf,by omega,by omega,rfl,rfl⟩
   nofun
   refine UI ?_
   nofun
   split
   .nofun
    refine BK rfl rfl ?_
    nofun
    refine⟨λhb=>?_,λhb=>?_⟩
    .nofun
     refine Kt hv ?_
     nofun
     refine EJ hm ?_;exact⟨_,_,_,(Fo many h0).1,(Fo many h0).2,rfl,rfl,cs,nx+1,cell/many,by omega,by omega,rfl,rfl⟩
    .refine Az (A5 ?_);exact fin _ rfl
   .refine⟨λhb=>by simp at hb,λhb=>Az (A5 (fin _ rfl))⟩
def tap:Tap T Aq where
 cl:=by
  rintro k a b ⟨cs,nx,lf,_,_,rfl,rfl⟩;simp[clO,Cy]
 le:=by
  rintro j k a b ⟨cs,nx,lf,h1,h2,e1,e2⟩ h;exact⟨cs,nx,lf,h1,by omega,e1,e2⟩
 pick:=by
  rintro k a b many ⟨cs,nx,lf,n0,n1,rfl,rfl⟩ h0 h1;obtain⟨d,x,e,r,a',b',p1,p2,rfl,rfl,hT⟩:=dO k cs nx lf many n0 (by push_cast at n1;omega) h0 h1;exact⟨r,a',b',p1,p2,e,hT⟩
def dq(ns:88):WF Kr [.ro ns] [] λd x=>d=.mu 1/\∃a b,T 100000 a b/\x=[a,b]:=by
 obtain⟨cs,e⟩:=Wb ns none (some 63);exact⟨.mu 1,_,by simp[Kr,mkF,e],rfl,_,_,⟨cs,0,0,by decide,by decide,rfl,rfl⟩,rfl⟩
def Lk(bot:Int):List 128->Prop
 |[]=>True
 |(_,h)::r=>bot<=h/\Lk h r
def Asc:List 128->Prop
 |[]=>True
 |(b,_)::r=>(∀q∈r,b<q.1)/\Asc r
theorem Lu(t:Int):∀{rows:185} {bot:Int},Lk bot rows->Asc rows->Ct (bot::((rows.filter λq=>decide (q.1<=t)).map (·.2)))=BQ t rows bot
 |[],bot,_,_=>by simp[BQ,Ct]
 |(b,h)::r,bot,H,A=>by
   rw[BQ];by_cases hb:t<b
   .rw[il hb];have:((b,h)::r).filter (λq=>decide (q.1<=t))=[]:=by
     refine filter_eq_nil_iff.mpr λq hq=>?_;rcases mem_cons.mp hq with rfl|hq
     .simp;omega
     .have:=A.1 q hq;simp;omega
    rw[this];rfl
   .rw[ip hb,jY,il 82,j3];have ih:=Lu t H.2 A.2;rw[<- ih];show Ct (bot::h::(r.filter λq=>decide (q.1<=t)).map (·.2))=_;have h1:=BH (xs:=bot::h::(r.filter λq=>decide (q.1<=t)).map (·.2)) 71;have h2:=BH (xs:=h::(r.filter λq=>decide (q.1<=t)).map (·.2)) 71;have hbot:=H.1;have a1:=h1.2 _ (iw _ h2.1);rcases mem_cons.mp h1.1 with e|e
    .have:=h2.2 h 71;omega
    .have:=h2.2 _ e;omega
def Fb:Cost->Prop
 |.tardy _ w=>0<=w/\w<=1000000
 |.miss _ w=>0<=w/\w<=1000000
 |.ends w=>0<=w/\w<=1000000
 |.steps rows=>rows.length<=5/\Lk 0 rows/\Asc rows
 |_=>True
def Up2(rows:185):Prop:=rows.Pairwise λp q=>p.1<q.1/\p.2<=q.2
theorem P7:∀{rows:185} {bot:Int},Up2 rows->(∀q∈rows,bot<=q.2)->Lk bot rows/\Asc rows
 |[],_,_,_=>⟨trivial,trivial⟩
 |(b,h)::r,bot,U,hb=>by
   unfold Up2 at U;rw[ky]at U;have ih:=P7 (rows:=r) (bot:=h) U.2 λq hq=>(U.1 q hq).2;exact⟨⟨hb (b,h) 71,ih.1⟩,λq hq=>(U.1 q hq).1,ih.2⟩
def Xw{b h:Int}(U:Up2 rows)(hq:∀q∈rows,q.1<b/\q.2<=h):Up2 (rows++[(b,h)]):=by
 unfold Up2 at *;rw[List.pairwise_append];refine⟨U,by simp,λp hp q hq'=>?_⟩;rw[jd]at hq';subst hq';exact hq p hp
def DK(m:Int):Cost->Prop
 |.late d=>-m<=d/\d<=m
 |.tardy d w=>(-m<=d/\d<=m)/\0<=w/\w<=9
 |.miss d w=>(-m<=d/\d<=m)/\0<=w/\w<=9
 |.ends w=>0<=w/\w<=9
 |.steps rows=>∀q∈rows,(-m<=q.1/\q.1<=m)/\0<=q.2/\q.2<=99
noncomputable abbrev Wo(xs:190):MO:=.lst (xs.map λx=>D.im (.str x))
noncomputable abbrev X5:List Str:=["late","tardy","miss","ends","steps"]
def GL(x:Str):Prop:=x="late"∨x="tardy"∨x="miss"∨x="ends"∨x="steps"
def atW{xs:190}{r:Int}(h0:0<=r)(h1:r<(xs.length:Int))(hx:∀x∈xs,GL x):∃x:Str,GL x/\x∈xs/\atI (xs.map λx=>D.im (.str x)) r=some (.im (.str x)):=by
 obtain⟨j,rfl⟩:∃j:Nat,r=j:=⟨r.toNat,by omega⟩
 have hj:j<xs.length:=by omega
 exact⟨xs[j],hx _ (List.getElem_mem hj),List.getElem_mem hj,IH rfl (by simp[hj])⟩
def at3{r:Int}(h0:0<=r)(h1:r<3)(x y z:D):∃d,(d=x∨d=y∨d=z)/\atI [x,y,z] r=some d:=by
 have:r=0∨r=1∨r=2:=by omega
 rcases this with rfl|rfl|rfl
 .exact⟨x,.inl rfl,BD (j:=0) rfl⟩
 .exact⟨y,.inr (.inl rfl),BD (j:=1) rfl⟩
 .exact⟨z,.inr (.inr rfl),BD (j:=2) rfl⟩
def at2{r:Int}(h0:0<=r)(h1:r<2)(x y:D):∃d,(d=x∨d=y)/\atI [x,y] r=some d:=by
 have:r=0∨r=1:=by omega
 rcases this with rfl|rfl
 .exact⟨x,.inl rfl,BD (j:=0) rfl⟩
 .exact⟨y,.inr rfl,BD (j:=1) rfl⟩
def at4{r:Int}(h0:0<=r)(h1:r<4)(x y z w:D):∃d,(d=x∨d=y∨d=z∨d=w)/\atI [x,y,z,w] r=some d:=by
 have:r=0∨r=1∨r=2∨r=3:=by omega
 rcases this with rfl|rfl|rfl|rfl
 .exact⟨x,.inl rfl,BD (j:=0) rfl⟩
 .exact⟨y,.inr (.inl rfl),BD (j:=1) rfl⟩
 .exact⟨z,.inr (.inr (.inl rfl)),BD (j:=2) rfl⟩
 .exact⟨w,.inr (.inr (.inr rfl)),BD (j:=3) rfl⟩
def okC(xs:190)(i:I):Prop:=∃c,i=BC c/\Fb c/\DK 1000 c/\(xs=[("late":Str)]->∃d,c=.late d)
inductive I_cost_w(k:Nat)(xs:190)(x:Str)(due r2 r3 r4 r6:Int)(r:137)(ls:Ls)(hd:Hd):Prop
 |mk (rows:List (Int×Int)) (s h:Int) (a b:MO) (z:Option D) (h0:ls=[some (.mu 1),some (.mu 2),some (.im (.str x)),some (.mu 3),some (.im (.int due)),some (.im (.int r6)),some (.mu 4),some (.im (.int s)),some (.im (.int h)),z]) (h1:hd=[a,b,Wo xs,.lst [.im (.int r2),.im (.int r3),.im (.int (r4-99))],.lst (rows.map λr=>.im (.tup [.int r.1,.int r.2]))]) (h2:T (k+2*r.length) a b) (h3:(Up2 rows/\∀r∈rows,(-1000<=r.1/\r.1<=s)/\0<=r.2/\r.2<=h)) (h4:rows.length+r.length<=5) (h5:(-100<=s/\s+60*r.length<=1000)) (h6:0<=h) (h7:h<=99):I_cost_w k xs x due r2 r3 r4 r6 r ls hd
def eI(hX0:xs≠[])(h5:96<=5)(hX:∀x∈xs,GL x)(k:Nat)(a b:MO)(hT:T (k+30) a b):WF Ks [.mu 1,.mu 2] [a,b,Wo xs] λd x=>∃i a' b' g,d=.im i/\okC xs i/\T k a' b'/\x=a'::b'::([Wo xs]++g):=by
 unfold Ks;refine Au rfl ?_;have lx:0<xs.length:=List.length_pos_iff.mpr hX0
 nofun
 refine tap.draw hT rfl 82 82 λr1 a b hT pr1 qr1=>?_;rw[ja]at qr1;obtain⟨x,hx,hxm,ex⟩:=atW pr1 qr1 hX;have hxl:xs=[("late":Str)]->x="late":=λe=>by rw[e]at hxm;simpa using hxm
 refine AF rfl ex ?_
 nofun
 refine tap.draw hT rfl (by first|decide|omega) (by first|decide|omega) λr2 a b hT pr2 qr2=>?_
 nofun
 refine tap.draw hT rfl (by first|decide|omega) (by first|decide|omega) λr3 a b hT pr3 qr3=>?_
 nofun
 refine tap.draw hT rfl (by first|decide|omega) (by first|decide|omega) λr4 a b hT pr4 qr4=>?_
 nofun
 refine tap.draw hT rfl (by first|decide|omega) (by first|decide|omega) λr5 a b hT pr5 qr5=>?_;obtain⟨d,hd,ed⟩:=at3 pr5 qr5 (.im (.int r2)) (.im (.int r3)) (.im (.int (r4-99)));refine AF rfl ed ?_;obtain⟨due,rfl,hdue'⟩:∃due,d=.im (.int due)/\(-1000<=due/\due<=1000):=by
  rcases hd with rfl|rfl|rfl
  .exact⟨_,rfl,by omega,by omega⟩
  .exact⟨_,rfl,by omega,by omega⟩
  .exact⟨_,rfl,by omega,by omega⟩
 have hdue:-1000000<=due/\due<=1000000:=by omega
 nofun
 refine tap.draw hT rfl (by first|decide|omega) (by first|decide|omega) λr6 a b hT pr6 qr6=>?_;have w6:(0<=r6/\r6<=1000000)/\(0<=r6/\r6<=9)/\(-1000000<=r6/\r6<=1000000):=by omega
 clear pr1 qr1 pr2 qr2 pr3 qr3 pr4 qr4 pr5 qr5 pr6 qr6
 nofun
 refine⟨λhA=>?_,λhA=>?_⟩
 .nofun
  exact⟨_,a,b,_,Ex _ _,⟨.late due,by rw[jA hA];rfl,trivial,hdue',λ_=>⟨_,rfl⟩⟩,tap.le hT 68,rfl⟩
 nofun
 refine⟨λhB=>?_,λhB=>?_⟩
 .nofun
  exact⟨_,a,b,_,Ex _ _,⟨.ends r6,by rw[jA hB];rfl,w6.1,w6.2.1,λe=>absurd (hxl e) (jT hA)⟩,tap.le hT 68,rfl⟩
 nofun
 refine⟨λhC=>?_,λhC=>?_⟩
 .nofun
  have hcs:x="tardy"∨x="miss":=by
   have nA:=jT hA;have nB:=jT hB;have nC:¬ x="steps":=by simpa using hC
   rcases hx with h|h|h|h|h
   .exact absurd h nA
   .exact .inl h
   .exact .inr h
   .exact absurd h nB
   .exact absurd h nC
  refine⟨_,a,b,_,GG _ _ _,?_,tap.le hT 68,rfl⟩;rcases hcs with e|e
  .exact⟨.tardy due r6,by rw[e];rfl,w6.1,⟨hdue',w6.2.1⟩,λe=>absurd (hxl e) (jT hA)⟩
  .exact⟨.miss due r6,by rw[e];rfl,w6.1,⟨hdue',w6.2.1⟩,λe=>absurd (hxl e) (jT hA)⟩
 have xst:x="steps":=by simpa using hC
 nofun
 refine tap.draw hT rfl (by first|decide|omega) (by first|decide|omega) λr7 a b hT pr7 qr7=>?_
 nofun
 refine tap.draw hT rfl (by first|decide|omega) (by first|decide|omega) λr8 a b hT pr8 qr8=>?_
 nofun
 refine⟨CM 68 68,?_⟩;refine BX (I_cost_w k xs x due r2 r3 r4 r6) ?_ ?_ ?_
 .exact⟨[],_,_,a,b,none,rfl,rfl,tap.le hT 82,⟨List.Pairwise.nil,by simp⟩,by simp;omega,⟨by omega,by simp;omega⟩,by decide,by decide⟩
 .rintro d r ls hd ⟨rows,s,h,a,b,z,rfl,rfl,hT,ho,hl,hs,h0,h9⟩;simp only[ji]at hT hl hs;refine⟨_,rfl,?_⟩;dsimp only[set_cons_zero,set_cons_succ];have hT:T (k+2*r.length+2) a b:=hT
  nofun
  refine tap.draw hT rfl (by first|decide|omega) (by first|decide|omega) λr9 a b hT pr9 qr9=>?_
  nofun
  refine tap.draw hT rfl (by first|decide|omega) (by first|decide|omega) λr10 a b hT pr10 qr10=>?_
  nofun
  refine C0 rfl (Ax 82) ?_;refine⟨AJ _,rows++[(s+1+r9,min 99 (h+r10))],_,_,a,b,_,rfl,by simp,hT,?_,by simp;omega,⟨by omega,by omega⟩,by omega,by omega⟩;refine⟨Xw ho.1 λq hq=>?_,λq hq=>?_⟩
  .have:=ho.2 q hq;omega
  rcases mem_append.mp hq with hq|hq
  .have:=ho.2 q hq;omega
  .simp at hq;subst hq;exact⟨⟨by show -1000<=s+1+r9;omega,by show s+1+r9<=s+1+r9;omega⟩,by show 0<=min 99 (h+r10);omega,by show min 99 (h+r10)<=min 99 (h+r10);omega⟩
 .rintro ls hd ⟨rows,s,h,a,b,z,rfl,rfl,hT,ho,hl,hs,h0,h9⟩
  nofun
  refine BK rfl rfl ?_
  nofun
  have e:(rows.map λr:Int×Int=>D.im (.tup [.int r.1,.int r.2]))=(rows.map λr:Int×Int=>I.tup [.int r.1,.int r.2]).map D.im:=by rw[j5];rfl
  have hl5:rows.length<=5:=by simp at hl;omega
  have hs':s<=1000:=by simp at hs;omega
  obtain⟨u1,u2⟩:=P7 (bot:=0) ho.1 λq hq=>(ho.2 q hq).2.1;refine⟨_,a,b,_,by rw[e,Bc];exact Ex _ _,⟨.steps rows,by rw[xst];rfl,⟨hl5,u1,u2⟩,λq hq=>?_,λe=>absurd (hxl e) (jT hA)⟩,tap.le hT 71,rfl⟩;have:=ho.2 q hq;exact⟨⟨by omega,by omega⟩,by omega,by omega⟩
structure Wg where
 len:Int
 com:Int
 co:I
noncomputable def wgI(w:Wg):I:=.tup [.int w.len,.int w.com,w.co]
def Wg.ok(xs:190)(w:Wg):Prop:=(1<=w.len/\w.len<=20)/\(0<=w.com/\w.com<=60)/\okC xs w.co
def gT(xs:190)(ws:174):Prop:=1<=66/\66<=8/\∀w∈ws,Wg.ok xs w
noncomputable abbrev AQ(ws:174):I:=.tup (ws.map wgI)
noncomputable abbrev V4:MO:=.lst [.im (.int 0),.im (.int 0),.im (.int 1),.im (.int 2),.im (.int 3)]
def BI(ws:174):(ws.map λw=>D.im (wgI w))=(ws.map wgI).map D.im:=by rw[j5];rfl
def Lc(n:Nat)(ds:137):clO n (.lst ds)=As n ds:=rfl
def Ke{α:Type}(n:Nat)(f:α->I)(l:List α):As n (l.map λx=>D.im (f x))=true:=by induction l<;>simp_all
inductive I_works_w(k:Nat)(xs:190)(r1 lo way r4:Int)(r:137)(ls:Ls)(hd:Hd):Prop
 |mk (ws:List Wg) (a b:MO) (z y:Option D) (h0:ls=[some (.mu 1),some (.im (.int 8)),some (.mu 2),some (.mu 3),some (.im (.int (1+r1))),some (.im (.int lo)),some (.im (.int way)),some (.im (.int r4)),some (.mu 4),z,y]) (h1:hd=[a,b,Wo xs,V4,.lst (ws.map λw=>.im (wgI w))]) (h2:T (k+34*r.length) a b) (h3:(∀w∈ws,Wg.ok xs w)) (h4:66+r.length=(1+r1).toNat):I_works_w k xs r1 lo way r4 r ls hd
def Xo(hX0:xs≠[])(h5:96<=5)(hX:∀x∈xs,GL x)(k:Nat)(a b:MO)(hT:T (k+300) a b):WF Il [.mu 1,.im (.int 8),.mu 2,.mu 3] [a,b,Wo xs,V4] λd x=>∃i a' b' g,d=.im i/\(∃ws,i=AQ ws/\gT xs ws)/\T k a' b'/\x=a'::b'::([Wo xs,V4]++g):=by
 unfold Il;refine Au rfl ?_
 nofun
 refine tap.draw hT rfl (by first|decide|omega) (by first|decide|omega) λr1 a b hT pr1 qr1=>?_
 nofun
 refine tap.draw hT rfl (by first|decide|omega) (by first|decide|omega) λr2 a b hT pr2 qr2=>?_
 nofun
 obtain⟨d,hd,ed⟩:=at2 pr2 qr2 (.im (.int 3)) (.im (.int 20));refine⟨_,_,rfl,ed,?_⟩;obtain⟨lo,rfl,hlo⟩:∃lo,d=.im (.int lo)/\3<=lo/\lo<=20:=by
  rcases hd with rfl|rfl
  .exact⟨_,rfl,by omega,by omega⟩
  .exact⟨_,rfl,by omega,by omega⟩
 nofun
 refine tap.draw hT rfl (by first|decide|omega) (by first|decide|omega) λr3 a b hT pr3 qr3=>?_;obtain⟨way,ed,hway⟩:∃way:Int,atI [D.im (.int 0),.im (.int 0),.im (.int 1),.im (.int 2),.im (.int 3)] r3=some (.im (.int way))/\0<=way/\way<4:=by
  have:r3=0∨r3=1∨r3=2∨r3=3∨r3=4:=by simp at qr3;omega
  rcases this with rfl|rfl|rfl|rfl|rfl
  .exact⟨_,BD (j:=0) rfl,by omega,by omega⟩
  .exact⟨_,BD (j:=1) rfl,by omega,by omega⟩
  .exact⟨_,BD (j:=2) rfl,by omega,by omega⟩
  .exact⟨_,BD (j:=3) rfl,by omega,by omega⟩
  .exact⟨_,BD (j:=4) rfl,by omega,by omega⟩
 refine AF rfl ed ?_
 nofun
 refine tap.draw hT rfl (by first|decide|omega) (by first|decide|omega) λr4 a b hT pr4 qr4=>?_
 nofun
 refine⟨CM 68 68,?_⟩;refine BX (I_works_w k xs r1 lo way r4) ?_ ?_ ?_
 .exact⟨[],a,b,none,none,rfl,rfl,tap.le hT 82,71,by simp⟩
 .rintro d r ls hd ⟨ws,a,b,z,y,rfl,rfl,hT,ho,hl⟩;simp only[ji]at hT hl;have hT:T (k+34*r.length+34) a b:=hT;refine⟨_,rfl,?_⟩;dsimp only[set_cons_zero,set_cons_succ];refine UH ?_
  nofun
  refine tap.draw hT rfl (by first|decide|omega) (by first|decide|omega) λr5 a b hT pr5 qr5=>?_
  nofun
  refine tap.draw hT rfl (by first|decide|omega) (by first|decide|omega) λr6 a b hT pr6 qr6=>?_
  nofun
  refine tap.draw hT rfl (by first|decide|omega) (by first|decide|omega) λr7 a b hT pr7 qr7=>?_
  nofun
  refine tap.draw hT rfl (by first|decide|omega) (by first|decide|omega) λr8 a b hT pr8 qr8=>?_
  nofun
  obtain⟨d,hd,ed⟩:=at4 hway.1 hway.2 (.im (.int r4)) (.im (.int r5)) (.im (.int r6)) (.im (.int r7));refine AF rfl ed ?_;obtain⟨com,rfl,hcom⟩:∃com,d=.im (.int com)/\0<=com/\com<=60:=by
   rcases hd with rfl|rfl|rfl|rfl<;>exact⟨_,rfl,by omega,by omega⟩
  nofun
  refine tap.callX (n:=k+34*r.length) (c:=30) hT [Wo xs] (R:=okC xs) rfl rfl rfl (by simp[Lc,Ke]) (eI hX0 h5 hX _) λi a b hT hi=>?_
  nofun
  refine C0 rfl (Ax 82) ?_;have ca:=Je (w:=5) 68 (tap.cl hT).1;have cb:=Je (w:=5) 68 (tap.cl hT).2;refine⟨?_,_,rfl,AJ _,ws++[⟨1+r8,com,i⟩],a,b,_,_,rfl,?_,hT,?_,?_⟩
  .simp[Lc,ca,cb,Ke]
  .simp[wgI]
  .intro w hw;rcases mem_append.mp hw with h|h
   .exact ho w h
   .simp at h;subst h;exact⟨⟨by show 1<=1+r8;omega,by show 1+r8<=20;omega⟩,hcom,hi⟩
  .simp;omega
 .rintro ls hd ⟨ws,a,b,z,y,rfl,rfl,hT,ho,hl⟩
  nofun
  refine BK rfl rfl ?_;simp at hl;refine⟨_,a,b,_,by rw[BI,Bc],⟨ws,rfl,⟨by omega,by omega,ho⟩⟩,tap.le hT 71,rfl⟩
inductive I_wishes_w2(k n m i:Nat)(r1:Int)(seq:73)(r:137)(ls:Ls)(hd:Hd):Prop
 |mk (ps:185) (j:Nat) (a b:MO) (y:Option D) (h0:r=B1 (j:Int) (i-j)) (h1:j<=i) (h2:ls=[some (.mu 1),some (.im (.int (n:Int))),some (.mu 2),some (.mu 3),some (.im (.int r1)),some (.mu 4),some (.im (.int (i:Int))),y]) (h3:hd=[a,b,.lst [],.lst (AG seq),.lst (ps.map AT)]) (h4:T (k+8*m+(8-j)) a b) (h5:126<=7*i+j) (h6:Along seq ps):I_wishes_w2 k n m i r1 seq r ls hd
inductive I_wishes_w(k n:Nat)(r1:Int)(seq:73)(r:137)(ls:Ls)(hd:Hd):Prop
 |mk (ps:185) (i:Nat) (a b:MO) (z y:Option D) (h0:r=B1 (i:Int) (n-i)) (h1:i<=n) (h2:ls=[some (.mu 1),some (.im (.int (n:Int))),some (.mu 2),some (.mu 3),some (.im (.int r1)),some (.mu 4),z,y]) (h3:hd=[a,b,.lst [],.lst (AG seq),.lst (ps.map AT)]) (h4:T (k+8*(n-i)) a b) (h5:126<=7*i) (h6:Along seq ps):I_wishes_w k n r1 seq r ls hd
def UN(k:Nat)(n:Nat)(hn:n<=8)(a b:MO)(hT:T (k+100) a b):WF Gz [.mu 1,.im (.int (n:Int))] [a,b] λd x=>∃i a' b' g,d=.im i/\(∃(seq:73) (ps:185),i=.tup (ps.map Mx)/\seq.Perm (69 n)/\Along seq ps/\126<=16)/\T k a' b'/\x=a'::b'::g:=by
 unfold Gz;refine Au rfl ?_
 nofun
 refine Xu rfl (FK 68 68) ?_
 nofun
 refine GP (λm ls hd=>∃(left seq:73) (a b:MO),ls=[some (.mu 1),some (.im (.int (n:Int))),some (.mu 2),some (.mu 3),none,none,none,none]/\hd=[a,b,.lst (AG left),.lst (AG seq)]/\m=left.length/\T (k+80+m) a b/\(seq++left).Perm (69 n)) (n:=n) ?_ ?_
 .refine⟨69 n,[],a,b,rfl,?_,by simp,tap.le hT 68,by simp⟩;rw[jl,Bg];rfl
 .rintro m ls hd ⟨left,seq,a,b,rfl,rfl,rfl,hT,pm⟩;have sl:seq.length+left.length=n:=by simpa using pm.length_eq
  nofun
  have en:AG left=(left.map λk:Nat=>(k:Int)).map λi=>.im 135:=by simp[AG]
  refine⟨left.map λk:Nat=>(k:Int),?_,?_⟩
  .show((B9 (AG left)).map λis=>PyData.list (I.pys is))=_;rw[en,Ca,je,Cr]
  nofun
  by_cases hl:left=[]
  .subst hl;rw[ip 71];simp only[jq]at pm;have sl:seq.length=n:=by simpa using sl
   simp only[jG]at hT
   nofun
   refine tap.draw hT rfl (by first|decide|omega) (by first|decide|omega) λr1 a b hT pr1 qr1=>?_
   nofun
   refine⟨ak 68,?_⟩;refine BX (I_wishes_w k n r1 seq) ?_ ?_ ?_
   .exact⟨[],0,a,b,none,none,by simp,by omega,rfl,rfl,tap.le hT 68,by simp,(by intro p hp;cases hp)⟩
   .rintro d r ls hd ⟨ps,i,a,b,z,y,er,hi,rfl,rfl,hT,hl,ho⟩;obtain⟨m,hm⟩:∃m,n-i=m+1:=by
     cases q:n-i with
     |zero=>rw[q]at er;cases er
     |succ m=>exact⟨m,rfl⟩
    rw[hm,B1]at er;obtain⟨rfl,rfl⟩:=166 er;rw[hm]at hT;refine⟨_,rfl,?_⟩;dsimp only[set_cons_zero,set_cons_succ]
    nofun
    refine⟨ak 68,?_⟩;refine BX (I_wishes_w2 k n m i r1 seq) ?_ ?_ ?_
    .exact⟨ps,0,a,b,y,by simp,by omega,rfl,rfl,hT,by omega,ho⟩
    .rintro d r ls hd ⟨ps,j,a,b,y,er,hj,rfl,rfl,hT,hl,ho⟩;obtain⟨m2,hm2⟩:∃m2,i-j=m2+1:=by
      cases q:i-j with
      |zero=>rw[q]at er;cases er
      |succ m=>exact⟨m,rfl⟩
     rw[hm2,B1]at er;obtain⟨rfl,rfl⟩:=166 er;have ej:((j:Int)+1)=((j+1:Nat):Int):=by omega
     have em:m2=i-(j+1):=by omega
     have hT:T (k+8*m+(8-(j+1))+1) a b:=tap.le hT 68;refine⟨_,rfl,?_⟩;dsimp only[set_cons_zero,set_cons_succ];refine Ww ?_;refine WP.mono (Q:=λc x=>∃a b,T (k+8*m+(8-(j+1))) a b/\x=[a,b,.lst [],.lst (AG seq),.lst (ps.map AT)]) ?_ ?_
     .have tail:WT (DB (AB (mOp (gIn false) (A0 4) (B5 (A1 124 (A1 188 A4))))) (AB (mOp gEq (A8 2 Aq (A1 77 (A1 (Hn (Af (A1 124 (A1 (mC (.int 4)) (A1 188 A4)))) (A0 4)) A4))) 122))) [some (.mu 1),some (.im (.int (n:Int))),some (.mu 2),some (.mu 3),some (.im (.int r1)),some (.mu 4),some (.im (.int (i:Int))),some (.im (.int (j:Int)))] [a,b,.lst [],.lst (AG seq),.lst (ps.map AT)] (λc x=>∃a b,T (k+8*m+(8-(j+1))) a b/\x=[a,b,.lst [],.lst (AG seq),.lst (ps.map AT)]):=by
       nofun
       refine WP.eq (in_ints (xs:=[1,2]) r1 false 71) ?_
       nofun
       by_cases h12:r1=1∨r1=2
       .rw[il (by simpa using h12)]
        nofun
        have hx:∃x:Int,(0<x/\x<=4)/\atI [D.im (.int 1),.im (.int 4),.im (.int 2)] r1=some (.im (.int x)):=by
         rcases h12 with rfl|rfl
         .exact⟨4,by omega,DD _ _ _⟩
         .exact⟨2,by omega,Ef _ _ _ _⟩
        obtain⟨x,hx1,hx2⟩:=hx;refine tap.draw (many:=x) (rest:=[.lst [],.lst (AG seq),.lst (ps.map AT)]) hT (by simp[hx2]) 68 68 λr a b hT pr qr=>?_
        nofun
        exact⟨a,b,hT,rfl⟩
       .rw[ip (by simpa using h12)];exact⟨a,b,tap.le hT 68,rfl⟩
      nofun
      split
      .nofun
       split
       .exact⟨a,b,tap.le hT 68,rfl⟩
       .exact tail
      .rw[ip Bool.false_ne_true];exact tail
     .rintro c x ⟨a,b,hT,rfl⟩;cases c with
      |false=>
       rw[ip Bool.false_ne_true]
       nofun
       exact⟨AJ _,ps,j+1,a,b,_,by rw[ej,em],by omega,rfl,rfl,hT,by omega,ho⟩
      |true=>
       rw[il rfl];have hj1:j<seq.length:=by omega
       have hi1:i<seq.length:=by omega
       have sj:seq[j]?=some seq[j]:=by simp[hj1]
       have si:seq[i]?=some seq[i]:=by simp[hi1]
       nofun
       refine AF rfl (GF sj) ?_
       nofun
       refine AF rfl (GF si) ?_
       nofun
       refine C0 rfl (Ax 82) ?_;refine⟨AJ _,ps++[((seq[j]:Int),(seq[i]:Int))],j+1,a,b,_,by rw[ej,em],by omega,rfl,by simp[AT],hT,by simp;omega,?_⟩;intro p hp;rcases mem_append.mp hp with hp|hp
       .exact ho p hp
       .simp at hp;exact⟨j,i,_,_,by omega,sj,si,hp⟩
    .rintro ls hd ⟨ps,j,a,b,y,er,hj,rfl,rfl,hT,hl,ho⟩;have:i-j=0:=by
      cases q:i-j with
      |zero=>rfl
      |succ m=>rw[q]at er;cases er
     exact⟨AJ _,ps,i+1,a,b,_,_,by rw[show n-(i+1)=m by omega];rfl,by omega,rfl,rfl,tap.le hT 68,by omega,ho⟩
   .rintro ls hd ⟨ps,i,a,b,z,y,er,hi,rfl,rfl,hT,hl,ho⟩;have pk:=ho.pok pm 68;have c64:126<64/\∀q∈ps,pok q:=⟨by omega,pk⟩
    nofun
    have sub:((Bl ps).take 16).Sublist (Bl ps):=List.take_sublist _ _;have cut:Gv ((Bl ps).map AT) none (some 16)=((Bl ps).map AT).take 16:=Wa ((Bl ps).map AT) 16;have mk:B7 (((Bl ps).map AT).take 16)=.im (.tup (((Bl ps).take 16).map Mx)):=by
     have:((Bl ps).map AT).take 16=(((Bl ps).take 16).map Mx).map D.im:=by rw[<- map_take,j5];rfl
     rw[this,Bc]
    refine WP.eq (z:=((Bl ps).take 16).map AT) (h:=[a,b,.lst [],.lst (AG seq),.lst (ps.map AT),.lst ((Bl ps).map AT)]) ?_ ?_
    .simp;rw[il c64];simp[cut]
    .refine⟨_,rfl,_,a,b,_,?_,⟨seq,(Bl ps).take 16,rfl,pm,λp h=>ho p ((CV ps).mem_iff.mp (sub.subset h)),by simp;omega⟩,tap.le hT 68,rfl⟩;rw[map_take];exact mk
  .rw[il (by simpa using hl)];have h1:0<left.length:=List.length_pos_iff.mpr hl;obtain⟨l,hl2⟩:∃l,left.length=l+1:=⟨left.length-1,by omega⟩
   rw[hl2]at hT
   nofun
   refine tap.draw (many:=(left.length:Int)) (rest:=[.lst (AG left),.lst (AG seq)]) hT (by simp[B4]) 68 68 λr a b hT pr qr=>?_
   nofun
   have hr:r.toNat<left.length:=by omega
   have e1:left[r.toNat]?=some left[r.toNat]:=by simp[hr]
   refine N3 rfl (CM 68 68) (Pq (n:=(AG left).length) pr 82) (by simp[e1];rfl) ?_
   nofun
   refine C0 rfl (Ax 82) ?_;refine⟨l,by omega,left.eraseIdx r.toNat,seq++[left[r.toNat]],a,b,rfl,?_,by rw[List.length_eraseIdx,il hr];omega,hT,(M1 e1).trans pm⟩;have er:(AG left).eraseIdx r.toNat=AG (left.eraseIdx r.toNat):=IA _ _ _;simp[er]
open Hds
noncomputable def AI(p:Nat×Nat):I:=.tup [.int p.1,.int p.2]
def Dk(ns:88):Av (intD ns)=some ns:=by
 induction ns with
 |nil=>rfl
 |cons n r ih=>simp[intD]at ih ⊢
def UP{neg:Bool}{QE:172}(h:WA ml ls hd λds x=>∃ns:List Int,ds=intD ns/\QE (.im (.bl (if neg then !decide (ns=[])else decide (ns=[])))) x):WE (Em neg ml (Af A4)) ls hd QE:=by
 obtain⟨ds,x,e,ns,rfl,q⟩:=h;refine⟨_,x,?_,q⟩;unfold Em;rw[e];simp[Ca,Cr,I.pys,Q3]
def N8{QA:List D->Hd->Prop}(h:WE ma ls hd λd x=>WE mb ls x λe y=>∃i j xs ys,d=.mu i/\e=.mu j/\y[i]?=some 158/\y[j]?=some (.lst ys)/\Bu (96+ys.length)/\QA (xs++ys) y):WA (Ge ma mb) ls hd QA:=by
 obtain⟨d,x,e1,e,y,e2,i,j,xs,ys,rfl,rfl,e3,e4,c,q⟩:=h;exact⟨_,_,by simp only[Ge,e1,bind_some,e2,e3,e4,c,j8],q⟩
noncomputable def Ag(ws:174)(k:Nat):Int:=((ws[k]?).map Wg.com).getD 0
noncomputable def AW(ws:174)(k:Nat):Int:=((ws[k]?).map Wg.len).getD 0
def D2{ws:174}{k:Nat}(hk:k<66):atI (ws.map λw=>D.im (wgI w)) (k:Int)=some (.im (wgI ws[k])):=IH rfl (by simp[hk])
noncomputable abbrev prD(W:98):List D:=W.map λp=>D.im (AI p)
def hg0(H0:Hd)(x:MO)(r:Hd):(H0++x::r)[H0.length]?=some x:=by simp
def hg1(H0:Hd)(x y:MO)(r:Hd):(H0++x::y::r)[H0.length+1]?=some y:=by
 rw[List.getElem?_append_right 68];simp
def hg2(H0:Hd)(x y z:MO)(r:Hd):(H0++x::y::z::r)[H0.length+2]?=some z:=by
 rw[List.getElem?_append_right 68];simp
noncomputable abbrev Cm(W:98)(some_:73):List (Nat×Nat):=W.filter λp=>decide (p.1∈some_)&&decide (p.2∈some_)
def S8(W:98)(some_:73):(W.filterMap λp=>if p.1∈some_/\p.2∈some_ then some (D.im (AI p))else none)=prD (Cm W some_):=by
 induction W with
 |nil=>rfl
 |cons p r ih=>
  rw[jO];by_cases h1:p.1∈some_<;>by_cases h2:p.2∈some_<;>simp[h1,h2,Cm,prD]at ih ⊢<;>exact ih
structure Up(some_:73)(W:98)(rk:183)(b l h:74)(t:Nat)(rest:98)(v:74):Prop where
 lo:∀k∈some_,b k<=v k
 hi:∀k∈some_,v k<=h k
 old:∀k∈some_,rk k<t->v k=h k
 new:∀k∈some_,rk k=t->v k=h k∨∃p∈rest,p.2=k/\h k=h p.1+l p.1
def Up.begin{some_:73}{W:98}{rk:183}{b l h v:74}{t:Nat}(H:IsHead (λk=>k∈some_) b l W h)(lo:∀k∈some_,b k<=v k)(hi:∀k∈some_,v k<=h k)(old:∀k∈some_,rk k<t->v k=h k):Up some_ W rk b l h t W v:=
 ⟨lo,hi,old,λk hk e=>by
  rcases H.eq k hk with e|⟨p,hp,e1,e2⟩
  .have:=lo k hk;have:=hi k hk;exact .inl 68
  .exact .inr ⟨p,hp,e1,e2⟩⟩
def Up.step{some_:73}{W:98}{rk:183}{b l h v:74}{t:Nat}{q:Nat×Nat}{r:98}(R:Rk (λk=>k∈some_) W rk)(H:IsHead (λk=>k∈some_) b l W h)(hq:q∈W)(U:Up some_ W rk b l h t (q::r) v):
 Up some_ W rk b l h t r (λk=>if k=q.2 then max (v q.2) (v q.1+l q.1)else v k):=by
 have hq1:=(R.ins q hq).1;have hq2:=(R.ins q hq).2;have u1:=H.up q hq hq2;have u2:=U.hi q.1 hq1;have u3:=U.hi q.2 hq2;refine⟨λk hk=>?_,λk hk=>?_,λk hk hr=>?_,λk hk hr=>?_⟩
 .by_cases e:k=q.2
  .subst e;simp only[j8];have:=U.lo q.2 hk;omega
  .simp only[e,jj];exact U.lo k hk
 .by_cases e:k=q.2
  .subst e;simp only[j8];omega
  .simp only[e,jj];exact U.hi k hk
 .by_cases e:k=q.2
  .subst e;simp only[j8];have:=U.old q.2 hk hr;omega
  .simp only[e,jj];exact U.old k hk hr
 .by_cases e:k=q.2
  .subst e;simp only[j8];rcases U.new q.2 hk hr with e1|⟨p,hp,e1,e2⟩
   .exact .inl 68
   .rcases mem_cons.mp hp with rfl|hp
    .have lt:=R.lt p hq;have:=U.old p.1 hq1 68;exact .inl 68
    .exact .inr ⟨p,hp,e1,e2⟩
  .simp only[e,jj];rcases U.new k hk hr with e1|⟨p,hp,e1,e2⟩
   .exact .inl e1
   .rcases mem_cons.mp hp with rfl|hp
    .exact absurd e1.symm e
    .exact .inr ⟨p,hp,e1,e2⟩
noncomputable abbrev onS(some_:73)(v:74):Nat->Option Int:=λk=>if k∈some_ then some (v k)else none
inductive I_raised_w2(ws:174)(W:98)(some_:73)(t:Int)(rk:183)(h:74)(n:Nat)(r:137)(ls:Ls)(hd:Hd):Prop
 |mk (rest:List (Nat×Nat)) (kvs:List (Key×D)) (v:Nat->Int) (z6 z7 z8:Option D) (h0:r=prD rest) (h1:(∀p∈rest,p∈Cm W some_)) (h2:ls=[some (.im (AQ ws)),some (.im (.tup (W.map AI))),some (.im (Aa some_)),some (.im (.int t)),some (.mu 0),some (.mu 1),z6,z7,z8]) (h3:hd=[.dic kvs,.lst (prD (Cm W some_))]) (h4:kvs.length+rest.length<=8+16*n+16) (h5:DicI kvs (onS some_ v)) (h6:Up some_ (Cm W some_) rk (λk=>max (Ag ws k) t) (AW ws) h n rest v):I_raised_w2 ws W some_ t rk h n r ls hd
inductive I_raised_w(ws:174)(W:98)(some_:73)(t:Int)(rk:183)(h:74)(r:137)(ls:Ls)(hd:Hd):Prop
 |mk (n:Nat) (kvs:List (Key×D)) (v:74) (z6 z7 z8:Option D) (h0:ls=[some 132,some (.im 119),some (.im (Aa some_)),some (.im (.int t)),some (.mu 0),some (.mu 1),z6,z7,z8]) (h1:hd=[.dic kvs,.lst (prD (Cm W some_))]) (h2:n+r.length=some_.length) (h3:184<=8+16*n) (h4:DicI kvs (onS some_ v)) (h5:(∀k∈some_,max (Ag ws k) t<=v k)) (h6:(∀k∈some_,v k<=h k)) (h7:∀k∈some_,rk k<n->v k=h k):I_raised_w ws W some_ t rk h r ls hd
def VJ{ws:174}{W:98}{some_:73}{t:Int}{rk:183}{h:74}(hn:66<=8)(hW:W.length<=16)(hs:∀k∈some_,k<66)(hl:some_.length<=8)
 (R:Rk (λk=>k∈some_) (Cm W some_) rk) (hrk:∀k∈some_,rk k<some_.length) (H:IsHead (λk=>k∈some_) (λk=>max (Ag ws k) t) (AW ws) (Cm W some_) h):
 WF HB [.im (AQ ws),.im 119,.im (Aa some_),.im (.int t)] [] λd x=>d=.im (.tup (some_.map λk=>.int (h k))):=by
 unfold HB;refine Au rfl ?_
 nofun
 refine Xr (UK ?_)
 nofun
 have nat_im:(Aa some_)=.tup (some_.map λk:Nat=>I.int (k:Int)):=rfl;have tn:(some_.map λk:Nat=>I.int (k:Int)).map D.im=AG some_:=by simp[AG]
 rw[tn];refine N4 (λr acc ls hd=>∃(done rest:73) (z:Option D),some_=done++rest/\r=AG rest/\ls=[z,some 132,some (.im (.int t))]/\hd=[]/\acc.length<=done.length/\DicI acc (onS done λk=>max (Ag ws k) t)) ?_ ?_ ?_
 .exact⟨[],some_,none,rfl,rfl,rfl,rfl,by simp,λk=>by simp[BU]⟩
 .rintro d r acc ls hd ⟨dn,rest,z,es,er,rfl,rfl,la,hd⟩;cases rest with
  |nil=>cases er
  |cons k rest=>
   obtain⟨rfl,rfl⟩:=166 er;have hk:k<ws.length:=hs k (by rw[es];simp);refine⟨_,rfl,?_⟩
   nofun
   rw[il rfl];refine aR ?_
   nofun
   refine AF rfl (by rw[<- BI];exact D2 hk) ?_
   nofun
   refine⟨Ax (by have:=jm List.length es;simp at this;omega),AJ _,dn++[k],rest,_,by rw[es];simp,rfl,rfl,rfl,by have:=Nr acc (.inl (k:Int)) (.im (.int (max ws[k].com t)));simp;omega,?_⟩;have e:ws[k].com=Ag ws k:=by simp[Ag,hk]
   rw[e];intro j;rw[hd.put k _ j];by_cases ej:j=k
   .subst ej;simp
   .simp[ej]
 rintro acc ls hd ⟨dn,rest,z,es,er,rfl,rfl,la,hdic⟩;have:rest=[]:=by cases rest with
  |nil=>rfl
  |cons _ _=>cases er
 subst this;simp only[jq]at es;subst es
 nofun
 refine⟨AL 82,?_⟩;have tw:(W.map AI).map D.im=W.map λp=>D.im (AI p):=by rw[j5];rfl
 rw[tw];refine Ay (λp:Nat×Nat=>D.im (AI p)) (λp=>if p.1∈some_/\p.2∈some_ then some (.im (AI p))else none) (λ_ ls=>∃x y,ls=[some x,some y,some (.mu 0)]) _ (AJ _) ?_ ?_
 .rintro p hp ls hls;refine⟨[some (.im (.int (p.1:Int))),some (.im (.int (p.2:Int))),some (.mu 0)],by rcases hls with rfl|⟨_,x,y,rfl⟩<;>rfl,⟨_,_,rfl⟩,?_⟩
  nofun
  refine P5 (kvs:=acc) rfl hdic ?_
  nofun
  by_cases h1:p.1∈some_
  .rw[il (by simp[h1])]
   nofun
   refine P5 (kvs:=acc) rfl hdic ?_
   nofun
   refine⟨rfl,?_⟩;by_cases h2:p.2∈some_
   .rw[il (by simp[h2])];refine⟨_,il ⟨h1,h2⟩,?_⟩
    nofun
    exact⟨rfl,Ex _ _⟩
   .rw[ip (by simp[h2])];exact ip λz=>h2 z.2
  .rw[ip (by simp[h1])];refine⟨rfl,?_⟩;rw[ip Bool.false_ne_true];exact ip λz=>h1 z.1
 rw[S8];have wl:(Cm W some_).length<=16:=j6 (jZ _ _) hW
 nofun
 rw[tn];refine BX (I_raised_w ws W some_ t rk h) ?_ ?_ ?_
 .exact⟨0,acc,λk=>max (Ag ws k) t,none,none,none,rfl,rfl,by simp,by omega,hdic,λk _=>123 _,λk hk=>H.lo k hk,λk _ hr=>by omega⟩
 .rintro d r ls hd ⟨n,kvs,v,z6,z7,z8,rfl,rfl,hl2,lk,hdic,lo,hi,old⟩;simp only[ji]at hl2;refine⟨_,rfl,?_⟩;dsimp only[set_cons_zero,set_cons_succ]
  nofun
  refine⟨_,_,rfl,rfl,?_⟩;refine BX (I_raised_w2 ws W some_ t rk h n) ?_ ?_ ?_
  .exact⟨Cm W some_,kvs,v,_,_,_,rfl,λp hp=>hp,rfl,rfl,by omega,hdic,Up.begin H lo hi old⟩
  .rintro d r ls hd ⟨rest,kvs,v,z6,z7,z8,er,hsub,rfl,rfl,lk,hdic,U⟩;cases rest with
   |nil=>cases er
   |cons q rest=>
    obtain⟨rfl,rfl⟩:=166 er;have hq:=hsub q j4;have hq1:=(R.ins q hq).1;have hq2:=(R.ins q hq).2;refine⟨_,rfl,?_⟩;dsimp only[set_cons_zero,set_cons_succ];refine Xk (w:=0) ?_
    nofun
    refine J0 (kvs:=kvs) rfl hdic (il hq2) ?_
    nofun
    refine J0 (kvs:=kvs) rfl hdic (il hq1) ?_
    nofun
    refine AF rfl (by rw[<- BI];exact D2 (hs _ hq1)) ?_
    nofun
    simp only[ji]at lk;refine⟨_,_,_,rfl,rfl,rfl,Ax 68,?_⟩;have hq1n:q.1<ws.length:=hs _ hq1;have el:ws[q.1].len=AW ws q.1:=by simp[AW,hs _ hq1]
    rw[el];refine⟨by intro p hp;simp at hp;subst hp;rfl,rest,_,_,_,_,_,rfl,λp hp=>hsub p (iw _ hp),rfl,rfl,by have:=Nr kvs (.inl (q.2:Int)) (.im (.int (max (v q.2) (v q.1+AW ws q.1))));omega,?_,Up.step R H hq U⟩;intro j;rw[hdic.put q.2 _ j];by_cases ej:j=q.2
    .subst ej;simp[hq2]
    .simp[ej]
  .rintro ls hd ⟨rest,kvs,v,z6,z7,z8,er,hsub,rfl,rfl,lk,hdic,U⟩;have:rest=[]:=by cases rest with
    |nil=>rfl
    |cons _ _=>cases er
   subst this;refine⟨AJ _,n+1,kvs,v,_,_,_,rfl,rfl,by omega,by simp at lk;omega,hdic,U.lo,U.hi,λk hk hr=>?_⟩;by_cases e:rk k=n
   .rcases U.new k hk e with e|⟨p,hp,_⟩
    .exact e
    .cases hp
   .exact U.old k hk 68
 .rintro ls hd ⟨n,kvs,v,z6,z7,z8,rfl,rfl,hl2,lk,hdic,lo,hi,old⟩;simp only[jG,Nat.add_zero]at hl2;subst hl2
  nofun
  rw[tn];refine⟨AL 82,?_⟩;refine Ay (λk:Nat=>D.im 136) (λk=>some (.im (.int (h k)))) (λ_ ls=>∃x,ls=[some x,some (.mu 0)]) _ (AJ _) ?_ ?_
  .rintro k hk ls hls;refine⟨[some (.im 136),some (.mu 0)],by rcases hls with rfl|⟨_,x,rfl⟩<;>rfl,⟨_,rfl⟩,?_⟩
   nofun
   refine⟨rfl,?_⟩;rw[il rfl];refine⟨_,rfl,?_⟩
   nofun
   exact J0 (kvs:=kvs) rfl hdic (il hk) ⟨rfl,by rw[old k hk (hrk k hk)]⟩
  .refine⟨_,rfl,?_⟩;have:(some_.filterMap λk=>some (D.im (.int (h k))))=(some_.map λk=>I.int (h k)).map D.im:=by simp
   rw[this];exact Bc _
def m1:¬ (("miss":Str)="ends"):=by decide +kernel
def s1:¬ (("steps":Str)="late"):=by decide +kernel
def s2:¬ (("steps":Str)="tardy"):=by decide +kernel
def s3:¬ (("steps":Str)="miss"):=by decide +kernel
def s4:¬ (("steps":Str)="ends"):=by decide +kernel
def e1:¬ (("ends":Str)="late"):=by decide +kernel
def e2:¬ (("ends":Str)="tardy"):=by decide +kernel
def e3:¬ (("ends":Str)="miss"):=by decide +kernel
def aE(h:Fb c)(t:Int):WF Dm [.im (BC c),.im (.int t)] [] λd x=>d=.im (.int (c.at t)):=by
 cases c with
 |late d=>exact WP.eq (z:=.im (.int (t-d))) (h:=[]) (by simp[Dm,mkF,BC]) rfl
 |tardy d w=>
  have b1:∀j,Ei w j:=λj=>Dg (by have:=h.1;omega) (by have:=h.2;omega);refine WP.eq (z:=.im (.int (w*if d<t then t-d else 0))) (h:=[]) (by simp[Dm,mkF,BC,n8,b1,DP]) ?_;simp only[Cost.at];by_cases q:t-d<=0
  .rw[ip 68,il q,Int.mul_zero]
  .rw[il 68,ip q]
 |miss d w=>
  have b1:∀j,Ei w j:=λj=>Dg (by have:=h.1;omega) (by have:=h.2;omega);refine WP.eq (z:=.im (.int (w*if d<t then 1 else 0))) (h:=[]) (by simp[Dm,mkF,BC,n9,n10,b1,ON]) ?_;simp only[Cost.at];by_cases q:t-d<=0
  .rw[ip 68,il q,Int.mul_zero]
  .rw[il 68,ip q,Int.mul_one]
 |ends w=>
  have b1:∀j,Ei w j:=λj=>Dg (by have:=h.1;omega) (by have:=h.2;omega);exact WP.eq (z:=.im (.int (w*t))) (h:=[]) (by simp[Dm,mkF,BC,e1,e2,e3,b1]) rfl
 |steps rows=>
  obtain⟨hl,hr,ha⟩:=h;unfold Dm;refine Au rfl ?_;refine AA (BA (AR (A9 (A9 (A2 rfl (AS (AF rfl (Cg _ _) (AS (EK ⟨_,rfl,(λq=>absurd (jA q) s1),λ_=>Az (A5 ?_)⟩)))))))));refine AA (BA (AR (A9 (A9 (A2 rfl (AS (AF rfl (Cg _ _) (AS (EK ⟨_,rfl,(λq=>absurd (jA q) s2),λ_=>Az (A5 ?_)⟩)))))))));refine AA (BA (AR (A9 (A9 (A2 rfl (AS (AF rfl (Cg _ _) (AS (EK ⟨_,rfl,(λq=>absurd (jA q) s3),λ_=>Az (A5 ?_)⟩)))))))));refine AA (BA (AR (A9 (A9 (A2 rfl (AS (AF rfl (Cg _ _) (AS (EK ⟨_,rfl,(λq=>absurd (jA q) s4),λ_=>Az (A5 ?_)⟩)))))))));refine Ap (Bj (N8 (Al (BG (A3 (AS (A7 ⟨Cw,?_⟩)))))));refine Al (Ah (Bv (A9 (A2 rfl (AS (AF rfl (DD _ _ _) ⟨_,rfl,?_⟩))))));rw[show(rows.map GV).map D.im=rows.map AT by simp[GV,AT]];refine⟨AL 82,?_⟩;refine Ay AT (λq=>if q.1<=t then some (.im (.int q.2))else none) (λ_ ls=>∃x y,ls=[some x,some y,some (.im (.int t))]) _ (AJ _) ?_ ?_
  .rintro q hq ls hls;refine⟨[some (.im (.int q.1)),some (.im (.int q.2)),some (.im (.int t))],by rcases hls with rfl|⟨_,x,y,rfl⟩<;>rfl,⟨_,_,rfl⟩,AR (A9 (A2 rfl (A2 rfl (Ff ⟨_,rfl,rfl,?_⟩))))⟩;by_cases hb:q.1<=t
   .rw[il (by simpa using hb)];exact⟨_,il hb,A2 rfl ⟨rfl,rfl⟩⟩
   .rw[ip (by simpa using hb)];exact ip hb
  have ef:(rows.filterMap λq=>if q.1<=t then some (D.im (.int q.2))else none)=intD ((rows.filter λq=>decide (q.1<=t)).map (·.2)):=by
   clear hl hr ha
   induction rows with
   |nil=>rfl
   |cons q r ih=>
    rw[jO,jY];by_cases hb:q.1<=t
    .simp[hb,ih,intD]
    .simp[hb,ih]
  rw[ef];have fl:=jZ (λq:Int×Int=>decide (q.1<=t)) rows;refine⟨0,1,_,_,rfl,rfl,rfl,rfl,AL 82,?_⟩;refine⟨.im (.int (BQ t rows 0)),?_,rfl⟩;rw[<- Lu t hr ha];show Gh (intD (0::(rows.filter λq=>decide (q.1<=t)).map (·.2)))=_;unfold Gh;rw[Dk];simp
noncomputable def Jg(n m:Nat):List Nat:=(69 n).filter λk=>decide (m/2^k%2=1)
def aI{n m:Nat}(h0:m≠0)(h1:m<2^n):Jg n m≠[]:=by
 obtain⟨i,hi⟩:=Nat.exists_testBit_of_ne_zero h0;have hin:i<n:=by
  rcases Nat.lt_or_ge i n with h|h
  .exact h
  .have:m<2^i:=jk h1 (Nat.pow_le_pow_right 68 h);rw[Nat.testBit_lt_two_pow this]at hi;cases hi
 intro h;have:i∈Jg n m:=by
  rw[Jg,j9];refine⟨by simpa using hin,?_⟩;rw[Nat.testBit_eq_decide_div_mod_eq]at hi;exact hi
 rw[h]at this;simp at this
def Wm(n m:Nat):(Jg n m).Sublist (69 n):=ju
def aJ(m k:Nat):Builtin.bitAnd ((m:Int)/2^(k:Int).toNat) 1=((m/2^k%2:Nat):Int):=by
 have e:(m:Int)/2^(k:Int).toNat=((m/2^k:Nat):Int):=by
  rw[jl];norm_cast
 rw[e];generalize m/2^k=z;rw[PyProof.Rows.bitAnd_pp (Int.natCast_nonneg z) 95,jl];show((z &&& 1:Nat):Int)=_;rw[Nat.and_one_is_mod]
def DY(ks:73):B7 (AG ks)=.im (Aa ks):=by
 have:AG ks=(ks.map λk:Nat=>I.int (k:Int)).map D.im:=by simp[AG]
 rw[this,Bc]
def Mz(p:Nat->Prop)[DecidablePred p](L:73):(L.filterMap λa=>if p a then some (D.im (.int (a:Int)))else none)=AG (L.filter λa=>decide (p a)):=by
 induction L with
 |nil=>rfl
 |cons x r ih=>
  rw[jO,jY];by_cases h:p x
  .simp[h,ih,AG]
  .simp[h,ih,AG]
noncomputable abbrev Aj(ks:73):D:=.im (Aa ks)
def T8{n:Nat}(hn:n<=8):2^n<=256:=by
 have:2^n<=2^8:=Nat.pow_le_pow_right 68 hn;omega
def SM(n:Nat):(1:Int)*2^(n:Int).toNat=((2^n:Nat):Int):=by
 rw[Int.one_mul,jl];norm_cast
def po(n:Nat)(hn:n<=8):IM 1 (n:Int):=by unfold IM;exact⟨by omega,by omega,by decide⟩
def WW:F_behind=Rw.F_behind:=rfl
noncomputable abbrev wI(ps:185):I:=.tup (ps.map GD)
structure Wsh(n:Nat)(ps:185):Prop where
 len:126<=16
 nod:∀p∈ps,∃a b:Nat,a<n/\b<n/\p=((a:Int),(b:Int))
def Mt(n:Nat)(ps:185)(M:Nat->Nat->Bool):Prop:=∀i j,i<n->j<n->(M i j=true↔Rc ps i j)
def D4(ks:73):(ks.map λk:Nat=>I.int (k:Int)).map D.im=AG ks:=by simp[AG]
def Zb(ks:73):B7 (AG ks)=.im (Aa ks):=by rw[<- D4,Bc]
noncomputable abbrev C7(M:Nat->Nat->Bool)(ks:73):List Nat:=ks.filter λa=>!(ks.any λb=>M a b)
def Ur(found:88)(x:Int):x∈AY found↔x∈found:=(Bw found).mem_iff
def TZ{n:Nat}{M:Nat->Nat->Bool}(h:Wsh n ps)(hM:Mt n ps M)(hk:∀k∈ks,k<n)(hl:181<=8):
 WF DN [.im (.int (n:Int)),.im (wI ps),.im (Aa ks)] [] λd x=>d=.im (Aa (C7 M ks)):=by
 unfold DN;refine Au rfl ?_
 nofun
 rw[D4];refine BX (λr ls hd=>∃(dn rest:73) (z4 z5:Option D),ks=dn++rest/\r=AG rest/\ls=[some (.im (.int (n:Int))),some (.im (wI ps)),some (.im (Aa ks)),some (.mu 0),z4,z5]/\hd=[.lst (AG (dn.filter λa=>!(ks.any λb=>M a b)))]) ?_ ?_ ?_
 .exact⟨[],ks,none,none,rfl,rfl,rfl,rfl⟩
 .rintro d r ls hd ⟨dn,rest,z4,z5,ek,er,rfl,rfl⟩;cases rest with
  |nil=>cases er
  |cons u rest=>
   obtain⟨rfl,rfl⟩:=166 er;have hu:u<n:=hk u (by rw[ek];simp);refine⟨_,rfl,?_⟩;dsimp only[set_cons_zero,set_cons_succ]
   nofun
   refine Ae ?_
   nofun
   refine⟨by simp,?_⟩;rw[WW];obtain⟨found,g,e,nd,mem⟩:=Rw.behind_eq (ps:=ps) (by have:=h.len;omega) (n:Int) (u:Int);refine WP.eq e ⟨_,rfl,?_⟩
   nofun
   refine Dq ?_
   nofun
   rw[D4];refine⟨AL 82,?_⟩;refine Ay (λk:Nat=>D.im 136) (λk=>some (.im (.bl (M u k)))) (λ_ ls=>∃x,ls=[some x,some (.im (.tup ((AY found).map I.int)))]) _ (AJ _) ?_ ?_
   .rintro k hk' ls hls;refine⟨[some (.im 136),some (.im (.tup ((AY found).map I.int)))],by rcases hls with rfl|⟨_,x,rfl⟩<;>rfl,⟨_,rfl⟩,?_⟩
    nofun
    refine⟨rfl,?_⟩;rw[il rfl];refine⟨_,rfl,?_⟩
    nofun
    refine aN (xs:=AY found) (by simp[intD]) ⟨rfl,?_⟩;have:decide ((k:Int)∈AY found)=M u k:=by
     have a:=hM u k hu (hk k hk');rw[<- mem,<- Ur]at a;cases q:M u k with
     |true=>rw[q]at a;simpa using a
     |false=>rw[q]at a;simpa using a
    rw[<- this];rfl
   have e1:(ks.filterMap λk=>some (D.im (.bl (M u k))))=blD (ks.map λk=>M u k):=by simp[blD]
   rw[e1];refine⟨_,by rw[JS,Jf];rfl,?_⟩;refine⟨_,rfl,?_⟩;have e2:((ks.map λk=>M u k).any id)=ks.any λb=>M u b:=by simp[List.any_map]
   rw[e2];have ek':ks=(dn++[u])++rest:=by rw[ek];simp
   refine⟨λhb=>?_,λhb=>?_⟩
   .nofun
    refine C0 rfl (Ax (by have:=jZ (λa=>!(ks.any λb=>M a b)) dn;have:=jm List.length ek;simp at this ⊢;omega)) ?_;refine⟨AJ _,dn++[u],rest,_,_,ek',rfl,rfl,?_⟩;have hb:(!(ks.any λb=>M u b))=true:=hb;simp only[List.filter_append,jY,hb,j8,List.filter_nil,set_cons_zero,AG,jB,j3,jr]
   .refine Az ⟨AJ _,dn++[u],rest,_,_,ek',rfl,rfl,?_⟩;have hb:(!(ks.any λb=>M u b))=false:=hb;simp only[List.filter_append,jY,hb,jj,Bool.false_eq_true,List.filter_nil,jq]
 .rintro ls hd ⟨dn,rest,z4,z5,ek,er,rfl,rfl⟩;have:rest=[]:=by cases rest with
   |nil=>rfl
   |cons _ _=>cases er
  subst this;simp only[jq]at ek
  nofun
  refine BK rfl rfl ?_;rw[<- ek];exact Zb _
def Way(ps:185):Nat->Nat->Nat->Prop
 |0,_,_=>False
 |m+1,x,y=>((x:Int),(y:Int))∈ps∨∃b:Nat,((x:Int),(b:Int))∈ps/\Way ps m b y
theorem Way.mono:∀{m m' x y:Nat},Way ps m x y->m<=m'->Way ps m' x y
 |0,_,_,_,h,_=>h.elim
 |m+1,0,_,_,_,h=>by omega
 |m+1,m'+1,x,y,h,hm=>by
  rcases h with h|⟨b,h1,h2⟩
  .exact .inl h
  .exact .inr ⟨b,h1,h2.mono 68⟩
theorem Way.snoc:∀{m x y z:Nat},Way ps m x y->((y:Int),(z:Int))∈ps->Way ps (m+1) x z
 |0,_,_,_,h,_=>h.elim
 |m+1,x,y,z,h,e=>by
  rcases h with h|⟨b,h1,h2⟩
  .exact .inr ⟨y,h,.inl e⟩
  .exact .inr ⟨b,h1,h2.snoc e⟩
noncomputable abbrev Bq(W:98):List 128:=W.map λp=>((p.1:Int),(p.2:Int))
def bM{n:Nat}{rk:183}(R:Rk (λk=>k<n) W rk){x y:Int}(r:Rc (Bq W) x y):∀i:Nat,x=i->i<n/\∃j:Nat,y=j/\j<n/\rk i<rk j/\Way (Bq W) (rk j-rk i) i j:=by
 induction r with
 |one h=>
  rintro i rfl;obtain⟨⟨a,b⟩,hp,e⟩:=mem_map.mp h;simp only[Prod.mk.injEq]at e;obtain⟨e1,rfl⟩:=e;have:a=i:=by omega
  subst this;have l:=R.lt _ hp;have ins:=R.ins _ hp;refine⟨ins.1,b,rfl,ins.2,l,Way.mono (m:=1) (.inl h) ?_⟩;have l:rk a<rk b:=l;omega
 |step _ h ih=>
  intro i hi;obtain⟨hn,m,rfl,hm,lm,w⟩:=ih i hi;obtain⟨⟨a,b⟩,hp,e⟩:=mem_map.mp h;simp only[Prod.mk.injEq]at e;obtain⟨e1,rfl⟩:=e;have:a=m:=by omega
  subst this;have l:rk a<rk b:=R.lt _ hp;refine⟨hn,b,rfl,(R.ins _ hp).2,by omega,Way.mono (w.snoc h) 68⟩
open PySem L2 Bd Hds
def Wf(w:Wg):Prop:=(1<=w.len/\w.len<=20)/\(0<=w.com/\w.com<=60)/\∃c,w.co=BC c/\Fb c/\DK 2000 c
def FM(ws:174):Prop:=1<=66/\66<=8/\∀w∈ws,Wf w
def aK(h:DK 1000 c):DK 2000 c:=by
 cases c with
 |late d=>simp only[DK]at *;omega
 |tardy d w=>simp only[DK]at *;omega
 |miss d w=>simp only[DK]at *;omega
 |ends w=>simp only[DK]at *;omega
 |steps rows=>intro q hq;have:=h q hq;omega
def fT(h:Wg.ok xs w):Wf w:=by
 obtain⟨h1,h2,c,e,k1,k2,_⟩:=h;exact⟨h1,h2,c,e,k1,aK k2⟩
def Ib{ws:174}{W:98}{rk:183}{h:74}(hn:66<=8)(hc:∀k,k<66->0<=Ag ws k)(hW:W.length<=16)(R:Rk (λk=>k<66) W rk)(hrk:∀k,k<66->rk k<66)(H:IsHead (λk=>k<66) (Ag ws) (AW ws) W h):
 WF D9 [.im (AQ ws),.im 119] [] λd x=>d=.im (.tup ((152).map λk=>.int (h k))):=by
 have we:Cm W 152=W:=by
  refine List.filter_eq_self.mpr λp hp=>?_;have:=R.ins p hp;simp[this.1,this.2]
 unfold D9;refine Au rfl ?_
 nofun
 refine Ae ?_
 nofun
 have rn:B7 (B1 0 66)=.im (Aa 152):=by rw[Bg,DY]
 have rgl:Fm (ws.length:Int):=FK 68 68;refine WP.eq (z:=.im (Aa 152)) (h:=[]) (by simp[B4,rgl,rn]) ?_
 nofun
 refine⟨by simp,?_⟩;refine(VJ (h:=h) (rk:=rk) hn hW 71 (by simpa using hn) ?_ (by simpa using hrk) ?_).mono ?_
 .rw[we];exact⟨λp hp=>by simpa using R.ins p hp,R.lt⟩
 .rw[we];refine⟨λk hk=>?_,λp hp hk=>H.up p hp (by simpa using hk),λk hk=>?_⟩
  .have hk:k<ws.length:=by simpa using hk
   have:=hc k hk;have:=H.lo k hk;omega
  .have hk:k<ws.length:=by simpa using hk
   have:=hc k hk;rcases H.eq k hk with e|e
   .refine .inl ?_;omega
   .exact .inr e
 .rintro d x rfl;exact⟨_,rfl,rfl⟩
def ML:F_cost_at=Bd.F_cost_at:=rfl
def TK(h:Fb c):c.wok:=by
 cases c<;>first|trivial|exact h
def S4(ws:174)(cs:192):Prop:=∀k,k<66->(ws[k]?).map Wg.co=some (BC (cs k))/\Fb (cs k)/\DK 2000 (cs k)
def fu(h:FM ws):∃cs,S4 ws cs:=by
 refine Classical.skolem (p:=λk c=>k<66->(ws[k]?).map Wg.co=some (BC c)/\Fb c/\DK 2000 c) |>.mp λk=>?_;by_cases hk:k<66
 .obtain⟨_,_,c,e,k1,k2⟩:=h.2.2 ws[k] (List.getElem_mem hk);exact⟨c,λ_=>⟨by simp[hk,e],k1,k2⟩⟩
 .exact⟨.late 0,λh=>absurd h hk⟩
noncomputable def DQ(ws:174)(h:74)(ks:73):Int:=C8 (ks.map h)+(ks.map (AW ws)).sum
def bnd(ws:174)(cs:192)(h:74)(M:Nat->Nat->Bool)(ks:73):Int:=C8 ((C7 M ks).map λk=>(cs k).at (DQ ws h ks))
def Ey(ks:73)(g:74):(ks.filterMap λk=>some (D.im (.int (g k))))=intD (ks.map g):=by simp[intD]
def IW(h:ns≠[]):FT (intD ns)=some (.im (.int (C8 ns))):=by unfold FT;rw[Dk];simp[h]
def Zm(ns:88):JR (intD ns)=some (.im (.int ns.sum)):=by unfold JR;rw[Dk];rfl
def HM{ws:174}{k:Nat}(hk:k<66):(ws[k]).len=AW ws k:=by simp[AW,hk]
def II{cs:192}(hc:S4 ws cs){k:Nat}(hk:k<66):(ws[k]).co=BC (cs k):=by
 have:=(hc k hk).1;simpa [hk]using this
def TX{ws:174}(hk:∀k∈ks,k<66)(hl:181<=8){i j:Nat}(e0:ls[i]?=some (some 132))(e1:ls[j]?=some (some (.im (Aa ks)))){QE:172}(q:QE (.im (.int (ks.map (AW ws)).sum)) hd):
 WE (B6 JR (Ab 1 [i] (Aw (A0 j)) (AD 0) BV (mOp gIx 180 122))) ls hd QE:=by
 refine Bj (Ah (Bv (A2 e1 ⟨_,rfl,?_⟩)));rw[D4];refine⟨AL 82,?_⟩;have ec:DS 1 [i] ls=[none,some 132]:=by simp[DS,e0]
 rw[ec];refine Ay (λk:Nat=>D.im 136) (λk=>some (.im (.int (AW ws k)))) (λ_ ls=>∃x,ls=[some x,some 132]) _ (AJ _) ?_ ?_
 .rintro k hk' ls hls;have hkn:=hk k hk';refine⟨[some (.im 136),some 132],by rcases hls with rfl|⟨_,x,rfl⟩<;>rfl,⟨_,rfl⟩,BF ⟨rfl,?_⟩⟩;rw[il rfl];refine⟨_,rfl,A9 (A9 (A2 rfl (A2 rfl (AF (by rw[Cb,<- BI]) (D2 hkn) (AS (AF rfl (Cg _ _) ⟨rfl,?_⟩))))))⟩;rw[HM hkn]
 rw[Ey];exact⟨_,Zm _,q⟩
def Oh{i:Nat}(h:H[i]?=some o)(g:Hd):(H++g)[i]?=some o:=by
 rw[List.getElem?_append_left (List.getElem?_eq_some_iff.mp h).1];exact h
def Ko{ws:174}{W:98}{rk:183}{cs:192}{M:Nat->Nat->Bool}{h:74}(hn:66<=8)(hcm:∀k,k<66->0<=Ag ws k)(hW:W.length<=16)(R:Rk (λk=>k<66) W rk)(hrk:∀k,k<66->rk k<66)
 (Hh:IsHead (λk=>k<66) (Ag ws) (AW ws) W h) (hM:Mt 66 (Bq W) M) (hc:S4 ws cs) (hne:ks≠[]) (hk:∀k∈ks,k<66) (hl:181<=8) (hlast:C7 M ks≠[]):
 WF Bz [.im (AQ ws),.im 119,.im (Aa ks)] [] λd x=>d=.im (.int (bnd ws cs h M ks)):=by
 unfold Bz;refine Au rfl ?_;refine AA (AK (Ae (A3 (A2 rfl (A3 (A2 rfl (A7 ⟨by simp,(Ib hn hcm hW R hrk Hh).mono ?_⟩)))))));rintro r x rfl;refine⟨_,rfl,A5 ?_⟩;change WS _ [some 132,some (.im 119),some (.im (Aa ks)),some (.im (.tup ((152).map λk=>.int (h k)))),none] [] _;refine AA (AK (A9 (Bj (Ah (Bv (A2 rfl ⟨_,rfl,?_⟩))))));rw[D4];refine⟨AL 82,?_⟩;refine Ay (λk:Nat=>D.im 136) (λk=>some (.im (.int (h k)))) (λ_ ls=>∃x,ls=[some x,some (.im (.tup ((152).map λk=>.int (h k))))]) _ (AJ _) ?_ ?_
 .rintro k hk' ls hls;have hkn:=hk k hk';refine⟨[some (.im 136),some (.im (.tup ((152).map λk=>.int (h k))))],by rcases hls with rfl|⟨_,x,rfl⟩<;>rfl,⟨_,rfl⟩,BF ⟨rfl,?_⟩⟩;rw[il rfl];refine⟨_,rfl,A9 (A2 rfl (A2 rfl (AF rfl (IH (k:=k) (x:=.im (.int (h k))) rfl ?_) ⟨rfl,rfl⟩)))⟩;simp[hkn]
 rw[Ey];refine⟨_,IW (by simpa using hne),?_⟩;refine Ae (A3 (A2 rfl (A3 (A2 rfl (A7 ⟨by simp,?_⟩)))));have lw:WF CJ [.im (AQ ws),.im (Aa ks)] [] λd x=>d=.im (.int (ks.map (AW ws)).sum):=by
  unfold CJ;refine Au rfl ?_;exact Ap (TX hk hl rfl rfl rfl)
 refine lw.mono ?_;rintro r x rfl;refine⟨_,rfl,Cl (A5 ?_)⟩;change WS _ [some 132,some (.im 119),some (.im (Aa ks)),some (.im (.tup ((152).map λk=>.int (h k)))),some (.im (.int (DQ ws h ks)))] [] _;have ew:W.map AI=(Bq W).map GD:=by rw[j5];rfl
 have hW':Wsh 66 (Bq W):=⟨by simpa using hW,λp hp=>by
  obtain⟨q,hq,rfl⟩:=mem_map.mp hp;have:=R.ins q hq;exact⟨q.1,q.2,this.1,this.2,rfl⟩⟩
 refine Ap (Bj (Ah (Bv (Ae (A3 (BE (A3 (A2 rfl (A7 (BK rfl rfl ?_)))))))))) ;refine A3 (A2 rfl (A3 (A2 rfl (A7 ⟨by simp,?_⟩))));rw[ew];have eln:(((ws.map wgI).map D.im).length:Int)=(ws.length:Int):=by simp
 rw[eln];refine(TZ hW' hM hk hl).mono ?_;rintro r x rfl;refine⟨_,rfl,_,rfl,?_⟩;rw[D4];have hll:(C7 M ks).length<=8:=j6 (jZ _ _) hl;refine⟨AL (by simp only[AG,ja];omega),?_⟩;refine Ay (λk:Nat=>D.im 136) (λk=>some (.im (.int ((cs k).at (DQ ws h ks))))) (λ_ ls=>∃x,ls=[some x,some 132,some (.im (.int (DQ ws h ks)))]) _ (AJ _) ?_ ?_
 .rintro k hk' ls hls;have hkn:=hk k (mem_filter.mp hk').1;refine⟨[some (.im 136),some 132,some (.im (.int (DQ ws h ks)))],by rcases hls with rfl|⟨_,x,rfl⟩<;>rfl,⟨_,rfl⟩,BF ⟨rfl,?_⟩⟩;rw[il rfl];refine⟨_,rfl,Ae (A3 (A9 (A9 (A2 rfl (A2 rfl (AF (by rw[Cb,<- BI]) (D2 hkn) (AS (AF rfl (Ef _ _ _ _) ?_))))))))⟩;rw[II hc hkn];refine A3 (A2 rfl (A7 ⟨by simp,?_⟩));rw[ML];exact WP.eq (Kb _ _ (TK (hc k hkn).2.1)) ⟨_,rfl,rfl,rfl⟩
 rw[Ey];exact⟨_,IW (by simpa using hlast),rfl⟩
def Lj(rk:183):∀ks:List Nat,ks≠[]->∃u∈ks,∀v∈ks,rk v<=rk u:=by
 intro ks
 induction ks with
 |nil=>intro h;exact absurd rfl h
 |cons x r ih=>
  intro _;by_cases hr:r=[]
  .subst hr;exact⟨x,by simp,by simp⟩
  .obtain⟨u,hu,hm⟩:=ih hr;by_cases q:rk u<=rk x
   .refine⟨x,by simp,λv hv=>?_⟩;rcases mem_cons.mp hv with rfl|hv
    .exact ir _
    .exact j6 (hm v hv) q
   .refine⟨u,by simp[hu],λv hv=>?_⟩;rcases mem_cons.mp hv with rfl|hv
    .omega
    .exact hm v hv
def Zl{M:Nat->Nat->Bool}{rk:183}(hne:ks≠[])(h:∀u∈ks,∀v∈ks,M u v=true->rk u<rk v):C7 M ks≠[]:=by
 obtain⟨u,hu,hm⟩:=Lj rk ks hne;have:u∈C7 M ks:=by
  refine mem_filter.mpr ⟨hu,?_⟩;rw[Bool.not_eq_true',any_eq_false];intro v hv q;have:=h u hu v hv q;have:=hm v hv;omega
 intro e;rw[e]at this;simp at this
def gQ{L:88}(h:L.Perm M):L.sum=M.sum:=by
 induction h with
 |nil=>rfl
 |cons x _ ih=>simp[ih]
 |swap x y l=>simp;omega
 |trans _ _ ih1 ih2=>exact ih1.trans ih2
theorem NL(t:Int):∀{rows:185} {x:Int},Lk x rows->x<=BQ t rows x
 |[],x,_=>123 _
 |(b,a)::r,x,h=>by
   unfold BQ;have:=NL t h.2;have:=h.1;split<;>omega
theorem Js{t t':Int}(ht:t<=t'):∀{rows:185} {x:Int},Lk x rows->BQ t rows x<=BQ t' rows x
 |[],x,_=>123 _
 |(b,a)::r,x,h=>by
   unfold BQ;have h1:=Js ht h.2;have h2:=NL t' h.2;have:=h.1;by_cases c1:t<b
   .rw[il c1];split<;>omega
   .rw[ip c1,ip 68];exact h1
def Lg(h:Fb c){t t':Int}(ht:t<=t'):c.at t<=c.at t':=by
 cases c with
 |late d=>show t-d<=t'-d;omega
 |tardy d w=>
  obtain⟨h0,_⟩:=h;show(if t-d<=0 then 0 else w*(t-d))<=(if t'-d<=0 then 0 else w*(t'-d));have h2:w*(t-d)<=w*(t'-d):=Int.mul_le_mul_of_nonneg_left 68 h0;by_cases c1:t-d<=0
  .rw[il c1];split
   .exact 123 _
   .exact Int.mul_nonneg h0 68
  .rw[ip c1,ip 68];exact h2
 |miss d w=>
  obtain⟨h0,_⟩:=h;show(if t-d<=0 then 0 else w)<=(if t'-d<=0 then 0 else w);split<;>split<;>omega
 |ends w=>exact Int.mul_le_mul_of_nonneg_left ht h.1
 |steps rows=>exact Js ht h.2.1
noncomputable def hdN(c l:74)(W:98):Nat->Nat->Int
 |0,k=>c k
 |t+1,k=>Ct (c k::(W.filter λp=>decide (p.2=k)).map λp=>hdN c l W t p.1+l p.1)
theorem Gn{S:Nat->Prop}{rk:183}(R:Rk S W rk)(c l:74):∀t k,rk k<=t->hdN c l W (t+1) k=hdN c l W t k
 |0,k,h=>by
  have e:(W.filter λp=>decide (p.2=k))=[]:=by
   rw[filter_eq_nil_iff];intro p hp q;have:=R.lt p hp;have q:p.2=k:=by simpa using q
   rw[q]at this;omega
  show Ct (c k::(W.filter λp=>decide (p.2=k)).map _)=c k;rw[e];have:=(BH (xs:=[c k]) 71).1;simpa using this
 |t+1,k,h=>by
  show Ct (c k::(W.filter λp=>decide (p.2=k)).map λp=>hdN c l W (t+1) p.1+l p.1)=Ct (c k::(W.filter λp=>decide (p.2=k)).map λp=>hdN c l W t p.1+l p.1)
  congr 2
  refine jE λp hp=>?_;obtain⟨h1,h2⟩:=mem_filter.mp hp;have h2:p.2=k:=by simpa using h2
  have:=R.lt p h1;rw[Gn R c l t p.1 (by rw[h2]at this;omega)]
def Zx{n:Nat}{rk:183}(R:Rk (λk=>k<n) W rk)(hrk:∀k,k<n->rk k<n)(c l:74):∃h,IsHead (λk=>k<n) c l W h:=by
 refine⟨hdN c l W n,λk hk=>?_,λp hp hk=>?_,λk hk=>?_⟩
 .rw[<- Gn R c l n k (by have:=hrk k hk;omega)];exact(BH (xs:=c k::(W.filter λp=>decide (p.2=k)).map λp=>hdN c l W n p.1+l p.1) 71).2 _ j4
 .rw[<- Gn R c l n p.2 (by have:=hrk p.2 hk;omega)];refine(BH (xs:=c p.2::(W.filter λq=>decide (q.2=p.2)).map λq=>hdN c l W n q.1+l q.1) 71).2 _ (iw _ (mem_map.mpr ⟨p,mem_filter.mpr ⟨hp,by simp⟩,rfl⟩))
 .have e:=Gn R c l n k (by have:=hrk k hk;omega);have ms:=(BH (xs:=c k::(W.filter λp=>decide (p.2=k)).map λp=>hdN c l W n p.1+l p.1) 71).1;rw[<- e];rcases mem_cons.mp ms with q|q
  .exact .inl q
  .obtain⟨p,hp,eq⟩:=mem_map.mp q;obtain⟨h1,h2⟩:=mem_filter.mp hp;refine .inr ⟨p,h1,by simpa using h2,?_⟩;exact eq.symm
open Classical in
noncomputable def Mc(W:98):Nat->Nat->Bool:=λi j=>decide (Rc (Bq W) i j)
def fX(n:Nat)(W:98):Mt n (Bq W) (Mc W):=λi j _ _=>by simp[Mc]
def fW{n:Nat}{rk:183}(R:Rk (λk=>k<n) W rk){u v:Nat}(h:Mc W u v=true):rk u<rk v:=by
 have h:Rc (Bq W) u v:=by simpa [Mc]using h
 obtain⟨_,j,ej,_,hlt,_⟩:=bM R h u rfl;have:v=j:=by omega
 rw[this];exact hlt
open Sx (Blk spl GU)
noncomputable def Gx(B:Blk):I:=.tup [.int B.1,.int B.2.1,.tup (B.2.2.map I.int)]
noncomputable abbrev CZ(B:Blk):D:=.im (Gx B)
def eK(bs:List Blk):bs.map CZ=(bs.map Gx).map D.im:=by rw[j5];rfl
theorem allIm_map:∀is:List I,B9 (is.map D.im)=some is
 |[]=>rfl
 |i::r=>by simp[B9,allIm_map r]
def Z7{n:Nat}{bs:List Blk}(e:hd[n]?=some (.lst (bs.map CZ))):pyD hd (.mu n)=some (.list (I.pys (bs.map Gx))):=by
 simp only[pyD,e,eK,allIm_map,je]
theorem XX:∀ns:List Int,PyData.canLayAll0 (I.pys (ns.map I.int))=true
 |[]=>by simp[I.pys,PyData.canLayAll0]
 |n::r=>by simp[I.pys,I.py,PyData.canLayAll0,PyData.canLay0,XX r]
theorem XY:∀bs:List Blk,PyData.canLayAll0 (I.pys (bs.map Gx))=true
 |[]=>by simp[I.pys,PyData.canLayAll0]
 |b::r=>by simp[I.pys,I.py,Gx,PyData.canLayAll0,PyData.canLay0,XY r,XX]
def fz(bs:List Blk)(hd:Hd)(neg:Bool):FV neg (.list (I.pys (bs.map Gx))) (.list (I.pys [])) hd=some (.im (.bl (if neg then !decide (bs=[])else decide (bs=[]))),hd):=by
 unfold FV;rw[il]
 .cases bs with
  |nil=>simp[I.pys,PyData.eqv,PyData.eqvAll]
  |cons b r=>simp[I.pys,PyData.eqv,PyData.eqvAll]
 .refine⟨by simp[PyData.canLay0,XY],by simp[I.pys,PyData.canLay0,PyData.canLayAll0],?_⟩;have:(PyData.list (I.pys [])).depth<=60:=by simp[I.pys,PyData.depth,PyData.depthAll]
  omega
def Xq{neg:Bool}{QE:172}(h:WE ma ls hd λd x=>∃bs:List Blk,pyD x d=some (.list (I.pys (bs.map Gx)))/\QE (.im (.bl (if neg then !decide (bs=[])else decide (bs=[])))) x):WE (Ci neg ma (Af A4)) ls hd QE:=by
 obtain⟨d,x,e,bs,e2,q⟩:=h;refine⟨_,x,?_,q⟩;unfold Ci;rw[e];simp[e2,B9,fz]
def Ln{QA:List D->Hd->Prop}(h:WI mi ls hd λp x=>∃ns:List Int,p.1=intD ns/\169<64/\QA (intD (AY ns)) x):WA (Bo mi) ls hd QA:=by
 obtain⟨p,x,e,ns,e1,hl,q⟩:=h;refine⟨_,_,?_,q⟩;simp only[Bo,e,bind_some,e1,Dk,hl,j8]
def Xn{js:List I}{QE:172}(h0:is≠[])(h1:is.length+js.length<=100)(q:QE (.im (.tup (is++js))) hd):WP (B0 (.im (.tup is)) (.im (.tup js)) hd) QE:=by
 have cat:Xc (is.map D.im) (js.map D.im):=⟨by simpa using h0,AL 82⟩
 refine WP.eq (z:=.im (.tup (is++js))) (h:=hd) ?_ q;show(match Rj (.im (.tup is)) (.im (.tup js)) hd with|some z=>some z|none=>KP (.im (.tup is)) (.im (.tup js)) hd)=_;rw[show Rj (.im (.tup is)) (.im (.tup js)) hd=none from rfl];unfold KP;rw[show Ai (.im (.tup is))=some (is.map D.im)from rfl,show Ai (.im (.tup js))=some (js.map D.im)from rfl,bind_some,bind_some,il cat,<- jB,Bc]
noncomputable def AO(ws:174)(k:Nat):Int:=max 1 (AW ws k)
def C3(ws:174)(k:Nat):1<=AO ws k:=by unfold AO;omega
def O7(h:FM ws){k:Nat}(hk:k<66):1<=AW ws k/\AW ws k<=20:=by
 have:=(h.2.2 ws[k] (List.getElem_mem hk)).1;simpa [AW,hk]using this
def ER(h:FM ws){k:Nat}(hk:k<66):0<=Ag ws k/\Ag ws k<=60:=by
 have:=(h.2.2 ws[k] (List.getElem_mem hk)).2.1;simpa [Ag,hk]using this
def Di(h:FM ws){k:Nat}(hk:k<66):AO ws k=AW ws k:=by
 have:=O7 h hk;unfold AO;omega
def NQ(m:Nat):AY (Sx.cst [m])=[(m:Int)]:=by simp[AY,Sx.cst]
def SL(C:73)(m:Nat):AY (AY (Sx.cst C)++[(m:Int)])=AY (Sx.cst (C++[m])):=by
 refine D3 ((Bw _).trans (((Bw _).append_right _).trans ?_)) (Cp _) (Cp _);have:Sx.cst C++[(m:Int)]=Sx.cst (C++[m]):=by simp[Sx.cst]
 rw[this];exact(Bw _).symm
theorem OV:∀{ms:88},(∀x∈ms,0<=x)->Sx.cst (ms.map Int.toNat)=ms
 |[],_=>rfl
 |x::r,h=>by
  have h0:=h x 71;have ih:=OV (ms:=r) λy hy=>h y (by simp[hy]);unfold Sx.cst at ih ⊢;rw[j3,j3,ih,show((x.toNat:Nat):Int)=x by omega]
def Y4{h l:74}{b e:Int}{m:Nat}(q:e<=h m):spl h l b e C (m::r)=(b,e,AY (Sx.cst C))::spl h l (h m) (h m+l m) [m] r:=by rw[spl,il q]
def Y5{h l:74}{b e:Int}{m:Nat}(q:¬ e<=h m):spl h l b e C (m::r)=spl h l b (e+l m) (C++[m]) r:=by rw[spl,ip q]
noncomputable abbrev Lb(d0 d1 d2:D)(hs:List I)(z5 z6 z7 z8:Option D):Ls:=[some d0,some d1,some d2,some (.im (.tup hs)),some (.mu 0),z5,z6,z7,z8]
def Ez{n k:Nat}(h:74)(hk:k<n):atI (((69 n).map λk=>I.int (h k)).map D.im) (k:Int)=some (.im (.int (h k))):=IH rfl (by simp[hk])
def eZ{W:98}{rk:183}{h:74}{ks:73}(hok:FM ws)(hW:W.length<=16)(R:Rk (λk=>k<66) W rk)(hrk:∀k,k<66->rk k<66)(H:IsHead (λk=>k<66) (Ag ws) (AW ws) W h)
 (hb:∀k,k<66->0<=h k/\h k<=1000000) (hs:ks.Pairwise (·<·)) (hk:∀k∈ks,k<66) (hl:181<=8):
 WF D8 [.im (AQ ws),.im 119,.im (Aa ks)] [] λd x=>∃bs:List Blk,d=.mu 0/\x=[.lst (bs.map CZ)]/\Sx.Rows h 178 ks bs:=by
 have hn:=hok.2.1;unfold D8;refine Au rfl ?_;refine AA (AK (Ae (A3 (A2 rfl (A3 (A2 rfl (A7 ⟨by simp,(Ib hn (λk hk=>(ER hok hk).1) hW R hrk H).mono ?_⟩)))))));rintro r x rfl;refine⟨_,rfl,A5 ?_⟩;refine AA (AK (Al (BG (A7 ⟨DI,A5 ?_⟩))));change WS _ (Lb 132 (.im 119) (.im (Aa ks)) ((152).map λk=>I.int (h k)) none none none none) [.lst []] _;have pokk:∀k,k<66->pok (h k,(k:Int)):=λk hk=>by have:=hb k hk;unfold pok;dsimp only;omega
 have nd:ks.Nodup:=hs.imp λq=>by omega
 refine AA (CL (J7 (UU (A2 rfl ⟨Sx.cst ks,λn=>(h n.toNat,n),?_,?_,?_,?_,?_,?_,λms pm pw=>?_⟩))))
 .show Ai (.im (Aa ks))=_;simp[Sx.cst]
 .simp[Sx.cst];omega
 .unfold Sx.cst;rw[List.nodup_iff_pairwise_ne,jQ];exact hs.imp λq=>by omega
 .intro n hn';obtain⟨k,hk',rfl⟩:=mem_map.mp hn';dsimp only;rw[jl];exact pokk k (hk k hk')
 .intro a ha b hb' e;obtain⟨k,hk1,rfl⟩:=mem_map.mp ha;obtain⟨j,hk2,rfl⟩:=mem_map.mp hb';dsimp only at e;rw[jl,jl]at e;have:=Nt (pokk k (hk k hk1)) (pokk j (hk j hk2)) e;exact jm Prod.snd this
 .intro n hn';obtain⟨k,hk',rfl⟩:=mem_map.mp hn';have hkn:=hk k hk';dsimp only;rw[jl];have:=Ez h hkn;simp only[du,Ih,KZ,DJ,List.getElem?_cons_zero,List.getElem?_cons_succ,j3,jr,Option.join_some,bind_some,Xa,Cb,this,je,I0,ji,jG,Nat.reduceAdd,DH,j8,Ex,AT]
 obtain⟨msN,rfl,pmN⟩:∃msN:List Nat,ms=Sx.cst msN/\msN.Perm ks:=by
  refine⟨ms.map Int.toNat,?_,?_⟩
  .refine(OV λx hx=>?_).symm;obtain⟨k,_,rfl⟩:=mem_map.mp (pm.mem_iff.mp hx);omega
  .have:=pm.map Int.toNat
   have e:(Sx.cst ks).map Int.toNat=ks:=by simp[Sx.cst,Function.comp_def]
   rwa [e]at this
 have pwN:msN.Pairwise λa b=>h a<=h b:=by
  unfold Sx.cst at pw;rw[jQ]at pw;refine pw.imp_of_mem λ{a b} ha hb' q=>?_
  have h1:=hb a (hk a (pmN.mem_iff.mp ha));have h2:=hb b (hk b (pmN.mem_iff.mp hb'));have l1:=hk a (pmN.mem_iff.mp ha);have l2:=hk b (pmN.mem_iff.mp hb');unfold B2 at q;dsimp only at q;rw[jl,jl]at q;omega
 have hkN:∀k∈msN,k<ws.length:=λk hk'=>hk k (pmN.mem_iff.mp hk');have hlN:msN.length<=8:=by rw[pmN.length_eq];exact hl
 have rows:=Sx.rows_stret (h:=h) (C3 ws) msN.length msN ks rfl hs pmN pwN;have ec:((Sx.cst msN).map λn=>D.im (.int n))=AG msN:=by simp[Sx.cst,AG]
 rw[ec];refine BX (λr ls hd=>∃(rest:73) (tl:List Blk) (z5 z6 z7 z8:Option D),r=AG rest/\ls=Lb 132 (.im 119) (.im (Aa ks)) ((152).map λk=>I.int (h k)) z5 z6 z7 z8/\hd=[.lst (tl.map CZ)]/\(∀k∈rest,k<66)/\tl.length+rest.length<=8 /\
  ((tl=[]/\rest=msN)∨∃done b e C,tl=done++[(b,e,AY (Sx.cst C))]/\C≠[]/\C.length+rest.length<=8/\done++spl h 178 b e C rest=GU h 178 msN)) ⟨msN,[],none,none,none,none,rfl,rfl,rfl,hkN,by simpa using hlN,.inl ⟨rfl,rfl⟩⟩ ?_ ?_
 .rintro d r ls hd ⟨rest,tl,z5,z6,z7,z8,er,rfl,rfl,hkr,hlen,cs⟩;cases rest with
  |nil=>cases er
  |cons m rest=>
   obtain⟨rfl,rfl⟩:=166 er;have hm:m<ws.length:=hkr m 71;have hkr':∀k∈rest,k<ws.length:=λk hk'=>hkr k (by simp[hk']);have hm':=Ez h hm;have e1:=Di hok hm;refine⟨Lb 132 (.im 119) (.im (Aa ks)) ((152).map λk=>I.int (h k)) (some (.im (.int (m:Int)))) z6 z7 z8,rfl,?_⟩;have lenx:∀{ls:Ls} {hd:Hd} {QE:172},ls[0]?=some (some 132)->ls[5]?=some (some (.im (.int (m:Int))))->QE (.im (.int (AW ws m))) hd->WE (mOp gIx (mOp gIx 77 (A0 5)) 122) ls hd QE:=λa b q=>
    A9 (A9 (A2 a (A2 b (AF (by rw[Cb,<- BI]) (D2 hm) (AS (AF rfl (Cg _ _) (by rw[HM hm];exact q)))))))
   have app:∀(Q:Fl->Hd->Prop),Q (.nx (Lb 132 (.im 119) (.im (Aa ks)) ((152).map λk=>I.int (h k)) (some (.im (.int (m:Int)))) z6 z7 z8)) [.lst ((tl++[(h m,h m+AO ws m,[(m:Int)])]).map CZ)] ->
    WS (An (mMt AX (A0 4) (A1 (B5 (A1 (mOp gIx 167 (A0 5)) (A1 (mOp B0 (mOp gIx 167 (A0 5)) (mOp gIx (mOp gIx 77 (A0 5)) 122)) (A1 (B5 (A1 (A0 5) A4)) A4)))) A4))) (Lb 132 (.im 119) (.im (Aa ks)) ((152).map λk=>I.int (h k)) (some (.im (.int (m:Int)))) z6 z7 z8) [.lst (tl.map CZ)] Q:=by
    intro Q q;refine BP (CT (A2 rfl ⟨⟨_,rfl⟩,A3 (BY (A3 (A9 (A2 rfl (A2 rfl (AF rfl hm' ?_)))))) ⟩));refine A3 (A9 (A9 (A2 rfl (A2 rfl (AF rfl hm' (lenx rfl rfl (Cl ?_)))))));refine A3 (BY (A3 (A2 rfl (A7 ⟨Cw,A7 ⟨Cc,A7 (C0 rfl (Ax (by simp at hlen ⊢;omega)) ?_)⟩⟩))));rw[Ph,GG,<- e1];rw[jB]at q;exact q
   refine BA (Dr (AR (Xq (A2 rfl ⟨tl,Z7 rfl,_,rfl,?_⟩))));rcases cs with⟨rfl,rfl⟩|⟨done,b,e,C,rfl,hC,hCl,es⟩
   .rw[il 71];refine⟨λ_=>app _ ?_,λq=>by cases q⟩;refine⟨AJ _,rest,_,_,_,_,_,rfl,rfl,rfl,hkr',by simp at hlen ⊢;omega,.inr ⟨[],h m,h m+AO ws m,[m],by rw[NQ],by simp,by simp at hlN ⊢;omega,rfl⟩⟩
   .rw[ip 71];have el:Ao [MO.lst ((done++[(b,e,AY (Sx.cst C))]).map CZ)] (.mu 0)=some (done.map CZ++[CZ (b,e,AY (Sx.cst C))]):=by
     rw[X1,IV];simp
    refine AR (A9 (A9 (A2 rfl (A2 rfl (AF rfl hm' ?_)))));refine A9 (A9 (A2 rfl (HN (AS ⟨_,rfl,AF el (Jj _ _) (AS (AF rfl (DD _ _ _) (Jm ⟨_,rfl,λq=>?_,λq=>?_⟩)))⟩))))
    .have q:e<=h m:=jA q;refine app _ ⟨AJ _,rest,_,_,_,_,_,rfl,rfl,rfl,hkr',by simp at hlen ⊢;omega,.inr ⟨done++[(b,e,AY (Sx.cst C))],h m,h m+AO ws m,[m],by rw[NQ],by simp,by simp at hCl ⊢;omega,?_⟩⟩;rw[<- es];rw[Y4 q];simp
    .have q:¬ e<=h m:=jT q;refine AA (HK (A9 (A2 rfl (HN (AS ⟨_,rfl,AF el (Jj _ _) ⟨_,rfl,A5 ?_⟩⟩)))));change WS _ (Lb 132 (.im 119) (.im (Aa ks)) ((152).map λk=>I.int (h k)) (some (.im (.int (m:Int)))) (some (.im (.int b))) (some (.im (.int e))) (some (.im (.tup ((AY (Sx.cst C)).map I.int))))) _ _;have sl:(AY (Sx.cst C)).length=C.length:=by rw[(Bw _).length_eq];simp[Sx.cst]
     refine Cd (BY (A3 (A2 rfl (A3 (A9 (A2 rfl (lenx rfl rfl (Cl ?_))))))));refine A3 (Bj (Ln (Bv (A9 (A2 rfl (BY (A3 (A2 rfl (A7 ⟨Cw,?_⟩)))))))));rw[Ph];refine Xn (by intro z;have:=jm List.length z;simp[sl]at this;exact hC this) (by simp[sl];simp at hCl;omega) ⟨_,rfl,AY (Sx.cst C)++[(m:Int)],by simp[intD],by simp[sl];simp at hCl;omega,?_⟩;refine⟨_,rfl,A7 ⟨Cc,?_⟩⟩;rw[SL];have em:B7 (intD (AY (Sx.cst (C++[m]))))=.im (.tup ((AY (Sx.cst (C++[m]))).map I.int)):=by
      have:intD (AY (Sx.cst (C++[m])))=((AY (Sx.cst (C++[m]))).map I.int).map D.im:=by simp[intD]
      rw[this,Bc]
     rw[em,GG,<- e1];refine A2 rfl (HN (AS ⟨_,rfl,0,-1,done.length,(done++[(b,e,AY (Sx.cst C))]).map CZ,rfl,rfl,rfl,?_,?_⟩))
     .simp[ixN];omega
     refine⟨AJ _,rest,done++[(b,e+AO ws m,AY (Sx.cst (C++[m])))],_,_,_,_,rfl,rfl,?_,hkr',by simp at hlen ⊢;omega,.inr ⟨done,b,e+AO ws m,C++[m],rfl,by simp,by simp at hCl ⊢;omega,?_⟩⟩
     .simp[Gx]
     .rw[<- es];rw[Y5 q]
 .rintro ls hd ⟨rest,tl,z5,z6,z7,z8,er,rfl,rfl,hkr,hlen,cs⟩;have:rest=[]:=by cases rest with
   |nil=>rfl
   |cons _ _=>cases er
  subst this;refine A5 (Ap (A2 rfl ⟨tl,rfl,rfl,?_⟩));rcases cs with⟨rfl,e⟩|⟨done,b,e,C,rfl,hC,hCl,es⟩
  .rw[<- e]at rows;exact rows
  .have:GU h 178 msN=done++[(b,e,AY (Sx.cst C))]:=by rw[<- es];rfl
   rw[this]at rows;exact rows
structure Ev(ws:174)(cs:192)(W:98)(rk:183)(h:74):Prop where
 ok:FM ws
 hcs:S4 ws cs
 hW:W.length<=16
 R:Rk (λk=>k<66) W rk
 hrk:∀k,k<66->rk k<66
 H:IsHead (λk=>k<66) (Ag ws) (AW ws) W h
 hb:∀k,k<66->0<=h k/\h k<=1000000
section
variable{cs:192}{rk:183}{h:74}
def Ev.hM(E:121):Mt 66 (Bq W) (Mc W):=fX _ _
def Ev.lne(E:121)(hne:ks≠[]):C7 (Mc W) ks≠[]:=Zl (rk:=rk) hne λu _ v _ q=>fW E.R q
def Ev.sh(E:121):Wsh 66 (Bq W):=⟨by simpa using E.hW,λp hp=>by
 obtain⟨q,hq,rfl⟩:=mem_map.mp hp;have:=E.R.ins q hq;exact⟨q.1,q.2,this.1,this.2,rfl⟩⟩
structure St(ws:174)(ks:73):Prop where
 ne:ks≠[]
 lt:∀k∈ks,k<66
 l8:181<=8
def aH(E:121)(S:St ws ks):WF Bz [.im (AQ ws),.im 119,.im (Aa ks)] [] λd x=>d=.im (.int (bnd ws cs h (Mc W) ks)):=
 Ko E.ok.2.1 (λk hk=>(ER E.ok hk).1) E.hW E.R E.hrk E.H E.hM E.hcs S.ne S.lt S.l8 (E.lne S.ne)
noncomputable def kfC(cs:192)(t:Int):D->Int|.im (.int i)=>(cs i.toNat).at t|_=>0
def Kh(E:121)(S:St ws ks)(t:Int):WF CH [.im (AQ ws),.im 119,.im (Aa ks),.im (.int t)] [] λd x=>∃u:Nat,d=.im (.int (u:Int))/\u∈C7 (Mc W) ks/\(cs u).at t=C8 ((C7 (Mc W) ks).map λk=>(cs k).at t):=by
 unfold CH;refine Au rfl ?_;refine Ap (SE (Ae (A3 (BE (A3 (A2 rfl (A7 (BK rfl rfl ?_))))))));refine A3 (A2 rfl (A3 (A2 rfl (A7 ⟨by simp,?_⟩))));have ew:W.map AI=(Bq W).map GD:=by rw[j5];rfl
 have eln:(((ws.map wgI).map D.im).length:Int)=(ws.length:Int):=by simp
 rw[eln,ew];refine(TZ E.sh E.hM S.lt S.l8).mono ?_;rintro r x rfl;refine⟨_,rfl,?_⟩;have hne:=E.lne S.ne;have hlt:∀k∈C7 (Mc W) ks,k<ws.length:=λk hk=>S.lt k (mem_filter.mp hk).1;generalize C7 (Mc W) ks=L at hne hlt;cases L with
 |nil=>exact absurd rfl hne
 |cons b r=>
  have bm:=Jh (kfC cs t) (AG r) (.im (.int (b:Int)));refine⟨.im (.int (b:Int)),AG r,kfC cs t,?_,λy hy=>?_,?_⟩
  .show some (((b::r).map λk:Nat=>I.int (k:Int)).map D.im)=_;simp[AG]
  .obtain⟨k,hk,rfl⟩:=mem_map.mp (show y∈AG (b::r)from hy);have hkn:=hlt k hk;have w:WE (A8 0 F_cost_at (A1 (mOp gIx (mOp gIx 153 77) 188) (A1 131 A4))) [some (.im 136),some (.im (.int t)),some 132] [] λd x=>d=.im (.int ((cs k).at t))/\x=[]:=by
    refine Ae (A3 (A9 (A9 (A2 rfl (A2 rfl (AF (by rw[Cb,<- BI]) (D2 hkn) (AS (AF rfl (Ef _ _ _ _) ?_))))))));rw[II E.hcs hkn];refine A3 (A2 rfl (A7 ⟨by simp,?_⟩));rw[ML];exact WP.eq (Kb _ _ (TK (E.hcs k hkn).2.1)) ⟨_,rfl,rfl,rfl⟩
   obtain⟨d,x,e,rfl,rfl⟩:=w;exact e
  .obtain⟨h1,h2⟩:=bm;obtain⟨u,hu,eu⟩:=mem_map.mp (show BW (λn m=>decide (n<m)) (AG r) ((AG r).map (kfC cs t)) (.im (.int (b:Int))) (kfC cs t (.im (.int (b:Int))))∈AG (b::r)from h1);rw[<- eu]at h2 ⊢;refine⟨u,rfl,hu,?_⟩;have h3:∀k∈b::r,(cs u).at t<=(cs k).at t:=λk hk=>by
    have:=h2 (.im 136) (show _∈AG (b::r)from mem_map.mpr ⟨k,hk,rfl⟩);simpa [kfC]using this
   have ms:=BS (xs:=(b::r).map λk=>(cs k).at t) 71;have g1:=ms.2 _ (mem_map.mpr ⟨u,hu,rfl⟩);obtain⟨v,hv,ev⟩:=mem_map.mp ms.1;have g2:=h3 v hv
   try dsimp only at ev g1
   omega
def Lm(ks:73)(u:Nat)(hl:181<=8):WF EU [.im (Aa ks),.im (.int (u:Int))] [] λd x=>d=.im (Aa (ks.filter λk=>decide (k≠u))):=by
 unfold EU;refine Au rfl ?_;refine Ap (Bj (Ah (Bv (A2 rfl ⟨_,rfl,?_⟩))));rw[D4];refine⟨AL (by simp[AG];omega),?_⟩;refine Ay (λk:Nat=>D.im 136) (λk=>if k≠u then some (.im 136)else none) (λ_ ls=>∃x,ls=[some x,some (.im (.int (u:Int)))]) _ (AJ _) ?_ ?_
 .rintro k hk ls hls;refine⟨[some (.im 136),some (.im (.int (u:Int)))],by rcases hls with rfl|⟨_,x,rfl⟩<;>rfl,⟨_,rfl⟩,AR (A9 (A2 rfl (A2 rfl (FA ⟨_,rfl,rfl,?_⟩))))⟩;by_cases h:k=u
  .subst h;simp
  .have h1:¬ ((k:Int)=(u:Int)):=by omega
   simp only[h1,kF,Bool.not_false,j8];exact⟨_,by simp[h],A2 rfl ⟨rfl,rfl⟩⟩
 rw[Mz];exact⟨_,rfl,DY _⟩
def Lw{ss:List (List Nat)}(h:d∈ss.map Aj):∃s∈ss,d=Aj s:=by
 obtain⟨s,h1,h2⟩:=mem_map.mp h;exact⟨s,h1,h2.symm⟩
noncomputable def Rv:I->Nat|.int i=>i.toNat|_=>0
noncomputable def kfB(ws:174)(cs:192)(h:74)(W:98):D->Int|.im (.tup is)=>bnd ws cs h (Mc W) (is.map Rv)|_=>0
def LN(s:73):kfB ws cs h W (Aj s)=bnd ws cs h (Mc W) s:=by
 show bnd ws cs h (Mc W) ((s.map λk:Nat=>I.int (k:Int)).map Rv)=_;rw[j5]
 congr 1
 have:(Rv ∘ λk:Nat=>I.int (k:Int))=id:=by funext k;simp[Rv]
 rw[this,map_id]
def Pu(E:121){k:Nat}{ss:List (List Nat)}(e:hd[k]?=some (.lst (ss.map Aj)))(hne:ss≠[])(hs:∀s∈ss,St ws s):WF C6 [.im (AQ ws),.im 119,.mu k] hd λd x=>∃s∈ss,d=Aj s/\∀s'∈ss,bnd ws cs h (Mc W) s'<=bnd ws cs h (Mc W) s:=by
 unfold C6;refine Au rfl ?_;cases ss with
 |nil=>exact absurd rfl hne
 |cons b r=>
  have bm:=Ji (kfB ws cs h W) (r.map Aj) (Aj b);refine Ap (US (A2 rfl ⟨Aj b,r.map Aj,kfB ws cs h W,?_,λy hy=>?_,?_⟩))
  .simp only[Ad,e];rfl
  .obtain⟨s,hs',rfl⟩:=Lw (ss:=b::r) hy;have w:WE (A8 0 Bz (A1 131 (A1 153 (A1 77 A4)))) [some (Aj s),some 132,some (.im 119)] hd λd x=>d=.im (.int (bnd ws cs h (Mc W) s))/\x=hd:=by
    refine Ae (A3 (A2 rfl (A3 (A2 rfl (A3 (A2 rfl (A7 ⟨by simp,(aH E (hs s hs')).mono ?_⟩)))))));rintro d x rfl;exact⟨_,rfl,rfl,rfl⟩
   obtain⟨d,x,e,rfl,rfl⟩:=w;rw[LN];exact e
  .obtain⟨h1,h2⟩:=bm;obtain⟨s,hs',es⟩:=Lw (ss:=b::r) h1;rw[es]at h2 ⊢;refine⟨s,hs',rfl,λs' h'=>?_⟩;have:=h2 (Aj s') (show _∈(b::r).map Aj from mem_map.mpr ⟨s',h',rfl⟩);rw[LN,LN]at this;exact this
end
open Sx (Blk)
open Bk (Pc gf Brk)
noncomputable def pcI(p:Pc):I:=.tup [.int (p.1:Int),.int p.2.1,.int p.2.2]
abbrev pcD(p:Pc):D:=.im (pcI p)
theorem OI{u:Nat}{e:Int}:∀{qs:List Pc} {a:Int},(gf u a e qs).length<=2*qs.length+1
 |[],a=>by simp[gf]
 |q::r,a=>by
  have ih:=OI (u:=u) (e:=e) (qs:=r) (a:=q.2.2);rw[gf];simp only[jo,ji];split<;>simp<;>omega
inductive I_gap(u:Nat)(b e:Int)(k:Nat)(qs:List Pc)(hd0:Hd)(r:137)(ls:Ls)(hd:Hd):Prop
 |mk (rest told:List Pc) (at_:Int) (z6:Option D) (h0:r=rest.map pcD) (h1:ls=[some (.im (.int (u:Int))),some (.im (.int b)),some (.im (.int e)),some (.mu k),some (.mu hd0.length),some (.im (.int at_)),z6]) (h2:hd=hd0++[.lst (told.map pcD)]) (h3:told++gf u at_ e rest=gf u b e qs):I_gap u b e k qs hd0 r ls hd
def JC(H:Hd)(x y:MO):(H++[x]).set H.length y=H++[y]:=by simp
def CW(H:Hd)(x:MO):(H++[x])[H.length]?=some x:=by simp
def LL(H:Hd)(ds:137):Ad (H++[.lst ds]) (.mu H.length)=some ds:=by rw[IV,CW]
def fh{u:Nat}{b e:Int}{k:Nat}{qs:List Pc}(ek:hd[k]?=some (.lst (qs.map pcD)))(hl:qs.length<=1000):WF DW [.im (.int (u:Int)),.im (.int b),.im (.int e),.mu k] hd λd x=>d=.mu 150/\x=hd++[.lst ((gf u b e qs).map pcD)]:=by
 have gl:=OI (u:=u) (e:=e) (qs:=qs) (a:=b);unfold DW;refine Au rfl ?_;refine AA (AK (Al (BG (A7 ⟨DI,A5 ?_⟩))));refine AA (AK (A2 rfl (A5 ?_)));refine AA (CL (Fv (A2 rfl ⟨k,_,rfl,Oh ek _,?_⟩)));refine BX (I_gap u b e k qs hd) ⟨qs,[],b,none,rfl,rfl,rfl,rfl⟩ ?_ ?_
 .rintro d r ls hd' ⟨rest,told,at_,z6,er,rfl,rfl,h3⟩;cases rest with
  |nil=>cases er
  |cons q rest=>
   obtain⟨rfl,rfl⟩:=166 er;have tl:told.length+2<=3000:=by
    have:=jm List.length h3;rw[gf]at this;simp only[jo,ji]at this;omega
   refine⟨_,rfl,?_⟩;dsimp only[set_cons_zero,set_cons_succ];have fin:∀(tl2:List Pc),tl2.length<=3000->tl2++q::gf u q.2.2 e rest=gf u b e qs->WS (A6 (An (mMt AX (A0 4) (A1 (A0 6) A4))) (AE 5 (mOp gIx (A0 6) 188))) [some (.im (.int (u:Int))),some (.im (.int b)),some (.im (.int e)),some (.mu k),some (.mu 150),some (.im (.int at_)),some (pcD q)] (hd++[.lst (tl2.map pcD)]) (Wx [(k,qs.map pcD)] (I_gap u b e k qs hd (rest.map pcD)) (Mp (A6 (An (mMt AX (A0 4) (A1 (B5 (A1 77 (A1 (A0 5) (A1 153 A4)))) A4))) (AN (A0 4))) λf x=>match f with
    |.rt d=>d=.mu 150/\x=hd++[.lst ((gf u b e qs).map pcD)]
    |.nx _=>D.im .non=.mu 150/\x=hd++[.lst ((gf u b e qs).map pcD)]
    | _=>False)):=by
    intro tl2 l2 e2;refine AA (BP (CT (A2 rfl ⟨⟨_,LL _ _⟩,A3 (A2 rfl (A7 (C0 (CW _ _) (Ax 82) (A5 ?_))))⟩)));rw[JC];refine AK (A9 (A2 rfl (AS (AF rfl (Ef _ _ _ _) ?_))));refine⟨λp hp=>?_,rest,tl2++[q],q.2.2,some (pcD q),rfl,rfl,by simp,by simpa using e2⟩;rw[jd]at hp;subst hp;exact Oh ek _
   rw[gf]at h3;refine AA (BA (AR (A9 (A2 rfl (A9 (A2 rfl (AS (AF rfl (DD _ _ _) (Fd ⟨_,rfl,λc=>?_,λc=>Az (A5 ?_)⟩)))))))))
   .have c:at_<q.2.1:=jA c;rw[il c]at h3;refine BP (CT (A2 rfl ⟨⟨_,LL _ _⟩,A3 (BY (A3 (A2 rfl (A3 (A2 rfl (A3 (A9 (A2 rfl (AS (AF rfl (DD _ _ _) (A7 ⟨Cc,?_⟩)))))))))))⟩));refine A7 (C0 (CW _ _) (Ax 82) (A5 ?_));rw[JC,GG];have e2:told.map pcD++[D.im (.tup [.int (u:Int),.int at_,.int q.2.1])]=(told++[(u,at_,q.2.1)]).map pcD:=by rw[jB];rfl
    rw[e2];exact fin _ 82 (by simpa using h3)
   .have c:¬ at_<q.2.1:=jT c;rw[ip c]at h3;exact fin told 68 h3
 .rintro ls hd' ⟨rest,told,at_,z6,er,rfl,rfl,h3⟩;have:rest=[]:=by cases rest with
   |nil=>rfl
   |cons t r=>cases er
  subst this;refine A5 ?_;have tl:told.length<=3000:=by
   have:=jm List.length h3;simp only[jo]at this;omega
  refine AA (BP (CT (A2 rfl ⟨⟨_,LL _ _⟩,A3 (BY (A3 (A2 rfl (A3 (A2 rfl (A3 (A2 rfl (A7 ⟨Cc,?_⟩))))))))⟩)));refine A7 (C0 (CW _ _) (Ax 82) (A5 ?_));rw[JC,GG];refine Ap (A2 rfl ⟨rfl,?_⟩);rw[<- h3,gf,jB];rfl
open Sx (Blk)
open Bk (Pc gf Brk)
def Dc{F:118}{QE:172}(h:WA m ls hd λds rest=>As 0 ds=true/\WF F ds [] λd x=>∃k es,d=.mu k/\x[k]?=some (.lst es)/\As 0 es=true/\QE (.mu rest.length) (rest++[.lst es])):WE (A8 0 F m) ls hd QE:=by
 obtain⟨ds,rest,e,hc,d,x,e2,k,es,rfl,e3,c3,q⟩:=h;refine⟨_,_,?_,q⟩;have t3:¬ k<0:=by omega
 simp only[A8,e,bind_some,List.take_zero,hc,e2,fin,ip t3,e3,c3,j8];simp
def V2{h l:74}{left:73}(r:Sx.Rows h l left (B::bs)):∃C R b,B=(b,b+Sx.S l C,Sx.cst (left.filter λk=>decide (k∈C)))/\left.Perm (C++R)/\Sx.ChOk h l b C R/\Sx.Rows h l (left.filter λk=>!decide (k∈C)) bs:=by
 cases r with
 |cons pm K r=>exact⟨_,_,_,rfl,pm,K,r⟩
def V1{h l:74}{left:73}(r:Sx.Rows h l left []):left=[]:=by cases r;rfl
def dP{x y:Nat}(hx:1<=x)(hy:1<=y):x+y<=x*y+1:=by
 obtain⟨a,rfl⟩:∃a,x=a+1:=⟨x-1,by omega⟩
 obtain⟨b,rfl⟩:∃b,y=b+1:=⟨y-1,by omega⟩
 rw[Nat.add_mul,Nat.mul_add];omega
def dt(m a:Nat):2^m+2^a<=2^(m+a)+1:=by
 rw[Nat.pow_add];exact dP (Nat.pos_of_ne_zero 71) (Nat.pos_of_ne_zero 71)
theorem OM(p:Nat->Bool):∀L:List Nat,(L.filter p).length+(L.filter λx=>!p x).length=L.length
 |[]=>rfl
 |x::r=>by
  have ih:=OM p r;by_cases h:p x=true
  .rw[k9 h,ko (by simp[h])];simp only[ji];omega
  .rw[ko h,k9 (by simpa using h)];simp only[ji];omega
def MK{u:Nat}{L:73}(h:u∈L):(L.filter λk=>decide (k≠u)).length<L.length:=by
 induction L with
 |nil=>cases h
 |cons x r ih=>
  by_cases e:x=u
  .subst e;have:=jZ (λk=>decide (k≠x)) r;simp;simpa using Nat.lt_succ_of_le this
  .have h:u∈r:=by rcases mem_cons.mp h with q|q;exact absurd q.symm e;exact q
   have:=ih h;rw[k9 (by simpa using e)];simp only[ji];omega
theorem Qa(k:Nat){α:Type}(f:α->I):∀L:List α,EV k (L.map λx=>D.im (f x))=L.map λx=>D.im (f x)
 |[]=>rfl
 |x::r=>by simp only[j3,EV,shD,Qa k f r]
def X2(k:Nat)(L:List Pc):EV k (L.map pcD)=L.map pcD:=Qa k pcI L
def SN(k:Nat)(L:List (List Nat)):EV k (L.map Aj)=L.map Aj:=Qa k Aa L
abbrev chz(cs:192)(W:98):List Nat->Int->Nat->Prop:=λM e u=>u∈C7 (Mc W) M/\(cs u).at e=C8 ((C7 (Mc W) M).map λk=>(cs k).at e)
inductive I_brk(ws:174)(cs:192)(W:98)(h:74)(ks:73)(bs:List Blk)(r:137)(ls:Ls)(hd:Hd):Prop
 |mk (left:73) (bs':List Blk) (ps:List Pc) (ss:List (List Nat)) (g:Hd) (z5 z6 z7 z8 z9 z10:Option D) (h0:r=bs'.map CZ) (h1:ls=[some 132,some (.im 119),some (.im (Aa ks)),some (.mu 0),some (.mu 1),z5,z6,z7,z8,z9,z10]) (h2:hd=.lst (ps.map pcD)::.lst (ss.map Aj)::.lst (bs.map CZ)::g)
  (h3:Sx.Rows h 178 left bs') (h4:left.Sublist ks) (h5:∀pR sR,Brk h 178 (chz cs W) left pR sR->Brk h 178 (chz cs W) ks (ps++pR) (ss++sR)) (h6:126+2^left.length<=2^181) (h7:ss.length+left.length<=181):I_brk ws cs W h ks bs r ls hd
section
variable{ws:174}{cs:192}{W:98}{rk:183}{h:74}
set_option maxHeartbeats 1000000 in
theorem Xd(E:121):∀(n:Nat) {ks:73},181<n->ks.Pairwise (·<·)->(∀k∈ks,k<66)->181<=8->WF (Cz n) [.im (AQ ws),.im 119,.im (Aa ks)] [] λd x=>∃(ps:List Pc) (ss:List (List Nat)) (g:Hd),d=.tm [.mu 0,.mu 1]/\x=.lst (ps.map pcD)::.lst (ss.map Aj)::g/\Brk h 178 (chz cs W) ks ps ss/\126+1<=2^181/\ss.length<=181
 |0,ks,h0,_,_,_=>by omega
 |n+1,ks,hn,hs,hk,hl=>by
  have ih:=λ{ks}=>Xd E n (ks:=ks)
  show WF (mkF 3 11 (Hg (Cz n))) _ _ _;refine Au rfl ?_;refine AA (AK (Al (BG (A7 ⟨DI,A5 ?_⟩))));refine AA (AK (Al (BG (A7 ⟨DI,A5 ?_⟩))));refine AA (CL (Fv (Dc (A3 (A2 rfl (A3 (A2 rfl (A3 (A2 rfl (A7 ⟨by simp,(eZ E.ok E.hW E.R E.hrk E.H E.hb hs hk hl).mono ?_⟩))))))))));rintro d x ⟨bs,rfl,rfl,rows⟩;refine⟨0,_,rfl,rfl,Ke 0 Gx bs,2,_,rfl,rfl,?_⟩;have e8:2^181<=256:=T8 hl;refine BX (I_brk ws cs W h ks bs) ⟨ks,bs,[],[],[],none,none,none,none,none,none,rfl,rfl,rfl,rows,List.Sublist.refl _,λpR sR B=>B,by simp,by simp⟩ ?_ ?_
  .rintro d r ls hd ⟨left,bs',ps,ss,g,z5,z6,z7,z8,z9,z10,er,rfl,rfl,rows',sub,clo,lp,ls'⟩;cases bs' with
   |nil=>cases er
   |cons B bs'=>
    obtain⟨rfl,rfl⟩:=166 er;obtain⟨C,R,b,rfl,pm,K,rows2⟩:=V2 rows';have nd:left.Nodup:=(hs.sublist sub).imp λq=>by omega
    have mM:∀k,k∈left.filter (λk=>decide (k∈C))↔k∈C:=λk=>by
     rw[j9];exact⟨λz=>by simpa using z.2,λz=>⟨pm.mem_iff.mpr (jv _ z),by simpa using z⟩⟩
    have ne:left.filter (λk=>decide (k∈C))≠[]:=by
     obtain⟨c,C',e1,_⟩:=K.fst;exact jH ((mM c).mpr (by rw[e1];simp))
    have subM:(left.filter λk=>decide (k∈C)).Sublist ks:=filter_sublist.trans sub;have lM:(left.filter λk=>decide (k∈C)).length<=8:=j6 subM.length_le hl;have S:St ws (left.filter λk=>decide (k∈C)):=⟨ne,λk hk'=>hk k (subM.subset hk'),lM⟩
    have fl:=OM (λk=>decide (k∈C)) left;refine⟨_,rfl,?_⟩;have eM:((Sx.cst (left.filter λk=>decide (k∈C))).map I.int)=(left.filter λk=>decide (k∈C)).map λk:Nat=>I.int (k:Int):=by simp[Sx.cst]
    dsimp only[set_cons_zero,set_cons_succ];rw[eM];refine AA (AK (Ae (A3 (A2 rfl (A3 (A2 rfl (A3 (A2 rfl (A3 (A2 rfl (A7 ⟨by simp,(Kh E S _).mono ?_⟩)))))))))));rintro d x ⟨u,rfl,hu,ec⟩;refine⟨_,rfl,A5 ?_⟩;have uM:=(mem_filter.mp hu).1;have flt:=MK uM;have subN:((left.filter λk=>decide (k∈C)).filter λk=>decide (k≠u)).Sublist ks:=filter_sublist.trans subM;refine AA (HK (N6 (A3 (A2 rfl (A3 (A2 rfl (A3 (Ae (A3 (A2 rfl (A3 (A2 rfl (A7 ⟨by simp,(Lm _ u lM).mono ?_⟩)))))))))))));rintro d x rfl;refine⟨_,rfl,A7 ⟨by simp,(ih (by have:=subM.length_le;omega) (hs.sublist subN) (λk hk'=>hk k (subN.subset hk')) 68).mono ?_⟩⟩;rintro d x ⟨qs,ts,g',rfl,rfl,BN,l1,l2⟩;refine⟨_,rfl,A5 ?_⟩;generalize eH:(MO.lst (ps.map pcD)::MO.lst (ss.map Aj)::MO.lst (bs.map CZ)::g)=H;have eh:((MO.lst (qs.map pcD)::MO.lst (ts.map Aj)::g').map (shO H.length))=MO.lst (qs.map pcD)::MO.lst (ts.map Aj)::g'.map (shO H.length):=by
     simp only[j3,shO,X2,SN]
    rw[eh];generalize g'.map (shO H.length)=g2;have p1:2^((left.filter λk=>decide (k∈C)).filter λk=>decide (k≠u)).length*2<=2^(left.filter λk=>decide (k∈C)).length:=by
     rw[<- Nat.pow_succ];exact Nat.pow_le_pow_right 68 68
    have p2:=dt (left.filter λk=>decide (k∈C)).length (left.filter λk=>!decide (k∈C)).length;rw[fl]at p2;have p3:0<2^(left.filter λk=>!decide (k∈C)).length:=Nat.pos_of_ne_zero 71;have gl:=OI (u:=u) (e:=b+Sx.S 178 C) (qs:=qs) (a:=b);have h00:(H++MO.lst (qs.map pcD)::MO.lst (ts.map Aj)::g2)[0+H.length]?=some (.lst (qs.map pcD)):=by rw[Nat.zero_add];exact hg0 _ _ _
    have h01:(H++MO.lst (qs.map pcD)::MO.lst (ts.map Aj)::g2)[1+H.length]?=some (.lst (ts.map Aj)):=by rw[Nat.add_comm];exact hg1 _ _ _ _
    refine AA (P4 rfl (Br (A3 (A2 rfl (A3 (A2 rfl (A3 (A2 rfl (A3 (A2 rfl (A7 ((fh (u:=u) h00 68).mono ?_))))))))))));rintro d x ⟨rfl,rfl⟩;subst eH;refine⟨_,ps.map pcD,_,rfl,rfl,CW _ _,AL 82,A5 ?_⟩;generalize eg:(g++MO.lst (qs.map pcD)::MO.lst (ts.map Aj)::g2)++[MO.lst ((gf u b (b+Sx.S 178 C) qs).map pcD)]=g3;have h02:(MO.lst (ps.map pcD++(gf u b (b+Sx.S 178 C) qs).map pcD)::MO.lst (ss.map Aj)::MO.lst (bs.map CZ)::g3)[1+(MO.lst (ps.map pcD)::MO.lst (ss.map Aj)::MO.lst (bs.map CZ)::g).length]?=some (.lst (ts.map Aj)):=by
     rw[<- eg];show([MO.lst (ps.map pcD++(gf u b (b+Sx.S 178 C) qs).map pcD),MO.lst (ss.map Aj),MO.lst (bs.map CZ)]++((g++MO.lst (qs.map pcD)::MO.lst (ts.map Aj)::g2)++[MO.lst ((gf u b (b+Sx.S 178 C) qs).map pcD)]))[1+(g.length+1+1+1)]?=_;rw[List.getElem?_append_right 82,List.getElem?_append_left 82];have:=hg1 g (MO.lst (qs.map pcD)) (MO.lst (ts.map Aj)) g2;rw[<- this];congr 1;simp;omega
    change WS _ _ (MO.lst (ps.map pcD++(gf u b (b+Sx.S 178 C) qs).map pcD)::MO.lst (ss.map Aj)::MO.lst (bs.map CZ)::(g++MO.lst (qs.map pcD)::MO.lst (ts.map Aj)::g2)++[MO.lst ((gf u b (b+Sx.S 178 C) qs).map pcD)]) _;rw[show(MO.lst (ps.map pcD++(gf u b (b+Sx.S 178 C) qs).map pcD)::MO.lst (ss.map Aj)::MO.lst (bs.map CZ)::(g++MO.lst (qs.map pcD)::MO.lst (ts.map Aj)::g2)++[MO.lst ((gf u b (b+Sx.S 178 C) qs).map pcD)])=MO.lst (ps.map pcD++(gf u b (b+Sx.S 178 C) qs).map pcD)::MO.lst (ss.map Aj)::MO.lst (bs.map CZ)::g3 by rw[<- eg];rfl];refine P4 rfl (Al (N8 (Al (BG (A3 (A2 rfl (A7 ⟨Cw,A2 rfl ⟨_,_,_,_,rfl,rfl,CW _ _,Oh h02 _,AL 82,?_⟩⟩)))))));refine⟨_,ss.map Aj,_,rfl,rfl,CW _ _,AL 82,?_⟩;refine⟨λp hp=>?_,left.filter (λk=>!decide (k∈C)),bs',ps++gf u b (b+Sx.S 178 C) qs,ss++((left.filter λk=>decide (k∈C))::ts),(g3++[MO.lst [Aj (left.filter λk=>decide (k∈C))]]++[MO.lst ([Aj (left.filter λk=>decide (k∈C))]++ts.map Aj)]),_,_,_,_,_,_,rfl,rfl,?_,rows2,filter_sublist.trans sub,λpR sR B=>?_,?_,?_⟩
    .rw[jd]at hp;subst hp;rfl
    .rw[jB,jB];rfl
    .have:=clo _ _ (.cons pm K ⟨hu,ec⟩ ((mM u).mp uM) BN B);rw[jJ,jJ];exact this
    .simp only[jo];omega
    .simp only[jo,ji];omega
  .rintro ls hd ⟨left,bs',ps,ss,g,z5,z6,z7,z8,z9,z10,er,rfl,rfl,rows',sub,clo,lp,ls'⟩;have:bs'=[]:=by cases bs' with
    |nil=>rfl
    |cons t r=>cases er
   subst this;have:=V1 rows';subst this;refine A5 (Ap (BY (A3 (A2 rfl (A3 (A2 rfl (A7 ⟨DH,?_⟩)))))));have B:=clo [] [] .nil;rw[jq,jq]at B;exact⟨ps,ss,_,rfl,rfl,B,by simpa using lp,by simpa using ls'⟩
end
open Sx (Blk)
open Bk (Pc gf Brk)
def gr(ws:174)(cs:192)(en:74):Int:=Ct ((152).map λk=>(cs k).at (en k))
def fB{en:74}(hw:∀p∈W,en p.1<en p.2){x y:Int}(r:Rc (Bq W) x y):∀i:Nat,x=i->∃j:Nat,y=j/\en i<en j:=by
 induction r with
 |one h=>
  rintro i rfl;obtain⟨⟨a,b⟩,hp,e⟩:=mem_map.mp h;simp only[Prod.mk.injEq]at e;obtain⟨e1,rfl⟩:=e;have:a=i:=by omega
  subst this;exact⟨b,rfl,hw _ hp⟩
 |step _ h ih=>
  intro i hi;obtain⟨m,rfl,lm⟩:=ih i hi;obtain⟨⟨a,b⟩,hp,e⟩:=mem_map.mp h;simp only[Prod.mk.injEq]at e;obtain⟨e1,rfl⟩:=e;have:a=m:=by omega
  subst this;have l:=hw _ hp;exact⟨b,rfl,Int.lt_trans lm l⟩
section
variable{cs:192}{rk:183}{h:74}
def Ev.hs(E:121):Bk.Hs 66 (Ag ws) 178 W h where
 pos k _:=C3 ws k
 ins p hp:=E.R.ins p hp
 lo k hk:=E.H.lo k hk
 st p hp:=by have:=E.H.up p hp (E.R.ins p hp).2;rw[Di E.ok (E.R.ins p hp).1];exact this
 eq k hk:=by
  rcases E.H.eq k hk with e|⟨p,hp,e1,e2⟩
  .exact .inl e
  .exact .inr ⟨p,hp,e1,by rw[Di E.ok (E.R.ins p hp).1];exact e2⟩
def Ev.hch(E:121):∀M e u,chz cs W M e u->∀w∈W,w.1=u->w.2∉M:=by
 rintro M e u ⟨hu,_⟩ w hw rfl hM;have h3:=(mem_filter.mp hu).2;rw[Bool.not_eq_true',any_eq_false]at h3;refine h3 w.2 hM ?_;have:Rc (Bq W) (w.1:Int) (w.2:Int):=.one (mem_map.mpr ⟨w,hw,rfl⟩);simp[Mc,this]
def Ev.bok(E:121)(B:Brk h 178 (chz cs W) ks ps ss)(nd:ks.Nodup):Bk.Ok h 178 W (chz cs W) ks ps ss:=B.ok (C3 ws) E.hs.st E.hch nd
def Xf(E:121)(hk:∀k∈ks,k<66):Sx.S 178 ks=(ks.map (AW ws)).sum:=by
 unfold Sx.S
 congr 1
 exact jE λk hk'=>Di E.ok (hk k hk')
def aT(E:121){e:Int}(hM:∀k∈M,k<66)(w:Bk.Wd h 178 M e):e=DQ ws h M:=by
 obtain⟨⟨c,hc,e1⟩,e2⟩:=w;have ms:=BS (xs:=M.map h) (jH (mem_map.mpr ⟨c,hc,rfl⟩));have g1:=ms.2 _ (mem_map.mpr ⟨c,hc,rfl⟩);obtain⟨v,hv,ev⟩:=mem_map.mp ms.1;have g2:=e2 v hv;unfold DQ;rw[Xf E hM]at e1 g2;omega
def Re{en:74}{k:Nat}(hk:k<66):(cs k).at (en k)<=gr ws cs en:=
 (BH (xs:=(152).map λk=>(cs k).at (en k)) (jH (mem_map.mpr ⟨k,by simpa using hk,rfl⟩))).2 _ (mem_map.mpr ⟨k,by simpa using hk,rfl⟩)
theorem low(E:121){left en:74}{t:Int}(I:Bk.Inv 66 178 h W left en t)(h0:∀k,k<66->left k=0)(S:St ws ks)(nd:ks.Nodup):bnd ws cs h (Mc W) ks<=gr ws cs en:=by
 have ms:=BS (xs:=ks.map h) (by simpa using S.ne);obtain⟨u,hu,h1,h2⟩:=I.low E.hs h0 S.ne nd S.lt (b:=C8 (ks.map h)) λk hk=>ms.2 _ (mem_map.mpr ⟨k,hk,rfl⟩);rw[Xf E S.lt]at h1;have hw:∀p∈W,en p.1<en p.2:=λp hp=>(I.wi p hp (by
  have:=h0 p.2 (E.R.ins p hp).2;have:=C3 ws p.2;omega)).2
 have hlast:u∈C7 (Mc W) ks:=by
  refine mem_filter.mpr ⟨hu,?_⟩;rw[Bool.not_eq_true',any_eq_false];intro b hb q;have q:Rc (Bq W) u b:=by simpa [Mc]using q
  obtain⟨j,ej,lt⟩:=fB hw q u rfl;have:b=j:=by omega
  subst this;have:=h2 b hb;omega
 have g1:=(BS (xs:=(C7 (Mc W) ks).map λk=>(cs k).at (DQ ws h ks)) (jH (mem_map.mpr ⟨u,hlast,rfl⟩))).2 _ (mem_map.mpr ⟨u,hlast,rfl⟩);refine 182 g1 (182 (Lg (E.hcs u (S.lt u hu)).2.1 ?_) (Re (S.lt u hu)));exact h1
def Mr(E:121)(B:Brk h 178 (chz cs W) 152 ps ss):∀s∈ss,St ws s/\s.Nodup:=λs hs=>by
 have O:=E.bok B jC;obtain⟨h1,h2⟩:=O.set s hs;refine⟨⟨h1,λk hk=>by simpa using h2.subset hk,?_⟩,nodup_range.sublist h2⟩;have:=h2.length_le;have:=E.ok.2.1;simp at *;omega
def up(E:121){en:74}(B:Brk h 178 (chz cs W) 152 ps ss)(hb:∀s'∈ss,bnd ws cs h (Mc W) s'<=bnd ws cs h (Mc W) s)(he:∀k,k<66->∃q∈ps,q.1=k/\en k=q.2.2):gr ws cs en<=bnd ws cs h (Mc W) s:=by
 have O:=E.bok B jC;have h0:=E.ok.1;have ms:=(BH (xs:=(152).map λk=>(cs k).at (en k)) (jH (mem_map.mpr ⟨0,mem_range.mpr 68,rfl⟩))).1;obtain⟨k,hk,ek⟩:=mem_map.mp ms;have hkn:k<ws.length:=by simpa using hk
 obtain⟨M,hM,e,⟨_,hc⟩,hw,hq⟩:=O.cst k hk;have hM':=(Mr E B M hM).1;have ee:=aT E hM'.lt hw;obtain⟨q,hq1,hq2,hq3⟩:=he k hkn;have h1:=Lg (E.hcs k hkn).2.1 (hq q hq1 hq2);rw[<- hq3,hc]at h1;unfold gr;rw[<- ek];refine 182 h1 (182 ?_ (hb M hM));unfold bnd;rw[ee];exact 123 _
def TB(E:121):WF Cj [.im (AQ ws),.im 119] [] λd x=>∃(ps:List Pc) (ss:List (List Nat)) (s:73),d=.im (.tup [.tup (ps.map pcI),Aa s])/\Brk h 178 (chz cs W) 152 ps ss/\s∈ss/\(∀s'∈ss,bnd ws cs h (Mc W) s'<=bnd ws cs h (Mc W) s)/\126<=256:=by
 have hn:=E.ok.2.1;have h0:=E.ok.1;unfold Cj;refine Au rfl ?_;have rn:B7 (B1 0 66)=.im (Aa 152):=by rw[Bg,DY]
 have rgl:Fm (ws.length:Int):=FK 68 68;refine AA (HK (N6 (A3 (A2 rfl (A3 (A2 rfl (A3 (WP.eq (z:=.im (Aa 152)) (h:=[]) (by simp[B4,rgl,rn]) (A7 ⟨by simp,(Xd E 10 82 List.pairwise_lt_range 71 (by simpa using hn)).mono ?_⟩)))))))));rintro d x ⟨ps,ss,g,rfl,rfl,B,l1,l2⟩;refine⟨_,rfl,A5 ?_⟩;rw[jP];have eh:((MO.lst (ps.map pcD)::MO.lst (ss.map Aj)::g).map (shO ([]:Hd).length))=MO.lst (ps.map pcD)::MO.lst (ss.map Aj)::g.map (shO ([]:Hd).length):=by
  simp only[j3,shO,X2,SN]
 rw[eh];have O:=E.bok B jC;have sst:=Mr E B;obtain⟨M,hM,_⟩:=O.cst 0 (mem_range.mpr h0);rw[length_range]at l1;have p8:=T8 hn;refine Ap (BY (A3 (BE (A3 (A2 rfl (A7 (BK rfl rfl ?_)))))));refine A3 (Br (A3 (A2 rfl (A3 (A2 rfl (A3 (A2 rfl (A7 ((Pu E (ss:=ss) rfl (jH hM) (λs hs=>(sst s hs).1)).mono ?_)))))))));rintro d x ⟨s,hs,rfl,hb⟩;refine A7 ⟨DH,ps,ss,s,?_,B,hs,hb,by omega⟩;rw[show ps.map pcD=(ps.map pcI).map D.im by simp,Bc];rfl
end
open PySem L2 Bd Hds
open Bk (Pc Brk upd)
abbrev fl(n:Nat)(f:74):List D:=intD ((69 n).map f)
def ED{n k:Nat}(f:74)(hk:k<n):atI (fl n f) (k:Int)=some (.im (.int (f k))):=IH rfl (by simp[intD,hk])
def KQ{n k:Nat}(f:74)(hk:k<n):ixN (fl n f).length (k:Int)=some k:=by unfold ixN;simp[intD,hk]
def Hx{n k:Nat}(f:74)(v:Int):(fl n f).set k (.im (.int v))=fl n (upd f k v):=by
 refine ext_getElem? λi=>?_;rw[List.getElem?_set];by_cases hi:k=i
 .subst hi;by_cases hk:k<n
  .simp[intD,hk,Bk.upd_self]
  .simp[intD,hk]
 .simp only[hi,jj,intD,List.getElem?_map,j5];by_cases hi2:i<n
  .simp[hi2,Bk.upd_ne (f:=f) (v:=v) (λz:i=k=>hi z.symm)]
  .simp[hi2]
def WU{n:Nat}{f g:74}(h:∀k,k<n->f k=g k):fl n f=fl n g:=by
 unfold fl
 congr 1
 exact jE λk hk=>h k (by simpa using hk)
def Pv(ok:FM ws):(ws.filterMap λw=>some (D.im (.int w.len)))=fl 66 178:=by
 rw[List.filterMap_eq_map'];unfold fl intD;rw[j5];refine List.ext_getElem 71 λi h1 h2=>?_;have hi:i<ws.length:=by simpa using h1
 simp only[List.getElem_map,Function.comp,List.getElem_range];rw[Di ok hi,<- HM hi]
def LR(n:Nat):(79 n [D.im (.int 0)]).flatten=fl n λ_=>0:=by
 simp only[intD,j5,Function.comp_def];rw[show(λ_:Nat=>D.im (.int 0))=Function.const Nat (D.im (.int 0))from rfl,List.map_const,length_range];simp
def N7{QA:List D->Hd->Prop}(h:WA ml ls hd λds x=>WE mb ls x λe y=>∃k,e=.im (.int k)/\(0<=k/\k<=1000)/\Bu (97*k.toNat)/\QA (79 k.toNat ds).flatten y):WA (Hj ml mb) ls hd QA:=by
 obtain⟨ds,x,e1,d,y,e2,k,rfl,h1,h2,q⟩:=h;exact⟨_,_,by simp only[Hj,e1,bind_some,e2,h1,h2,and_self,j8],q⟩
def lay_ints(ns:88):PyData.canLayAll0 154=true:=by
 induction ns with
 |nil=>rfl
 |cons x r ih=>simp[PyData.canLayAll0,PyData.canLay0]at ih ⊢;try exact ih
def Ja(ns:88):PyData.depthAll 154<=1:=by
 induction ns with
 |nil=>simp[PyData.depthAll]
 |cons x r ih=>simp[PyData.depthAll,PyData.depth]at ih ⊢;try omega
def XS{n:Nat}(e:hd[n]?=some (.lst (intD ns))):pyD hd (.mu n)=some (.list 154):=by simp only[pyD,e,intD,Ca,je,Cr]
def SB{QE:172}(h:WE ma ls hd λd x=>WA ml ls x λds y=>∃ns:List Int,ds=intD ns/\pyD y d=some (.list 154)/\QE (.im (.bl true)) y):WE (Ci false ma ml) ls hd QE:=by
 obtain⟨d,x,e1,ds,y,e2,ns,rfl,e3,q⟩:=h;refine⟨_,_,?_,q⟩;have c1:(PyData.list 154).canLay0=true:=by rw[PyData.canLay0,lay_ints]
 have c2:min (PyData.list 154).depth (PyData.list 154).depth<=60:=by
  have:=Ja ns;rw[PyData.depth];omega
 simp only[Ci,e1,bind_some,e2,e3];rw[show intD ns=ns.map λi=>D.im 135 from rfl,Ca,bind_some,Cr];unfold FV;rw[il ⟨c1,c1,c2⟩,PySem.SeqAt.eqv_refl _ c1];rfl
def WD(i:Int):WF HC [.im 135] [] λd x=>d=.im (.bl true):=by
 unfold HC;refine Au rfl ?_;refine Ap (P6 (AR (Jo (A2 rfl ⟨true,rfl,_,rfl,?_⟩))));rw[il rfl];exact Xp (AR (Jo (A2 rfl ⟨false,rfl,_,rfl,rfl⟩)))
inductive I_ends(ws:174)(W:98)(h:74)(ps:List Pc)(r:137)(ls:Ls)(hd:Hd):Prop
 |mk (pre rest:List Pc) (left en:74) (at_:Int) (z6 z7 z8 z9:Option D) (h0:r=rest.map pcD) (h1:ls=[some 132,some (.im 119),some (.im (.tup (ps.map pcI))),some (.mu 0),some (.mu 1),some (.im (.int at_)),z6,z7,z8,z9]) (h2:hd=[.lst (fl 66 left),.lst (fl 66 en)])
  (h3:ps=pre++rest) (h4:Bk.Inv 66 178 h W left en at_) (h5:∀k,k<66->left k=AO ws k-Bk.tot k pre) (h6:∀k,k<66->(∃q∈pre,(q.1=k/\en k=q.2.2)/\∀p∈pre,p.1=k->p.2.2<=en k)∨∀q∈pre,q.1≠k) (h7:Bk.Row at_ rest) (h8:∀q∈pre,q.2.2<=at_):I_ends ws W h ps r ls hd
section
variable{cs:192}{rk:183}{h:74}
def UD(E:121)(B:Brk h 178 (chz cs W) 152 ps ss):Du.Pk 66 h 178 W ps:=by
 have O:=E.bok B jC;exact⟨λp hp=>by simpa using O.mem p hp,O.row 0 (λk hk=>(E.hb k (by simpa using hk)).1),λj hj=>O.tot j (by simpa using hj),λw hw p hp q hq e1 e2=>O.wis w hw (by simpa using (E.R.ins w hw).1) (by simpa using (E.R.ins w hw).2) p hp q hq e1 e2⟩
set_option maxHeartbeats 1000000 in
def Tv(E:121)(O:Du.Pk 66 h 178 W ps):WF GO [.im (AQ ws),.im 119,.im (.tup (ps.map pcI))] [] λd x=>∃(left en:74) (t:Int),d=.mu 1/\x=[.lst (fl 66 left),.lst (fl 66 en)]/\Bk.Inv 66 178 h W left en t/\(∀k,k<66->left k=0)/\∀k,k<66->∃q∈ps,(q.1=k/\en k=q.2.2)/\∀p∈ps,p.1=k->p.2.2<=en k:=by
 have hn:=E.ok.2.1;have eln:(((ws.map wgI).map D.im).length:Int)=(ws.length:Int):=by simp
 unfold GO;refine Au rfl ?_;refine AA (BA (F8 (Dq (Jo (A2 rfl ⟨true,rfl,_,rfl,(λz=>by cases z),λ_=>Az (A5 ?_)⟩)))));refine AA (AK (Al (Ah (Bv (A2 rfl ⟨_,rfl,?_⟩)))));rw[<- BI];refine⟨AL 82,?_⟩;refine Ay (λw=>D.im (wgI w)) (λw=>some (.im (.int w.len))) (λ_ ls=>∃x,ls=[some x]) _ (AJ _) ?_ ?_
 .rintro w hw ls hls;refine⟨[some (.im (wgI w))],by rcases hls with rfl|⟨_,x,rfl⟩<;>rfl,⟨_,rfl⟩,BF ⟨rfl,?_⟩⟩;rw[il rfl];exact⟨_,rfl,A9 (A2 rfl (AS (AF rfl (Cg _ _) ⟨rfl,rfl⟩)))⟩
 rw[Pv E.ok];refine A5 ?_;refine AA (AK (Al (N7 (BG (A3 (AS (A7 ⟨AL 71,?_⟩)))))));refine BE (A3 (A2 rfl (A7 (BK rfl rfl ⟨_,rfl,by simp;omega,AL 82,A5 ?_⟩))));rw[eln,jl,LR];refine AA (AK (AS (A5 ?_)));refine AA (CL (Bv (A2 rfl ⟨_,rfl,?_⟩)));rw[show(ps.map pcI).map D.im=ps.map pcD by simp];refine BX (I_ends ws W h ps) ⟨[],ps,AO ws,λ_=>0,0,none,none,none,none,rfl,rfl,rfl,rfl,Bk.Inv.start (λp hp=>E.R.ins p hp) (λk _=>C3 ws k) (λk _=>rfl),λk _=>by simp[Bk.tot],λk _=>.inr 71,O.row,(by intro q hq;cases hq)⟩ ?_ ?_
 .rintro d r ls hd ⟨pre,rest,left,en,at_,z6,z7,z8,z9,er,rfl,rfl,eps,I,hleft,hen,row,hat⟩;cases rest with
  |nil=>cases er
  |cons p rest=>
   obtain⟨rfl,rfl⟩:=166 er;obtain⟨k,b,e⟩:=p;have hp:(k,b,e)∈ps:=by rw[eps];simp
   have hk:k<ws.length:=(O.mem _ hp).1;have hkb:h k<=b:=(O.mem _ hp).2;have r1:at_<=b:=row.1;have r2:b<e:=row.2.1;have r3:Bk.Row e rest:=row.2.2;have rge:=r3.ge;have hcom:Ag ws k<=b:=182 (E.H.lo k hk) hkb;have tots:∀j,j<66->Bk.tot j pre+((if k=j then e-b else 0)+Bk.tot j rest)=AO ws j:=λj hj=>by
    have:=O.tot j hj;rw[eps,Bk.tot_app,Bk.tot]at this;exact this
   have fst0:∀w∈W,w.2=k->left w.1=0:=λw hw ew=>by
    have wn:=(E.R.ins w hw).1;have hq:∀q∈ps,q.1=w.1->q.2.2<=b:=λq hq eq=>O.wis w hw q hq _ hp eq ew.symm;have t1:=tots w.1 wn;rw[Bk.tot_none (a:=rest) λq hq' eq=>by
     have:=hq q (by rw[eps];simp[hq']) eq;have:=rge q hq';omega]at t1
    rw[ip λz:k=w.1=>by
     have:=hq _ hp z;have:e<=b:=this;omega]at t1
    rw[hleft w.1 wn];omega
   have mk:e-b<=left k:=by
    have t1:=tots k hk;rw[il rfl]at t1;have:=Bk.tot_nn (k:=k) (a:=rest) λq hq=>(rge q hq).2;rw[hleft k hk];omega
   have st:=I.step E.hs hk r1 hcom fst0 (m:=e-b) 68 mk;rw[show b+(e-b)=e by omega]at st;have hle':∀q∈pre++[(k,b,e)],q.2.2<=e:=λq hq=>by
    rcases mem_append.mp hq with y|y
    .have:=hat q y;omega
    .rw[jd]at y;subst y;exact 123 _
   refine⟨_,rfl,?_⟩;dsimp only[set_cons_zero,set_cons_succ];refine AA (BA (Dr (F8 (Dq (Jo (A2 rfl ⟨true,rfl,_,rfl,?_⟩))))));rw[ip 71];refine Dr (AR (A9 (BE (A3 (A2 rfl (A7 (BK rfl rfl (AS (FA ⟨_,rfl,?_⟩)))))))));rw[ip 71];refine AR (aS (AS (Ah (Bv (A2 rfl ⟨_,rfl,?_⟩)))));refine⟨Cc,?_⟩;refine Ay (xs:=[(k:Int),b,e]) (λi:Int=>D.im 135) (λ_=>some (.im (.bl true))) (λ_ ls=>∃x,ls=[some x]) _ (AJ _) ?_ ?_
   .rintro i _ ls hls;refine⟨[some (.im 135)],by rcases hls with rfl|⟨_,x,rfl⟩<;>rfl,⟨_,rfl⟩,BF ⟨rfl,?_⟩⟩;rw[il rfl];refine⟨_,rfl,Ae (A3 (A2 rfl (A7 ⟨by simp,(WD i).mono ?_⟩)))⟩;rintro d x rfl;exact⟨_,rfl,rfl,rfl⟩
   refine⟨_,.bl false,[.bl true,.bl true,.bl true],rfl,rfl,rfl,_,rfl,(λz=>by cases z),λ_=>Az (A5 ?_)⟩;refine AA (HK (A2 rfl ⟨_,rfl,A5 ?_⟩));refine AA (BA (Dr (F8 (AR (UQ (AS (A2 rfl (Ff ⟨_,rfl,λ_=>?_,λz=>?_⟩))))))))
   rotate_left
   .exact absurd (jT z) 68
   refine BE (A3 (A2 rfl (A7 (BK rfl rfl (Fd ⟨_,rfl,?_⟩)))));rw[eln,ip (by simp;exact hk)];refine Dr (AR (A9 (A2 rfl (A2 rfl (Fd ⟨_,rfl,?_⟩)))));rw[ip (by simp;exact r1)];refine Dr (AR (A9 (A2 rfl (A2 rfl (Ff ⟨_,rfl,?_⟩)))));rw[ip (by simp;exact r2)];refine AR (A9 (A2 rfl (A9 (A9 (A2 rfl (A2 rfl (AF (by rw[Cb,<- BI]) (D2 hk) (AS (AF rfl (DD _ _ _) (Fd ⟨_,rfl,(λz=>?_),λ_=>Az (A5 ?_)⟩))))))))))
   .have z:=jA z;simp[Ag,hk]at hcom;dsimp only at z;omega
   refine AA (BA (AR (UP (Ah (Bv (A2 rfl ⟨_,rfl,?_⟩))))));rw[show(W.map AI).map D.im=W.map λp=>D.im (AI p) by simp];have hW:=E.hW;refine⟨AL 82,?_⟩;refine Ay (λp=>D.im (AI p)) (λ_=>none) (λ_ ls=>∃x y,ls=[some x,some y,some (.im 136),some (.mu 0),some (.mu 1),some (.im (.int b))]) _ (AJ _) ?_ ?_
   .rintro w hw ls hls;have wn:=(E.R.ins w hw).1;refine⟨[some (.im (.int (w.1:Int))),some (.im (.int (w.2:Int))),some (.im 136),some (.mu 0),some (.mu 1),some (.im (.int b))],by rcases hls with rfl|⟨_,x,y,rfl⟩<;>rfl,⟨_,_,rfl⟩,F9 (AR (A9 (A2 rfl (A2 rfl (Ck ⟨_,rfl,?_⟩)))))⟩;by_cases ew:w.2=k
    .rw[il (by simp[ew])];have f0:=fst0 w hw ew;have lp:=C3 ws w.1;have et:=I.et w.1 wn 68;refine Dr (AR (A9 (A9 (A2 rfl (A2 rfl (AF rfl (ED left wn) (AS (Fg ⟨_,rfl,?_⟩))))))));rw[ip (by rw[f0];simp)];refine AR (A9 (A9 (A2 rfl (A2 rfl (AF rfl (ED en wn) (A2 rfl (Fg ⟨_,rfl,rfl,?_⟩)))))));rw[ip 82]
    .rw[ip 82];exact⟨rfl,by rw[ip 71]⟩
   have en0:(W.filterMap λ_=>(none:Option D))=intD []:=by simp[intD]
   rw[en0];refine⟨[],rfl,_,rfl,(λz=>by simp at z),λ_=>Az (A5 ?_)⟩;refine AA (Cd (A9 (A9 (A2 rfl (A2 rfl (AF rfl (ED left hk) (A9 (A2 rfl (A2 rfl (EI (EI (A2 rfl (A2 rfl ⟨0,_,k,_,rfl,rfl,rfl,KQ left hk,A5 ?_⟩)))))))))))));rw[Hx];refine AA (Cd (A2 rfl (A2 rfl (A2 rfl ⟨1,_,k,_,rfl,rfl,rfl,KQ en hk,A5 ?_⟩))));rw[Hx];refine AK (A2 rfl ⟨AJ _,pre++[(k,b,e)],rest,_,_,e,_,_,_,_,rfl,rfl,rfl,by rw[eps];simp,st,λj hj=>?_,λj hj=>?_,r3,λq hq=>?_⟩)
   .rw[Bk.tot_app];have:=hleft j hj;by_cases ej:j=k
    .subst ej;rw[Bk.upd_self];simp[Bk.tot];omega
    .rw[Bk.upd_ne ej,this];simp only[Bk.tot];rw[ip λz:k=j=>ej z.symm];omega
   .by_cases ej:j=k
    .subst ej;rw[Bk.upd_self];exact .inl ⟨(j,b,e),by simp,⟨rfl,rfl⟩,λp hp _=>hle' p hp⟩
    .rw[Bk.upd_ne ej];rcases hen j hj with⟨q,hq,z⟩|z
     .refine .inl ⟨q,by simp[hq],z.1,λp hp ep=>?_⟩;rcases mem_append.mp hp with y|y
      .exact z.2 p y ep
      .rw[jd]at y;subst y;exact absurd ep.symm ej
     .refine .inr λq hq=>?_;rcases mem_append.mp hq with y|y
      .exact z q y
      .rw[jd]at y;subst y;exact λz=>ej z.symm
   .exact hle' q hq
 .rintro ls hd ⟨pre,rest,left,en,at_,z6,z7,z8,z9,er,rfl,rfl,eps,I,hleft,hen,row,hat⟩;have:rest=[]:=by cases rest with
   |nil=>rfl
   |cons t r=>cases er
  subst this;rw[jq]at eps;subst eps;have l0:∀k,k<66->left k=0:=λk hk=>by
   rw[hleft k hk,O.tot k hk];omega
  refine A5 (Ap (N5 (AR (SB (A2 rfl (N7 (BG (A3 (AS (A7 ⟨AL 71,?_⟩))))))))));refine BE (A3 (A2 rfl (A7 (BK rfl rfl ⟨_,rfl,by simp;omega,AL 82,?_⟩))));rw[eln,jl,LR];refine⟨_,rfl,?_,_,rfl,λ_=>A2 rfl ⟨left,en,at_,rfl,rfl,I,l0,λk hk=>?_⟩,(λz=>by cases z)⟩
  .rw[WU l0];exact XS rfl
  .rcases hen k hk with z|z
   .exact z
   .have:=O.tot k hk;rw[Bk.tot_none z]at this;have:=C3 ws k;omega
end
def Zn(h:ns≠[]):Gh (intD ns)=some (.im (.int (Ct ns))):=by unfold Gh;rw[Dk];simp[h]
section
variable{cs:192}{rk:183}{h:74}
def dk(E:121){en:74}{j:Nat}(e:hd[j]?=some (.lst (fl 66 en))):WF CG [.im (AQ ws),.mu j] hd λd x=>d=.im (.int (gr ws cs en))/\x=hd:=by
 have hn:=E.ok.2.1;have h0:=E.ok.1;unfold CG;refine Au rfl ?_;have eln:(((ws.map wgI).map D.im).length:Int)=(ws.length:Int):=by simp
 refine Ap (Bj (Ah (Fu (A3 (BE (A3 (A2 rfl (A7 (BK rfl rfl ?_)))))))));rw[eln];refine A7 ⟨_,rfl,CM 68 68,?_⟩;rw[jl,Bg];refine⟨AL (by simp[AG];omega),?_⟩;refine Ay (λk:Nat=>D.im 136) (λk=>some (.im (.int ((cs k).at (en k))))) (λ_ ls=>∃x,ls=[some x,some 132,some (.mu j)]) _ (AJ _) ?_ ?_
 .rintro k hk' ls hls;have hkn:k<ws.length:=by simpa using hk'
  refine⟨[some (.im 136),some 132,some (.mu j)],by rcases hls with rfl|⟨_,x,rfl⟩<;>rfl,⟨_,rfl⟩,BF ⟨rfl,?_⟩⟩;rw[il rfl];refine⟨_,rfl,Ae (A3 (A9 (A9 (A2 rfl (A2 rfl (AF (by rw[Cb,<- BI]) (D2 hkn) (AS (AF rfl (Ef _ _ _ _) ?_))))))))⟩;rw[II E.hcs hkn];refine A3 (A9 (A2 rfl (A2 rfl (AF (ds:=fl 66 en) (by simp[Ao,e]) (ED en hkn) (A7 ⟨by simp,(aE (E.hcs k hkn).2.1 _).mono ?_⟩)))));rintro d x rfl;exact⟨_,rfl,rfl,rfl⟩
 rw[Ey];refine⟨_,Zn ?_,rfl,rfl⟩;intro z;have:=jm List.length z;rw[ja,length_range]at this;simp only[jG]at this;omega
end
open Bk (Pc upd)
def P3{i:Nat}{P:List Pc}(eh:hd[i]?=some (.lst (P.map pcD)))(hl:P.length<=100)(k:Nat)(b e:Int):WF DO [.mu i,.im 136,.im (.int b),.im (.int e)] hd λd x=>d=.im .non/\x=hd.set i (.lst ((Du.addP P k b e).map pcD)):=by
 have tr:CI hd (.mu i)=some (!(P.map pcD).isEmpty):=by simp only[CI,eh]
 have sv:Ao hd (.mu i)=some (P.map pcD):=by simp[Ao,Ai,Ad,eh]
 unfold DO;refine Au rfl ?_;refine BA (F9 (Dq (A2 rfl ⟨_,tr,?_⟩)));have app:∀{Q:Fl->Hd->Prop},Q (.nx [some (.mu i),some (.im 136),some (.im (.int b)),some (.im (.int e))]) (hd.set i (.lst ((P++[(k,b,e)]).map pcD)))->WS (An (mMt AX 77 (A1 (B5 (A1 131 (A1 153 (A1 167 A4)))) A4))) [some (.mu i),some (.im 136),some (.im (.int b)),some (.im (.int e))] hd Q:=λ{Q} q=>by
  refine BP (CT (A2 rfl ⟨⟨_,by rw[IV,eh]⟩,A3 (BY (A3 (A2 rfl (A3 (A2 rfl (A3 (A2 rfl (A7 ⟨Cc,A7 ?_⟩))))))))⟩));refine C0 eh (Ax 82) ?_;rw[show(P++[(k,b,e)]).map pcD=P.map pcD++[B7 [.im 136,.im (.int b),.im (.int e)]] by rw[jB];rfl]at q;exact q
 rcases Du.nil_or P with rfl|⟨P',p,rfl⟩
 .rw[ip 71];exact⟨(λh=>by cases h),λ_=>app ⟨rfl,rfl⟩⟩
 .rw[il 71];rw[Du.addP_snoc];have la:atI ((P'++[p]).map pcD) (-1)=some (pcD p):=by rw[jB];exact Jj _ _
  have gl:∀{j:Int} {v:D} {QE:172},atI [D.im (.int (p.1:Int)),.im (.int p.2.1),.im (.int p.2.2)] j=some v->QE v hd->WE (mOp gIx (mOp gIx 77 (EW 124)) (mC (.int j))) [some (.mu i),some (.im 136),some (.im (.int b)),some (.im (.int e))] hd QE:=λ{j v QE} ea q=>
   A9 (A9 (A2 rfl (HN (AS ⟨_,rfl,AF (ds:=(P'++[p]).map pcD) sv la (AS (AF (ds:=[D.im (.int (p.1:Int)),.im (.int p.2.1),.im (.int p.2.2)]) rfl ea q))⟩))))
  refine F9 (AR (A9 (gl (Cg _ _) (A2 rfl (Ck ⟨_,rfl,?_⟩)))));by_cases h1:p.1=k
  .rw[il (by simp[h1])];refine AR (A9 (gl (Ef _ _ _ _) (A2 rfl (Ck ⟨_,rfl,λh2=>?_,λh2=>?_⟩))))
   .have h2:p.2.2=b:=by simpa using h2
    rw[il ⟨h1,h2⟩];refine Cd (BY (A3 (A2 rfl (A3 (gl (DD _ _ _) (A3 (A2 rfl (A7 ⟨Cc,A2 rfl (HN (AS ⟨_,rfl,?_⟩))⟩))))))));refine⟨i,-1,P'.length,(P'++[p]).map pcD,rfl,rfl,eh,?_,?_⟩
    .unfold ixN;rw[ip 95,il 82]
     congr 1
     simp;omega
    .refine⟨rfl,?_⟩;rw[jB,jB];simp[B7,B9];rfl
   .have h2:¬ p.2.2=b:=by simpa using h2
    rw[ip (λh=>h2 h.2)];exact app ⟨rfl,rfl⟩
  .rw[ip 82,ip (λh=>h1 h.1)];exact⟨(λh=>by cases h),λ_=>app ⟨rfl,rfl⟩⟩
def Xj{f:Int->Int->Int}{QS:Fl->Hd->Prop}(h:WE mo ls hd λd x=>WE mi ls x λi y=>∃n k ds j v,d=.mu n/\i=.im (.int k)/\y[n]?=some (.lst ds)/\ixN 97 k=some j/\ds[j]?=some (.im (.int v))/\WE me ls y λr z=>∃u ds',r=.im (.int u)/\z[n]?=some (.lst ds')/\ds'.length=97/\QS (.nx ls) (z.set n (.lst (ds'.set j (.im (.int (f v u))))))):WS (Gc mo mi me f) ls hd QS:=by
 obtain⟨d,x,e1,i,y,e2,n,k,ds,j,v,rfl,rfl,e3,e4,e5,r,z,e6,u,ds',rfl,e7,e8,q⟩:=h;refine⟨_,_,?_,q⟩;unfold Gc;simp only[e1,bind_some,e2,e3,e4,e5,e6,e7,e8,j8]
def gY(p:Nat->Prop)[DecidablePred p](g:74)(L:73):(L.filterMap λk=>if p k then some (D.im (.int (g k)))else none)=intD ((L.filter λk=>decide (p k)).map g):=by
 induction L with
 |nil=>rfl
 |cons x r ih=>
  rw[jO,jY];by_cases h:p x
  .rw[il h,jI h,il rfl,ih];rfl
  .rw[ip h,jx h,ip 71,ih]
noncomputable abbrev Lq(ws:174)(h dd:74)(t:Int)(z6 z7 z8:Option D):Ls:=[some 132,some (.im (.tup ((152).map λk=>.int (h k)))),some (.fv 1 (fl 66 dd)),some (.mu 0),some (.mu 1),some (.im (.int t)),z6,z7,z8]
noncomputable abbrev Hq(n:Nat)(lf:74)(P:List Pc)(g:Hd):Hd:=.lst (fl n lf)::.lst (P.map pcD)::g
def hnG:(a::b::(g++[x]))[(a::b::g).length]?=some x:=by simp
def lvG:Ad (a::b::(g++[.lst ds])) (.mu (a::b::g).length)=some ds:=by simp[Ad]
noncomputable def kfD(dd:74):D->Int×Int
 |.im (.int k)=>(dd k.toNat,k)
 |_=>(0,0)
def fe{n:Nat}{dd:74}{k:Nat}{v:Int}(hk:k<n)(e0:∀QE:D->Hd->Prop,QE (.im (.int v)) hd->WP (gIx (.mu 0) (.im 136) hd) QE):(B5 (A1 (Dv 131 (A1 77 (A1 (mOp gIx 153 77) A4))) (A1 77 A4))) [some (.im 136),some (.fv 1 (fl n dd)),some (.mu 0)] hd=some (.im (.tup [.int (dd k),.int (k:Int)]),hd):=by
 have w:WE (B5 (A1 (Dv 131 (A1 77 (A1 (mOp gIx 153 77) A4))) (A1 77 A4))) [some (.im 136),some (.fv 1 (fl n dd)),some (.mu 0)] hd λd x=>d=.im (.tup [.int (dd k),.int (k:Int)])/\x=hd:=by
  refine BY (A3 (SC (A2 rfl ⟨rfl,A3 (A2 rfl (A3 (A9 (A2 rfl (A2 rfl (e0 _ (A7 ⟨_,_,_,rfl,ED dd hk,A3 (A2 rfl (A7 ⟨DH,rfl,rfl⟩))⟩)))))))⟩)))
 obtain⟨d,x,e,rfl,rfl⟩:=w;exact e
open PySem L2 Bd Hds
open Bk (Pc upd)
abbrev fZ:MS:=(A6 (AE 6 (AU (Ab 1 [3] (Cu (A1 (mCB 173 (A1 77 A4)) A4)) (AD 0) (AB (mOp gGt 180 122)) 77)))
 (A6 (AE 5 (mCB DP (A1 (A0 5) (A1 (B6 FT (Ab 1 [1] (Bs (A0 6)) (AD 0) BV 180)) A4))))
 (A6 (AE 7 (KI (AU (Ab 1 [1,5] (Bs (A0 6)) (AD 0) (AB (mOp gLe 180 153)) 77)) [2,3] (B5 (A1 (Dv 131 (A1 77 (A1 (mOp gIx 153 77) A4))) (A1 77 A4)))))
 (A6 (AE 8 (B6 FT (Ge (AU (Af (A1 (mOp B0 (A0 5) (mOp gIx 167 (A0 7))) A4))) (AU (Ab 1 [1,5] (Bs (A0 6)) (AD 0) (AB (mOp gGt 180 153)) 180)))))
 (A6 (An (BZ DO (A1 (A0 4) (A1 (A0 7) (A1 (A0 5) (A1 (A0 8) A4))))))
 (A6 (Gc 167 (A0 7) (mOp CK (A0 8) (A0 5)) (λi j=>i-j))
 (AE 5 (A0 8))))))))
set_option maxHeartbeats 2000000 in
def aV{ws:174}{h dd:74}{lf:74}{P:List Pc}{t:Int}(n8:66<=8)(pl:P.length<=16)(some1:∃j,j<66/\0<lf j){Q:Fl->Hd->Prop}
 (hQ:∀t' k s g z6 z7 z8,Du.Tn 66 h dd lf t t' k s->Q (.nx (Lq ws h dd s z6 z7 z8)) (Hq 66 (upd lf k (lf k-(s-t'))) (Du.addP P k t' s) g)):WS fZ (Lq ws h dd t z6 z7 z8) (Hq 66 lf P g) Q:=by
 obtain⟨j0,j0n,j00⟩:=some1
 -- undone
 refine AA (AK (Al (Ah (Fu (A3 (BE (A3 (A2 rfl (A7 (BK (ds:=(ws.map wgI).map D.im) (z:=.im (.int (ws.length:Int))) rfl (by simp[B4]) (A7 ⟨_,rfl,CM 68 68,?_⟩)))))))))));rw[jl,Bg];refine⟨AL (by simp[AG];omega),?_⟩;refine Ay (xs:=69 66) (λk:Nat=>D.im 136) (λk=>if 0<lf k then some (.im 136)else none) (λ_ ls=>∃x,ls=[some x,some (.mu 0)]) _ (AJ _) ?_ ?_
 .rintro k hk ls hls;have hk:k<ws.length:=by simpa using hk
  refine⟨[some (.im 136),some (.mu 0)],by rcases hls with rfl|⟨_,x,rfl⟩<;>rfl,⟨_,rfl⟩,?_⟩;refine AR (A9 (A9 (A2 rfl (A2 rfl (AF (ds:=fl 66 lf) rfl (ED lf hk) (AS (Fg ⟨_,rfl,rfl,?_⟩)))))));by_cases h:0<lf k
  .rw[il (by simpa using h),il h];exact⟨_,rfl,A2 rfl ⟨rfl,rfl⟩⟩
  .rw[ip (by simpa using h),ip h]
 rw[Mz];refine A5 ?_;have hU:∀k,k∈(152).filter (λk=>decide (0<lf k))↔k<66/\0<lf k:=λk=>by simp
 have lU:((152).filter λk=>decide (0<lf k)).length<=8:=by
  have:((152).filter λk=>decide (0<lf k)).length<=(152).length:=jZ _ _;simp at this;omega
 generalize (152).filter (λk=>decide (0<lf k))=U at hU lU;have jU:j0∈U:=(hU j0).mpr ⟨j0n,j00⟩;have neU:U≠[]:=λh=>by rw[h]at jU;cases jU
 change WS _ (Lq ws h dd t (some (.mu (Hq 66 lf P g).length)) z7 z8) (Hq 66 lf P (g++[.lst (AG U)])) _;have sh:∀y:Hd,Ao y (.im (.tup ((152).map λk=>.int (h k))))=some (((152).map λk=>I.int (h k)).map D.im):=λ_=>rfl
 -- t
 have ne1:U.map h≠[]:=by simpa using neU
 obtain⟨m1,m2⟩:=BS ne1;refine AA (AK (BE (A3 (A2 rfl (A3 (Bj (Ah (Fv (A2 rfl ⟨_,AG U,rfl,hnG,AL (by simp[AG];omega),?_⟩)))))))));refine Ay (xs:=U) (λk:Nat=>D.im 136) (λk=>some (.im (.int (h k)))) (λ_ ls=>∃x,ls=[some x,some (.im (.tup ((152).map λk=>.int (h k))))]) _ (by intro p hp;rw[jd]at hp;subst hp;exact hnG) ?_ ?_
 .rintro k hk ls hls;refine⟨[some (.im 136),some (.im (.tup ((152).map λk=>.int (h k))))],by rcases hls with rfl|⟨_,x,rfl⟩<;>rfl,⟨_,rfl⟩,BF ⟨rfl,?_⟩⟩;rw[il rfl];exact⟨_,rfl,A9 (A2 rfl (A2 rfl (AF (sh _) (Ez h ((hU k).mp hk).1) ⟨rfl,rfl⟩)))⟩
 rw[Ey];refine⟨_,IW ne1,A7 (Ew (A5 ?_))⟩;generalize C8 (U.map h)=m at m1 m2;obtain⟨t',ht'⟩:∃t',t'=max t m:=⟨_,rfl⟩
 rw[<- ht'];have mU:∃j,j<66/\0<lf j/\h j=m:=by
  obtain⟨j,hj,e⟩:=mem_map.mp m1;exact⟨j,((hU j).mp hj).1,((hU j).mp hj).2,e⟩
 have mle:∀j,j<66->0<lf j->m<=h j:=λj h1 h2=>m2 _ (mem_map.mpr ⟨j,(hU j).mpr ⟨h1,h2⟩,rfl⟩);generalize ea6:(Hq 66 lf P g).length=a6;have ea6:a6=2+g.length:=by rw[<- ea6];simp;omega
 change WS _ (Lq ws h dd t' (some (.mu a6)) z7 z8) _ _;have h6:∀(lf':74) (P':List Pc) (g':Hd),(Hq 66 lf' P' (g++.lst (AG U)::g'))[a6]?=some (.lst (AG U)):=λlf' P' g'=>by rw[ea6,show 2+g.length=g.length+2 by omega];simp
 -- the work
 refine AA (AK (UR (Al (Ah (Fv (A2 rfl ⟨_,AG U,rfl,h6 lf P [],AL (by simp[AG];omega),?_⟩))))));refine Ay (xs:=U) (λk:Nat=>D.im 136) (λk=>if h k<=t' then some (.im 136)else none) (λ_ ls=>∃x,ls=[some x,some (.im (.tup ((152).map λk=>.int (h k)))),some (.im (.int t'))]) _ (by intro p hp;rw[jd]at hp;subst hp;exact h6 lf P []) ?_ ?_
 .rintro k hk ls hls;refine⟨[some (.im 136),some (.im (.tup ((152).map λk=>.int (h k)))),some (.im (.int t'))],by rcases hls with rfl|⟨_,x,rfl⟩<;>rfl,⟨_,rfl⟩,?_⟩;refine AR (A9 (A9 (A2 rfl (A2 rfl (AF (sh _) (Ez h ((hU k).mp hk).1) (A2 rfl (Ff ⟨_,rfl,rfl,?_⟩)))))));by_cases c:h k<=t'
  .rw[il (by simpa using c),il c];exact⟨_,rfl,A2 rfl ⟨rfl,rfl⟩⟩
  .rw[ip (by simpa using c),ip c]
 rw[Mz];have hV:∀k,k∈U.filter (λk=>decide (h k<=t'))↔(k<66/\0<lf k)/\h k<=t':=λk=>by rw[j9,hU];simp
 have neV:U.filter (λk=>decide (h k<=t'))≠[]:=λc=>by
  obtain⟨j,h1,h2,h3⟩:=mU;have:=(hV j).mpr ⟨⟨h1,h2⟩,by omega⟩;rw[c]at this;cases this
 generalize U.filter (λk=>decide (h k<=t'))=V at hV neV;cases V with
 |nil=>exact absurd rfl neV
 |cons v0 vs=>
 obtain⟨g2,eg2⟩:∃g2,g2=g++[.lst (AG U)]:=⟨_,rfl⟩
 rw[<- eg2];have h6':∀(lf':74) (P':List Pc) (g':Hd),(Hq 66 lf' P' (g2++g'))[a6]?=some (.lst (AG U)):=λlf' P' g'=>by rw[eg2,jJ];exact h6 lf' P' g'
 refine⟨D.im (.int (v0:Int)),AG vs,kfD dd,lvG,λy hy=>?_,?_⟩
 .have hy:y∈AG (v0::vs):=hy;obtain⟨k,hk,rfl⟩:=mem_map.mp hy;have hk:=((hV k).mp hk).1.1;simp only[kfD,jl];exact fe (v:=lf k) hk λQE q=>AF (ds:=fl 66 lf) rfl (ED lf hk) q
 have bm:=IG (kfD dd) (AG vs) (D.im (.int (v0:Int)));generalize BW ltZ (AG vs) ((AG vs).map (kfD dd)) (D.im (.int (v0:Int))) (kfD dd (D.im (.int (v0:Int))))=db at bm ⊢;obtain⟨b1,b2⟩:=bm;obtain⟨k,hk,rfl⟩:=mem_map.mp (show db∈AG (v0::vs)from b1);have km:∀j∈v0::vs,dd k<dd j∨dd k=dd j/\k<=j:=λj hj=>by
  have:=b2 (D.im (.int (j:Int))) (show _∈AG (v0::vs)from mem_map.mpr ⟨j,hj,rfl⟩);unfold leP ltZ at this;have:=jT this;simp only[kfD,jl]at this;omega
 obtain⟨⟨kn,k0⟩,kc⟩:=(hV k).mp hk;refine A5 ?_;change WS _ (Lq ws h dd t' (some (.mu a6)) (some (.im 136)) z8) (Hq 66 lf P (g2++[.lst (AG (v0::vs))])) _;generalize AG (v0::vs)=vD;obtain⟨g3,eg3⟩:∃g3,g3=g2++[.lst vD]:=⟨_,rfl⟩
 rw[<- eg3];have h6a:∀(lf':74) (P':List Pc) (g':Hd),(Hq 66 lf' P' (g3++g'))[a6]?=some (.lst (AG U)):=λlf' P' g'=>by rw[eg3,jJ];exact h6' lf' P' _
 -- the stop
 refine AA (AK (Bj (N8 (Al (BG (A3 (A9 (A2 rfl (A9 (A2 rfl (A2 rfl (AF (ds:=fl 66 lf) rfl (ED lf kn) (Cl (A7 ⟨Cw,?_⟩))))))))))))));refine Al (Ah (Fv (A2 rfl ⟨_,AG U,rfl,h6a lf P _,AL (by simp[AG];omega),?_⟩)));refine Ay (xs:=U) (λk:Nat=>D.im 136) (λk=>if t'<h k then some (.im (.int (h k)))else none) (λ_ ls=>∃x,ls=[some x,some (.im (.tup ((152).map λk=>.int (h k)))),some (.im (.int t'))]) _ (by intro p hp;rw[jd]at hp;subst hp;exact h6a lf P _) ?_ ?_
 .rintro j hj ls hls;refine⟨[some (.im (.int (j:Int))),some (.im (.tup ((152).map λk=>.int (h k)))),some (.im (.int t'))],by rcases hls with rfl|⟨_,x,rfl⟩<;>rfl,⟨_,rfl⟩,?_⟩;refine AR (A9 (A9 (A2 rfl (A2 rfl (AF (sh _) (Ez h ((hU j).mp hj).1) (A2 rfl (Fg ⟨_,rfl,rfl,?_⟩)))))));by_cases c:t'<h j
  .rw[il (by simpa using c),il c];exact⟨_,rfl,A9 (A2 rfl (A2 rfl (AF (sh _) (Ez h ((hU j).mp hj).1) ⟨rfl,rfl⟩)))⟩
  .rw[ip (by simpa using c),ip c]
 rw[gY];have hB:∀x,x∈(U.filter λk=>decide (t'<h k)).map h↔∃j,j<66/\0<lf j/\t'<h j/\h j=x:=λx=>by
  rw[mem_map];constructor
  .rintro⟨j,hj,e⟩;obtain⟨h1,h2⟩:=mem_filter.mp hj;exact⟨j,((hU j).mp h1).1,((hU j).mp h1).2,by simpa using h2,e⟩
  .rintro⟨j,h1,h2,h3,e⟩;exact⟨j,mem_filter.mpr ⟨(hU j).mpr ⟨h1,h2⟩,by simpa using h3⟩,e⟩
 have lB:((U.filter λk=>decide (t'<h k)).map h).length<=8:=by
  rw[ja];exact j6 (jZ _ _) lU
 generalize (U.filter λk=>decide (t'<h k)).map h=B at hB lB;have ne2:(t'+lf k)::B≠[]:=by simp
 obtain⟨s1,s2⟩:=BS ne2;have lenB:(intD B).length<=8:=by simpa [intD]using lB
 refine⟨_,_,[.im (.int (t'+lf k))],intD B,rfl,rfl,(by rw[List.getElem?_append_left 71];simp),71,AL (by simp[intD];omega),?_⟩;refine⟨_,IW ne2,A5 ?_⟩;generalize C8 ((t'+lf k)::B)=s at s1 s2;have X:Du.Tn 66 h dd lf t t' k s:=by
  refine⟨by omega,λc j h1 h2=>by have:=mle j h1 h2;omega,kn,k0,kc,λj h1 h2 h3=>km j ((hV j).mpr ⟨⟨h1,h2⟩,h3⟩),?_,s2 _ 71,λj h1 h2 h3=>s2 _ (iw _ ((hB _).mpr ⟨j,h1,h2,h3,rfl⟩)),?_⟩
  .rcases mem_cons.mp s1 with e|e
   .omega
   .obtain⟨j,_,_,h3,e⟩:=(hB s).mp e;omega
  .rcases mem_cons.mp s1 with e|e
   .exact .inl e
   .obtain⟨j,h1,h2,h3,e⟩:=(hB s).mp e;exact .inr ⟨j,h1,h2,h3,e.symm⟩
 obtain⟨g4,eg4⟩:∃g4,g4=g3++[MO.lst [.im (.int (t'+lf k))],.lst (intD B)]:=⟨_,rfl⟩
 have eh:(Hq 66 lf P g3++[MO.lst [.im (.int (t'+lf k))]])++[MO.lst (intD B)]=Hq 66 lf P g4:=by rw[eg4];simp
 rw[eh];clear eh eg4;change WS _ (Lq ws h dd t' (some (.mu a6)) (some (.im 136)) (some (.im (.int s)))) (Hq 66 lf P g4) _;refine AA (BP (Br (A3 (A2 rfl (A3 (A2 rfl (A3 (A2 rfl (A3 (A2 rfl (A7 ((P3 (P:=P) (i:=1) rfl 68 k t' s).mono ?_))))))))))));rintro d x ⟨rfl,rfl⟩;refine A5 ?_;change WS _ _ (Hq 66 lf (Du.addP P k t' s) g4) _;refine AA (Xj (A2 rfl (A2 rfl ⟨0,(k:Int),fl 66 lf,k,lf k,rfl,rfl,rfl,KQ lf kn,?_,A9 (A2 rfl (A2 rfl (EI ⟨_,fl 66 lf,rfl,rfl,rfl,A5 (AK (A2 rfl ?_))⟩)))⟩)))
 .simp[intD,kn]
 .rw[Hx];exact hQ t' k s g4 _ _ _ X
open PySem L2 Bd Hds
open Bk (Pc upd)
section
variable{cs:192}{rk:183}{h dd d:74}
inductive I_rk(ws:174)(h dd:74)(W:98)(m:Nat)(ls:Ls)(hd:Hd):Prop
 |mk (lf:74) (P:List Pc) (t:Int) (g:Hd) (z6 z7 z8:Option D) (em:m=Du.mu 66 h lf t) (el:ls=Lq ws h dd t z6 z7 z8) (eh:hd=Hq 66 lf P g) (S:Du.St 66 h 178 dd W lf P t) (pl:P.length+m<=16):I_rk ws h dd W m ls hd
def Ev.wso(E:121):∀w∈W,w.1<66/\w.2<66/\h w.1+AO ws w.1<=h w.2:=λw hw=>⟨(E.R.ins w hw).1,(E.R.ins w hw).2,E.hs.st w hw⟩
def eP(n:Nat)(lf:74)(h0:∀k,k<n->0<=lf k):KM (fl n lf)=some (.im (.bl (decide (∃j,j<n/\0<lf j)))):=by
 unfold KM;rw[Dk,je]
 congr 3
 rw[Bool.eq_iff_iff];simp only[List.any_map,List.any_eq_true,mem_range,kj,Function.comp,bne_iff_ne];constructor
 .rintro⟨j,h1,h2⟩;exact⟨j,h1,by have:=h0 j h1;omega⟩
 .rintro⟨j,h1,h2⟩;exact⟨j,h1,by omega⟩
structure Dp(ws:174)(h dd:74)(W:98)(P:List Pc):Prop where
 ex:∃lf t,Du.St 66 h 178 dd W lf P t/\∀j,j<66->lf j=0
 pk:Du.Pk 66 h 178 W P
def VH(E:121)(hd:∀w∈W,dd w.1<=dd w.2-AO ws w.2):WF DV [.im (AQ ws),.im (.tup ((152).map λk=>.int (h k))),.fv 1 (fl 66 dd)] [] λd _=>∃P:List Pc,d=.im (.tup (P.map pcI))/\Dp ws h dd W P:=by
 have n8:=E.ok.2.1;have hb:=E.hb;unfold DV;refine Au rfl ?_;refine AA (AK (Al (Ah (Bv (A2 rfl ⟨_,rfl,?_⟩)))));rw[<- BI];refine⟨AL 82,?_⟩;refine Ay (λw=>D.im (wgI w)) (λw=>some (.im (.int w.len))) (λ_ ls=>∃x,ls=[some x]) _ (AJ _) ?_ ?_
 .rintro z hz ls hls;refine⟨[some (.im (wgI z))],by rcases hls with rfl|⟨_,x,rfl⟩<;>rfl,⟨_,rfl⟩,BF ⟨rfl,?_⟩⟩;rw[il rfl];exact⟨_,rfl,A9 (A2 rfl (AS (AF rfl (Cg _ _) ⟨rfl,rfl⟩)))⟩
 rw[Pv E.ok];refine A5 (AA (AK (Al (BG (A7 ⟨DI,A5 ?_⟩)))));refine AA (AK (AS (A5 ?_)));change WS _ (Lq ws h dd 0 none none none) (Hq 66 178 [] []) _;have m0:=Du.mu_le 66 h 178 0;refine AA (GP (I_rk ws h dd W) (n:=Du.mu 66 h 178 0) ⟨_,_,_,_,_,_,_,rfl,rfl,rfl,Du.St.start (λk _=>C3 ws k) (λk hk=>(hb k hk).1) (λw hw=>E.R.ins w hw),by simp;omega⟩ ?_);rintro m ls hdd ⟨lf,P,t,g,z6,z7,z8,em,rfl,rfl,S,pl⟩;refine Dq (BE (A3 (A2 rfl (A7 (BK (ds:=fl 66 lf) rfl (eP 66 lf λk hk=>(S.lo k hk).1) ⟨_,rfl,?_⟩)))));by_cases c:∃j,j<66/\0<lf j
 .rw[il (by simpa using c)];refine aV n8 68 c λt' k s g z6 z7 z8 X=>?_;have m':=X.mu;obtain⟨S',l'⟩:=S.turn (λk _=>C3 ws k) E.wso hd X;exact⟨_,by rw[em];exact m',_,_,_,g,_,_,_,rfl,rfl,rfl,S',by omega⟩
 .rw[ip (by simpa using c)];have z:∀j,j<66->lf j=0:=λj hj=>by
   have:=(S.lo j hj).1;refine 159 λq=>c ⟨j,hj,by omega⟩
  refine A5 (Ap (BE (A3 (A2 rfl (A7 (BK (ds:=P.map pcD) (z:=.im (.tup (P.map pcI))) rfl ?_ ?_))))))
  .show some (B7 (P.map pcD))=_;rw[show P.map pcD=(P.map pcI).map D.im by simp,Bc]
  .exact⟨P,rfl,⟨lf,t,S,z⟩,S.pk (λk hk=>(hb k hk).1) z⟩
def Do(ws:174)(cs:192)(d:74):Prop:=∀k,k<66->cs k=.late (d k)
inductive I_to(ws:174)(W:98)(rk:183)(d:74)(r:137)(ls:Ls)(hd:Hd):Prop
 |mk (v:74) (t:Nat) (z3 z4 z5:Option D) (h0:t+r.length=66) (h1:ls=[some 132,some (.im 119),some (.mu 0),z3,z4,z5]) (h2:hd=[.lst (fl 66 v)]) (T:Du.Tu 66 178 d W rk v t):I_to ws W rk d r ls hd
inductive I_ti(ws:174)(W:98)(rk:183)(d:74)(t:Nat)(r:137)(ls:Ls)(hd:Hd):Prop
 |mk (v:Nat->Int) (A R:List (Nat×Nat)) (z3 z4 z5:Option D) (h0:W=A++R) (h00:r=R.map λp=>D.im (AI p)) (h1:ls=[some 132,some (.im 119),some (.mu 0),z3,z4,z5]) (h2:hd=[.lst (fl 66 v)]) (T:Du.Ti 66 178 d W rk v t A):I_ti ws W rk d t r ls hd
def UW(E:121)(hl:Do ws cs d):WF DT [.im (AQ ws),.im 119] [] λr x=>r=.mu 0/\∃v,x=[.lst (fl 66 v)]/\Du.Tu 66 178 d W rk v ws.length:=by
 have n8:=E.ok.2.1;have hW:=E.hW;unfold DT;refine Au rfl ?_;refine AA (AK (Al (Ah (Bv (A2 rfl ⟨_,rfl,?_⟩)))));have e0:(ws.map wgI).map D.im=(152).map λk=>D.im (wgI (ws.getD k ⟨0,0,.non⟩)):=by
  refine List.ext_getElem 71 λi h1 h2=>?_;have hi:i<ws.length:=by simpa using h1
  simp[List.getD,hi]
 rw[e0];refine⟨AL 82,?_⟩;refine Ay (xs:=69 66) (λk=>D.im (wgI (ws.getD k ⟨0,0,.non⟩))) (λk=>some (.im (.int (d k)))) (λ_ ls=>∃x,ls=[some x]) _ (AJ _) ?_ ?_
 .rintro k hk ls hls;have hk:k<ws.length:=by simpa using hk
  refine⟨[some (.im (wgI (ws.getD k ⟨0,0,.non⟩)))],by rcases hls with rfl|⟨_,x,rfl⟩<;>rfl,⟨_,rfl⟩,BF ⟨rfl,?_⟩⟩;rw[il rfl];have e1:ws.getD k ⟨0,0,.non⟩=ws[k]:=by simp[List.getD,hk]
  have e2:(ws[k]).co=.tup [.str "late",.int (d k)]:=by rw[II E.hcs hk,hl k hk];rfl
  rw[e1];refine⟨_,rfl,A9 (A9 (A2 rfl (AS (AF rfl (Ef _ _ _ _) ?_))))⟩;rw[e2];exact AS (AF rfl (DD _ _ _) ⟨rfl,rfl⟩)
 rw[Ey];refine A5 ?_;refine AA (CL (Bv (A2 rfl ⟨_,rfl,?_⟩)));refine BX (I_to ws W rk d) ⟨d,0,none,none,none,by simp,rfl,rfl,Du.Tu.start λw hw=>⟨E.R.lt w hw,E.hrk w.2 (E.R.ins w hw).2⟩⟩ ?_ ?_
 .rintro x r ls hd ⟨v,t,z3,z4,z5,ht,rfl,rfl,T⟩;simp only[ji]at ht;refine⟨_,rfl,?_⟩;dsimp only[set_cons_zero,set_cons_succ];refine CL (Bv (A2 rfl ⟨_,rfl,?_⟩));rw[show(W.map AI).map D.im=W.map λp=>D.im (AI p) by rw[j5];rfl];refine BX (I_ti ws W rk d t) ⟨v,[],W,_,_,_,rfl,rfl,rfl,rfl,T,by simp⟩ ?_ ?_
  .rintro y r2 ls hd ⟨v,A,R,z3,z4,z5,eW,er,rfl,rfl,I⟩;cases R with
   |nil=>cases er
   |cons q R=>
    obtain⟨rfl,rfl⟩:=166 er;have hq:q∈W:=by rw[eW];simp
    have qn:=E.R.ins q hq;have st:=I.step (λw hw=>⟨E.R.ins w hw,E.R.lt w hw⟩) (λw hw=>by rw[eW];simp[hw]) hq;refine⟨[some 132,some (.im 119),some (.mu 0),z3,some (.im (.int (q.1:Int))),some (.im (.int (q.2:Int)))],rfl,?_⟩;refine Cd (BE (A3 (A9 (A2 rfl (A2 rfl (AF (ds:=fl 66 v) rfl (ED v qn.1) (A3 (A9 (A9 (A2 rfl (A2 rfl (AF (ds:=fl 66 v) rfl (ED v qn.2) ?_))))))))))));refine A9 (A9 (A2 rfl (A2 rfl (AF (by rw[Cb,<- BI]) (D2 qn.2) (AS (AF rfl (Cg _ _) (EI (A7 (G6 ?_)))))))));refine A2 rfl (A2 rfl ⟨0,_,q.1,_,rfl,rfl,rfl,KQ v qn.1,?_⟩);rw[Hx,HM qn.2,<- Di E.ok qn.2];exact⟨AJ _,_,A++[q],R,_,_,_,by rw[eW];simp,rfl,rfl,rfl,st⟩
  .rintro ls hd ⟨v,A,R,z3,z4,z5,eW,er,rfl,rfl,I⟩;have:R=[]:=by cases R with
    |nil=>rfl
    |cons t r=>cases er
   subst this;rw[jq]at eW;subst eW;exact⟨AJ _,v,t+1,_,_,_,by omega,rfl,rfl,I.next⟩
 .rintro ls hd ⟨v,t,z3,z4,z5,ht,rfl,rfl,T⟩;simp only[jG,Nat.add_zero]at ht;subst ht;exact A5 (Ap (A2 rfl ⟨rfl,v,rfl,T⟩))
end
open PySem L2 Bd Hds
def Clo(W:98)(ks:73):Prop:=∀p∈W,p.2∈ks->p.1∈ks
def W1{n:Nat}{rk:183}(R:Rk (λk=>k<n) W rk){c l h:74}(H:IsHead (λk=>k<n) c l W h){cc:Int}(hc:∀k,k<n->c k=cc)(hk:∀k∈ks,k<n)(hne:ks≠[])(cl:Clo W ks):C8 (ks.map h)=cc:=by
 have hN:∃N,∀k∈ks,rk k<=N:=by
  obtain⟨u,_,hu⟩:=Lj rk ks hne;exact⟨rk u,hu⟩
 obtain⟨N,hN⟩:=hN;obtain⟨u,hu,hm⟩:=Lj (λk=>N-rk k) ks hne;have hu0:h u=cc:=by
  rcases H.eq u (hk u hu)with e|⟨p,hp,e1,_⟩
  .rw[e];exact hc u (hk u hu)
  .have h1:=cl p hp (by rw[e1];exact hu);have h2:=R.lt p hp;have h3:=hm p.1 h1;have h4:=hN u hu;rw[e1]at h2;omega
 have ms:=BS (xs:=ks.map h) (by simpa using hne);have h1:=ms.2 _ (mem_map.mpr ⟨u,hu,rfl⟩);obtain⟨v,hv,ev⟩:=mem_map.mp ms.1;have h2:=H.lo v (hk v hv);have h3:=hc v (hk v hv);omega
structure Ord(n:Nat)(W:98)(o:73):Prop where
 pm:o.Perm (69 n)
 lt:∀p∈W,o.idxOf p.1<o.idxOf p.2
noncomputable def En(c:Int)(l:74)(o:73)(k:Nat):Int:=c+((o.take (o.idxOf k+1)).map l).sum
def bd(c:Int)(l:74)(cs:192)(W:98)(S:73):Int:=C8 ((C7 (Mc W) S).map λk=>(cs k).at (c+(S.map l).sum))
noncomputable abbrev co(n:Nat)(b:73):List Nat:=(69 n).filter λk=>decide (¬ k∈b)
inductive Made(n:Nat)(c:Int)(l:74)(cs:192)(W:98):List Nat->List (List Nat)->Prop
 |nil:Made n c l cs W [] []
 |cons {b:73} {ss:List (List Nat)} (u:Nat) (m:Made n c l cs W b ss) (h0:u∈co n b) (h1:(cs u).at (c+((co n b).map l).sum)=bd c l cs W (co n b)) (h2:∀p∈W,p.1=u->p.2∈b):Made n c l cs W (u::b) (ss++[co n b])
section
variable{n:Nat}{c:Int}{l:74}{cs:192}
def Made.nd(m:Made n c l cs W b ss):b.Nodup/\∀k∈b,k<n:=by
 induction m with
 |nil=>exact⟨.nil,by simp⟩
 |cons u m h0 h1 h2 ih=>
  have h3:=(mem_filter.mp h0).2;have h4:=mem_range.mp (mem_filter.mp h0).1;exact⟨nodup_cons.mpr ⟨by simpa using h3,ih.1⟩,λk hk=>by rcases mem_cons.mp hk with rfl|hk;exact h4;exact ih.2 k hk⟩
theorem Made.at(m:Made n c l cs W b ss):∀a u r,b=a++u::r->co n r∈ss/\(cs u).at (c+((co n r).map l).sum)=bd c l cs W (co n r)/\∀p∈W,p.1=u->p.2∈r:=by
 induction m with
 |nil=>intro a u r e;simp at e
 |@cons b ss v m h0 h1 h2 ih=>
  intro a u r e;cases a with
  |nil=>cases e;exact⟨by simp,h1,h2⟩
  |cons x a=>
   have e2:b=a++u::r:=(166 e).2;obtain⟨q1,q2,q3⟩:=ih a u r e2;exact⟨by simp[q1],q2,q3⟩
def Made.sets(m:Made n c l cs W b ss):∀s∈ss,∃r,s=co n r/\s≠[]:=by
 induction m with
 |nil=>intro s hs;cases hs
 |@cons b ss v m h0 h1 h2 ih=>
  intro s hs;rcases mem_append.mp hs with q|q
  .exact ih s q
  .rw[jd]at q;exact⟨b,q,by rw[q];exact jH h0⟩
def NN{k:Nat}(h:k∈o):∃a r,o=a++k::r/\k∉a/\o.idxOf k=a.length:=by
 induction o with
 |nil=>cases h
 |cons x t ih=>
  by_cases e:x=k
  .subst e;exact⟨[],t,rfl,by simp,by simp⟩
  .have:k∈t:=by rcases mem_cons.mp h with q|q;exact absurd q.symm e;exact q
   obtain⟨a,r,e1,e2,e3⟩:=ih this;refine⟨x::a,r,by rw[e1];rfl,by simp[e2];exact λz=>e z.symm,?_⟩;rw[idxOf_cons];have:(x==k)=false:=by simpa using e
   rw[this];simp[e3]
def Made.ord(m:Made n c l cs W o ss)(hW:∀p∈W,p.1<n/\p.2<n)(h:co n o=[]):Ord n W o:=by
 obtain⟨nd,hn⟩:=m.nd;have pm:o.Perm (69 n):=by
  rw[kl nd jC];intro k;refine⟨λhk=>by simpa using hn k hk,λhk=>?_⟩;have:=filter_eq_nil_iff.mp h k hk;simpa using this
 refine⟨pm,λp hp=>?_⟩;obtain⟨a,r,e1,e2,e3⟩:=NN (pm.mem_iff.mpr (by simpa using (hW p hp).1));obtain⟨_,_,q⟩:=m.at a p.1 r e1;have hr:=q p hp rfl;rw[e3,e1];rw[e1]at nd;have na:p.2∉a:=λz=>(nodup_append.mp nd).2.2 _ z _ (iw _ hr) rfl;rw[idxOf_append,ip na];have ne:p.1≠p.2:=λz=>by
  have:=(nodup_cons.mp (nodup_append.mp nd).2.1).1;rw[z]at this;exact this hr
 rw[idxOf_cons];have:(p.1==p.2)=false:=by simpa using ne
 rw[this];simp
def aF{u:Nat}(pm:(a++u::r).Perm (69 n)):(co n r).Perm (a++[u]):=by
 have nd:(a++u::r).Nodup:=pm.nodup_iff.mpr jC;have e:(a++u::r)=(a++[u])++r:=by simp
 rw[e]at nd pm;obtain⟨n1,n2,n3⟩:=nodup_append.mp nd;rw[kl (nodup_range.filter _) n1];intro k;have hk:=pm.mem_iff (a:=k);constructor
 .intro h;obtain⟨h1,h2⟩:=mem_filter.mp h;rcases mem_append.mp (hk.mpr h1)with q|q
  .exact q
  .exact absurd q (by simpa using h2)
 .intro h;refine mem_filter.mpr ⟨hk.mp (jv _ h),?_⟩;simpa using λz=>n3 k h k z rfl
def Made.cost(m:Made n c l cs W o ss)(pm:o.Perm (69 n)){k:Nat}(hk:k<n):∃s∈ss,(cs k).at (En c l o k)=bd c l cs W s:=by
 obtain⟨a,r,e1,e2,e3⟩:=NN (pm.mem_iff.mpr (by simpa using hk));obtain⟨q1,q2,_⟩:=m.at a k r e1;refine⟨co n r,q1,?_⟩;rw[<- q2]
 congr 1
 unfold En;rw[e3];have pm':=pm;rw[e1]at pm';have e4:o.take (a.length+1)=a++[k]:=by
  rw[e1,show a++k::r=(a++[k])++r by simp];exact List.take_left' 71
 rw[e4,gQ ((aF pm').map l)]
end
section
variable{c:Int}{cs:192}{rk:183}{h:74}
def We(E:121)(hcm:∀w∈ws,w.com=c):WF E1 [.im (AQ ws)] [] λd x=>d=.im (.int c):=by
 have hl0:0<ws.length:=E.ok.1;have hl8:=E.ok.2.1;unfold E1;refine Au rfl ?_;refine AA (AK (Ae (A3 (A2 rfl (A7 ⟨by simp,?_⟩)))));have e0:(ws[0]).com=c:=hcm _ (List.getElem_mem hl0);have S:WF DU [.im (AQ ws)] [] λd x=>d=.im (.int c):=by
  unfold DU;refine Au rfl ?_;refine AA (AK (A9 (A9 (A2 rfl (AS (AF (by rw[Cb,<- BI]) (D2 (k:=0) hl0) ?_))))));refine AS (AF rfl (DD _ _ _) (A5 ?_));rw[e0];refine AA (BA (Dq (Bj (Ah (Bv (A2 rfl ⟨_,rfl,?_⟩))))));rw[<- BI];refine⟨AL 82,?_⟩;refine Ay (λw=>D.im (wgI w)) (λ_=>some (.im (.bl true))) (λ_ ls=>∃x,ls=[some x,some (.im (.int c))]) _ (AJ _) ?_ ?_
  .rintro p hp ls hls;refine⟨[some (.im (wgI p)),some (.im (.int c))],by rcases hls with rfl|⟨_,x,rfl⟩<;>rfl,⟨_,rfl⟩,BF ⟨rfl,?_⟩⟩;rw[il rfl];refine⟨_,rfl,A9 (A9 (A2 rfl (AS (AF rfl (DD _ _ _) (A2 rfl (Ck ⟨rfl,?_⟩))))))⟩;simp[hcm p hp]
  have e:(ws.filterMap λ_=>some (D.im (.bl true)))=blD (ws.map λ_=>true):=by simp[blD]
  rw[e];refine⟨_,by rw[OB,Jf];rfl,_,rfl,?_⟩;refine⟨λ_=>?_,(λh=>by simp at h)⟩;exact Ap (A2 rfl rfl)
 refine S.mono ?_;rintro d x rfl;refine⟨_,rfl,A5 ?_⟩;refine AA (BA (AR ?_));refine WP.eq (z:=.im (.bl false)) (h:=[]) (by simp[FP]) ⟨_,rfl,(λh=>by cases h),λ_=>Az (A5 ?_)⟩;exact Ap (A2 rfl rfl)
def WB{u:Nat}{n:Nat}(R:Rk (λk=>k<n) W rk)(hu:u∈C7 (Mc W) (co n b)):∀p∈W,p.1=u->p.2∈b:=by
 intro p hp e;refine 159 λh=>?_;have h2:p.2∈co n b:=mem_filter.mpr ⟨by simpa using (R.ins p hp).2,by simpa using h⟩;have h3:=(mem_filter.mp hu).2;rw[Bool.not_eq_true',any_eq_false]at h3;refine h3 p.2 h2 ?_;subst e;have:Rc (Bq W) (p.1:Int) (p.2:Int):=.one (mem_map.mpr ⟨p,hp,rfl⟩);simp[Mc,this]
def Q2{n:Nat}{u:Nat}:((co n b).filter λk=>decide (k≠u))=co n (u::b):=by
 unfold co;rw[List.filter_filter]
 congr 1
 funext k
 simp
def Wi{n:Nat}{u:Nat}(cl:Clo W (co n b))(h:∀p∈W,p.1=u->p.2∈b):Clo W (co n (u::b)):=by
 intro p hp h2;rw[<- Q2]at h2 ⊢;obtain⟨g1,g2⟩:=mem_filter.mp h2;refine mem_filter.mpr ⟨cl p hp g1,?_⟩;refine jI λe=>?_;have:=(mem_filter.mp g1).2;exact(by simpa using this:p.2∉b) (h p hp e)
end
section
variable{ws:174}{c:Int}{cs:192}{rk:183}{h:74}
def W8(hk:∀k∈ks,k<66)(hl:181<=8):WF CJ [.im (AQ ws),.im (Aa ks)] [] λd x=>d=.im (.int (ks.map (AW ws)).sum):=by
 unfold CJ;refine Au rfl ?_;exact Ap (TX hk hl rfl rfl rfl)
def fw(E:121)(hcm:∀w∈ws,w.com=c)(hne:co 66 o≠[]):St ws (co 66 o):=
 ⟨hne,λk hk=>by simpa using (mem_filter.mp hk).1,j6 (jZ _ _) (by simpa using E.ok.2.1)⟩
def Ny{n:Nat}{o:73}(h:o.Nodup)(h2:∀k∈o,k<n):o.length<=n:=by
 have:=He (l:=o.map λk:Nat=>(k:Int)) (m:=(69 n).map λk:Nat=>(k:Int)) (List.Pairwise.map _ (λa b h=>λz=>h 68) h) λx hx=>by
  obtain⟨k,hk,rfl⟩:=mem_map.mp hx;exact mem_map.mpr ⟨k,by simpa using h2 k hk,rfl⟩
 simpa using this
inductive I_ord(ws:174)(c:Int)(cs:192)(W:98)(m:Nat)(ls:Ls)(hd:Hd):Prop
 |mk (o:73) (ss:List (List Nat)) (z6:Option D) (h1:ls=[some 132,some (.im 119),some (.im (.int c)),some (.mu 0),some (.mu 1),some (.im (Aa (co 66 o))),z6]) (h2:hd=[.lst (AG o),.lst (ss.map Aj)]) (h3:Made 66 c (AW ws) cs W o ss) (h4:Clo W (co 66 o)) (h5:∀s∈ss,St ws s/\Clo W s) (h6:m=(co 66 o).length) (h7:ss.length=o.length):I_ord ws c cs W m ls hd
def ZT(E:121)(hcm:∀w∈ws,w.com=c):WF Bf [.im (AQ ws),.im 119] [] λd x=>∃(o:73) (ss:List (List Nat)) (s:73),d=.im (.tup [Aa o,Aa s])/\Made 66 c (AW ws) cs W o ss/\co 66 o=[]/\s∈ss/\(∀s∈ss,St ws s/\Clo W s)/\∀s'∈ss,bnd ws cs h (Mc W) s'<=bnd ws cs h (Mc W) s:=by
 have hn:=E.ok.2.1;unfold Bf;refine Au rfl ?_;refine AA (AK (Ae (A3 (A2 rfl (A7 ⟨by simp,(We E hcm).mono ?_⟩)))));rintro d x rfl;refine⟨_,rfl,A5 ?_⟩;refine AA (AK (Al (BG (A7 ⟨AL 71,A5 ?_⟩))));refine AA (AK (Al (BG (A7 ⟨AL 71,A5 ?_⟩))));have rn:B7 (B1 0 66)=.im (Aa 152):=by rw[Bg,DY]
 have rgl:Fm (ws.length:Int):=FK 68 68;refine AA (AK (WP.eq (z:=.im (Aa 152)) (h:=[.lst [],.lst []]) (by simp[B4,rgl,rn]) (A5 ?_)));change WS _ [some 132,some (.im 119),some (.im (.int c)),some (.mu 0),some (.mu 1),some (.im (Aa 152)),none] [.lst [],.lst []] _;have eco:co 66 []=69 ws.length:=by simp[co]
 refine AA (GP (I_ord ws c cs W) (n:=66) ?_ ?_)
 .refine⟨[],[],none,by rw[eco],rfl,.nil,?_,by simp,by rw[eco];simp,rfl⟩;rw[eco];intro p hp _;simpa using (E.R.ins p hp).1
 .rintro n ls hd ⟨o,ss,z6,rfl,rfl,hm,cl,hst,hn',hlen⟩;have ol:o.length<=8:=by
   have:=hm.nd;have h1:=Ny this.1 this.2;omega
  refine Dq (A2 rfl ⟨_,rfl,?_⟩);by_cases hne:co 66 o=[]
  .rw[ip (by simp[hne])];refine A5 ?_;have hss:ss≠[]:=by
    intro z;rw[z]at hlen;have:o=[]:=List.eq_nil_of_length_eq_zero hlen.symm;rw[this,eco]at hne;have:=E.ok.1;have h1:(152).length=0:=by rw[hne];rfl
    rw[length_range]at h1;omega
   refine Ap (BY (A3 (BE (A3 (A2 rfl (A7 (BK rfl rfl ?_)))))));refine A3 (Br (A3 (A2 rfl (A3 (A2 rfl (A3 (A2 rfl (A7 ((Pu E (ss:=ss) rfl hss (λs hs=>(hst s hs).1)).mono ?_)))))))));rintro d x ⟨s,hs,rfl,hb⟩;refine A7 ⟨DH,o,ss,s,?_,hm,hne,hs,hst,hb⟩;rw[DY];rfl
  .rw[il (by cases h:co 66 o with|nil=>exact absurd h hne|cons=>rfl)];have S:=fw E hcm hne;refine AA (AK (Ae (A3 (A2 rfl (A3 (A2 rfl (A3 (A2 rfl (A3 (A9 (A2 rfl (Ae (A3 (A2 rfl (A3 (A2 rfl (A7 ⟨by simp,(W8 S.lt S.l8).mono ?_⟩)))))))))))))))));rintro d x rfl;refine⟨_,rfl,Cl (A7 ⟨by simp,(Kh E S _).mono ?_⟩)⟩;rintro d x ⟨u,rfl,hu,ec⟩;refine⟨_,rfl,A5 ?_⟩;change WS _ [some 132,some (.im 119),some (.im (.int c)),some (.mu 0),some (.mu 1),some (.im (Aa (co 66 o))),some (.im (.int (u:Int)))] [.lst (AG o),.lst (ss.map Aj)] _;refine AA (BP (CT (A2 rfl ⟨⟨_,rfl⟩,A3 (AS (A3 (A2 rfl (A7 (S6 rfl 71 71 (Ax (by simp[AG];omega)) (A5 ?_))))))⟩)));refine AA (BP (CT (A2 rfl ⟨⟨_,rfl⟩,A3 (A2 rfl (A7 (C0 rfl (Ax 82) (A5 ?_))))⟩)));refine AK (Ae (A3 (A2 rfl (A3 (A2 rfl (A7 ⟨by simp,(Lm _ u S.l8).mono ?_⟩))))));rintro d x rfl;refine⟨_,rfl,?_⟩;have hf:=WB E.R hu;have hu0:=(mem_filter.mp hu).1;have ecc:=Q2 (n:=66) (b:=o) (u:=u);have hlt:(co 66 (u::o)).length<n:=by
    rw[<- ecc,hn'];exact MK hu0
   refine⟨_,hlt,u::o,ss++[co 66 o],_,by rw[<- ecc];rfl,by simp[AG],.cons u hm hu0 ec hf,Wi cl hf,?_,rfl,by simp[hlen]⟩;intro s hs;rcases mem_append.mp hs with q|q
   .exact hst s q
   .rw[jd]at q;rw[q];exact⟨S,cl⟩
end
open PySem L2 Bd Hds
open Bk (Pc upd)
structure Orr(n:Nat)(W:98)(o:73):Prop where
 ol:o.length=n
 nd:o.Nodup
 lt:∀k∈o,k<n
 fr:∀a k r,o=a++k::r->∀p∈W,p.2=k->p.1∈a
def TQ{n:Nat}{o:73}(nd:o.Nodup)(lt:∀k∈o,k<n)(hl:o.length=n):∀k,k<n->k∈o:=λk hk=>159 λz=>by
 have:=Du.nd_len (l:=k::o) (L:=69 n) (nodup_cons.mpr ⟨z,nd⟩) λx hx=>by
  rcases mem_cons.mp hx with rfl|q
  .simpa using hk
  .simpa using lt x q
 simp at this;omega
def Ord.orr{n:Nat}(O:Ord n W o):Orr n W o:=by
 have nd:o.Nodup:=O.pm.nodup_iff.mpr jC;refine⟨by simpa using O.pm.length_eq,nd,λk hk=>by simpa using O.pm.mem_iff.mp hk,λa k r e p hp ek=>?_⟩;have h1:=O.lt p hp;subst e;have ka:k∉a:=λq=>by
  rw[nodup_append]at nd;exact nd.2.2 k q k 71 rfl
 have e2:(a++k::r).idxOf k=a.length:=by rw[idxOf_append,ip ka,List.idxOf_cons_self];omega
 rw[ek,e2]at h1;refine 159 λq=>?_;rw[idxOf_append,ip q]at h1;omega
section
variable{cs:192}{rk:183}{h dd d:74}
structure Run(ws:174)(W:98)(h en:74):Prop where
 ex:∃left t,Du.Wr 66 178 h W left en t/\∀k,k<66->left k=0
def fm{c:Int}{l:74}{rest:73}{k:Nat}(kp:k∉pre):En c l (pre++k::rest) k=c+((pre++[k]).map l).sum:=by
 unfold En;have e2:(pre++k::rest).idxOf k=pre.length:=by rw[idxOf_append,ip kp,List.idxOf_cons_self];omega
 rw[e2,show pre++k::rest=(pre++[k])++rest by simp,List.take_left' 71]
theorem Pb(ok:FM ws):∀{pre:73},(∀k∈pre,k<66)->0<=(pre.map (AW ws)).sum
 |[],_=>by simp
 |x::r,h=>by
  have:=Pb ok (pre:=r) λk hk=>h k (by simp[hk]);have:=(O7 ok (h x 71)).1;simp;omega
inductive I_rn(ws:174)(W:98)(h:74)(c:Int)(o:73)(r:137)(ls:Ls)(hd:Hd):Prop
 |mk (pre rest:73) (left en:74) (t:Int) (z4:Option D) (h0:o=pre++rest) (h1:r=AG rest) (h2:ls=[some 132,some (Aj o),some (.mu 0),some (.im (.int t)),z4]) (h3:hd=[.lst (fl 66 en)]) (h4:Du.Wr 66 178 h W left en t) (h5:∀k,k<66->left k=if k∈pre then 0 else AO ws k) (h6:t<=c+(pre.map (AW ws)).sum) (h7:∀k∈pre,en k<=En c (AW ws) o k):I_rn ws W h c o r ls hd
def f6(E:121){c:Int}(hco:∀k,k<66->Ag ws k=c)(ho:Orr 66 W o):WF Dz [.im (AQ ws),Aj o] [] λd x=>d=.mu 0/\∃en,x=[.lst (fl 66 en)]/\Run ws W h en/\∀k,k<66->en k<=En c (AW ws) o k:=by
 have hn:=E.ok.2.1;have c0:0<=c:=by have:=(ER E.ok (k:=0) (by have:=E.ok.1;omega)).1;rw[hco 0 (by have:=E.ok.1;omega)]at this;exact this
 obtain⟨ol,nd,lt,fr⟩:=ho;have all:=TQ nd lt ol;have eln:(((ws.map wgI).map D.im).length:Int)=(ws.length:Int):=by simp
 unfold Dz;refine Au rfl ?_;refine AA (AK (Al (N7 (BG (A3 (AS (A7 ⟨AL 71,?_⟩)))))));refine BE (A3 (A2 rfl (A7 (BK rfl rfl ⟨_,rfl,by simp;omega,AL 82,A5 ?_⟩))));rw[eln,jl,LR];refine AA (AK (AS (A5 ?_)));refine AA (CL (Bv (A2 rfl ⟨_,rfl,?_⟩)));rw[show(o.map λk:Nat=>I.int (k:Int)).map D.im=AG o from D4 o];refine BX (I_rn ws W h c o) ⟨[],o,AO ws,λ_=>0,0,none,rfl,rfl,rfl,rfl,⟨Bk.Inv.start (λp hp=>E.R.ins p hp) (λk _=>C3 ws k) λ_ _=>rfl,λk _=>.inl rfl,λw _ q=>by omega⟩,λk _=>by simp,by simpa using c0,λk hk=>by cases hk⟩ ?_ ?_
 .rintro x r ls hd ⟨pre,rest,left,en,t,z4,eo,er,rfl,rfl,R,hl,ht,he⟩;cases rest with
  |nil=>cases er
  |cons k rest=>
   obtain⟨rfl,rfl⟩:=166 er;have hk:k<ws.length:=lt k (by rw[eo];simp);have kp:k∉pre:=λq=>by
    rw[eo,nodup_append]at nd;exact nd.2.2 k q k 71 rfl
   have lk:left k=AO ws k:=by rw[hl k hk,ip kp]
   have fk:∀p∈W,p.2=k->left p.1=0:=λp hp e=>by
    rw[hl p.1 (E.R.ins p hp).1,il (fr pre k rest eo p hp e)]
   have st:=R.step E.hs hk (x:=max t (Ag ws k)) 68 68 lk fk;have p0:=Pb E.ok (pre:=pre) λj hj=>lt j (by rw[eo];simp[hj]);have t1:max t (Ag ws k)+AO ws k<=c+((pre++[k]).map (AW ws)).sum:=by
    rw[hco k hk,Di E.ok hk,jB,List.sum_append];simp;omega
   have ek:En c (AW ws) o k=c+((pre++[k]).map (AW ws)).sum:=by rw[eo];exact fm kp
   refine⟨_,rfl,?_⟩;dsimp only[set_cons_zero,set_cons_succ];refine AA (AK (A9 (BE (A3 (A2 rfl (A3 (A9 (A9 (A2 rfl (A2 rfl (AF (by rw[Cb,<- BI]) (D2 hk) (AS (AF rfl (DD _ _ _) (A7 (Ew ?_)))))))))))))));refine A9 (A9 (A2 rfl (A2 rfl (AF (by rw[Cb,<- BI]) (D2 hk) (AS (AF rfl (Cg _ _) (Cl (A5 ?_))))))));have ec:ws[k].com=Ag ws k:=by simp[Ag,hk]
   dsimp only[set_cons_zero,set_cons_succ];rw[ec,HM hk,<- Di E.ok hk];refine Cd (A2 rfl (A2 rfl (A2 rfl ⟨0,_,k,_,rfl,rfl,rfl,KQ en hk,?_⟩)));rw[Hx];refine⟨AJ _,pre++[k],rest,_,_,_,_,by rw[eo];simp,rfl,rfl,rfl,st,λj hj=>?_,t1,λj hj=>?_⟩
   .by_cases e:j=k
    .subst e;rw[Bk.upd_self,il 71]
    .rw[Bk.upd_ne e,hl j hj];by_cases q:j∈pre
     .rw[il q,il (by simp[q])]
     .rw[ip q,ip (by simp[q,e])]
   .by_cases e:j=k
    .subst e;rw[Bk.upd_self,ek];exact t1
    .rw[Bk.upd_ne e];exact he j (by rcases mem_append.mp hj with q|q;exact q;exact absurd (by simpa using q) e)
 .rintro ls hd ⟨pre,rest,left,en,t,z4,eo,er,rfl,rfl,R,hl,ht,he⟩;have:rest=[]:=by cases rest with
   |nil=>rfl
   |cons t r=>cases er
  subst this;rw[jq]at eo;subst eo;exact A5 (Ap (A2 rfl ⟨rfl,en,rfl,⟨left,t,R,λk hk=>by rw[hl k hk,il (all k hk)]⟩,λk hk=>he k (all k hk)⟩))
def VB(E:121)(hl:Do ws cs d):WF By [.im (AQ ws),.im (.str "late")] [] λd x=>d=.im .non:=by
 have n8:=E.ok.2.1;unfold By;refine Au rfl ?_;refine BA (Dq (Bj (Ah (Bv (A2 rfl ⟨_,rfl,?_⟩)))));rw[<- BI];refine⟨AL 82,?_⟩;refine Ay (λw=>D.im (wgI w)) (λ_=>some (.im (.bl false))) (λ_ ls=>∃x,ls=[some x,some (.im (.str "late"))]) _ (AJ _) ?_ ?_
 .rintro z hz ls hls;refine⟨[some (.im (wgI z)),some (.im (.str "late"))],by rcases hls with rfl|⟨_,x,rfl⟩<;>rfl,⟨_,rfl⟩,BF ⟨rfl,?_⟩⟩;rw[il rfl];obtain⟨k,hk,rfl⟩:=List.getElem_of_mem hz;refine⟨_,rfl,A9 (A9 (A9 (A2 rfl (AS (AF rfl (Ef _ _ _ _) ?_)))))⟩;rw[II E.hcs hk,hl k hk];refine AS (AF (ds:=[.im (.str "late"),.im (.int (d k))]) rfl (Cg _ _) (A2 rfl (HL ⟨rfl,?_⟩)));simp
 have e:(ws.filterMap λ_=>some (D.im (.bl false)))=blD (ws.map λ_=>false):=by simp[blD]
 rw[e];refine⟨_,by rw[JS,Jf];rfl,_,rfl,?_⟩;exact⟨(λh=>by simp at h),λ_=>Az rfl⟩
def fo(E:121)(hl:Do ws cs d):WF Eu [.im (AQ ws),.im 119] [] λr x=>∃(P:List Pc) (dd:74),r=.im (.tup (P.map pcI))/\Dp ws h dd W P/\Du.Tu 66 178 d W rk dd ws.length:=by
 unfold Eu;refine Au rfl ?_;refine AA (BP (Ae (A3 (A2 rfl (A3 (AS (A7 ⟨by simp,(VB E hl).mono ?_⟩)))))));rintro _ _ rfl;refine⟨_,rfl,A5 ?_⟩;refine AA (AK (Dc (A3 (A2 rfl (A3 (A2 rfl (A7 ⟨by simp,(UW E hl).mono ?_⟩)))))));rintro _ _ ⟨rfl,v,rfl,U⟩;refine⟨0,_,rfl,rfl,Cy _ _,A5 ?_⟩;refine Ap (SD (A2 rfl (Ae (A3 (A2 rfl (A3 (A2 rfl (A7 ⟨by simp,(Ib E.ok.2.1 (λk hk=>(ER E.ok hk).1) E.hW E.R E.hrk E.H).mono ?_⟩))))))));rintro _ _ rfl;refine⟨_,rfl,0,fl 66 v,rfl,rfl,by simp[As,clD],Cy _ _,(VH E U.done).mono ?_⟩;rintro _ _ ⟨P,rfl,D⟩;exact⟨_,rfl,P,v,rfl,D,U⟩
noncomputable def Gg:I->Bool
 |.tup (.str x::_)=>decide (x="late")
 |_=>false
def O8(E:121)(q:ws.filter (λw=>!Gg w.co)=[]):∃d,Do ws cs d:=by
 refine⟨λk=>match cs k with|.late d=>d|_=>0,λk hk=>?_⟩;have h1:=filter_eq_nil_iff.mp q ws[k] (List.getElem_mem hk);rw[II E.hcs hk]at h1;have n1:¬ (("tardy":Str)="late"):=by decide +kernel
 have n2:¬ (("miss":Str)="late"):=by decide +kernel
 have n3:¬ (("ends":Str)="late"):=by decide +kernel
 have n4:¬ (("steps":Str)="late"):=by decide +kernel
 cases c:cs k with
 |late d=>simp only[c]
 |tardy d w=>rw[c]at h1;simp[BC,Gg,n1]at h1
 |miss d w=>rw[c]at h1;simp[BC,Gg,n2]at h1
 |ends w=>rw[c]at h1;simp[BC,Gg,n3]at h1
 |steps rows=>rw[c]at h1;simp[BC,Gg,n4]at h1
def WY(E:121)(hl:Do ws cs d)(D:Dp ws h dd W P)(U:Du.Tu 66 178 d W rk dd 66){en':74}(he:∀k,k<66->∃q∈P,q.1=k/\en' k=q.2.2){en:74}(R:Run ws W h en):gr ws cs en'<=gr ws cs en:=by
 have h0:=E.ok.1;have ms:=(BH (xs:=(152).map λk=>(cs k).at (en' k)) (jH (mem_map.mpr ⟨0,mem_range.mpr 68,rfl⟩))).1;obtain⟨k,hk,ek⟩:=mem_map.mp ms;have hk:k<ws.length:=by simpa using hk
 obtain⟨left,t,Wr,z⟩:=R.ex;obtain⟨lf,t2,S,z2⟩:=D.ex;obtain⟨m,hm,q⟩:=Du.beat E.hs Wr z U S hk (z2 k hk) (by obtain⟨p,h1,h2,h3⟩:=he k hk;exact⟨p,h1,h2,h3⟩:∃p∈P,p.1=k/\en' k=p.2.2);have g:=Re (ws:=ws) (cs:=cs) (en:=en) hm;have:gr ws cs en'=(cs k).at (en' k):=by unfold gr;exact ek.symm
 rw[this,hl k hk];rw[hl m hm]at g;exact 182 (show en' k-d k<=en m-d m from q) g
end
open PySem L2 Bd Hds
def LG(h:xs≠[])(s:∀x∈xs,x∈ys):C8 ys<=C8 xs:=
 (BS (jH (s _ (BS h).1))).2 _ (s _ (BS h).1)
def Uq{xs:88}(p:xs.Perm ys):xs.sum=ys.sum:=by
 induction p with
 |nil=>rfl
 |cons x _ ih=>simp[ih]
 |swap x y l=>simp;omega
 |trans _ _ a b=>exact a.trans b
def W0{xs:88}(p:xs.Perm ys):C8 xs=C8 ys:=by
 cases xs with
 |nil=>rw[p.nil_eq]
 |cons x r=>
  have hy:ys≠[]:=λe=>by subst e;exact absurd p.eq_nil 71
  exact kg (LG hy λz hz=>p.mem_iff.mpr hz) (LG 71 λz hz=>p.mem_iff.mp hz)
structure Rn(ws ws':174)(cs cs':192)(h h':74)(W W':98)(f:183):Prop where
 e:ws'.length=66
 lt:∀k,k<66->f k<66
 inj:∀i j,i<66->j<66->f i=f j->i=j
 ln:∀k,k<66->AW ws' k=AW ws (f k)
 cs:∀k,k<66->cs' k=cs (f k)
 hd:∀k,k<66->h' k=h (f k)
 wi:∀p∈W',(f p.1,f p.2)∈W
section
variable{cs cs':192}{h h':74}{f:183}{L L':Int}
def Rn.l1(R:Rn ws ws' cs cs' h h' W W' f){k:Nat}(hk:k<66):AO ws' k=AO ws (f k):=by unfold AO;rw[R.ln k hk]
def Rn.inv(R:Rn ws ws' cs cs' h h' W W' f)(ins:∀p∈W',p.1<66/\p.2<66){left en:74}{t:Int}(I:Bk.Inv 66 178 h W left en t):Bk.Inv ws'.length (AO ws') h' W' (λk=>left (f k)) (λk=>en (f k)) t:=by
 rw[R.e];refine⟨λk hk=>?_,λk hk q=>?_,λks nd hk b hb=>?_,λp hp q=>?_⟩
 .rw[R.l1 hk];exact I.lo _ (R.lt k hk)
 .rw[R.l1 hk]at q;exact I.et _ (R.lt k hk) q
 .have nd':(ks.map f).Nodup:=by
   refine pairwise_map.mpr (nd.imp_of_mem λ{a b} ha hb' hab e=>hab (R.inj a b (hk a ha) (hk b hb') e))
  have e:Bk.dn (AO ws') (λk=>left (f k)) ks=Bk.dn 178 left (ks.map f):=by
   unfold Bk.dn;rw[j5]
   congr 1
   exact jE λk hk'=>by simp[R.l1 (hk k hk')]
  rcases I.bd (ks.map f) nd' (λk hk'=>by obtain⟨j,hj,rfl⟩:=mem_map.mp hk';exact R.lt j (hk j hj)) b (λk hk'=>by obtain⟨j,hj,rfl⟩:=mem_map.mp hk';rw[<- R.hd j (hk j hj)];exact hb j hj)with q|⟨u,hu,q1,q2⟩
  .exact .inl λk hk'=>by rw[R.l1 (hk k hk')];exact q _ (mem_map.mpr ⟨k,hk',rfl⟩)
  .obtain⟨j,hj,rfl⟩:=mem_map.mp hu;exact .inr ⟨j,hj,by rw[R.l1 (hk j hj)];exact q1,by rw[e];exact q2⟩
 .have hp2:=ins p hp;rw[R.l1 hp2.2]at q;exact I.wi _ (R.wi p hp) q
theorem Rn.gr(R:Rn ws ws' cs cs' h h' W W' f)(h0:0<66)(en:74):gr ws' cs' (λk=>en (f k))<=gr ws cs en:=by
 have ms:=(BH (xs:=(69 ws'.length).map λk=>(cs' k).at (en (f k))) (jH (mem_map.mpr ⟨0,mem_range.mpr (by rw[R.e];exact h0),rfl⟩))).1;obtain⟨k,hk,ek⟩:=mem_map.mp ms;have hk:k<ws.length:=by rw[<- R.e];simpa using hk
 have g:=Re (ws:=ws) (cs:=cs) (en:=en) (R.lt k hk);have:T31.gr ws' cs' (λk=>en (f k))=(cs' k).at (en (f k)):=by unfold T31.gr;exact ek.symm
 rw[this,R.cs k hk];exact g
def Rn.rc(R:Rn ws ws' cs cs' h h' W W' f){x y:Int}(r:Rc (Bq W') x y):∀i:Nat,x=i->∃j:Nat,y=j/\Rc (Bq W) (f i:Int) (f j:Int):=by
 have one:∀{x y:Int},(x,y)∈Bq W'->∀i:Nat,x=i->∃j:Nat,y=j/\((f i:Int),(f j:Int))∈Bq W:=by
  intro x y hm i hi;obtain⟨⟨a,b⟩,hp,e⟩:=mem_map.mp hm;simp only[Prod.mk.injEq]at e;obtain⟨e1,e2⟩:=e;have:a=i:=by omega
  subst this;exact⟨b,e2.symm,mem_map.mpr ⟨_,R.wi _ hp,rfl⟩⟩
 induction r with
 |one hm=>intro i hi;obtain⟨j,e,q⟩:=one hm i hi;exact⟨j,e,.one q⟩
 |step _ hm ih=>
  intro i hi;obtain⟨m,rfl,q⟩:=ih i hi;obtain⟨j,e,q2⟩:=one hm m rfl;exact⟨j,e,.step q q2⟩
def Rn.mc(R:Rn ws ws' cs cs' h h' W W' f){i j:Nat}(q:Mc W' i j=true):Mc W (f i) (f j)=true:=by
 have q:Rc (Bq W') i j:=by simpa [Mc]using q
 obtain⟨m,e,q⟩:=R.rc q i rfl;have:j=m:=by omega
 subst this;simpa [Mc]using q
def Rn.bnd_le(R:Rn ws ws' cs cs' h h' W W' f){ks':73}(pm:(ks'.map f).Perm ks)(hk:∀k∈ks',k<66)(hne:C7 (Mc W) ks≠[]):bnd ws' cs' h' (Mc W') ks'<=bnd ws cs h (Mc W) ks:=by
 have ee:DQ ws' h' ks'=DQ ws h ks:=by
  unfold DQ;have e1:ks'.map h'=(ks'.map f).map h:=by rw[j5];exact jE λk hk'=>R.hd k (hk k hk')
  have e2:ks'.map (AW ws')=(ks'.map f).map (AW ws):=by rw[j5];exact jE λk hk'=>R.ln k (hk k hk')
  rw[e1,e2,W0 (pm.map h),Uq (pm.map (AW ws))]
 unfold bnd;rw[ee];refine LG (by simpa using hne) λx hx=>?_;obtain⟨k,hk',rfl⟩:=mem_map.mp hx;obtain⟨h1,h2⟩:=mem_filter.mp hk';obtain⟨j,hj,rfl⟩:=mem_map.mp (pm.mem_iff.mpr h1);refine mem_map.mpr ⟨j,mem_filter.mpr ⟨hj,?_⟩,by rw[R.cs j (hk j hj)]⟩;rw[Bool.not_eq_true',any_eq_false]at h2 ⊢;intro b hb q;exact h2 (f b) (pm.mem_iff.mp (mem_map.mpr ⟨b,hb,rfl⟩)) (R.mc q)
end
structure Opt(ws:174)(cs:192)(W:98)(h:74)(L:Int):Prop where
 run:∃en,Run ws W h en/\L=gr ws cs en
 low:∀(left en:74) (t:Int),Bk.Inv 66 178 h W left en t->(∀k,k<66->left k=0)->L<=gr ws cs en
def Opt.le{cs cs':192}{h h':74}{f:183}{L L':Int}(O:Opt ws cs W h L)(O':Opt ws' cs' W' h' L')(R:Rn ws ws' cs cs' h h' W W' f)(h0:0<66)(ins:∀p∈W',p.1<66/\p.2<66):L'<=L:=by
 obtain⟨⟨en,⟨left,t,Wr,z⟩,rfl⟩,_⟩:=O;exact 182 (O'.low _ _ t (R.inv ins Wr.I) λk hk=>z _ (R.lt k (by rw[<- R.e];exact hk))) (R.gr h0 en)
open PySem L2 Bd Hds
open PyProof.Rows (step_dedup)
open Bk (Pc upd)
def UM:F7 [] []=some (.mu 0,[Wo X5]):=by simp[F7,mkF,X5]
def UL:∀x∈X5,GL x:=by
 intro x hx;simp[X5]at hx;exact hx
theorem SH{k:Nat}{b e:Int}:∀{P:List Pc} {b0:Int},Bk.Row b0 P->(∀p∈P,p.1=k->b<=p.2.1/\p.2.2<=e)->Bk.tot k P<=max 0 (e-max b b0)
 |[],_,_,_=>by simp only[Bk.tot];omega
 |p::r,b0,R,h=>by
  have r1:b0<=p.2.1:=R.1;have r2:p.2.1<p.2.2:=R.2.1;have ih:=SH R.2.2 λq hq=>h q (by simp[hq]);simp only[Bk.tot];by_cases ek:p.1=k
  .have:=h p 71 ek;rw[il ek];omega
  .rw[ip ek];omega
section
variable{cs:192}{rk:183}{h:74}{c:Int}
def Sd(E:121)(O:Du.Pk 66 h 178 W ps){left en:74}{t:Int}(I:Bk.Inv 66 178 h W left en t)(l0:∀k,k<66->left k=0)(hen:∀k,k<66->∃q∈ps,(q.1=k/\en k=q.2.2)/\∀p∈ps,p.1=k->p.2.2<=en k):Run ws W h en:=by
 refine⟨left,t,⟨I,λk hk=>.inr (l0 k hk),λw hw _=>?_⟩,l0⟩;have i:=E.R.ins w hw;obtain⟨q1,hq1,⟨e1,e2⟩,_⟩:=hen w.1 i.1;obtain⟨q2,hq2,⟨_,e4⟩,m2⟩:=hen w.2 i.2;have:=SH (k:=w.2) (b:=en w.1) (e:=en w.2) O.row λp hp ep=>⟨by rw[e2];exact O.wis w hw q1 hq1 p hp e1 ep,m2 p hp ep⟩
 rw[O.tot w.2 i.2]at this;have:=C3 ws w.2;omega
def ZU(E:121)(hco:∀k,k<66->Ag ws k=c)(m:Made 66 c (AW ws) cs W o ss)(pm:o.Perm 152)(hs:s∈ss)(hst:∀s∈ss,St ws s/\Clo W s)(hb:∀s'∈ss,bnd ws cs h (Mc W) s'<=bnd ws cs h (Mc W) s){en:74}(R:Run ws W h en)(he:∀k,k<66->en k<=En c (AW ws) o k):Opt ws cs W h (gr ws cs en):=by
 have h0:=E.ok.1;have nds:s.Nodup:=by
  obtain⟨r,e,_⟩:=m.sets s hs;rw[e];exact nodup_range.filter _
 have up:gr ws cs en<=bnd ws cs h (Mc W) s:=by
  have ms:=(BH (xs:=(152).map λk=>(cs k).at (en k)) (jH (mem_map.mpr ⟨0,mem_range.mpr 68,rfl⟩))).1;obtain⟨k,hk,ek⟩:=mem_map.mp ms;have hk:k<ws.length:=by simpa using hk
  obtain⟨s',hs',e⟩:=m.cost pm hk;have S:=hst s' hs';have e2:bnd ws cs h (Mc W) s'=bd c (AW ws) cs W s':=by
   unfold bnd bd DQ;rw[W1 E.R E.H hco S.1.lt S.1.ne S.2]
  have h1:=Lg (E.hcs k hk).2.1 (he k hk);have h2:=hb s' hs';have h3:gr ws cs en=(cs k).at (en k):=by unfold gr;exact ek.symm
  rw[h3];omega
 exact⟨⟨en,R,rfl⟩,λleft en' t I z=>182 up (low E I z (hst s hs).1 nds)⟩
structure Fin(ws:174)(cs:192)(W:98)(h:74)(L:Int)(P:List Pc):Prop where
 pk:Du.Pk 66 h 178 W P
 le:∀en:Nat->Int,(∀k,k<66->∃q∈P,q.1=k/\en k=q.2.2)->gr ws cs en<=L
def UO(E:121)(B:Bk.Brk h 178 (chz cs W) 152 ps ss)(hs:s∈ss)(hb:∀s'∈ss,bnd ws cs h (Mc W) s'<=bnd ws cs h (Mc W) s){L:Int}(b:Opt ws cs W h L):Fin ws cs W h L ps:=by
 obtain⟨⟨en,⟨left,t,R,z⟩,rfl⟩,_⟩:=b;have S:=Mr E B s hs;exact⟨UD E B,λen' he=>182 (up E B hb he) (low E R.I z S.1 S.2)⟩
def fQ(E:121)(hcm:∀w∈ws,w.com=c){i j:Nat}(e1:ls[i]?=some (some 132))(e2:ls[j]?=some (some (.im 119))){QE:172}(q:∀(o:73),Orr 66 W o->(∀en:Nat->Int,Run ws W h en->(∀k,k<66->en k<=En c (AW ws) o k)->Opt ws cs W h (gr ws cs en))->QE (Aj o) hd):
 WE (mOp gIx (A8 0 Bf (A1 (A0 i) (A1 (A0 j) A4))) 122) ls hd QE:=by
 have hco:∀k,k<66->Ag ws k=c:=λk hk=>by
  have:=hcm ws[k] (List.getElem_mem hk);simpa [Ag,hk]using this
 refine A9 (Ae (A3 (A2 e1 (A3 (A2 e2 (A7 ⟨by simp,(ZT E hcm).mono ?_⟩))))));rintro _ _ ⟨o,ss,s,rfl,m,hc,hs,hst,hb⟩;have O:=m.ord (λp hp=>E.R.ins p hp) hc;exact⟨_,rfl,AS (AF rfl (Cg _ _) (q o O.orr λen R he=>ZU E hco m O.pm hs hst hb R he))⟩
end
section
variable{cs:192}{rk:183}{h:74}{c:Int}
def Q6(E:121):∃L,Opt ws cs W h L:=by
 obtain⟨_,_,_,ps,ss,s,_,B,hs,hb,_⟩:=TB E;have O:=UD E B;obtain⟨_,_,_,left,en,t,_,_,I,l0,hen⟩:=Tv E O;have S:=Mr E B s hs;exact⟨gr ws cs en,⟨en,Sd E O I l0 hen,rfl⟩,λleft' en' t' I' z=>182 (up E B hb λk hk=>let ⟨q,h1,h2,_⟩:=hen k hk;⟨q,h1,h2⟩) (low E I' z S.1 S.2)⟩
noncomputable def DM(ws:174):Bool:=ws.all λw=>decide (w.com=Ag ws 0)
def fS(E:121)(e0:ls[0]?=some (some 132)){QT:Bool->Hd->Prop}(q:QT (DM ws) hd):WT (AB (mOp gEq (Dh (Ab 1 [] (Aw 77) (AD 0) BV (mOp gIx 77 124))) 124)) ls hd QT:=by
 have n8:=E.ok.2.1;have n0:=E.ok.1;refine AR (A9 (SA (Ah (Bv (A2 e0 ⟨_,rfl,?_⟩)))));rw[<- BI];refine⟨AL 82,?_⟩;refine Ay (λw=>D.im (wgI w)) (λw=>some (.im (.int w.com))) (λ_ ls=>∃x,ls=[some x]) _ (AJ _) ?_ ?_
 .rintro z hz ls hls;refine⟨[some (.im (wgI z))],by rcases hls with rfl|⟨_,x,rfl⟩<;>rfl,⟨_,rfl⟩,BF ⟨rfl,?_⟩⟩;rw[il rfl];exact⟨_,rfl,A9 (A2 rfl (AS (AF rfl (DD _ _ _) ⟨rfl,rfl⟩)))⟩
 refine⟨ws.map Wg.com,by simp,by simp;omega,AS (Ck ⟨_,rfl,?_⟩)⟩;have:decide (((dkL (ws.map Wg.com)).length:Int)=1)=DM ws:=by
  obtain⟨w0,r,rfl⟩:∃w0 r,ws=w0::r:=by cases ws with
   |nil=>simp at n0
   |cons a b=>exact⟨a,b,rfl⟩
  have z0:Ag (w0::r) 0=w0.com:=rfl;have g:=ft w0.com (r.map Wg.com);have l1:1<=(dkL ((w0::r).map Wg.com)).length:=by
   have:dkL (w0.com::r.map Wg.com)=(r.map Wg.com).foldl step_dedup [w0.com]:=by
    unfold dkL;rw[foldl_cons];have:step_dedup [] w0.com=[w0.com]:=by unfold step_dedup;rw[ip 71];rfl
    rw[this]
   rw[j3,this];exact LZ _ [w0.com]
  rw[j3]at l1 ⊢;by_cases a:∀n∈r.map Wg.com,n=w0.com
  .have h1:¬ 1<((dkL (w0.com::r.map Wg.com)).length:Int):=λz=>g.mp z a;rw[jI (show((dkL (w0.com::r.map Wg.com)).length:Int)=1 by omega)];refine(all_eq_true.mpr λw hw=>?_).symm;rw[z0];rcases mem_cons.mp hw with rfl|hw
   .simp
   .exact jI (a _ (mem_map.mpr ⟨w,hw,rfl⟩))
  .have h1:=g.mpr a;rw[jx (show ¬ ((dkL (w0.com::r.map Wg.com)).length:Int)=1 by omega)];refine(Bool.eq_false_iff.mpr λz=>a λn hn=>?_).symm;obtain⟨w,hw,rfl⟩:=mem_map.mp hn;have:=all_eq_true.mp z w (by simp[hw]);rw[z0]at this;exact jA this
 rw[this];exact q
end
open PySem L2 Bd Hds
open Bk (Pc upd)
noncomputable abbrev lD(m:Nat)(L:Int):MO:=.lst (79 m (.im (.int L)))
abbrev plD(Ps:List (List Pc)):MO:=.lst (Ps.map λP=>D.im (.tup (P.map pcI)))
def aL{k i:Nat}{QT:Bool->Hd->Prop}(e:ls[i]?=some (some (.mu k)))(q:QT false hd):WT (AB (FP false (A0 i))) ls hd QT:=by
 refine AR ⟨.im (.bl false),hd,?_,false,rfl,q⟩;simp[FP,A0,e]
def Xe(i:Nat)(L:Int):79 i (D.im (.int L))++[.im (.int L)]=79 (i+1) (.im (.int L)):=by rw[List.replicate_succ']
section
variable{cs:192}{rk:183}{h:74}{L:Int}
def Opt.eq(O:Opt ws cs W h L){en:74}(Ru:Run ws W h en)(hle:gr ws cs en<=L):gr ws cs en=L:=by
 obtain⟨left,t,R,z⟩:=Ru;exact kg hle (O.low _ _ _ R.I z)
inductive I_tc(ws:174)(cs:192)(W:98)(h:74)(L:Int)(d2:D)(Ps:List (List Pc))(r:137)(ls:Ls)(hd:Hd):Prop
 |mk (rest:List (List Pc)) (i:Nat) (g:Hd) (z5 z6:Option D) (h1:r=rest.map λP=>D.im (.tup (P.map pcI))) (h2:ls=[some 132,some (.im 119),some d2,some (.mu 0),some (.mu 1),z5,z6]) (h3:hd=plD Ps::lD i L::g) (h4:∀P∈rest,Fin ws cs W h L P) (h5:i+rest.length=Ps.length):I_tc ws cs W h L d2 Ps r ls hd
def Xz(E:121)(O:Opt ws cs W h L)(hP:∀P∈Ps,Fin ws cs W h L P)(h2:Ps.length<=2){Q:Fl->Hd->Prop}(hQ:∀z5 z6 g,Q (.nx [some 132,some (.im 119),some d2,some (.mu 0),some (.mu 1),z5,z6]) (plD Ps::lD Ps.length L::g)):
 WS (Be (Bs 167) (AD 5)
  (A6 (AE 6 (A8 0 GO (A1 77 (A1 131 (A1 (A0 5) A4)))))
 (An (mMt AX (A0 4) (A1 (mIf (AB (FP false (A0 6))) (mC .non) (BZ CG (A1 77 (A1 (A0 6) A4)))) A4))))) [some (.im (AQ ws)),some (.im (.tup (W.map AI))),some d2,some (.mu 0),some (.mu 1),none,none] [plD Ps,lD 0 L] Q:=by
 refine CL (Fv (A2 rfl ⟨0,_,rfl,rfl,?_⟩));refine BX (I_tc ws cs W h L d2 Ps) ⟨Ps,0,[],none,none,rfl,rfl,rfl,hP,by simp⟩ ?_ ?_
 .rintro x r ls hd ⟨rest,i,g,z5,z6,er,rfl,rfl,hF,hl⟩;cases rest with
  |nil=>cases er
  |cons P rest=>
   obtain⟨rfl,rfl⟩:=166 er;have F:=hF P 71;simp only[ji]at hl;refine⟨_,rfl,?_⟩;dsimp only[set_cons_zero,set_cons_succ];refine AA (AK (Dc (A3 (A2 rfl (A3 (A2 rfl (A3 (A2 rfl (A7 ⟨by simp,(Tv E F.pk).mono ?_⟩)))))))));rintro _ _ ⟨left,en,t,rfl,rfl,I,l0,hen⟩;refine⟨1,_,rfl,rfl,Cy _ _,A5 ?_⟩;dsimp only[set_cons_zero,set_cons_succ];have eq:=O.eq (Sd E F.pk I l0 hen) (F.le en λk hk=>let ⟨q,h1,h2,_⟩:=hen k hk;⟨q,h1,h2⟩);refine BP (CT (A2 rfl ⟨⟨79 i (.im (.int L)),by simp[Ad]⟩,A3 (N5 (aL rfl ⟨(λz=>by cases z),λ_=>Br (A3 (A2 rfl (A3 (A2 rfl (A7 ((dk E (en:=en) (CW _ _)).mono ?_))))))⟩))⟩));rintro _ _ ⟨rfl,rfl⟩;rw[eq];refine A7 (C0 (ds:=79 i (.im (.int L))) 71 (Ax 82) ?_);refine⟨?_,rest,i+1,g++[.lst (fl 66 en)],_,_,rfl,rfl,?_,λP hP=>hF P (by simp[hP]),by omega⟩
   .intro q hq;rw[jd]at hq;subst hq;simp
   .rw[Xe];simp
 .rintro ls hd ⟨rest,i,g,z5,z6,er,rfl,rfl,hF,hl⟩;have:rest=[]:=by cases rest with
   |nil=>rfl
   |cons _ _=>cases er
  subst this;have:i=Ps.length:=by simpa using hl
  subst this;exact hQ _ _ _
set_option maxHeartbeats 1000000 in
def SI(E:121)(O:Opt ws cs W h L){bb:Bool}(hl:bb=true->∃d,Do ws cs d):WF D1 [.im (AQ ws),.im 119,.im (.bl bb)] [] λd x=>d=.mu 1/\x[1]?=some (lD ((1+(bif bb then 1 else 0))+(bif DM ws then 1 else 0)) L):=by
 unfold D1;refine Au rfl ?_;refine AA (AK (Al (BG (A3 (A9 (Ae (A3 (A2 rfl (A3 (A2 rfl (A7 ⟨by simp,(TB E).mono ?_⟩)))))))))));rintro _ _ ⟨ps,ss,s,rfl,B,hs,hb,_⟩;refine⟨_,rfl,AS (AF rfl (Cg _ _) (A7 ⟨Cw,A5 ?_⟩))⟩;have F1:=UO E B hs hb O;change WS _ [some 132,some (.im 119),some (.im (.bl bb)),some (.mu 0),none,none,none] [plD [ps]] _;have fin:∀{Ps:List (List Pc)} {n:Nat},Ps.length=n->(∀P∈Ps,Fin ws cs W h L P)->n<=2->WS (A6 (AE 4 (AU (Af A4)))
  (A6 (Be (Bs 167) (AD 5)
   (A6 (AE 6 (A8 0 GO (A1 77 (A1 131 (A1 (A0 5) A4)))))
  (An (mMt AX (A0 4) (A1 (mIf (AB (FP false (A0 6))) (mC .non) (BZ CG (A1 77 (A1 (A0 6) A4)))) A4)))))
  (A6 (Ak (AB (mOp gEq (Dh (Ab 1 [] (Aw 77) (AD 0) BV (mOp gIx 77 124))) 124))
   (An (mMt AX (A0 4) (A1 (BZ CG (A1 77 (A1 (A8 0 Dz (A1 77 (A1 (mOp gIx (A8 0 Bf (A1 77 (A1 131 A4))) 122) A4))) A4))) A4)))
   AZ)
  (AN (A0 4))))) [some (.im (AQ ws)),some (.im (.tup (W.map AI))),some (.im (.bl bb)),some (.mu 0),none,none,none] [plD Ps] λf x=>∃d,f=.rt d/\d=.mu 1/\x[1]?=some (lD (n+(bif DM ws then 1 else 0)) L):=by
  rintro Ps n rfl hP h2;refine AA (AK (Al (BG (A7 ⟨AL 71,A5 ?_⟩))));refine AA (Xz E O hP h2 λz5 z6 g=>A5 ?_);refine AA (BA (fS E rfl ⟨λha=>?_,λha=>Az (A5 (Ap (A2 rfl ⟨_,rfl,rfl,by rw[ha];simp⟩)))⟩));have hcm:∀w∈ws,w.com=Ag ws 0:=λw hw=>jA (all_eq_true.mp ha w hw);have hco:∀k,k<66->Ag ws k=Ag ws 0:=λk hk=>by
   have:=hcm ws[k] (List.getElem_mem hk);simpa [Ag,hk]using this
  refine BP (CT (A2 rfl ⟨⟨79 Ps.length (.im (.int L)),by simp[Ad]⟩,A3 (Br (A3 (A2 rfl (A3 (Dc (A3 (A2 rfl (A3 (fQ E hcm rfl rfl λo Or op=>A7 ⟨by simp,(f6 E hco Or).mono ?_⟩)))))))))⟩));rintro d x ⟨rfl,en,rfl,Ru,he⟩;refine⟨0,_,rfl,rfl,Cy _ _,A7 ((dk E (en:=en) (CW _ _)).mono ?_)⟩;rintro d x ⟨rfl,rfl⟩;obtain⟨⟨en0,⟨left0,t0,R0,z0⟩,e0⟩,_⟩:=id O;have eq:=O.eq Ru (by rw[e0];exact(op en Ru he).low _ _ _ R0.I z0);rw[eq];refine A7 (C0 (ds:=79 Ps.length (.im (.int L))) 71 (Ax 82) (A5 ?_));refine Ap (A2 rfl ⟨_,rfl,rfl,?_⟩);rw[Xe,ha];simp
 refine AA (BA (Dq (A2 rfl ⟨bb,rfl,λq=>?_,λq=>?_⟩)))
 .obtain⟨dl,al⟩:=hl q;refine BP (CT (A2 rfl ⟨⟨[.im (.tup (ps.map pcI))],by simp[Ad]⟩,A3 (Ae (A3 (A2 rfl (A3 (A2 rfl (A7 ⟨by simp,(fo E al).mono ?_⟩))))))⟩));rintro _ _ ⟨P,dd,rfl,Dx,U⟩;refine⟨_,rfl,A7 (C0 (ds:=[.im (.tup (ps.map pcI))]) 71 (Ax 71) (A5 ?_))⟩;have F2:Fin ws cs W h L P:=⟨Dx.pk,λen he=>by
   obtain⟨⟨en',R,rfl⟩,_⟩:=O;exact WY E al Dx U he R⟩
  subst q;refine WP.mono (fin (Ps:=[ps,P]) (n:=2) rfl (λx hx=>by
   simp at hx;rcases hx with rfl|rfl
   .exact F1
   .exact F2) (ir _)) ?_
  rintro f x ⟨d,rfl,q⟩;exact q
 .subst q;refine Az (A5 (WP.mono (fin (Ps:=[ps]) (n:=1) rfl (λx hx=>by simp at hx;subst hx;exact F1) 95) ?_));rintro f x ⟨d,rfl,q⟩;exact q
end
open PySem L2 Bd Hds
open Bk (Pc upd)
def QB{QA:List D->Hd->Prop}(h:WI mi ls hd λp x=>∃ps:List 128,p.1=ps.map AT/\(126<64/\∀q∈ps,pok q)/\QA ((Bl ps).map AT) x):WA (DZ mi) ls hd QA:=by
 obtain⟨p,x,e,ps,e1,c,q⟩:=h;refine⟨_,_,?_,q⟩;simp only[Rl,e,bind_some,e1,KA];rw[il c]
def WJ(L:73)(k:Nat):(L.map λk:Nat=>(k:Int)).idxOf (k:Int)=L.idxOf k:=by
 induction L with
 |nil=>rfl
 |cons x r ih=>
  rw[j3,idxOf_cons,idxOf_cons,ih];by_cases e:x=k
  .subst e;simp
  .have h1:((x:Int)==(k:Int))=false:=by simpa using λz:(x:Int)=k=>e 68
   have h2:(x==k)=false:=by simpa using e
   rw[h1,h2]
def at0(nm:73)(j:Nat):Nat:=nm.getD j 0
noncomputable abbrev cs2(p:Nat×Nat):Int×Int:=((p.1:Int),(p.2:Int))
noncomputable def Bb(ws:174)(nm:73):List Wg:=(152).map λk=>(ws[nm.idxOf k]?).getD ⟨0,0,.non⟩
noncomputable def Ce(W:98)(nm:73):List (Nat×Nat):=(Bl ((W.map λq=>(at0 nm q.1,at0 nm q.2)).map cs2)).map λp=>(p.1.toNat,p.2.toNat)
def renP_mem:p∈Ce W nm↔∃q∈W,p=(at0 nm q.1,at0 nm q.2):=by
 unfold Ce;constructor
 .intro h;obtain⟨z,hz,rfl⟩:=mem_map.mp h;obtain⟨y,hy,rfl⟩:=mem_map.mp ((CV _).mem_iff.mp hz);obtain⟨q,hq,rfl⟩:=mem_map.mp hy;exact⟨q,hq,by simp⟩
 .rintro⟨q,hq,rfl⟩;exact mem_map.mpr ⟨cs2 (at0 nm q.1,at0 nm q.2),(CV _).mem_iff.mpr (mem_map.mpr ⟨_,mem_map.mpr ⟨q,hq,rfl⟩,rfl⟩),by simp⟩
def VA(W:98)(nm:73):(Ce W nm).length=W.length:=by
 unfold Ce;rw[ja,(CV _).length_eq,ja,ja]
def YS(W:98)(nm:73):(Ce W nm).map cs2=Bl ((W.map λq=>(at0 nm q.1,at0 nm q.2)).map cs2):=by
 unfold Ce;rw[j5];refine(jE λp hp=>?_).trans (map_id _);obtain⟨y,hy,rfl⟩:=mem_map.mp ((CV _).mem_iff.mp hp);simp[cs2]
set_option maxHeartbeats 1000000 in
def Xx{ws:174}{W:98}(n0:1<=66)(n8:66<=8)(hW:W.length<=16)(ins:∀p∈W,p.1<66/\p.2<66)(k:Nat)(a b o2 o3:MO)(hT:T (k+100) a b):WF HA [.mu 1,.im (AQ ws),.im 119] [a,b,o2,o3] λd x=>∃(nm:73) (a' b':MO) (g:Hd),d=B7 [.mu 5,.im (AQ (Bb ws nm)),.im (.tup ((Ce W nm).map AI))]/\nm.Perm 152/\T k a' b'/\x=a'::b'::o2::o3::.lst []::.lst (AG nm)::g:=by
 unfold HA;refine Au rfl ?_;have rgl:Fm (ws.length:Int):=FK 68 68;refine AA (AK (Al (WP.eq (z:=AG 152) (h:=[a,b,o2,o3]) (by simp[B4,rgl,Bg]) (A5 ?_))));refine AA (AK (Al (BG (A7 ⟨AL 71,A5 ?_⟩))));refine AA (GP (λm ls hd=>∃(left seq:73) (a b:MO),ls=[some (.mu 1),some 132,some (.im 119),some (.mu 4),some (.mu 5),none,none]/\hd=[a,b,o2,o3,.lst (AG left),.lst (AG seq)]/\m=left.length/\T (k+m) a b/\(seq++left).Perm 152) (n:=66) ?_ ?_)
 .exact⟨69 66,[],a,b,rfl,rfl,by simp,tap.le hT 68,by simp⟩
 .clear hT;clear a b;rintro m ls hd ⟨left,seq,a,b,rfl,rfl,rfl,hT,pm⟩;have sl:seq.length+left.length=ws.length:=by simpa using pm.length_eq
  nofun
  have en:AG left=(left.map λk:Nat=>(k:Int)).map λi=>.im 135:=by simp[AG]
  refine⟨left.map λk:Nat=>(k:Int),?_,?_⟩
  .show((B9 (AG left)).map λis=>PyData.list (I.pys is))=_;rw[en,Ca,je,Cr]
  nofun
  by_cases hl:left=[]
  .subst hl;rw[ip 71];simp only[jq]at pm;simp only[jG]at hT;have sl:seq.length=ws.length:=by simpa using sl
   have nd:seq.Nodup:=pm.nodup_iff.mpr jC;have ix:∀j,j<66->seq.idxOf j<ws.length:=λj hj=>by
    rw[<- sl];exact List.idxOf_lt_length_iff.mpr (pm.mem_iff.mpr (by simpa using hj))
   refine A5 ?_;refine AA (AK (Al (Ah (Fu (A3 (BE (A3 (A2 rfl (A7 (BK (ds:=(ws.map wgI).map D.im) (z:=.im (.int (ws.length:Int))) rfl (by simp[B4]) (A7 ⟨_,rfl,CM 68 68,?_⟩)))))))))));rw[jl,Bg];refine⟨AL (by simp[AG];omega),?_⟩;refine Ay (xs:=69 66) (λk:Nat=>D.im 136) (λk=>some (.im (wgI ((ws[seq.idxOf k]?).getD ⟨0,0,.non⟩)))) (λ_ ls=>∃x,ls=[some x,some 132,some (.mu 5)]) _ (AJ _) ?_ ?_
   .rintro j hj ls hls;have hj:j<ws.length:=by simpa using hj
    refine⟨[some (.im (.int (j:Int))),some 132,some (.mu 5)],by rcases hls with rfl|⟨_,x,rfl⟩<;>rfl,⟨_,rfl⟩,BF ⟨rfl,?_⟩⟩;rw[il rfl];refine⟨_,rfl,A9 (A2 rfl (CT (A2 rfl ⟨⟨AG seq,by simp[Ad]⟩,A3 (A2 rfl (A7 (S7 (ns:=seq.map λk:Nat=>(k:Int)) (by simp[AG]) (mem_map.mpr ⟨j,pm.mem_iff.mpr (by simpa using hj),rfl⟩) ?_)))⟩)))⟩;rw[WJ];refine AF (by rw[Cb,<- BI]) (D2 (ix j hj)) ⟨rfl,?_⟩;simp[ix j hj]
   rw[show((List.range 66).filterMap λk=>some (D.im (wgI ((ws[seq.idxOf k]?).getD ⟨0,0,.non⟩))))=(Bb ws seq).map λw=>D.im (wgI w) by simp[Bb,j5,Function.comp_def]];refine A5 ?_;refine AA (AK (Al (QB (J7 (Ah (Bv (A2 rfl ⟨_,rfl,?_⟩)))))));rw[show(W.map AI).map D.im=W.map λp=>D.im (AI p) by simp];refine⟨AL 82,?_⟩;refine Ay (λp=>D.im (AI p)) (λp=>some (AT (cs2 (at0 seq p.1,at0 seq p.2)))) (λ_ ls=>∃x y,ls=[some x,some y,some (.mu 5)]) _ (AJ _) ?_ ?_
   .rintro p hp ls hls;obtain⟨h1,h2⟩:=ins p hp;refine⟨[some (.im (.int (p.1:Int))),some (.im (.int (p.2:Int))),some (.mu 5)],by rcases hls with rfl|⟨_,x,y,rfl⟩<;>rfl,⟨_,_,rfl⟩,BF ⟨rfl,?_⟩⟩;rw[il rfl];have g1:seq[p.1]?=some (at0 seq p.1):=by simp[at0,sl,h1]
    have g2:seq[p.2]?=some (at0 seq p.2):=by simp[at0,sl,h2]
    refine⟨_,rfl,BY (A3 (A9 (A2 rfl (A2 rfl (AF (ds:=AG seq) 71 (GF g1) (A3 (A9 (A2 rfl (A2 rfl (AF (ds:=AG seq) 71 (GF g2) (A7 ⟨DH,?_⟩)))))))))))⟩;rw[Ex];exact⟨rfl,rfl⟩
   rw[show(W.filterMap λp=>some (AT (cs2 (at0 seq p.1,at0 seq p.2))))=((W.map λq=>(at0 seq q.1,at0 seq q.2)).map cs2).map AT by simp[j5,Function.comp_def]];have lt0:∀j,j<66->at0 seq j<ws.length:=λj hj=>by
    have:seq[j]?=some (at0 seq j):=by simp[at0,sl,hj]
    simpa using pm.mem_iff.mp (jf this)
   refine⟨_,rfl,⟨by simp;omega,λq hq=>?_⟩,A5 ?_⟩
   .obtain⟨y,hy,rfl⟩:=mem_map.mp hq;obtain⟨p,hp,rfl⟩:=mem_map.mp hy;obtain⟨h1,h2⟩:=ins p hp;have l1:=lt0 _ h1;have l2:=lt0 _ h2;exact⟨by show -1000000000<=((at0 seq p.1:Nat):Int);omega,by show((at0 seq p.1:Nat):Int)<=1000000000;omega,by show -1000000000<=((at0 seq p.2:Nat):Int);omega,by show((at0 seq p.2:Nat):Int)<=1000000000;omega⟩
   rw[<- YS];refine Ap (BY (A3 (A2 rfl (A3 (BE (A3 (A2 rfl (A7 (BK rfl rfl (A3 (BE (A3 (A2 rfl (A7 (BK rfl rfl (A7 ⟨Cc,?_⟩))))))))))))))));refine⟨seq,a,b,_,?_,pm,tap.le hT 68,rfl⟩;rw[BI,Bc,show((Ce W seq).map cs2).map AT=((Ce W seq).map AI).map D.im by simp[j5,Function.comp_def,AT,AI],Bc]
  .rw[il (by simpa using hl)];have h1:0<left.length:=List.length_pos_iff.mpr hl;obtain⟨l,hl2⟩:∃l,left.length=l+1:=⟨left.length-1,by omega⟩
   rw[hl2]at hT;have hT:T (k+l+1) a b:=hT
   nofun
   refine tap.draw (many:=(left.length:Int)) (rest:=[o2,o3,.lst (AG left),.lst (AG seq)]) hT (by simp[B4]) 68 68 λr a b hT pr qr=>?_
   nofun
   have hr:r.toNat<left.length:=by omega
   have e1:left[r.toNat]?=some left[r.toNat]:=by simp[hr]
   refine N3 rfl (CM 68 68) (Pq (n:=(AG left).length) pr 82) (by simp[e1];rfl) ?_
   nofun
   refine C0 rfl (Ax 82) ?_;refine⟨l,by omega,left.eraseIdx r.toNat,seq++[left[r.toNat]],a,b,rfl,?_,by rw[List.length_eraseIdx,il hr];omega,hT,(M1 e1).trans pm⟩;have er:(AG left).eraseIdx r.toNat=AG (left.eraseIdx r.toNat):=IA _ _ _;simp[er]
open PySem L2 Bd Hds
open Bk (Pc upd)
section
variable{ws:174}{cs:192}{W:98}{rk:183}{h:74}{nm:73}
def ren_len:(Bb ws nm).length=ws.length:=by simp[Bb]
def Hy(pm:nm.Perm 152){k:Nat}(hk:k<66):nm.idxOf k<ws.length:=by
 have:nm.length=ws.length:=by simpa using pm.length_eq
 rw[<- this];exact List.idxOf_lt_length_iff.mpr (pm.mem_iff.mpr (by simpa using hk))
def EZ(pm:nm.Perm 152){k:Nat}(hk:k<66):nm[k]?=some (at0 nm k)/\at0 nm k<ws.length:=by
 have l:nm.length=ws.length:=by simpa using pm.length_eq
 have:nm[k]?=some (at0 nm k):=by simp[at0,l,hk]
 exact⟨this,by simpa using pm.mem_iff.mp (jf this)⟩
def fg(pm:nm.Perm 152){k:Nat}(hk:k<66):nm.idxOf (at0 nm k)=k:=by
 have nd:nm.Nodup:=pm.nodup_iff.mpr jC;obtain⟨h1,_⟩:=EZ pm hk;obtain⟨hl,e⟩:=75 h1;rw[<- e];exact nd.idxOf_getElem k hl
def gf(pm:nm.Perm 152){k:Nat}(hk:k<66):at0 nm (nm.idxOf k)=k:=by
 have m:k∈nm:=pm.mem_iff.mpr (by simpa using hk);have hl:=List.idxOf_lt_length_iff.mpr m;unfold at0;rw[List.getD_eq_getElem?_getD,List.getElem?_eq_getElem hl,List.getElem_idxOf hl];rfl
def K1(pm:nm.Perm 152){k:Nat}(hk:k<66):(Bb ws nm)[k]?=ws[nm.idxOf k]? := by
 have:=Hy pm hk;simp[Bb,hk,this]
def Ms(pm:nm.Perm 152){k:Nat}(hk:k<66):AW (Bb ws nm) k=AW ws (nm.idxOf k):=by unfold AW;rw[K1 pm hk]
def X9(pm:nm.Perm 152){k:Nat}(hk:k<66):Ag (Bb ws nm) k=Ag ws (nm.idxOf k):=by unfold Ag;rw[K1 pm hk]
def L8(pm:nm.Perm 152){w:Wg}(hw:w∈Bb ws nm):w∈ws:=by
 obtain⟨k,hk,rfl⟩:=mem_map.mp hw;have:=Hy pm (by simpa using hk:k<66);rw[List.getElem?_eq_getElem this];exact List.getElem_mem this
def bC(pm:nm.Perm 152)(hok:FM ws):FM (Bb ws nm):=⟨by rw[ren_len];exact hok.1,by rw[ren_len];exact hok.2.1,λw hw=>hok.2.2 w (L8 pm hw)⟩
def Nk(E:121)(pm:nm.Perm 152):Ev (Bb ws nm) (λk=>cs (nm.idxOf k)) (Ce W nm) (λk=>rk (nm.idxOf k)) (λk=>h (nm.idxOf k)) where
 ok:=bC pm E.ok
 hcs k hk:=by
  rw[ren_len]at hk;rw[K1 pm hk];exact E.hcs _ (Hy pm hk)
 hW:=by rw[VA];exact E.hW
 R:=⟨λp hp=>by
  obtain⟨q,hq,rfl⟩:=renP_mem.mp hp;obtain⟨h1,h2⟩:=E.R.ins q hq;rw[ren_len];exact⟨(EZ pm h1).2,(EZ pm h2).2⟩,λp hp=>by
  obtain⟨q,hq,rfl⟩:=renP_mem.mp hp;obtain⟨h1,h2⟩:=E.R.ins q hq;show rk (nm.idxOf (at0 nm q.1))<rk (nm.idxOf (at0 nm q.2));rw[fg pm h1,fg pm h2];exact E.R.lt q hq⟩
 hrk k hk:=by rw[ren_len]at hk ⊢;exact E.hrk _ (Hy pm hk)
 H:=⟨λk hk=>by rw[ren_len]at hk;rw[X9 pm hk];exact E.H.lo _ (Hy pm hk),λp hp hk=>by
  obtain⟨q,hq,rfl⟩:=renP_mem.mp hp;obtain⟨h1,h2⟩:=E.R.ins q hq;show h (nm.idxOf (at0 nm q.1))+AW (Bb ws nm) (at0 nm q.1)<=h (nm.idxOf (at0 nm q.2));rw[Ms pm (EZ pm h1).2,fg pm h1,fg pm h2];exact E.H.up q hq h2,λk hk=>by
  rw[ren_len]at hk;rw[X9 pm hk];rcases E.H.eq _ (Hy pm hk)with e|⟨q,hq,e1,e2⟩
  .exact .inl e
  .obtain⟨h1,h2⟩:=E.R.ins q hq;refine .inr ⟨_,renP_mem.mpr ⟨q,hq,rfl⟩,?_,?_⟩
   .show at0 nm q.2=k;rw[e1,gf pm hk]
   .show h (nm.idxOf k)=h (nm.idxOf (at0 nm q.1))+AW (Bb ws nm) (at0 nm q.1);rw[Ms pm (EZ pm h1).2,fg pm h1];exact e2⟩
 hb k hk:=by rw[ren_len]at hk;exact E.hb _ (Hy pm hk)
def X8(E:121)(pm:nm.Perm 152):Rn ws (Bb ws nm) cs (λk=>cs (nm.idxOf k)) h (λk=>h (nm.idxOf k)) W (Ce W nm) (λk=>nm.idxOf k) where
 e:=ren_len
 lt k hk:=Hy pm hk
 inj i j hi hj e:=by rw[<- gf pm hi,<- gf pm hj];exact jm (at0 nm) e
 ln k hk:=Ms pm hk
 cs k hk:=rfl
 hd k hk:=rfl
 wi p hp:=by
  obtain⟨q,hq,rfl⟩:=renP_mem.mp hp;obtain⟨h1,h2⟩:=E.R.ins q hq;show(nm.idxOf (at0 nm q.1),nm.idxOf (at0 nm q.2))∈W;rw[fg pm h1,fg pm h2];exact hq
def X7(E:121)(pm:nm.Perm 152):Rn (Bb ws nm) ws (λk=>cs (nm.idxOf k)) cs (λk=>h (nm.idxOf k)) h (Ce W nm) W (at0 nm) where
 e:=ren_len.symm
 lt k hk:=by rw[ren_len]at hk ⊢;exact(EZ pm hk).2
 inj i j hi hj e:=by rw[ren_len]at hi hj;rw[<- fg pm hi,<- fg pm hj,e]
 ln k hk:=by rw[ren_len]at hk;rw[Ms pm (EZ pm hk).2,fg pm hk]
 cs k hk:=by rw[ren_len]at hk;rw[fg pm hk]
 hd k hk:=by rw[ren_len]at hk;rw[fg pm hk]
 wi p hp:=renP_mem.mpr ⟨p,hp,rfl⟩
def V9(E:121)(pm:nm.Perm 152){L L':Int}(O:Opt ws cs W h L)(O':Opt (Bb ws nm) (λk=>cs (nm.idxOf k)) (Ce W nm) (λk=>h (nm.idxOf k)) L'):L'=L:=by
 have E':=Nk E pm;refine kg (O.le O' (X8 E pm) E.ok.1 λp hp=>?_) (O'.le O (X7 E pm) E'.ok.1 λp hp=>?_)
 .have:=E'.R.ins p hp;rw[ren_len]at this;exact this
 .have:=E.R.ins p hp;rw[ren_len];exact this
def YR(E:121)(pm:nm.Perm 152){ks ks':73}(p:ks'.Perm (ks.map (at0 nm)))(hk:∀k∈ks,k<66)(hne:ks≠[]):bnd (Bb ws nm) (λk=>cs (nm.idxOf k)) (λk=>h (nm.idxOf k)) (Mc (Ce W nm)) ks'=bnd ws cs h (Mc W) ks:=by
 have E':=Nk E pm;have hk':∀k∈ks',k<ws.length:=λk q=>by
  obtain⟨j,hj,rfl⟩:=mem_map.mp (p.mem_iff.mp q);exact(EZ pm (hk j hj)).2
 have hne':ks'≠[]:=λe=>by subst e;exact hne (List.map_eq_nil_iff.mp p.symm.eq_nil)
 have back:(ks'.map λk=>nm.idxOf k).Perm ks:=by
  refine(p.map _).trans ?_;rw[j5];have:ks.map ((λk=>nm.idxOf k) ∘ at0 nm)=ks:=(jE λk q=>fg pm (hk k q)).trans (map_id _);rw[this]
 refine kg ((X8 E pm).bnd_le back hk' (E.lne hne)) ((X7 E pm).bnd_le p.symm (λk q=>by rw[ren_len];exact hk k q) (E'.lne hne'))
def Sq(pm:nm.Perm 152)(n0:0<66):DM (Bb ws nm)=DM ws:=by
 have key:∀{us vs:174},0<us.length->0<112->(∀w∈vs,w∈us)->DM us=true->DM vs=true:=by
  intro us vs h1 h2 sub q;have q:=all_eq_true.mp q;have c0:Ag vs 0=(vs[0]).com:=by unfold Ag;rw[List.getElem?_eq_getElem h2];rfl
  refine all_eq_true.mpr λw hw=>jI ?_;rw[c0,jA (q w (sub w hw)),jA (q _ (sub _ (List.getElem_mem h2)))]
 have back:∀w∈ws,w∈Bb ws nm:=λw hw=>by
  obtain⟨k,hk,rfl⟩:=List.getElem_of_mem hw;have h1:=K1 pm (EZ pm hk).2;rw[fg pm hk,List.getElem?_eq_getElem hk]at h1;exact jf h1
 have l:0<(Bb ws nm).length:=by rw[ren_len];exact n0
 cases a:DM ws with
 |true=>exact key n0 l (λw hw=>L8 pm hw) a
 |false=>exact Bool.eq_false_iff.mpr λz=>by rw[key l n0 back z]at a;cases a
end
open PySem L2 Bd Hds
open Bk (Pc upd)
def Wh(ns:88)(hd:Hd)(neg:Bool):FV neg (.list 154) (.list 154) hd=some (.im (.bl (!neg)),hd):=by
 have c1:(PyData.list 154).canLay0=true:=by rw[PyData.canLay0,lay_ints]
 have c3:(PyData.list 154).depth<=60:=by
  rw[PyData.depth];have:=Ja ns;omega
 unfold FV;rw[il ⟨c1,c1,j6 (Nat.min_le_left _ _) c3⟩,PySem.SeqAt.eqv_refl _ c1];cases neg<;>rfl
def S9{neg:Bool}{QE:172}(h:WA ma ls hd λes x=>es=intD ns/\WA ml ls x λds y=>ds=intD ns/\QE (.im (.bl (!neg))) y):WE (Em neg ma ml) ls hd QE:=by
 obtain⟨es,x,e1,rfl,ds,y,e2,rfl,q⟩:=h;refine⟨_,y,?_,q⟩;unfold Em;rw[e1];simp only[bind_some,e2];simp only[intD,Ca,bind_some,Cr,Wh]
def Nj(m:Nat)(L:Int):(79 m (D.im (.int L)))=intD (79 m L):=by simp[intD]
def XR{k m:Nat}{L:Int}(e:hd[k]?=some (lD m L)):pyN 30 hd (.mu k)=some (.list ((79 m L).map PyData.int)):=by
 show(match hd[k]? with|some (.lst ds)=>(Fc (ds.map (pyN 29 hd))).map PyData.list|_=>none)=_;rw[e];show(Fc ((79 m (D.im (.int L))).map (pyN 29 hd))).map PyData.list=_;have:∀m:Nat,Fc ((79 m (D.im (.int L))).map (pyN 29 hd))=some ((79 m L).map PyData.int):=by
  intro m
  induction m with
  |zero=>rfl
  |succ m ih=>rw[jW,j3,jW,j3,show pyN 29 hd (D.im (.int L))=some (PyData.int L)from rfl,Fc,ih];rfl
 rw[this];rfl
def fb(m:Nat)(L:Int):(PyData.list ((79 m L).map PyData.int)).canLay0=true/\(PyData.list ((79 m L).map PyData.int)).depth<=60:=by
 refine⟨by rw[PyData.canLay0,lay_ints],?_⟩;rw[PyData.depth];have:=Ja (79 m L);omega
def Xl{k m:Nat}{L:Int}{QE:172}(e:hd[k]?=some (lD m L))(q:QE (.im (.bl true)) hd):WP (Ic (.im .non) (.mu k) hd) QE:=by
 refine⟨_,_,?_,q⟩;have e1:=XS (n:=k) (ns:=79 m L) (by rw[e,<- Nj]);have e2:(((79 m L).map PyData.int).any λz=>PyData.eqv z I.non.py)=false:=by
  refine any_eq_false.mpr λz hz=>?_;obtain⟨i,_,rfl⟩:=mem_map.mp hz;show ¬ PyData.eqv 135 .none=true;simp[PyData.eqv]
 unfold Ic;simp only[e1,bind_some,lay_ints,e2];rw[il ⟨rfl,trivial,by decide⟩];rfl
section
variable{ws:174}{cs:192}{W:98}{rk:183}{h:74}{nm:73}
def Pt(E:121){i j:Nat}(e1:ls[i]?=some (some 132))(e2:ls[j]?=some (some (.im 119))){QE:172}(q:QE (.im (.tup ((152).map λk=>.int (h k)))) hd):WE (A8 0 D9 (A1 (A0 i) (A1 (A0 j) A4))) ls hd QE:=by
 refine Ae (A3 (A2 e1 (A3 (A2 e2 (A7 ⟨by simp,(Ib E.ok.2.1 (λk hk=>(ER E.ok hk).1) E.hW E.R E.hrk E.H).mono ?_⟩)))));rintro _ _ rfl;exact⟨_,rfl,q⟩
def Q4(E:121)(hne:ks≠[])(hk:∀k∈ks,k<66)(hl:181<=8){i j m:Nat}(e1:ls[i]?=some (some 132))(e2:ls[j]?=some (some (.im 119)))(e3:ls[m]?=some (some (.im (Aa ks)))){QE:172}(q:QE (.im (.int (bnd ws cs h (Mc W) ks))) hd):WE (A8 0 Bz (A1 (A0 i) (A1 (A0 j) (A1 (A0 m) A4)))) ls hd QE:=by
 refine Ae (A3 (A2 e1 (A3 (A2 e2 (A3 (A2 e3 (A7 ⟨by simp,(Ko E.ok.2.1 (λk hk=>(ER E.ok hk).1) E.hW E.R E.hrk E.H E.hM E.hcs hne hk hl (E.lne hne)).mono ?_⟩)))))));rintro _ _ rfl;exact⟨_,rfl,q⟩
def SO(n m:Nat)(hn:n<=8)(l2:ls[3]?=some (some 132))(en:66=n)(l7:ls[10]?=some (some (.im (.int (m:Int))))){Q:172}(q:Q (Aj (Jg n m)) hd):
 WE (B6 B8 (Ab 1 [10] (Cu (A1 (mCB 173 (A1 167 A4)) A4)) (AD 0) (AB (mOp gEq (mOp OL (mOp OK 131 77) 124) 124)) 77)) ls hd Q:=by
 have eln:(((ws.map wgI).map D.im).length:Int)=(n:Int):=by simp[en]
 refine Bj (Ah (Fu (A3 (BE (A3 (A2 l2 (A7 (BK rfl rfl ?_))))))));rw[eln];refine A7 ⟨_,rfl,CM 68 68,AL 82,?_⟩;rw[jl,Bg];refine Ay (λx:Nat=>D.im (.int (x:Int))) (λx=>if m/2^x%2=1 then some (.im (.int (x:Int)))else none) (λ_ ls=>∃x,ls=[some x,some (.im (.int (m:Int)))]) _ (AJ _) ?_ ?_
 .rintro x hx ls' hls;refine⟨[some (.im (.int (x:Int))),some (.im (.int (m:Int)))],by rcases hls with rfl|⟨_,x,rfl⟩<;>first|rfl|simp[AD,DS,l7],⟨_,rfl⟩,?_⟩;refine AR (A9 (A9 (A9 (A2 rfl (A2 rfl (aM (Int.natCast_nonneg x) ?_))))));refine AS (aQ (AS (Ck ⟨_,rfl,rfl,?_⟩)));rw[aJ];by_cases hb:m/2^x%2=1
  .rw[il (by simp[hb])];exact⟨_,il hb,A2 rfl ⟨rfl,rfl⟩⟩
  .rw[ip (λh=>hb (by have:=jA h;exact_mod_cast this))];exact ip hb
 rw[Mz];exact⟨_,rfl,by rw[DY];exact q⟩
def aZ{ks:73}(pm:nm.Perm 152)(hk:∀k∈ks,k<66)(hl:181<=8){ls:Ls}{hd:Hd}(l11:ls[11]?=some (some (Aj ks)))(l5:ls[5]?=some (some (.mu 5)))(e5:hd[5]?=some (.lst (AG nm))){Q:172}(q:∀ks',ks'.Perm (ks.map (at0 nm))->Q (Aj ks') hd):
 WE (B6 B8 (Bo (EX (Ab 1 [5] (Aw (A0 11)) (AD 0) BV 180)))) ls hd Q:=by
 refine Bj (Ln (J7 (Ah (Bv (A2 l11 ⟨_,rfl,?_⟩)))));rw[show(ks.map λk:Nat=>I.int (k:Int)).map D.im=AG ks from D4 ks];refine⟨AL (by simp[AG];omega),?_⟩;refine Ay (λx:Nat=>D.im (.int (x:Int))) (λx=>some (.im (.int ((at0 nm x:Nat):Int)))) (λ_ ls=>∃x,ls=[some x,some (.mu 5)]) _ (AJ _) ?_ ?_
 .rintro x hx ls' hls;obtain⟨g1,_⟩:=EZ pm (hk x hx);refine⟨[some (.im (.int (x:Int))),some (.mu 5)],by rcases hls with rfl|⟨_,x,rfl⟩<;>first|rfl|simp[AD,DS,l5],⟨_,rfl⟩,BF ⟨rfl,?_⟩⟩;rw[il rfl];exact⟨_,rfl,A9 (A2 rfl (A2 rfl (AF (ds:=AG nm) (by simp[Ao,e5]) (GF g1) ⟨rfl,rfl⟩)))⟩
 rw[show(ks.filterMap λx=>some (D.im (.int ((at0 nm x:Nat):Int))))=intD ((ks.map (at0 nm)).map λk:Nat=>(k:Int)) by simp[intD,j5,Function.comp_def]];refine⟨_,rfl,by simp;omega,?_⟩;have pz:=Bw ((ks.map (at0 nm)).map λk:Nat=>(k:Int));generalize AY ((ks.map (at0 nm)).map λk:Nat=>(k:Int))=zs at pz;have ez:zs=(zs.map Int.toNat).map λk:Nat=>(k:Int):=by
  rw[j5];refine((jE λz hz=>?_).trans (map_id _)).symm;obtain⟨k,_,rfl⟩:=mem_map.mp (pz.mem_iff.mp hz);simp
 have pm2:(zs.map Int.toNat).Perm (ks.map (at0 nm)):=by
  refine(pz.map Int.toNat).trans ?_;rw[j5];have:(ks.map (at0 nm)).map (Int.toNat ∘ λk:Nat=>(k:Int))=ks.map (at0 nm):=(jE λk _=>by simp).trans (map_id _);rw[this]
 have e2:intD zs=AG (zs.map Int.toNat):=by
  conv=>lhs;rw[ez]
  simp[intD,AG,j5,Function.comp_def]
 rw[e2];exact⟨_,rfl,by rw[DY];exact q _ pm2⟩
end
noncomputable abbrev Lz(ns:88)(bb:Bool)(ws us:174)(W P:98)(z8 z9 z10 z11 z12:Option D):Ls:=[some (.ro ns),some (.mu 1),some (.im (.bl bb)),some 132,some (.im 119),some (.mu 5),some (.im (AQ us)),some (.im (.tup (P.map AI))),z8,z9,z10,z11,z12,none]
inductive I_tn(ns:88)(bb:Bool)(ws us:174)(W P:98)(G:Hd)(r:137)(ls:Ls)(hd:Hd):Prop
 |mk (a b:MO) (z8 z9 z10 z11 z12:Option D) (h0:ls=Lz ns bb ws us W P z8 z9 z10 z11 z12) (h1:hd=a::b::G) (h2:T (2*r.length) a b):I_tn ns bb ws us W P G r ls hd
set_option maxHeartbeats 4000000 in
def fc(ns:88):WF ii [.ro ns] [] λd x=>d=.im (.bl true):=by
 unfold ii;refine Au rfl ?_;refine AA (AK (Br (A3 (A2 rfl (A7 ((dq ns).mono ?_))))));rintro d x ⟨rfl,a,b,hT,rfl⟩;refine A5 ?_;have hT:T (1000+1) a b:=tap.le hT 95;refine AA (AK (A9 ?_));refine tap.draw hT rfl 95 95 λr0 a b hT p0 q0=>?_;refine AS (Ck (A5 ?_));generalize decide (r0=0)=bb;have hT:T (700+300) a b:=hT;change WS _ [some (.ro ns),some (.mu 1),some (.im (.bl bb)),none,none,none,none,none,none,none,none,none,none,none] [a,b] _;have ew:∀ls:Ls,A8 0 F7 A4 ls [a,b]=some (.mu 2,[a,b,Wo X5]):=λls=>S0 (ds:=[]) (hd1:=[a,b]) rfl rfl UM rfl rfl;obtain⟨xs,x0,x5,xw,xl,ex⟩:∃xs:List Str,xs≠[]/\xs.length<=5/\(∀x∈xs,GL x)/\(bb=true->xs=[("late":Str)])/\(A1 (A0 1) (A1 (mC (.int 8)) (A1 (mIf (C9 (A0 2)) (AU (Af (A1 (mC (.str "late")) A4))) (A8 0 F7 A4)) (A1 (AU (Af (A1 (mC (.int 0)) (A1 (mC (.int 0)) (A1 (mC (.int 1)) (A1 (mC (.int 2)) (A1 (mC (.int 3)) A4))))))) A4)))) [some (.ro ns),some (.mu 1),some (.im (.bl bb)),none,none,none,none,none,none,none,none,none,none,none] [a,b]=some ([.mu 1,.im (.int 8),.mu 2,.mu 3],[a,b,Wo xs,V4]):=by
  cases bb with
  |true=>exact⟨["late"],by simp,by simp,λx hx=>by simp at hx;exact .inl hx,λ_=>rfl,by simp[mIf,C9,CI]⟩
  |false=>exact⟨X5,by simp[X5],by simp[X5],UL,λq=>(by cases q),by simp[mIf,C9,CI,ew]⟩
 refine AA (AK ?_);refine tap.callX (n:=700) (c:=300) hT [Wo xs,V4] (rest:=[]) (as:=[.im (.int 8),.mu 2,.mu 3]) ex rfl rfl (by simp[Lc,Ke]) (Xo x0 x5 xw _) ?_;rintro i a b hT ⟨ws,rfl,hok0⟩;refine A5 ?_;change WS _ [some (.ro ns),some (.mu 1),some (.im (.bl bb)),some 132,none,none,none,none,none,none,none,none,none,none] [a,b,Wo xs,V4] _;refine AA (AK ?_);have hT:T (600+100) a b:=hT;refine tap.call (n:=600) (c:=100) hT (as:=[.im (.int (ws.length:Int))]) (rest:=[Wo xs,V4]) (by simp[B4]) rfl (UN _ 66 hok0.2.1) ?_;rintro i a b hT ⟨seq,ps,rfl,pm,al,hW⟩;obtain⟨W,rfl,R,hrk⟩:=Ws pm al;simp only[ja]at hW;have eW:(W.map λp:Nat×Nat=>((p.1:Int),(p.2:Int))).map Mx=W.map AI:=by rw[j5];rfl
 rw[eW];have hok:FM ws:=⟨hok0.1,hok0.2.1,λw hw=>fT (hok0.2.2 w hw)⟩
 obtain⟨cs,hcs⟩:=fu hok;obtain⟨h,H2⟩:=Zx R hrk (Ag ws) (AW ws);have hb:∀k,k<66->0<=h k/\h k<=1000000:=λk hk=>by
  have h1:=H2.lo k hk;have h2:=ER hok hk;have h3:=H2.bound R (B:=60) (m:=20) (λk hk=>(ER hok hk).2) (λk hk=>(O7 hok hk).2) 68 _ k rfl hk;have h4:=hrk k hk;have h6:(20:Int)*((seq.idxOf k:Nat):Int)<=20*8:=by have:=hok.2.1;omega
  try dsimp only at h1 h3 ⊢
  omega
 have E:Ev ws cs W (λk=>seq.idxOf k) h:=⟨hok,hcs,hW,R,hrk,H2,hb⟩
 have lt:∀w∈ws,bb=true->Gg w.co=true:=λw hw q=>by
  obtain⟨_,_,c,ec,_,_,e⟩:=hok0.2.2 w hw;obtain⟨d,rfl⟩:=e (xl q);rw[ec];simp[BC,Gg]
 have hl:bb=true->∃d,Do ws cs d:=λq=>O8 E (filter_eq_nil_iff.mpr λw hw=>by rw[lt w hw q];simp);have hn:=hok.2.1;have h0:=hok.1;clear al eW hok0 hrk hb H2 ex x0 x5 xw ew xl R;clear pm;refine A5 ?_;change WS _ [some (.ro ns),some (.mu 1),some (.im (.bl bb)),some 132,some (.im 119),none,none,none,none,none,none,none,none,none] [a,b,Wo xs,V4] _;have hT:T (500+100) a b:=hT;refine AA (HK (Br (A3 (A2 rfl (A3 (A2 rfl (A3 (A2 rfl (A7 ((Xx h0 hn hW (λp hp=>E.R.ins p hp) 500 a b (Wo xs) V4 hT).mono ?_))))))))));rintro _ _ ⟨nm,a,b,g,rfl,pm,hT,rfl⟩;have E':=Nk E pm;have hl':bb=true->∃d,Do (Bb ws nm) (λk=>cs (nm.idxOf k)) d:=λq=>O8 E' (filter_eq_nil_iff.mpr λw hw=>by rw[lt w (L8 pm hw) q];simp);have el:=@ren_len ws nm;refine⟨_,rfl,A5 ?_⟩;change WS _ (Lz ns bb ws (Bb ws nm) W (Ce W nm) none none none none none) (a::b::Wo xs::V4::.lst []::.lst (AG nm)::g) _;refine AA (AK (Pt E rfl rfl (A5 ?_)));refine AA (BA (AR (S9 (ns:=(152).map h) ?_)));have eln:(((ws.map wgI).map D.im).length:Int)=(ws.length:Int):=by simp
 refine Ah (Fu (A3 (BE (A3 (A2 rfl (A7 (BK rfl rfl ?_)))))));rw[eln];refine A7 ⟨_,rfl,CM 68 68,AL 82,?_⟩;rw[jl,Bg];refine Ay (xs:=69 66) (λx:Nat=>D.im (.int (x:Int))) (λx=>some (.im (.int (h x)))) (λ_ ls=>∃x,ls=[some x,some (.im (AQ (Bb ws nm))),some (.im (.tup ((Ce W nm).map AI))),some (.mu 5)]) _ (AJ _) ?_ ?_
 .rintro x hx ls' hls;have hx:x<ws.length:=by simpa using hx
  obtain⟨g1,g2⟩:=EZ pm hx;refine⟨[some (.im (.int (x:Int))),some (.im (AQ (Bb ws nm))),some (.im (.tup ((Ce W nm).map AI))),some (.mu 5)],by rcases hls with rfl|⟨_,x,rfl⟩<;>rfl,⟨_,rfl⟩,BF ⟨rfl,?_⟩⟩;rw[il rfl];refine⟨_,rfl,A9 (Pt E' rfl rfl (A9 (A2 rfl (A2 rfl (AF (ds:=AG nm) rfl (GF g1) (AF rfl (IH (k:=at0 nm x) rfl ?_) ⟨rfl,rfl⟩))))))⟩;rw[el];simp[g2,fg pm hx]
 refine⟨by simp[intD],Xv (A2 rfl ⟨_,rfl,?_,_,rfl,(λz=>by cases z),λ_=>Az (A5 ?_)⟩)⟩
 .simp[intD]
 have hT:T (2*10) a b:=tap.le hT 95;refine AA (CL (Fu (A3 (AS (A7 ⟨_,rfl,CM 95 95,?_⟩)))));refine BX (I_tn ns bb ws (Bb ws nm) W (Ce W nm) (Wo xs::V4::.lst []::.lst (AG nm)::g)) ⟨a,b,_,_,_,_,_,rfl,rfl,hT⟩ ?_ ?_
 .rintro d r ls hd ⟨a,b,z8,z9,z10,z11,z12,rfl,rfl,hT⟩;simp only[ji]at hT;have hT:T (2*r.length+1) a b:=tap.le hT 68;refine⟨_,rfl,?_⟩;dsimp only[set_cons_zero,set_cons_succ];have hpk:=po 66 hn;have he:=SM 66;have p1:2<=2^ws.length:=by
   have:2^1<=2^ws.length:=Nat.pow_le_pow_right 68 h0;omega
  have p2:2^66<=256:=by
   have:2^66<=2^8:=Nat.pow_le_pow_right 68 hn;omega
  refine AA (AK (A9 (AS (tap.draw (many:=((2^ws.length:Nat):Int)-1) (rest:=Wo xs::V4::.lst []::.lst (AG nm)::g) hT ?_ 68 68 λr1 a b hT pr1 qr1=>?_))))
  .simp only[Ih,DJ,KZ,gj,I0,bind_some,List.getElem?_cons_zero,List.getElem?_cons_succ];simp[hpk,he,B4]
   try exact_mod_cast SM 66
  refine Cl (A5 ?_);obtain⟨m,em⟩:∃m:Nat,1+r1=m:=⟨(1+r1).toNat,by omega⟩
  rw[em];have m0:m≠0:=by omega
  have m1:m<2^ws.length:=by omega
  have bs:=Wm 66 m;have bk:∀k∈Jg 66 m,k<ws.length:=λk hk=>by simpa using bs.subset hk
  have bl:(Jg 66 m).length<=8:=j6 bs.length_le (by simpa using hn);have bn:=aI m0 m1;dsimp only[set_cons_zero,set_cons_succ];refine AA (AK (SO 66 m hn rfl rfl rfl (A5 ?_)));dsimp only[set_cons_zero,set_cons_succ];refine AA (AK (aZ pm bk bl rfl rfl rfl λks' p=>A5 ?_));dsimp only[set_cons_zero,set_cons_succ];have k':∀k∈ks',k<(Bb ws nm).length:=λk q=>by
   obtain⟨j,hj,rfl⟩:=mem_map.mp (p.mem_iff.mp q);rw[el];exact(EZ pm (bk j hj)).2
  have n':ks'≠[]:=λe=>by subst e;exact bn (List.map_eq_nil_iff.mp p.symm.eq_nil)
  have l':ks'.length<=8:=by rw[p.length_eq,ja];exact bl
  refine BA (AR (A9 (Q4 E bn bk bl rfl rfl rfl (Q4 E' n' k' l' rfl rfl rfl (FA ⟨_,rfl,(λz=>?_),λ_=>Az ?_⟩)))))
  .rw[YR E pm p bk bn]at z;simp at z
  .exact⟨AJ _,a,b,_,_,_,_,_,rfl,rfl,hT⟩
 rintro ls hd ⟨a,b,z8,z9,z10,z11,z12,rfl,rfl,hT⟩;obtain⟨L,O⟩:=Q6 E;obtain⟨L',O'⟩:=Q6 E';obtain rfl:=V9 E pm O O';refine A5 (AA (AK (Dc (A3 (A2 rfl (A3 (A2 rfl (A3 (A2 rfl (A7 ⟨by simp,(SI E O hl).mono ?_⟩))))))))));rintro _ x ⟨rfl,ex⟩;refine⟨1,_,rfl,ex,?_,A5 ?_⟩
 .rw[Nj];exact Cy _ _
 dsimp only[set_cons_zero,set_cons_succ];have eg:∀(H:Hd) (o:MO),(H++[o])[H.length]?=some o:=λH o=>by simp
 refine Ap (P6 (AR (A9 (AS (A2 rfl (Xl (eg _ _) ⟨_,rfl,?_⟩))))));rw[il rfl];refine A9 (A2 rfl (Dc (A3 (A2 rfl (A3 (A2 rfl (A3 (A2 rfl (A7 ⟨by simp,(SI E' O' hl').mono ?_⟩)))))))));rintro _ x ⟨rfl,ex2⟩;rw[Sq pm h0]at ex2;refine⟨1,_,rfl,ex2,?_,?_⟩
 .rw[Nj];exact Cy _ _
 obtain⟨c1,c2⟩:=fb (1+(bif bb then 1 else 0)+(bif DM ws then 1 else 0)) L';refine aO (XR (by rw[List.getElem?_append_left 71];exact eg _ _)) (XR (eg _ _)) ⟨c1,c1,j6 (Nat.min_le_left _ _) c2⟩ ?_;rw[PySem.SeqAt.eqv_refl _ c1];rfl
def law_eq(ns:88):∃hd,ii [.ro ns] []=some (.im (.bl true),hd):=by
 obtain⟨d,x,e,rfl⟩:=fc ns;exact⟨x,e⟩
open PySem L2 PySem.W PyProof.Rows
noncomputable abbrev xS:Xs:=[("stretches_of",((("stretches_of":Str)++".<locals>.")++"<lambda>"),85,33),("cheapest_last",((("cheapest_last":Str)++".<locals>.")++"<lambda>"),94,56),("greatest_bound",((("greatest_bound":Str)++".<locals>.")++"<lambda>"),117,25),("ranked_plan",((("ranked_plan":Str)++".<locals>.")++"<lambda>"),139,62),("due_plan",((("due_plan":Str)++".<locals>.")++"<lambda>"),148,52)]
def all_mk{l:OpenLaw}{w:World}{K:Frag}{h:Heap}{mg:130}{fa:Addr}{c P:Str->Addr}(X:K.In h)(G:h.Ns mainGlobals mg)(hfa:mg "law"=some (.ref fa))(hx:HX xS mg h c P)(F:S3 K):HG l w K xS mg c P fa Rr:=by
 obtain⟨Z,h0,h1,h2,h3,h4,h5,h6,h7,h8,h9,h10,h11,h12,h13,h14,h15,h16,h19,h20,h21,h23,h24,h25,h26,h29,h30,h31,h32,h33,h34,h35,h36,h37,p17,p18,p22,p27,p28,h17,h18,h22,h27,h28,tn⟩:=F;have B:=(zsE Z).blt X G;have nd:((Co (Bh K (tbs xS P))).map (·.1)).Nodup:=fV (ps:=[p17,p18,p22,p27,p28]) (by show [P "stretches_of",P "cheapest_last",P "greatest_bound",P "ranked_plan",P "due_plan"]=_;rw[((flE (e:=D6) h17).code X G hx (.head _)).1,((flE (e:=CF) h18).code X G hx (.tail _ (.head _))).1,((flE (e:=C4) h22).code X G hx (.tail _ (.tail _ (.head _)))).1,((flE (e:=DR) h27).code X G hx (.tail _ (.tail _ (.tail _ (.head _))))).1,((flE (e:=Es) h28).code X G hx (.tail _ (.tail _ (.tail _ (.tail _ (.head _)))))).1]) tn;refine WM X G hfa hx (feE h0) bd1 rfl λbase hd bl=>?_;obtain⟨o_steps_at,o_cost_at,o_raised,o_heads,o_reached,o_behind,o_last_ones,o_length_of,o_same_coming,o_one_coming,o_refuse_other_costs,o_bound_of,o_stretches_of,o_cheapest_last,o_without,o_gaps_filled,o_broken_off,o_greatest_bound,o_greatest_plan,o_turned_dues,o_add_piece,o_ranked_plan,o_due_plan,o_greatest_order,o_feed,o_next,o_words,o_cost,o_works,o_wishes,o_costs,o_is_int,o_ends,o_greatest,o_run_ends,o_turned,o_told_costs,o_law⟩:=oks (E:=enM l w K xS P mg base) B;have g1:=o_raised ((feE h1).dn X G hx bd4 l w base);have g2:=o_heads ((feE h2).dn X G hx bd2 l w base) g1;have g3:=o_steps_at ((feE h3).dn X G hx bd2 l w base)
 have g4:=o_cost_at ((feE h4).dn X G hx bd2 l w base) g3;have g5:=o_reached ((feE h5).dn X G hx bd2 l w base);have g6:=o_behind ((feE h6).dn X G hx bd3 l w base) g5;have g7:=o_last_ones ((feE h7).dn X G hx bd3 l w base) g6;have g8:=o_length_of ((feE h8).dn X G hx bd2 l w base);have g9:=o_bound_of ((feE h9).dn X G hx bd3 l w base) g4 g2 g7 g8;have g10:=o_feed ((feE h10).dn X G hx bd1 l w base);have g11:=o_next ((feE h11).dn X G hx bd2 l w base);have g12:=o_words ((feE h12).dn X G hx bd0 l w base);have g13:=o_cost ((feE h13).dn X G hx bd2 l w base) g11;have g14:=o_works ((feE h14).dn X G hx bd4 l w base) g11 g13;have g15:=o_wishes ((feE h15).dn X G hx bd2 l w base) g11;have g16:=o_turned ((feE h16).dn X G hx bd3 l w base) g11;have g17:=o_stretches_of ((flE h17).dl X G hx bd3 (.head _) l w hd bl nd rfl) g2;have g18:=o_cheapest_last ((flE h18).dl X G hx bd4 (.tail _ (.head _)) l w hd bl nd rfl) g4 g7;have g19:=o_without ((feE h19).dn X G hx bd2 l w base);have g20:=o_gaps_filled ((feE h20).dn X G hx bd4 l w base);have g21:=o_broken_off ((feE h21).dn X G hx bd3 l w base) g17 g18 g19 g20;have g22:=o_greatest_bound ((flE h22).dl X G hx bd3 (.tail _ (.tail _ (.head _))) l w hd bl nd rfl) g9;have g23:=o_greatest_plan ((feE h23).dn X G hx bd2 l w base) g21 g22;have g24:=o_refuse_other_costs ((feE h24).dn X G hx bd2 l w base);have g25:=o_turned_dues ((feE h25).dn X G hx bd2 l w base);have g26:=o_add_piece ((feE h26).dn X G hx bd4 l w base);have g27:=o_ranked_plan ((flE h27).dl X G hx bd3 (.tail _ (.tail _ (.tail _ (.head _)))) l w hd bl nd rfl) g26;have g28:=o_due_plan ((flE h28).dl X G hx bd2 (.tail _ (.tail _ (.tail _ (.tail _ (.head _))))) l w hd bl nd rfl) g2 g24 g25 g27;have g29:=o_same_coming ((feE h29).dn X G hx bd1 l w base);have g30:=o_one_coming ((feE h30).dn X G hx bd1 l w base) g29;have g31:=o_greatest_order ((feE h31).dn X G hx bd2 l w base) g8 g30 g18 g19 g22;have g32:=o_is_int ((feE h32).dn X G hx bd1 l w base);have g33:=o_ends ((feE h33).dn X G hx bd3 l w base) g32;have g34:=o_costs ((feE h34).dn X G hx bd2 l w base);have g35:=o_greatest ((feE h35).dn X G hx bd2 l w base) g34;have g36:=o_run_ends ((feE h36).dn X G hx bd2 l w base);have g37:=o_told_costs ((feE h37).dn X G hx bd3 l w base) g23 g28 g31 g33 g35 g36;exact o_law ((feE h0).dn X G hx bd1 l w base) g2 g9 g10 g11 g12 g14 g15 g16 g37
end T31
theorem PySem.Challenge.cw_benchdays_k31_whole_names_turned_holds : PySem.Challenge.rw_benchdays_k31_whole_names_turned.Holds := by
 refine T31.early λK F d hd hdf=>L2.walkL T31.xS (l:=PySem.Challenge.rw_benchdays_k31_whole_names_turned) (n:=63) (k:=19) (F:=T31.ii) rfl 95 hdf ⟨rfl,by decide,by decide,rfl⟩ (by intro x hx;simp only[T31.xS,mem_cons,List.not_mem_nil,or_false]at hx;rcases hx with rfl|rfl|rfl|rfl|rfl<;>exact⟨_,rfl⟩) T31.law_eq (λw h Y=>Y) λw mg fa h c P X G hmg hx=>?_;rw[hd]at hmg;exact T31.all_mk X G hmg hx (F w)
