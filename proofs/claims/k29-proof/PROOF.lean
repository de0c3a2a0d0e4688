import PyProof.Rows.All
import Wide.All
import OpenK.AllK
import Wide.FinOn
import Lean
import PyProof.EqAt
import PyProof.EqKinds
import PyProof.TupleCall
import KE.KSortKey
import PyProof.ListMulRoad
import PyProof.Draws
import PyProof.EnumMake
import PyProof.ListNew
import KE.KRevIter
import KE.KMinKey
import PyProof.TupleKey
import PySem.Challenge.RW_benchdays_k29_whole_broken_off_no_worse
set_option Elab.async false
set_option linter.all false
set_option maxRecDepth 100000
noncomputable section
open PySem.W(Frag fnOf keepIn OpenLaw codeIn)
set_option hygiene false in
local macro_rules | `(tactic| and_intros) => `(tactic| intro ρ σ H hd ls Q d hd' hR hL hm hQ)
open List(mem_cons mem_filter mem_range mem_append nodup_cons of_mem_zip all_cons flatten_cons mem_map all_eq_true mem_singleton mem_iff_getElem? nodup_append ext_getElem? map_snd_zip map_take nodup_range set_cons_succ set_cons_zero filter_sublist sum_cons length_range filter_append)
open Option(bind_some isSome_iff_exists isSome_map none_or getD_some)
open Nat(ne_of_gt lt_trans not_lt sub_self)
def fJ{α β:Type _}{o:Option α}{f:α->Option β}{b:β}(h:o.bind f=some b):∃a,o=some a/\f a=some b:=Option.bind_eq_some_iff.mp h
def fK{α β:Type _}{o:Option α}{f:α->β}{b:β}(h:o.map f=some b):∃a,o=some a/\f a=b:=Option.map_eq_some_iff.mp h
def fb:=@if_pos
def fc:=@PySem.wpAny_bind
def fe:=@if_neg
def fg:=@Nat.le_refl
def fh:=@PySem.wpAny_pure
def fj:=@List.mem_cons_of_mem
def fm:=@List.mem_append_right
def fo:=@List.mem_cons_self
def fq:=@List.map_cons
def ft:=@List.size_toArray
def fu:=@Nat.le_trans
def fw:=@PySem.wpAny_mono
def fz:=@Nat.ne_of_lt
def fL:=@if_true
def fM:=@List.map_map
def fN:=@List.length_map
def fO:=@List.mem_singleton
def fP:=@List.lookup_cons
def fQ:=@List.mem_of_getElem?
def fR:=@Option.map_some
def fS:=@congrArg
def fT:=@if_false
def fU:=@List.length_cons
def fV:=@List.length_append
def fW:=@Nat.lt_of_lt_of_le
def fX:=@PySem.wpAny_holding
def fY:=@List.append_nil
def fZ:=@decide_eq_true
def gb:=@Int.toNat_natCast
def gh:=@decide_eq_false
def gj:=@List.map_nil
def gn:=@Nat.zero_le
def gp:=@PySem.sizeLine_eq
def gq:=@of_decide_eq_true
def gu:=@List.filter_sublist
def gv:=@PySem.wpAny_tryCatch
def gw:=@List.mem_append_left
def gy:=@Nat.lt_irrefl
def gz:=@List.append_assoc
def gA:=@List.map_append
def gB:=@Nat.le_of_lt
def gD:=@List.filterMap_cons
def gE:=@List.length_nil
def gF:=@PySem.codeAny_builtin
def gG:=@PySem.plainId_quiet
def gH:=@List.find?_cons
def gJ:=@List.cons_append
def gK:=@List.filter_cons
def gL:=@Nat.le_succ
def gM:=@PySem.wpAny_standAt
def gN:=@PySem.wpAny_Call_Name_kw
def gO:=@PySem.typeIs_int
def gP:=@List.length_take
def gQ:=@List.nil_append
def gR:=@List.ne_nil_of_mem
def gT:=@List.length_filter_le
def gU:=@PySem.wpAny_truthy_bool
def gV:=@List.any_cons
def gW:=@List.lookup_append
def gX:=@List.drop_eq_getElem_cons
def gY:=@List.pairwise_map
def gZ:=@List.nodup_range
def hE:=@PyProof.Rows.get?_update_seq
def hJ:=@PySem.wpAny_letGo
def hZ:=@List.filter_cons_of_pos
def i0:=@PySem.codeAny_mono
def i3:=@PyProof.Rows.listUpdate_at
def i4:=@PySem.wpAny_newList
def i5:=@decide_eq_true_eq
def i6:=@List.replicate_succ
def i7:=@List.map_congr_left
def i8:=@List.filter_cons_of_neg
def i9:=@Nat.lt_succ_of_lt
def ia:=@PySem.wpAny_passesOwn
def ic:=@PySem.call_meets
def ie:=@List.pairwise_cons
def ig:=@PySem.wpAny_seqItems
def ik:=@PySem.wpAny_updateSeq
def il:=@of_decide_eq_false
def ip:=@PySem.wpAny_eqBool_int
def iq:=@PySem.wpAny_pyNext_list_item
def ir:=@PySem.wpAny_pyIter_list
def iu:=@PySem.nums_intItems
def iw:=@decide_false
def iy:=@PySem.wpAny_newObj_type
def iA:=@PySem.richCompare_gives
def iB:=@decide_eq_false_iff_not
def iC:=@PySem.wpAny_pyNext_tuple_item
def iD:=@PySem.wpAny_comprehension_free
set_option compiler.extract_closed false
local macro_rules | `(tactic| omega) => `(tactic| first | lia | omega (config := {}))
namespace Ea
open PySem PySem.W
noncomputable def dA(s:Stmt):Arguments:=match s with
 |.FunctionDef _ a _ _ _ _ _ _ _ _=>a
 |_=>{ posonlyargs:=[],args:=[],vararg:=none,kwonlyargs:=[],kw_defaults:=[],kwarg:=none,defaults:=[] }
noncomputable def dB(s:Stmt):List Stmt:=match s with
 |.FunctionDef _ _ b _ _ _ _ _ _ _=>b
 |_=>[]
noncomputable def dS(s:Stmt):Scope:=match s with
 |.FunctionDef _ _ _ _ _ _ sc _ _ _=>sc
 |_=>{ kind:=.function,names:=[],isGenerator:=false,isCoroutine:=false }
noncomputable def tO(o:Obj):Option Addr:=match o.data with
 | .fields vs=>(match (vs[11]?:Option Value)with
  |some (Value.ref P)=>some P
  | _=>none)
 |_=>none
def At(K:Frag)(n:Str)(s:Stmt)(f:Addr)(cd:Value):Prop:=∃oc kV dc pm ct od an sl,nsIn K mainGlobals n=some (some (.ref f))/\K.lookup f=some ⟨oc,od,.func (fnOf n n (dA s) (dB s) (dS s) .none kV dc pm an cd ct),sl⟩/\codeIn K cd n=true/\keepIn K (.ref f)=true
def Fe(K:Frag)(n:Str)(s:Stmt):Prop:=∃f cd,At K n s f cd
def Fl(K:Frag)(n:Str)(s:Stmt)(p:Addr):Prop:=∃f ca ob,At K n s f (.ref ca)/\K.lookup ca=some ob/\tO ob=some p
section
variable{K:Frag}{kV:Value}
def feI(a:nsIn K mainGlobals n=some (some (.ref f)))(l:K.lookup f=some ⟨oc,od,.func (fnOf n n (dA s) (dB s) (dS s) .none kV dc pm an cd ct),sl⟩)(c:codeIn K cd n=true)(k:keepIn K (.ref f)=true):Fe K n s:=⟨f,cd,_,_,_,_,_,_,_,_,a,l,c,k⟩
def flI(a:nsIn K mainGlobals n=some (some (.ref f)))(l:K.lookup f=some ⟨oc,od,.func (fnOf n n (dA s) (dB s) (dS s) .none kV dc pm an cd ct),sl⟩)(c:codeIn K cd n=true)(k:keepIn K (.ref f)=true)(u:cd=.ref ca)(t:K.lookup ca=some ob)(v:tO ob=some p):Fl K n s p:=by
 subst u;exact⟨f,ca,ob,⟨_,_,_,_,_,_,_,_,a,l,c,k⟩,t,v⟩
end
noncomputable abbrev bi:List Str:=["list","tuple","len","range","repr","sum","min","max","abs","all","any","sorted","zip","isinstance","int","bool","str","set","enumerate","reversed","dict"]
def Zs(K:Frag):Prop:=∀n∈bi,nsIn K mainGlobals n=some none
def Zg(K:Frag)(l:List Str):Prop:=∀n∈l,nsIn K mainGlobals n=some none
def zs0{K:Frag}:Zg K []:=λ_ h=>nomatch h
def zs1{K:Frag}(h:nsIn K mainGlobals n=some none)(r:Zg K l):Zg K (n::l):=λm hm=>by
 rcases mem_cons.mp hm with rfl|hm
 .exact h
 .exact r m hm
end Ea
namespace L2
open PySem
noncomputable def cv(nm:Str)(p:Addr×Obj):Bool:=match p.2.data with
 |.cls cd=>cd.name==nm
 |_=>false
def cw(K:Frag)(nm:Str):Option Addr:=(K.find? (cv nm)).map (·.1)
end L2
namespace Hl
open PySem PySem.W PyProof.Rows
noncomputable def Oy(p:Program)(w:World)(m:Nat)(ann:Option Value):Nat->SharedT->Thread->Option SharedT
 |0,_,_=>none
 |n+1,s,t=>match through t with
  |true=>some s
  |false=>match stepOk m ann t with
   |false=>none
   |true=>match stepT (denote treeTable) p w s t with
    |some (s',t')=>Oy p w m ann n s' t'
    |none=>none
theorem OA{m:Nat}:∀{n:Nat} {s s':SharedT} {t:Thread},Oy p w m ann n s t=some s'->topRun treeTable p w m ann n s.abs t=some s'.abs
 |0,_,_,_,h=>by cases h
 |n+1,s,s',t,h=>by
  rw[Oy]at h;rw[topRun];cases h1:through t with
  |true=>rw[h1]at h;cases h;rfl
  |false=>
   rw[h1]at h;cases h2:stepOk m ann t with
   |false=>rw[h2]at h;cases h
   |true=>
    rw[h2]at h;cases h3:stepT (denote treeTable) p w s t with
    |none=>rw[h3]at h;cases h
    |some r=>obtain⟨s2,t2⟩:=r;rw[h3]at h;rw[stepT_spec h3];exact OA h
noncomputable def VW:Nat->List Obj->BT->BT
 |_,[],t=>t
 |n,o::r,t=>VW (n+1) r (t.ins n o)
noncomputable def bT(P:Params):BT:=VW 0 (boot_heap P).objs.toList .nil
def bh(P:Params):absHeap (bT P) 11 (boot_heap P).life=boot_heap P:=by kernel_rfl
def da(P:Params):((boot_heap P).isNs mainGlobals,(boot_heap P).nsMap mainGlobals "__annotations__")=(true,some (.ref 6)):=by kernel_rfl
variable{Xt:Shared->Bool}{α:Type}{Yf:Shared->α}{Ya:World->α}{N M:Nat}
def ay(p q:Program)(loose:List Str)(Xt:Shared->Bool)(Yf:Shared->α)(M:Nat)(w:World)(os:OsState):=
 match Oy p w 11 (some (.ref 6)) M ⟨bT w.params,11,(boot_heap w.params).life,Array.mk [],boot_drawn,boot_toks,os⟩ (topStub p)with
 | some s=>(match staticsOk (importedModules p.main.body) (boot_heap w.params) s.abs.heap&&namesBound p s.abs.heap&&gensDone s.abs&&laidKept (boot_heap w.params) s.abs.heap with
  |true=>some (openSeen q loose (importedModules p.main.body) Xt true s.abs,Yf s.abs)
  | false=>none)
 |none=>none
def left(e:opening p=plainProg p.main.scope.names)(f:∀s,fenceModules? p s=some s)(hN:Nat.ble 600 N=true)(hM:Nat.ble M N=true)(h:∀w os,ay p q loose Xt Yf M w os=some (openGood q loose,Ya w)):LeftO p q loose Xt Yf Ya N:=λw=>by
 obtain⟨⟨hp,gs,d,k,os⟩,e1,e2⟩:=fK (boot_open e hN f w);simp only[Prod.mk.injEq]at e2;obtain⟨rfl,rfl,rfl,rfl⟩:=e2;have hl:=h w os;unfold ay at hl;split at hl
 .next s hs=>
  have r:=topRun_mono (N-M) _ _ _ _ (OA hs);rw[show M+(N-M)=N by have:=Nat.le_of_ble_eq_true hM;omega]at r;have ea:(SharedT.mk (bT w.params) 11 (boot_heap w.params).life (Array.mk []) boot_drawn boot_toks os).abs=⟨boot_heap w.params,Array.mk [],boot_drawn,boot_toks,os⟩:=by
   show Shared.mk (absHeap (bT w.params) 11 (boot_heap w.params).life) _ _ _ _=_;rw[bh]
  rw[ea]at r;obtain⟨z1,z2⟩:=Prod.mk.inj (da w.params);have z3:(boot_heap w.params).objs.size=11:=rfl;split at hl
  .next c=>
   show((fencedOpening treeTable p w N).bind (topFrom treeTable p w N)).map _=_;rw[e1,bind_some];have t:topFrom treeTable p w N ⟨boot_heap w.params,Array.mk [],boot_drawn,boot_toks,os⟩=some s.abs:=by
    unfold topFrom;dsimp only;rw[z1,z2,z3,r];show(match staticsOk (importedModules p.main.body) (boot_heap w.params) s.abs.heap&&namesBound p s.abs.heap&&gensDone s.abs&&laidKept (boot_heap w.params) s.abs.heap with|true=>some s.abs|false=>none)=_;rw[c]
   rw[t];exact hl
  .cases hl
 .cases hl
end Hl
namespace T29
open PySem PySem.W PyProof.Rows Ea
noncomputable def top(i:Nat):Stmt:=PySem.Challenge.pw_benchdays_k29_whole_broken_off_no_worse.main.body.getD i (.Pass ⟨0,0,0,0⟩)
def vw:PySem.Program:={ PySem.Challenge.pw_benchdays_k29_whole_broken_off_no_worse with main:={ PySem.Challenge.pw_benchdays_k29_whole_broken_off_no_worse.main with body:=[1,2,4,6,7,9,10,12,13,14,16,17,19,21,22,23,24,25,26,27,28,29,30,32,33,34,35,36,37,38,39,40,41,42,43,44].map top } }
def QZ(K:Frag):Prop:=Zs K/\Fe K "law" (top 44)/\Fe K "raised" (top 1)/\Fe K "heads" (top 2)/\Fe K "steps_at" (top 9)/\Fe K "cost_at" (top 10)/\Fe K "reached" (top 12)/\Fe K "behind" (top 13)/\Fe K "last_ones" (top 14)/\Fe K "without" (top 22)/\Fe K "gaps_filled" (top 23)/\Fe K "broken_off" (top 24)/\Fe K "length_of" (top 16)/\Fe K "bound_of" (top 19)/\Fe K "greatest_plan" (top 26)/\Fe K "refuse_other_costs" (top 17)/\Fe K "turned_dues" (top 27)/\Fe K "add_piece" (top 28)/\Fe K "_law_feed" (top 32)/\Fe K "_law_next" (top 33)/\Fe K "_law_words" (top 34)/\Fe K "_law_cost" (top 35)/\Fe K "_law_works" (top 36)/\Fe K "_law_wishes" (top 37)/\Fe K "_law_is_int" (top 39)/\Fe K "_law_ends" (top 40)/\Fe K "_law_costs" (top 38)/\Fe K "_law_greatest" (top 41)/\Fe K "_law_orders" (top 42)/\Fe K "_law_run_ends" (top 43)/\∃p3 p9 p15 p20 p21,Fl K "stretches_of" (top 4) p3/\Fl K "cheapest_last" (top 21) p9/\Fl K "greatest_bound" (top 25) p15/\Fl K "ranked_plan" (top 29) p20/\Fl K "due_plan" (top 30) p21/\([p3,p9,p15,p20,p21]:List Addr).Nodup
def dQ{K:Frag}{p3 p9 p15 p20 p21:Addr}(z:Zs K)(h0:Fe K "law" (top 44))(h1:Fe K "raised" (top 1))(h2:Fe K "heads" (top 2))(h4:Fe K "steps_at" (top 9))(h5:Fe K "cost_at" (top 10))(h6:Fe K "reached" (top 12))(h7:Fe K "behind" (top 13))(h8:Fe K "last_ones" (top 14))(h10:Fe K "without" (top 22))(h11:Fe K "gaps_filled" (top 23))(h12:Fe K "broken_off" (top 24))(h13:Fe K "length_of" (top 16))(h14:Fe K "bound_of" (top 19))(h16:Fe K "greatest_plan" (top 26))(h17:Fe K "refuse_other_costs" (top 17))(h18:Fe K "turned_dues" (top 27))(h19:Fe K "add_piece" (top 28))(h22:Fe K "_law_feed" (top 32))(h23:Fe K "_law_next" (top 33))(h24:Fe K "_law_words" (top 34))(h25:Fe K "_law_cost" (top 35))(h26:Fe K "_law_works" (top 36))(h27:Fe K "_law_wishes" (top 37))(h28:Fe K "_law_is_int" (top 39))(h29:Fe K "_law_ends" (top 40))(h30:Fe K "_law_costs" (top 38))(h31:Fe K "_law_greatest" (top 41))(h32:Fe K "_law_orders" (top 42))(h33:Fe K "_law_run_ends" (top 43))(h3:Fl K "stretches_of" (top 4) p3)(h9:Fl K "cheapest_last" (top 21) p9)(h15:Fl K "greatest_bound" (top 25) p15)(h20:Fl K "ranked_plan" (top 29) p20)(h21:Fl K "due_plan" (top 30) p21)(tn:([p3,p9,p15,p20,p21]:List Addr).Nodup):QZ K:=⟨z,h0,h1,h2,h4,h5,h6,h7,h8,h10,h11,h12,h13,h14,h16,h17,h18,h19,h22,h23,h24,h25,h26,h27,h28,h29,h30,h31,h32,h33,_,_,_,_,_,h3,h9,h15,h20,h21,tn⟩
local macro_rules | `(tactic| o_head $H) => `(tactic| (refine holds_open (r := PySem.Challenge.rw_benchdays_k29_whole_broken_off_no_worse.row) (q := T29.vw) (loose := []) (Xt := λ s => xlAt T29.vw [] s && recOk (RowW.records (OpenRow.toRowW PySem.Challenge.rw_benchdays_k29_whole_broken_off_no_worse.row)) s) (XP := XL T29.vw []) (Yf := Hook.obs $H) (Ya := Hook.val $H) (YP := Hook.says $H) (N := 100000) ?hl (Hook.of $H) (Hook.keeps $H) (λ s e => xl_of s (Bool.and_eq_true_iff.mp e).1) XL.keeps (by rfl) (by rfl) (by rfl) (λ s e => recFacts_of (Bool.and_eq_true_iff.mp e).2) (by rfl) (by first | assumption | decide +kernel) (by decide +kernel) ⟨rfl, rfl, rfl, rfl, rfl, by decide +kernel⟩ ?hw ?hc; (case hl => exact Hl.left (M := 10000) (by rfl) (λ s => by rfl) (by decide) (by decide) λ w os => by kernel_rfl)))
set_option maxRecDepth 100000 in
set_option maxHeartbeats 0 in
def early(hG:∀(K:Params->Frag),(∀w:World,QZ (K w.params))->∀d:DefRec,d.name="law"->d.params.defaults=[]->WalkO T29.vw [] (XL T29.vw []) (λw h=>(K w.params).In h) PySem.Challenge.rw_benchdays_k29_whole_broken_off_no_worse.row.toRowW d [] (λf vs=>PySem.call f vs)):PySem.Challenge.rw_benchdays_k29_whole_broken_off_no_worse.Holds:=by
 w_on;o_law;k_head;(case hw=>w_witness2)
 k_fill
 refine λw s₀ s₁ mg mb G Y=>hG _ ?F _ rfl rfl w s₀ s₁ mg mb G (km_in_of Y)
 case F=>
  intro w;refine' dQ ?z ?h0 ?h1 ?h2 ?h4 ?h5 ?h6 ?h7 ?h8 ?h10 ?h11 ?h12 ?h13 ?h14 ?h16 ?h17 ?h18 ?h19 ?h22 ?h23 ?h24 ?h25 ?h26 ?h27 ?h28 ?h29 ?h30 ?h31 ?h32 ?h33 ?h3 ?h9 ?h15 ?h20 ?h21 ?tn
  case z=>(refine' zs1 _ (zs1 _ (zs1 _ (zs1 _ (zs1 _ (zs1 _ (zs1 _ (zs1 _ (zs1 _ (zs1 _ (zs1 _ (zs1 _ (zs1 _ (zs1 _ (zs1 _ (zs1 _ (zs1 _ (zs1 _ (zs1 _ (zs1 _ (zs1 _ (zs0)))))))))))))))))))))<;>k_is)
  case h0|h1|h2|h4|h5|h6|h7|h8|h10|h11|h12|h13|h14|h16|h17|h18|h19|h22|h23|h24|h25|h26|h27|h28|h29|h30|h31|h32|h33=>(refine' feI ?a ?l ?c ?k;case a|l|c|k=>k_is)
  case h3|h9|h15|h20|h21=>(refine' flI ?a ?l ?c ?k ?u ?t ?v;(case a|l|c|k=>k_is);(case u=>rfl);(case t=>k_is);(case v=>rfl))
  case tn=>decide
end T29
set_option hygiene false in
local macro_rules|`(58)=>`(s.heap.objs.size)|`(59)=>`(by omega)|`(65)=>`(ws.length)|`(66)=>`(Heap.get?_push_of_some)|`(68)=>`(model X.prog X.w)|`(69)=>`(List.range)|`(70)=>`(by simp)|`(71)=>`(s2.heap.objs.size)|`(72)=>`(X.env.qual++"<lambda>")|`(73)=>`(List.getElem?_eq_some_iff.mp)|`(74)=>`(Heap.lt_size)|`(75)=>`(scope.names)|`(76)=>`(vs.toArray)|`(77)=>`(A0 0)|`(78)=>`(Heap.get?_push_size)|`(79)=>`(x1.trans R1 x2)|`(82)=>`(by simp;omega)|`(83)=>`(ds.length)|`(85)=>`(xs.length)|`(86)=>`(Option.some.inj)|`(87)=>`(its.toArray)|`(88)=>`((false,eval e X.env))|`(89)=>`(model prog w)|`(90)=>`(by decide)|`(92)=>`(Addr×Obj)|`(94)=>`(Bool.false_ne_true)|`(98)=>`(vs.length)|`(101)=>`(by kernel_rfl)|`(102)=>`(Int.le_refl)|`(103)=>`(mC (.int 0))|`(104)=>`(List.replicate)|`(110)=>`(.tup (W.map AM))|`(111)=>`(AR X.env.cells 75 [])|`(112)=>`(ps.length)|`(113)=>`(PySem.mem_of_lookup)|`(114)=>`(s3.heap.objs.size)|`(115)=>`(Int×Int)|`(116)=>`(cCx X (loc++fr) scope s H ex)|`(118)=>`(Obj.mapSeq)|`(119)=>`(Nat×Nat)
set_option hygiene false in
local macro_rules|`(120)=>`(.int (k:Int))|`(121)=>`(D×Hd)|`(122)=>`(hL.ext hR x1)|`(123)=>`(mC (.int 1))|`(124)=>`(kla_fn "<lambda>" 72 params body scope cl pm cd ctv)|`(125)=>`(.im (AT ws))|`(126)=>`(x==("__debug__":Str))|`(127)=>`(seqObj "list" #[] 0)|`(128)=>`(X.s₀.heap.objs.size)|`(130)=>`(starEach es X.env)|`(131)=>`(hd.length)|`(132)=>`(NameKind.free)|`(133)=>`(List.cons.inj)|`(134)=>`(.int i)|`(135)=>`(by simp[RD,RI])|`(139)=>`(A0 1)|`(141)=>`(its.toArray.size)|`(142)=>`(Heap.SameBut.update)|`(143)=>`(X.env.locals)|`(144)=>`(A0 2)|`(145)=>`(.lst xs)|`(146)=>`(.ListComp elt [⟨tg,iter,ifs,0⟩] scope pos)
namespace L2
open PySem PySem.Spec PyProof.Rows
noncomputable abbrev Key:=Sum Int Str
noncomputable def Hr:Key->Value->Bool
 |.inl k,v=>Value.isInt k v
 |.inr x,v=>Value.isStrOf x v
noncomputable def dN(w:World):Key->Int
 |.inl k=>hashInt k
 |.inr x=>hashStr w x
def BO:∀{k:Key} {v:Value},Hr k v=true->(∃i t,k=Sum.inl i/\v=Value.int i t)∨(∃x t,k=Sum.inr x/\v=Value.str x t)
 |.inl i,v,h=>by
  obtain⟨t,e⟩:=Value.isInt_shape (k:=i) (v:=v) h;exact .inl ⟨i,t,rfl,e⟩
 |.inr x,v,h=>by
  obtain⟨t,e⟩:=Value.isStrOf_shape (x:=x) (v:=v) h;exact .inr ⟨x,t,rfl,e⟩
def SD(i:Int)(t:Tok):Hr (.inl i) (.int i t)=true:=by simp[Hr,Value.isInt]
def SC(x:Str)(t:Tok):Hr (.inr x) (.str x t)=true:=by simp[Hr,Value.isStrOf]
def bD(a b:Int):decide ((Sum.inl a:Key)=Sum.inl b)=(a==b):=by
 by_cases e:a=b
 .subst e;simp
 .have h:¬ (Sum.inl a:Key)=Sum.inl b:=λq=>e (Sum.inl.inj q);rw[gh h];exact(beq_eq_false_iff_ne.mpr e).symm
def bA(a b:Str):decide ((Sum.inr a:Key)=Sum.inr b)=decide (a=b):=by
 by_cases e:a=b
 .subst e;simp
 .have h:¬ (Sum.inr a:Key)=Sum.inr b:=λq=>e (Sum.inr.inj q);rw[gh h,gh e]
def bC(a:Int)(b:Str):decide ((Sum.inl a:Key)=Sum.inr b)=false:=gh (λq=>nomatch q)
def bB(a:Str)(b:Int):decide ((Sum.inr a:Key)=Sum.inl b)=false:=gh (λq=>nomatch q)
noncomputable def BV(prog:Program)(w:World):PySem.KeyKind prog w Key where
 is:=Hr
 hash:=dN w
 inj:=λv a b ha hb=>by
  rcases BO ha with⟨i,t,rfl,rfl⟩|⟨x,t,rfl,rfl⟩
  .rcases BO hb with⟨j,u,rfl,e⟩|⟨y,u,rfl,e⟩
   .injection e with e1 _;rw[e1]
   .exact nomatch e
  .rcases BO hb with⟨j,u,rfl,e⟩|⟨y,u,rfl,e⟩
   .exact nomatch e
   .injection e with e1 _;rw[e1]
 byValue:=λk v h=>by
  rcases BO h with⟨i,t,rfl,rfl⟩|⟨x,t,rfl,rfl⟩<;>rfl
 pyHash:=λhv h=>by
  rcases BO hv with⟨i,t,rfl,rfl⟩|⟨x,t,rfl,rfl⟩
  .exact wpAny_pyHash_int h
  .exact wpAny_pyHash_str h
 eqBool:=λhu hv h=>by
  rcases BO hu with⟨i,t,rfl,rfl⟩|⟨x,t,rfl,rfl⟩
  .rcases BO hv with⟨j,u,rfl,rfl⟩|⟨y,u,rfl,rfl⟩
   .rw[bD]at h;exact ip h
   .rw[bC]at h;exact SeqAt.EqAt.int_str i t y u _ _ _ _ h
  .rcases BO hv with⟨j,u,rfl,rfl⟩|⟨y,u,rfl,rfl⟩
   .rw[bB]at h;exact SeqAt.EqAt.str_int x t j u _ _ _ _ h
   .rw[bA]at h;exact wpAny_eqBool_str h
 «strs»:=λk x t v h=>by
  rcases BO h with⟨i,u,rfl,e⟩|⟨y,u,rfl,e⟩
  .exact nomatch e
  .injection e with e1 _
   subst e1;cases v<;>rfl
def Nx(prog:Program)(w:World)(i:Int)(t:Tok):(BV prog w).is (.inl i) (.int i t)=true:=SD i t
def Nw(prog:Program)(w:World)(x:Str)(t:Tok):(BV prog w).is (.inr x) (.str x t)=true:=SC x t
inductive V where
 |non|bl (b:Bool)|int (i:Int)|str (x:Str)|byt (b:Array UInt8)|flt (b:UInt64)|ref (a:Addr)|ty (n:String)
 deriving DecidableEq
def RelV:V->Value->Prop
 |.non,u=>u=Value.none
 |.bl b,u=>u=Value.bool b
 |.int i,u=>∃t,u=Value.int i t
 |.str x,u=>∃t,u=Value.str x t
 |.byt b,u=>∃t,u=Value.bytes b t
 |.flt b,u=>∃t,u=Value.float b t
 |.ref a,u=>u=Value.ref a
 |.ty n,u=>u=Value.type n
abbrev Vals:List V->List Value->Prop:=Paired RelV
theorem Vals.length{xs:List V}{us:List Value}(r:Vals xs us):85=us.length:=Paired.length r
theorem Vals.get:∀{xs:List V} {us:List Value} {i:Nat} {x:V},Vals xs us->xs[i]?=some x->∃u,us[i]?=some u/\RelV x u
 |_,_,_,_,.nil,e=>by simp at e
 |_,_,0,_,.cons r _,e=>by simp at e;subst e;exact⟨_,rfl,r⟩
 |_,_,i+1,x,.cons _ t,e=>by
  obtain⟨u,h1,h2⟩:=Vals.get (i:=i) (x:=x) t (by simpa using e);exact⟨u,by simpa using h1,h2⟩
theorem Vals.set{x:V}{u:Value}(r:RelV x u):∀{xs:List V} {us:List Value} (i:Nat),Vals xs us->Vals (xs.set i x) (us.set i u)
 |_,_,_,.nil=>.nil
 |_,_,0,.cons _ t=>.cons r t
 |_,_,i+1,.cons q t=>.cons q (Vals.set r i t)
theorem Vals.append:∀{xs ys:List V} {us ws:List Value},Vals xs us->Vals ys ws->Vals (xs++ys) (us++ws)
 |_,_,_,_,.nil,s=>s
 |_,_,_,_,.cons r t,s=>.cons r (Vals.append t s)
theorem Vals.take:∀{xs:List V} {us:List Value} (n:Nat),Vals xs us->Vals (xs.take n) (us.take n)
 |_,_,0,_=>.nil
 |_,_,_+1,.nil=>.nil
 |_,_,n+1,.cons r t=>.cons r (Vals.take n t)
theorem Vals.drop:∀{xs:List V} {us:List Value} (n:Nat),Vals xs us->Vals (xs.drop n) (us.drop n)
 |_,_,0,r=>r
 |_,_,_+1,.nil=>.nil
 |_,_,n+1,.cons _ t=>Vals.drop n t
def RelO:Option V->Option Value->Prop
 |some v,some u=>RelV v u
 |none,none=>True
 |_,_=>False
def KV{κ:Type}:List (κ×V)->List (κ×Value)->Prop:=Paired λ(p:κ×V) (q:κ×Value)=>p.1=q.1/\RelV p.2 q.2
noncomputable def kV:Key->V
 |.inl i=>.int i
 |.inr x=>.str x
inductive HO where
 /-- a list -/
 |lst (xs:List V)
 /-- a tuple (never changes) -/
 |tup (xs:List V)
 /-- a dict whose keys are ints and texts;one whose keys are tuples of ints and texts (the empty one is both) -/
 |dK (kvs:List (Key×V))|dT (kvs:List (List Key×V))
 /-- a set of ints: its members,its size -/
 |set (S:Int->Bool) (n:Nat)
 /-- an instance of the class at C,its dict at dx,its attributes -/
 |ins (C dx:Addr) (fs:List (Str×V))
 /-- the dict of the instance at x -/
 |own (x:Addr)
 /-- the dict of an exception -/
 |xd (fs:List (Str×V))
 /-- a bound method,f of x -/
 |met (f x:Addr)
 /-- a range object lo,lo+1,.. below hi -/
 |rng (lo hi:Int)
 /-- a thing that is known to the object (the script;a dict while a loop walks it): read,never written while it is so -/
 |frz (o:Obj) (u:HO)
 /-- a code object's table -/
 |tbl (ps:Array Value)
 /-- any other thing,by what is true of its one object (a def of one's own: SetO a S n:=HO.ext λh=>..) -/
 |ext (φ:Heap->Prop)
noncomputable abbrev Hp:=Addr->Option HO
noncomputable def upd(H:Hp)(a:Addr)(o:HO):Hp:=λb=>if b=a then some o else H b
def AF{H:Hp}{a:Addr}{o:HO}:upd H a o a=some o:=by unfold upd;rw[fb rfl]
def upd_ne{H:Hp}{a b:Addr}{o:HO}(h:b≠a):upd H a o b=H b:=by unfold upd;rw[fe h]
def cU{H:Hp}{a b:Addr}{o u:HO}(h:H a=some o)(h':H b=some u)(d:o≠u):a≠b:=by
 intro e;subst e;rw[h]at h';exact d (86 h')
def AH{H:Hp}{a b:Addr}{o:HO}(h:H a=some o)(h':H b=none):a≠b:=by
 intro e;subst e;rw[h]at h';cases h'
def IsTupD(h:Heap)(a:Addr)(items:Array Value):Prop:=∃o,h.get? a=some o/\o.cls=.type "tuple"/\(∃n,o.data=.seq items n)/\o.dict=none
def IsTupD.t{h:Heap}{a:Addr}{items:Array Value}(x:IsTupD h a items):IsTup h a items:=let ⟨o,e,c,d,_⟩:=x;⟨o,e,c,d⟩
def IsTupD.new(h:Heap)(items:Array Value):IsTupD (h.push { cls:=.type "tuple",data:=.seq items }) h.objs.size items:=⟨_,78 _ rfl,rfl,⟨_,rfl⟩,rfl⟩
section
variable(P:Program)(w:World)
noncomputable def ObjOk(H:Hp)(h:Heap)(a:Addr):HO->Prop
 |.lst xs=>85<=sizeLine/\∃(its:List Value) (n:Nat),Vals xs its/\h.get? a=some { cls:=.type "list",data:=.seq 87 n }
 |.tup xs=>85<=sizeLine/\∃its:List Value,Vals xs its/\IsTupD h a 87
 |.dK kvs=>kvs.length<=sizeLine/\(a==sysModules)=false/\∃vs,KV kvs vs/\h.DictOf (BV P w) a vs
 |.dT kvs=>kvs.length<=sizeLine/\(a==sysModules)=false/\∃xs:List (List Key×Addr×Value),
  Paired (λ(p:List Key×V) (q:List Key×Addr×Value)=>p.1=q.1/\H q.2.1=some (.tup (p.1.map kV))/\RelV p.2 q.2.2) kvs xs /\
  ∃o es ep,h.get? a=some o/\o.ExactDict/\o.data=.dict es ep/\es.toList=xs.map (entryOfKey (tupleKind (BV P w)))/\(xs.map (·.1)).Nodup
 |.set S n=>h.SetOf (intKind P w) a S n
 |.ins C dx fs=>H dx=some (.own a)/\fs.length<=1000/\dx≠a/\h.get? a=some (PySem.W.instObj C dx)/\
  ∃mA,h.Ns1 dx mA/\(∀f,RelO (fs.lookup f) (mA f))/\PySem.Within mA (fs.map (·.1))
 |.own _=>∃o,h.get? a=some o
 |.xd fs=>∃mA,h.Ns1 a mA/\∀f,RelO (fs.lookup f) (mA f)
 |.rng lo hi=>∃t u v,h.get? a=some { cls:=.type "range",data:=.fields #[.int lo t,.int hi u,.int 1 v] }
 |.frz o u=>h.get? a=some o/\ObjOk H h a u
 |.tbl ps=>h.get? a=some { cls:=.none,data:=.fields ps }
 |.met f x=>h.get? a=some (PySem.W.methodObj (.ref f) (.ref x))
 |.ext φ=>φ h/\(∃o,h.get? a=some o)/\∀h1 h2:Heap,φ h1->(∀o,h1.get? a=some o->h2.get? a=some o)->φ h2
def HOk(H:Hp)(h:Heap):Prop:=∀a o,H a=some o->ObjOk P w H h a o
end
section
variable{P:Program}{w:World}{H H':Hp}{h h':Heap}{a:Addr}{o:HO}
def ObjOk.lt(x:ObjOk P w H h a o):a<h.objs.size:=by
 cases o with
 |lst xs=>obtain⟨_,_,_,_,e⟩:=x;exact 74 e
 |tup xs=>obtain⟨_,_,_,o,e,_⟩:=x;exact 74 e
 |dK kvs=>obtain⟨_,_,_,_,o,_,_,e,_⟩:=x;exact 74 e
 |dT kvs=>obtain⟨_,_,_,_,o,_,_,e,_⟩:=x;exact 74 e
 |set S n=>obtain⟨o,_,_,_,e,_⟩:=x;exact 74 e
 |ins C dx fs=>obtain⟨_,_,_,e,_⟩:=x;exact 74 e
 |own y=>obtain⟨_,e⟩:=x;exact 74 e
 |xd fs=>obtain⟨_,⟨_,_,_,e,_⟩,_⟩:=x;exact 74 e
 |rng lo hi=>obtain⟨_,_,_,e⟩:=x;exact 74 e
 |frz ob u=>obtain⟨e,_⟩:=x;exact 74 e
 |tbl ps=>exact 74 (show h.get? a=some _ from x)
 |met f y=>exact 74 (show h.get? a=some _ from x)
 |ext φ=>obtain⟨_,⟨_,e⟩,_⟩:=x;exact 74 e
theorem Paired.mapP{α β:Type}{F G:α->β->Prop}:∀{l₁:List α} {l₂:List β},Paired F l₁ l₂->(∀a b,F a b->G a b)->Paired G l₁ l₂
 |_,_,.nil,_=>.nil
 |_,_,.cons r t,f=>.cons (f _ _ r) (Paired.mapP t f)
def ObjOk.stay(x:ObjOk P w H h a o)(k:∀b u,(b=a∨H b=some (.own a))->h.get? b=some u->h'.get? b=some u)
 (ho:∀b,H b=some (.own a)->H' b=some (.own a)) (ht:∀b xs,H b=some (.tup xs)->H' b=some (.tup xs)):ObjOk P w H' h' a o:=by
 induction o with
 |lst xs=>obtain⟨z,its,n,r,e⟩:=x;exact⟨z,its,n,r,k _ _ (.inl rfl) e⟩
 |tup xs=>obtain⟨z,its,r,ob,e,c⟩:=x;exact⟨z,its,r,ob,k _ _ (.inl rfl) e,c⟩
 |dK kvs=>obtain⟨z,y,vs,r,ob,es,ep,e,c⟩:=x;exact⟨z,y,vs,r,ob,es,ep,k _ _ (.inl rfl) e,c⟩
 |dT kvs=>
  obtain⟨z,y,xs,r,ob,es,ep,e,c⟩:=x;exact⟨z,y,xs,Paired.mapP r λp q z=>⟨z.1,ht _ _ z.2.1,z.2.2⟩,ob,es,ep,k _ _ (.inl rfl) e,c⟩
 |set S n=>obtain⟨ob,es,ep,t,e,c⟩:=x;exact⟨ob,es,ep,t,k _ _ (.inl rfl) e,c⟩
 |ins C dx fs=>
  obtain⟨d,z,ne,e,mA,⟨od,es,ep,e2,c⟩,r⟩:=x;exact⟨ho _ d,z,ne,k _ _ (.inl rfl) e,mA,⟨od,es,ep,k _ _ (.inr d) e2,c⟩,r⟩
 |own y=>obtain⟨ob,e⟩:=x;exact⟨ob,k _ _ (.inl rfl) e⟩
 |xd fs=>obtain⟨mA,⟨od,es,ep,e,c⟩,r⟩:=x;exact⟨mA,⟨od,es,ep,k _ _ (.inl rfl) e,c⟩,r⟩
 |rng lo hi=>obtain⟨t,u,v,e⟩:=x;exact⟨t,u,v,k _ _ (.inl rfl) e⟩
 |frz ob u ih=>obtain⟨e,q⟩:=x;exact⟨k _ _ (.inl rfl) e,ih q⟩
 |tbl ps=>
  have e:h.get? a=some { cls:=.none,data:=.fields ps }:=x;show h'.get? a=some { cls:=.none,data:=.fields ps };exact k a _ (.inl rfl) e
 |met f y=>
  have e:h.get? a=some (PySem.W.methodObj (.ref f) (.ref y)):=x;show h'.get? a=some (PySem.W.methodObj (.ref f) (.ref y));exact k a _ (.inl rfl) e
 |ext φ=>obtain⟨p,⟨o,e⟩,st⟩:=x;exact⟨st _ _ p λo q=>k _ _ (.inl rfl) q,⟨o,k _ _ (.inl rfl) e⟩,st⟩
theorem HOk.lt(x:HOk P w H h)(e:H a=some o):a<h.objs.size:=(x a o e).lt
def HOk.fresh(x:HOk P w H h)(e:h.objs.size<=a):H a=none:=by
 cases q:H a with
 |none=>rfl
 |some u=>exact absurd (fW (x.lt q) e) (gy _)
def HOk.kept(x:HOk P w H h)(k:∀b u,h.get? b=some u->h'.get? b=some u):HOk P w H h':=λa o e=>
 (x a o e).stay (λb u _ q=>k b u q) (λ_ q=>q) λ_ _ q=>q
def HOk.laid(x:HOk P w H h)(k:∀b u,h.get? b=some u->h'.get? b=some u)(hp:h.objs.size<=a)(new:ObjOk P w (upd H a o) h' a o):HOk P w (upd H a o) h':=λb u e=>by
 have hn:=x.fresh hp;by_cases hb:b=a
 .subst hb;rw[AF]at e;cases e;exact new
 .rw[upd_ne hb]at e;exact(x b u e).stay (λc v _ q=>k c v q) (λc q=>by rw[upd_ne (AH q hn)];exact q) λc xs q=>by rw[upd_ne (AH q hn)];exact q
end
def Rd(H:Hp)(a:Addr)(u:HO):Prop:=H a=some u∨∃o,H a=some (.frz o u)
def Rd.ok{P:Program}{w:World}{H:Hp}{h:Heap}{a:Addr}{u:HO}(r:Rd H a u)(x:HOk P w H h):ObjOk P w H h a u:=by
 rcases r with r|⟨o,r⟩
 .exact x a u r
 .obtain⟨_,q⟩:=x a _ r;exact q
def Mut:Option HO->Prop
 |some (.lst _)=>True
 |some (.dK _)=>True
 |some (.dT _)=>True
 |some (.set _ _)=>True
 |some (.ins _ _ _)=>True
 |some (.ext _)=>True
 |_=>False
section
variable{P:Program}{w:World}{H:Hp}{h h':Heap}{x e:Addr}{o':HO}
def HOk.write(ok:HOk P w H h)(mu:Mut (H x))(he:e=x∨H e=some (.own x))(k:∀b u,b≠e->h.get? b=some u->h'.get? b=some u)(heo:∃u,h'.get? e=some u)
 (new:ObjOk P w (upd H x o') h' x o'):HOk P w (upd H x o') h':=λb u q=>by
 have nown:∀c y,H c=some (.own y)->c≠x:=λc y r z=>by subst z;rw[r]at mu;exact mu
 have ntup:∀c xs,H c=some (.tup xs)->c≠x:=λc xs r z=>by subst z;rw[r]at mu;exact mu
 by_cases hb:b=x
 .subst hb;rw[AF]at q;cases q;exact new
 .rw[upd_ne hb]at q;by_cases hbe:b=e
  .have q':H b=some (.own x):=by
    rcases he with z|z
    .exact absurd (hbe.trans z) hb
    .rw[hbe];exact z
   rw[q]at q';cases q';obtain⟨v,hv⟩:=heo;exact⟨v,by rw[hbe];exact hv⟩
  .refine(ok b u q).stay (λc v hc r=>k c v ?_ r) (λc r=>by rw[upd_ne (nown c b r)];exact r) λc xs r=>by rw[upd_ne (ntup c xs r)];exact r
   rcases hc with rfl|hc
   .exact hbe
   .rintro rfl;rcases he with z|z
    .exact nown c b hc z
    .rw[hc]at z;cases z;exact hb rfl
end
structure Un(fs ex:List Addr)(H H':Hp)(h h':Heap):Prop where
 keep:∀b o,h.get? b=some o->H b=none->b∉fs->b∉ex->h'.get? b=some o
 slot:∀b o,h.get? b=some o->H b=none->b∈fs->b∉ex->∃sl,h'.get? b=some { o with slots:=sl }
 free:∀b o,h.get? b=some o->H b=none->b∉ex->H' b=none
 there:∀b o,h.get? b=some o->b∉ex->∃o',h'.get? b=some o'
 tups:∀b xs,H b=some (.tup xs)->H' b=some (.tup xs)
 frzs:∀b o u,H b=some (.frz o u)->H' b=some (.frz o u)
 tbls:∀b ps,H b=some (.tbl ps)->∃more,H' b=some (.tbl (ps++more))
section
variable{fs fs' ex ex':List Addr}{H H1 H2:Hp}{h h1 h2 h':Heap}{a x e:Addr}{o:HO}
def Un.any(u:Un fs ex H H1 h h1){b:Addr}{ob:Obj}(q:h.get? b=some ob)(n:H b=none)(hx:b∉ex):∃sl,h1.get? b=some { ob with slots:=sl }:=by
 by_cases hb:b∈fs
 .exact u.slot b ob q n hb hx
 .exact⟨ob.slots,u.keep b ob q n hb hx⟩
def Un.kept(k:∀b u,h.get? b=some u->h'.get? b=some u):Un fs ex H H h h':=
 ⟨λb ob q _ _ _=>k b ob q,λb ob q _ _ _=>⟨ob.slots,k b ob q⟩,λ_ _ _ n _=>n,λb ob q _=>⟨ob,k b ob q⟩,λ_ _ q=>q,λ_ _ _ q=>q,λ_ ps q=>⟨#[],by rw[q];simp⟩⟩
def Un.refl:Un fs ex H H h h:=Un.kept λ_ _ q=>q
def Un.laid(k:∀b u,h.get? b=some u->h'.get? b=some u)(hp:h.objs.size<=a)(hn:H a=none):Un fs ex H (upd H a o) h h' where
 keep:=λb u q _ _ _=>k b u q
 slot:=λb u q _ _ _=>⟨u.slots,k b u q⟩
 free:=λb u q n _=>by rw[upd_ne (fz (fW (Heap.lt_size q) hp))];exact n
 there:=λb u q _=>⟨u,k b u q⟩
 tups:=λb xs q=>by rw[upd_ne (AH q hn)];exact q
 frzs:=λb u xs q=>by rw[upd_ne (AH q hn)];exact q
 tbls:=λb ps q=>⟨#[],by rw[upd_ne (AH q hn),q];simp⟩
def Un.write(mu:Mut (H x))(he:e=x∨H e=some (.own x))(k:∀b u,b≠e->h.get? b=some u->h'.get? b=some u)(heo:∃u,h'.get? e=some u):Un fs ex H (upd H x o) h h':=by
 have hx:∀b,H b=none->b≠x:=λb n z=>by subst z;rw[n]at mu;exact mu
 have hb:∀b,H b=none->b≠e:=λb n z=>by
  subst z;rcases he with r|r
  .exact hx b n r
  .rw[n]at r;cases r
 have hm:∀b u,H b=some u->¬ Mut (some u)->b≠x:=λb u q nm z=>by subst z;rw[q]at mu;exact nm mu
 refine⟨λb u q n _ _=>k b u (hb b n) q,λb u q n _ _=>⟨u.slots,k b u (hb b n) q⟩,λb u q n _=>by rw[upd_ne (hx b n)];exact n,λb u q _=>?_,
  λb xs q=>by rw[upd_ne (hm b _ q λz=>z)];exact q,λb u xs q=>by rw[upd_ne (hm b _ q λz=>z)];exact q,λb ps q=>⟨#[],by rw[upd_ne (hm b _ q λz=>z),q];simp⟩⟩
 by_cases hbe:b=e
 .subst hbe;exact heo
 .exact⟨u,k b u hbe q⟩
end
noncomputable def trk(h:Heap)(H:Hp):List Addr:=(69 h.objs.size).filter λa=>(H a).isSome
noncomputable def GG(h:Heap)(H:Hp):Heap:=PySem.W.hideAll h (trk h H)
def SH(h:Heap)(H:Hp):(GG h H).objs.size=h.objs.size:=PySem.W.hideAll_size _ _
def V6{h:Heap}{H:Hp}{b:Addr}{o:Obj}(e:h.get? b=some o)(n:H b=none):(GG h H).get? b=some o:=
 PySem.W.hideAll_get _ e λhm=>by
  have q:(H b).isSome=true:=(mem_filter.mp hm).2;rw[n]at q;simp at q
def Y6{h:Heap}{H:Hp}{b:Addr}{o:Obj}(e:(GG h H).get? b=some o):h.get? b=some o/\H b=none:=by
 have e':h.get? b=some o:=PySem.W.of_hideAll (trk h H) e;refine⟨e',?_⟩;cases q:H b with
 |none=>rfl
 |some x=>
  have hm:b∈trk h H:=mem_filter.mpr ⟨mem_range.mpr (74 e'),by simp[q]⟩;have z:(GG h H).get? b=none:=PySem.W.hideAll_none (trk h H) hm;rw[z]at e;cases e
structure Mod(K:Frag)(mg:Str->Option Value)(base:Heap):Prop where
 kin:K.In base
 glob:base.Ns mainGlobals mg
 blt:∃mb,base.Ns builtinsNs mb/\∀x:Str,x≠"__name__"->mb x=bootBuiltins x
 nolimit:base.NoLimit
structure Cx where
 prog:Program
 w:World
 K:Frag
 mg:Str->Option Value
 base:Heap
 A:Around
 N:List Str
 s₀:Shared
 H₀:Hp
 env:Env
 outer:List Env
 stack:List Env
 ex:List Addr
 fn:Str->Bool
 calm:Bool
 pn:List 92
 xe:Value->Shared->Prop
noncomputable def frs(l:List Env):List Addr:=l.filterMap (·.frame)
abbrev Cx.fs(X:Cx):List Addr:=frs X.outer
def Vis(sc:Scope)(x:Str):Prop:=sc.names.lookup x=some .local∨sc.names.lookup x=some .cell∨sc.names.lookup x=some .free
def Loc(sc:Scope)(x:Str):Prop:=sc.names.lookup x=some .local∨sc.names.lookup x=some .cell
def dg(env:Env)(h:Heap)(m:Str->Option Value)(x:Str)(u:Value):Prop:=
 (env.kindOf x=some .local/\m x=some u)∨((env.kindOf x=some .cell∨env.kindOf x=some .free)/\∃c,env.cells.lookup x=some c/\h.IsCell c (some u))
structure Cx.Ok(X:Cx):Prop where
 mod:Mod X.K X.mg X.base
 kind:X.env.scope.kind=.function
 glob:X.env.globals=mainGlobals
 blt:X.env.builtins=builtinsNs
 above:128<=143
 inj:∀x y c,X.env.cells.lookup x=some c->X.env.cells.lookup y=some c->x=y
 has:∀x,(X.env.kindOf x=some .cell∨X.env.kindOf x=some .free)->∃c,X.env.cells.lookup x=some c
 cab:∀x c,X.fn x=true->X.env.cells.lookup x=some c->128<=c
 hd:X.calm=true->X.A.handled=none
 frames:X.A.frames=some X.stack
 stk:X.stack=X.outer∨(X.stack=X.env::X.outer/\X.env.frame=some 143)
 exf:∀b∈X.ex,b≠143/\∀x c,X.env.cells.lookup x=some c->c≠b
 bs:∀b o,X.base.get? b=some o->X.s₀.heap.get? b=some o/\X.H₀ b=none
 bsz:X.base.objs.size<=128
 noex:∀b o,X.base.get? b=some o->b∉X.ex
 exfs:∀b∈X.ex,b∉X.fs
 funs:X.s₀.heap.FunFrames X.base X.outer
 frf:∀b∈X.fs,X.H₀ b=none
structure Inv(X:Cx)(pins:List 92)(σ:List (Option V))(H:Hp)(s:Shared):Prop where
 ok:X.Ok
 os:s.os=X.s₀.os
 bare:AllBare s.gens
 base:Un X.fs X.ex X.H₀ H X.s₀.heap s.heap
 loc:∃m,s.heap.Ns 143 m/\∀(i:Nat) (x:Str) (v:V),X.N[i]?=some x->σ[i]?=some (some v)->Vis X.env.scope x->∃u,RelV v u/\dg X.env s.heap m x u
 cell:∀x c,X.env.cells.lookup x=some c->∃v,s.heap.IsCell c v
 free:H 143=none
 freeC:∀x c,X.env.cells.lookup x=some c->H c=none
 pin:∀p∈X.pn++pins,s.heap.get? p.1=some p.2/\H p.1=none/\p.1≠143/\p.1∉X.fs/\∀v,p.2.data≠.cell v
 hok:HOk X.prog X.w H s.heap
 len:σ.length=X.N.length
section
variable{X:Cx}{pins:List 92}{σ:List (Option V)}{H H':Hp}{s:Shared}{h':Heap}
def Cx.Ok.nofr(ok:X.Ok){b:Addr}{o:Obj}(e:X.base.get? b=some o):b∉X.fs:=λhb=>by
 have:=(ok.funs.mem hb).1;rw[e]at this;cases this
theorem Inv.bs(I:Inv X pins σ H s):∀b o,X.base.get? b=some o->s.heap.get? b=some o/\H b=none:=λb o e=>
 ⟨I.base.keep b o (I.ok.bs b o e).1 (I.ok.bs b o e).2 (I.ok.nofr e) (I.ok.noex b o e),I.base.free b o (I.ok.bs b o e).1 (I.ok.bs b o e).2 (I.ok.noex b o e)⟩
def Inv.bk(I:Inv X pins σ H s):∀b o,X.base.get? b=some o->s.heap.get? b=some o:=λb o e=>(I.bs b o e).1
theorem Inv.mod(I:Inv X pins σ H s):Mod X.K X.mg X.base:=I.ok.mod
def Inv.kIn(I:Inv X pins σ H s):X.K.In s.heap:=I.ok.mod.kin.keeps I.bk
theorem Inv.nolimit(I:Inv X pins σ H s):s.heap.NoLimit:=I.ok.mod.nolimit.keeps I.bk
theorem Inv.lt(I:Inv X pins σ H s):143<s.heap.objs.size:=let ⟨_,hn,_⟩:=I.loc;hn.lt
def Inv.sz(I:Inv X pins σ H s):128<=s.heap.objs.size:=fu I.ok.above (gB I.lt)
def Inv.nofs(I:Inv X pins σ H s){a:Addr}(h:58<=a):a∉X.fs:=λhb=>by
 obtain⟨_,o,ho,_⟩:=I.ok.funs.mem hb;exact absurd (fW (74 ho) (fu I.sz h)) (gy _)
def Inv.cne(I:Inv X pins σ H s):∀x c,X.env.cells.lookup x=some c->c≠X.env.locals:=λx c e z=>by
 obtain⟨v,o,ho,hd⟩:=I.cell x c e;obtain⟨m,⟨o',es,ep,ho',hd',_⟩,_⟩:=I.loc;rw[z,ho']at ho;cases ho;rw[hd']at hd;cases hd
theorem Inv.funs(I:Inv X pins σ H s):s.heap.FunFrames X.base X.outer:=by
 have all:∀(l:List Env),(∀b∈frs l,b∈X.fs)->X.s₀.heap.FunFrames X.base l->s.heap.FunFrames X.base l:=by
  intro l
  induction l with
  |nil=>intro _ _;trivial
  |cons env r ih=>
   intro hs hl;obtain⟨hk,⟨L,o,hf,hn,ho,hd⟩,hr⟩:=hl;have hL:L∈X.fs:=hs L (by unfold frs;rw[gD,hf];exact fo);obtain⟨sl,e⟩:=I.base.slot L o ho (I.ok.frf L hL) hL λz=>I.ok.exfs L z hL;exact⟨hk,⟨L,_,hf,hn,e,hd⟩,ih (λb hb=>hs b (by unfold frs;rw[gD,hf];exact fj _ hb)) hr⟩
 exact all X.outer (λ_ hb=>hb) I.ok.funs
theorem Inv.stack(I:Inv X pins σ H s):s.heap.FunFrames X.base X.stack:=by
 rcases I.ok.stk with e|⟨e,hf⟩
 .rw[e];exact I.funs
 .rw[e];obtain⟨m,hn,_⟩:=I.loc;refine .cons (by rw[I.ok.kind];decide) hf hn ?_ I.funs;exact Heap.get?_none_of_le (fu I.ok.bsz I.ok.above)
def Inv.stkSub(I:Inv X pins σ H s):∀b∈frs X.stack,b∈143::X.fs:=λb hb=>by
 rcases I.ok.stk with e|⟨e,hf⟩
 .rw[e]at hb;exact fj _ hb
 .rw[e]at hb;unfold frs at hb;rw[gD,hf]at hb;exact hb
def Inv.stkFree(I:Inv X pins σ H s):∀b∈frs X.stack,H b=none:=λb hb=>by
 rcases mem_cons.mp (I.stkSub b hb)with e|hb
 .rw[e];exact I.free
 .obtain⟨_,o,ho,_⟩:=I.ok.funs.mem hb;exact I.base.free b o ho (I.ok.frf b hb) λz=>I.ok.exfs b z hb
def Inv.step{g':Array GenState}{t':Nat}{d':Drawn}{ch:List Addr}(I:Inv X pins σ H s)
 (hch:∀b∈ch,(b∈X.ex∨128<=b)/\b≠143/\(∀x c,X.env.cells.lookup x=some c->c≠b)/\∀p∈X.pn++pins,p.1≠b)
 (keep:∀b o,b≠143->b∉X.fs->b∉ch->s.heap.get? b=some o->H b=none->h'.get? b=some o)
 (slot:∀b o,b≠143->b∈X.fs->b∉ch->s.heap.get? b=some o->H b=none->∃sl,h'.get? b=some { o with slots:=sl }) (free:∀b o,b∉ch->s.heap.get? b=some o->H b=none->H' b=none)
 (there:∀b o,b∉ch->s.heap.get? b=some o->∃o',h'.get? b=some o')
 (tups:∀b xs,H b=some (.tup xs)->H' b=some (.tup xs)) (frzs:∀b o u,H b=some (.frz o u)->H' b=some (.frz o u)) (tbls:∀b ps,H b=some (.tbl ps)->∃more,H' b=some (.tbl (ps++more)))
 (ns:∀m,s.heap.Ns 143 m->h'.Ns 143 m) (hok:HOk X.prog X.w H' h') (hg:AllBare g'):
 Inv X pins σ H' { s with heap:=h',gens:=g',drawn:=d',toks:=t' }:=by
 have neL:∀b o,X.s₀.heap.get? b=some o->b≠X.env.locals:=λb o e=>fz (fW (74 e) I.ok.above);have neC:∀b o,X.s₀.heap.get? b=some o->b∉X.ex->b∉ch:=λb o e hx hb=>by
  rcases(hch b hb).1 with z|z
  .exact hx z
  .exact absurd (fW (74 e) z) (gy _)
 have cellK:∀x c,X.env.cells.lookup x=some c->∀v,s.heap.IsCell c v->h'.IsCell c v:=λx c e v ⟨o,ho,hd⟩=>by
  have nch:c∉ch:=λz=>(hch c z).2.2.1 x c e rfl;by_cases hc:c∈X.fs
  .obtain⟨sl,q⟩:=slot c o (I.cne x c e) hc nch ho (I.freeC x c e);exact⟨_,q,hd⟩
  .exact⟨o,keep c o (I.cne x c e) hc nch ho (I.freeC x c e),hd⟩
 refine⟨I.ok,I.os,hg,⟨λb o e n hb hx=>?_,λb o e n hb hx=>?_,λb o e n hx=>?_,λb o e hx=>?_,λb xs e=>tups b xs (I.base.tups b xs e),λb o xs e=>frzs b o xs (I.base.frzs b o xs e),λb ps e=>?_⟩,?_,λx c e=>?_,?_,λx c e=>?_,λp hp=>?_,hok,I.len⟩
 .exact keep b o (neL b o e) hb (neC b o e hx) (I.base.keep b o e n hb hx) (I.base.free b o e n hx)
 .obtain⟨sl,e1⟩:=I.base.slot b o e n hb hx;obtain⟨sl',e2⟩:=slot b _ (neL b o e) hb (neC b o e hx) e1 (I.base.free b o e n hx);exact⟨sl',e2⟩
 .obtain⟨o',e1⟩:=I.base.there b o e hx;exact free b o' (neC b o e hx) e1 (I.base.free b o e n hx)
 .obtain⟨o',e1⟩:=I.base.there b o e hx;exact there b o' (neC b o e hx) e1
 .obtain⟨m1,e1⟩:=I.base.tbls b ps e;obtain⟨m2,e2⟩:=tbls b _ e1;exact⟨m1++m2,by rw[e2,Array.append_assoc]⟩
 .obtain⟨m,hn,hl⟩:=I.loc;refine⟨m,ns m hn,λi x v e1 e2 e3=>?_⟩;obtain⟨u,r,l⟩:=hl i x v e1 e2 e3;refine⟨u,r,?_⟩;rcases l with l|⟨k,c,e,z⟩
  .exact .inl l
  .exact .inr ⟨k,c,e,cellK x c e _ z⟩
 .obtain⟨v,z⟩:=I.cell x c e;exact⟨v,cellK x c e v z⟩
 .obtain⟨m,⟨o,_,_,ho,_⟩,_⟩:=I.loc;exact free _ o (λz=>(hch _ z).2.1 rfl) ho I.free
 .obtain⟨v,o,ho,hd⟩:=I.cell x c e;exact free c o (λz=>(hch c z).2.2.1 x c e rfl) ho (I.freeC x c e)
 .obtain⟨e,n,ne,nf,d⟩:=I.pin p hp;have nch:p.1∉ch:=λz=>(hch p.1 z).2.2.2 p hp rfl;exact⟨keep p.1 p.2 ne nf nch e n,free p.1 p.2 nch e n,ne,nf,d⟩
def Inv.un{t':Nat}(I:Inv X pins σ H s)(u:Un X.fs [] H H' s.heap h')(hok:HOk X.prog X.w H' h'):Inv X pins σ H' { s with heap:=h',toks:=t' }:=by
 obtain⟨m,⟨o,es,ep,ho,r⟩,_⟩:=id I.loc;obtain⟨sl,hL⟩:=u.any ho I.free 70;exact I.step (g':=s.gens) (d':=s.drawn) (ch:=[]) (λ_ z=>nomatch z) (λb o _ hb _ e n=>u.keep b o e n hb 70) (λb o _ hb _ e n=>u.slot b o e n hb 70) (λb o _ e n=>u.free b o e n 70) (λb o _ e=>u.there b o e 70) u.tups u.frzs u.tbls (λm' hm=>by
  obtain⟨o',es',ep',ho',r'⟩:=hm;rw[ho]at ho';cases ho';exact⟨_,es',ep',hL,r'⟩) hok I.bare
def Inv.call{g':Array GenState}{t':Nat}{d':Drawn}{ch:List Addr}(I:Inv X pins σ H s)(u:Un (frs X.stack) ch H H' s.heap h')(hok:HOk X.prog X.w H' h')(hg:AllBare g')
 (hch:∀b∈ch,(b∈X.ex∨128<=b)/\b≠143/\(∀x c,X.env.cells.lookup x=some c->c≠b)/\∀p∈X.pn++pins,p.1≠b):
 Inv X pins σ H' { s with heap:=h',gens:=g',drawn:=d',toks:=t' }:=by
 obtain⟨m,⟨o,es,ep,ho,r⟩,_⟩:=id I.loc;obtain⟨sl,hL⟩:=u.any ho I.free λz=>(hch _ z).2.1 rfl;exact I.step (ch:=ch) hch (λb o hL hb hc e n=>u.keep b o e n (λz=>(mem_cons.mp (I.stkSub b z)).elim hL hb) hc) (λb o _ _ hc e n=>u.any e n hc) (λb o hc e n=>u.free b o e n hc) (λb o hc e=>u.there b o e hc) u.tups u.frzs u.tbls (λm' hm=>by
  obtain⟨o',es',ep',ho',r'⟩:=hm;rw[ho]at ho';cases ho';exact⟨_,es',ep',hL,r'⟩) hok hg
def Inv.turned{t':Nat}{it:Addr}(I:Inv X pins σ H s)(k:∀b o,b≠it->s.heap.get? b=some o->h'.get? b=some o)(hn:H it=none)(hL:it≠143)
 (h1:it∈X.ex∨128<=it) (h2:∀x c,X.env.cells.lookup x=some c->c≠it) (h3:∀p∈X.pn++pins,p.1≠it):Inv X pins σ H { s with heap:=h',toks:=t' }:=by
 have nit:∀b u,H b=some u->b≠it:=λb u e z=>by rw[z,hn]at e;cases e
 refine I.step (g':=s.gens) (d':=s.drawn) (ch:=[it]) (λb hb=>?_) (λb o _ _ hc e _=>k b o (λz=>hc (by simp[z])) e) (λb o _ _ hc e _=>⟨o.slots,k b o (λz=>hc (by simp[z])) e⟩) (λ_ _ _ _ n=>n)
  (λb o hc e=>⟨o,k b o (λz=>hc (by simp[z])) e⟩) (λ_ _ e=>e) (λ_ _ _ e=>e) (λb ps e=>⟨#[],by rw[e];simp⟩) (λm hm=>?_) (λb u e=>?_) I.bare
 .have e:b=it:=by simpa using hb
  subst e;exact⟨h1,hL,h2,h3⟩
 .obtain⟨o,es,ep,ho,r⟩:=hm;exact⟨o,es,ep,k _ o (Ne.symm hL) ho,r⟩
 .refine(I.hok b u e).stay (λc v hc q=>k c v ?_ q) (λ_ q=>q) λ_ _ q=>q;rcases hc with z|z
  .rw[z];exact nit b u e
  .exact nit c _ z
def Inv.tok(I:Inv X pins σ H s)(t:Nat):Inv X pins σ H { s with toks:=t }:=I.un (h':=s.heap) (t':=t) Un.refl I.hok
theorem Inv.kept{t':Nat}(I:Inv X pins σ H s)(k:∀b u,s.heap.get? b=some u->h'.get? b=some u):Inv X pins σ H { s with heap:=h',toks:=t' }:=I.un (Un.kept k) (I.hok.kept k)
theorem Inv.laid{a:Addr}{o:HO}{t':Nat}(I:Inv X pins σ H s)(k:∀b u,s.heap.get? b=some u->h'.get? b=some u)(hp:58<=a)(new:ObjOk X.prog X.w (upd H a o) h' a o):
 Inv X pins σ (upd H a o) { s with heap:=h',toks:=t' }:=I.un (Un.laid k hp (I.hok.fresh hp)) (I.hok.laid k hp new)
theorem Inv.write{x e:Addr}{o:HO}{t':Nat}(I:Inv X pins σ H s)(mu:Mut (H x))(he:e=x∨H e=some (.own x))(k:∀b u,b≠e->s.heap.get? b=some u->h'.get? b=some u)(heo:∃u,h'.get? e=some u)
 (new:ObjOk X.prog X.w (upd H x o) h' x o):Inv X pins σ (upd H x o) { s with heap:=h',toks:=t' }:=I.un (Un.write mu he k heo) (I.hok.write mu he k heo new)
def Inv.pins_of{pins':List 92}(I:Inv X pins σ H s)(h:∀p∈pins',s.heap.get? p.1=some p.2/\H p.1=none/\p.1≠143/\p.1∉X.fs/\∀v,p.2.data≠.cell v):Inv X pins' σ H s:=
 ⟨I.ok,I.os,I.bare,I.base,I.loc,I.cell,I.free,I.freeC,λp hp=>(mem_append.mp hp).elim (λz=>I.pin p (gw _ z)) (h p),I.hok,I.len⟩
def N8{N:List Str}(hN:N.Nodup){i j:Nat}{x:Str}(a:N[i]?=some x)(b:N[j]?=some x):i=j:=by
 obtain⟨h1,e1⟩:=73 a;obtain⟨h2,e2⟩:=73 b;exact(List.getElem_inj hN).mp (e1.trans e2.symm)
def Ky{M:Model}{A:Around}{E:Value->Shared->Prop}{i:Nat}{x:Str}{v:V}{u:Value}{Q:Unit->Shared->Prop}(I:Inv X pins σ H s)(hN:X.N.Nodup)(hi:X.N[i]?=some x)(hx:Loc X.env.scope x)(r:RelV v u)
 (h:∀s',Inv X pins (σ.set i (some v)) H s'->(∃a,Heap.SameBut a s.heap s'.heap/\(a=143∨X.env.cells.lookup x=some a))->Q () s') (hf:X.fn x=true∨X.env.scope.names.lookup x=some .local:=by first|exact .inl rfl|exact .inr rfl|assumption):wpAny M A (storeName X.env x u) Q E s:=by
 obtain⟨m,hn,hl⟩:=id I.loc;have hcls:(X.env.scope.kind==.class||(X.env.scope.kind==.module&&X.env.locals != X.env.globals))=false:=by rw[I.ok.kind];rfl
 have hiσ:i<σ.length:=by rw[I.len];exact(73 hi).1
 have cne:=I.cne;have tracked:∀{a:Addr} {h':Heap},(∃o,s.heap.get? a=some o/\H a=none)->Heap.SameBut a s.heap h'->HOk X.prog X.w H h':=λ{a h'} ha hs b ob e=>by
  obtain⟨_,_,hfree⟩:=ha;refine(I.hok b ob e).stay (λc w' hc q=>(hs.2 c ?_).trans q) (λ_ q=>q) λ_ _ q=>q;rintro rfl;rcases hc with rfl|hc
  .rw[hfree]at e;cases e
  .rw[hfree]at hc;cases hc
 rcases hx with hk|hk
 .refine wpAny_storeName_local hk hn (λh' hn' hs=>?_) hcls;obtain⟨oL,_,_,hoL,_⟩:=id hn;refine h _ ⟨I.ok,I.os,I.bare,⟨λb o e n hb hx=>?_,λb o e n hb hx=>?_,I.base.free,λb o e hx=>?_,I.base.tups,I.base.frzs,I.base.tbls⟩,⟨_,hn',λj y v' e1 e2 e3=>?_⟩,λy c e=>?_,I.free,I.freeC,λp hp=>?_,tracked ⟨oL,hoL,I.free⟩ hs,by simpa using I.len⟩ ⟨_,hs,.inl rfl⟩
  .exact(hs.2 b (fz (fW (74 e) I.ok.above))).trans (I.base.keep b o e n hb hx)
  .obtain⟨sl,e1⟩:=I.base.slot b o e n hb hx;exact⟨sl,(hs.2 b (fz (fW (74 e) I.ok.above))).trans e1⟩
  .obtain⟨o',e1⟩:=I.base.there b o e hx;exact⟨o',(hs.2 b (fz (fW (74 e) I.ok.above))).trans e1⟩
  .by_cases hj:j=i
   .subst hj;rw[hi]at e1;cases e1;rw[List.getElem?_set_self hiσ]at e2;cases e2;exact⟨u,r,.inl ⟨hk,by simp⟩⟩
   .rw[List.getElem?_set_ne (Ne.symm hj)]at e2;obtain⟨u',r',q⟩:=hl j y v' e1 e2 e3;refine⟨u',r',?_⟩;rcases q with⟨k,e⟩|⟨k,c,e,z⟩
    .refine .inl ⟨k,?_⟩;have:y≠x:=λe=>hj (N8 hN e1 (e ▸ hi));simp[this,e]
    .exact .inr ⟨k,c,e,z.sameBut hs (cne y c e)⟩
  .obtain⟨w',z⟩:=I.cell y c e;exact⟨w',z.sameBut hs (cne y c e)⟩
  .obtain⟨e,n,ne,nf,d⟩:=I.pin p hp;exact⟨(hs.2 p.1 ne).trans e,n,ne,nf,d⟩
 .have hfn:X.fn x=true:=by
   rcases hf with z|z
   .exact z
   .rw[z]at hk;cases hk
  obtain⟨c,hc⟩:=I.ok.has x (.inl hk);obtain⟨w',z⟩:=I.cell x c hc;refine wpAny_storeName_cell I.ok.kind hk hc z (λh' hc' hs=>?_);obtain⟨oc,hoc,hocd⟩:=id z;refine h { s with heap:=h' } ⟨I.ok,I.os,I.bare,⟨λb o e n hb hx=>?_,λb o e n hb hx=>?_,I.base.free,λb o e hx=>?_,I.base.tups,I.base.frzs,I.base.tbls⟩,⟨m,hn.sameBut hs (Ne.symm (cne x c hc)),λj y v' e1 e2 e3=>?_⟩,λy c' e=>?_,I.free,I.freeC,λp hp=>?_,tracked ⟨oc,hoc,I.freeC x c hc⟩ hs,by simpa using I.len⟩ ⟨c,hs,.inr hc⟩
  .exact(hs.2 b (fz (fW (74 e) (I.ok.cab x c hfn hc)))).trans (I.base.keep b o e n hb hx)
  .obtain⟨sl,e1⟩:=I.base.slot b o e n hb hx;exact⟨sl,(hs.2 b (fz (fW (74 e) (I.ok.cab x c hfn hc)))).trans e1⟩
  .obtain⟨o',e1⟩:=I.base.there b o e hx;exact⟨o',(hs.2 b (fz (fW (74 e) (I.ok.cab x c hfn hc)))).trans e1⟩
  .by_cases hj:j=i
   .subst hj;rw[hi]at e1;cases e1;rw[List.getElem?_set_self hiσ]at e2;cases e2;exact⟨u,r,.inr ⟨.inl hk,c,hc,hc'⟩⟩
   .rw[List.getElem?_set_ne (Ne.symm hj)]at e2;obtain⟨u',r',q⟩:=hl j y v' e1 e2 e3;refine⟨u',r',?_⟩;rcases q with q|⟨k,c',e,z'⟩
    .exact .inl q
    .refine .inr ⟨k,c',e,z'.sameBut hs ?_⟩;rintro rfl;exact hj (N8 hN e1 (I.ok.inj _ _ _ e hc ▸ hi))
  .by_cases hcc:c'=c
   .subst hcc;exact⟨_,hc'⟩
   .obtain⟨w2,z2⟩:=I.cell y c' e;exact⟨w2,z2.sameBut hs hcc⟩
  .obtain⟨e,n,ne,nf,d⟩:=I.pin p hp;refine⟨(hs.2 p.1 ?_).trans e,n,ne,nf,d⟩;intro q;rw[q,hoc]at e;have q':oc=p.2:=86 e;exact d w' (by rw[<- q'];exact hocd)
def IN{M:Model}{A:Around}{E:Value->Shared->Prop}{i:Nat}{x:Str}{v:V}{u:Value}{Q:Unit->Shared->Prop}(I:Inv X pins σ H s)(hN:X.N.Nodup)(hi:X.N[i]?=some x)(hx:Loc X.env.scope x)(r:RelV v u)
 (h:∀s',Inv X pins (σ.set i (some v)) H s'->Q () s') (hf:X.fn x=true∨X.env.scope.names.lookup x=some .local:=by first|exact .inl rfl|exact .inr rfl|assumption):wpAny M A (storeName X.env x u) Q E s:=
 Ky I hN hi hx r (λs' I' _=>h s' I') hf
def Inv.call'{s':Shared}{ch:List Addr}(I:Inv X pins σ H s)(ho:s'.os=s.os)(u:Un (frs X.stack) ch H H' s.heap s'.heap)(hok:HOk X.prog X.w H' s'.heap)(hg:AllBare s'.gens)
 (hch:∀b∈ch,(b∈X.ex∨128<=b)/\b≠143/\(∀x c,X.env.cells.lookup x=some c->c≠b)/\∀p∈X.pn++pins,p.1≠b):Inv X pins σ H' s':=by
 obtain⟨h',g',d',t',o'⟩:=s';have e:o'=s.os:=ho;subst e;exact I.call (g':=g') (t':=t') (d':=d') u hok hg hch
end
noncomputable abbrev XK:=Value->Option Addr->Hp->Prop
noncomputable abbrev St:=List (Option V)
noncomputable abbrev VK:=V->Hp->Prop
noncomputable abbrev TE:=St->Hp->VK->Prop
noncomputable abbrev TT:=St->Hp->(Bool->Hp->Prop)->Prop
noncomputable abbrev TA:=St->Hp->(List V->Hp->Prop)->Prop
structure Ends where
 nx:St->Hp->Prop
 rt:VK
 bk:St->Hp->Prop:=λ_ _=>False
 ct:St->Hp->Prop:=λ_ _=>False
noncomputable abbrev TS:=Ends->St->Hp->Prop
def EP(X:Cx)(pins:List 92)(σ:St)(Q:VK)(u:Value)(s':Shared):Prop:=∃v H',Inv X pins σ H' s'/\RelV v u/\Q v H'
def TP(X:Cx)(pins:List 92)(σ:St)(Q:Bool->Hp->Prop)(b:Bool)(s':Shared):Prop:=∃H',Inv X pins σ H' s'/\Q b H'
def AP(X:Cx)(pins:List 92)(σ:St)(Q:List V->Hp->Prop)(us:List Value)(s':Shared):Prop:=∃vs H',Inv X pins σ H' s'/\Vals vs us/\Q vs H'
def SP(X:Cx)(pins:List 92)(D:Ends)(f:Flow)(s':Shared):Prop:=
 match f with
 |.next=>∃σ' H',Inv X pins σ' H' s'/\D.nx σ' H'
 |.brk=>∃σ' H',Inv X pins σ' H' s'/\D.bk σ' H'
 |.cont=>∃σ' H',Inv X pins σ' H' s'/\D.ct σ' H'
 |.ret u=>∃v σ' H',Inv X pins σ' H' s'/\RelV v u/\D.rt v H'
def PE(X:Cx)(e:Expr)(t:TE):Prop:=
 ∀(pins:List 92) (s:Shared) (σ:St) (H:Hp) (Q:VK),Inv X pins σ H s->t σ H Q->wpAny 68 X.A (eval e X.env) (EP X pins σ Q) X.xe s
def PT(X:Cx)(e:Expr)(t:TT):Prop:=
 ∀(pins:List 92) (s:Shared) (σ:St) (H:Hp) (Q:Bool->Hp->Prop),Inv X pins σ H s->t σ H Q->wpAny 68 X.A (isTrue e X.env (eval e X.env)) (TP X pins σ Q) X.xe s
def PW(X:Cx)(e:Expr)(t:TT):Prop:=
 ∀(whole:Sem Value) (pins:List 92) (s:Shared) (σ:St) (H:Hp) (Q:Bool->Hp->Prop),Inv X pins σ H s->t σ H Q->wpAny 68 X.A (isTrue e X.env whole) (TP X pins σ Q) X.xe s
def PW.pt{X:Cx}{e:Expr}{t:TT}(h:PW X e t):PT X e t:=h _
def PA(X:Cx)(es:List Expr)(t:TA):Prop:=
 ∀(pos:Pos) (pins:List 92) (s:Shared) (σ:St) (H:Hp) (Q:List V->Hp->Prop),Inv X pins σ H s->t σ H Q->wpAny 68 X.A (spliced (backTo pos 130)) (AP X pins σ Q) X.xe s
def PS(X:Cx)(st:Stmt)(t:TS):Prop:=
 ∀(pins:List 92) (s:Shared) (σ:St) (H:Hp) (D:Ends),Inv X pins σ H s->t D σ H->wpAny 68 X.A (exec st X.env) (SP X pins D) X.xe s
def PSs(X:Cx)(st:List Stmt)(t:TS):Prop:=
 ∀(pins:List 92) (s:Shared) (σ:St) (H:Hp) (D:Ends),Inv X pins σ H s->t D σ H->wpAny 68 X.A (execs st X.env) (SP X pins D) X.xe s
def thn{α:Type}{t:Sem α}{Q Q':α->Shared->Prop}{M:Model}{A:Around}{E:Value->Shared->Prop}{s:Shared}(h:wpAny M A t Q E s)(hQ:∀a s,Q a s->Q' a s):wpAny M A t Q' E s:=fw h hQ λ_ _ x=>x
section
variable{X:Cx}
def bin{a b:Expr}{ta tb:TE}(ha:PE X a ta)(hb:PE X b tb){pins:List 92}{s:Shared}{σ:St}{H:Hp}{R:V->V->Hp->Prop}(I:Inv X pins σ H s)(h:ta σ H λx H1=>tb σ H1 λy H2=>R x y H2)
 {α:Type} {Q:α->Shared->Prop} {f:Value->Value->Sem α}
 (hf:∀v u s2 x y H2,Inv X pins σ H2 s2->RelV x v->RelV y u->R x y H2->wpAny 68 X.A (f v u) Q X.xe s2):
 wpAny 68 X.A (eval a X.env) (λv s₁=>wpAny 68 X.A (eval b X.env) (λu s₂=>wpAny 68 X.A (f v u) Q X.xe s₂) X.xe s₁) X.xe s:=by
 refine thn (ha pins s σ H _ I h) λv s1 ⟨x,H1,I1,r1,q1⟩=>?_;refine thn (hb pins s1 σ H1 _ I1 q1) λu s2 ⟨y,H2,I2,r2,q2⟩=>?_;exact hf v u s2 x y H2 I2 r1 r2 q2
noncomputable def KD(i:Nat):TE:=λσ H Q=>∃v,σ[i]?=some (some v)/\Q v H
noncomputable def tC(v:V):TE:=λ_ H Q=>Q v H
def Jd{i:Nat}{x:Str}{pos:Pos}(hN:X.N[i]?=some x)(hv:Vis X.env.scope x)(hd:126=false:=by decide)(hcd:(x==("__classdict__":Str))=false:=by decide):PE X (.Name x pos) (KD i):=by
 intro pins s σ H Q I h;obtain⟨v,e,h⟩:=h;obtain⟨m,hn,hl⟩:=I.loc;obtain⟨u,r,l⟩:=hl i x v hN e hv;have fin:EP X pins σ Q u s:=⟨v,H,I,r,h⟩
 rcases l with⟨hk,hm⟩|⟨hk,c,hc,hcell⟩
 .exact wpAny_Name (wpAny_loadName_local I.ok.kind hk hn hm fin) hd
 .rcases hk with hk|hk
  .exact wpAny_Name (wpAny_loadName_cell I.ok.kind hk hc hcell fin) hd
  .exact wpAny_Name (wpAny_loadName_free I.ok.kind hk hc hcell fin hcd) hd
def aX{i j pos}:PE X (.Constant 134 j pos) (tC 134):=λ_ _ _ H _ I h=>wpAny_Constant_int ⟨.int i,H,I.tok _,⟨_,rfl⟩,h⟩
def cQ{b j pos}:PE X (.Constant (.bool b) j pos) (tC (.bl b)):=λ_ _ _ H _ I h=>Constant_bool ⟨.bl b,H,I,rfl,h⟩
def aU{j pos}:PE X (.Constant .none j pos) (tC .non):=λ_ _ _ H _ I h=>Constant_none ⟨.non,H,I,rfl,h⟩
def aR{x j pos}:PE X (.Constant (.str x) j pos) (tC (.str x)):=λ_ _ _ H _ I h=>Calls.Constant_str ⟨.str x,H,I.tok _,⟨_,rfl⟩,h⟩
def Gl(X:Cx)(x:Str):Prop:=X.env.kindOf x=some .globalImplicit
def KZ{E:Value->Shared->Prop}{pins:List 92}{s:Shared}{σ:St}{H:Hp}{x:Str}{u:Value}{pos:Pos}{Q:Value->Shared->Prop}(I:Inv X pins σ H s)(hg:Gl X x)(hm:X.mg x=some u)(h:Q u s)
 (hd:126=false:=by decide):wpAny 68 X.A (eval (.Name x pos) X.env) Q E s:=
 Calls.Name_function_global I.ok.kind hg (Calls.loadGlobal_global (by rw[I.ok.glob];exact I.mod.glob.keeps I.bk) hm h) hd
def DO{E:Value->Shared->Prop}{pins:List 92}{s:Shared}{σ:St}{H:Hp}{x:Str}{u:Value}{pos:Pos}{Q:Value->Shared->Prop}(I:Inv X pins σ H s)(hg:Gl X x)(hm:X.mg x=none)(hv:bootBuiltins x=some u)(h:Q u s)
 (hn:x≠"__name__":=by decide) (hd:126=false:=by decide):wpAny 68 X.A (eval (.Name x pos) X.env) Q E s:=by
 obtain⟨mb,h1,h2⟩:=I.mod.blt;exact Calls.Name_function_global I.ok.kind hg (Calls.loadGlobal_builtin (by rw[I.ok.glob];exact I.mod.glob.keeps I.bk) hm (by rw[I.ok.blt];exact h1.keeps I.bk) ((h2 x hn).trans hv) h) hd
variable{a b:Expr}{ta tb:TE}{pos:Pos}
def PC(X:Cx)(op:CmpOp)(a b:Expr)(t:TE):Prop:=
 ∀(pins:List 92) (s:Shared) (σ:St) (H:Hp) (Q:VK),Inv X pins σ H s->t σ H Q ->
   wpAny 68 X.A (eval a X.env) (λv s₁=>wpAny 68 X.A (eval b X.env) (λu s₂=>wpAny 68 X.A (compareOp op v u) (EP X pins σ Q) X.xe s₂) X.xe s₁) X.xe s
def Ur(b:Expr){op:CmpOp}(h:op≠.In)(h2:op≠.NotIn):behindInMarks op b=false:=by
 have e1:(op==CmpOp.In)=false:=by cases op<;>first|rfl|exact absurd rfl h
 have e2:(op==CmpOp.NotIn)=false:=by cases op<;>first|rfl|exact absurd rfl h2
 cases b<;>simp[behindInMarks,e1,e2]
noncomputable def TU(ta:TE):TE:=λσ H Q=>ta σ H λx H1=>Q (.bl (decide (x=.non))) H1
def RelV.none_iff{x:V}{v:Value}(r:RelV x v):(v==Value.none)=decide (x=.non):=by
 cases x with
 |non=>cases r;rfl
 |bl _=>cases r;rfl
 |int _=>obtain⟨t,rfl⟩:=r;rfl
 |str _=>obtain⟨t,rfl⟩:=r;rfl
 |byt _=>obtain⟨t,rfl⟩:=r;rfl
 |flt _=>obtain⟨t,rfl⟩:=r;rfl
 |ref _=>cases r;rfl
 |ty _=>cases r;rfl
def ac{j pos'}(ha:PE X a ta):PC X .Is a (.Constant .none j pos') (TU ta):=by
 intro pins s σ H Q I h;refine thn (ha pins s σ H _ I h) λv s1 ⟨x,H1,I1,r1,q1⟩=>?_;exact Constant_none (is_none_gen ⟨.bl _,H1,I1,by rw[r1.none_iff];rfl,q1⟩)
noncomputable def tB(t:TE):TT:=λσ H Q=>t σ H λx H1=>∃c,x=.bl c/\Q c H1
def Rl{op:CmpOp}{t:TE}(h:PC X op a b t)(h1:behindInMarks op b=false:=by first|exact Ur _ 90 90|rfl):PT X (.Compare a [op] [b] pos) (tB t):=by
 intro pins s σ H Q I hw;refine wpAny_isTrue_Compare1 (thn (h pins s σ H _ I hw) λv s1 h1=>thn h1 λu s2 h2=>thn h2 λc s3 ⟨x,H1,I1,r1,q1⟩=>?_) h1;obtain⟨d,rfl,q⟩:=q1;cases r1;exact gU ⟨H1,I1,q⟩
variable{tA tB':TT}{rest:List Expr}
noncomputable def Ta(t u:TT):TT:=λσ H Q=>t σ H λc H1=>if c=true then u σ H1 Q else Q false H1
noncomputable def tOr(t u:TT):TT:=λσ H Q=>t σ H λc H1=>if c=true then Q true H1 else u σ H1 Q
noncomputable def TN(t:TT):TT:=λσ H Q=>t σ H λc H1=>Q (!c) H1
def Xd(ha:PT X a tA):PW X (.BoolOp .And [a] pos) tA:=by
 intro wh pins s σ H Q I h;refine isTrue_and (thn (ha pins s σ H Q I h) λc s1 e=>?_);cases c with
 |true=>exact isTrue_and_nil e
 |false=>exact e
def aD(ha:PT X a tA):PW X (.BoolOp .Or [a] pos) tA:=by
 intro wh pins s σ H Q I h;refine isTrue_or (thn (ha pins s σ H Q I h) λc s1 e=>?_);cases c with
 |false=>exact isTrue_or_nil e
 |true=>exact e
def aE(ha:PT X a tA)(hb:PW X (.BoolOp .And (b::rest) pos) tB'):PW X (.BoolOp .And (a::b::rest) pos) (Ta tA tB'):=by
 intro wh pins s σ H Q I h;refine isTrue_and (thn (ha pins s σ H _ I h) λc s1 ⟨H1,I1,q1⟩=>?_);cases c with
 |true=>exact hb wh pins s1 σ H1 Q I1 q1
 |false=>exact⟨H1,I1,q1⟩
def cM(ha:PT X a tA)(hb:PW X (.BoolOp .Or (b::rest) pos) tB'):PW X (.BoolOp .Or (a::b::rest) pos) (tOr tA tB'):=by
 intro wh pins s σ H Q I h;refine isTrue_or (thn (ha pins s σ H _ I h) λc s1 ⟨H1,I1,q1⟩=>?_);cases c with
 |true=>exact⟨H1,I1,q1⟩
 |false=>exact hb wh pins s1 σ H1 Q I1 q1
def aF(ha:PT X a tA):PT X (.UnaryOp .Not a pos) (TN tA):=by
 intro pins s σ H Q I h;exact isTrue_not (ha pins s σ H (λc H1=>Q (!c) H1) I h)
noncomputable def P5(ta tb:TE):TE:=λσ H Q=>ta σ H λx H1=>∃c,x=.bl c/\if c=true then tb σ H1 Q else Q (.bl false) H1
noncomputable def P0(ta:TE):TE:=λσ H Q=>ta σ H λx H1=>∃c,x=.bl c/\Q (.bl (!c)) H1
def aS{op}{t:TE}(h:PE X a t):PE X (.BoolOp op [a] pos) t:=λpins s σ H Q I hw=>BoolOp_one (h pins s σ H Q I hw)
def aZ(ha:PE X a ta)(hb:PE X (.BoolOp .And (b::rest) pos) tb):PE X (.BoolOp .And (a::b::rest) pos) (P5 ta tb):=by
 intro pins s σ H Q I h;refine BoolOp_and (thn (ha pins s σ H _ I h) λv s1 ⟨x,H1,I1,r1,q1⟩=>?_);obtain⟨c,rfl,q1⟩:=q1;cases r1;refine gU ?_;cases c with
 |true=>exact hb pins s1 σ H1 Q I1 q1
 |false=>exact⟨.bl false,H1,I1,rfl,q1⟩
def aT(ha:PE X a ta):PE X (.UnaryOp .Not a pos) (P0 ta):=by
 intro pins s σ H Q I h;refine UnaryOp_ (thn (ha pins s σ H _ I h) λv s1 ⟨x,H1,I1,r1,q1⟩=>?_);obtain⟨c,rfl,q1⟩:=q1;cases r1;exact not_of (gU ⟨.bl (!c),H1,I1,rfl,q1⟩)
noncomputable def tIf(t:TT)(ta tb:TE):TE:=λσ H Q=>t σ H λc H1=>if c=true then ta σ H1 Q else tb σ H1 Q
def Uf{c:Expr}(hc:PT X c tA)(ha:PE X a ta)(hb:PE X b tb):PE X (.IfExp c a b pos) (tIf tA ta tb):=by
 intro pins s σ H Q I h;refine wpAny_IfExp (thn (hc pins s σ H _ I h) λd s1 ⟨H1,I1,q1⟩=>?_);cases d with
 |true=>exact ha pins s1 σ H1 Q I1 q1
 |false=>exact hb pins s1 σ H1 Q I1 q1
end
def SqL(K:Frag)(H:Hp)(a:Addr)(xs:List V):Prop:=
 Rd H a 145 ∨
  ∃(o:Obj) (its:Array Value) (n:Nat),K.lookup a=some o/\o.cls=.type "list"/\o.dict=none/\o.data=.seq its n/\its.size<=sizeLine/\Vals xs its.toList
def SqT(K:Frag)(H:Hp)(a:Addr)(xs:List V):Prop:=
 Rd H a (.tup xs) ∨
  ∃(o:Obj) (its:Array Value) (n:Nat),K.lookup a=some o/\o.cls=.type "tuple"/\o.dict=none/\o.data=.seq its n/\its.size<=sizeLine/\Vals xs its.toList
noncomputable def de:Value->Option V
 |.none=>some .non
 |.bool b=>some (.bl b)
 |.int i _=>some 134
 |.str x _=>some (.str x)
 |.bytes b _=>some (.byt b)
 |.float b _=>some (.flt b)
 |.ref a=>some (.ref a)
 |.type n=>some (.ty n)
 |_=>none
def RelV.abs{x:V}{u:Value}(r:RelV x u):de u=some x:=by
 cases x with
 |non=>cases r;rfl
 |bl _=>cases r;rfl
 |int _=>obtain⟨t,rfl⟩:=r;rfl
 |str _=>obtain⟨t,rfl⟩:=r;rfl
 |byt _=>obtain⟨t,rfl⟩:=r;rfl
 |flt _=>obtain⟨t,rfl⟩:=r;rfl
 |ref _=>cases r;rfl
 |ty _=>cases r;rfl
theorem RelV.inj{x y:V}{u:Value}(r:RelV x u)(q:RelV y u):x=y:=86 (r.abs.symm.trans q.abs)
theorem Vals.inj:∀{xs ys:List V} {us:List Value},Vals xs us->Vals ys us->xs=ys
 |_,_,_,.nil,.nil=>rfl
 |_,_,_,.cons r t,.cons r' t'=>by rw[r.inj r',Vals.inj t t']
section
variable{X:Cx}{pins:List 92}{σ:St}{H:Hp}{s:Shared}{a:Addr}{xs ys:List V}
def SqL.of{K:Frag}(h:H a=some 145):SqL K H a xs:=.inl (.inl h)
def SqT.of{K:Frag}(h:H a=some (.tup xs)):SqT K H a xs:=.inl (.inl h)
def Inv.list(I:Inv X pins σ H s)(h:SqL X.K H a xs):∃its:List Value,Vals xs its/\PlainL s.heap a 87/\85<=sizeLine:=by
 rcases h with h|⟨o,its,n,hk,hc,hd,hs,hz,r⟩
 .obtain⟨z,its,n,r,e⟩:=h.ok I.hok;exact⟨its,r,⟨_,n,e,rfl,rfl,rfl⟩,z⟩
 .refine⟨its.toList,r,⟨o,n,I.kIn a o hk,hc,hd,by simpa using hs⟩,?_⟩;have e:=r.length;simp only[Array.length_toList]at e;omega
def Inv.tuple(I:Inv X pins σ H s)(h:SqT X.K H a xs):∃its:List Value,Vals xs its/\IsTup s.heap a 87/\85<=sizeLine:=by
 rcases h with h|⟨o,its,n,hk,hc,_,hs,hz,r⟩
 .obtain⟨z,its,r,p⟩:=h.ok I.hok;exact⟨its,r,p.t,z⟩
 .refine⟨its.toList,r,⟨o,I.kIn a o hk,hc,n,by simpa using hs⟩,?_⟩;have e:=r.length;simp only[Array.length_toList]at e;omega
def Inv.list_inj(I:Inv X pins σ H s)(h:SqL X.K H a xs)(h':SqL X.K H a ys):xs=ys:=by
 obtain⟨its,r,⟨o,n,e,_,_,d⟩,_⟩:=I.list h;obtain⟨its',r',⟨o',n',e',_,_,d'⟩,_⟩:=I.list h';rw[e]at e';cases e';rw[d]at d'
 injection d' with d1 _
 have:its=its':=by simpa using fS Array.toList d1
 subst this;exact r.inj r'
def Inv.tuple_inj(I:Inv X pins σ H s)(h:SqT X.K H a xs)(h':SqT X.K H a ys):xs=ys:=by
 obtain⟨its,r,⟨o,e,_,n,d⟩,_⟩:=I.tuple h;obtain⟨its',r',⟨o',e',_,n',d'⟩,_⟩:=I.tuple h';rw[e]at e';cases e';rw[d]at d'
 injection d' with d1 _
 have:its=its':=by simpa using fS Array.toList d1
 subst this;exact r.inj r'
end
noncomputable abbrev Cx.wish(X:Cx)(E:Value->Shared->Prop):Cx:={ X with xe:=E }
abbrev Cx.nox(X:Cx):Cx:=X.wish λ_ _=>False
theorem Cx.Ok.wish{X:Cx}(ok:X.Ok)(E:Value->Shared->Prop):(X.wish E).Ok:=
 ⟨ok.mod,ok.kind,ok.glob,ok.blt,ok.above,ok.inj,ok.has,ok.cab,ok.hd,ok.frames,ok.stk,ok.exf,ok.bs,ok.bsz,ok.noex,ok.exfs,ok.funs,ok.frf⟩
def Cx.Ok.unwish{X:Cx}{E:Value->Shared->Prop}(ok:(X.wish E).Ok):X.Ok:=
 ⟨ok.mod,ok.kind,ok.glob,ok.blt,ok.above,ok.inj,ok.has,ok.cab,ok.hd,ok.frames,ok.stk,ok.exf,ok.bs,ok.bsz,ok.noex,ok.exfs,ok.funs,ok.frf⟩
section
variable{X:Cx}{pins:List 92}{σ:St}{H:Hp}{s:Shared}{E:Value->Shared->Prop}
theorem Inv.wish(I:Inv X pins σ H s)(E:Value->Shared->Prop):Inv (X.wish E) pins σ H s:=⟨I.ok.wish E,I.os,I.bare,I.base,I.loc,I.cell,I.free,I.freeC,I.pin,I.hok,I.len⟩
theorem Inv.unwish(I:Inv (X.wish E) pins σ H s):Inv X pins σ H s:=⟨I.ok.unwish,I.os,I.bare,I.base,I.loc,I.cell,I.free,I.freeC,I.pin,I.hok,I.len⟩
theorem SP.unwish{D:Ends}{f:Flow}{s':Shared}(h:SP (X.wish E) pins D f s'):SP X pins D f s':=by
 cases f with
 |next=>obtain⟨σ',H',I,q⟩:=h;exact⟨σ',H',I.unwish,q⟩
 |brk=>obtain⟨σ',H',I,q⟩:=h;exact⟨σ',H',I.unwish,q⟩
 |cont=>obtain⟨σ',H',I,q⟩:=h;exact⟨σ',H',I.unwish,q⟩
 |ret u=>obtain⟨v,σ',H',I,r,q⟩:=h;exact⟨v,σ',H',I.unwish,r,q⟩
theorem PSs.nox{st:List Stmt}{t:TS}(h:PSs X.nox st t):PSs X st t:=λpins s σ H D I hw=>
 fw (h pins s σ H D (I.wish _) hw) (λ_ _ q=>q.unwish) λ_ _ z=>False.elim z
end
section
variable{X:Cx}{st:Stmt}{rest:List Stmt}{t u:TS}{e:Expr}{te:TE}{pos:Pos}
noncomputable def Lw:TS:=λD σ H=>D.nx σ H
noncomputable def TK(t u:TS):TS:=λD σ H=>t { D with nx:=u D } σ H
def Xf:PSs X [] Lw:=λ_ _ σ H _ I h=>wpAny_execs_nil ⟨σ,H,I,h⟩
def UY(h1:PS X st t)(h2:PSs X rest u):PSs X (st::rest) (TK t u):=by
 intro pins s σ H D I h;refine wpAny_execs_cons (thn (h1 pins s σ H { D with nx:=u D } I h) λf s1 q=>?_);cases f with
 |next=>
  obtain⟨σ',H',I',q⟩:=q;exact h2 pins s1 σ' H' D I' q
 |ret v=>exact q
 |brk=>exact q
 |cont=>exact q
def Xe(h1:PS X st t):PSs X [st] t:=by
 intro pins s σ H D I h;refine wpAny_execs_cons (thn (h1 pins s σ H D I h) λf s1 q=>?_);cases f with
 |next=>exact wpAny_execs_nil q
 |ret v=>exact q
 |brk=>exact q
 |cont=>exact q
def ps_pass:PS X (.Pass pos) Lw:=λ_ _ σ H _ I h=>wpAny_Pass ⟨σ,H,I,h⟩
def Inv.quiet{pins:List 92}{σ:St}{H:Hp}{s:Shared}(I:Inv X pins σ H s):interactive X.env=false:=by simp[interactive,I.ok.kind]
noncomputable def P2(te:TE):TS:=λD σ H=>te σ H λ_ H1=>D.nx σ H1
def Xh(he:PE X e te)(hs:swapsWith e none pos.line X.env=pure false:=by rfl):PS X (.Expr e pos) (P2 te):=by
 intro pins s σ H D I h;exact wpAny_Expr_any (thn (he pins s σ H _ I h) λv s1 ⟨x,H1,I1,r1,q1⟩=>⟨σ,H1,I1,q1⟩) I.quiet hs
noncomputable def TL(te:TE):TS:=λD σ H=>te σ H D.rt
def aH(he:PE X e te):PS X (.Return (some e) pos) (TL te):=by
 intro pins s σ H D I h;exact wpAny_Return_some (thn (he pins s σ H _ I h) λv s1 ⟨x,H1,I1,r1,q1⟩=>⟨x,σ,H1,I1,r1,q1⟩)
noncomputable def TV(c:TT)(t u:TS):TS:=λD σ H=>c σ H λb H1=>if b=true then t D σ H1 else u D σ H1
def cN{c:Expr}{a b:List Stmt}{tc:TT}(hc:PT X c tc)(ha:PSs X a t)(hb:PSs X b u):PS X (.If c a b pos) (TV tc t u):=by
 intro pins s σ H D I h;refine wpAny_If (thn (hc pins s σ H _ I h) λd s1 ⟨H1,I1,q1⟩=>?_);cases d with
 |true=>exact ha pins s1 σ H1 D I1 q1
 |false=>exact hb pins s1 σ H1 D I1 q1
noncomputable def MW:TS:=λ_ _ _=>False
def Ua:PS X st MW:=λ_ _ _ _ _ _ h=>h.elim
end
noncomputable abbrev TG:=V->St->Hp->(St->Hp->Prop)->Prop
noncomputable abbrev TGs:=List V->St->Hp->(St->Hp->Prop)->Prop
def PG(X:Cx)(target:Expr)(t:TG):Prop:=
 ∀(pins:List 92) (s:Shared) (σ:St) (H:Hp) (v:V) (u:Value) (Q:St->Hp->Prop),Inv X pins σ H s->RelV v u->t v σ H Q ->
   wpAny 68 X.A (assign target X.env u) (λ_ s'=>∃σ' H',Inv X pins σ' H' s'/\Q σ' H') X.xe s
def PGs(X:Cx)(ts:List Expr)(t:TGs):Prop:=
 ∀(pins:List 92) (s:Shared) (σ:St) (H:Hp) (vs:List V) (us:List Value) (Q:St->Hp->Prop),Inv X pins σ H s->Vals vs us->t vs σ H Q ->
   wpAny 68 X.A (assignInOrder ((assignEach ts X.env).map (·.2)) us) (λ_ s'=>∃σ' H',Inv X pins σ' H' s'/\Q σ' H') X.xe s
noncomputable abbrev Nl:=V->V->V->Hp->(Hp->Prop)->Prop
def VS(X:Cx)(t:Nl):Prop:=
 ∀(pins:List 92) (s:Shared) (σ:St) (H:Hp) (o i v:V) (ov iv u:Value) (Q:Hp->Prop),Inv X pins σ H s->RelV o ov->RelV i iv->RelV v u->t o i v H Q ->
   wpAny 68 X.A (setItem ov iv u) (λ_ s'=>∃H',Inv X pins σ H' s'/\Q H') X.xe s
noncomputable abbrev TIp:=V->V->Hp->VK->Prop
def PIp(X:Cx)(op:Operator)(t:TIp):Prop:=
 ∀(pins:List 92) (s:Shared) (σ:St) (H:Hp) (x y:V) (v u:Value) (Q:VK),Inv X pins σ H s->RelV x v->RelV y u->t x y H Q ->
   wpAny 68 X.A (inplaceOp op v u) (EP X pins σ Q) X.xe s
section
variable{X:Cx}{pos:Pos}
noncomputable def Dq(i:Nat):TG:=λv σ H Q=>Q (σ.set i (some v)) H
def Xr{i:Nat}{x:Str}(hN:X.N.Nodup)(hi:X.N[i]?=some x)(hx:Loc X.env.scope x)(hf:X.fn x=true∨X.env.scope.names.lookup x=some .local:=by first|exact .inl rfl|exact .inr rfl|assumption):PG X (.Name x pos) (Dq i):=by
 intro pins s σ H v u Q I r h;exact wpAny_assign_Name (IN I hN hi hx r (λs' I'=>⟨_,H,I',h⟩) hf)
noncomputable def VA:TGs:=λvs σ H Q=>vs=[]/\Q σ H
noncomputable def Q5(t:TG)(u:TGs):TGs:=λvs σ H Q=>∃v r,vs=v::r/\t v σ H λσ' H'=>u r σ' H' Q
def Xp:PGs X [] VA:=by
 intro pins s σ H vs us Q I r h;obtain⟨e,h⟩:=h;subst e;cases r;exact assignInOrder_nil ⟨σ,H,I,h⟩
def Ub{e:Expr}{es:List Expr}{t:TG}{u:TGs}(h1:PG X e t)(h2:PGs X es u)
 (hs:(assignEach (e::es) X.env).map (·.2)=assign e X.env::(assignEach es X.env).map (·.2):=by rfl):PGs X (e::es) (Q5 t u):=by
 intro pins s σ H vs us Q I r h;obtain⟨v,vr,e1,h⟩:=h;subst e1;cases r with
 |cons r rr=>
  rw[hs];refine assignInOrder_cons (thn (h1 pins s σ H _ _ _ I r h) λ_ s1 ⟨σ1,H1,I1,q1⟩=>?_);exact h2 pins s1 σ1 H1 _ _ Q I1 rr q1
noncomputable def Q3(K:Frag)(n:Nat)(t:TGs):TG:=λv σ H Q=>∃a xs,v=.ref a/\SqT K H a xs/\85=n/\t xs σ H Q
def aM{es:List Expr}{k:Nat}{t:TGs}{n:Nat}(hc:X.calm=true)(h:PGs X es t)
 (hn:(assignEach es X.env).length=n:=by rfl) (hst:(assignEach es X.env).findIdx? (·.1)=none:=by rfl):PG X (.Tuple es k pos) (Q3 X.K n t):=by
 intro pins s σ H v u Q I r hw;obtain⟨a,xs,e1,hq,hl,hw⟩:=hw;subst e1;cases r;obtain⟨its,rv,ht,hz⟩:=I.tuple hq;refine assign_Tuple_tuple (I.ok.hd hc) ht (by simp[hn,<- hl,rv.length]) hst λh' hx=>?_;have I1:Inv X pins σ H { s with heap:=h' }:=I.kept (t':=s.toks) λb o e=>hx b o (fz (74 e)) e;exact h pins _ σ H xs _ Q I1 (by simpa using rv) hw
noncomputable def V9(to ti:TE)(t:Nl):TG:=λv σ H Q=>to σ H λo H1=>ti σ H1 λi H2=>t o i v H2 λH3=>Q σ H3
def aN{o i:Expr}{to ti:TE}{t:Nl}(ho:PE X o to)(hi:PE X i ti)(hs:VS X t)
 (ha:∀v,assign (.Subscript o i pos) X.env v=(do
  let ov <- holding [v] (eval o X.env)
  let iv <- holding [v,ov] (eval i X.env)
  standAt pos
  holding [v,ov,iv] (setItem ov iv v)
  release [v,ov,iv] []):=by intro _;rfl):PG X (.Subscript o i pos) (V9 to ti t):=by
 intro pins s σ H v u Q I r h;rw[ha];refine fc (fX (thn (ho pins s σ H _ I h) λov s1 ⟨x,H1,I1,r1,q1⟩=>?_));refine fc (fX (thn (hi pins s1 σ H1 _ I1 q1) λiv s2 ⟨y,H2,I2,r2,q2⟩=>?_));refine fc (gM (fc (fX (thn (hs pins s2 σ H2 x y v ov iv u _ I2 r1 r2 r q2) λ_ s3 ⟨H3,I3,q3⟩=>?_))));exact wpAny_release ⟨σ,H3,I3,q3⟩
noncomputable def Ec(te:TE)(g:TG):TS:=λD σ H=>te σ H λx H1=>g x σ H1 D.nx
def Rm{tg e:Expr}{te:TE}{g:TG}(he:PE X e te)(hg:PG X tg g)(hs:swapsWithSole [tg] e pos.line X.env=pure false:=by rfl)(hw:swappedStores [tg] e X.env=pure none:=by rfl)
 (h1:(assignEach [tg] X.env).map (·.2)=[assign tg X.env]:=by rfl):PS X (.Assign [tg] e pos) (Ec te g):=by
 intro pins s σ H D I h;refine wpAny_Assign_stores (thn (he pins s σ H _ I h) λv s1 ⟨x,H1,I1,r1,q1⟩=>?_) hs hw;rw[h1];exact thn (hg pins s1 σ H1 x v _ I1 r1 q1) λ_ s2 q=>q
def aG{i:Nat}{x:Str}{e:Expr}{te:TE}{pos':Pos}(hN:X.N.Nodup)(hi:X.N[i]?=some x)(hx:Loc X.env.scope x)(he:PE X e te)(hs:swapsWith e (some (.Name x pos')) pos.line X.env=pure false:=by rfl)(hf:X.fn x=true∨X.env.scope.names.lookup x=some .local:=by first|exact .inl rfl|exact .inr rfl|assumption):
 PS X (.Assign [.Name x pos'] e pos) (Ec te (Dq i)):=by
 intro pins s σ H D I h;refine wpAny_Assign_Name (thn (he pins s σ H _ I h) λv s1 ⟨y,H1,I1,r1,q1⟩=>?_) hs;exact IN I1 hN hi hx r1 (λs2 I2=>⟨_,H1,I2,q1⟩) hf
noncomputable def TZ(i:Nat)(te:TE)(ti:TIp):TS:=λD σ H=>∃x,σ[i]?=some (some x)/\te σ H λy H1=>ti x y H1 λz H2=>D.nx (σ.set i (some z)) H2
def aJ{i:Nat}{x:Str}{e:Expr}{te:TE}{op:Operator}{ti:TIp}{pos':Pos}(hN:X.N.Nodup)(hi:X.N[i]?=some x)(hx:Loc X.env.scope x)(he:PE X e te)(ho:PIp X op ti)(hf:X.fn x=true∨X.env.scope.names.lookup x=some .local:=by first|exact .inl rfl|exact .inr rfl|assumption):
 PS X (.AugAssign (.Name x pos') op e pos) (TZ i te ti):=by
 intro pins s σ H D I h;obtain⟨v,e1,h⟩:=h;obtain⟨m,hn,hl⟩:=I.loc;have vis:Vis X.env.scope x:=by rcases hx with k|k;exact .inl k;exact .inr (.inl k)
 obtain⟨u,r,l⟩:=hl i x v hi e1 vis;refine wpAny_AugAssign_Name ?_;have go:wpAny 68 X.A (eval e X.env) (λw s₂=>wpAny 68 X.A (inplaceOp op u w) (λr s₃=>wpAny 68 X.A (storeName X.env x r) (λ_=>SP X pins D .next) X.xe s₃) X.xe s₂) X.xe s:=by
  refine thn (he pins s σ H _ I h) λw s1 ⟨y,H1,I1,r1,q1⟩=>?_;refine thn (ho pins s1 σ H1 v y u w _ I1 r r1 q1) λz s2 ⟨zv,H2,I2,r2,q2⟩=>?_;exact IN I2 hN hi hx r2 (λs3 I3=>⟨_,H2,I3,q2⟩) hf
 rcases l with⟨hk,hm⟩|⟨hk,c,hc,hcell⟩
 .exact wpAny_loadName_local I.ok.kind hk hn hm go
 .rcases hk with hk|hk
  .exact wpAny_loadName_cell I.ok.kind hk hc hcell go
  .rcases hx with k|k
   .have:X.env.scope.names.lookup x=some .free:=hk;rw[k]at this;cases this
   .have:X.env.scope.names.lookup x=some .free:=hk;rw[k]at this;cases this
noncomputable def P4(to ti te:TE)(tget:V->V->Hp->VK->Prop)(tip:TIp)(tset:Nl):TS:=λD σ H=>to σ H λo H1=>ti σ H1 λi H2=>tget o i H2 λx H3=>te σ H3 λy H4=>tip x y H4 λz H5=>tset o i z H5 λH6=>D.nx σ H6
def bo(X:Cx)(t:V->V->Hp->VK->Prop):Prop:=
 ∀(pins:List 92) (s:Shared) (σ:St) (H:Hp) (o i:V) (ov iv:Value) (Q:VK),Inv X pins σ H s->RelV o ov->RelV i iv->t o i H Q ->
   wpAny 68 X.A (getItem ov iv) (EP X pins σ Q) X.xe s
def Xj{o i e:Expr}{to ti te:TE}{tget:V->V->Hp->VK->Prop}{tip:TIp}{tset:Nl}{op:Operator}{tpos:Pos}(ho:PE X o to)(hi:PE X i ti)(hg:bo X tget)(he:PE X e te)(hp:PIp X op tip)(hs:VS X tset)
 (ha:∀ov iv new,augStore i ov iv new=(do holding [new,ov,iv] (setItem ov iv new);release [new,ov,iv] [];pure .next):=by intros;rfl):PS X (.AugAssign (.Subscript o i tpos) op e pos) (P4 to ti te tget tip tset):=by
 intro pins s σ H D I h;refine wpAny_AugAssign_SubscriptAny (thn (ho pins s σ H _ I h) λov s1 ⟨x1,H1,I1,r1,q1⟩=>?_) ha;refine thn (hi pins s1 σ H1 _ I1 q1) λiv s2 ⟨x2,H2,I2,r2,q2⟩=>?_;refine thn (hg pins s2 σ H2 x1 x2 ov iv _ I2 r1 r2 q2) λold s3 ⟨x3,H3,I3,r3,q3⟩=>?_;refine thn (he pins s3 σ H3 _ I3 q3) λv s4 ⟨x4,H4,I4,r4,q4⟩=>?_;refine thn (hp pins s4 σ H4 x3 x4 old v _ I4 r3 r4 q4) λnew s5 ⟨x5,H5,I5,r5,q5⟩=>?_;exact thn (hs pins s5 σ H5 x1 x2 x5 ov iv new _ I5 r1 r2 r5 q5) λ_ s6 ⟨H6,I6,q6⟩=>⟨σ,H6,I6,q6⟩
noncomputable def ipI(f:Int->Int->Int):TIp:=λx y H Q=>∃i j,x=.int i/\y=.int j/\Q (.int (f i j)) H
def bH:PIp X .Sub (ipI λi j=>i-j):=by
 intro pins s σ H x y v u Q I r1 r2 h;obtain⟨i,j,e1,e2,q⟩:=h;subst e1;subst e2;obtain⟨t,rfl⟩:=r1;obtain⟨t',rfl⟩:=r2;exact isub_int ⟨.int _,H,I.tok _,⟨_,rfl⟩,q⟩
end
section
variable{X:Cx}{pos:Pos}
noncomputable def MV(c:TT)(tb:TS):TS:=λD σ H=>∃W:Nat->St->Hp->Prop,(∃m,W m σ H)/\∀m σ H,W m σ H ->
 c σ H λb H1=>if b=true then ∃N:St->Hp->Prop,(∀σ' H',N σ' H'->∃m',m'<m/\W m' σ' H')/\tb { D with nx:=N,ct:=N,bk:=D.nx } σ H1 else D.nx σ H1
def UZ{c:Expr}{body:List Stmt}{tc:TT}{tb:TS}(hp:PassesOwn 68 X.A X.env X.xe)(hc:PT X c tc)(hb:PSs X body tb):PS X (.While c body [] pos) (MV tc tb):=by
 intro pins s σ H D I h;obtain⟨W,⟨m0,w0⟩,turn⟩:=h;refine wpAny_While (codeAny_whileLoop (λn s'=>∃σ' H',Inv X pins σ' H' s'/\W n σ' H') ?_ m0 ⟨σ,H,I,w0⟩);rintro n s1 ⟨σ1,H1,I1,w1⟩;refine ia hp (thn (hc pins s1 σ1 H1 _ I1 (turn n σ1 H1 w1)) λb s2 ⟨H2,I2,q2⟩=>?_);cases b with
 |true=>
  obtain⟨N,hN,q2⟩:=q2;rw[fb rfl];refine ia hp (thn (hb pins s2 σ1 H2 _ I2 q2) λf s3 q3=>?_);cases f with
  |next=>
   obtain⟨σ3,H3,I3,n3⟩:=q3;obtain⟨m',hm,w3⟩:=hN σ3 H3 n3;exact⟨m',hm,σ3,H3,I3,w3⟩
  |cont=>
   obtain⟨σ3,H3,I3,n3⟩:=q3;obtain⟨m',hm,w3⟩:=hN σ3 H3 n3;exact⟨m',hm,σ3,H3,I3,w3⟩
  |brk=>exact q3
  |ret v=>exact q3
 |false=>
  rw[fe Bool.false_ne_true];exact wpAny_execs_nil ⟨σ1,H2,I2,q2⟩
end
structure It where
 go:Nat->Hp->Prop
 yld:Nat->Hp->V->Hp->Prop
 stop:Nat->Hp->Prop
def FpOk(X:Cx)(pins:List 92)(H:Hp)(b:Addr):Prop:=
 H b=none/\b≠143/\b∉X.fs/\(b∈X.ex∨128<=b)/\(∀x c,X.env.cells.lookup x=some c->c≠b)/\∀p∈X.pn++pins,p.1≠b
def Inv.fpOk{X:Cx}{pins:List 92}{σ:St}{H H':Hp}{s:Shared}{b:Addr}(I:Inv X pins σ H s)(hb:58<=b)(hn:H' b=none):FpOk X pins H' b:=by
 refine⟨hn,ne_of_gt (fW I.lt hb),I.nofs hb,.inr (fu I.sz hb),λx c e z=>?_,λp hp z=>?_⟩
 .obtain⟨v,q⟩:=I.cell x c e;exact absurd (fW q.lt (by rw[z];exact hb)) (gy _)
 .exact absurd (fW (74 (I.pin p hp).1) (by rw[z];exact hb)) (gy _)
structure Turn(P:Program)(w:World)(K:Frag)(tg:Expr)(J:It)(fp:List Addr)(it:Addr)(tn:Nat->Heap->Prop):Prop where
 mem:it∈fp
 obj:∀i h,tn i h->∀b∈fp,∃o,h.get? b=some o/\∀v,o.data≠.cell v
 keep:∀i h h',tn i h->(∀b∈fp,∀o,h.get? b=some o->h'.get? b=some o)->tn i h'
 item:∀(X:Cx),X.prog=P->X.w=w->X.K=K->X.calm=true->∀(i:Nat) (pins:List 92) (s:Shared) (σ:St) (H:Hp) (E:Value->Shared->Prop),Inv X pins σ H s->(∀b∈fp,FpOk X pins H b)->tn i s.heap->J.go i H ->
  wpAny (model P w) X.A (pyNext (.ref it)) (λr s1=>∃u,r=some u /\
   wpAny (model P w) X.A (letOwnedTupleGo tg (.ref it) u) (λ_ s2=>∃x H',Inv X pins σ H' s2/\RelV x u/\J.yld i H x H'/\tn (i+1) s2.heap/\∀b∈fp,H' b=none) E s1) E s
 done:∀(X:Cx),X.prog=P->X.w=w->X.K=K->X.calm=true->∀(i:Nat) (pins:List 92) (s:Shared) (σ:St) (H:Hp) (E:Value->Shared->Prop),Inv X pins σ H s->(∀b∈fp,FpOk X pins H b)->tn i s.heap->J.stop i H ->
  wpAny (model P w) X.A (pyNext (.ref it)) (λr s1=>r=none/\Inv X pins σ H s1) E s
 self:∀(A:Around) (i:Nat) (s:Shared) (Q:Value->Shared->Prop) (E:Value->Shared->Prop),tn i s.heap->Q (.ref it) s->wpAny (model P w) A (pyIter (.ref it)) Q E s
noncomputable abbrev TI:=St->Hp->(It->Hp->Prop)->Prop
def PIE(X:Cx)(pins:List 92)(σ:St)(tg:Expr)(R:It->Hp->Prop)(itv:Value)(s2:Shared):Prop:=
 ∃(it:Addr) (fp:List Addr) (tn:Nat->Heap->Prop) (J:It) (H':Hp),itv=.ref it/\Inv X pins σ H' s2/\Turn X.prog X.w X.K tg J fp it tn/\tn 0 s2.heap/\(∀b∈fp,FpOk X pins H' b)/\R J H'
def PI(X:Cx)(tg iter:Expr)(wi:TI):Prop:=
 ∀(pins:List 92) (s:Shared) (σ:St) (H:Hp) (R:It->Hp->Prop),Inv X pins σ H s->wi σ H R ->
   wpAny 68 X.A (eval iter X.env) (λv s1=>wpAny 68 X.A (pyIter v) (PIE X pins σ tg R) X.xe s1) X.xe s
def Q2{M:Model}{A:Around}{E:Value->Shared->Prop}{s:Shared}{tg:Expr}{it:Addr}{u:Value}{o:Obj}{n:String}{vs:Array Value}{Q:Unit->Shared->Prop}(ho:s.heap.get? it=some o)(hc:o.cls=.type n)(hd:o.data=.fields vs)
 (hn:["enumerate","zip","dict_itemiterator","dict_reverseitemiterator","odict_iterator","itertools.zip_longest","itertools.pairwise"].contains n=false) (hQ:Q () s):wpAny M A (letOwnedTupleGo tg (.ref it) u) Q E s:=by
 unfold letOwnedTupleGo;cases tg<;>first
  |exact fh hQ
  | (cases u<;>first
   |exact fh hQ
   | (refine fc (wpAny_load ho ?_)
      rw[hc,hd];show wpAny M A (if(["enumerate","zip","dict_itemiterator","dict_reverseitemiterator","odict_iterator","itertools.zip_longest","itertools.pairwise"].contains n&&vs[0]?==some (rawInt _))=true then _ else _) Q E s;rw[fe (by intro h;rw[hn,Bool.false_and]at h;cases h)];exact fh hQ))
noncomputable def Itl(K:Frag)(a:Addr):It:=
 ⟨λi H=>∃xs x,SqL K H a xs/\xs[i]?=some x,λi H x H'=>H'=H/\∀xs,SqL K H a xs->xs[i]?=some x,λi H=>∃xs,SqL K H a xs/\85<=i⟩
noncomputable def Itt(K:Frag)(a:Addr):It:=
 ⟨λi H=>∃xs x,SqT K H a xs/\xs[i]?=some x,λi H x H'=>H'=H/\∀xs,SqT K H a xs->xs[i]?=some x,λi H=>∃xs,SqT K H a xs/\85<=i⟩
noncomputable def Itr(lo:Int)(n:Nat):It:=⟨λi _=>i<n,λi H x H'=>H'=H/\x=.int (lo+i),λi _=>n<=i⟩
def Ql{P:Program}{w:World}{K:Frag}{tg:Expr}(a it:Addr):Turn P w K tg (Itl K a) [it] it (λi h=>h.IsListIter it a i) where
 mem:=by simp
 obj:=λi h st b hb=>by
  have e:b=it:=by simpa using hb
  subst e;obtain⟨o,e,c,d⟩:=st;exact⟨o,e,λv z=>by rw[d]at z;cases z⟩
 keep:=λi h h' st k=>st.at λo e=>k it 70 o e
 item:=by
  intro X hP hw hK hc i pins s σ H E I hf st hg;subst hP hw hK;obtain⟨xs,x,hq,hx⟩:=hg;obtain⟨its,rv,p,hz⟩:=I.list hq;obtain⟨u,hu,ru⟩:=rv.get hx;obtain⟨f0,f1,f2,f3,f4,f5⟩:=hf it 70;refine iq st p.isList (x:=u) (by simpa using hu) λh' st' sb=>?_;have I1:Inv X pins σ H { s with heap:=h' }:=I.turned (t':=s.toks) (λb o hb e=>(sb.2 b hb).trans e) f0 f1 f3 f4 f5;obtain⟨o,e,c,d⟩:=id st';exact⟨u,rfl,Q2 (s:={ s with heap:=h' }) e c d 90 ⟨x,H,I1,ru,⟨rfl,λys hy=>by rw[I.list_inj hy hq];exact hx⟩,st',λb hb=>(hf b hb).1⟩⟩
 done:=by
  intro X hP hw hK hc i pins s σ H E I hf st hg;subst hP hw hK;obtain⟨xs,hq,hx⟩:=hg;obtain⟨its,rv,p,hz⟩:=I.list hq;obtain⟨f0,f1,f2,f3,f4,f5⟩:=hf it 70;have hl:=rv.length;exact wpAny_pyNext_list_end (I.ok.hd hc) st p.isList 82 λh' eb=>⟨rfl,I.turned (t':=s.toks) (λb o hb e=>eb b o hb e) f0 f1 f3 f4 f5⟩
 self:=λ_ _ _ _ _ st h=>wpAny_pyIter_listiter st h
def Ow{P:Program}{w:World}{K:Frag}{tg:Expr}(a it:Addr):Turn P w K tg (Itt K a) [it] it (λi h=>h.IsTupleIter it a i) where
 mem:=by simp
 obj:=λi h st b hb=>by
  have e:b=it:=by simpa using hb
  subst e;obtain⟨o,e,c,d⟩:=st;exact⟨o,e,λv z=>by rw[d]at z;cases z⟩
 keep:=λi h h' st k=>st.at λo e=>k it 70 o e
 item:=by
  intro X hP hw hK hc i pins s σ H E I hf st hg;subst hP hw hK;obtain⟨xs,x,hq,hx⟩:=hg;obtain⟨its,rv,p,hz⟩:=I.tuple hq;obtain⟨u,hu,ru⟩:=rv.get hx;obtain⟨f0,f1,f2,f3,f4,f5⟩:=hf it 70;refine iC st (show s.heap.IsTuple a 87 from p) (x:=u) (by simpa using hu) λh' st' sb=>?_;have I1:Inv X pins σ H { s with heap:=h' }:=I.turned (t':=s.toks) (λb o hb e=>(sb.2 b hb).trans e) f0 f1 f3 f4 f5;obtain⟨o,e,c,d⟩:=id st';exact⟨u,rfl,Q2 (s:={ s with heap:=h' }) e c d 90 ⟨x,H,I1,ru,⟨rfl,λys hy=>by rw[I.tuple_inj hy hq];exact hx⟩,st',λb hb=>(hf b hb).1⟩⟩
 done:=by
  intro X hP hw hK hc i pins s σ H E I hf st hg;subst hP hw hK;obtain⟨xs,hq,hx⟩:=hg;obtain⟨its,rv,p,hz⟩:=I.tuple hq;obtain⟨f0,f1,f2,f3,f4,f5⟩:=hf it 70;have hl:=rv.length;exact wpAny_pyNext_tuple_end (I.ok.hd hc) st (show s.heap.IsTuple a 87 from p) 82 λh' eb=>⟨rfl,I.turned (t':=s.toks) (λb o hb e=>eb b o hb e) f0 f1 f3 f4 f5⟩
 self:=λ_ _ _ _ _ st h=>wpAny_pyIter_tupleiter st h
def Ox{P:Program}{w:World}{K:Frag}{tg:Expr}(it:Addr)(lo:Int)(n:Nat):Turn P w K tg (Itr lo n) [it] it (λi h=>IsRangeIter h it (lo+(i:Nat)*1) ((n:Int)-(i:Nat)) 1) where
 mem:=by simp
 obj:=λi h st b hb=>by
  have e:b=it:=by simpa using hb
  subst e;exact⟨_,st,λv z=>by
   have z':Data.fields _=Data.cell v:=z;cases z'⟩
 keep:=λi h h' st k=>k it 70 _ st
 item:=by
  intro X hP hw hK hc i pins s σ H E I hf st hg;subst hP hw hK;obtain⟨f0,f1,f2,f3,f4,f5⟩:=hf it 70;have W:=Walks.range (prog:=X.prog) (w:=X.w) (I.ok.hd hc) it lo 1 n;refine W.item i s _ _ hg st λv h' tk hv st' kk=>?_;obtain⟨t,rfl⟩:=hv;have I1:Inv X pins σ H { s with heap:=h',toks:=tk }:=I.turned (λb o hb e=>kk b o (by simpa using hb) e) f0 f1 f3 f4 f5;refine⟨_,rfl,Q2 (s:={ s with heap:=h',toks:=tk }) (n:="range_iterator") st' rfl rfl 90 ⟨.int (lo+i),H,I1,⟨t,?_⟩,⟨rfl,rfl⟩,st',λb hb=>(hf b hb).1⟩⟩;rw[Int.mul_one]
 done:=by
  intro X hP hw hK hc i pins s σ H E I hf st hg;subst hP hw hK;obtain⟨f0,f1,f2,f3,f4,f5⟩:=hf it 70;exact wpAny_pyNext_range_end (I.ok.hd hc) st (by have:n<=i:=hg;omega) λh' eb=>⟨rfl,I.turned (t':=s.toks) (λb o hb e=>eb b o hb e) f0 f1 f3 f4 f5⟩
 self:=λ_ _ _ _ _ st h=>wpAny_pyIter_rangeiter st h
section
variable{X:Cx}{tg:Expr}
noncomputable def GF(K:Frag)(tl:TE):TI:=λσ H R=>tl σ H λx H1=>∃a,x=.ref a/\(∃xs,SqL K H1 a xs)/\R (Itl K a) H1
noncomputable def NH(K:Frag)(tl:TE):TI:=λσ H R=>tl σ H λx H1=>∃a,x=.ref a/\(∃xs,SqT K H1 a xs)/\R (Itt K a) H1
def Xo{l:Expr}{tl:TE}(hl:PE X l tl):PI X tg l (GF X.K tl):=by
 intro pins s σ H R I h;refine thn (hl pins s σ H _ I h) λv s1 ⟨x,H1,I1,r1,q1⟩=>?_;obtain⟨a,e,⟨xs,hq⟩,q⟩:=q1;subst e;cases r1;obtain⟨its,rv,p,hz⟩:=I1.list hq;refine ir p.isList ?_;refine⟨s1.heap.objs.size,[s1.heap.objs.size],_,_,H1,rfl,I1.kept (t':=s1.toks) λb o e=>66 _ e,Ql a _,⟨_,78 _ rfl,rfl,rfl⟩,λb hb=>?_,q⟩;have e:b=s1.heap.objs.size:=by simpa using hb
 subst e;exact I1.fpOk (fg _) (I1.hok.fresh (fg _))
def aL{l:Expr}{tl:TE}(hl:PE X l tl):PI X tg l (NH X.K tl):=by
 intro pins s σ H R I h;refine thn (hl pins s σ H _ I h) λv s1 ⟨x,H1,I1,r1,q1⟩=>?_;obtain⟨a,e,⟨xs,hq⟩,q⟩:=q1;subst e;cases r1;obtain⟨its,rv,p,hz⟩:=I1.tuple hq;refine wpAny_pyIter_tuple (show s1.heap.IsTuple a 87 from p) ?_;refine⟨s1.heap.objs.size,[s1.heap.objs.size],_,_,H1,rfl,I1.kept (t':=s1.toks) λb o e=>66 _ e,Ow a _,⟨_,78 _ rfl,rfl,rfl⟩,λb hb=>?_,q⟩;have e:b=s1.heap.objs.size:=by simpa using hb
 subst e;exact I1.fpOk (fg _) (I1.hok.fresh (fg _))
def U8{pins:List 92}{σ:St}{H:Hp}{s:Shared}{R:It->Hp->Prop}{E:Value->Shared->Prop}{lo hi:Int}{t u v:Tok}{tk:Nat}(I:Inv X pins σ H s)(h1:-(2^62)<=lo)(h2:lo<2^62)(h3:-(2^62)<=hi)(h4:hi<2^62)
 (q:R (Itr lo (hi-lo).toNat) H):wpAny 68 X.A (pyIter (.ref 58)) (PIE X pins σ tg R) E { s with heap:=s.heap.push { cls:=.type "range",data:=.fields #[.int lo t,.int hi u,.int 1 v] },toks:=tk }:=by
 refine wpAny_pyIter_range (IsRange.new ..) (small_one h1 h2 h3 h4) ?_;have I1:Inv X pins σ H { s with heap:=s.heap.push { cls:=.type "range",data:=.fields #[.int lo t,.int hi u,.int 1 v] },toks:=tk }:=I.kept λb o e=>66 _ e;refine⟨(s.heap.push { cls:=.type "range",data:=.fields #[.int lo t,.int hi u,.int 1 v] }).objs.size,[(s.heap.push { cls:=.type "range",data:=.fields #[.int lo t,.int hi u,.int 1 v] }).objs.size],_,_,H,rfl,
  I1.kept (t':=tk) λb o e=>66 _ e,Ox _ lo (hi-lo).toNat,?_,λb hb=>?_,q⟩
 .have e1:lo+((0:Nat):Int)*1=lo:=by simp
  have e2:(((hi-lo).toNat:Nat):Int)-((0:Nat):Int)=Builtin.Range.rangeSize lo hi 1:=by rw[rangeSize_one];split<;>omega
  show IsRangeIter _ _ (lo+((0:Nat):Int)*1) ((((hi-lo).toNat:Nat):Int)-((0:Nat):Int)) 1;rw[e1,e2];exact 78 _ rfl
 .have e:b=(s.heap.push { cls:=.type "range",data:=.fields #[.int lo t,.int hi u,.int 1 v] }).objs.size:=by simpa using hb
  subst e;exact I1.fpOk (fg _) (I1.hok.fresh (fg _))
noncomputable def Pz(ta:TA):TI:=λσ H R=>ta σ H λvs H1=>∃j:Int,vs=[.int j]/\-(2^62)<=j/\j<2^62/\R (Itr 0 j.toNat) H1
def Rp{a:Expr}{ta:TA}{p pos:Pos}(hg:Gl X "range")(hm:X.mg "range"=none)(ha:PA X [a] ta)(hs:starEach [a] X.env=[(false,eval a X.env)]:=by rfl):PI X tg (.Call (.Name "range" p) [a] [] pos) (Pz ta):=by
 intro pins s σ H R I h;refine Call_ (DO I hg hm boot_range (PyProof.Rows.callWith_type1 (thn (ha pos pins s σ H _ I h) λus s1 ⟨vs,H1,I1,r1,q1⟩=>?_) hs rfl));obtain⟨j,e,q1,q2,q⟩:=q1;subst e;cases r1 with
 |cons r rr=>
  cases rr;obtain⟨t,rfl⟩:=r;exact call_range_1 (U8 I1 59 59 q1 q2 (by simpa using q))
noncomputable def TW(wi:TI)(g:TG)(tb:TS):TS:=λD σ H=>wi σ H λJ H1=>∃W:Nat->Nat->St->Hp->Prop,(∃m,W 0 m σ H1)/\∀i m σ H,W i m σ H ->
 (J.stop i H/\D.nx σ H)∨(J.go i H/\∃N:St->Hp->Prop,(∀σ' H',N σ' H'->∃m',m'<m/\W (i+1) m' σ' H')/\∀x H',J.yld i H x H'->g x σ H' λσ2 H2=>tb { D with nx:=N,ct:=N,bk:=D.nx } σ2 H2)
noncomputable def Eh(fp:List Addr)(h:Heap):List 92:=fp.filterMap λb=>(h.get? b).map λo=>(b,o)
def Bt{fp:List Addr}{h:Heap}{b:Addr}{o:Obj}(hb:b∈fp)(e:h.get? b=some o):(b,o)∈Eh fp h:=List.mem_filterMap.mpr ⟨b,hb,by rw[e];rfl⟩
def S0{fp:List Addr}{h:Heap}{p:Addr×Obj}(hp:p∈Eh fp h):p.1∈fp/\h.get? p.1=some p.2:=by
 obtain⟨b,hb,e⟩:=List.mem_filterMap.mp hp;cases q:h.get? b with
 |none=>rw[q]at e;cases e
 |some o=>
  rw[q]at e;have e':(b,o)=p:=86 e;subst e';exact⟨hb,q⟩
def Inv.pinned{pins:List 92}{σ:St}{H:Hp}{s:Shared}{fp:List Addr}(I:Inv X pins σ H s)(hf:∀b∈fp,FpOk X pins H b)(ho:∀b∈fp,∃o,s.heap.get? b=some o/\∀v,o.data≠.cell v):Inv X (pins++Eh fp s.heap) σ H s:=
 I.pins_of λp hp=>(mem_append.mp hp).elim (λz=>I.pin p (fm _ z)) λz=>by
  obtain⟨hb,e⟩:=S0 z;obtain⟨f0,f1,f2,_⟩:=hf p.1 hb;obtain⟨o,e',d⟩:=ho p.1 hb;rw[e]at e';cases e';exact⟨e,f0,f1,f2,d⟩
def Inv.unpinned{pins pl:List 92}{σ:St}{H:Hp}{s:Shared}(I:Inv X (pins++pl) σ H s):Inv X pins σ H s:=I.pins_of λp hp=>I.pin p (fm _ (gw _ hp))
def aI{iter:Expr}{body:List Stmt}{wi:TI}{g:TG}{tb:TS}{pos:Pos}(hp:PassesOwn 68 X.A X.env X.xe)(hc:X.calm=true)(hi:PI X tg iter wi)(hg:PG X tg g)(hb:PSs X body tb)
 (hs:∀x,foldedSetIterable iter X.env x=pure x:=by intro _;rfl):PS X (.For tg iter body [] pos) (TW wi g tb):=by
 intro pins s σ H D I h;refine wpAny_For (thn (hi pins s σ H _ I h) λv s1 h1=>thn h1 λitv s2 h2=>?_) hs;obtain⟨it,fp,tn,J,H2,e,I2,T,st2,f2,W,⟨m0,w0⟩,turn⟩:=h2;subst e
 -- what stays true of the iterator's objects through the loop
 have stat:∀{H':Hp},(∀b∈fp,H' b=none)->∀b∈fp,FpOk X pins H' b:=λhn b hb=>⟨hn b hb,(f2 b hb).2⟩
 refine codeAny_forLoop_any (λn s'=>∃i σ' H',Inv X pins σ' H' s'/\tn i s'.heap/\(∀b∈fp,H' b=none)/\W i n σ' H') ?_ m0 ⟨0,σ,H2,I2,st2,λb hb=>(f2 b hb).1,w0⟩;rintro n s3 ⟨i,σ3,H3,I3,st3,fr3,w3⟩;rcases turn i n σ3 H3 w3 with⟨stop,qn⟩|⟨go,N,hN,step⟩
 .refine ia hp (thn (T.done X rfl rfl rfl hc i pins s3 σ3 H3 X.xe I3 (stat fr3) st3 stop) λr s4 ⟨hr,I4⟩=>?_);subst hr;exact wpAny_execs_nil ⟨σ3,H3,I4,qn⟩
 .refine ia hp (thn (T.item X rfl rfl rfl hc i pins s3 σ3 H3 X.xe I3 (stat fr3) st3 go) λr s4 ⟨u,hr,h4⟩=>?_);subst hr;refine ia hp (thn h4 λ_ s5 ⟨x,H5,I5,r5,y5,st5,fr5⟩=>?_);have I5':=I5.pinned (stat fr5) (T.obj _ _ st5);refine ia hp (thn (hg _ s5 σ3 H5 x u _ I5' r5 (step x H5 y5)) λ_ s6 ⟨σ6,H6,I6,q6⟩=>?_);refine ia hp (thn (hb _ s6 σ6 H6 _ I6 q6) λf s7 q7=>?_);have again:∀{σ7:St} {H7:Hp},Inv X (pins++Eh fp s5.heap) σ7 H7 s7->N σ7 H7->∃m,m<n/\∃i σ' H',Inv X pins σ' H' s7/\tn i s7.heap/\(∀b∈fp,H' b=none)/\W i m σ' H':=λ{σ7 H7} I7 n7=>by
   obtain⟨m',hm,w7⟩:=hN σ7 H7 n7;refine⟨m',hm,i+1,σ7,H7,I7.unpinned,T.keep _ _ _ st5 λb hb o e=>(I7.pin (b,o) (fm _ (fm _ (Bt hb e)))).1,λb hb=>?_,w7⟩;obtain⟨o,e,d⟩:=T.obj _ _ st5 b hb;exact(I7.pin (b,o) (fm _ (fm _ (Bt hb e)))).2.1
  cases f with
  |next=>obtain⟨σ7,H7,I7,n7⟩:=q7;exact again I7 n7
  |cont=>obtain⟨σ7,H7,I7,n7⟩:=q7;exact again I7 n7
  |brk=>obtain⟨σ7,H7,I7,q7⟩:=q7;exact⟨σ7,H7,I7.unpinned,q7⟩
  |ret v=>obtain⟨x7,σ7,H7,I7,r7,q7⟩:=q7;exact⟨x7,σ7,H7,I7.unpinned,r7,q7⟩
end
noncomputable abbrev R2:=V->V->Hp->VK->Prop
def OpR(X:Cx)(f:Value->Value->Sem Value)(r:R2):Prop:=
 ∀(pins:List 92) (s:Shared) (σ:St) (H:Hp) (x y:V) (v u:Value) (Q:VK),Inv X pins σ H s->RelV x v->RelV y u->r x y H Q ->
   wpAny 68 X.A (f v u) (EP X pins σ Q) X.xe s
def UnR(X:Cx)(f:Value->Sem Value)(r:V->Hp->VK->Prop):Prop:=
 ∀(pins:List 92) (s:Shared) (σ:St) (H:Hp) (x:V) (v:Value) (Q:VK),Inv X pins σ H s->RelV x v->r x H Q ->
   wpAny 68 X.A (f v) (EP X pins σ Q) X.xe s
def CallR(X:Cx)(f:Value)(r:List V->Hp->VK->Prop):Prop:=
 ∀(pins:List 92) (s:Shared) (σ:St) (H:Hp) (xs:List V) (us:List Value) (Q:VK),Inv X pins σ H s->Vals xs us->r xs H Q ->
   wpAny 68 X.A (call f us) (EP X pins σ Q) X.xe s
def df(X:Cx)(r:V->Hp->(Bool->Hp->Prop)->Prop):Prop:=
 ∀(pins:List 92) (s:Shared) (σ:St) (H:Hp) (x:V) (v:Value) (Q:Bool->Hp->Prop),Inv X pins σ H s->RelV x v->r x H Q ->
   wpAny 68 X.A (truthy v) (TP X pins σ Q) X.xe s
noncomputable def tOp(r:R2)(ta tb:TE):TE:=λσ H Q=>ta σ H λx H1=>tb σ H1 λy H2=>r x y H2 Q
noncomputable def tUn(r:V->Hp->VK->Prop)(ta:TE):TE:=λσ H Q=>ta σ H λx H1=>r x H1 Q
noncomputable def rI(C:Int->Int->Prop)(g:Int->Int->V):R2:=λx y H Q=>∃i j,x=.int i/\y=.int j/\C i j/\Q (g i j) H
noncomputable def rI0(g:Int->Int->V):R2:=λx y H Q=>∃i j,x=.int i/\y=.int j/\Q (g i j) H
def rU(g:Int->V):V->Hp->VK->Prop:=λx H Q=>∃i,x=.int i/\Q (g i) H
section
variable{X:Cx}{a b c:Expr}{ta tb tc:TE}{pos:Pos}
def VO(ha:PE X a ta)(hb:PE X b tb){pins:List 92}{s:Shared}{σ:St}{H:Hp}{R:V->V->Hp->Prop}(I:Inv X pins σ H s)
 (h:ta σ H λx H1=>tb σ H1 λy H2=>R x y H2) {Q:Value->Shared->Prop} {f:Value->Value->Sem Value}
 (hf:∀v u s2 x y H2,Inv X pins σ H2 s2->RelV x v->RelV y u->R x y H2->wpAny 68 X.A (f v u) Q X.xe s2):
 wpAny 68 X.A (eval a X.env) (λv s₁=>wpAny 68 X.A (eval b X.env) (λu s₂=>wpAny 68 X.A (f v u) Q X.xe s₂) X.xe s₁) X.xe s:=by
 refine thn (ha pins s σ H _ I h) λv s1 ⟨x,H1,I1,r1,q1⟩=>?_;refine thn (hb pins s1 σ H1 _ I1 q1) λu s2 ⟨y,H2,I2,r2,q2⟩=>?_;exact hf v u s2 x y H2 I2 r1 r2 q2
def Pi{op:Operator}{r:R2}(ho:OpR X (binaryOp op) r)(ha:PE X a ta)(hb:PE X b tb):PE X (.BinOp a op b pos) (tOp r ta tb):=by
 intro pins s σ H Q I h;exact wpAny_BinOp (VO ha hb I h λv u s2 x y H2 I2 rx ry q=>ho pins s2 σ H2 x y v u Q I2 rx ry q)
def cO{op:UnaryOp}{r:V->Hp->VK->Prop}(ho:UnR X (unaryOp op) r)(ha:PE X a ta):PE X (.UnaryOp op a pos) (tUn r ta):=by
 intro pins s σ H Q I h;exact UnaryOp_ (thn (ha pins s σ H _ I h) λv s1 ⟨x,H1,I1,r1,q1⟩=>ho pins s1 σ H1 x v Q I1 r1 q1)
def opI{f:Value->Value->Sem Value}{C:Int->Int->Prop}{g:Int->Int->Int}
 (rule:∀(i j:Int) (t u:Tok) (s:Shared) (Q:Value->Shared->Prop) (E:Value->Shared->Prop),C i j->Q (.int (g i j) s.toks) { s with toks:=s.toks+1 }->wpAny 68 X.A (f (.int i t) (.int j u)) Q E s):
 OpR X f (rI C λi j=>.int (g i j)):=by
 intro pins s σ H x y v u Q I rx ry h;obtain⟨i,j,rfl,rfl,hc,q⟩:=h;obtain⟨t,rfl⟩:=rx;obtain⟨t',rfl⟩:=ry;exact rule i j t t' s _ _ hc ⟨.int (g i j),H,I.tok _,⟨_,rfl⟩,q⟩
def ao{f:Value->Value->Sem Value}{g:Int->Int->Int}
 (rule:∀(i j:Int) (t u:Tok) (s:Shared) (Q:Value->Shared->Prop) (E:Value->Shared->Prop),Q (.int (g i j) s.toks) { s with toks:=s.toks+1 }->wpAny 68 X.A (f (.int i t) (.int j u)) Q E s):
 OpR X f (rI0 λi j=>.int (g i j)):=by
 intro pins s σ H x y v u Q I rx ry h;obtain⟨i,j,rfl,rfl,q⟩:=h;obtain⟨t,rfl⟩:=rx;obtain⟨t',rfl⟩:=ry;exact rule i j t t' s _ _ ⟨.int (g i j),H,I.tok _,⟨_,rfl⟩,q⟩
def Pp{f:Value->Value->Sem Value}{g:Int->Int->Bool}
 (rule:∀(i j:Int) (t u:Tok) (s:Shared) (Q:Value->Shared->Prop) (E:Value->Shared->Prop),Q (.bool (g i j)) s->wpAny 68 X.A (f (.int i t) (.int j u)) Q E s):
 OpR X f (rI0 λi j=>.bl (g i j)):=by
 intro pins s σ H x y v u Q I rx ry h;obtain⟨i,j,rfl,rfl,q⟩:=h;obtain⟨t,rfl⟩:=rx;obtain⟨t',rfl⟩:=ry;exact rule i j t t' s _ _ ⟨.bl (g i j),H,I,rfl,q⟩
def br(i j:Int):Prop:=0<j/\j<1073741824
def bq(i j:Int):Prop:=0<=j/\j<=1000000/\i.natAbs<2^64
def CMul(i j:Int):Prop:=(-(2^64)<i/\i<2^64)∨(-(2^64)<j/\j<2^64)
def CMul.ok{i j:Int}(h:CMul i j):IntMulOk i j:=by
 rcases h with⟨h1,h2⟩|⟨h1,h2⟩
 .exact .of_left (intBits_le_64 h1 h2)
 .exact .of_right (intBits_le_64 h1 h2)
def Ry:OpR X (binaryOp .Add) (rI0 λi j=>.int (i+j)):=ao λ_ _ _ _ _ _ _ q=>add_int q
def ae:OpR X (binaryOp .Sub) (rI0 λi j=>.int (i-j)):=ao λ_ _ _ _ _ _ _ q=>sub_int q
def ai:OpR X (binaryOp .Mult) (rI CMul λi j=>.int (i*j)):=opI λ_ _ _ _ _ _ _ hc q=>mul_int q hc.ok
def Y0:OpR X (binaryOp .FloorDiv) (rI br λi j=>.int (i/j)):=opI λi j _ _ _ _ _ hc q=>by
 have h1:(0:Int)<j:=hc.1;have h2:j<1073741824:=hc.2;exact floordiv_int 59 (by rw[Int.fdiv_eq_ediv_of_nonneg i 59];exact q) (.inl (PyProof.noPylong_small 59))
def aj:OpR X (binaryOp .Mod) (rI (λ_ j=>0<j) λi j=>.int (i%j)):=opI λi j _ _ _ _ _ hc q=>by
 have h1:(0:Int)<j:=hc;exact mod_int' 59 (by rw[Int.fmod_eq_emod_of_nonneg i 59];exact q)
def ag:OpR X (binaryOp .Pow) (rI bq λi j=>.int (i^j.toNat)):=opI λ_ _ _ _ _ _ _ hc q=>pow_int_small hc.1 hc.2.1 hc.2.2 q
def unI{f:Value->Sem Value}{g:Int->Int}
 (rule:∀(i:Int) (t:Tok) (s:Shared) (Q:Value->Shared->Prop) (E:Value->Shared->Prop),Q (.int (g i) s.toks) { s with toks:=s.toks+1 }->wpAny 68 X.A (f (.int i t)) Q E s):
 UnR X f (rU λi=>.int (g i)):=by
 intro pins s σ H x v Q I rx h;obtain⟨i,rfl,q⟩:=h;obtain⟨t,rfl⟩:=rx;exact rule i t s _ _ ⟨.int (g i),H,I.tok _,⟨_,rfl⟩,q⟩
def Yq:UnR X (unaryOp .USub) (rU λi=>.int (-i)):=unI λ_ _ _ _ _ q=>neg_int q
end
noncomputable def Ml:V->V->Bool
 |.non,.non=>true|.non,.int _=>true|.int _,.non=>true|.non,.bl _=>true|.bl _,.non=>true|.non,.str _=>true|.str _,.non=>true
 |.int _,.int _=>true|.bl _,.bl _=>true|.str _,.str _=>true|.byt _,.byt _=>true
 |.int _,.str _=>true|.str _,.int _=>true|.bl _,.str _=>true|.str _,.bl _=>true
 |_,_=>false
noncomputable def rEq:R2:=λx y H Q=>Ml x y=true/\Q (.bl (decide (x=y))) H
noncomputable def rNe:R2:=λx y H Q=>Ml x y=true/\Q (.bl (!decide (x=y))) H
def Oi{i j:Int}:decide (V.int i=V.int j)=(i==j):=by
 rw[Bool.eq_iff_iff];simp
def Sa{i j:Bool}:decide (V.bl i=V.bl j)=(i==j):=by
 rw[Bool.eq_iff_iff];simp
def Oh{i j:Str}:decide (V.str i=V.str j)=(i==j):=by
 rw[Bool.eq_iff_iff];simp
def Oj{i j:Array UInt8}:decide (V.byt i=V.byt j)=(i.toList==j.toList):=by
 rw[Bool.eq_iff_iff];cases i;cases j;simp
section
variable{X:Cx}{a b c:Expr}{ta tb tc:TE}{pos:Pos}
def Ah{pins:List 92}{σ:St}{H:Hp}{s:Shared}{Q:VK}{k k':Bool}(I:Inv X pins σ H s)(q:Q (.bl k) H)(e:k=k'):EP X pins σ Q (.bool k') s:=by
 subst e;exact⟨.bl k,H,I,rfl,q⟩
def Vr:OpR X (compareOp .Eq) rEq:=by
 intro pins s σ H x y v u Q I rx ry h;obtain⟨hs,q⟩:=h;cases x with
 |non=>
  cases rx;cases y with
  |non=>cases ry;exact PySem.EqNone.eq_none_none (Ah I q 70)
  |bl j=>cases ry;exact PySem.EqNone.eq_none_bool (Ah I q 70)
  |int j=>obtain⟨t',rfl⟩:=ry;exact PySem.EqNone.eq_none_int (Ah I q 70)
  |str j=>obtain⟨t',rfl⟩:=ry;exact PySem.EqNone.eq_none_str (Ah I q 70)
  |_=>exact absurd (show false=true from hs) 94
 |bl i=>
  cases rx;cases y with
  |non=>cases ry;exact PySem.EqNone.eq_bool_none (Ah I q 70)
  |bl j=>cases ry;exact eq_bool (Ah I q Sa)
  |str j=>obtain⟨t',rfl⟩:=ry;exact PySem.EqMixed.eq_bool_str (Ah I q 70)
  |_=>exact absurd (show false=true from hs) 94
 |int i=>
  obtain⟨t,rfl⟩:=rx;cases y with
  |non=>cases ry;exact PySem.EqNone.eq_int_none (Ah I q 70)
  |int j=>obtain⟨t',rfl⟩:=ry;exact eq_int (Ah I q Oi)
  |str j=>obtain⟨t',rfl⟩:=ry;exact PySem.EqMixed.eq_int_str (Ah I q 70)
  |_=>exact absurd (show false=true from hs) 94
 |str i=>
  obtain⟨t,rfl⟩:=rx;cases y with
  |non=>cases ry;exact PySem.EqNone.eq_str_none (Ah I q 70)
  |bl j=>cases ry;exact PySem.EqMixed.eq_str_bool (Ah I q 70)
  |int j=>obtain⟨t',rfl⟩:=ry;exact PySem.EqMixed.eq_str_int (Ah I q 70)
  |str j=>obtain⟨t',rfl⟩:=ry;exact eq_str (Ah I q Oh)
  |_=>exact absurd (show false=true from hs) 94
 |byt i=>
  obtain⟨t,rfl⟩:=rx;cases y with
  |byt j=>obtain⟨t',rfl⟩:=ry;exact PySem.W.eq_bytes (Ah I q Oj)
  |_=>exact absurd (show false=true from hs) 94
 |_=>cases y<;>exact absurd (show false=true from hs) 94
def Vp:OpR X (compareOp .NotEq) rNe:=by
 intro pins s σ H x y v u Q I rx ry h;obtain⟨hs,q⟩:=h;cases x with
 |non=>
  cases rx;cases y with
  |non=>cases ry;exact PySem.EqNone.ne_none_none (Ah I q 70)
  |bl j=>cases ry;exact PySem.EqNone.ne_none_bool (Ah I q 70)
  |int j=>obtain⟨t',rfl⟩:=ry;exact PySem.EqNone.ne_none_int (Ah I q 70)
  |str j=>obtain⟨t',rfl⟩:=ry;exact PySem.EqNone.ne_none_str (Ah I q 70)
  |_=>exact absurd (show false=true from hs) 94
 |bl i=>
  cases rx;cases y with
  |non=>cases ry;exact PySem.EqNone.ne_bool_none (Ah I q 70)
  |bl j=>cases ry;exact ne_bool (Ah I q (fS not Sa))
  |str j=>obtain⟨t',rfl⟩:=ry;exact PySem.EqMixed.ne_bool_str (Ah I q 70)
  |_=>exact absurd (show false=true from hs) 94
 |int i=>
  obtain⟨t,rfl⟩:=rx;cases y with
  |non=>cases ry;exact PySem.EqNone.ne_int_none (Ah I q 70)
  |int j=>obtain⟨t',rfl⟩:=ry;exact ne_int (Ah I q (fS not Oi))
  |str j=>obtain⟨t',rfl⟩:=ry;exact PySem.EqMixed.ne_int_str (Ah I q 70)
  |_=>exact absurd (show false=true from hs) 94
 |str i=>
  obtain⟨t,rfl⟩:=rx;cases y with
  |non=>cases ry;exact PySem.EqNone.ne_str_none (Ah I q 70)
  |bl j=>cases ry;exact PySem.EqMixed.ne_str_bool (Ah I q 70)
  |int j=>obtain⟨t',rfl⟩:=ry;exact PySem.EqMixed.ne_str_int (Ah I q 70)
  |str j=>obtain⟨t',rfl⟩:=ry;exact ne_str (Ah I q (fS not Oh))
  |_=>exact absurd (show false=true from hs) 94
 |byt i=>
  obtain⟨t,rfl⟩:=rx;cases y with
  |byt j=>obtain⟨t',rfl⟩:=ry;exact PySem.W.ne_bytes (Ah I q (fS not Oj))
  |_=>exact absurd (show false=true from hs) 94
 |_=>cases y<;>exact absurd (show false=true from hs) 94
def Pn:OpR X (compareOp .Lt) (rI0 λi j=>.bl (decide (i<j))):=Pp λ_ _ _ _ _ _ _ q=>lt_int q
def Po:OpR X (compareOp .LtE) (rI0 λi j=>.bl (decide (i<=j))):=Pp λ_ _ _ _ _ _ _ q=>le_int q
def Vq:OpR X (compareOp .Gt) (rI0 λi j=>.bl (decide (j<i))):=Pp λ_ _ _ _ _ _ _ q=>gt_int q
def cS:OpR X (compareOp .GtE) (rI0 λi j=>.bl (decide (j<=i))):=Pp λ_ _ _ _ _ _ _ q=>ge_int q
def OpR.or{f:Value->Value->Sem Value}{r r':R2}(h:OpR X f r)(h':OpR X f r'):OpR X f (λx y H Q=>r x y H Q∨r' x y H Q):=by
 intro pins s σ H x y v u Q I rx ry q;rcases q with q|q
 .exact h pins s σ H x y v u Q I rx ry q
 .exact h' pins s σ H x y v u Q I rx ry q
def Gq(b:Expr){op:CmpOp}(h:op≠.In:=by decide)(h2:op≠.NotIn:=by decide):behindInMarks op b=false:=by
 have e1:(op==CmpOp.In)=false:=by cases op<;>first|rfl|exact absurd rfl h
 have e2:(op==CmpOp.NotIn)=false:=by cases op<;>first|rfl|exact absurd rfl h2
 cases b<;>simp[behindInMarks,e1,e2]
def Xy{op:CmpOp}{r:R2}(ho:OpR X (compareOp op) r)(ha:PE X a ta)(hb:PE X b tb)(hm:behindInMarks op b=false):PE X (.Compare a [op] [b] pos) (tOp r ta tb):=by
 intro pins s σ H Q I h;exact wpAny_Compare1 (VO ha hb I h λv u s2 x y H2 I2 rx ry q=>ho pins s2 σ H2 x y v u Q I2 rx ry q) hm
noncomputable def F0(t:TE):TT:=λσ H Q=>t σ H λx H'=>∃k,x=.bl k/\Q k H'
def Hg{op:CmpOp}{r:R2}(ho:OpR X (compareOp op) r)(ha:PE X a ta)(hb:PE X b tb)(hm:behindInMarks op b=false):PT X (.Compare a [op] [b] pos) (F0 (tOp r ta tb)):=by
 intro pins s σ H Q I h;refine wpAny_isTrue_Compare1 (thn (ha pins s σ H _ I h) λv s1 ⟨x,H1,I1,r1,q1⟩=>thn (hb pins s1 σ H1 _ I1 q1) λu s2 ⟨y,H2,I2,r2,q2⟩=>
  thn (ho pins s2 σ H2 x y v u _ I2 r1 r2 q2) λc s3 ⟨z,H3,I3,r3,k,e,q3⟩=>?_) hm
 subst e;cases r3;exact gU ⟨H3,I3,q3⟩
noncomputable def MX(r r':R2)(ta tb tc:TE):TE:=λσ H Q=>ta σ H λx H1=>tb σ H1 λy H2=>r x y H2 λz H3=>∃k,z=.bl k /\
 (if k=true then tc σ H3 λw' H4=>r' y w' H4 Q else Q (.bl false) H3)
def UX{op op':CmpOp}{r r':R2}(ho:OpR X (compareOp op) r)(ho':OpR X (compareOp op') r')(ha:PE X a ta)(hb:PE X b tb)(hc:PE X c tc)
 (hm:lastMarks [op,op'] [b,c]=false:=by with_unfolding_all rfl):PT X (.Compare a [op,op'] [b,c] pos) (F0 (MX r r' ta tb tc)):=by
 intro pins s σ H Q I h;refine isTrue_chain (thn (ha pins s σ H _ I h) λv s1 ⟨x,H1,I1,r1,q1⟩=>test_link (thn (hb pins s1 σ H1 _ I1 q1) λu s2 ⟨y,H2,I2,r2,q2⟩=>
  thn (ho pins s2 σ H2 x y v u _ I2 r1 r2 q2) λd s3 ⟨z,H3,I3,r3,k,e,q3⟩=>?_)) hm
 subst e;cases r3;refine gU ?_;cases k with
 |false=>
  obtain⟨k',e',q'⟩:=q3;cases e';exact ite_ff ⟨H3,I3,q'⟩
 |true=>
  refine ite_tt (test_last (thn (hc pins s3 σ H3 _ I3 q3) λw' s4 ⟨z',H4,I4,r4,q4⟩=>thn (ho' pins s4 σ H4 y z' u w' _ I4 r2 r4 q4) λd' s5 ⟨z2,H5,I5,r5,k2,e2,q5⟩=>?_));subst e2;cases r5;exact gU ⟨H5,I5,q5⟩
def Nk(K:Frag)(x:V)(H:Hp)(k:Bool):Prop:=
 match x with
 |.non=>k=false
 |.bl b=>k=b
 |.int i=>k=(i != 0)
 |.str y=>y.length<=sizeLine/\k=((y.length:Int) != 0)
 |.byt y=>y.size<=sizeLine/\k=((y.size:Int) != 0)
 |.ref p=>(∃xs,SqL K H p xs/\k=!xs.isEmpty)∨(∃xs,SqT K H p xs/\k=!xs.isEmpty)∨∃kvs,H p=some (.dK kvs)/\k=!kvs.isEmpty
 |_=>False
def Px{κ:Type}{kvs:List (κ×V)}{vs:List (κ×Value)}(r:KV kvs vs):(!vs.isEmpty)=!kvs.isEmpty:=by
 cases r<;>rfl
def Jp{xs:List V}{its:List Value}(r:Vals xs its):(!its.toArray.isEmpty)=!xs.isEmpty:=by
 cases r<;>simp
def Fc:(sizeLine:Nat)<2^63:=by rw[gp];decide
def Ys:df X (λx H Q=>∃k,Nk X.K x H k/\Q k H):=by
 intro pins s σ H x v Q I rx h;obtain⟨k,e,q⟩:=h;have hl:=Fc;have hs:sizeLine=16777216:=gp;cases x with
 |non=>
  cases rx;have e':k=false:=e;subst e';exact truthy_none ⟨H,I,q⟩
 |bl b=>
  cases rx;have e':k=b:=e;subst e';exact gU ⟨H,I,q⟩
 |int i=>
  obtain⟨t,rfl⟩:=rx;have e':k=(i != 0):=e;subst e';exact PySem.P.truthy_int ⟨H,I,q⟩
 |str y=>
  obtain⟨t,rfl⟩:=rx;obtain⟨hy,e'⟩:y.length<=sizeLine/\k=((y.length:Int) != 0):=e;subst e';exact PySem.P.truthy_str 59 ⟨H,I.tok _,q⟩
 |byt y=>
  obtain⟨t,rfl⟩:=rx;obtain⟨hy,e'⟩:y.size<=sizeLine/\k=((y.size:Int) != 0):=e;subst e';exact PySem.W.truthy_bytes 59 ⟨H,I.tok _,q⟩
 |ref p=>
  cases rx;have e':(∃xs,SqL X.K H p xs/\k=!xs.isEmpty)∨(∃xs,SqT X.K H p xs/\k=!xs.isEmpty)∨∃kvs,H p=some (.dK kvs)/\k=!kvs.isEmpty:=e;rcases e' with⟨xs,hx,e'⟩|⟨xs,hx,e'⟩|⟨kvs,hx,e'⟩
  .subst e';obtain⟨its,r,pl,hz⟩:=I.list hx;have hlen:=r.length;exact wpAny_truthy_list pl.isList (by simp only[ft];omega) ⟨H,I.tok _,by rw[Jp r];exact q⟩
  .subst e';obtain⟨its,r,pl,hz⟩:=I.tuple hx;have hlen:=r.length;exact truthy_tuple pl (by simp only[ft];omega) ⟨H,I.tok _,by rw[Jp r];exact q⟩
  .subst e';obtain⟨hz,hS,vs,r,m⟩:kvs.length<=sizeLine/\(p==sysModules)=false/\∃vs,KV kvs vs/\s.heap.DictOf (BV X.prog X.w) p vs:=I.hok p _ hx;have hlen:kvs.length=vs.length:=Paired.length r;exact wpAny_truthy_dict hS m 59 ⟨H,I.tok _,by rw[Px r];exact q⟩
 |_=>exact(show False from e).elim
def UW(ha:PE X a ta)(he:∀whole,isTrue a X.env whole=(do let v <- whole;standAt a.pos;holding [v] (truthy v))):
 PT X a (λσ H Q=>ta σ H λx H'=>∃k,Nk X.K x H' k/\Q k H'):=by
 intro pins s σ H Q I h;exact isTrue_plain (thn (ha pins s σ H _ I h) λv s1 ⟨x,H1,I1,r1,q1⟩=>Ys pins s1 σ H1 x v Q I1 r1 q1) (he _)
def BJ{x:V}{us:List Value}(r:Vals [x] us):∃u,us=[u]/\RelV x u:=by
 cases r with
 |cons r1 r2=>cases r2;exact⟨_,rfl,r1⟩
def Ov{x y:V}{us:List Value}(r:Vals [x,y] us):∃u w',us=[u,w']/\RelV x u/\RelV y w':=by
 cases r with
 |cons r1 r2=>
  cases r2 with
  |cons r3 r4=>cases r4;exact⟨_,_,rfl,r1,r3⟩
def Si(hc:X.calm=true):CallR X (.builtin "max") (λxs H Q=>∃i j,xs=[.int i,.int j]/\Q (.int (if j>i then j else i)) H):=by
 intro pins s σ H xs us Q I r h;obtain⟨i,j,rfl,q⟩:=h;obtain⟨u,w',rfl,⟨t,rfl⟩,⟨t',rfl⟩⟩:=Ov r;refine max_two_ints (I.ok.hd hc) λh' tk k=>⟨_,H,I.kept k,?_,q⟩
 by_cases hj:j>i
 .rw[fb hj,fb hj];exact⟨_,rfl⟩
 .rw[fe hj,fe hj];exact⟨_,rfl⟩
def Sh(hc:X.calm=true):CallR X (.builtin "min") (λxs H Q=>∃i j,xs=[.int i,.int j]/\Q (.int (if j<i then j else i)) H):=by
 intro pins s σ H xs us Q I r h;obtain⟨i,j,rfl,q⟩:=h;obtain⟨u,w',rfl,⟨t,rfl⟩,⟨t',rfl⟩⟩:=Ov r;refine min_two_ints (I.ok.hd hc) λh' tk k=>⟨_,H,I.kept k,?_,q⟩
 by_cases hj:j<i
 .rw[fb hj,fb hj];exact⟨_,rfl⟩
 .rw[fe hj,fe hj];exact⟨_,rfl⟩
def Sk:CallR X (.type "int") (λxs H Q=>(∃i,xs=[.int i]/\Q 134 H)∨∃k,xs=[.bl k]/\Q (.int (if k then 1 else 0)) H):=by
 intro pins s σ H xs us Q I r h;rcases h with⟨i,rfl,q⟩|⟨k,rfl,q⟩
 .obtain⟨u,rfl,t,rfl⟩:=BJ r;exact call_int_int ⟨.int i,H,I,⟨_,rfl⟩,q⟩
 .obtain⟨u,rfl,r1⟩:=BJ r;cases r1;exact call_int_bool ⟨.int (if k then 1 else 0),H,I.tok _,⟨_,rfl⟩,q⟩
end
def RelO.some_of{v:V}{o:Option Value}(r:RelO (some v) o):∃u,o=some u/\RelV v u:=by
 cases o with
 |none=>exact(show False from r).elim
 |some u=>exact⟨u,rfl,r⟩
structure Room(k:Nat)(A:Around):Prop where
 hd:A.handled=none
 dp:A.depth+3*k+5<recursionLimit
 un:A.units+16*k+200<cLine
 gd:A.guards=some []
def Room.mono{j k:Nat}{A:Around}(r:Room k A)(h:j<=k):Room j A:=⟨r.hd,by have:=r.dp;omega,by have:=r.un;omega,r.gd⟩
theorem Room.deeper{k:Nat}{A:Around}(r:Room (k+1) A)(env:Env):Room k (A.deeper env):=
 ⟨r.hd,by have:=r.dp;show A.depth+1+3*k+5<_;omega,by have:=r.un;show A.units+3+16*k+200<_;omega,by first|exact r.gd|(simpa [Around.deeper,Around.under,Code.guards,Code.isGuard,pushGuards]using r.gd)⟩
theorem Room.in1{k:Nat}{A:Around}(r:Room (k+1) A):Room k A.in1:=
 ⟨r.hd,by have:=r.dp;show A.depth+3*k+5<_;omega,by have:=r.un;show A.units+1+16*k+200<_;omega,r.gd⟩
theorem Room.depth{k:Nat}{A:Around}(r:Room k A):A.depth<recursionLimit:=by have:=r.dp;omega
theorem Room.units{k:Nat}{A:Around}(r:Room k A):A.units+64<cLine:=by have:=r.un;omega
def Room.units0{k:Nat}{A:Around}(r:Room k A):A.units<cLine:=by have:=r.un;omega
noncomputable def BQ:TA:=λ_ H Q=>Q [] H
noncomputable def BK(ta:TE)(tr:TA):TA:=λσ H Q=>ta σ H λx H1=>tr σ H1 λxs H2=>Q (x::xs) H2
section
variable{X:Cx}{e:Expr}{es:List Expr}{te:TE}{t:TA}{pos:Pos}
def CL:PA X [] BQ:=λ_ _ _ _ H Q I h=>Calls.spliced_nil ⟨[],H,I,.nil,h⟩
def Bm(ha:PE X e te)(hr:PA X es t)(hs:starEach (e::es) X.env=88::starEach es X.env:=by rfl):PA X (e::es) (BK te t):=by
 intro pos pins s σ H Q I h;rw[hs];show wpAny _ _ (spliced (88::backTo pos 130)) _ _ s;refine Calls.spliced_cons (thn (ha pins s σ H _ I h) λu s1 ⟨x,H1,I1,r1,q1⟩=>?_);exact thn (hr pos pins s1 σ H1 _ I1 q1) λus s2 ⟨xs,H2,I2,r2,q2⟩=>⟨x::xs,H2,I2,.cons r1 r2,q2⟩
noncomputable def TJ(t:TA):TE:=λσ H Q=>t σ H λxs H1=>85<=sizeLine/\∀p,H1 p=none->Q (.ref p) (upd H1 p (.tup xs))
noncomputable def TQ(t:TA):TE:=λσ H Q=>t σ H λxs H1=>85<=sizeLine/\∀p,H1 p=none->Q (.ref p) (upd H1 p 145)
def aQ{x1}(h:PA X es t):PE X (.Tuple es x1 pos) (TJ t):=by
 intro pins s σ H Q I hq;refine wpAny_Tuple_spliced (thn (h pos pins s σ H _ I hq) λus s1 ⟨xs,H1,I1,r,z,q⟩=>⟨by rw[<- r.length];exact z,?_⟩);have hf:H1 s1.heap.objs.size=none:=I1.hok.fresh (fg _);refine⟨.ref s1.heap.objs.size,upd H1 s1.heap.objs.size (.tup xs),I1.laid (t':=s1.toks) (λb u e=>66 _ e) (fg _) ?_,rfl,q _ hf⟩;exact⟨z,us,r,⟨_,78 _ rfl,rfl,⟨_,rfl⟩,rfl⟩⟩
def aV(h:PA X es t):PE X (.List es pos) (TQ t):=by
 intro pins s σ H Q I hq;refine wpAny_List_spliced (thn (h pos pins s σ H _ I hq) λus s1 ⟨xs,H1,I1,r,z,q⟩=>⟨by rw[<- r.length];exact z,?_⟩);have hf:H1 s1.heap.objs.size=none:=I1.hok.fresh (fg _);refine⟨.ref s1.heap.objs.size,upd H1 s1.heap.objs.size 145,I1.laid (t':=s1.toks) (λb u e=>66 _ e) (fg _) ?_,rfl,q _ hf⟩;exact⟨z,us,0,r,78 _ rfl⟩
end
noncomputable abbrev Sp:=List V->Hp->VK->XK->Prop
noncomputable abbrev CXT:=List Env->Hp->Shared->XK->Value->Shared->Prop
structure Env0(P:Program)(w:World)(K:Frag)(mg:Str->Option Value)(base:Heap)(A:Around)(outer:List Env)(s:Shared)(H:Hp):Prop where
 frames:A.frames=some outer
 mod:Mod K mg base
 bs:∀b o,base.get? b=some o->s.heap.get? b=some o/\H b=none
 bsz:base.objs.size<=58
 funs:s.heap.FunFrames base outer
 frf:∀b∈frs outer,H b=none
 hok:HOk P w H s.heap
 bare:AllBare s.gens
def CE(outer:List Env)(P:Program)(w:World)(H:Hp)(s:Shared)(Q:VK)(u:Value)(s':Shared):Prop:=
 ∃v H',s'.os=s.os/\AllBare s'.gens/\Un (frs outer) [] H H' s.heap s'.heap/\HOk P w H' s'.heap/\RelV v u/\Q v H'
def CR(CX:CXT)(outer:List Env)(P:Program)(w:World)(H:Hp)(s:Shared)(Q:VK)(E:XK)(r:Result)(s':Shared):Prop:=
 match r with
 |.ok (.ret u)=>CE outer P w H s Q u s'
 |.ok _=>False
 |.error e=>CX outer H s E e s'
structure FnOk(P:Program)(w:World)(K:Frag)(mg:Str->Option Value)(base:Heap)(CX:CXT)(k:Nat)(f:Addr)(fd:FuncData)(ps:List Str)(sp:Sp):Prop where
 len:∀vs H Q E,sp vs H Q E->98=112
 run:∀(A:Around) (outer:List Env) (s:Shared) (H:Hp) (args:Args) (us:List Value) (vs:List V) (Q:VK) (E:XK),Room k A->Env0 P w K mg base A outer s H->BindsTo s fd args (ps.zip us)->Vals vs us->sp vs H Q E ->
  codeAny (model P w) A (.call (.ref f) args) (CR CX outer P w H s Q E) s
theorem FnOk.mono{P:Program}{w:World}{K:Frag}{mg:Str->Option Value}{base:Heap}{CX:CXT}{j k:Nat}{f:Addr}{fd:FuncData}{ps:List Str}{sp:Sp}(F:FnOk P w K mg base CX j f fd ps sp)(h:j<=k):
 FnOk P w K mg base CX k f fd ps sp:=⟨F.len,λA outer s H args us vs Q E hr=>F.run A outer s H args us vs Q E (hr.mono h)⟩
section
variable{X:Cx}{pins:List 92}{σ:St}{H:Hp}{s s':Shared}
def Inv.env0(I:Inv X pins σ H s):Env0 X.prog X.w X.K X.mg X.base X.A X.stack s H:=
 ⟨I.ok.frames,I.ok.mod,I.bs,fu I.ok.bsz I.sz,I.stack,I.stkFree,I.hok,I.bare⟩
def Inv.after{Q:VK}{u:Value}(I:Inv X pins σ H s)(h:CE X.stack X.prog X.w H s Q u s'):EP X pins σ Q u s':=by
 obtain⟨v,H',os,bare,un,hok,r,q⟩:=h;obtain⟨hh,g,d,t,os'⟩:=s';obtain rfl:os'=s.os:=os;exact⟨v,H',I.call (h':=hh) (g':=g) (d':=d) (t':=t) (ch:=[]) un hok bare (λb z=>absurd z 70),r,q⟩
end
noncomputable def C9(sp:Sp)(dvs:List V)(E:XK)(t:TA):TE:=λσ H Q=>t σ H λvs H1=>sp (vs++dvs) H1 Q E
def Binds(K:Frag)(fd:FuncData)(ps:List Str)(ds:List Value):Prop:=
 ∀(s:Shared) (us:List Value),K.In s.heap->(us++ds).length=112->BindsTo s fd ⟨us,[]⟩ (ps.zip (us++ds))
def Binds.all{K:Frag}{fd:FuncData}{ps:List Str}(h:∀us:List Value,us.length=112->bindArgs fd ⟨us,[]⟩=pure (ps.zip us)):Binds K fd ps []:=λs us _ hl=>by
 rw[fY]at hl ⊢;exact .of_eq (h us hl)
def K5(CX:CXT)(X:Cx)(E:XK):Prop:=∀(pins:List 92) (σ:St) (H:Hp) (s:Shared) (e:Value) (s':Shared),Inv X pins σ H s->CX X.stack H s E e s'->X.xe e s'
section
variable{X:Cx}{CX:CXT}{k:Nat}{f C:Addr}{fd:FuncData}{ps:List Str}{sp:Sp}{dvs:List V}{ds:List Value}{E:XK}{x m:Str}{p pos apos:Pos}{e o:Expr}{es:List Expr}{ta:TE}{t:TA}
def R9{pins:List 92}{σ:St}{H:Hp}{s:Shared}{Q:VK}{us:List Value}{vs:List V}(F:FnOk X.prog X.w X.K X.mg X.base CX k f fd ps sp)(hr:Room k X.A)(hb:Binds X.K fd ps ds)(hd:Vals dvs ds)(hx:K5 CX X E)
 (I:Inv X pins σ H s) (r:Vals vs us) (h:sp (vs++dvs) H Q E):wpAny 68 X.A (call (.ref f) us) (EP X pins σ Q) X.xe s:=by
 have r2:Vals (vs++dvs) (us++ds):=r.append hd;have hl:(us++ds).length=ps.length:=by rw[<- r2.length];exact F.len _ _ _ _ h
 refine wpAny_call (i0 (F.run X.A X.stack s H ⟨us,[]⟩ (us++ds) (vs++dvs) Q E hr I.env0 (hb s us I.kIn hl) r2 h) λr s' hq=>?_);cases r with
 |error e=>exact hx pins σ H s e s' I hq
 |ok fl=>
  cases fl with
  |ret u=>exact I.after hq
  |next=>exact False.elim hq
  |brk=>exact False.elim hq
  |cont=>exact False.elim hq
def Xz(F:FnOk X.prog X.w X.K X.mg X.base CX k f fd ps sp)(hr:Room k X.A)(hg:Gl X x)(hm:X.mg x=some (.ref f))(hk:keepIn X.K (.ref f)=true)(hb:Binds X.K fd ps ds)(hd:Vals dvs ds)(hx:K5 CX X E)
 (ha:PA X (e::es) t) (hdb:126=false:=by decide) (he:starEach (e::es) X.env=88::starEach es X.env:=by rfl) (hpl:(backTo pos 130).any (·.1)=false:=by rfl):
 PE X (.Call (.Name x p) (e::es) [] pos) (C9 sp dvs E t):=by
 intro pins s σ H Q I h;refine gN (KZ I hg hm ?_ hdb);refine PySem.W.callWith_K (h₀:=X.base) I.ok.mod.kin hk (thn (ha pos pins s σ H _ I h) λus s1 ⟨vs,H1,I1,r,q⟩=>⟨I1.kIn,?_⟩) he hpl;exact R9 F hr hb hd hx I1 r q
def Uk(F:FnOk X.prog X.w X.K X.mg X.base CX k f fd ps sp)(hr:Room k X.A)(hg:Gl X x)(hm:X.mg x=some (.ref f))(hk:keepIn X.K (.ref f)=true)(hb:Binds X.K fd ps ds)(hd:Vals dvs ds)(hx:K5 CX X E)
 (hdb:126=false:=by decide):PE X (.Call (.Name x p) [] [] pos) (C9 sp dvs E BQ):=by
 intro pins s σ H Q I h;refine gN (KZ I hg hm ?_ hdb);exact PySem.W.callWith_K0 I.kIn hk (R9 (us:=[]) F hr hb hd hx I .nil h)
end
structure FnScope(N P:List Str)(sc:Scope):Prop where
 kind:sc.kind=.function
 co:sc.isCoroutine=false
 gen:sc.isGenerator=false
 nd:N.Nodup
 pre:N.take P.length=P
 par:∀x∈P,sc.names.lookup x=some .local∨sc.names.lookup x=some .cell
 nofree:∀y∈sc.names,y.2≠.free
theorem Lc{kindOf:Str->Option NameKind}{x:Str}:∀{binds:List (Str×Value)} {m:Str->Option Value},(∀v,(x,v)∉binds)->bindL kindOf binds m x=m x
 |[],_,_=>rfl
 |(n,v)::r,m,h=>by
   unfold bindL;rw[Lc λw hw=>h w (fj _ hw)];split
   .have:x≠n:=by rintro rfl;exact h v fo
    simp[this]
   .rfl
theorem Lf{kindOf:Str->Option NameKind}{x:Str}:∀{binds:List (Str×Value)} {m:Str->Option Value},(∀v,(x,v)∉binds)->bindC kindOf binds m x=m x
 |[],_,_=>rfl
 |(n,v)::r,m,h=>by
   unfold bindC;rw[Lf λw hw=>h w (fj _ hw)];split
   .rfl
   .have:x≠n:=by rintro rfl;exact h v fo
    simp[this]
theorem Ld{kindOf:Str->Option NameKind}{x:Str}{v:Value}:∀{P:List Str} {vs:List Value} {i:Nat} {m:Str->Option Value},P.Nodup->P[i]?=some x->vs[i]?=some v->kindOf x=some .local ->
 bindL kindOf (P.zip vs) m x=some v
 |[],_,_,_,_,h,_,_=>by simp at h
 |_::_,[],_,_,_,_,h,_=>by simp at h
 |p::P,w::vs,0,m,nd,h1,h2,hk=>by
  simp at h1 h2;subst h1;subst h2;show bindL kindOf ((p,w)::P.zip vs) m p=_;unfold bindL;rw[Lc λv hv=>(nodup_cons.mp nd).1 (of_mem_zip hv).1,fb hk];simp
 |p::P,w::vs,i+1,m,nd,h1,h2,hk=>by
  show bindL kindOf ((p,w)::P.zip vs) m x=_;unfold bindL;exact Ld (i:=i) (nodup_cons.mp nd).2 (by simpa using h1) (by simpa using h2) hk
theorem Lg{kindOf:Str->Option NameKind}{x:Str}{v:Value}:∀{P:List Str} {vs:List Value} {i:Nat} {m:Str->Option Value},P.Nodup->P[i]?=some x->vs[i]?=some v->kindOf x≠some .local ->
 bindC kindOf (P.zip vs) m x=some v
 |[],_,_,_,_,h,_,_=>by simp at h
 |_::_,[],_,_,_,_,h,_=>by simp at h
 |p::P,w::vs,0,m,nd,h1,h2,hk=>by
  simp at h1 h2;subst h1;subst h2;show bindC kindOf ((p,w)::P.zip vs) m p=_;unfold bindC;rw[Lf λv hv=>(nodup_cons.mp nd).1 (of_mem_zip hv).1,fe hk];simp
 |p::P,w::vs,i+1,m,nd,h1,h2,hk=>by
  show bindC kindOf ((p,w)::P.zip vs) m x=_;unfold bindC;exact Lg (i:=i) (nodup_cons.mp nd).2 (by simpa using h1) (by simpa using h2) hk
noncomputable def start(N:List Str)(vs:List V):St:=vs.map some++104 (N.length-98) none
noncomputable def FN(CX:CXT)(P:Program)(w:World)(K:Frag)(mg:Str->Option Value)(base:Heap)(N:List Str)(qual:Str)(scope:Scope)(f:Addr)(cd:Value)(A:Around)(outer:List Env)(s:Shared)(H:Hp)(E:XK):Cx where
 prog:=P
 w:=w
 K:=K
 mg:=mg
 base:=base
 A:=A.deeper (envOfC qual scope 58 f cd)
 N:=N
 s₀:=s
 H₀:=H
 env:=envOfC qual scope 58 f cd
 outer:=outer
 stack:=envOfC qual scope 58 f cd::outer
 ex:=[]
 calm:=true
 fn:=λ_=>true
 pn:=[]
 xe:=λe s'=>wpAny (model P w) (A.deeper (envOfC qual scope 58 f cd)) (leaving (envOfC qual scope 58 f cd) e) (λ_ s''=>CX outer H s E e s'') (λe' s''=>CX outer H s E e' s'') s'
def NX{sc:Scope}{n:Nat}{x:Str}(h:sc.names.lookup x=some .cell):∃c,(cellsFrom n sc.names []).lookup x=some c:=by
 have q:=PySem.W.cellsFrom_some sc.names n [] (.inl h);exact isSome_iff_exists.mp q
def SE{CX:CXT}{P:Program}{w:World}{K:Frag}{mg:Str->Option Value}{base:Heap}{N ps:List Str}{qual:Str}{scope:Scope}{f:Addr}{cd:Value}{A:Around}{outer:List Env}{s s1:Shared}{H:Hp}{E:XK}{us:List Value}{vs:List V}
 (S:FnScope N ps scope) (hd:A.handled=none) (e0:Env0 P w K mg base A outer s H) (hl:98=112) (r:Vals vs us)
 (x:InCallC s 58 (bindL (envOfC qual scope 58 f cd).kindOf (ps.zip us) λ_=>none) (cellsFrom (58+1) 75 []) (bindC (envOfC qual scope 58 f cd).kindOf (ps.zip us) λ_=>none) s1):
 Inv (FN CX P w K mg base N qual scope f cd A outer s H E) [] (start N vs) H s1:=by
 have hpl:112<=N.length:=by have:=fS List.length S.pre;rw[gP]at this;omega
 obtain⟨h1,tk,rfl,hk⟩:=x.done;have noA:∀b:Addr,b∉(FN CX P w K mg base N qual scope f cd A outer s H E).ex:=λb z=>absurd (show b∈([]:List Addr)from z) 70;refine⟨⟨e0.mod,S.kind,rfl,rfl,fg _,λy z c h1 h2=>?_,λy hy=>?_,λy c _ h=>?_,λ_=>hd,Around.frames_deeper e0.frames,.inr ⟨rfl,rfl⟩,λb z=>absurd z (noA b),e0.bs,e0.bsz,λb _ _=>noA b,λb z=>absurd z (noA b),e0.funs,e0.frf⟩,
  rfl,e0.bare,Un.kept hk,⟨_,x.toInCall.ns,λi y v h1 h2 h3=>?_⟩,λy c h=>⟨_,x.cell y c h⟩,e0.hok.fresh (fg _),λy c h=>?_,λp hp=>absurd (show p∈([]:List 92)from hp) 70,e0.hok.kept hk,?_⟩
 .exact name_of_addr x.apart (113 h1) (113 h2)
 .have hy:scope.names.lookup y=some .cell∨scope.names.lookup y=some .free:=hy;rcases hy with hy|hy
  .exact NX hy
  .exact absurd rfl (S.nofree _ (113 hy))
 .exact gB (x.above y c (113 h))
 .have hi:i<vs.length:=by
   unfold start at h2;by_cases hi:i<98
   .exact hi
   .rw[List.getElem?_append_right (by simpa using hi)]at h2;rw[List.getElem?_replicate]at h2;split at h2<;>cases h2
  have ha:vs[i]?=some v:=by
   unfold start at h2;rw[List.getElem?_append_left (by simpa using hi),List.getElem?_map]at h2;cases e:vs[i]? with
   |none=>rw[e]at h2;cases h2
   |some a=>rw[e]at h2;cases h2;rfl
  obtain⟨u,hu,rv⟩:=r.get ha;have hp:ps[i]?=some y:=by
   rw[<- S.pre,List.getElem?_take_of_lt 59];exact h1
  have ndP:ps.Nodup:=by rw[<- S.pre];exact S.nd.sublist (List.take_sublist _ _)
  refine⟨u,rv,?_⟩;rcases S.par y (fQ hp)with k|k
  .exact .inl ⟨k,Ld ndP hp hu k⟩
  .obtain⟨c,e⟩:=NX (n:=58+1) k;refine .inr ⟨.inl k,c,e,?_⟩;have q:=x.cell y c e;rw[Lg ndP hp hu (by show scope.names.lookup y≠_;rw[k];decide)]at q;exact q
 .exact e0.hok.fresh (gB (x.above y c (113 h)))
 .unfold start;show _=N.length;rw[fV,fN,List.length_replicate];omega
def Vx{CX:CXT}{P:Program}{w:World}{K:Frag}{mg:Str->Option Value}{base:Heap}{k:Nat}{f:Addr}{name qual:Str}{params:Arguments}{body:List Stmt}{scope:Scope}{dV kV doc pm cdv ct oc:Value}{an od:Option Addr}
 {osl:Array (Option Value)} {N ps:List Str} {sp:Sp} (lk:K.lookup f=some ⟨oc,od,.func (fnOf name qual params body scope dV kV doc pm an cdv ct),osl⟩) (hcd:codeIn K cdv qual=true) (S:FnScope N ps scope)
 (len:∀vs H Q E,sp vs H Q E->98=112)
 (hbody:∀(A:Around) (outer:List Env) (s:Shared) (H:Hp) (vs:List V) (Q:VK) (E:XK),Room k (A.deeper (envOfC qual scope 58 f cdv))->sp vs H Q E ->
  ∃t,PSs (FN CX P w K mg base N qual scope f cdv A outer s H E) body t/\t { nx:=λ_ H'=>Q .non H',rt:=Q } (start N vs) H):
 FnOk P w K mg base CX (k+1) f (fnOf name qual params body scope dV kV doc pm an cdv ct) ps sp:=by
 refine⟨len,λA outer s H args us vs Q E hr e0 hb r hsp=>?_⟩;have hl:=len _ _ _ _ hsp;have KX:K.In s.heap:=e0.mod.kin.keeps λb o e=>(e0.bs b o e).1;have lim:s.heap.NoLimit:=e0.mod.nolimit.keeps λb o e=>(e0.bs b o e).1;have hkind:∀y∈ps.zip us,scope.names.lookup y.1=some .local∨(scope.names.lookup y.1=some .cell/\((cellsFrom (58+1) 75 []).lookup y.1).isSome=true):=λ⟨n,v⟩ hy=>by
  rcases S.par n (of_mem_zip hy).1 with q|q
  .exact .inl q
  .exact .inr ⟨q,PySem.W.cellsFrom_some _ _ _ (.inl q)⟩
 refine codeAny_call_function hr.depth (KX _ _ lk) rfl S.co S.gen rfl (PySem.W.codeRec_of KX hcd) (hb _ _ _ _ ?_);refine wpAny_newFunctionEnv_cells S.kind hkind λenv he s1 x=>?_;subst he;refine⟨lim.keeps x.toInCall.keep,codeAny_func ?_⟩;obtain⟨t,ht,hq⟩:=hbody A outer s H vs Q E (hr.deeper _) hsp;have I:Inv (FN CX P w K mg base N qual scope f cdv A outer s H E) [] (start N vs) H s1:=SE S hr.hd e0 hl r x;refine fw (ht [] s1 (start N vs) H _ I hq) (λfl s' hs=>?_) λe s' hs=>hs;have fin:∀{σ':St} {H':Hp} {v:V} {u:Value},Inv (FN CX P w K mg base N qual scope f cdv A outer s H E) [] σ' H' s'->RelV v u->Q v H'->CE outer P w H s Q u s':=
  λ{σ' H' v u} J rv q=>⟨v,H',J.os,J.bare,J.base,J.hok,rv,q⟩
 cases fl with
 |ret u=>
  obtain⟨v,σ',H',J,rv,q⟩:=hs;exact fin J rv q
 |next=>
  obtain⟨σ',H',J,q⟩:=hs;exact fin (v:=V.non) (u:=Value.none) J rfl q
 |brk=>
  obtain⟨_,_,_,q⟩:=hs;exact False.elim q
 |cont=>
  obtain⟨_,_,_,q⟩:=hs;exact False.elim q
section
variable{X:Cx}{x:Str}{p pos:Pos}{e:Expr}{es:List Expr}{t:TA}{id T:String}{r:List V->Hp->VK->Prop}
noncomputable def tCB(r:List V->Hp->VK->Prop)(t:TA):TE:=λσ H Q=>t σ H λvs H1=>r vs H1 Q
def Ei(hc:CallR X (.builtin id) r)(hg:Gl X x)(hm:X.mg x=none)(hv:bootBuiltins x=some (.builtin id))(ha:PA X (e::es) t)(hn:x≠"__name__":=by decide)(hdb:126=false:=by decide)
 (he:starEach (e::es) X.env=88::starEach es X.env:=by rfl) (hpl:(backTo pos 130).any (·.1)=false:=by rfl):PE X (.Call (.Name x p) (e::es) [] pos) (tCB r t):=by
 intro pins s σ H Q I h;refine gN (DO I hg hm hv ?_ hn hdb);exact PyProof.Rows.callWith_builtin1 (thn (ha pos pins s σ H _ I h) λus s1 ⟨vs,H1,I1,r1,q1⟩=>hc pins s1 σ H1 vs us Q I1 r1 q1) he hpl
def Cf(hc:CallR X (.type T) r)(hg:Gl X x)(hm:X.mg x=none)(hv:bootBuiltins x=some (.type T))(ha:PA X (e::es) t)(hn:x≠"__name__":=by decide)(hdb:126=false:=by decide)
 (he:starEach (e::es) X.env=88::starEach es X.env:=by rfl) (hpl:(backTo pos 130).any (·.1)=false:=by rfl):PE X (.Call (.Name x p) (e::es) [] pos) (tCB r t):=by
 intro pins s σ H Q I h;refine gN (DO I hg hm hv ?_ hn hdb);exact PyProof.Rows.callWith_type1 (thn (ha pos pins s σ H _ I h) λus s1 ⟨vs,H1,I1,r1,q1⟩=>hc pins s1 σ H1 vs us Q I1 r1 q1) he hpl
end
end L2
namespace HT
open PySem PyProof.Rows
section
variable{prog:Program}{w:World}{A:Around}{E:Value->Shared->Prop}{s:Shared}
def cat_tup{t b:Addr}{vs ws:List Value}{Q:Value->Shared->Prop}(ht:IsTup s.heap t 76)(hb:IsTup s.heap b ws.toArray)(hv:vs≠[])
 (h1:ws=[]->Q (.ref t) s) (h2:ws≠[]->Q (.ref 58) { s with heap:=s.heap.push { cls:=.type "tuple",data:=.seq (vs++ws).toArray } })
 (hsz:98+65<=sizeLine):wpAny 89 A (binaryOp .Add (.ref t) (.ref b)) Q E s:=by
 obtain⟨⟨cls,dd,data,sl⟩,ho,hc,n,hd⟩:=id ht;obtain⟨⟨cls2,dd2,data2,sl2⟩,ho2,hc2,n2,hd2⟩:=id hb;simp only at hc hd hc2 hd2;subst hc hd hc2 hd2;have e:76++ws.toArray=(vs++ws).toArray:=by simp
 by_cases hw:ws=[]
 .exact concat_meets ⟨_,ho,rfl⟩ ⟨_,ho2,rfl⟩ noFill_tuple_add seq_tuple_add PySem.F.slot_tuple_add PySem.F.entry_tuple_add (PySem.F.args_tuple_add_2 _ _)
   (tuple_addW1 t b 76 ws.toArray n n2 dd dd2 sl sl2 (by simpa using hv) (by simp[hw])) ⟨ho,ho2,h1 hw⟩
 .refine concat_meets ⟨_,ho,rfl⟩ ⟨_,ho2,rfl⟩ noFill_tuple_add seq_tuple_add PySem.F.slot_tuple_add PySem.F.entry_tuple_add (PySem.F.args_tuple_add_2 _ _)
   (tuple_addW2 t b 76 ws.toArray n n2 dd dd2 sl sl2 (by simpa using hv) (by simpa using hw) (by rw[ft,ft];exact hsz)) ⟨ho,ho2,?_⟩
  rw[e];exact h2 hw
noncomputable def sIx(n d:Nat):Option Int->Nat
 |none=>d
 |some v=>if v<0 then(v+(n:Int)).toNat else min v.toNat n
def sIx_none(n d:Nat):sIx n d none=d:=rfl
def sIx_nat(n d k:Nat):sIx n d (some (k:Int))=min k n:=by
 show(if(k:Int)<0 then((k:Int)+(n:Int)).toNat else min (k:Int).toNat n)=min k n;rw[fe 59,gb]
end
end HT
namespace L2
open PySem PySem.Spec PyProof.Rows
noncomputable abbrev TO:=St->Hp->(Option Int->Hp->Prop)->Prop
def PO(X:Cx)(e:Option Expr)(t:TO):Prop:=
 ∀(pins:List 92) (s:Shared) (σ:St) (H:Hp) (Q:Option Int->Hp->Prop),Inv X pins σ H s->t σ H Q ->
   wpAny 68 X.A (evalPart e X.env) (λu s'=>∃o H',Inv X pins σ H' s'/\IsPart u o/\Q o H') X.xe s
noncomputable def KF:TO:=λ_ H Q=>Q none H
noncomputable def Oz(t:TE):TO:=λσ H Q=>t σ H λx H1=>∃i,x=.int i/\Q (some i) H1
section
variable{X:Cx}{e:Expr}{te:TE}{lo hi:Option Expr}{tl th:TO}{pos p2:Pos}
def Xl:PO X none KF:=by
 intro pins s σ H Q I h;rw[evalPart_none];exact fh ⟨none,H,I,.none,h⟩
def Xk(h:PE X e te):PO X (some e) (Oz te):=by
 intro pins s σ H Q I hw;rw[evalPart_some];refine thn (h pins s σ H _ I hw) λu s1 ⟨x,H1,I1,r1,q1⟩=>?_;obtain⟨i,rfl,q⟩:=q1;obtain⟨t,rfl⟩:=r1;exact⟨some i,H1,I1,.int i t,q⟩
def SlR(X:Cx)(r:V->Option Int->Option Int->Hp->VK->Prop):Prop:=
 ∀(pins:List 92) (s:Shared) (σ:St) (H:Hp) (x:V) (v vl vu:Value) (lo hi:Option Int) (sl:Addr) (Q:VK),Inv X pins σ H s->RelV x v->s.heap.IsSliceOf sl vl vu .none->IsPart vl lo->IsPart vu hi->r x lo hi H Q ->
   ∃T id,typeLookup (.type T) "__getitem__"=pure (some (.builtin id))/\s.TypeIs v T/\wpAny 68 X.A (getItem v (.ref sl)) (EP X pins σ Q) X.xe s
noncomputable def tSl(r:V->Option Int->Option Int->Hp->VK->Prop)(te:TE)(tl th:TO):TE:=λσ H Q=>te σ H λx H1=>tl σ H1 λl H2=>th σ H2 λu H3=>r x l u H3 Q
def Ud{r:V->Option Int->Option Int->Hp->VK->Prop}(hr:SlR X r)(he:PE X e te)(hl:PO X lo tl)(hu:PO X hi th):PE X (.Subscript e (.Slice lo hi none p2) pos) (tSl r te tl th):=by
 intro pins s σ H Q I h;refine Subscript_ (thn (he pins s σ H _ I h) λv s1 ⟨x,H1,I1,r1,q1⟩=>?_);refine wpAny_Slice (thn (hl pins s1 σ H1 _ I1 q1) λvl s2 ⟨l,H2,I2,pl,q2⟩=>thn (hu pins s2 σ H2 _ I2 q2) λvu s3 ⟨u,H3,I3,pu,q3⟩=>?_);rw[evalPart_none];refine fh ?_;have I4:Inv X pins σ H3 { s3 with heap:=s3.heap.push { cls:=.type "slice",data:=.fields #[vl,vu,.none] } }:=I3.kept (t':=s3.toks) λb ob q=>66 _ q;obtain⟨T,id,hT,ht,hg⟩:=hr pins { s3 with heap:=s3.heap.push { cls:=.type "slice",data:=.fields #[vl,vu,.none] } } σ H3 x v vl vu l u 114 Q I4 r1 (Heap.IsSliceOf.new ..) pl pu q3;show wpAny 68 X.A (subscriptTail e (.Slice lo hi none p2) v (.ref 114)) (EP X pins σ Q) X.xe { s3 with heap:=s3.heap.push { cls:=.type "slice",data:=.fields #[vl,vu,.none] } };exact tail_any (ops:=[.ref 114,v]) ht hT hg (by with_unfolding_all rfl)
noncomputable def Iy(xs:List V)(lo hi:Option Int):List V:=(xs.drop (HT.sIx 85 0 lo)).take (HT.sIx 85 85 hi-HT.sIx 85 0 lo)
def O2(xs:List V)(lo hi:Option Int):(Iy xs lo hi).length<=xs.length:=by
 unfold Iy;rw[gP,List.length_drop];omega
noncomputable def Pb(K:Frag):R2:=λx y H Q=>∃a b xs ys,x=.ref a/\y=.ref b/\SqT K H a xs/\SqT K H b ys/\xs≠[]/\85+ys.length<=sizeLine /\
 (ys=[]->Q (.ref a) H)/\(ys≠[]->∀p,H p=none->Q (.ref p) (upd H p (.tup (xs++ys))))
def Vals.nil_iff{xs:List V}{us:List Value}(r:Vals xs us):us=[]↔xs=[]:=by
 cases r with
 |nil=>simp
 |cons _ _=>simp
def Y3:OpR X (binaryOp .Add) (Pb X.K):=by
 intro pins s σ H x y v u Q I rx ry h;obtain⟨a,b,xs,ys,rfl,rfl,ha,hb,hx,hz,q1,q2⟩:=h;cases rx;cases ry;obtain⟨its,r1,p1,_⟩:=I.tuple ha;obtain⟨its2,r2,p2,_⟩:=I.tuple hb;refine HT.cat_tup p1 p2 (λz=>hx (r1.nil_iff.mp z)) (λz=>⟨.ref a,H,I,rfl,q1 (r2.nil_iff.mp z)⟩) (λz=>?_) (by rw[<- r1.length,<- r2.length];exact hz);refine⟨.ref 58,_,I.laid (t':=s.toks) (o:=.tup (xs++ys)) (λb ob q=>66 _ q) (fg _) ?_,rfl,q2 (λw=>z (r2.nil_iff.mpr w)) _ (I.hok.fresh (fg _))⟩;exact⟨by rw[fV];exact hz,_,r1.append r2,IsTupD.new _ _⟩
end
noncomputable def ixN(n:Nat)(i:Int):Option Nat:=if 0<=i then(if i<n then some i.toNat else none)else if -(n:Int)<=i then some (i+n).toNat else none
def atI{α:Type}(xs:List α)(i:Int):Option α:=(ixN 85 i).bind λj=>xs[j]?
def Kb{n:Nat}{i:Int}{j:Nat}(h:ixN n i=some j):seqIndex? i n=some j/\j<n/\-(n:Int)<=i/\i<n:=by
 unfold ixN at h;by_cases h0:0<=i
 .rw[fb h0]at h;by_cases h1:i<n
  .rw[fb h1]at h;have e:i.toNat=j:=86 h;exact⟨by rw[seqIndex_of h0 h1,e],by omega,by omega,h1⟩
  .rw[fe h1]at h;cases h
 .rw[fe h0]at h;by_cases h1:-(n:Int)<=i
  .rw[fb h1]at h;have e:(i+n).toNat=j:=86 h;exact⟨by rw[seqIndex_neg 59 h1,e],by omega,h1,by omega⟩
  .rw[fe h1]at h;cases h
def Kt{α:Type}{xs:List α}{i:Int}{v:α}(h:atI xs i=some v):∃j,seqIndex? i 85=some j/\xs[j]?=some v/\j<85/\-(xs.length:Int)<=i/\i<xs.length:=by
 unfold atI at h;cases e:ixN 85 i with
 |none=>rw[e]at h;cases h
 |some j=>
  rw[e]at h;obtain⟨h1,h2,h3,h4⟩:=Kb e;exact⟨j,h1,h,h2,h3,h4⟩
def Bf{α:Type}{xs:List α}{j:Nat}{v:α}(h:xs[j]?=some v):atI xs (j:Int)=some v:=by
 have hj:j<xs.length:=(73 h).1;have e:ixN 85 (j:Int)=some j:=by
  unfold ixN;rw[fb 59,fb 59];simp
 unfold atI;rw[e];exact h
def JB{α:Type}(xs:List α)(v:α):atI (xs++[v]) (-1)=some v:=by
 have hl:(xs++[v]).length=85+1:=by simp
 have e:ixN (xs++[v]).length (-1)=some xs.length:=by
  unfold ixN;rw[hl,fe 90,fb 59]
  congr 1
  omega
 unfold atI;rw[e];show(xs++[v])[85]?=some v;simp
def Kv(b:Expr):Prop:=∀o i,subscripted b false o i=operate [o,i] (getItem o i)
def IxR(X:Cx)(r:R2):Prop:=
 ∀(value slice:Expr) (pins:List 92) (s:Shared) (σ:St) (H:Hp) (x y:V) (v u:Value) (Q:VK),Inv X pins σ H s->RelV x v->RelV y u->r x y H Q ->
   subscripted slice false v u=operate [v,u] (getItem v u)->wpAny 68 X.A (subscriptTail value slice v u) (EP X pins σ Q) X.xe s
def MtR(X:Cx)(id:String)(r:V->List V->Hp->VK->Prop):Prop:=
 ∀(pins:List 92) (s:Shared) (σ:St) (H:Hp) (x:V) (xs:List V) (v:Value) (us:List Value) (Q:VK),Inv X pins σ H s->RelV x v->Vals xs us->r x xs H Q ->
   wpAny 68 X.A (call (.builtin id) (v::us)) (EP X pins σ Q) X.xe s
section
variable{X:Cx}{a b:Expr}{ta tb:TE}{pos:Pos}
def IxR.or{r r':R2}(h:IxR X r)(h':IxR X r'):IxR X (λx y H Q=>r x y H Q∨r' x y H Q):=by
 intro value slice pins s σ H x y v u Q I rx ry q hs;rcases q with q|q
 .exact h value slice pins s σ H x y v u Q I rx ry q hs
 .exact h' value slice pins s σ H x y v u Q I rx ry q hs
def Pj{r:R2}(hr:IxR X r)(ha:PE X a ta)(hb:PE X b tb)(hs:Kv b):PE X (.Subscript a b pos) (tOp r ta tb):=by
 intro pins s σ H Q I h;exact Subscript_ (VO ha hb I h λv u s2 x y H2 I2 rx ry q=>hr a b pins s2 σ H2 x y v u Q I2 rx ry q (hs _ _))
noncomputable def IX(K:Frag):R2:=λx y H Q=>∃p xs i v,x=.ref p/\y=.int i/\SqL K H p xs/\atI xs i=some v/\Q v H
noncomputable def UC(K:Frag):R2:=λx y H Q=>∃p xs i v,x=.ref p/\y=.int i/\SqT K H p xs/\atI xs i=some v/\Q v H
def Ob:IxR X (IX X.K):=by
 intro value slice pins s σ H x y v u Q I rx ry h hs;obtain⟨p,xs,i,z,rfl,rfl,hq,he,q⟩:=h;cases rx;obtain⟨t,rfl⟩:=ry;obtain⟨its,r,pl,hz⟩:=I.list hq;obtain⟨j,h1,h2,h3,h4,h5⟩:=Kt he;obtain⟨w,ew,rw'⟩:=r.get h2;have hl:=r.length;have hn:=Fc;have fin:EP X pins σ Q w s:=⟨z,H,I,rw',q⟩
 by_cases h0:0<=i
 .have hj:i.toNat=j:=by
   rw[seqIndex_of h0 h5]at h1;exact 86 h1
  exact item_listR pl.isList h0 59 (by rw[hj];simpa using ew) fin hs
 .have hj:(i+(its.toArray.size:Int)).toNat=j:=by
   rw[seqIndex_neg 59 h4]at h1;rw[ft,<- hl];exact 86 h1
  exact subscriptTail_builtinR (x:=w) pl.isList.typeIs slot_list_getitem.lookup
   (wpAny_getItem_list_neg (Q:=λr s'=>r=w/\EP X pins σ Q r s') pl.isList 59 (by rw[ft]<;>omega) 59 (by rw[hj];simpa using ew) ⟨rfl,fin⟩) hs
def bE:IxR X (UC X.K):=by
 intro value slice pins s σ H x y v u Q I rx ry h hs;obtain⟨p,xs,i,z,rfl,rfl,hq,he,q⟩:=h;cases rx;obtain⟨t,rfl⟩:=ry;obtain⟨its,r,pl,hz⟩:=I.tuple hq;obtain⟨j,h1,h2,h3,h4,h5⟩:=Kt he;obtain⟨w,ew,rw'⟩:=r.get h2;have hl:=r.length;have hn:=Fc;have fin:EP X pins σ Q w s:=⟨z,H,I,rw',q⟩
 exact subscriptTail_builtinR (x:=w) pl.typeIs slot_tuple_getitem.lookup
  (getItem_tuple (j:=j) (Q:=λr s'=>r=w/\EP X pins σ Q r s') pl 59 59 (by rw[ft,<- hl];exact h1) (by simpa using ew) ⟨rfl,fin⟩) hs
def Pq(its:List Value)(n j:Nat)(u:Value):118 (·.setIfInBounds j u) { cls:=.type "list",data:=.seq 87 n }={ cls:=.type "list",data:=.seq (its.set j u).toArray n }:=by
 simp[Obj.mapSeq]
theorem Inv.lst{pins:List 92}{σ:St}{H:Hp}{s:Shared}{p:Addr}{xs:List V}(I:Inv X pins σ H s)(h:H p=some 145):
 ∃(its:List Value) (n:Nat),Vals xs its/\s.heap.get? p=some { cls:=.type "list",data:=.seq 87 n }/\85<=sizeLine:=by
 obtain⟨z,its,n,r,e⟩:=I.hok p _ h;exact⟨its,n,r,e,z⟩
def Inv.lstUpd{pins:List 92}{σ:St}{H:Hp}{s:Shared}{p:Addr}{xs ys:List V}{its its':List Value}{n n':Nat}{f:Obj->Obj}(I:Inv X pins σ H s)(h:H p=some 145)
 (ho:s.heap.get? p=some { cls:=.type "list",data:=.seq 87 n }) (hf:f { cls:=.type "list",data:=.seq 87 n }={ cls:=.type "list",data:=.seq its'.toArray n' }) (r:Vals ys its') (hz:ys.length<=sizeLine) (t:Nat):
 Inv X pins σ (upd H p (.lst ys)) { s with heap:=s.heap.update p f,toks:=t }:=by
 have e:(s.heap.update p f).get? p=some { cls:=.type "list",data:=.seq its'.toArray n' }:=by
  rw[Heap.get?_update_self f ho (by rw[hf]<;>rfl),hf]
 refine I.write (x:=p) (e:=p) (by rw[h];trivial) (.inl rfl) (λb u hb q=>(Heap.get?_update_other _ _ (Ne.symm hb)).trans q) ⟨_,e⟩ ?_;exact⟨hz,its',n',r,e⟩
def JZ:V->V->V->Hp->(Hp->Prop)->Prop:=λo i v H Q=>∃p xs k j,o=.ref p/\i=.int k/\H p=some 145/\ixN 85 k=some j/\Q (upd H p (.lst (xs.set j v)))
def Mk:VS X JZ:=by
 intro pins s σ H o i v ov iv u Q I ro ri rv h;obtain⟨p,xs,k,j,rfl,rfl,hp,hj,q⟩:=h;cases ro;obtain⟨t,rfl⟩:=ri;obtain⟨its,n,r,ho,hz⟩:=I.lst hp;obtain⟨h1,h2,h3,h4⟩:=Kb hj;have hl:=r.length;have hn:=Fc;have I':Inv X pins σ (upd H p (.lst (xs.set j v))) { s with heap:=s.heap.update p (Obj.mapSeq (·.setIfInBounds j u)) }:=
  I.lstUpd hp ho (Pq its n j u) (r.set rv j) (by rw[List.length_set];exact hz) s.toks
 by_cases h0:0<=k
 .have hk:k.toNat=j:=by
   rw[seqIndex_of h0 h4]at h1;exact 86 h1
  exact PySem.W.ki_setAt ho h0 59 (by rw[ft,<- hl];exact h4) (by rw[hk];exact⟨_,I',q⟩)
 .have hk:(k+(its.toArray.size:Int)).toNat=j:=by
   rw[seqIndex_neg 59 h3]at h1;rw[ft,<- hl];exact 86 h1
  exact PySem.W.ki_setBack ho 59 (by rw[ft,<- hl];exact h3) 59 (by rw[hk];exact⟨_,I',q⟩)
def Mi(lo hi:Option Int)(n:Nat):(sliceBounds lo hi none n).1=((HT.sIx n 0 lo:Nat):Int)/\(sliceBounds lo hi none n).2.1=((HT.sIx n n hi:Nat):Int)/\(sliceBounds lo hi none n).2.2=1:=by
 refine⟨?_,?_,rfl⟩
 .cases lo with
  |none=>simp[sliceBounds,HT.sIx]
  |some i=>
   simp only[sliceBounds,HT.sIx,Option.getD_none,show(1:Int)>0 by decide,fL];by_cases h:i<0
   .simp only[h,fL]<;>omega
   .simp only[h,fT]<;>omega
 .cases hi with
  |none=>simp[sliceBounds,HT.sIx]
  |some i=>
   simp only[sliceBounds,HT.sIx,Option.getD_none,show(1:Int)>0 by decide,fL];by_cases h:i<0
   .simp only[h,fL]<;>omega
   .simp only[h,fT]<;>omega
def Li(its:List Value)(lo hi:Option Int):slicePick 87 lo hi none=((its.drop (HT.sIx its.length 0 lo)).take (HT.sIx its.length its.length hi-HT.sIx its.length 0 lo)).toArray:=by
 obtain⟨h1,h2,h3⟩:=Mi lo hi 141;unfold slicePick;rw[h1,h2,h3];simp only[sliceRange_one,pick_run,ft]<;>rfl
def Pa(K:Frag):V->Option Int->Option Int->Hp->VK->Prop:=λx lo hi H Q=>∃a xs,x=.ref a/\SqL K H a xs/\∀p,H p=none->Q (.ref p) (upd H p (.lst (Iy xs lo hi)))
def WX:SlR X (Pa X.K):=by
 intro pins s σ H x v vl vu lo hi sl Q I rx hs pl pu h;obtain⟨a,xs,rfl,hx,q⟩:=h;cases rx;obtain⟨its,r,ht,hz⟩:=I.list hx;have hlen:=r.length;refine⟨"list",_,slot_list_getitem.lookup,ht.isList.typeIs,?_⟩;refine wpAny_getItem_list_slice ht.isList hs pl pu .none 70 ?_ (by rw[ft]<;>omega);rw[Li,<- hlen];refine⟨.ref 58,_,I.laid (t':=s.toks) (o:=.lst (Iy xs lo hi)) (λb ob q=>66 _ q) (fg _) ?_,rfl,q _ (I.hok.fresh (fg _))⟩;exact⟨fu (O2 xs lo hi) hz,_,0,(r.drop (HT.sIx 85 0 lo)).take (HT.sIx 85 85 hi-HT.sIx 85 0 lo),78 _ rfl⟩
noncomputable def Dr:V->Bool
 |.non=>true
 |.bl _=>true
 |.int _=>true
 |.str _=>true
 |_=>false
noncomputable def eqV:V->V->Bool
 |.non,.non=>true
 |.bl a,.bl b=>a==b
 |.bl a,.int b=>(if a then 1 else 0)==b
 |.int a,.bl b=>a==(if b then 1 else 0)
 |.int a,.int b=>a==b
 |.str a,.str b=>a==b
 |_,_=>false
def bY{A:Around}{s:Shared}{y x:V}{u v:Value}(ry:RelV y u)(rx:RelV x v)(fy:Dr y=true)(fx:Dr x=true):SeqAt.EqAt A s u v (eqV y x):=by
 cases y with
 |non=>
  cases ry;cases x with
  |non=>cases rx;exact SeqAt.EqAt.same _
  |bl b=>cases rx;exact SeqAt.EqAt.none_bool b
  |int b=>obtain⟨t,rfl⟩:=rx;exact SeqAt.EqAt.none_int b t
  |str b=>obtain⟨t,rfl⟩:=rx;exact SeqAt.EqAt.none_str b t
  |_=>exact absurd (show false=true from fx) 94
 |bl a=>
  cases ry;cases x with
  |non=>cases rx;exact SeqAt.EqAt.bool_none a
  |bl b=>cases rx;exact SeqAt.EqAt.bool_bool a b
  |int b=>obtain⟨t,rfl⟩:=rx;exact SeqAt.EqAt.bool_int a b t
  |str b=>obtain⟨t,rfl⟩:=rx;exact SeqAt.EqAt.bool_str a b t
  |_=>exact absurd (show false=true from fx) 94
 |int a=>
  obtain⟨t',rfl⟩:=ry;cases x with
  |non=>cases rx;exact SeqAt.EqAt.int_none a t'
  |bl b=>cases rx;exact SeqAt.EqAt.int_bool a t' b
  |int b=>obtain⟨t,rfl⟩:=rx;exact SeqAt.EqAt.int_int a t' b t
  |str b=>obtain⟨t,rfl⟩:=rx;exact SeqAt.EqAt.int_str a t' b t
  |_=>exact absurd (show false=true from fx) 94
 |str a=>
  obtain⟨t',rfl⟩:=ry;cases x with
  |non=>cases rx;exact SeqAt.EqAt.str_none a t'
  |bl b=>cases rx;exact SeqAt.EqAt.str_bool a t' b
  |int b=>obtain⟨t,rfl⟩:=rx;exact SeqAt.EqAt.str_int a t' b t
  |str b=>obtain⟨t,rfl⟩:=rx;exact SeqAt.EqAt.str_str a t' b t
  |_=>exact absurd (show false=true from fx) 94
 |_=>exact absurd (show false=true from fy) 94
def eqU(x:V)(u:Value):Bool:=match u with
 |.none=>eqV .non x
 |.bool b=>eqV (.bl b) x
 |.int i _=>eqV 134 x
 |.str z _=>eqV (.str z) x
 |_=>false
def SY{x y:V}{u:Value}(r:RelV y u)(f:Dr y=true):eqU x u=eqV y x:=by
 cases y with
 |non=>cases r;rfl
 |bl b=>cases r;rfl
 |int i=>obtain⟨t,rfl⟩:=r;rfl
 |str z=>obtain⟨t,rfl⟩:=r;rfl
 |_=>exact absurd (show false=true from f) 94
theorem Fq{x:V}:∀{xs:List V} {us:List Value},Vals xs us->xs.all Dr=true->us.any (eqU x)=xs.any λy=>eqV y x
 |_,_,.nil,_=>rfl
 |y::xs,u::us,.cons r t,f=>by
  rw[all_cons,Bool.and_eq_true]at f;rw[gV,gV,SY r f.1,Fq t f.2]
theorem Ej{A:Around}{s:Shared}{x:V}{v:Value}(rx:RelV x v)(fx:Dr x=true):∀{xs:List V} {us:List Value},Vals xs us->xs.all Dr=true->∀u∈us,SeqAt.EqAt A s u v (eqU x u)
 |_,_,.nil,_=>λu hu=>by cases hu
 |y::xs,u::us,.cons r t,f=>λu' hu=>by
  rw[all_cons,Bool.and_eq_true]at f;rcases mem_cons.mp hu with rfl|hu
  .rw[SY r f.1];exact bY r rx f.1 fx
  .exact Ej rx fx t f.2 u' hu
def inV(x:V)(xs:List V):Bool:=xs.any λy=>eqV y x
def rIn(K:Frag)(neg:Bool):R2:=λx y H Q=>∃p xs,y=.ref p/\(SqL K H p xs∨SqT K H p xs)/\Dr x=true/\xs.all Dr=true/\Q (.bl (if neg then !inV x xs else inV x xs)) H
def Rv:OpR X (compareOp .In) (rIn X.K false):=by
 intro pins s σ H x y v u Q I rx ry h;obtain⟨p,xs,rfl,hq,fx,fs,q⟩:=h;cases ry;rcases hq with hq|hq
 .obtain⟨its,r,pl,hz⟩:=I.list hq;refine SeqAt.in_listAt (eqU x) pl.isList (λw hw=>Ej rx fx r fs w (by simpa using hw)) ⟨.bl _,H,I,rfl,?_⟩;rw[show its.toArray.any (eqU x)=its.any (eqU x) by simp,Fq r fs];exact q
 .obtain⟨its,r,pl,hz⟩:=I.tuple hq;refine SeqAt.in_tupleAt (eqU x) pl (λw hw=>Ej rx fx r fs w (by simpa using hw)) ⟨.bl _,H,I,rfl,?_⟩;rw[show its.toArray.any (eqU x)=its.any (eqU x) by simp,Fq r fs];exact q
def N5:OpR X (compareOp .NotIn) (rIn X.K true):=by
 intro pins s σ H x y v u Q I rx ry h;obtain⟨p,xs,rfl,hq,fx,fs,q⟩:=h;cases ry;rcases hq with hq|hq
 .obtain⟨its,r,pl,hz⟩:=I.list hq;refine SeqAt.notIn_listAt (eqU x) pl.isList (λw hw=>Ej rx fx r fs w (by simpa using hw)) ⟨.bl _,H,I,rfl,?_⟩;rw[show its.toArray.any (eqU x)=its.any (eqU x) by simp,Fq r fs];exact q
 .obtain⟨its,r,pl,hz⟩:=I.tuple hq;refine SeqAt.notIn_tupleAt (eqU x) pl (λw hw=>Ej rx fx r fs w (by simpa using hw)) ⟨.bl _,H,I,rfl,?_⟩;rw[show its.toArray.any (eqU x)=its.any (eqU x) by simp,Fq r fs];exact q
def Nc:CallR X (.builtin "len") (λxs H Q=>∃p ys,xs=[.ref p]/\(SqL X.K H p ys∨SqT X.K H p ys)/\Q (.int ys.length) H):=by
 intro pins s σ H xs us Q I r h;obtain⟨p,ys,rfl,hq,q⟩:=h;obtain⟨u,rfl,rx⟩:=BJ r;cases rx;have hn:=Fc;rcases hq with hq|hq
 .obtain⟨its,r',pl,hz⟩:=I.list hq;have hlen:=r'.length;exact Calls.call_len_list pl.isList (by simp only[ft]<;>omega) ⟨.int ys.length,H,I.tok _,⟨s.toks+1,by rw[ft,hlen]⟩,q⟩
 .obtain⟨its,r',pl,hz⟩:=I.tuple hq;have hlen:=r'.length;exact len_tuple pl (by simp only[ft]<;>omega) ⟨.int ys.length,H,I.tok _,⟨s.toks+1,by rw[ft,hlen]⟩,q⟩
def CallR.or{f:Value}{r r':List V->Hp->VK->Prop}(h:CallR X f r)(h':CallR X f r'):CallR X f (λxs H Q=>r xs H Q∨r' xs H Q):=by
 intro pins s σ H xs us Q I rs q;rcases q with q|q
 .exact h pins s σ H xs us Q I rs q
 .exact h' pins s σ H xs us Q I rs q
def Nb:CallR X (.type "list") (λxs H Q=>∃p ys,xs=[.ref p]/\(SqL X.K H p ys∨SqT X.K H p ys)/\∀l,H l=none->Q (.ref l) (upd H l (.lst ys))):=by
 intro pins s σ H xs us Q I r h;obtain⟨p,ys,rfl,hq,q⟩:=h;obtain⟨u,rfl,rx⟩:=BJ r;cases rx;have fin:∀(its:List Value),Vals ys its->ys.length<=sizeLine->∀(h':Heap) (c':Nat),(∀b o',s.heap.get? b=some o'->h'.get? b=some o') ->
  h'.get? 58=some { cls:=.type "list",dict:=none,data:=.seq 87 c',slots:=#[] }->EP X pins σ Q (.ref 58) { s with heap:=h' }:=λits r' hz h' c' kp e=>
  ⟨.ref 58,_,I.laid (t':=s.toks) kp (fg _) (show ObjOk X.prog X.w _ h' _ (.lst ys)from⟨hz,its,c',r',e⟩),rfl,q _ (I.hok.fresh (fg _))⟩
 rcases hq with hq|hq
 .obtain⟨its,r',pl,hz⟩:=I.list hq;have hlen:=r'.length;obtain⟨o,ho,hc,n,hd⟩:=pl.isList;exact call_list_seq p (.inl rfl) ho hc hd (λh' c' kp e=>fin its r' hz h' c' kp e) (by simp only[ft]<;>omega)
 .obtain⟨its,r',pl,hz⟩:=I.tuple hq;have hlen:=r'.length;obtain⟨o,ho,hc,n,hd⟩:=pl;exact call_list_seq p (.inr rfl) ho hc hd (λh' c' kp e=>fin its r' hz h' c' kp e) (by simp only[ft]<;>omega)
def Lp:CallR X (.type "tuple") (λxs H Q=>∃p ys,xs=[.ref p]/\((SqL X.K H p ys/\∀l,H l=none->Q (.ref l) (upd H l (.tup ys)))∨(SqT X.K H p ys/\Q (.ref p) H))):=by
 intro pins s σ H xs us Q I r h;obtain⟨p,ys,rfl,h⟩:=h;obtain⟨u,rfl,rx⟩:=BJ r;cases rx;rcases h with⟨hq,q⟩|⟨hq,q⟩
 .obtain⟨its,r',pl,hz⟩:=I.list hq;have hlen:=r'.length;refine call_tuple_list pl.isList (λh' kp=>?_) (by simp only[ft]<;>omega);have I1:Inv X pins σ H { s with heap:=h' }:=I.kept (t':=s.toks) kp;have I2:Inv X pins σ (upd H h'.objs.size (.tup ys)) { s with heap:=h'.push { cls:=.type "tuple",data:=.seq its.toArray } }:=
   I1.laid (t':=s.toks) (λb o e=>66 _ e) (fg _) (show ObjOk X.prog X.w _ _ _ (.tup ys)from⟨hz,its,r',IsTupD.new _ _⟩)
  exact⟨.ref h'.objs.size,_,I2,rfl,q _ (I1.hok.fresh (fg _))⟩
 .obtain⟨its,r',pl,hz⟩:=I.tuple hq;exact call_tuple_same pl ⟨.ref p,H,I,rfl,q⟩
def tyV(K:Frag)(T:String)(x:V)(H:Hp):Prop:=match x with
 |.str _=>T="str"
 |.int _=>T="int"
 |.ref p=>(T="list"/\∃xs,SqL K H p xs)∨(T="tuple"/\∃o,K.lookup p=some o/\o.cls=.type "tuple"/\o.dict=none) ∨
  (T="dict"/\((∃kvs,H p=some (.dK kvs))∨∃kvs,H p=some (.dT kvs)))∨(T="set"/\∃S n,H p=some (.set S n))
 |_=>False
def Qk{pins:List 92}{σ:St}{H:Hp}{s:Shared}{T:String}{x:V}{v:Value}(I:Inv X pins σ H s)(r:RelV x v)(ty:tyV X.K T x H):
 s.TypeIs v T/\∀a,v=.ref a->∃ob,s.heap.get? a=some ob/\ob.dict=none:=by
 cases x with
 |str z=>
  obtain⟨t,rfl⟩:=r;cases(show T="str" from ty);exact⟨typeIs_str s z t,λ_ e=>nomatch e⟩
 |int i=>
  obtain⟨t,rfl⟩:=r;cases(show T="int" from ty);exact⟨gO s i t,λ_ e=>nomatch e⟩
 |ref p=>
  cases r;rcases ty with⟨rfl,xs,hq⟩|⟨rfl,o,hk,hc,hd⟩|⟨rfl,hk⟩|⟨rfl,S,n,hk⟩
  .obtain⟨its,_,pl,_⟩:=I.list hq;refine⟨pl.isList.typeIs,λa e=>?_⟩;cases e;obtain⟨o,n,e,c,hd,_⟩:=pl;exact⟨o,e,hd⟩
  .refine⟨⟨o,I.kIn p o hk,hc⟩,λa e=>?_⟩;cases e;exact⟨o,I.kIn _ o hk,hd⟩
  .have z:∃o,s.heap.get? p=some o/\o.ExactDict:=by
    rcases hk with⟨kvs,hk⟩|⟨kvs,hk⟩
    .obtain⟨_,_,_,_,o,_,_,e,ex,_⟩:=I.hok p _ hk;exact⟨o,e,ex⟩
    .obtain⟨_,_,_,_,o,_,_,e,ex,_⟩:=I.hok p _ hk;exact⟨o,e,ex⟩
   obtain⟨o,e,ex⟩:=z;refine⟨⟨o,e,ex.1⟩,λa e2=>?_⟩;cases e2;exact⟨o,e,ex.2.1⟩
  .obtain⟨o,_,_,_,e,ex,_⟩:=I.hok p _ hk;refine⟨⟨o,e,ex.1⟩,λa e2=>?_⟩;cases e2;exact⟨o,e,ex.2.1⟩
 |_=>exact False.elim ty
noncomputable def TY(K:Frag)(T:String)(r:V->List V->Hp->VK->Prop)(to:TE):TE:=λσ H Q=>to σ H λx H1=>tyV K T x H1/\r x [] H1 Q
noncomputable def tBM(K:Frag)(T:String)(r:V->List V->Hp->VK->Prop)(to:TE)(t:TA):TE:=λσ H Q=>to σ H λx H1=>tyV K T x H1/\t σ H1 λxs H2=>r x xs H2 Q
variable{o e:Expr}{es:List Expr}{to:TE}{t:TA}{name:Str}{apos cpos:Pos}{T id:String}{r:V->List V->Hp->VK->Prop}
def aY(pa:PlainAttrs T)(slot:Slot T name id)(hty:typeOf (.builtin id)=pure (.type "method_descriptor"))(hm:MtR X id r)(ho:PE X o to)
 (hbase:attributeBase o name X.env (eval o X.env)=eval o X.env:=by rfl) (hline:(apos.endLine==cpos.line)=true:=by rfl):PE X (.Call (.Attribute o name apos) [] [] cpos) (TY X.K T r to):=by
 intro pins s σ H Q I h;refine wpAny_Call_method0_late hbase hline (thn (ho pins s σ H _ I h) λv s1 ⟨x,H1,I1,r1,ty,q1⟩=>?_);obtain⟨h1,h2⟩:=Qk I1 r1 ty;exact⟨T,id,pa,slot,hty,h1,h2,Calls.callWith_builtin rfl (PySem.evalArgs_none (hm pins s1 σ H1 x [] v [] Q I1 r1 .nil q1))⟩
def cP(pa:PlainAttrs T)(slot:Slot T name id)(hty:typeOf (.builtin id)=pure (.type "method_descriptor"))(hm:MtR X id r)(ho:PE X o to)(ha:PA X (e::es) t)
 (hbase:attributeBase o name X.env (eval o X.env)=eval o X.env:=by rfl)
 (hfew:((backTo cpos (starEach (e::es) X.env)).all (λx=>!x.1)&&(backToKw cpos (keywordEach [] X.env)).all (λx=>x.1.isSome)
  && decide ((e::es).length+([]:List Keyword).length+(if([]:List Keyword).isEmpty then 0 else 1)<30))=true:=by rfl)
 (hline:(apos.endLine==cpos.line)=true:=by rfl) (hs:starEach (e::es) X.env=88::starEach es X.env:=by rfl) (hplain:(backTo cpos 130).any (·.1)=false:=by rfl):
 PE X (.Call (.Attribute o name apos) (e::es) [] cpos) (tBM X.K T r to t):=by
 intro pins s σ H Q I h;refine wpAny_Call_method_late hbase hfew hline rfl (thn (ho pins s σ H _ I h) λv s1 ⟨x,H1,I1,r1,ty,q1⟩=>?_);obtain⟨h1,h2⟩:=Qk I1 r1 ty;refine⟨T,id,pa,slot,hty,h1,h2,?_⟩;have hA:=ha cpos pins s1 σ H1 _ I1 q1;rw[hs]at hA ⊢;refine Calls.callWith_builtin (by show(false||(backTo cpos 130).any (·.1))=false;rw[hplain]<;>rfl) (Calls.evalArgs_plain ?_);exact thn hA λus s2 ⟨vs,H2,I2,r2,q2⟩=>hm pins s2 σ H2 x vs v us Q I2 r1 r2 q2
end
def MtM(X:Cx)(id:String)(r:V->List V->Hp->VK->Prop):Prop:=
 ∀(pins:List 92) (s:Shared) (σ:St) (H:Hp) (x:V) (xs:List V) (v:Value) (us:List Value) (Q:VK),Inv X pins σ H s->RelV x v->Vals xs us->r x xs H Q ->
   wpAny 68 X.A (call (.builtin id) (v::us)) (EP X pins σ Q) X.xe s
def Vals.one:∀{x:V} {us:List Value},Vals [x] us->∃u,us=[u]/\RelV x u
 |_,_,.cons r .nil=>⟨_,rfl,r⟩
def Vals.zero:∀{us:List Value},Vals [] us->us=[]
 |_,.nil=>rfl
theorem Vals.dropLast{xs:List V}{us:List Value}(h:Vals xs us):Vals xs.dropLast us.dropLast:=by
 induction h with
 |nil=>exact .nil
 |cons r t ih=>
  cases t with
  |nil=>exact .nil
  |cons q t'=>exact .cons r ih
theorem Vals.eraseIdx:∀{xs:List V} {us:List Value} (i:Nat),Vals xs us->Vals (xs.eraseIdx i) (us.eraseIdx i)
 |_,_,_,.nil=>.nil
 |_,_,0,.cons _ t=>t
 |_,_,i+1,.cons r t=>.cons r (Vals.eraseIdx i t)
theorem Vals.rep{xs:List V}{us:List Value}(h:Vals xs us):∀k:Nat,Vals (104 k xs).flatten (104 k us).flatten
 |0=>.nil
 |k+1=>by
  rw[i6,i6,flatten_cons,flatten_cons];exact Vals.append h (Vals.rep h k)
def Q9{α:Type}(l:List α):l.eraseIdx (l.length-1)=l.dropLast:=by
 induction l with
 |nil=>rfl
 |cons a r ih=>
  cases r with
  |nil=>rfl
  |cons b r=>
   have e:(a::b::r).length-1=((b::r).length-1)+1:=by
    have h1:(a::b::r).length=r.length+2:=rfl;have h2:(b::r).length=r.length+1:=rfl;omega
   rw[e,List.eraseIdx_cons_succ,ih]
   all_goals rfl
theorem LJ{α:Type}:∀(l:List α) (i:Nat),(l.eraseIdx i).length<=l.length
 |[],_=>fg _
 |_::_,0=>gL _
 |_::r,i+1=>Nat.succ_le_succ (LJ r i)
theorem LQ(its:List Value):∀(k:Nat) (acc:List Value),
 List.foldl (λx1 x2=>x1++x2) acc.toArray (104 k 87)=(acc++(104 k its).flatten).toArray
 |0,acc=>by simp
 |k+1,acc=>by
  have e:acc.toArray++87=(acc++its).toArray:=by simp
  have e2:(acc++its)++(104 k its).flatten=acc++(104 (k+1) its).flatten:=by
   rw[i6,flatten_cons,gz]
  rw[<- e2,<- LQ its k (acc++its),<- e,i6,List.foldl_cons]
section
variable{X:Cx}{pins:List 92}{σ:St}{H:Hp}{s:Shared}{l b:Addr}{xs ys zs:List V}
def Inv.lset{its its':List Value}{n:Nat}{f:Array Value->Array Value}{t':Nat}(I:Inv X pins σ H s)(hH:H l=some 145)
 (e:s.heap.get? l=some { cls:=.type "list",data:=.seq 87 n }) (hf:f 87=its'.toArray) (hv:Vals ys its') (hz:ys.length<=sizeLine):
 Inv X pins σ (upd H l (.lst ys)) { s with heap:=s.heap.update l (Obj.mapSeq f),toks:=t' }:=by
 have q:=PySem.IsL.update e f;rw[hf]at q;refine I.write (x:=l) (e:=l) (by rw[hH];exact trivial) (.inl rfl) (λb' u hb hu=>(Heap.get?_update_other s.heap (118 f) (Ne.symm hb)).trans hu) ⟨_,q⟩ ?_;exact⟨hz,its',_,hv,q⟩
def Inv.lnew{its:List Value}{t':Nat}(I:Inv X pins σ H s)(hv:Vals ys its)(hz:ys.length<=sizeLine):
 Inv X pins σ (upd H 58 (.lst ys)) { s with heap:=s.heap.push { cls:=.type "list",data:=.seq its.toArray },toks:=t' }:=
 I.laid (λ_ _ q=>66 _ q) (fg _) ⟨hz,its,0,hv,78 _ rfl⟩
theorem Inv.fresh(I:Inv X pins σ H s):H 58=none:=I.hok.fresh (fg _)
def Inv.lstM(I:Inv X pins σ H s)(hH:H l=some 145):85<=sizeLine/\∃(its:List Value) (n:Nat),Vals xs its/\85=its.length/\s.heap.get? l=some { cls:=.type "list",data:=.seq 87 n }:=by
 obtain⟨z,its,n,r,e⟩:=I.hok l _ hH;exact⟨z,its,n,r,r.length,e⟩
def Ie{n:Nat}(h:n<=sizeLine):Builtin.List.listTooLong n=false:=by
 unfold Builtin.List.listTooLong;exact gh 59
end
section
variable{X:Cx}
def OP:V->List V->Hp->VK->Prop:=λx vs H Q=>∃l xs y,x=.ref l/\vs=[y]/\H l=some 145/\85<sizeLine/\Q .non (upd H l (.lst (xs++[y])))
def LG:MtM X "list.append" OP:=by
 intro pins s σ H x vs v us Q I rx rv h;obtain⟨l,xs,y,rfl,rfl,hH,hz,q⟩:=h;cases rx;obtain⟨u,rfl,ru⟩:=rv.one;obtain⟨z,its,n,r,hl,e⟩:=I.lstM hH;refine ic F.slot_list_append ⟨_,e,rfl⟩ F.entry_list_append (F.args_list_append_2 _ _) (PySem.list_append l 87 n u (by rw[ft];omega)) ⟨e,?_⟩;refine⟨.non,_,I.lset (its':=its++[u]) hH e 70 (r.append (.cons ru .nil)) ?_,rfl,q⟩;rw[fV,List.length_singleton];omega
def XA:V->List V->Hp->VK->Prop:=λx vs H Q=>∃l b xs zs,x=.ref l/\vs=[.ref b]/\H l=some 145/\H b=some (.lst zs)/\85+zs.length<=sizeLine/\Q .non (upd H l (.lst (xs++zs)))
def d9:MtM X "list.extend" XA:=by
 intro pins s σ H x vs v us Q I rx rv h;obtain⟨l,b,xs,zs,rfl,rfl,hH,hB,hz,q⟩:=h;cases rx;obtain⟨u,rfl,ru⟩:=rv.one;cases ru;obtain⟨z,its,n,r,hl,e⟩:=I.lstM hH;obtain⟨z2,its2,n2,r2,hl2,e2⟩:=I.lstM hB;have hsz:141+its2.toArray.size<=sizeLine:=by rw[ft,ft];omega
 have hlong:¬ (!its.toArray.isEmpty&&Builtin.List.listTooLong (141+its2.toArray.size))=true:=by
  rw[Ie hsz,Bool.and_false];exact 94
 refine ic F.slot_list_extend ⟨_,e,rfl⟩ F.entry_list_extend (F.args_list_extend_2 _ _)
  (AutoSeq1.list_extend_list_list_0 l 87 n b its2.toArray n2 hlong (by rw[ft];omega) 59) ⟨e,e2,?_⟩
 refine⟨.non,_,I.lset (its':=its++its2) hH e 70 (r.append r2) ?_,rfl,q⟩;rw[fV];omega
def ZT:V->List V->Hp->VK->Prop:=λx vs H Q=>∃l xs y,x=.ref l/\vs=[]/\H l=some 145/\xs[85-1]?=some y/\Q y (upd H l (.lst xs.dropLast))
def ar:MtM X "list.pop" ZT:=by
 intro pins s σ H x vs v us Q I rx rv h;obtain⟨l,xs,y,rfl,rfl,hH,hy,q⟩:=h;cases rx;have hus:=rv.zero;subst hus;obtain⟨z,its,n,r,hl,e⟩:=I.lstM hH;obtain⟨u,hu,ru⟩:=r.get hy;have hy':87[141-1]?=some u:=by
  show 87[its.length-1]?=some u;rw[<- Array.getElem?_toList,<- hl];exact hu
 refine ic F.slot_list_pop ⟨_,e,rfl⟩ F.entry_list_pop (F.args_list_pop_1 _) (MeetsSeq.list_pop_last l 87 n u hy' (by rw[ft];omega)) ⟨e,?_⟩;refine⟨y,_,I.lset (its':=its.dropLast) hH e ?_ r.dropLast ?_,ru,q⟩
 .show its.toArray.eraseIdxIfInBounds (141-1)=its.dropLast.toArray;rw[ft,List.eraseIdxIfInBounds_toArray,Q9]
 .rw[List.length_dropLast];omega
def Rg:V->List V->Hp->VK->Prop:=λx vs H Q=>∃l xs i k y,x=.ref l/\vs=[.int i]/\H l=some 145/\-(2^63)<=i/\i<2^63/\seqIndex? i 85=some k/\xs[k]?=some y/\Q y (upd H l (.lst (xs.eraseIdx k)))
def Us:MtM X "list.pop" Rg:=by
 intro pins s σ H x vs v us Q I rx rv h;obtain⟨l,xs,i,k,y,rfl,rfl,hH,h1,h2,hk,hy,q⟩:=h;cases rx;obtain⟨u,rfl,ru⟩:=rv.one;obtain⟨t,rfl⟩:=ru;obtain⟨z,its,n,r,hl,e⟩:=I.lstM hH;obtain⟨w,hw,rw'⟩:=r.get hy;refine ic F.slot_list_pop ⟨_,e,rfl⟩ F.entry_list_pop (F.args_list_pop_2 _ _)
  (MeetsSeq.list_pop_at l 87 n i t k w (fitsIndex_both h1 h2) (by rw[ft,<- hl];exact hk) (by rw[<- Array.getElem?_toList];exact hw) (by rw[ft];omega)) ⟨e,?_⟩
 refine⟨y,_,I.lset (its':=its.eraseIdx k) hH e ?_ (r.eraseIdx k) ?_,rw',q⟩
 .show its.toArray.eraseIdxIfInBounds k=(its.eraseIdx k).toArray;rw[List.eraseIdxIfInBounds_toArray]
 .have:=LJ xs k;omega
noncomputable def UE:R2:=λx y H Q=>∃l b xs zs,x=.ref l/\y=.ref b/\H l=some 145/\H b=some (.lst zs)/\85+zs.length<=sizeLine/\∀p,H p=none->Q (.ref p) (upd H p (.lst (xs++zs)))
def am:OpR X (binaryOp .Add) UE:=by
 intro pins s σ H x y v u Q I rx ry h;obtain⟨l,b,xs,zs,rfl,rfl,hH,hB,hz,q⟩:=h;cases rx;cases ry;obtain⟨z,its,n,r,hl,e⟩:=I.lstM hH;obtain⟨z2,its2,n2,r2,hl2,e2⟩:=I.lstM hB;refine PySem.P.add_list e e2 ?_ (by rw[ft,ft];omega);have ea:87++its2.toArray=(its++its2).toArray:=by simp
 rw[ea];exact⟨.ref _,_,I.lnew (t':=s.toks) (r.append r2) (by rw[fV];omega),rfl,q _ I.fresh⟩
noncomputable def UA:R2:=λx y H Q=>∃l k xs,x=.ref l/\y=.int k/\H l=some 145/\-(2^63)<=k/\k<2^63/\85*k.toNat<=sizeLine /\
 ∀p,H p=none->Q (.ref p) (upd H p (.lst (104 k.toNat xs).flatten))
def YF{α:Type}(xs:List α)(k:Nat):(104 k xs).flatten.length=k*xs.length:=by
 induction k with
 |zero=>simp
 |succ k ih=>rw[i6,flatten_cons,fV,ih,Nat.succ_mul,Nat.add_comm]
def af:OpR X (binaryOp .Mult) UA:=by
 intro pins s σ H x y v u Q I rx ry h;obtain⟨l,k,xs,rfl,rfl,hH,h1,h2,hz,q⟩:=h;cases rx;obtain⟨t,rfl⟩:=ry;obtain⟨z,its,n,r,hl,e⟩:=I.lstM hH;have hlen:141*k.toNat<=sizeLine:=by rw[ft,<- hl];exact hz
 have hcap:¬ 141*k.toNat>(2^63-1)/8:=by
  have:(sizeLine:Nat)<=(2^63-1)/8:=by decide
  omega
 have hfit:¬ (!Builtin.List.listFitsIndex k)=true:=by
  rw[fitsIndex_both h1 h2];exact 94
 have hlong:¬ Builtin.List.listTooLong (141*k.toNat)=true:=by
  rw[Ie hlen];exact 94
 have hnew:List.foldl (λx1 x2=>x1++x2) #[] (104 (if its.toArray.isEmpty=true then 0 else k.toNat) 87)=(104 k.toNat its).flatten.toArray:=by
  have f0:∀m:Nat,List.foldl (λx1 x2=>x1++x2) #[] (104 m 87)=(104 m its).flatten.toArray:=λm=>by
   have:=LQ its m [];rw[gQ]at this;exact this
  rw[f0];cases its with
  |nil=>simp
  |cons a r'=>rw[fe 70]
 refine wpAny_binaryOp_repeat_ref (T:="list") (U:="int") 90 ⟨_,e,rfl⟩ (λs'=>gO s' k t) noFill_list_mul F.fills_int_mul F.slot_int_rmul repeat_list F.slot_int_index.lookup
  (ic F.slot_int_rmul (gO s k t) F.entry_int_rmul (F.args_int_rmul_2 _ _) (int___rmul___int_list k t l 87 n)
   ⟨e,rfl,⟨_,e,rfl⟩,ic F.slot_list_mul ⟨_,e,rfl⟩ F.entry_list_mul (F.args_list_mul_2 _ _) (AutoListH.list___mul___list_int_3 l 87 n k t hfit hcap hlong) ⟨e,?_⟩⟩)
 rw[hnew];exact⟨.ref _,_,I.lnew (t':=s.toks) (r.rep k.toNat) (by rw[YF,Nat.mul_comm];exact hz),rfl,q _ I.fresh⟩
end
end L2
namespace Att
open PySem PySem.W PySem.Calls PyProof.Rows
def Jq{P:Params}{h:Heap}:∀(ns:List Int) (vs:List Value),WellAll P h vs (ns.map WData.int)->IntsAre vs ns:=by
 intro ns
 induction ns with
 |nil=>
  intro vs w;rw[gj]at w;cases w;exact .nil
 |cons n ns ih=>
  intro vs w;rw[fq]at w;cases w with
  |cons a b=>
   cases a;exact .cons _ _ (ih _ b)
def Qr{l:OpenLaw}{n:Nat}(hn:l.most=some n){P:Params}{h:Heap}{args:List WData}{vals:List Value}
 (hpre:l.row.toRowW.claim.pre args=true) (hwl:WellAll P h vals args):
 ∃a vs ns,vals=[Value.ref a]/\args=[WData.list (ns.map WData.int)]/\h.get? a=some { cls:=.type "list",data:=.seq 76 }/\IntsAre vs ns/\ns.length<=n:=by
 have hsh:WShape.hasAll [] args [.list .int]=true:=(pre_splitW hpre).1;have hc:l.pre.holds [] { args:=args }=true:=(pre_splitW hpre).2;obtain⟨d,r,rfl,h1,h2⟩:=hasAllW_cons hsh;obtain rfl:=hasAllW_nil h2;obtain⟨xs,rfl,h3⟩:=hasW_list h1;obtain⟨ns,rfl⟩:=items_int h3;have hlen:ns.length<=n:=by
  unfold OpenLaw.pre at hc;have h4:(WTm.not (.lt (.lit (.int (n:Int))) (.len (.arg 0)))).holds [] { args:=[.list (ns.map .int)] }=true:=by
   have h4:=(holds_andW hc).1;rw[hn]at h4;exact h4
  have h5:=condW_of h4 (w_not (w_lt w_lit (w_len_list (w_arg rfl))));rw[fN]at h5;refine Nat.le_of_not_lt λq=>?_;have q':(n:Int)<((ns.length:Nat):Int):=by omega
  first
   |(rw[fZ q']at h5;exact absurd h5 90)
   |(simp at h5;omega)
 cases hwl with
 |cons w1 w2=>
  cases w2;cases w1 with
  |list ho hall=>exact⟨_,_,ns,rfl,rfl,ho,Jq ns _ hall,hlen⟩
def Ro(l:OpenLaw)(args:List WData):l.row.toRowW.claim.post args (.bool true) args=true:=
 postW_of (r:=l.row.toRowW) (X:=(true==true))
  (show WShape.has [] (.bool true) .bool=true by first|rfl|decide|simp[WShape.has,WShape.arms,WShape.armsAll])
  (show(WTm.eq .res (.lit (.bool true))).value [] { args:=args,res:=some (.bool true),after:=args }=some (.bool (true==true))from w_eq_bool (w_res rfl) w_lit) rfl
def attach_call{l:OpenLaw}{n:Nat}{q:Program}{loose:List Str}{XP:(Str->Option Value)->Heap->Prop}{YP:World->Heap->Prop}{d:DefRec}
 (hn:l.most=some n) (hdf:d.params.defaults=[])
 (call:∀(w:World) (s₀ s₁:Shared) (mg mb:Str->Option Value) (fa:Addr) (o:Obj) (pm cd doc:Value) (a:Addr) (vs:List Value) (ns:List Int),
  Ground q loose [] XP w s₀ mg mb s₁.heap->YP w s₁.heap ->
  s₁.heap.get? fa=some o->o.data=.func (docDef d.name d.params d.body d.scope pm cd doc)->s₁.heap.CodeRec cd d.name->mg d.name=some (.ref fa) ->
  s₁.heap.get? a=some { cls:=.type "list",data:=.seq 76 }->IntsAre vs ns->ns.length<=n->s₁.gens=#[] ->
  codeAny (model l.prog w) callerA (.call (.ref fa) ⟨[.ref a],[]⟩) (λr s'=>r=.ok (.ret (.bool true))/\OldK s₁.heap s'.heap/\s'.os=s₁.os/\AllBare s'.gens) s₁):
 WalkO q loose XP YP l.row.toRowW d [] (λf vs=>PySem.call f vs):=by
 intro w s₀ s₁ mg mb G Y fa o pm cd doc dV kV ho hd hcd hD hmg hg args vals as hpre hlay hrd hwl hlo;obtain rfl:dV=.none:=Dflts.none hD hdf;obtain rfl:kV=.none:=Dflts.noKw hD;obtain⟨a,vs,ns,rfl,rfl,hobj,hints,hlen⟩:=Qr hn hpre hwl;refine enter_call (i0 (call w s₀ s₁ mg mb fa o pm cd doc a vs ns G Y ho (fd_plain hd) hcd hmg hobj hints hlen hg) λr s' hq=>?_);obtain⟨rfl,h2,h3,h4⟩:=hq;exact⟨.inl ⟨.bool true,.bool true,[],rfl,λ_=>rfl,.bool true,Ro l _,λ_=>⟨List.Pairwise.nil,λ_ hm=>(nomatch hm)⟩⟩,h2,h3,h4⟩
end Att
namespace L2
open PySem PySem.Spec PyProof.Rows
theorem Kw:∀{vs:List Value} {ns:List Int},IntsAre vs ns->Vals (ns.map V.int) vs
 |_,_,.nil=>.nil
 |_,_,.cons n t h=>.cons ⟨t,rfl⟩ (Kw h)
noncomputable def C8(s:Stmt):Arguments:=match s with
 |.FunctionDef _ a _ _ _ _ _ _ _ _=>a
 |_=>{ posonlyargs:=[],args:=[],vararg:=none,kwonlyargs:=[],kw_defaults:=[],kwarg:=none,defaults:=[] }
noncomputable def BF(s:Stmt):List Stmt:=match s with
 |.FunctionDef _ _ b _ _ _ _ _ _ _=>b
 |_=>[]
noncomputable def AB(s:Stmt):Scope:=match s with
 |.FunctionDef _ _ _ _ _ _ sc _ _ _=>sc
 |_=>{ kind:=.function,names:=[],isGenerator:=false,isCoroutine:=false }
noncomputable abbrev CX0:CXT:=λ_ _ _ _ _ _=>False
noncomputable abbrev E0:XK:=λ_ _ _=>False
def Vo{X:Cx}:K5 CX0 X E0:=λ_ _ _ _ _ _ _ h=>h.elim
structure Fun(K:Frag)(x qual:Str)(st:Stmt)(f:Addr)(fd:FuncData):Prop where
 ex:∃(oc:Value) (od:Option Addr) (kV doc pm:Value) (an:Option Addr) (cdv ct:Value) (osl:Array (Option Value)),
  fd=fnOf x qual (C8 st) (BF st) (AB st) .none kV doc pm an cdv ct/\K.lookup f=some ⟨oc,od,.func fd,osl⟩/\codeIn K cdv qual=true
 kp:keepIn K (.ref f)=true
section
variable{P:Program}{w:World}{K:Frag}{mg:Str->Option Value}{base:Heap}
def Fun.ok{x qual:Str}{st:Stmt}{f:Addr}{fd:FuncData}{N ps:List Str}{k:Nat}{sp:Sp}(F:Fun K x qual st f fd)(S:FnScope N ps (AB st))(len:∀vs H Q E,sp vs H Q E->98=112)
 (hbody:∀(cdv:Value) (A:Around) (outer:List Env) (s:Shared) (H:Hp) (vs:List V) (Q:VK) (E:XK),Room k (A.deeper (envOfC qual (AB st) 58 f cdv))->sp vs H Q E ->
  ∃t,PSs (FN CX0 P w K mg base N qual (AB st) f cdv A outer s H E).nox (BF st) t/\t { nx:=λ_ H'=>Q .non H',rt:=Q } (start N vs) H):FnOk P w K mg base CX0 (k+1) f fd ps sp:=by
 obtain⟨oc,od,kV,doc,pm,an,cdv,ct,osl,rfl,lk,hcd⟩:=F.ex;refine Vx lk hcd S len λA outer s H vs Q E hr hsp=>?_;obtain⟨t,h,q⟩:=hbody cdv A outer s H vs Q E hr hsp;exact⟨t,h.nox,q⟩
def Fun.binds{x qual:Str}{st:Stmt}{f:Addr}{fd:FuncData}{ps:List Str}(F:Fun K x qual st f fd)
 (h:∀(kV doc pm:Value) (an:Option Addr) (cdv ct:Value) (us:List Value),us.length=112->bindArgs (fnOf x qual (C8 st) (BF st) (AB st) .none kV doc pm an cdv ct) ⟨us,[]⟩=pure (ps.zip us)):Binds K fd ps []:=by
 obtain⟨oc,od,kV,doc,pm,an,cdv,ct,osl,rfl,lk,hcd⟩:=F.ex;exact .all (h kV doc pm an cdv ct)
def bK{x qual:Str}{st:Stmt}{f:Addr}{oc:Value}{od an:Option Addr}{osl:Array (Option Value)}{kV doc pm cdv ct:Value}(l:K.lookup f=some ⟨oc,od,.func (fnOf x qual (C8 st) (BF st) (AB st) .none kV doc pm an cdv ct),osl⟩)
 (c:codeIn K cdv qual=true) (k:keepIn K (.ref f)=true):Fun K x qual st f (fnOf x qual (C8 st) (BF st) (AB st) .none kV doc pm an cdv ct):=⟨⟨oc,od,kV,doc,pm,an,cdv,ct,osl,rfl,l,c⟩,k⟩
end
def Q0{A:Around}{k:Nat}(hr:Room k A):A.units+1<cLine:=Nat.lt_of_le_of_lt (Nat.add_le_add_left (by decide:1<=64) _) hr.units
def Gk{n:Nat}(h:n<=1000):n<sizeLine:=Nat.lt_of_le_of_lt h 90
section
variable{κ:Type}[DecidableEq κ]
noncomputable def DZ(kvs:List (κ×V))(k:κ):Option V:=(kvs.find? λkv=>decide (kv.1=k)).map (·.2)
noncomputable def Ce(kvs:List (κ×V))(k:κ)(v:V):List (κ×V):=
 if(kvs.any λkv=>decide (kv.1=k))=true then kvs.map (λkv=>if kv.1=k then(kv.1,v)else kv)else kvs++[(k,v)]
def EZ{p:κ×V}{k:κ}(e:p.1=k):DZ (p::r) k=some p.2:=by simp[DZ,gH,e]
def Eb{p:κ×V}{k:κ}(e:¬ p.1=k):DZ (p::r) k=DZ r k:=by simp[DZ,gH,e]
theorem ML(k:κ):∀kvs:List (κ×V),(kvs.any λkv=>decide (kv.1=k))=(DZ kvs k).isSome
 |[]=>rfl
 |p::r=>by
  rw[gV];by_cases e:p.1=k
  .simp only[EZ e,fZ e,Bool.true_or,Option.isSome_some]
  .rw[Eb e,gh e,Bool.false_or];exact ML k r
def FJ(kvs:List (κ×V))(k:κ)(v:V):(Ce kvs k v).length<=kvs.length+1:=by
 unfold Ce;split
 .rw[fN];omega
 .rw[fV,fU,gE];omega
def RelO.isSome_eq(r:RelO o u):o.isSome=u.isSome:=by
 cases o with
 |none=>cases u with
  |none=>rfl
  |some _=>exact(show False from r).elim
 |some _=>cases u with
  |none=>exact(show False from r).elim
  |some _=>rfl
def KV.val(r:KV kvs vs)(k:κ):RelO (DZ kvs k) (valueAt vs k):=by
 unfold KV at r
 induction r with
 |nil=>exact True.intro
 |@cons p q ps qs h t ih=>
  obtain⟨h1,h2⟩:=h;by_cases e:p.1=k
  .have e':q.1=k:=h1.symm.trans e;have b:valueAt (q::qs) k=some q.2:=by simp[valueAt,gH,e']
   rw[EZ e,b];exact h2
  .have e':¬ q.1=k:=λz=>e (h1.trans z);have b:valueAt (q::qs) k=valueAt qs k:=by simp[valueAt,gH,e']
   rw[Eb e,b];exact ih
theorem KV.any(r:KV kvs vs)(k:κ):(kvs.any λkv=>decide (kv.1=k))=vs.any λkv=>decide (kv.1=k):=by
 unfold KV at r
 induction r with
 |nil=>rfl
 |cons h t ih=>rw[gV,gV,ih,h.1]
def KV.repl(r:KV kvs vs)(k:κ)(ry:RelV y u):
 KV (kvs.map λkv=>if kv.1=k then(kv.1,y)else kv) (vs.map λkv=>if kv.1=k then(kv.1,u)else kv):=by
 unfold KV at r ⊢
 induction r with
 |nil=>exact .nil
 |@cons p q ps qs h t ih=>
  rw[fq,fq];refine .cons ?_ ih;obtain⟨h1,h2⟩:=h;by_cases e:p.1=k
  .rw[fb e,fb (h1.symm.trans e)];exact⟨h1,ry⟩
  .rw[fe e,fe (λz=>e (h1.trans z))];exact⟨h1,h2⟩
def KV.put(r:KV kvs vs)(k:κ)(ry:RelV y u):KV (Ce kvs k y) (stored vs k u):=by
 unfold Ce stored;rw[r.any k];by_cases e:(vs.any λkv=>decide (kv.1=k))=true
 .rw[fb e,fb e];exact r.repl k ry
 .rw[fe e,fe e];exact Paired.snoc r ⟨rfl,ry⟩
theorem KV.length(r:KV kvs vs):kvs.length=vs.length:=Paired.length r
end
def Jn(r:RelV (kV k) u):(BV P w).is k u=true:=by
 cases k with
 |inl i=>obtain⟨t,e⟩:=(show ∃t,u=Value.int i t from r);subst e;exact Nx P w i t
 |inr x=>obtain⟨t,e⟩:=(show ∃t,u=Value.str x t from r);subst e;exact Nw P w x t
theorem LO:∀{ks:List Key} {us:List Value},Vals (ks.map kV) us->ItemsAre (BV P w) ks us
 |[],_,r=>by rw[gj]at r;cases r;exact .nil
 |k::ks,_,r=>by
  rw[fq]at r;cases r with
  |cons h t=>exact .cons (Jn h) (LO t)
abbrev KT(H:Hp):List (List Key×V)->List (List Key×Addr×Value)->Prop:=Paired λp q=>p.1=q.1/\H q.2.1=some (.tup (p.1.map kV))/\RelV p.2 q.2.2
def KT.val(r:KT H kvs xs)(k:List Key):RelO (DZ kvs k) ((atKey xs k).map (·.2)):=by
 induction r with
 |nil=>exact True.intro
 |@cons p q ps qs h t ih=>
  obtain⟨h1,_,h2⟩:=h;by_cases e:p.1=k
  .have e':q.1=k:=h1.symm.trans e;have b:atKey (q::qs) k=some q.2:=by simp[atKey,gH,e']
   rw[EZ e,b];exact h2
  .have e':¬ q.1=k:=λz=>e (h1.trans z);have b:atKey (q::qs) k=atKey qs k:=by simp[atKey,gH,e']
   rw[Eb e,b];exact ih
def KT.repl(r:KT H kvs xs)(k:List Key)(ry:RelV y u):
 KT H (kvs.map λkv=>if kv.1=k then(kv.1,y)else kv) (xs.map (putAt k u)):=by
 induction r with
 |nil=>exact .nil
 |@cons p q ps qs h t ih=>
  rw[fq,fq];refine .cons ?_ ih;obtain⟨h1,h2,h3⟩:=h;unfold putAt;by_cases e:p.1=k
  .rw[fb e,fb (h1.symm.trans e)];exact⟨h1,h2,ry⟩
  .rw[fe e,fe (λz=>e (h1.trans z))];exact⟨h1,h2,h3⟩
def KT.put(r:KT H kvs xs)(k:List Key)(hb:H b=some (.tup (k.map kV)))(ry:RelV y u):
 KT H (Ce kvs k y) (storedH xs k b u):=by
 have e:(kvs.any λkv=>decide (kv.1=k))=(atKey xs k).isSome:=by
  rw[ML,(r.val k).isSome_eq,isSome_map]
 unfold Ce storedH;rw[e];by_cases q:(atKey xs k).isSome=true
 .rw[fb q,fb q];exact r.repl k ry
 .rw[fe q,fe q];exact Paired.snoc r ⟨rfl,hb,ry⟩
def KT.keeps(r:KT H kvs xs)(ht:∀b ys,H b=some (.tup ys)->H' b=some (.tup ys)):KT H' kvs xs:=
 Paired.mapP r λ_ _ z=>⟨z.1,ht _ _ z.2.1,z.2.2⟩
section
def Vd(ok:HOk P w H h)(e:Rd H a u):ObjOk P w H h a u:=e.ok ok
def M6(ok:HOk P w H h)(e:Rd H a (.dK kvs)):kvs.length<=sizeLine/\(a==sysModules)=false/\∃vs,KV kvs vs/\h.DictOf (BV P w) a vs:=
 show ObjOk P w H h a (.dK kvs)from Vd ok e
def Vz(ok:HOk P w H h)(e:H a=some (.dK kvs)):kvs.length<=sizeLine/\(a==sysModules)=false/\∃vs,KV kvs vs/\h.DictOf (BV P w) a vs:=M6 ok (.inl e)
def Jm{ks:List Key}(ok:HOk P w H h)(e:H a=some (.tup (ks.map kV))):(tupleKind (BV P w)).is h ks a:=by
 obtain⟨_,its,r,o,h1,h2,⟨n,h3⟩,_⟩:=(show ObjOk P w H h a (.tup (ks.map kV))from ok a _ e)
 exact⟨o,87,n,h1,h2,h3,by simpa using LO r⟩
def M5(ok:HOk P w H h)(e:Rd H a (.dT kvs)):kvs.length<=sizeLine/\(a==sysModules)=false /\
 ∃xs,KT H kvs xs/\h.DictOfH (tupleKind (BV P w)) a xs:=by
 obtain⟨z,y,xs,r,o,es,ep,h1,h2,h3,h4,h5⟩:=(show ObjOk P w H h a (.dT kvs)from Vd ok e)
 refine⟨z,y,xs,r,o,es,ep,h1,h2,h3,h4,λx hx=>?_,h5⟩;have all:∀{l:List (List Key×V)} {m:List (List Key×Addr×Value)},KT H l m->∀x∈m,(tupleKind (BV P w)).is h x.1 x.2.1:=by
  intro l m q
  induction q with
  |nil=>intro x hx;exact nomatch hx
  |@cons p q ps qs hq t ih=>
   intro x hx;rcases mem_cons.mp hx with e|hx
   .subst e;exact Jm ok (by rw[<- hq.1];exact hq.2.1)
   .exact ih x hx
 exact all r x hx
def cm(ok:HOk P w H h)(e:H a=some (.dT kvs)):kvs.length<=sizeLine/\(a==sysModules)=false /\
 ∃xs,KT H kvs xs/\h.DictOfH (tupleKind (BV P w)) a xs:=M5 ok (.inl e)
end
def DGet(H:Hp)(a:Addr)(y:V)(r:Option V):Prop:=
 (∃kvs k,Rd H a (.dK kvs)/\y=kV k/\r=DZ kvs k)∨∃kvs k b,Rd H a (.dT kvs)/\y=.ref b/\H b=some (.tup (k.map kV))/\r=DZ kvs k
def DPut(H:Hp)(a:Addr)(y v:V)(H':Hp):Prop:=
 (∃kvs k,H a=some (.dK kvs)/\y=kV k/\kvs.length<sizeLine/\H'=upd H a (.dK (Ce kvs k v))) ∨
 ∃kvs k b,H a=some (.dT kvs)/\y=.ref b/\H b=some (.tup (k.map kV))/\kvs.length<sizeLine/\H'=upd H a (.dT (Ce kvs k v))
theorem DGet.k{H:Hp}{a:Addr}{kvs:List (Key×V)}{k:Key}(e:H a=some (.dK kvs)):DGet H a (kV k) (DZ kvs k):=.inl ⟨kvs,k,.inl e,rfl,rfl⟩
theorem DPut.k{H:Hp}{a:Addr}{kvs:List (Key×V)}{k:Key}{v:V}(e:H a=some (.dK kvs))(hl:kvs.length<sizeLine):DPut H a (kV k) v (upd H a (.dK (Ce kvs k v))):=.inl ⟨kvs,k,e,rfl,hl,rfl⟩
section
variable{A:Around}{E:Value->Shared->Prop}
def Inv.big(I:Inv X pins σ H s):sysModules<s.heap.objs.size:=by
 have h:mainGlobals<s.heap.objs.size:=(I.mod.glob.keeps I.bk).lt;exact lt_trans 90 h
def Sc{Q:Value->Shared->Prop}(hu:A.units+1<cLine)(I:Inv X pins σ H s)(g:DGet H a y (some v))(ry:RelV y u)(h:∀w' s',Inv X pins σ H s'->RelV v w'->Q w' s'):
 wpAny 68 A (getItem (.ref a) u) Q E s:=by
 rcases g with⟨kvs,k,e,ey,l⟩|⟨kvs,k,b,e,ey,eb,l⟩
 .subst ey;obtain⟨z,hd,vs,rel,dd⟩:=M6 I.hok e;obtain⟨w',hw,rw'⟩:=RelO.some_of (v:=v) (o:=valueAt vs k) (by rw[l];exact rel.val k);exact wpAny_getItem_of (Jn ry) dd.mapOf hw (h w' _ (I.tok _) rw')
 .subst ey;cases(show u=Value.ref b from ry);obtain⟨z,hd,xs,rel,dd⟩:=M5 I.hok e;obtain⟨w',hw,rw'⟩:=RelO.some_of (v:=v) (o:=(atKey xs k).map (·.2)) (by rw[l];exact rel.val k);obtain⟨p,hp,hp2⟩:=fK hw;refine wpAny_getItem_heap (tupleKind_room_in1 hu) (Jm I.hok eb) dd hp ?_;rw[hp2];exact h w' _ (I.tok _) rw'
def dX{Q:Value->Shared->Prop}(hu:A.units+1<cLine)(I:Inv X pins σ H s)(g:DGet H a y o)(ry:RelV y u)(h:∀s',Inv X pins σ H s'->Q (.bool o.isSome) s'):
 wpAny 68 A (compareOp .In u (.ref a)) Q E s:=by
 rcases g with⟨kvs,k,e,ey,l⟩|⟨kvs,k,b,e,ey,eb,l⟩
 .subst ey;obtain⟨z,hd,vs,rel,dd⟩:=M6 I.hok e;refine wpAny_in_of (Jn ry) hd dd.mapOf ?_;rw[<- (rel.val k).isSome_eq,<- l];exact h _ (I.tok _)
 .subst ey;cases(show u=Value.ref b from ry);obtain⟨z,hd,xs,rel,dd⟩:=M5 I.hok e;refine wpAny_in_heap (tupleKind_room_in1 hu) (Jm I.hok eb) hd dd ?_;have q:=(rel.val k).isSome_eq;rw[isSome_map]at q;rw[<- q,<- l];exact h _ (I.tok _)
def Ko{t':Nat}(I:Inv X pins σ H s)(mu:Mut (H a))(hs:Heap.SameBut a s.heap h')(he:∃q,h'.get? a=some q)(new:ObjOk X.prog X.w (upd H a ob) h' a ob):
 Inv X pins σ (upd H a ob) { s with heap:=h',toks:=t' }:=
 I.write (x:=a) (e:=a) mu (.inl rfl) (λb q hb z=>(hs.2 b hb).trans z) he new
def SZ{h':Heap}{kvs:List (Key×V)}(z:kvs.length<=sizeLine)(hd:(a==sysModules)=false)(rel:KV kvs vs)(dd:h'.DictOf (BV P w) a vs):
 ObjOk P w H' h' a (.dK kvs):=⟨z,hd,vs,rel,dd⟩
def Sb{Q:Unit->Shared->Prop}(hu:A.units+1<cLine)(I:Inv X pins σ H s)(g:DPut H a y v H')(ry:RelV y u)(rv:RelV v r)(h:∀s',Inv X pins σ H' s'->Q () s'):
 wpAny 68 A (setItem (.ref a) u r) Q E s:=by
 rcases g with⟨kvs,k,e,ey,l,eH⟩|⟨kvs,k,b,e,ey,eb,l,eH⟩
 .subst ey eH;obtain⟨z,hd,vs,rel,dd⟩:=Vz I.hok e;have hz:98<=sizeLine:=by rw[<- rel.length];exact z
  have hl:(Ce kvs k v).length<=sizeLine:=by have:=FJ kvs k v;omega
  refine wpAny_setItem_pairs (hsz:=hz) (Jn ry) dd λh' dd' hs=>h _ ?_;have he:∃q,h'.get? a=some q:=let ⟨q,_,_,hq,_⟩:=dd';⟨q,hq⟩
  exact Ko I (by rw[e];exact True.intro) hs he (SZ hl hd (rel.put k rv) dd')
 .subst ey eH;cases(show u=Value.ref b from ry);obtain⟨z,hd,xs,rel,dd⟩:=cm I.hok e;have hz:85<=sizeLine:=by rw[<- Paired.length rel];exact z
  have hl:(Ce kvs k v).length<=sizeLine:=by have:=FJ kvs k v;omega
  refine wpAny_setItem_heap (hsz:=hz) (tupleKind_room_in1 hu) (Jm I.hok eb) dd λh' dd' hs=>h _ ?_;obtain⟨q,es,ep,hq,h2,h3,h4,_,h5⟩:=dd';refine Ko I (by rw[e];exact True.intro) hs ⟨q,hq⟩ ⟨hl,hd,_,(rel.put k eb rv).keeps λc ys ec=>?_,q,es,ep,hq,h2,h3,h4,h5⟩;rw[upd_ne (cU ec e (λz=>nomatch z))];exact ec
end
def VT(i:Expr):Prop:=∀ov iv,subscripted i false ov iv=operate [ov,iv] (getItem ov iv)
def WR{E:Value->Shared->Prop}{T id:String}{Q:Value->Shared->Prop}
 (hl:typeLookup (.type T) "__getitem__"=pure (some (.builtin id))) (hs:VT slice)
 (h:wpAny 89 A (eval value env) (λo s₁=>wpAny 89 A (eval slice env) (λi s₂=>s₂.TypeIs o T/\wpAny 89 A (getItem o i) Q E s₂) E s₁) E s):
 wpAny 89 A (eval (.Subscript value slice pos) env) Q E s:=by
 refine Subscript_ (fw h (λo s₁ h₁=>fw h₁ (λi s₂ h₂=>?_) λ_ _ x=>x) λ_ _ x=>x);obtain⟨hT,h₂⟩:=h₂;unfold subscriptTail;refine fc ?_;rw[getitemInPython_of_ne hT.not_modules];refine fc (wpAny_specialOf hT hl ?_);have fin:wpAny 89 A (subscripted slice false o i) (λr s₃=>wpAny 89 A (letTemporaryGo value o r >>= λ_=>pure r) Q E s₃) E s₂:=by
  rw[hs o i];exact wpAny_operating (fw h₂ (λr s₃ h₃=>fc (wpAny_letTemporaryGo (fh h₃))) λ_ _ x=>x)
 first
  |exact fh (fc fin)
  |exact fc (fh (fc fin))
  |exact fc fin
def O1(I:Inv X pins σ H s)(g:DGet H a y o):s.TypeIs (.ref a) "dict":=by
 rcases g with⟨kvs,k,e,_,_⟩|⟨kvs,k,b,e,_,_,_⟩
 .obtain⟨_,_,vs,_,dd⟩:=M6 I.hok e;exact dd.typeIs
 .obtain⟨_,_,xs,_,dd⟩:=M5 I.hok e;exact dd.typeIs
noncomputable def P3(td ty:TE):TE:=λσ H Q=>td σ H λx H1=>ty σ H1 λy H2=>∃a v,x=.ref a/\DGet H2 a y (some v)/\Q v H2
noncomputable def TX(ty td:TE):TE:=λσ H Q=>ty σ H λy H1=>td σ H1 λx H2=>∃a o,x=.ref a/\DGet H2 a y o/\Q (.bl o.isSome) H2
noncomputable def PK(td ty tv:TE):TS:=λD σ H=>tv σ H λv H1=>td σ H1 λx H2=>ty σ H2 λy H3=>∃a H4,x=.ref a/\DPut H3 a y v H4/\D.nx σ H4
section
variable{X:Cx}
def Xw(hu:X.A.units+1<cLine)(ho:PE X o td)(hi:PE X i ty)(hs:VT i):PE X (.Subscript o i pos) (P3 td ty):=by
 intro pins s σ H Q I h;refine WR PySem.F.slot_dict_getitem.lookup hs (thn (ho pins s σ H _ I h) λu s1 ⟨x,H1,I1,rx,q1⟩=>thn (hi pins s1 σ H1 _ I1 q1) λiv s2 ⟨y,H2,I2,ry,a,v,ex,g,q2⟩=>?_);subst ex;obtain rfl:u=Value.ref a:=rx;exact⟨O1 I2 g,Sc hu I2 g ry λw' s3 I3 rw'=>⟨v,H2,I3,rw',q2⟩⟩
def ad(hu:X.A.units+1<cLine)(hi:PE X i ty)(ho:PE X o td):PC X .In i o (TX ty td):=by
 intro pins s σ H Q I h;refine thn (hi pins s σ H _ I h) λiv s1 ⟨y,H1,I1,ry,q1⟩=>thn (ho pins s1 σ H1 _ I1 q1) λu s2 ⟨x,H2,I2,rx,a,ov,ex,g,q2⟩=>?_;subst ex;obtain rfl:u=Value.ref a:=rx;exact dX hu I2 g ry λs3 I3=>⟨.bl ov.isSome,H2,I3,rfl,q2⟩
def Xi(hu:X.A.units+1<cLine)(ho:PE X o td)(hi:PE X i ty)(hv:PE X value tv)(hs:swapsWith value (some (.Subscript o i pos')) pos.line X.env=pure false):
 PS X (.Assign [.Subscript o i pos'] value pos) (PK td ty tv):=by
 intro pins s σ H D I h;refine wpAny_Assign_Subscript (thn (hv pins s σ H _ I h) λr s1 ⟨v,H1,I1,rv,q1⟩=>thn (ho pins s1 σ H1 _ I1 q1) λu s2 ⟨x,H2,I2,rx,q2⟩=>thn (hi pins s2 σ H2 _ I2 q2) λiv s3 ⟨y,H3,I3,ry,a,H4,ex,g,q3⟩=>?_) hs;subst ex;obtain rfl:u=Value.ref a:=rx;exact Sb hu I3 g ry rv λs4 I4=>⟨σ,H4,I4,q3⟩
end
def VG(h:Heap)(hb:sysModules<h.objs.size):ObjOk P w H (h.push { cls:=.type "dict",data:=.dict #[] }) h.objs.size (.dK []):=
 ⟨gn _,beq_eq_false_iff_ne.mpr (Ne.symm (fz hb)),[],.nil,Heap.DictOf.new h⟩
noncomputable def AR(cells:List (Str×Addr)):List (Str×NameKind)->List (Str×Addr)->List (Str×Addr)
 |[],acc=>acc
 |(n,k)::r,acc=>if k==.free then AR cells r ((n,(cells.lookup n).getD 0)::acc)else AR cells r acc
theorem Fm(f:Str×NameKind->List (Str×Addr)->Sem (ForInStep (List (Str×Addr))))
 (hf:∀name kind cs,f (name,kind) cs=if(kind==132)=true then(do let a <- cellOf env name;pure (ForInStep.yield ((name,a)::cs)))else pure (ForInStep.yield cs)):
 ∀(names:List (Str×NameKind)) (acc:List (Str×Addr)),(∀y∈names,y.2=.free->∃c,env.cells.lookup y.1=some c)->forIn names acc f=pure (AR env.cells names acc)
 |[],acc,_=>rfl
 |(n,k)::r,acc,hy=>by
   rw[List.forIn_cons,hf];have ih:=λa=>Fm f hf r a λz hz=>hy z (fj _ hz);by_cases hk:(k==132)=true
   .obtain⟨c,hc⟩:=hy (n,k) fo (by simpa using hk);have hc:env.cells.lookup n=some c:=hc;have e1:cellOf env n=pure c:=by unfold cellOf;rw[hc]
    rw[fb hk,e1];show forIn r ((n,c)::acc) f=_;have e2:AR env.cells ((n,k)::r) acc=AR env.cells r ((n,c)::acc):=by
     rw[AR,fb hk,hc];rfl
    rw[ih,e2]
   .rw[fe hk];show forIn r acc f=_;have e2:AR env.cells ((n,k)::r) acc=AR env.cells r acc:=by
     rw[AR,fe hk]
    rw[ih,e2]
def D8{scope:Scope}{env:Env}(h:∀y∈75,y.2=.free->∃c,env.cells.lookup y.1=some c):closureFor scope env=pure (AR env.cells 75 []):=by
 unfold closureFor;dsimp only;rw[Fm _ (λname kind cs=>rfl) scope.names [] h];rfl
theorem DU{cells:List (Str×Addr)}:∀{names:List (Str×NameKind)} {acc:List (Str×Addr)},(∀y∈names,y.2=.free->∃c,cells.lookup y.1=some c)->(∀x c,acc.lookup x=some c->cells.lookup x=some c) ->
 ∀x c,(AR cells names acc).lookup x=some c->cells.lookup x=some c
 |[],_,_,ha,x,c,e=>ha x c e
 |(n,k)::r,acc,hy,ha,x,c,e=>by
   unfold AR at e;have hr:∀y∈r,y.2=.free->∃c,cells.lookup y.1=some c:=λz hz=>hy z (fj _ hz);by_cases hk:(k==132)=true
   .rw[fb hk]at e;refine DU hr (λz d q=>?_) x c e;obtain⟨c0,hc0⟩:=hy (n,k) fo (by simpa using hk);have hc0:cells.lookup n=some c0:=hc0;rw[fP]at q;by_cases hz:(z==n)=true
    .rw[hz,hc0]at q;have:z=n:=by simpa using hz
     subst this;simpa [hc0]using q
    .have hz':(z==n)=false:=by simpa using hz
     rw[hz']at q;exact ha z d q
   .rw[fe hk]at e;exact DU hr ha x c e
theorem Cq:∀{names:List (Str×NameKind)} {acc:List (Str×Addr)} {x:Str},((acc.lookup x).isSome=true∨(x,132)∈names)->((AR cells names acc).lookup x).isSome=true
 |[],_,_,h=>h.elim id λz=>by cases z
 |(n,k)::r,acc,x,h=>by
   unfold AR;by_cases hk:(k==132)=true
   .rw[fb hk];refine Cq ?_;by_cases hx:(x==n)=true
    .exact .inl (by rw[fP,hx];rfl)
    .have hx':(x==n)=false:=by simpa using hx
     rcases h with h|h
     .exact .inl (by rw[fP,hx'];exact h)
     .rcases mem_cons.mp h with h|h
      .cases h;simp at hx
      .exact .inr h
   .rw[fe hk];refine Cq ?_;rcases h with h|h
    .exact .inl h
    .rcases mem_cons.mp h with h|h
     .cases h;simp at hk
     .exact .inr h
noncomputable def CN:Nat->List (Str×NameKind)->List (Str×Addr)
 |_,[]=>[]
 |n,(x,k)::r=>if k==.cell then CN (n+1) r++[(x,n)]else CN n r
theorem Bo:∀(names:List (Str×NameKind)) (n:Nat) (acc:List (Str×Addr)),cellsFrom n names acc=CN n names++acc
 |[],_,_=>rfl
 |(x,k)::r,n,acc=>by
   unfold cellsFrom CN;by_cases hk:(k==NameKind.cell)=true
   .rw[fb hk,fb hk,Bo r (n+1),gz];rfl
   .rw[fe hk,fe hk,Bo r n]
theorem Ib:∀(names:List (Str×NameKind)) (n:Nat) (x:Str) (c:Addr),(CN n names).lookup x=some c->(x,NameKind.cell)∈names
 |[],_,_,_,e=>by cases e
 |(y,k)::r,n,x,c,e=>by
   unfold CN at e;by_cases hk:(k==NameKind.cell)=true
   .rw[fb hk]at e;have hk':k=.cell:=by simpa using hk
    rw[gW]at e;cases q:(CN (n+1) r).lookup x with
    |some d=>exact fj _ (Ib r _ x d q)
    |none=>
     rw[q]at e;simp only[none_or,fP]at e;by_cases hx:(x==y)=true
     .have:x=y:=by simpa using hx
      subst this;subst hk';exact fo
     .have hx':(x==y)=false:=by simpa using hx
      rw[hx']at e;cases e
   .rw[fe hk]at e;exact fj _ (Ib r n x c e)
theorem Ic:∀(names:List (Str×NameKind)) (n:Nat) (x:Str),(x,NameKind.cell)∈names->∃c,(CN n names).lookup x=some c
 |[],_,_,h=>by cases h
 |(y,k)::r,n,x,h=>by
   unfold CN;by_cases hk:(k==NameKind.cell)=true
   .rw[fb hk,gW];rcases mem_cons.mp h with h|h
    .obtain⟨rfl,rfl⟩:=Prod.mk.inj h;cases q:(CN (n+1) r).lookup x with
     |some d=>exact⟨d,rfl⟩
     |none=>exact⟨n,by simp[fP]⟩
    .obtain⟨c,hc⟩:=Ic r (n+1) x h;exact⟨c,by rw[hc];rfl⟩
   .rw[fe hk];rcases mem_cons.mp h with h|h
    .cases h;simp at hk
    .exact Ic r n x h
noncomputable def QV(scope:Scope)(C:Addr)(env:Env):Env:=
 { scope:=relabel scope env,locals:=C,globals:=env.globals,cells:=cellsFrom (C+1) 75 (AR env.cells 75 []),qual:=env.qual,func:=none,code:=env.code,frame:=env.frame,builtins:=env.builtins }
def KQ{M:Model}{A:Around}{E:Value->Shared->Prop}{s:Shared}{scope:Scope}{env:Env}{Q:Env->Shared->Prop}
 (hQ:∀h',(∀b o,s.heap.get? b=some o->h'.get? b=some o)->h'.Ns 58 (λ_=>none)->(∀x c,(CN (58+1) 75).lookup x=some c->h'.IsCell c none/\58<c) ->
  ((CN (58+1) 75).Pairwise λx y=>x.2≠y.2) ->
  Q { scope:=scope,locals:=58,globals:=env.globals,cells:=cellsFrom (58+1) 75 cl,qual:=env.qual,func:=none,code:=env.code,frame:=env.frame,builtins:=env.builtins } { s with heap:=h' }):
 wpAny M A (newFunctionEnv scope env.globals cl [] env.qual none .none (some env)) Q E s:=by
 simp only[newFunctionEnv,Option.isSome_some,fL];refine fc (wpAny_alloc ?_);refine fc (wpAny_layCells _ (λname kind cells=>by cases hkc:kind==NameKind.cell<;>simp[hkc]) _ _ _ _ ?_);have ok:=cellsFrom_ok 75 (s.heap.push { cls:=.type "dict",data:=.dict #[] }) (58+1) [] ⟨λ_ _ hm=>(nomatch hm),List.Pairwise.nil⟩ (by rw[Heap.size_push];exact fg _);rw[Heap.size_push,Bo,fY]at ok;rw[show({ s with heap:=s.heap.push { cls:=.type "dict",data:=.dict #[] } }:Shared).heap.objs.size=58+1 from Heap.size_push ..];refine fc (fh (fh ?_));exact hQ _ (λb o e=>pushCells_keeps _ _ b o (66 _ e)) ((Heap.Ns.new s.heap (.type "dict")).keeps (pushCells_keeps _ _)) (λx c hc=>⟨(ok.empty x c (mem_of_lookup hc)).1,(ok.empty x c (mem_of_lookup hc)).2⟩) ok.apart
theorem LF:∀{names:List (Str×NameKind)} {x:Str} {k k':NameKind},(names.map (·.1)).Nodup->(x,k)∈names->(x,k')∈names->k=k'
 |[],_,_,_,_,h,_=>by cases h
 |(y,q)::r,x,k,k',nd,h,h'=>by
   have nd:(y::r.map (·.1)).Nodup:=nd;obtain⟨n1,n2⟩:=nodup_cons.mp nd;have out:∀{z:NameKind},(y,z)∈r->False:=λm=>n1 (mem_map.mpr ⟨_,m,rfl⟩);rcases mem_cons.mp h with e|e<;>rcases mem_cons.mp h' with e'|e'
   .cases e;cases e';rfl
   .cases e;exact(out e').elim
   .cases e';exact(out e).elim
   .exact LF n2 e e'
theorem Gc{env:Env}{x:Str}:∀{names:List (Str×NameKind)},names.lookup x=some .free ->
 (names.map λ(n,k)=>if(k==132&&env.scope.kind==.function&&env.kindOf n==some .cell)then(n,NameKind.cell)else(n,k)).lookup x=some .cell ∨
 (names.map λ(n,k)=>if(k==132&&env.scope.kind==.function&&env.kindOf n==some .cell)then(n,NameKind.cell)else(n,k)).lookup x=some .free
 |[],h=>by simp at h
 |(n,k)::r,h=>by
   have ih:=@Gc env x r;show List.lookup x ((if(k==132&&env.scope.kind==.function&&env.kindOf n==some .cell)=true then(n,NameKind.cell)else(n,k))::_)=_∨List.lookup x ((if(k==132&&env.scope.kind==.function&&env.kindOf n==some .cell)=true then(n,NameKind.cell)else(n,k))::_)=_;cases hx:x==n with
   |true=>
    simp only[fP,hx]at h;cases h;by_cases hc:(132==132&&env.scope.kind==.function&&env.kindOf n==some .cell)=true
    .rw[fb hc];exact .inl (by simp only[fP,hx])
    .rw[fe hc];exact .inr (by simp only[fP,hx])
   |false=>
    simp only[fP,hx]at h;by_cases hc:(k==132&&env.scope.kind==.function&&env.kindOf n==some .cell)=true
    .rw[fb hc];simp only[fP,hx];exact ih h
    .rw[fe hc];simp only[fP,hx];exact ih h
theorem Gn{env:Env}{x:Str}:∀{names:List (Str×NameKind)},
 ((names.map λ(n,k)=>if(k==132&&env.scope.kind==.function&&env.kindOf n==some .cell)then(n,NameKind.cell)else(n,k)).lookup x=some .cell ∨
 (names.map λ(n,k)=>if(k==132&&env.scope.kind==.function&&env.kindOf n==some .cell)then(n,NameKind.cell)else(n,k)).lookup x=some .free) ->
 names.lookup x=some .cell∨names.lookup x=some .free
 |[],h=>by simp at h
 |(n,k)::r,h=>by
   have ih:=@Gn env x r;have h:List.lookup x ((if(k==132&&env.scope.kind==.function&&env.kindOf n==some .cell)=true then(n,NameKind.cell)else(n,k))::_)=_∨List.lookup x ((if(k==132&&env.scope.kind==.function&&env.kindOf n==some .cell)=true then(n,NameKind.cell)else(n,k))::_)=_:=h;cases hx:x==n with
   |true=>
    by_cases hc:(k==132&&env.scope.kind==.function&&env.kindOf n==some .cell)=true
    .have hk:k=.free:=by
      have:=(Bool.and_eq_true _ _ ▸ (Bool.and_eq_true _ _ ▸ hc).1:(k==132)=true/\_).1;simpa using this
     exact .inr (by simp only[fP,hx,hk])
    .rw[fe hc]at h;simp only[fP,hx]at h ⊢;exact h
   |false=>
    simp only[fP,hx];refine ih ?_;by_cases hc:(k==132&&env.scope.kind==.function&&env.kindOf n==some .cell)=true
    .rw[fb hc]at h;simp only[fP,hx]at h;exact h
    .rw[fe hc]at h;simp only[fP,hx]at h;exact h
noncomputable def cCx(X:Cx)(N':List Str)(scope:Scope)(s:Shared)(H:Hp)(ex:List Addr):Cx:=
 { X with N:=N',s₀:=s,H₀:=H,env:=QV scope s.heap.objs.size X.env,outer:=X.stack,ex:=ex,fn:=λx=>decide ((x,NameKind.cell)∈75),pn:=[],xe:=λ_ _=>False }
structure CSc(X:Cx)(scope:Scope)(fr:List Str)(ix:List Nat):Prop where
 kind:scope.kind=.function
 nd:(scope.names.map (·.1)).Nodup
 free:(scope.names.all λy=>y.2 != .free||X.env.kindOf y.1==some .cell||X.env.kindOf y.1==some .free)=true
 frs:(fr.all λx=>scope.names.lookup x==some .free)=true
 ixs:fr.map some=ix.map λi=>X.N[i]?
 loc:(scope.names.all λy=>y.2 != .local||scope.names.lookup y.1==some .local)=true
noncomputable def GS(n:Nat)(ix:List Nat)(σ:St):St:=104 n none++ix.map λi=>(σ[i]?).join
section
def CSc.outer(S:CSc X scope fr ix)(hy:y∈75)(e:y.2=.free):X.env.kindOf y.1=some .cell∨X.env.kindOf y.1=some .free:=by
 have h:=all_eq_true.mp S.free y hy;rw[e]at h;simpa using h
def CSc.clos(S:CSc X scope fr ix)(ok:X.Ok):∀y∈75,y.2=.free->∃c,X.env.cells.lookup y.1=some c:=λy hy e=>ok.has y.1 (S.outer hy e)
def D3(S:CSc X scope fr ix)(ok:X.Ok){n:Nat}(e:(cellsFrom n 75 111).lookup x=some c):
 (CN n 75).lookup x=some c∨X.env.cells.lookup x=some c:=by
 rw[Bo,gW]at e;cases q:(CN n 75).lookup x with
 |some d=>rw[q]at e;exact .inl e
 |none=>
  rw[q]at e;exact .inr (DU (S.clos ok) (λ_ _ z=>by simp at z) x c e)
def Il(S:CSc X scope fr ix)(I:Inv X pins σ H s)(hex:∀b∈ex,FpOk X pins H b){h':Heap}(hk:∀b o,s.heap.get? b=some o->h'.get? b=some o)(hn:h'.Ns 58 λ_=>none)
 (ho:∀x c,(CN (58+1) 75).lookup x=some c->h'.IsCell c none/\58<c) (ha:(CN (58+1) 75).Pairwise λx y=>x.2≠y.2) (hlt:∀b∈ex,b<58):
 Inv 116 [] (GS loc.length ix σ) H { s with heap:=h' }:=by
 have old:∀x c,X.env.cells.lookup x=some c->c<s.heap.objs.size:=λx c e=>let ⟨v,z⟩:=I.cell x c e;z.lt
 have lenix:fr.length=ix.length:=by simpa using fS List.length S.ixs
 refine⟨⟨I.ok.mod,?_,I.ok.glob,I.ok.blt,fg _,?_,?_,?_,I.ok.hd,I.ok.frames,.inl rfl,?_,I.bs,fu I.ok.bsz I.sz,?_,?_,I.stack,I.stkFree⟩,rfl,I.bare,Un.kept hk,⟨_,hn,?_⟩,?_,I.hok.fresh (fg _),?_,?_,I.hok.kept hk,?_⟩
 .exact S.kind
 .intro x y c e1 e2;rcases D3 S I.ok e1 with a|a<;>rcases D3 S I.ok e2 with b|b
  .exact name_of_addr ha (113 a) (113 b)
  .exact absurd (lt_trans (ho x c a).2 (old y c b)) (gy _)
  .exact absurd (lt_trans (ho y c b).2 (old x c a)) (gy _)
  .exact I.ok.inj x y c a b
 .intro x hx;rcases Gn hx with e|e
  .exact isSome_iff_exists.mp (PySem.W.cellsFrom_some _ _ _ (.inl e))
  .exact isSome_iff_exists.mp (PySem.W.cellsFrom_some _ _ _ (.inr (Cq (.inr (113 e)))))
 .intro x c hf e;have hf:(x,NameKind.cell)∈scope.names:=gq hf;obtain⟨d,hd⟩:=Ic 75 (58+1) x hf;have e':(cellsFrom (58+1) 75 111).lookup x=some c:=e;rw[Bo,gW,hd]at e';cases e';exact gB (ho x _ hd).2
 .intro b hb;refine⟨fz (hlt b hb),λx c e z=>?_⟩;rcases D3 S I.ok e with a|a
  .exact absurd (lt_trans (ho x c a).2 (by rw[z];exact hlt b hb)) (gy _)
  .exact(hex b hb).2.2.2.2.1 x c a z
 .intro b o e hb;rcases(hex b hb).2.2.2.1 with z|z
  .exact I.ok.noex b o e z
  .exact absurd (fW (74 (I.ok.bs b o e).1) z) (gy _)
 .intro b hb hf;rcases mem_cons.mp (I.stkSub b hf)with z|z
  .exact(hex b hb).2.1 z
  .exact(hex b hb).2.2.1 z
 .intro i x v e1 e2 e3;have e1:(loc++fr)[i]?=some x:=e1;unfold GS at e2;by_cases hi:i<loc.length
  .rw[List.getElem?_append_left (by simpa using hi),List.getElem?_replicate]at e2;split at e2<;>cases e2
  .have hi':loc.length<=i:=not_lt.mp hi;rw[List.getElem?_append_right (by simpa using hi')]at e2;rw[List.getElem?_append_right hi']at e1;rw[List.length_replicate,List.getElem?_map]at e2;generalize hj:i-loc.length=j at e1 e2;have e4:(fr.map some)[j]?=some (some x):=by rw[List.getElem?_map,e1];rfl
   rw[S.ixs,List.getElem?_map]at e4;cases q:ix[j]? with
   |none=>rw[q]at e2;cases e2
   |some k=>
    rw[q]at e2 e4;have e2:(σ[k]?).join=some v:=86 e2;have e4:X.N[k]?=some x:=86 e4;have e5:σ[k]?=some (some v):=by
     cases w:σ[k]? with
     |none=>rw[w]at e2;cases e2
     |some z=>rw[w]at e2;simpa using e2
    have hfx:=all_eq_true.mp S.frs x (fQ e1);have hfx:scope.names.lookup x=some .free:=by simpa using hfx
    have hmem:=113 hfx;have hout:=S.outer hmem rfl;obtain⟨m,hm,hl⟩:=I.loc;obtain⟨u,r,l⟩:=hl k x v e4 e5 (.inr hout);refine⟨u,r,.inr ⟨Gc hfx,?_⟩⟩;rcases l with⟨kk,_⟩|⟨kk,c,ec,z⟩
    .rcases hout with w|w
     .rw[kk]at w;cases w
     .rw[kk]at w;cases w
    .have own0:(CN (58+1) 75).lookup x=none:=by
      cases w:(CN (58+1) 75).lookup x with
      |none=>rfl
      |some d=>exact absurd (LF S.nd (Ib _ _ _ _ w) hmem) 90
     have hc:(111).lookup x=some c:=by
      obtain⟨d,hd⟩:=isSome_iff_exists.mp (Cq (cells:=X.env.cells) (acc:=[]) (.inr hmem));have:=DU (S.clos I.ok) (λ_ _ z=>by simp at z) x d hd;rw[ec]at this;cases this;exact hd
     refine⟨c,?_,z.keeps hk⟩;show(cellsFrom (58+1) 75 111).lookup x=some c;rw[Bo,gW,own0,hc];rfl
 .intro x c e;rcases D3 S I.ok e with a|a
  .exact⟨_,(ho x c a).1⟩
  .obtain⟨v,z⟩:=I.cell x c a;exact⟨v,z.keeps hk⟩
 .intro x c e;rcases D3 S I.ok e with a|a
  .exact I.hok.fresh (gB (ho x c a).2)
  .exact I.freeC x c a
 .intro p hp;cases hp
 .unfold GS;show _=(loc++fr).length;simp[lenix]
end
section
variable{R:Result->Shared->Prop}
def HP{iter:Expr}(I:Nat->Shared->Prop)
 (turn:∀n s,I n s->wpAny 89 A (pyNext it) (λr s₁=>match r with
  |none=>R (.ok .next) s₁
  | some v=>wpAny 89 A (letOwnedTupleGo target it v) (λ_ s₁=>wpAny 89 A (assign target env v) (λ_ s₂=>
   wpAny 89 A (forIn ifs true λc r=>if r=true then do let ok <- isTrue c env (eval c env);pure (ForInStep.yield ok)else pure (ForInStep.yield r)) (λok s₃=>
    if ok=true then wpAny 89 A (eval elt env) (λx s₄=>
     wpAny 89 A (call (.builtin "list.append") [acc,x]) (λ_ s₅=>∃m,m<n/\I m s₅) (λ_ _=>False) s₄) (λ_ _=>False) s₃
    else ∃m,m<n/\I m s₃) (λ_ _=>False) s₂) (λ_ _=>False) s₁) (λ_ _=>False) s₁) (λ_ _=>False) s)
 (n:Nat) (h:I n s):
 codeAny 89 A (.compLoop (.ListComp elt [⟨target,iter,ifs,0⟩] scope pos) 0 it acc env) R s:=by
 refine codeAny_loop rfl I (λn s hI=>?_) n h;show wpAny _ A ((compTurn (.ListComp elt [⟨target,iter,ifs,0⟩] scope pos) 0 it acc env).onRaise (λx=>do noteFrame x env;theTreesLotGoes x)) _ _ s;refine wpAny_noted ?_;rw[compTurn_list];refine fc (gM (fc (fw (turn n s hI) (λr s₁ h₁=>?_) λ_ _ h'=>h'.elim)));cases r with
 |none=>exact fh h₁
 |some v=>
  refine fc (fw h₁ (λ_ s₁ h₁=>?_) λ_ _ h'=>h'.elim);refine fc (fw h₁ (λ_ s₂ h₂=>fc (fw h₂ (λok s₃ h₃=>?_) λ_ _ h'=>h'.elim)) λ_ _ h'=>h'.elim);cases ok with
  |false=>exact fh ⟨rfl,h₃⟩
  |true=>
   exact fc (fc (fw h₃ (λx s₄ h₄=>fc (fw h₄ (λ_ s₅ h₅=>fh (fh ⟨rfl,h₅⟩)) λ_ _ h'=>h'.elim)) λ_ _ h'=>h'.elim))
end
def PF(X:Cx)(ifs:List Expr)(t:TT):Prop:=
 ∀(pins:List 92) (s:Shared) (σ:St) (H:Hp) (Q:Bool->Hp->Prop),Inv X pins σ H s->t σ H Q ->
   wpAny 68 X.A (forIn ifs true λc r=>if r=true then do let ok <- isTrue c X.env (eval c X.env);pure (ForInStep.yield ok)else pure (ForInStep.yield r)) (TP X pins σ Q) X.xe s
noncomputable def TH:TT:=λ_ H Q=>Q true H
def aP:PF X [] TH:=λpins s σ H Q I h=>wpAny_tests_nil ⟨H,I,h⟩
def aO(h:PT X c t):PF X [c] t:=λpins s σ H Q I q=>wpAny_tests_one (h pins s σ H Q I q)
def W6(J:It)(D:Addr)(σ0:St)(H0:Hp)(g:TG)(tf:TT)(te:TE)(Q:VK):Prop:=∃W:Nat->Nat->St->List V->Hp->Prop,
 (∃m,W 0 m σ0 [] (upd H0 D (.lst [])))/\∀i m σ ys H,W i m σ ys H->H D=some (.lst ys)/\
  ((J.stop i H/\Q (.ref D) H)∨(J.go i H/\ys.length<sizeLine/\∃N:St->List V->Hp->Prop,(∀σ' ys' H',N σ' ys' H'->∃m',m'<m/\W (i+1) m' σ' ys' H')/\
    ∀x H',J.yld i H x H'->g x σ H' λσ2 H2=>tf σ2 H2 λb H3=>
     if b=true then te σ2 H3 λv H4=>H4 D=some (.lst ys)/\N σ2 (ys++[v]) (upd H4 D (.lst (ys++[v])))
     else N σ2 ys H3))
noncomputable def Fv(n:Nat)(ix:List Nat)(wi:TI)(g:TG)(tf:TT)(te:TE):TE:=λσ H Q=>wi σ H λJ H1=>∀D,H1 D=none->W6 J D (GS n ix σ) H1 g tf te Q
section
def Sm{D:Addr}{Q:Value->Shared->Prop}{E:Value->Shared->Prop}(I:Inv X pins σ H s)(hD:H D=some (.lst ys))(r:RelV x u)(hz:ys.length<sizeLine)
 (h:∀v s',Inv X pins σ (upd H D (.lst (ys++[x]))) s'->Q v s'):wpAny 68 X.A (call (.builtin "list.append") [.ref D,u]) Q E s:=by
 have I':=I.wish λ_ _=>False;have q:=LG (X:=X.wish λ_ _=>False) pins s σ H (.ref D) [x] (.ref D) [u] (λv H'=>H'=upd H D (.lst (ys++[x]))) I' rfl (.cons r .nil) ⟨D,ys,x,rfl,rfl,hD,hz,rfl⟩;refine fw q (λv s' ⟨v',H',I2,_,e⟩=>?_) λ_ _ z=>False.elim z;subst e;exact h v s' I2.unwish
def Xx{iter:Expr}(hc:X.calm=true)(S:CSc X scope fr ix)(hi:PI X tg iter wi)
 (hg:∀s H ex,PG 116 tg g) (hf:∀s H ex,PF 116 ifs tf) (he:∀s H ex,PE 116 elt te)
 (hs:∀x,foldedSetIterable iter X.env x=pure x:=by intro _;rfl):PE X 146 (Fv loc.length ix wi g tf te):=by
 intro pins s σ H Q I h;rw[eval_ListComp];have hnames:∀y∈75,y.2=.local->scope.names.lookup y.1=some .local:=λy hy e=>by
  have:=all_eq_true.mp S.loc y hy;rw[e]at this;simpa using this
 refine iD (use:=none) rfl hs (D8 (S.clos I.ok)) S.kind hnames (thn (hi pins s σ H _ I h) λv s1 h1=>thn h1 λitv s2 h2=>?_);obtain⟨it,fp,tn,J,H2,rfl,I2,T,st2,f2,hW⟩:=h2;refine iy ?_;have fresh2:H2 71=none:=I2.hok.fresh (fg _);have I3:=I2.lnew (its:=[]) (ys:=[]) (t':=s2.toks) .nil (gn _);obtain⟨W,⟨m0,w0⟩,turn⟩:=hW 71 fresh2;have lt2:∀b∈fp,b<s2.heap.objs.size:=λb hb=>let ⟨o,e,_⟩:=T.obj 0 _ st2 b hb;74 e
 have f3:∀b∈fp,FpOk X pins (upd H2 71 (.lst [])) b:=λb hb=>⟨by rw[upd_ne (fz (lt2 b hb))];exact(f2 b hb).1,(f2 b hb).2⟩
 have lt3:∀b∈fp,b<(s2.heap.push { cls:=.type "list",data:=.seq ([]:List Value).toArray }).objs.size:=λb hb=>by rw[Heap.size_push];exact i9 (lt2 b hb)
 generalize hs3:({ s2 with heap:=s2.heap.push { cls:=.type "list",data:=.seq ([]:List Value).toArray } }:Shared)=s3 at *;have lt3:∀b∈fp,b<s3.heap.objs.size:=by rw[<- hs3];exact lt3
 have st3:tn 0 s3.heap:=T.keep _ _ _ st2 λb hb o e=>by rw[<- hs3];exact 66 _ e
 refine KQ λh' hk hn ho ha=>?_;have I4:=Il (loc:=loc) S I3 f3 hk hn ho ha lt3;have fpX:∀{H':Hp},(∀b∈fp,H' b=none)->∀b∈fp,FpOk (cCx X (loc++fr) scope s3 (upd H2 71 (.lst [])) fp) [] H' b:=λhn b hb=>
  ⟨hn b hb,(I4.ok.exf b hb).1,I4.ok.exfs b hb,.inl hb,(I4.ok.exf b hb).2,λp hp=>by cases hp⟩
 have loop:codeAny 68 X.A (.compLoop 146 0 (.ref it) (.ref 71) (QV scope 114 X.env))
  (compPost 68 X.A X.xe none (EP X pins σ Q) (.ref 71) 114) { s3 with heap:=h' }:=by
  refine HP (λn s'=>∃i σ' ys H',Inv (cCx X (loc++fr) scope s3 (upd H2 71 (.lst [])) fp) [] σ' H' s'/\tn i s'.heap/\(∀b∈fp,H' b=none)/\W i n σ' ys H') ?_ m0
   ⟨0,_,[],_,I4,T.keep _ _ _ st3 λb hb o e=>hk b o e,λb hb=>(f3 b hb).1,w0⟩
  rintro n s5 ⟨i,σ5,ys,H5,I5,st5,fr5,w5⟩;obtain⟨hD,w5⟩:=turn i n σ5 ys H5 w5;rcases w5 with⟨stop,qn⟩|⟨go,hz,N,hN,step⟩
  .refine thn (T.done (cCx X (loc++fr) scope s3 (upd H2 71 (.lst [])) fp) rfl rfl rfl hc i [] s5 σ5 H5 _ I5 (fpX fr5) st5 stop) λr s6 ⟨hr,I6⟩=>?_;subst hr;obtain⟨m,hm,_⟩:=I6.loc;refine⟨m,hm,λh'' hs=>?_⟩;have neC:∀b o,s3.heap.get? b=some o->b≠s3.heap.objs.size:=λb o e=>fz (74 e);have un:=I6.base;refine⟨.ref 71,H5,I3.call' (s':={ s6 with heap:=h'' }) (ch:=fp) I6.os ⟨λb o e n hb hx=>?_,λb o e n hb hx=>?_,un.free,λb o e hx=>?_,un.tups,un.frzs,un.tbls⟩ ?_ I6.bare ?_,rfl,qn⟩
   .exact(hs.2 b (neC b o e)).trans (un.keep b o e n hb hx)
   .obtain⟨sl,q⟩:=un.slot b o e n hb hx;exact⟨sl,(hs.2 b (neC b o e)).trans q⟩
   .obtain⟨o',q⟩:=un.there b o e hx;exact⟨o',(hs.2 b (neC b o e)).trans q⟩
   .intro b ob e;have hfree:H5 114=none:=I6.free;refine(I6.hok b ob e).stay (λc w' hc q=>(hs.2 c ?_).trans q) (λ_ q=>q) λ_ _ q=>q;intro z;rcases hc with hc|hc
    .rw[<- hc,z,hfree]at e;cases e
    .rw[z,hfree]at hc;cases hc
   .intro b hb;obtain⟨_,a2,_,a4,a5,a6⟩:=f3 b hb;exact⟨a4,a2,a5,a6⟩
  .refine thn (T.item (cCx X (loc++fr) scope s3 (upd H2 71 (.lst [])) fp) rfl rfl rfl hc i [] s5 σ5 H5 _ I5 (fpX fr5) st5 go) λr s6 ⟨u,hr,h6⟩=>?_;subst hr;refine thn h6 λ_ s7 ⟨x,H7,I7,r7,y7,st7,fr7⟩=>?_;have I7':=I7.pinned (fpX fr7) (T.obj _ _ st7);have keepI:∀{σ8:St} {H8:Hp} {s8:Shared},Inv (cCx X (loc++fr) scope s3 (upd H2 71 (.lst [])) fp) ([]++Eh fp s7.heap) σ8 H8 s8->tn (i+1) s8.heap/\∀b∈fp,H8 b=none:=λ{σ8 H8 s8} I8=>by
    refine⟨T.keep _ _ _ st7 λb hb o e=>(I8.pin (b,o) (fm _ (fm _ (Bt hb e)))).1,λb hb=>?_⟩;obtain⟨o,e,d⟩:=T.obj _ _ st7 b hb;exact(I8.pin (b,o) (fm _ (fm _ (Bt hb e)))).2.1
   refine thn (hg s3 (upd H2 71 (.lst [])) fp _ s7 σ5 H7 x u _ I7' r7 (step x H7 y7)) λ_ s8 ⟨σ8,H8,I8,q8⟩=>?_;refine thn (hf s3 (upd H2 71 (.lst [])) fp _ s8 σ8 H8 _ I8 q8) λb s9 ⟨H9,I9,q9⟩=>?_;cases b with
   |false=>
    rw[fe Bool.false_ne_true]at q9 ⊢;obtain⟨m',hm,w9⟩:=hN _ _ _ q9;exact⟨m',hm,i+1,σ8,ys,H9,I9.unpinned,(keepI I9).1,(keepI I9).2,w9⟩
   |true=>
    rw[fb rfl]at q9 ⊢;refine thn (he s3 (upd H2 71 (.lst [])) fp _ s9 σ8 H9 _ I9 q9) λe10 s10 ⟨v10,H10,I10,r10,hD10,n10⟩=>?_;obtain⟨m',hm,w10⟩:=hN _ _ _ n10;refine Sm (X:=cCx X (loc++fr) scope s3 (upd H2 71 (.lst [])) fp) I10 hD10 r10 hz λ_ s11 I11=>?_;exact⟨m',hm,i+1,σ8,_,_,I11.unpinned,(keepI I11).1,(keepI I11).2,w10⟩
 exact codeAny_compStart_list loop (T.self X.A 0 _ _ _ (T.keep _ _ _ st3 λb hb o e=>hk b o e) loop)
end
section
variable{X:Cx}
def QJ{iter:Expr}{tn:Nat->Heap->Prop}{s2:Shared}{E:Value->Shared->Prop}
 {RR:Value->Addr->Result->Shared->Prop} (hc:X.calm=true) (S:CSc X scope fr ix)
 (hg:∀s H ex,PG 116 tg g) (hf:∀s H ex,PF 116 ifs tf) (he:∀s H ex,PE 116 elt te)
 (I2:Inv X pins σ H2 s2) (T:Turn X.prog X.w X.K tg J fp it tn) (st2:tn 0 s2.heap) (f2:∀b∈fp,FpOk X pins H2 b) (hW:∀D,H2 D=none->W6 J D (GS loc.length ix σ) H2 g tf te Q)
 (hfin:∀(s3 s6:Shared) (H5:Hp) (σ5:St) (D:Addr),Inv X pins σ (upd H2 D (.lst [])) s3->Inv (cCx X (loc++fr) scope s3 (upd H2 D (.lst [])) fp) [] σ5 H5 s6->(∀b∈fp,FpOk X pins (upd H2 D (.lst [])) b)->Q (.ref D) H5->RR (.ref D) 114 (.ok .next) s6):
 wpAny 68 X.A (newList []) (λacc s₃=>wpAny 68 X.A (newFunctionEnv scope X.env.globals 111 [] X.env.qual none .none (some X.env)) (λcenv s₄=>
  codeAny 68 X.A (.compStart 146 0 (.ref it) acc { cenv with scope:=relabel scope X.env }) (RR acc cenv.locals) s₄) E s₃) E s2:=by
 refine iy ?_;have fresh2:H2 71=none:=I2.hok.fresh (fg _);have I3:=I2.lnew (its:=[]) (ys:=[]) (t':=s2.toks) .nil (gn _);obtain⟨W,⟨m0,w0⟩,turn⟩:=hW 71 fresh2;have lt2:∀b∈fp,b<s2.heap.objs.size:=λb hb=>let ⟨o,e,_⟩:=T.obj 0 _ st2 b hb;74 e
 have f3:∀b∈fp,FpOk X pins (upd H2 71 (.lst [])) b:=λb hb=>⟨by rw[upd_ne (fz (lt2 b hb))];exact(f2 b hb).1,(f2 b hb).2⟩
 have lt3:∀b∈fp,b<(s2.heap.push { cls:=.type "list",data:=.seq ([]:List Value).toArray }).objs.size:=λb hb=>by rw[Heap.size_push];exact i9 (lt2 b hb)
 generalize hs3:({ s2 with heap:=s2.heap.push { cls:=.type "list",data:=.seq ([]:List Value).toArray } }:Shared)=s3 at *;have lt3:∀b∈fp,b<s3.heap.objs.size:=by rw[<- hs3];exact lt3
 have st3:tn 0 s3.heap:=T.keep _ _ _ st2 λb hb o e=>by rw[<- hs3];exact 66 _ e
 refine KQ λh' hk hn ho ha=>?_;have I4:=Il (loc:=loc) S I3 f3 hk hn ho ha lt3;have fpX:∀{H':Hp},(∀b∈fp,H' b=none)->∀b∈fp,FpOk (cCx X (loc++fr) scope s3 (upd H2 71 (.lst [])) fp) [] H' b:=λhn b hb=>
  ⟨hn b hb,(I4.ok.exf b hb).1,I4.ok.exfs b hb,.inl hb,(I4.ok.exf b hb).2,λp hp=>by cases hp⟩
 have loop:codeAny 68 X.A (.compLoop 146 0 (.ref it) (.ref 71) (QV scope 114 X.env))
  (RR (.ref 71) 114) { s3 with heap:=h' }:=by
  refine HP (λn s'=>∃i σ' ys H',Inv (cCx X (loc++fr) scope s3 (upd H2 71 (.lst [])) fp) [] σ' H' s'/\tn i s'.heap/\(∀b∈fp,H' b=none)/\W i n σ' ys H') ?_ m0
   ⟨0,_,[],_,I4,T.keep _ _ _ st3 λb hb o e=>hk b o e,λb hb=>(f3 b hb).1,w0⟩
  rintro n s5 ⟨i,σ5,ys,H5,I5,st5,fr5,w5⟩;obtain⟨hD,w5⟩:=turn i n σ5 ys H5 w5;rcases w5 with⟨stop,qn⟩|⟨go,hz,N,hN,step⟩
  .refine thn (T.done (cCx X (loc++fr) scope s3 (upd H2 71 (.lst [])) fp) rfl rfl rfl hc i [] s5 σ5 H5 _ I5 (fpX fr5) st5 stop) λr s6 ⟨hr,I6⟩=>?_;subst hr;exact hfin s3 s6 H5 σ5 71 I3 I6 f3 qn
  .refine thn (T.item (cCx X (loc++fr) scope s3 (upd H2 71 (.lst [])) fp) rfl rfl rfl hc i [] s5 σ5 H5 _ I5 (fpX fr5) st5 go) λr s6 ⟨u,hr,h6⟩=>?_;subst hr;refine thn h6 λ_ s7 ⟨x,H7,I7,r7,y7,st7,fr7⟩=>?_;have I7':=I7.pinned (fpX fr7) (T.obj _ _ st7);have keepI:∀{σ8:St} {H8:Hp} {s8:Shared},Inv (cCx X (loc++fr) scope s3 (upd H2 71 (.lst [])) fp) ([]++Eh fp s7.heap) σ8 H8 s8->tn (i+1) s8.heap/\∀b∈fp,H8 b=none:=λ{σ8 H8 s8} I8=>by
    refine⟨T.keep _ _ _ st7 λb hb o e=>(I8.pin (b,o) (fm _ (fm _ (Bt hb e)))).1,λb hb=>?_⟩;obtain⟨o,e,d⟩:=T.obj _ _ st7 b hb;exact(I8.pin (b,o) (fm _ (fm _ (Bt hb e)))).2.1
   refine thn (hg s3 (upd H2 71 (.lst [])) fp _ s7 σ5 H7 x u _ I7' r7 (step x H7 y7)) λ_ s8 ⟨σ8,H8,I8,q8⟩=>?_;refine thn (hf s3 (upd H2 71 (.lst [])) fp _ s8 σ8 H8 _ I8 q8) λb s9 ⟨H9,I9,q9⟩=>?_;cases b with
   |false=>
    rw[fe Bool.false_ne_true]at q9 ⊢;obtain⟨m',hm,w9⟩:=hN _ _ _ q9;exact⟨m',hm,i+1,σ8,ys,H9,I9.unpinned,(keepI I9).1,(keepI I9).2,w9⟩
   |true=>
    rw[fb rfl]at q9 ⊢;refine thn (he s3 (upd H2 71 (.lst [])) fp _ s9 σ8 H9 _ I9 q9) λe10 s10 ⟨v10,H10,I10,r10,hD10,n10⟩=>?_;obtain⟨m',hm,w10⟩:=hN _ _ _ n10;refine Sm (X:=cCx X (loc++fr) scope s3 (upd H2 71 (.lst [])) fp) I10 hD10 r10 hz λ_ s11 I11=>?_;exact⟨m',hm,i+1,σ8,_,_,I11.unpinned,(keepI I11).1,(keepI I11).2,w10⟩
 exact codeAny_compStart_list loop (T.self X.A 0 _ _ _ (T.keep _ _ _ st3 λb hb o e=>hk b o e) loop)
def O4{s3:Shared}(I3:Inv X pins σ H3 s3)(I6:Inv (cCx X N' scope s3 H3 fp) [] σ5 H5 s6)(f3:∀b∈fp,FpOk X pins H3 b)
 (hs:Heap.SameBut 114 s6.heap h''):Inv X pins σ H5 { s6 with heap:=h'' }:=by
 have neC:∀b o,s3.heap.get? b=some o->b≠s3.heap.objs.size:=λb o e=>fz (74 e);have un:=I6.base;refine I3.call' (s':={ s6 with heap:=h'' }) (ch:=fp) I6.os ⟨λb o e n hb hx=>?_,λb o e n hb hx=>?_,un.free,λb o e hx=>?_,un.tups,un.frzs,un.tbls⟩ ?_ I6.bare ?_
 .exact(hs.2 b (neC b o e)).trans (un.keep b o e n hb hx)
 .obtain⟨sl,q⟩:=un.slot b o e n hb hx;exact⟨sl,(hs.2 b (neC b o e)).trans q⟩
 .obtain⟨o',q⟩:=un.there b o e hx;exact⟨o',(hs.2 b (neC b o e)).trans q⟩
 .intro b ob e;have hfree:H5 114=none:=I6.free;refine(I6.hok b ob e).stay (λc w' hc q=>(hs.2 c ?_).trans q) (λ_ q=>q) λ_ _ q=>q;intro z;rcases hc with hc|hc
  .rw[<- hc,z,hfree]at e;cases e
  .rw[z,hfree]at hc;cases hc
 .intro b hb;obtain⟨_,a2,_,a4,a5,a6⟩:=f3 b hb;exact⟨a4,a2,a5,a6⟩
def Xg{i:Nat}{iter:Expr}{spos:Pos}(hN:X.N.Nodup)(hiN:X.N[i]?=some y)(hy:X.env.scope.names.lookup y=some .local)
 (hc:X.calm=true) (S:CSc X scope fr ix) (hi:PI X tg iter wi)
 (hg:∀s H ex,PG 116 tg g) (hf:∀s H ex,PF 116 ifs tf) (he:∀s H ex,PE 116 elt te)
 (hsw:swapsWith 146 (some (.Name y py)) spos.line X.env=pure true:=by rfl) (hs:∀x,foldedSetIterable iter X.env x=pure x:=by intro _;rfl):
 PS X (.Assign [.Name y py] 146 spos) (Ec (Fv loc.length ix wi g tf te) (Dq i)):=by
 intro pins s σ H D I h;have hnames:∀y∈75,y.2=.local->scope.names.lookup y.1=some .local:=λy hy e=>by
  have:=all_eq_true.mp S.loc y hy;rw[e]at this;simpa using this
 rw[exec_Assign_Name_used _ _ _ _ hsw];refine fc (gM (fc ?_));show wpAny _ _ (do let _ <- comprehension 146 scope X.env _ (newList []) false (eval iter X.env) (some (assign (.Name y py) X.env))) _ _ s;refine fc (fw (iD (use:=some (assign (.Name y py) X.env)) (Q:=λ_ s'=>SP X pins D .next s') rfl hs (D8 (S.clos I.ok)) S.kind hnames
  (thn (hi pins s σ H _ I h) λv s1 h1=>thn h1 λitv s2 h2=>?_)) (λ_ s' hq=>fh (fh hq)) λ_ _ e=>e)
 obtain⟨it,fp,tn,J,H2,rfl,I2,T,st2,f2,hW⟩:=h2;refine QJ (RR:=λacc C=>compPost 68 X.A X.xe (some (assign (.Name y py) X.env)) (λ_ s'=>SP X pins D .next s') acc C) hc S hg hf he I2 T st2 f2 hW λs3 s6 H5 σ5 L I3 I6 f3 q=>?_;have J6:Inv X pins σ H5 s6:=O4 (h'':=s6.heap) I3 I6 f3 (.refl ..);obtain⟨m,hm,_⟩:=I6.loc;have hm:s6.heap.Ns 114 m:=hm;have hL:114≠X.env.locals:=Ne.symm (fz I3.lt);show wpAny _ _ (assign (.Name y py) X.env (.ref L)) _ _ s6;refine wpAny_assign_Name (Ky (v:=.ref L) J6 hN hiN (.inl hy) rfl (λs7 I7 ⟨a,sb,ha⟩=>?_) (.inr hy));have hca:114≠a:=by
  rcases ha with rfl|ha
  .exact hL
  .obtain⟨v,z⟩:=I3.cell y a ha;exact Ne.symm (fz z.lt)
 refine⟨m,hm.sameBut sb hca,λh' hs'=>?_⟩;refine⟨_,H5,I7.turned (t':=s7.toks) (it:=114) (λb o hb e=>(hs'.2 b hb).trans e) I6.free hL (.inr I3.sz) (λx c e z=>?_) (λp hp z=>?_),q⟩
 .obtain⟨v,w⟩:=I3.cell x c e;exact absurd w.lt (by rw[z];exact gy _)
 .exact absurd (74 (I3.pin p hp).1) (by rw[z];exact gy _)
end
mutual
def Rep(K:Frag)(H:Hp):PyData->V->Prop
 |.none,v=>v=.non
 |.bool b,v=>v=.bl b
 |.int i,v=>v=.int i
 |.str x,v=>v=.str x
 |.list ds,v=>∃a xs,v=.ref a/\SqL K H a xs/\CM K H ds xs
 |.tuple ds,v=>∃a xs,v=.ref a/\SqT K H a xs/\CM K H ds xs
 |.dict _,_=>False
def CM(K:Frag)(H:Hp):List PyData->List V->Prop
 |[],xs=>xs=[]
 |d::ds,xs=>∃x r,xs=x::r/\Rep K H d x/\CM K H ds r
end
section
mutual
theorem E1(I:Inv X pins σ H s):∀(d:PyData) (v:V) (u:Value),Rep X.K H d v->RelV v u->∃as,Reads s.heap u d as
 |.none,v,u,h,r=>by
  have h:v=.non:=by simpa only[Rep]using h
  subst h;cases r;exact⟨_,.none⟩
 |.bool b,v,u,h,r=>by
  have h:v=.bl b:=by simpa only[Rep]using h
  subst h;cases r;exact⟨_,.bool b⟩
 |.int i,v,u,h,r=>by
  have h:v=.int i:=by simpa only[Rep]using h
  subst h;obtain⟨t,rfl⟩:=r;exact⟨_,.int i t⟩
 |.str x,v,u,h,r=>by
  have h:v=.str x:=by simpa only[Rep]using h
  subst h;obtain⟨t,rfl⟩:=r;exact⟨_,.str x t⟩
 |.list ds,v,u,h,r=>by
  have h:∃a xs,v=.ref a/\SqL X.K H a xs/\CM X.K H ds xs:=by simpa only[Rep]using h
  obtain⟨a,xs,rfl,hq,ha⟩:=h;cases r;obtain⟨its,rv,⟨o,n,e,c,_,dd⟩,hz⟩:=I.list hq;obtain⟨as,q⟩:=Eg I ds xs its ha rv;exact⟨_,.list e c dd (by simpa using q)⟩
 |.tuple ds,v,u,h,r=>by
  have h:∃a xs,v=.ref a/\SqT X.K H a xs/\CM X.K H ds xs:=by simpa only[Rep]using h
  obtain⟨a,xs,rfl,hq,ha⟩:=h;cases r;obtain⟨its,rv,⟨o,e,c,n,dd⟩,hz⟩:=I.tuple hq;obtain⟨as,q⟩:=Eg I ds xs its ha rv;exact⟨_,.tuple e c dd (by simpa using q)⟩
 |.dict _,v,u,h,r=>by
  have h:False:=by simpa only[Rep]using h
  exact h.elim
theorem Eg(I:Inv X pins σ H s):∀(ds:List PyData) (xs:List V) (us:List Value),CM X.K H ds xs->Vals xs us->∃as,ReadsAll s.heap us ds as
 |[],xs,us,h,r=>by
  have h:xs=[]:=by simpa only[CM]using h
  subst h;cases r;exact⟨_,.nil⟩
 |d::ds,xs,us,h,r=>by
  have h:∃x r,xs=x::r/\Rep X.K H d x/\CM X.K H ds r:=by simpa only[CM]using h
  obtain⟨x,rr,rfl,h1,h2⟩:=h;cases r with
  |cons r1 r2=>
   obtain⟨as,q1⟩:=E1 I d _ _ h1 r1;obtain⟨bs,q2⟩:=Eg I ds _ _ h2 r2;exact⟨_,.cons q1 q2⟩
end
end
def Stb:HO->Prop
 |.tup _=>True
 |.frz _ _=>True
 |.ext _=>True
 |.xd _=>True
 |_=>False
structure Grow(H H':Hp):Prop where
 keep:∀b o,Stb o->H b=some o->H' b=some o
theorem Grow.tup(g:Grow H H'):∀b xs,H b=some (.tup xs)->H' b=some (.tup xs):=λb _ h=>g.keep b _ trivial h
theorem Grow.frz(g:Grow H H'):∀b o u,H b=some (.frz o u)->H' b=some (.frz o u):=λb _ _ h=>g.keep b _ trivial h
def Grow.refl:Grow H H:=⟨λ_ _ _ h=>h⟩
def Chg(H:Hp)(p:Addr):Prop:=∀o,Stb o->H p≠some o
def Grow.put(a:Grow H H')(h:Chg H' p):Grow H (upd H' p o):=⟨λc u s e=>by
 have q:=a.keep c u s e;have n:c≠p:=λz=>h u s (by rw[<- z];exact q);rw[upd_ne n];exact q⟩
theorem Chg.lst(h:H p=some 145):Chg H p:=λo s e=>by rw[h]at e;cases e;exact s
def Grow.sq{K:Frag}(g:Grow H H')(h:SqT K H a xs):SqT K H' a xs:=by
 rcases h with(h|⟨o,h⟩)|h
 .exact .inl (.inl (g.tup _ _ h))
 .exact .inl (.inr ⟨o,g.frz _ _ _ h⟩)
 .exact .inr h
section
variable{X:Cx}
noncomputable def UB(K:Frag):R2:=λx y H Q=>∃d e,Rep K H d x/\Rep K H e y/\d.canLay0=true/\e.canLay0=true/\min d.depth e.depth<=60/\Q (.bl (!PyData.eqv d e)) H
noncomputable def UD(K:Frag):R2:=λx y H Q=>∃d e,Rep K H d x/\Rep K H e y/\d.canLay0=true/\e.canLay0=true/\min d.depth e.depth<=60/\Q (.bl (PyData.eqv d e)) H
def ah(hu:X.A.units+64<cLine):OpR X (compareOp .NotEq) (UB X.K):=by
 intro pins s σ H x y v u Q I rx ry h;obtain⟨d,e,h1,h2,c1,c2,hm,q⟩:=h;obtain⟨as,q1⟩:=E1 I d x v h1 rx;obtain⟨bs,q2⟩:=E1 I e y u h2 ry;exact PySem.SeqAt.compareNe_reads q1 q2 c1 c2 59 ⟨.bl _,H,I,rfl,q⟩
def ak(hu:X.A.units+64<cLine):OpR X (compareOp .Eq) (UD X.K):=by
 intro pins s σ H x y v u Q I rx ry h;obtain⟨d,e,h1,h2,c1,c2,hm,q⟩:=h;obtain⟨as,q1⟩:=E1 I d x v h1 rx;obtain⟨bs,q2⟩:=E1 I e y u h2 ry;exact PySem.SeqAt.compareEq_reads q1 q2 c1 c2 59 ⟨.bl _,H,I,rfl,q⟩
theorem DI:∀{ns:List Int} {us:List Value},Vals (ns.map V.int) us->IntsAre us ns
 |[],_,.nil=>.nil
 |n::ns,_,.cons r t=>by obtain⟨k,rfl⟩:=r;exact .cons _ _ (DI t)
def Sg(hc:X.calm=true):CallR X (.builtin "sum") (λxs H Q=>∃(a:Addr) (ns:List Int),xs=[.ref a]/\SqL X.K H a (ns.map V.int)/\Q (.int ns.sum) H):=by
 intro pins s σ H xs us Q I r h;obtain⟨a,ns,rfl,hq,q⟩:=h;obtain⟨u,rfl,ru⟩:=BJ r;cases ru;obtain⟨its,rv,p,hz⟩:=I.list hq;have hi:=DI rv;obtain⟨xs,hx⟩:=hi.allInts.items;have hl':s.heap.IsList a (intItems xs):=hx ▸ p.isList;refine sum_intListG (I.ok.hd hc) hl' λh' tk t' hk=>?_;have e1:ns=xs.toList.map (·.1):=by
  rw[<- iu,<- hx];exact(show numsOf its.toArray.toList=ns from hi.numsOf).symm
 have e2:preSum (numAt xs) xs.size=ns.sum:=by
  rw[preSum_eq,List.take_of_length_le 70,e1]
 rw[e2];exact⟨.int ns.sum,H,I.kept hk,⟨_,rfl⟩,q⟩
end
end L2
namespace L2
open PySem PySem.Spec PyProof.Rows
section
variable(K:Frag){X:Cx}
def ND(hK:X.K=K:=by rfl):IxR X (IX K):=by subst hK;exact Ob
def Oa(hK:X.K=K:=by rfl):IxR X (UC K):=by subst hK;exact bE
def Te(hK:X.K=K:=by rfl):SlR X (Pa K):=by subst hK;exact WX
def N6(hK:X.K=K:=by rfl):OpR X (compareOp .In) (rIn K false):=by subst hK;exact Rv
def Rs(hK:X.K=K:=by rfl):OpR X (compareOp .NotIn) (rIn K true):=by subst hK;exact N5
def KP(hu:X.A.units+64<cLine)(hK:X.K=K:=by rfl):OpR X (compareOp .Eq) (UD K):=by subst hK;exact ak hu
def KO(hu:X.A.units+64<cLine)(hK:X.K=K:=by rfl):OpR X (compareOp .NotEq) (UB K):=by subst hK;exact ah hu
def N7(hK:X.K=K:=by rfl):OpR X (binaryOp .Add) (Pb K):=by subst hK;exact Y3
def ZU:List V->Hp->VK->Prop:=λxs H Q=>∃p ys,xs=[.ref p]/\(SqL K H p ys∨SqT K H p ys)/\Q (.int ys.length) H
def Sj(hK:X.K=K:=by rfl):CallR X (.builtin "len") (ZU K):=by subst hK;exact Nc
def KN:List V->Hp->VK->Prop:=λxs H Q=>∃p ys,xs=[.ref p]/\(SqL K H p ys∨SqT K H p ys)/\∀l,H l=none->Q (.ref l) (upd H l (.lst ys))
def QP(hK:X.K=K:=by rfl):CallR X (.type "list") (KN K):=by subst hK;exact Nb
def N0:List V->Hp->VK->Prop:=λxs H Q=>∃p ys,xs=[.ref p]/\((SqL K H p ys/\∀l,H l=none->Q (.ref l) (upd H l (.tup ys)))∨(SqT K H p ys/\Q (.ref p) H))
def IH(hK:X.K=K:=by rfl):CallR X (.type "tuple") (N0 K):=by subst hK;exact Lp
def Vg:List V->Hp->VK->Prop:=λxs H Q=>∃(a:Addr) (ns:List Int),xs=[.ref a]/\SqL K H a (ns.map V.int)/\Q (.int ns.sum) H
def LV(hc:X.calm=true)(hK:X.K=K:=by rfl):CallR X (.builtin "sum") (Vg K):=by subst hK;exact Sg hc
def IZ(hl:PE X l tl)(hK:X.K=K:=by rfl):PI X tg l (GF K tl):=by subst hK;exact Xo hl
def OS(hl:PE X l tl)(hK:X.K=K:=by rfl):PI X tg l (NH K tl):=by subst hK;exact aL hl
def Xq{pos:Pos}{k:Nat}{n:Nat}(hc:X.calm=true)(h:PGs X es t)(hK:X.K=K:=by rfl)
 (hn:(assignEach es X.env).length=n:=by rfl) (hst:(assignEach es X.env).findIdx? (·.1)=none:=by rfl):PG X (.Tuple es k pos) (Q3 K n t):=by
 subst hK;exact aM hc h hn hst
end
section
variable(K:Frag){X:Cx}
theorem La:∀{bs:List Bool} {us:List Value} {i:Nat} {v:Value},Vals (bs.map V.bl) us->us[i]?=some v->∃b,bs[i]?=some b/\v=.bool b
 |[],_,_,_,.nil,e=>by simp at e
 |b::bs,_,0,_,.cons r _,e=>by simp at e;subst e;exact⟨b,rfl,r⟩
 |b::bs,_,i+1,_,.cons _ t,e=>by
  obtain⟨c,h1,h2⟩:=La (i:=i) t (by simpa using e);exact⟨c,by simpa using h1,h2⟩
def ZV:List V->Hp->VK->Prop:=λxs H Q=>∃(a:Addr) (bs:List Bool),xs=[.ref a]/\SqL K H a (bs.map V.bl)/\Q (.bl (bs.any id)) H
def LZ(hc:X.calm=true)(hK:X.K=K:=by rfl):CallR X (.builtin "any") (ZV K):=by
 subst hK;intro pins s σ H xs us Q I r h;obtain⟨a,bs,rfl,hq,q⟩:=h;obtain⟨u,rfl,ru⟩:=BJ r;cases ru;obtain⟨its,rv,p,hz⟩:=I.list hq;have hl:=p.isList;have hlen:=rv.length;have hlt:a<s.heap.objs.size:=by obtain⟨_,e,_⟩:=hl;exact 74 e
 refine call_any_walk (ir hl ?_);refine⟨58,[58,a],[58],141,_,_,λi=>(bs[i]?).getD false,rfl,Walks.list (A:=X.A.in1) (I.ok.hd hc) _ a (fz hlt) 87,
  ⟨⟨_,78 _ rfl,rfl,rfl⟩,hl.push _⟩,λi v s' Q' E' hP hQ=>?_,λh' tk hk=>?_⟩
 .obtain⟨b,e,rfl⟩:=La rv (by simpa using hP);simp only[e,getD_some]at hQ;exact gU hQ
 .have e:((69 141).any λi=>(bs[i]?).getD false)=bs.any id:=by
   rw[ft,<- hlen,fN];exact LSm.range_any bs
  rw[e];exact⟨.bl _,H,I.kept (LSm.kept_iter hk),rfl,q⟩
def KM:List V->Hp->VK->Prop:=λxs H Q=>∃(a:Addr) (ns:List Int),xs=[.ref a]/\SqL K H a (ns.map V.int)/\ns.length<64/\∀(p:Addr) (ns':List Int),H p=none->ns'.Perm ns->ns'.Pairwise (·<=·)->Q (.ref p) (upd H p (.lst (ns'.map V.int)))
theorem KA:∀{ns:List Int} {us:List Value},IntsAre us ns->Vals (ns.map V.int) us
 |[],_,.nil=>.nil
 |_::_,_,.cons _ _ t=>.cons ⟨_,rfl⟩ (KA t)
def Na(hK:X.K=K:=by rfl):CallR X (.builtin "sorted") (KM K):=by
 subst hK;intro pins s σ H xs us Q I r h;obtain⟨a,ns,rfl,hq,h64,q⟩:=h;obtain⟨u,rfl,ru⟩:=BJ r;cases ru;obtain⟨its,rv,p,hz⟩:=I.list hq;have hlen:=rv.length;rw[fN]at hlen;refine sorted_ints p.isList (DI rv) 59 λout ns' a1 a2 a3=>?_;obtain⟨e,he⟩:=sortedAll_at s.heap its out;have hl':ns'.length=ns.length:=a2.length_eq;refine⟨.ref (58+1),_,I.laid (a:=58+1) (o:=.lst (ns'.map V.int)) (t':=s.toks) (λb o hb=>sortedAll_old hb) (gL _) ⟨?_,out.toList,e,KA a1,he⟩,rfl,q _ _ (I.hok.fresh (gL _)) a2 a3⟩;rw[fN,hl'];exact gB (Gk 59)
def Vj:List V->Hp->VK->Prop:=λxs H Q=>∃(a:Addr) (ns:List Int),xs=[.ref a]/\SqL K H a (ns.map V.int)/\0<ns.length/\∀M:Int,M∈ns->(∀x∈ns,x<=M)->Q (.int M) H
def LY(hc:X.calm=true)(hK:X.K=K:=by rfl):CallR X (.builtin "max") (Vj K):=by
 subst hK;intro pins s σ H xs us Q I r h;obtain⟨a,ns,rfl,hq,hne,q⟩:=h;obtain⟨u,rfl,ru⟩:=BJ r;cases ru;obtain⟨its,rv,p,hz⟩:=I.list hq;have hi:=DI rv;obtain⟨ys,e⟩:=hi.allInts.items;have hns:ns=ys.toList.map (·.1):=by
  rw[<- hi.numsOf,<- iu,<- e]
 have hsz:0<ys.size:=by
  have h3:=hne;rw[hns,fN,Array.length_toList]at h3;exact h3
 have hl:=p.isList;rw[e]at hl;refine max_intList (I.ok.hd hc) hl hsz λv h' tk hv hk=>?_;obtain⟨t,rfl⟩:=intItems_at hv;obtain⟨h1,h2⟩:=argBest_gt (numAt ys) (ys.size-1);refine⟨.int _,H,I.kept hk,⟨t,rfl⟩,q _ ?_ λx hx=>?_⟩
 .rw[hns,numAt_eq];exact getD_mem (by rw[fN,Array.length_toList];omega)
 .rw[hns]at hx;obtain⟨j,hj,rfl⟩:=mem_getD hx;rw[fN,Array.length_toList]at hj;rw[<- numAt_eq];exact h2 j 59
def Vh:List V->Hp->VK->Prop:=λxs H Q=>∃(a:Addr) (ns:List Int),xs=[.ref a]/\SqL K H a (ns.map V.int)/\0<ns.length/\∀M:Int,M∈ns->(∀x∈ns,M<=x)->Q (.int M) H
def LX(hc:X.calm=true)(hK:X.K=K:=by rfl):CallR X (.builtin "min") (Vh K):=by
 subst hK;intro pins s σ H xs us Q I r h;obtain⟨a,ns,rfl,hq,hne,q⟩:=h;obtain⟨u,rfl,ru⟩:=BJ r;cases ru;obtain⟨its,rv,p,hz⟩:=I.list hq;have hi:=DI rv;obtain⟨ys,e⟩:=hi.allInts.items;have hns:ns=ys.toList.map (·.1):=by
  rw[<- hi.numsOf,<- iu,<- e]
 have hsz:0<ys.size:=by
  have h3:=hne;rw[hns,fN,Array.length_toList]at h3;exact h3
 have hl:=p.isList;rw[e]at hl;refine min_intList (I.ok.hd hc) hl hsz λv h' tk hv hk=>?_;obtain⟨t,rfl⟩:=intItems_at hv;obtain⟨h1,h2⟩:=argBest_lt (numAt ys) (ys.size-1);refine⟨.int _,H,I.kept hk,⟨t,rfl⟩,q _ ?_ λx hx=>?_⟩
 .rw[hns,numAt_eq];exact getD_mem (by rw[fN,Array.length_toList];omega)
 .rw[hns]at hx;obtain⟨j,hj,rfl⟩:=mem_getD hx;rw[fN,Array.length_toList]at hj;rw[<- numAt_eq];exact h2 j 59
end
section
variable{E:Value->Shared->Prop}{s:Shared}
def Ge{Q:Value->Shared->Prop}(hl:s.heap.IsTuple l (intItems xs))
 (h:∀s₂:Shared,s₂={ s with heap:=s.heap.push { cls:=.type "tuple_iterator",data:=.fields #[.ref l,.int 0 0] } } ->
  (s₂.heap.IsTupleIter 58 l 0/\s₂.heap.IsTuple l (intItems xs))->(∀b∈[58,l],b<s₂.heap.objs.size)->l≠58->Q (.ref 58) s₂):
 wpAny 89 A (pyIter (.ref l)) Q E s:=by
 have hlt:l<s.heap.objs.size:=by obtain⟨_,e,_⟩:=hl;exact 74 e
 refine wpAny_pyIter_tuple hl (h _ rfl ⟨⟨_,78 _ rfl,rfl,rfl⟩,hl.push _⟩ (λb hb=>?_) (fz hlt));show b<(s.heap.push _).objs.size;rw[Heap.size_push];rcases mem_cons.mp hb with rfl|hb
 .exact Nat.lt_succ_self _
 .rcases mem_cons.mp hb with rfl|hb
  .exact i9 hlt
  .cases hb
def LB{h':Heap}(hk:∀b x,b∉[58]->(s.heap.push o).get? b=some x->h'.get? b=some x):∀b x,s.heap.get? b=some x->h'.get? b=some x:=
 λb x e=>hk b x (λhm=>by rw[mem_singleton.mp hm]at e;exact gy _ (74 e)) (66 _ e)
def Ma{Q:Value->Shared->Prop}(hh:A.handled=none)(hl:s.heap.IsTuple l (intItems xs))
 (h:∀h' tk t',(∀b o,s.heap.get? b=some o->h'.get? b=some o)->Q (.int (preSum (numAt xs) xs.size) t') { s with heap:=h',toks:=tk }):
 wpAny 89 A (call (.builtin "sum") [.ref l]) Q E s:=by
 refine call_sum_walkG (Ge hl λs₂ e st hfp hlI=>?_);subst e;refine⟨_,_,_,_,_,_,numAt xs,rfl,Walks.tuple (A:=A.in1) hh _ l hlI (intItems xs),st,hfp,(λ_ _=>intItems_at),λh' tk t' hk=>?_⟩;have:=h h' tk t' (LB hk);simpa [intItems]using this
def NA{Q:Value->Shared->Prop}(hh:A.handled=none)(hl:s.heap.IsTuple l (intItems xs))(hne:0<xs.size)
 (h:∀v h' tk,(intItems xs)[argBest (λi j=>decide (numAt xs i>numAt xs j)) (xs.size-1)]?=some v->(∀b o,s.heap.get? b=some o->h'.get? b=some o)->Q v { s with heap:=h',toks:=tk }):
 wpAny 89 A (call (.builtin "max") [.ref l]) Q E s:=by
 refine call_max_walk (Ge hl λs₂ e st hfp hlI=>?_);subst e;refine⟨_,_,_,_,_,_,_,rfl,Walks.tuple (A:=A.in1) hh _ l hlI (intItems xs),st,hfp,by simpa [intItems]using hne,CmpOf.ints_gt (numAt xs) (λ_ _=>intItems_at),λv h' tk hP hk=>?_⟩;exact h v h' tk (by simpa [intItems]using hP) (LB hk)
end
section
variable(K:Frag){X:Cx}
def Vf:List V->Hp->VK->Prop:=λxs H Q=>∃(a:Addr) (ns:List Int),xs=[.ref a]/\SqT K H a (ns.map V.int)/\Q (.int ns.sum) H
def K0(hc:X.calm=true)(hK:X.K=K:=by rfl):CallR X (.builtin "sum") (Vf K):=by
 subst hK;intro pins s σ H xs us Q I r h;obtain⟨a,ns,rfl,hq,q⟩:=h;obtain⟨u,rfl,ru⟩:=BJ r;cases ru;obtain⟨its,rv,p,hz⟩:=I.tuple hq;have hi:=DI rv;obtain⟨xs,hx⟩:=hi.allInts.items;have hl':s.heap.IsTuple a (intItems xs):=hx ▸ (show s.heap.IsTuple a 87 from p);refine Ma (I.ok.hd hc) hl' λh' tk t' hk=>?_;have e1:ns=xs.toList.map (·.1):=by
  rw[<- iu,<- hx];exact(show numsOf its.toArray.toList=ns from hi.numsOf).symm
 have e2:preSum (numAt xs) xs.size=ns.sum:=by
  rw[preSum_eq,List.take_of_length_le 70,e1]
 rw[e2];exact⟨.int ns.sum,H,I.kept hk,⟨_,rfl⟩,q⟩
def Vi:List V->Hp->VK->Prop:=λxs H Q=>∃(a:Addr) (ns:List Int),xs=[.ref a]/\SqT K H a (ns.map V.int)/\0<ns.length/\∀M:Int,M∈ns->(∀x∈ns,x<=M)->Q (.int M) H
def K1(hc:X.calm=true)(hK:X.K=K:=by rfl):CallR X (.builtin "max") (Vi K):=by
 subst hK;intro pins s σ H xs us Q I r h;obtain⟨a,ns,rfl,hq,hne,q⟩:=h;obtain⟨u,rfl,ru⟩:=BJ r;cases ru;obtain⟨its,rv,p,hz⟩:=I.tuple hq;have hi:=DI rv;obtain⟨ys,e⟩:=hi.allInts.items;have hns:ns=ys.toList.map (·.1):=by
  rw[<- hi.numsOf,<- iu,<- e]
 have hsz:0<ys.size:=by
  have h3:=hne;rw[hns,fN,Array.length_toList]at h3;exact h3
 have hl:s.heap.IsTuple a (intItems ys):=e ▸ (show s.heap.IsTuple a 87 from p);refine NA (I.ok.hd hc) hl hsz λv h' tk hv hk=>?_;obtain⟨t,rfl⟩:=intItems_at hv;obtain⟨h1,h2⟩:=argBest_gt (numAt ys) (ys.size-1);refine⟨.int _,H,I.kept hk,⟨t,rfl⟩,q _ ?_ λx hx=>?_⟩
 .rw[hns,numAt_eq];exact getD_mem (by rw[fN,Array.length_toList];omega)
 .rw[hns]at hx;obtain⟨j,hj,rfl⟩:=mem_getD hx;rw[fN,Array.length_toList]at hj;rw[<- numAt_eq];exact h2 j 59
end
structure DefAt(K:Frag)(mg:Str->Option Value)(x:Str)(st:Stmt)(f:Addr)(fd:FuncData)(ps:List Str):Prop where
 fn:Fun K x x st f fd
 mg:mg x=some (.ref f)
 bd:Binds K fd ps []
def Pl{X:Cx}{j k:Nat}{st:Stmt}{p:Pos}(F:FnOk X.prog X.w X.K X.mg X.base CX0 j f fd ps sp)(hr:Room k X.A)(D:DefAt X.K X.mg x st f fd ps)(ha:PA X (e::es) t)
 (hjk:j<=k:=by decide) (hg:Gl X x:=by rfl) (hdb:126=false:=by decide) (he:starEach (e::es) X.env=88::starEach es X.env:=by rfl) (hpl:(backTo pos 130).any (·.1)=false:=by rfl):
 PE X (.Call (.Name x p) (e::es) [] pos) (C9 sp [] E0 t):=
 Xz (F.mono hjk) hr hg D.mg D.fn.kp D.bd .nil Vo ha hdb he hpl
def Oo:bootBuiltins "list"=some (.type "list"):=by decide +kernel
def bt_tuple:bootBuiltins "tuple"=some (.type "tuple"):=by decide +kernel
def bt_int:bootBuiltins "int"=some (.type "int"):=by decide +kernel
def bt_len:bootBuiltins "len"=some (.builtin "len"):=by decide +kernel
def bt_sum:bootBuiltins "sum"=some (.builtin "sum"):=by decide +kernel
def bt_min:bootBuiltins "min"=some (.builtin "min"):=by decide +kernel
def bt_max:bootBuiltins "max"=some (.builtin "max"):=by decide +kernel
def FE:bootBuiltins "sorted"=some (.builtin "sorted"):=by decide +kernel
def bt_any:bootBuiltins "any"=some (.builtin "any"):=by decide +kernel
def Lr:bootBuiltins "isinstance"=some (.builtin "isinstance"):=by decide +kernel
def ne1:¬ (("cells":Str)="next"):=by decide +kernel
def ne2:¬ (("cells":Str)="left"):=by decide +kernel
mutual
theorem IG:∀ns:List Int,PyData.canLayAll0 (ns.map PyData.int)=true
 |[]=>by simp[PyData.canLayAll0]
 |n::ns=>by simp[PyData.canLayAll0,PyData.canLay0,IG ns]
end
end L2
namespace L2
open PySem PySem.Spec PyProof.Rows PySem.W
noncomputable def lCx(X:Cx)(A:Around)(N':List Str)(qual:Str)(scope:Scope)(f:Addr)(cd:Value)(cl:List (Str×Addr))(s:Shared)(H:Hp):Cx:=
 { X with N:=N',s₀:=s,H₀:=H,A:=A.deeper (envX qual scope s.heap.objs.size f cd cl),env:=envX qual scope s.heap.objs.size f cd cl,outer:=X.stack,stack:=envX qual scope s.heap.objs.size f cd cl::X.stack,ex:=[],fn:=λ_=>false,calm:=true,pn:=[],xe:=λ_ _=>False }
structure LSc(scope:Scope)(p:Str):Prop where
 nocell:(scope.names.all λy=>y.2 != .cell)=true
 par:scope.names.lookup p=some .local
 co:scope.isCoroutine=false
 gen:scope.isGenerator=false
section
def LSc.ne(L:LSc scope p):∀y∈75,y.2≠.cell:=λy hy e=>by
 have:=all_eq_true.mp L.nocell y hy;rw[e]at this
 revert this;decide
def YS(S:CSc X scope fr ix)(L:LSc scope p)(I:Inv X pins σ H s){A:Around}(hf:A.frames=X.A.frames)(hh:A.handled=none){h':Heap}{t':Nat}
 (hk:∀b o,s.heap.get? b=some o->h'.get? b=some o) (hn:h'.Ns 58 λy=>if y=p then some u else none) (r:RelV x u):
 Inv (lCx X A (p::fr) qual scope f cd 111 s H) [] (some x::ix.map λi=>(σ[i]?).join) H { s with heap:=h',toks:=t' }:=by
 have lenix:fr.length=ix.length:=by simpa using fS List.length S.ixs
 have co:∀x c,(111).lookup x=some c->X.env.cells.lookup x=some c:=λx c e=>DU (S.clos I.ok) (λ_ _ z=>by simp at z) x c e;refine⟨⟨I.ok.mod,S.kind,rfl,rfl,fg _,?_,?_,?_,λ_=>hh,Around.frames_deeper (hf.trans I.ok.frames),.inr ⟨rfl,rfl⟩,?_,I.bs,fu I.ok.bsz I.sz,?_,?_,I.stack,I.stkFree⟩,rfl,I.bare,Un.kept hk,⟨_,hn,?_⟩,?_,I.hok.fresh (fg _),?_,?_,I.hok.kept hk,?_⟩
 .intro x y c e1 e2;exact I.ok.inj x y c (co x c e1) (co y c e2)
 .intro x hx;rcases hx with e|e
  .exact absurd rfl (L.ne (x,.cell) (113 e))
  .exact isSome_iff_exists.mp (Cq (.inr (113 e)))
 .intro x c hf;cases hf
 .intro b hb;cases hb
 .intro b o e hb;cases hb
 .intro b hb;cases hb
 .intro i y v e1 e2 e3;cases i with
  |zero=>
   have e1:some p=some y:=e1;have e2:some (some x)=some (some v):=e2;cases e1;cases e2;exact⟨u,r,.inl ⟨L.par,fb rfl⟩⟩
  |succ j=>
   have e1:fr[j]?=some y:=e1;have e2:(ix.map λi=>(σ[i]?).join)[j]?=some (some v):=e2;rw[List.getElem?_map]at e2;have e4:(fr.map some)[j]?=some (some y):=by rw[List.getElem?_map,e1];rfl
   rw[S.ixs,List.getElem?_map]at e4;cases q:ix[j]? with
   |none=>rw[q]at e2;cases e2
   |some k=>
    rw[q]at e2 e4;have e2:(σ[k]?).join=some v:=86 e2;have e4:X.N[k]?=some y:=86 e4;have e5:σ[k]?=some (some v):=by
     cases w:σ[k]? with
     |none=>rw[w]at e2;cases e2
     |some z=>rw[w]at e2;simpa using e2
    have hfx:=all_eq_true.mp S.frs y (fQ e1);have hfx:scope.names.lookup y=some .free:=by simpa using hfx
    have hmem:=113 hfx;have hout:=S.outer hmem rfl;obtain⟨m,hm,hl⟩:=I.loc;obtain⟨u',r',l⟩:=hl k y v e4 e5 (.inr hout);refine⟨u',r',.inr ⟨.inr hfx,?_⟩⟩;rcases l with⟨kk,_⟩|⟨kk,c,ec,z⟩
    .rcases hout with w|w
     .rw[kk]at w;cases w
     .rw[kk]at w;cases w
    .obtain⟨d,hd⟩:=isSome_iff_exists.mp (Cq (cells:=X.env.cells) (acc:=[]) (.inr hmem));have:=co y d hd;rw[ec]at this;cases this;exact⟨c,hd,z.keeps hk⟩
 .intro x c e;obtain⟨v,z⟩:=I.cell x c (co x c e);exact⟨v,z.keeps hk⟩
 .intro x c e;exact I.freeC x c (co x c e)
 .intro p hp;cases hp
 .show(_::_:List (Option V)).length=(p::fr).length;simp[lenix]
def Ii(S:CSc X scope fr ix)(L:LSc scope p)(I:Inv X pins σ H s){A:Around}(hf:A.frames=X.A.frames)(hr:Room 1 A){x:V}{u:Value}{tb:TE}{Q:VK}
 (ho:s.heap.get? f=some { cls:=.type "function",data:=.func (kla_fn "<lambda>" qual params body scope 111 pm cd ctv) }) (hcd:s.heap.CodeRec cd qual)
 (hb:∀us:Value,bindArgs (kla_fn "<lambda>" qual params body scope 111 pm cd ctv) ⟨[us],[]⟩=pure [(p,us)])
 (he:∀(s:Shared) (H:Hp),PE (lCx X A (p::fr) qual scope f cd 111 s H) body tb) (r:RelV x u) (h:tb (some x::ix.map λi=>(σ[i]?).join) H Q):
 wpAny 68 A (call (.ref f) [u]) (EP X pins σ Q) (λ_ _=>False) s:=by
 refine wpAny_call (i0 (R:=λres s'=>match res with|.ok (.ret u)=>EP X pins σ Q u s'|_=>False) (kla_callFunE hr.depth ho rfl L.co L.gen rfl hcd ?_) ?_)
 .rw[hb];refine fh ?_;refine wpAny_newFunctionEnv L.ne (λy hy=>by rw[fO]at hy;subst hy;exact L.par) (λh' hns hsb=>⟨?_,?_⟩) S.kind
  .have hk:∀b o,s.heap.get? b=some o->h'.get? b=some o:=λb o e=>(hsb.2 b (fz (74 e))).trans (66 _ e);exact I.nolimit.keeps hk
  .have hk:∀b o,s.heap.get? b=some o->h'.get? b=some o:=λb o e=>(hsb.2 b (fz (74 e))).trans (66 _ e);have hns':h'.Ns 58 λy=>if y=p then some u else none:=by
    have e:(λy=>([(p,u)]:List (Str×Value)).reverse.lookup y)=λy=>if y=p then some u else none:=by
     funext y
     simp only[List.reverse_cons,List.reverse_nil,gQ,fP,List.lookup_nil];by_cases hy:y=p
     .subst hy;simp
     .have hb':(y==p)=false:=beq_eq_false_iff_ne.mpr hy;simp[hb',hy]
    rw[<- e];exact hns
   have J:=YS (t':=s.toks+1) (qual:=qual) (f:=f) (cd:=cd) S L I hf hr.hd hk hns' r;refine kla_codeExpr (fw (he s H [] _ _ H Q J h) (λv s' hv=>?_) λ_ _ z=>z.elim);obtain⟨y,H',J',ry,q⟩:=hv;obtain⟨hh,g,d,t,os'⟩:=s';obtain rfl:os'=s.os:=J'.os;exact⟨y,H',I.call (h':=hh) (g':=g) (d':=d) (t':=t) (ch:=[]) J'.base J'.hok J'.bare (λb z=>absurd z 70),ry,q⟩
 .intro res s' hq;cases res with
  |error e=>exact hq
  |ok fl=>
   cases fl with
   |ret u=>exact hq
   |next=>exact hq
   |brk=>exact hq
   |cont=>exact hq
end
def cdF(c:Addr)(q:Str):Heap->Prop:=λh=>h.CodeRec (.ref c) q
def Cs(H:Hp)(q:Str)(pos:Pos)(ps:Array Value):Prop:=ps=#[]∨∃c,ps=#[rawInt pos.line,rawInt pos.col,.ref c]/\H c=some (.ext (cdF c q))
def TabStep(P:Addr)(q:Str)(pos:Pos)(H H':Hp):Prop:=H'=H∨∃c,H c=none/\c≠P/\H'=upd (upd H P (.tbl #[rawInt pos.line,rawInt pos.col,.ref c])) c (.ext (cdF c q))
structure LamAt(X:Cx)(c P:Addr):Prop where
 code:X.env.code=.ref c
 hd:CodeHd X.base c P
 bl:X.base.BuiltinsAt X.mg P
section
def YQ(I:Inv X pins σ H s)(hP:H P=some (.tbl ps)){h':Heap}{t':Nat}(hx:∀b o,b≠P->s.heap.get? b=some o->h'.get? b=some o)(hc:58<=c')
 (hrec:h'.CodeRec (.ref c') q) (htb:h'.get? P=some (tabObj (ps++ps'))):Inv X pins σ (upd (upd H P (.tbl (ps++ps'))) c' (.ext (cdF c' q))) { s with heap:=h',toks:=t' }:=by
 have hcn:H c'=none:=I.hok.fresh hc;have hPc:P≠c':=AH hP hcn;have nP:∀b,H b=none->b≠P:=λb n z=>by subst z;rw[hP]at n;cases n
 have other:∀b,b≠P->b≠c'->upd (upd H P (.tbl (ps++ps'))) c' (.ext (cdF c' q)) b=H b:=λb h1 h2=>by rw[upd_ne h2,upd_ne h1]
 have ne':∀b u,H b=some u->b≠c':=λb u e=>AH e hcn;refine I.un (h':=h') (t':=t') ⟨λb o e n _ _=>hx b o (nP b n) e,λb o e n _ _=>⟨o.slots,hx b o (nP b n) e⟩,λb o e n _=>?_,λb o e _=>?_,λb xs e=>?_,λb o u e=>?_,λb qs e=>?_⟩ λb u e=>?_
 .rw[other b (nP b n) (fz (fW (Heap.lt_size e) hc))];exact n
 .by_cases z:b=P
  .subst z;exact⟨_,htb⟩
  .exact⟨o,hx b o z e⟩
 .rw[other b (λz=>by subst z;rw[hP]at e;cases e) (ne' b _ e)];exact e
 .rw[other b (λz=>by subst z;rw[hP]at e;cases e) (ne' b _ e)];exact e
 .by_cases z:b=P
  .subst z;rw[hP]at e;cases e;exact⟨ps',by rw[upd_ne hPc,AF]⟩
  .exact⟨#[],by rw[other b z (ne' b _ e),e];simp⟩
 .by_cases z:b=c'
  .subst z;rw[AF]at e;cases e;obtain⟨c0,o,vs,t,e0,r⟩:=id hrec;cases e0;refine⟨hrec,⟨o,r.1⟩,λh1 h2 q1 k=>?_⟩;obtain⟨c1,o1,vs1,t1,e1,g1,r1⟩:=q1;cases e1;exact⟨_,o1,vs1,t1,rfl,k _ g1,r1⟩
  .by_cases z2:b=P
   .subst z2;rw[upd_ne hPc,AF]at e;cases e;exact htb
   .rw[other b z2 z]at e;refine(I.hok b u e).stay (λd v hd q=>hx d v ?_ q) (λd q=>?_) λd xs q=>?_
    .rcases hd with rfl|hd
     .exact z2
     .intro y;subst y;rw[hP]at hd;cases hd
    .rw[other d (λy=>by subst y;rw[hP]at q;cases q) (ne' d _ q)];exact q
    .rw[other d (λy=>by subst y;rw[hP]at q;cases q) (ne' d _ q)];exact q
structure Made(X:Cx)(scope:Scope)(params:Arguments)(body:Expr)(P:Addr)(q:Str)(pos:Pos)(s:Shared)(H H':Hp)(f:Addr)(cd ctv:Value)(s':Shared):Prop where
 fn:s'.heap.get? f=some { cls:=.type "function",data:=.func (kla_fn "<lambda>" q params body scope 111 ((X.mg "__name__").getD .none) cd ctv) }
 cdc:∃c,cd=.ref c/\H' c=some (.ext (cdF c q))
 step:TabStep P q pos H H'
 new:58<=f
 fre:H' f=none
def G9(S:CSc X scope fr ix)(LA:LamAt X c P)(I:Inv X pins σ H s){E:Value->Shared->Prop}{Q:Value->Shared->Prop}(hdef:defaultsOf params X.env=([],[]))
 (hP:H P=some (.tbl ps)) (hg:Cs H 72 pos ps)
 (h:∀f cd ctv H' s',Inv X pins σ H' s'->Made X scope params body P 72 pos s H H' f cd ctv s'->Q (.ref f) s'):
 wpAny 68 A (eval (.Lambda params body scope pos) X.env) Q E s:=by
 have hcl:closureFor scope X.env=pure 111:=D8 (S.clos I.ok);have hns:=I.mod.glob.keeps I.bk;have hb:=LA.bl.keeps I.bk;have hcd:=LA.hd.keeps I.bk;have hobj:s.heap.get? P=some (tabObj ps):=I.hok P _ hP;have hgP:mainGlobals≠P:=λz=>by
  obtain⟨o,es,ep,e,hd,_⟩:=hns;rw[z,hobj]at e;cases e;cases hd
 refine kla_eval hdef ?_;rcases hg with rfl|⟨c',rfl,hc'⟩
 .refine kla_makeFunction hcl I.ok.glob hns LA.code hcd hobj trivial rfl hgP hb λc' ctv h' tk hx hge hlt hrec htb=>?_;have hx':∀b o,b≠P->s.heap.get? b=some o->(h'.push (kla_obj "<lambda>" 72 params body scope 111 ((X.mg "__name__").getD .none) c' ctv)).get? b=some o:=λb o n e=>66 _ (hx b o n e);have J:=YQ (t':=tk) I hP hx' hge (hrec.push _) (66 _ htb);refine h _ _ ctv _ _ J ⟨78 _ rfl,⟨c',rfl,AF⟩,.inr ⟨c',I.hok.fresh hge,(AH hP (I.hok.fresh hge)).symm,?_⟩,?_,?_⟩
  .simp
  .exact fu hge (gB hlt)
  .have hs:58<=h'.objs.size:=fu hge (gB hlt);rw[upd_ne (ne_of_gt hlt),upd_ne (ne_of_gt (fW (Heap.lt_size hobj) hs))];exact I.hok.fresh hs
 .have hrec:s.heap.CodeRec (.ref c') 72:=(I.hok c' _ hc').1;have hf:codeAmong pos (#[rawInt pos.line,rawInt pos.col,Value.ref c']:Array Value).toList=some (.ref c'):=by simp[codeAmong,rawInt]
  refine kla_makeFunctionHit hcl I.ok.glob hns LA.code hcd hobj (by simp[TriplesOk,rawInt]) hf hb λctv h' tk hk hsz=>?_;have hk':∀b o,s.heap.get? b=some o->(h'.push { cls:=.type "function",data:=.func (kla_fn "<lambda>" 72 params body scope 111 ((X.mg "__name__").getD .none) (.ref c') ctv) }).get? b=some o:=λb o e=>66 _ (hk b o e);exact h _ _ ctv _ _ (I.kept (t':=tk) hk') ⟨78 _ rfl,⟨c',rfl,hc'⟩,.inl rfl,hsz,I.hok.fresh hsz⟩
end
end L2
namespace L2
open PySem PySem.Spec PyProof.Rows
def Exo(h:Heap)(a C:Addr)(dx:Option Addr)(tb:Value):Prop:=∃vs sl,h.get? a=some ⟨.ref C,dx,.fields vs,sl⟩/\vs[1]?=some tb
end L2
namespace L2
open PySem PySem.Spec PyProof.Rows
open Builtin Builtin.ObjectAttr
def XO(a C:Addr)(dx:Option Addr)(h:Heap):Prop:=∃tb,Exo h a C dx tb
def XdAt(H:Hp):Option Addr->List (Str×V)->Prop
 |none,fs=>fs=[]
 |some d,fs=>H d=some (.xd fs)
end L2
namespace L2
open PySem PySem.Spec PyProof.Rows
def XdAt.grow(g:Grow H H')(h:XdAt H dx fs):XdAt H' dx fs:=by
 cases dx with
 |none=>exact h
 |some d=>exact g.keep _ _ trivial h
def ExR(K:Frag)(nm:Str)(fs:List Str)(H:Hp)(a:Addr)(xs:List V):Prop:=∃C dx,cw K nm=some C/\H a=some (.ext (XO a C dx))/\XdAt H dx (fs.zip xs)/\85=fs.length
theorem ExR.grow{K:Frag}(g:Grow H H')(h:ExR K nm fs H a xs):ExR K nm fs H' a xs:=
 let ⟨C,dx,h1,h2,h3,h4⟩:=h;⟨C,dx,h1,g.keep _ _ trivial h2,h3.grow g,h4⟩
end L2
namespace L2
open PySem PySem.Spec PyProof.Rows PySem.W
structure SndOk(q:Str)(params:Arguments)(scope:Scope)(body:Expr)(p1 p2:Str):Prop where
 ne:p1≠p2
 l1:LSc scope p1
 l2:LSc scope p2
 nofree:(scope.names.all λy=>y.2 != .free)=true
 kind:scope.kind=.function
 d1:(p2==("__debug__":Str))=false
 d2:(p2==("__classdict__":Str))=false
 bind:∀(cl:List (Str×Addr)) (pm cd ctv u v:Value),bindArgs (kla_fn "<lambda>" q params body scope cl pm cd ctv) ⟨[u,v],[]⟩=pure [(p1,u),(p2,v)]
def fnF(f c:Addr)(q:Str):Heap->Prop:=λh=>∃params scope p1 p2 pos pm ctv,h.get? f=some { cls:=.type "function",data:=.func (kla_fn "<lambda>" q params (.Name p2 pos) scope [] pm (.ref c) ctv) }/\SndOk q params scope (.Name p2 pos) p1 p2
structure CapOk(q:Str)(params:Arguments)(scope:Scope)(body:Expr)(p1 p2 x:Str):Prop where
 ne:p1≠p2
 n1:p1≠x
 n2:p2≠x
 l1:LSc scope p1
 l2:LSc scope p2
 lx:scope.names.lookup x=some .free
 only:(scope.names.all λy=>y.2 != .free||y.1==x)=true
 kind:scope.kind=.function
 d1:(p1==("__debug__":Str))=false
 d2:(p1==("__classdict__":Str))=false
 d3:126=false
 d4:(x==("__classdict__":Str))=false
 bind:∀(cl:List (Str×Addr)) (pm cd ctv u v:Value),bindArgs (kla_fn "<lambda>" q params body scope cl pm cd ctv) ⟨[u,v],[]⟩=pure [(p1,u),(p2,v)]
def fnG(f c:Addr)(q:Str)(cl:Addr):Heap->Prop:=λh=>∃params scope p1 p2 x px pp pos pm ctv,h.get? f=some { cls:=.type "function",data:=.func (kla_fn "<lambda>" q params (.Subscript (.Name x px) (.Name p1 pp) pos) scope [(x,cl)] pm (.ref c) ctv) }/\CapOk q params scope (.Subscript (.Name x px) (.Name p1 pp) pos) p1 p2 x
def Jz(o:Obj)(a0:Addr):Prop:=o.data=.cell (some (.ref a0))
noncomputable abbrev FO:HO:=.ext λ_=>True
def FvR(k:Nat)(H:Hp)(a:Addr)(xs:List V):Prop:=(k=0/\xs=[]/\∃c q,H a=some (.ext (fnF a c q))/\H c=some (.ext (cdF c q))) ∨
 (k=1/\∃c q cl a0 o1 o2,H a=some (.ext (fnG a c q cl))/\H c=some (.ext (cdF c q))/\Jz o1 a0/\H cl=some (.frz o1 FO)/\H a0=some (.frz o2 145))
def FvR.grow{k:Nat}(g:Grow H H')(h:FvR k H a xs):FvR k H' a xs:=by
 rcases h with⟨h1,h2,c,q,h3,h4⟩|⟨h1,c,q,cl,a0,o1,o2,h2,h3,h4,h5,h6⟩
 .exact .inl ⟨h1,h2,c,q,g.keep _ _ trivial h3,g.keep _ _ trivial h4⟩
 .exact .inr ⟨h1,c,q,cl,a0,o1,o2,g.keep _ _ trivial h2,g.keep _ _ trivial h3,h4,g.keep _ _ trivial h5,g.keep _ _ trivial h6⟩
noncomputable def del(H:Hp)(c:Addr):Hp:=λb=>if b=c then none else H b
def E7(h:b≠c):del H c b=H b:=fe h
def Ix:del H c c=none:=fb rfl
def Es(h:H b=none):del H c b=none:=by unfold del;split<;>first|rfl|exact h
def Iw(h:del H c b=some o):b≠c/\H b=some o:=by
 unfold del at h;split at h
 .cases h
 .next n=>exact⟨n,h⟩
theorem HOk.del(k:HOk P w H h)(e:H c=some (.frz o u)):HOk P w (del H c) h:=λa ho q=>by
 obtain⟨n,q⟩:=Iw q;refine(k a ho q).stay (λ_ _ _ z=>z) (λb z=>?_) λb xs z=>?_
 .rw[E7 λy=>by subst y;rw[e]at z;cases z];exact z
 .rw[E7 λy=>by subst y;rw[e]at z;cases z];exact z
def HOk.undel(k:HOk P w (L2.del H c) h)(e:H c=some (.frz o FO))(g:h.get? c=some o):HOk P w H h:=λa ho q=>by
 by_cases n:a=c
 .subst n;rw[e]at q;cases q;exact⟨g,trivial,⟨_,g⟩,λ_ _ _ _=>trivial⟩
 .exact(k a ho (by rw[E7 n];exact q)).stay (λ_ _ _ z=>z) (λb z=>(Iw z).2) λb xs z=>(Iw z).2
section
def YR(S:SndOk q params scope body p1 p2)(I:Inv X pins σ H s){A:Around}(hf:A.frames=X.A.frames)(hh:A.handled=none){h':Heap}{t':Nat}
 (hk:∀b o,s.heap.get? b=some o->h'.get? b=some o) (hn:h'.Ns 58 λz=>([(p1,u),(p2,v)]:List (Str×Value)).reverse.lookup z) (r:RelV x u) (r2:RelV y v):
 Inv (lCx X A [p1,p2] qual scope f cd [] s H) [] [some x,some y] H { s with heap:=h',toks:=t' }:=by
 refine⟨⟨I.ok.mod,S.kind,rfl,rfl,fg _,?_,?_,?_,λ_=>hh,Around.frames_deeper (hf.trans I.ok.frames),.inr ⟨rfl,rfl⟩,?_,I.bs,fu I.ok.bsz I.sz,?_,?_,I.stack,I.stkFree⟩,rfl,I.bare,Un.kept hk,⟨_,hn,?_⟩,?_,I.hok.fresh (fg _),?_,?_,I.hok.kept hk,?_⟩
 .intro x y c e1 e2;cases e1
 .intro x hx;rcases hx with e|e
  .exact absurd rfl (S.l1.ne (x,.cell) (113 e))
  .have:=all_eq_true.mp S.nofree _ (113 e)
   revert this;simp
 .intro x c hf;cases hf
 .intro b hb;cases hb
 .intro b o e hb;cases hb
 .intro b hb;cases hb
 .intro i z w e1 e2 e3
  match i,e1,e2 with
  |0,e1,e2=>
   have e1:some p1=some z:=e1;have e2:some (some x)=some (some w):=e2;cases e1;cases e2;refine⟨u,r,.inl ⟨S.l1.par,?_⟩⟩;have hb:(p1==p2)=false:=beq_eq_false_iff_ne.mpr S.ne;simp[fP,hb]
  |1,e1,e2=>
   have e1:some p2=some z:=e1;have e2:some (some y)=some (some w):=e2;cases e1;cases e2;exact⟨v,r2,.inl ⟨S.l2.par,by simp[fP]⟩⟩
  |i+2,e1,e2=>cases e1
 .intro x c e;cases e
 .intro x c e;cases e
 .intro p hp;cases hp
 .rfl
def Td(I:Inv X pins σ H s){A:Around}(hf:A.frames=X.A.frames)(hr:Room 1 A)(ho:H f=some (.ext (fnF f c q)))(hc:H c=some (.ext (cdF c q)))(rx:RelV x u)(ry:RelV y v)(h:Q y H):
 wpAny 68 A (call (.ref f) [u,v]) (EP X pins σ Q) (λ_ _=>False) s:=by
 obtain⟨params,scope,p1,p2,pos,pm,ctv,ho',S⟩:=(I.hok f _ ho).1;have hcd:s.heap.CodeRec (.ref c) q:=(I.hok c _ hc).1;have he:∀(s:Shared) (H:Hp),PE (lCx X A [p1,p2] q scope f (.ref c) [] s H) (.Name p2 pos) (KD 1):=λs H=>Jd rfl (.inl S.l2.par) S.d1 S.d2;refine wpAny_call (i0 (R:=λres s'=>match res with|.ok (.ret u)=>EP X pins σ Q u s'|_=>False) (kla_callFunE hr.depth ho' rfl S.l1.co S.l1.gen rfl hcd ?_) ?_)
 .rw[S.bind];refine fh ?_;refine wpAny_newFunctionEnv S.l1.ne (λy hy=>?_) (λh' hns hsb=>⟨?_,?_⟩) S.kind
  .rcases mem_cons.mp hy with rfl|hy
   .exact S.l1.par
   .rw[fO]at hy;subst hy;exact S.l2.par
  .have hk:∀b o,s.heap.get? b=some o->h'.get? b=some o:=λb o e=>(hsb.2 b (fz (74 e))).trans (66 _ e);exact I.nolimit.keeps hk
  .have hk:∀b o,s.heap.get? b=some o->h'.get? b=some o:=λb o e=>(hsb.2 b (fz (74 e))).trans (66 _ e);have J:=YR (t':=s.toks+[(p1,u),(p2,v)].length) (qual:=q) (f:=f) (cd:=.ref c) S I hf hr.hd hk hns rx ry;refine kla_codeExpr (fw (he s H [] _ [some x,some y] H Q J ⟨y,rfl,h⟩) (λv s' hv=>?_) λ_ _ z=>z.elim);obtain⟨y,H',J',ry,q⟩:=hv;obtain⟨hh,g,d,t,os'⟩:=s';obtain rfl:os'=s.os:=J'.os;exact⟨y,H',I.call (h':=hh) (g':=g) (d':=d) (t':=t) (ch:=[]) J'.base J'.hok J'.bare (λb z=>absurd z 70),ry,q⟩
 .intro res s' hq;cases res with
  |error e=>exact hq
  |ok fl=>
   cases fl with
   |ret u=>exact hq
   |next=>exact hq
   |brk=>exact hq
   |cont=>exact hq
def YT(S:CapOk q params scope body p1 p2 xn)(I:Inv X pins σ H s)(hl:H cl=some (.frz o1 FO))(hc:Jz o1 a0){A:Around}(hf:A.frames=X.A.frames)(hh:A.handled=none){h':Heap}{t':Nat}
 (hk:∀b o,s.heap.get? b=some o->h'.get? b=some o) (hn:h'.Ns 58 λz=>([(p1,u),(p2,v)]:List (Str×Value)).reverse.lookup z) (r:RelV x u) (r2:RelV y v):
 Inv (lCx X A [p1,p2,xn] qual scope f cd [(xn,cl)] s (del H cl)) [] [some x,some y,some (.ref a0)] (del H cl) { s with heap:=h',toks:=t' }:=by
 have gc:s.heap.get? cl=some o1:=(I.hok cl _ hl).1;have only:∀z c,([(xn,cl)]:List (Str×Addr)).lookup z=some c->z=xn/\c=cl:=λz c e=>by
  rw[fP]at e;split at e
  .next h=>cases e;exact⟨eq_of_beq h,rfl⟩
  .cases e
 refine⟨⟨I.ok.mod,S.kind,rfl,rfl,fg _,?_,?_,?_,λ_=>hh,Around.frames_deeper (hf.trans I.ok.frames),.inr ⟨rfl,rfl⟩,?_,λb o e=>⟨(I.bs b o e).1,Es (I.bs b o e).2⟩,fu I.ok.bsz I.sz,?_,?_,I.stack,λb hb=>Es (I.stkFree b hb)⟩,rfl,I.bare,Un.kept hk,⟨_,hn,?_⟩,?_,Es (I.hok.fresh (fg _)),?_,?_,(I.hok.del hl).kept hk,?_⟩
 .intro x y c e1 e2;exact(only x c e1).1.trans (only y c e2).1.symm
 .intro x hx;rcases hx with e|e
  .exact absurd rfl (S.l1.ne (x,.cell) (113 e))
  .have:=all_eq_true.mp S.only _ (113 e);have hx:x=xn:=by simpa using this
   subst hx;exact⟨cl,by simp[lCx,envX]⟩
 .intro x c hf;cases hf
 .intro b hb;cases hb
 .intro b o e hb;cases hb
 .intro b hb;cases hb
 .intro i z w e1 e2 e3
  match i,e1,e2 with
  |0,e1,e2=>
   have e1:some p1=some z:=e1;have e2:some (some x)=some (some w):=e2;cases e1;cases e2;refine⟨u,r,.inl ⟨S.l1.par,?_⟩⟩;have hb:(p1==p2)=false:=beq_eq_false_iff_ne.mpr S.ne;simp[fP,hb]
  |1,e1,e2=>
   have e1:some p2=some z:=e1;have e2:some (some y)=some (some w):=e2;cases e1;cases e2;exact⟨v,r2,.inl ⟨S.l2.par,by simp[fP]⟩⟩
  |2,e1,e2=>
   have e1:some xn=some z:=e1;have e2:some (some (V.ref a0))=some (some w):=e2;cases e1;cases e2;exact⟨.ref a0,rfl,.inr ⟨.inr S.lx,cl,by simp[lCx,envX],o1,hk _ _ gc,hc⟩⟩
  |i+3,e1,e2=>cases e1
 .intro x c e;obtain⟨_,rfl⟩:=only x c e;exact⟨_,o1,hk _ _ gc,hc⟩
 .intro x c e;obtain⟨_,rfl⟩:=only x c e;exact Ix
 .intro p hp;cases hp
 .rfl
def VN(I:Inv X pins σ H s){A:Around}(hf:A.frames=X.A.frames)(hr:Room 1 A){j:Int}(ho:H f=some (.ext (fnG f c q cl)))(hc:H c=some (.ext (cdF c q)))(h1:Jz o1 a0)(hl:H cl=some (.frz o1 FO))(ha:H a0=some (.frz o2 145))(rx:RelV (.int j) u)(ry:RelV y v)(hz:atI xs j=some z)(h:Q z H):
 wpAny 68 A (call (.ref f) [u,v]) (EP X pins σ Q) (λ_ _=>False) s:=by
 obtain⟨params,scope,p1,p2,xn,px,pp,pos,pm,ctv,ho',S⟩:=(I.hok f _ ho).1;have gc:s.heap.get? cl=some o1:=(I.hok cl _ hl).1;have hcd:s.heap.CodeRec (.ref c) q:=(I.hok c _ hc).1;have he:∀(s:Shared) (H:Hp),PE (lCx X A [p1,p2,xn] q scope f (.ref c) [(xn,cl)] s H) (.Subscript (.Name xn px) (.Name p1 pp) pos) (tOp (IX X.K) (KD 2) (KD 0)):=λs H=>Pj Ob (Jd rfl (.inr (.inr S.lx)) S.d3 S.d4) (Jd rfl (.inl S.l1.par) S.d1 S.d2) λ_ _=>rfl;have nac:a0≠cl:=λe=>by subst e;rw[hl]at ha;cases ha
 refine wpAny_call (i0 (R:=λres s'=>match res with|.ok (.ret u)=>EP X pins σ Q u s'|_=>False) (kla_callFunE hr.depth ho' rfl S.l1.co S.l1.gen rfl hcd ?_) ?_)
 .rw[S.bind];refine fh ?_;refine wpAny_newFunctionEnv S.l1.ne (λy hy=>?_) (λh' hns hsb=>⟨?_,?_⟩) S.kind
  .rcases mem_cons.mp hy with rfl|hy
   .exact S.l1.par
   .rw[fO]at hy;subst hy;exact S.l2.par
  .have hk:∀b o,s.heap.get? b=some o->h'.get? b=some o:=λb o e=>(hsb.2 b (fz (74 e))).trans (66 _ e);exact I.nolimit.keeps hk
  .have hk:∀b o,s.heap.get? b=some o->h'.get? b=some o:=λb o e=>(hsb.2 b (fz (74 e))).trans (66 _ e);have J:=YT (t':=s.toks+[(p1,u),(p2,v)].length) (qual:=q) (f:=f) (cd:=.ref c) S I hl h1 hf hr.hd hk hns rx ry;refine kla_codeExpr (fw (he s (del H cl) [] _ [some (.int j),some y,some (.ref a0)] (del H cl) (λw H'=>H'=del H cl/\w=z) J ⟨.ref a0,rfl,.int j,rfl,a0,xs,j,z,rfl,rfl,.inl (.inr ⟨o2,by rw[E7 nac];exact ha⟩),hz,rfl,rfl⟩) (λv s' hv=>?_) λ_ _ z=>z.elim);obtain⟨y,H',J',ry,rfl,rfl⟩:=hv;obtain⟨hh,g,d,t,os'⟩:=s';obtain rfl:os'=s.os:=J'.os;have nfr:cl∉frs X.stack:=λm=>by have:=I.stkFree cl m;rw[hl]at this;cases this
   have gc':hh.get? cl=some o1:=J'.base.keep cl o1 gc Ix nfr (by intro m;cases m);have un:Un (frs X.stack) [] H H s.heap hh:=⟨λb o e n m1 m2=>J'.base.keep b o e (Es n) m1 m2,λb o e n m1 m2=>J'.base.slot b o e (Es n) m1 m2,λb o e n _=>n,λb o e m=>J'.base.there b o e m,λ_ _ q=>q,λ_ _ _ q=>q,λb ps q=>⟨#[],by rw[q];simp⟩⟩
   exact⟨_,H,I.call (h':=hh) (g':=g) (d':=d) (t':=t) (ch:=[]) un (J'.hok.undel hl gc') J'.bare (λb z=>absurd z 70),ry,h⟩
 .intro res s' hq;cases res with
  |error e=>exact hq
  |ok fl=>
   cases fl with
   |ret u=>exact hq
   |next=>exact hq
   |brk=>exact hq
   |cont=>exact hq
end
end L2
namespace L2
open PySem PySem.Spec PyProof.Rows
inductive I where
 |non|bl (b:Bool)|int (i:Int)|str (x:Str)|tup (ds:List I)
inductive D where
 |im (i:I)|mu (n:Nat)|tm (ds:List D)|ro (ns:List Int)|op (nm:Str) (fs:List Str) (ds:List D)|fv (k:Nat) (ds:List D)
inductive MO where
 |lst (ds:List D)|dic (kvs:List (Key×D))
noncomputable abbrev Hd:=List MO
noncomputable abbrev Ls:=List (Option D)
def RoL(K:Frag)(H:Hp)(a:Addr)(xs:List V):Prop:=(∃o,H a=some (.frz o 145)) ∨
 ∃(o:Obj) (its:Array Value) (n:Nat),K.lookup a=some o/\o.cls=.type "list"/\o.dict=none/\o.data=.seq its n/\its.size<=sizeLine/\Vals xs its.toList
def RoL.sq{K:Frag}(h:RoL K H a xs):SqL K H a xs:=by
 rcases h with⟨o,h⟩|h
 .exact .inl (.inr ⟨o,h⟩)
 .exact .inr h
def RoL.grow{K:Frag}(g:Grow H H')(h:RoL K H a xs):RoL K H' a xs:=by
 rcases h with⟨o,h⟩|h
 .exact .inl ⟨o,g.frz _ _ _ h⟩
 .exact .inr h
def BY(n:Nat):Prop:=n<=sizeLine
def DR(n:Nat):Prop:=n<sizeLine
def EH(i j:Int):Prop:=(-(2^64)<i/\i<2^64)∨(-(2^64)<j/\j<2^64)
def Ph(i j:Int):Prop:=0<=j/\j<=1000000/\i.natAbs<2^64
def M7(j:Int):Prop:=0<j/\j<1073741824
def EI(j:Int):Prop:=0<j
def Fz(j:Int):Prop:=-(2^62)<=j/\j<2^62
def fD(i j:Int):Prop:=(-(2^62)<=i/\i<2^62)/\-(2^62)<=j/\j<2^62
def He(j:Int):Prop:=j<2^24/\-(2^62)<=j
def Va(i j:Int):Prop:=(-(2^62)<=i/\i<2^62)/\(-(2^62)<=j/\j<2^62)/\(j-i).toNat<=2^24
def AL{n:Nat}(h:n<=1000000):BY n:=fu h (by rw[gp];decide)
def B4{n:Nat}(h:n<1000000):DR n:=fW h (by rw[gp];decide)
def DH{i j:Int}(a:-1000000000000<=i)(b:i<=1000000000000):EH i j:=.inl ⟨by omega,by omega⟩
def Hi{i j:Int}(a:-1000000000000<=j)(b:j<=1000000000000):EH i j:=.inr ⟨by omega,by omega⟩
def Cm{j:Int}(a:-1000000000000<=j)(b:j<=1000000000000):Fz j:=⟨by omega,by omega⟩
def IT{j:Int}(a:-1000000000000<=j)(b:j<=1000000):He j:=⟨by omega,by omega⟩
section
variable(K:Frag)
mutual
def RI(H:Hp):I->V->Prop
 |.non,v=>v=.non
 |.bl b,v=>v=.bl b
 |.int i,v=>v=.int i
 |.str x,v=>v=.str x
 |.tup ds,v=>∃a xs,v=.ref a/\SqT K H a xs/\RIs H ds xs
def RIs(H:Hp):List I->List V->Prop
 |[],xs=>xs=[]
 |d::ds,xs=>∃x r,xs=x::r/\RI H d x/\RIs H ds r
end
mutual
def RD(ρ:List Addr)(H:Hp):D->V->Prop
 |.im i,v=>RI K H i v
 |.mu n,v=>∃a,ρ[n]?=some a/\v=.ref a
 |.tm ds,v=>∃a xs,v=.ref a/\SqT K H a xs/\RDs ρ H ds xs
 |.ro ns,v=>∃a,v=.ref a/\RoL K H a (ns.map V.int)
 |.op nm fs ds,v=>∃a xs,v=.ref a/\ExR K nm fs H a xs/\RDs ρ H ds xs
 |.fv k ds,v=>∃a xs,v=.ref a/\FvR k H a xs/\RDs ρ H ds xs
def RDs(ρ:List Addr)(H:Hp):List D->List V->Prop
 |[],xs=>xs=[]
 |d::ds,xs=>∃x r,xs=x::r/\RD ρ H d x/\RDs ρ H ds r
end
def RKs(ρ:List Addr)(H:Hp):List (Key×D)->List (Key×V)->Prop
 |[],xs=>xs=[]
 |d::ds,xs=>∃x r,xs=x::r/\x.1=d.1/\RD K ρ H d.2 x.2/\RKs ρ H ds r
def RC(ρ:List Addr)(H:Hp):MO->HO->Prop
 |.lst ds,o=>∃xs,o=.lst xs/\RDs K ρ H ds xs
 |.dic kvs,o=>∃kv,o=.dK kv/\RKs K ρ H kvs kv
noncomputable def Lv:List Value->List (Addr×Str×Pos)
 |.ref P::.str q _::.int l _::.int c _::r=>(P,q,⟨l.toNat,c.toNat,0,0⟩)::Lv r
 |_=>[]
noncomputable def bx(o:Obj):List (Addr×Str×Pos):=match o.cls,o.data with
 |.str _ _,.fields vs=>Lv vs.toList
 |_,_=>[]
noncomputable def Ca(K:Frag):List (Addr×Str×Pos):=match K.getLast? with
 |some p=>bx p.2
 |none=>[]
def TabsOk(K:Frag)(H:Hp):Prop:=∀x∈Ca K,∃ps,H x.1=some (.tbl ps)/\Cs H x.2.1 x.2.2 ps
structure RH(ρ:List Addr)(H:Hp)(hd:Hd):Prop where
 len:ρ.length=131
 nd:ρ.Nodup
 tabs:TabsOk K H
 ob:∀(n:Nat) (o:MO) (a:Addr),hd[n]?=some o->ρ[n]?=some a->∃ho,H a=some ho/\RC K ρ H o ho
structure RL(ρ:List Addr)(H:Hp)(ls:Ls)(σ:St):Prop where
 len:ls.length=σ.length
 ob:∀(i:Nat) (d:D),ls[i]?=some (some d)->∃v,σ[i]?=some (some v)/\RD K ρ H d v
end
structure Ext(ρ:List Addr)(H:Hp)(ρ':List Addr)(H':Hp):Prop where
 pre:∃r,ρ'=ρ++r/\∀b∈r,H b=none
 keep:∀b o,H b=some o->b∉ρ->(∀ps,o≠.tbl ps)->H' b=some o
 tab:∀b ps,H b=some (.tbl ps)->∃ps',H' b=some (.tbl ps')
def nt{o:HO}(h:match o with|.tbl _=>False|_=>True:=by trivial):∀ps,o≠.tbl ps:=λps e=>by subst e;exact h
theorem TabsOk.upd{K:Frag}(t:TabsOk K H)(h1:∀ps,H a≠some (.tbl ps))(h2:∀φ,H a≠some (.ext φ)):TabsOk K (upd H a ho):=λx hx=>by
 obtain⟨ps,e,g⟩:=t x hx;have ne:x.1≠a:=λz=>h1 ps (by rw[<- z];exact e);refine⟨ps,by rw[upd_ne ne];exact e,?_⟩;rcases g with g|⟨c,g1,g2⟩
 .exact .inl g
 .have nc:c≠a:=λz=>h2 _ (by rw[<- z];exact g2);exact .inr ⟨c,g1,by rw[upd_ne nc];exact g2⟩
section
variable{K:Frag}{hd':Hd}
mutual
theorem RI.grow(g:Grow H H'):∀{i:I} {v:V},RI K H i v->RI K H' i v
 |.non,v,h=>by simpa only[RI]using h
 |.bl b,v,h=>by simpa only[RI]using h
 |.int b,v,h=>by simpa only[RI]using h
 |.str b,v,h=>by simpa only[RI]using h
 |.tup ds,v,h=>by
  simp only[RI]at h ⊢;obtain⟨a,xs,e,q,r⟩:=h;exact⟨a,xs,e,g.sq q,RIs.grow g r⟩
theorem RIs.grow(g:Grow H H'):∀{i:List I} {v:List V},RIs K H i v->RIs K H' i v
 |[],v,h=>by simpa only[RIs]using h
 |d::ds,v,h=>by
  simp only[RIs]at h ⊢;obtain⟨x,r,e,q,z⟩:=h;exact⟨x,r,e,q.grow g,RIs.grow g z⟩
end
def RH.mut(h:RH K ρ H hd)(m:a∈ρ):(∃xs,H a=some 145)∨∃kv,H a=some (.dK kv):=by
 obtain⟨n,e⟩:=mem_iff_getElem?.mp m;have hn:n<hd.length:=by rw[<- h.len];exact(73 e).1
 obtain⟨ho,e1,e2⟩:=h.ob n hd[n] a (by simp[hn]) e;cases q:hd[n]with
 |lst ds=>rw[q]at e2;obtain⟨xs,rfl,_⟩:=e2;exact .inl ⟨xs,e1⟩
 |dic ds=>rw[q]at e2;obtain⟨xs,rfl,_⟩:=e2;exact .inr ⟨xs,e1⟩
def RH.stb_out(h:RH K ρ H hd)(s:Stb o)(e:H a=some o):a∉ρ:=λm=>by
 rcases h.mut m with⟨y,z⟩|⟨y,z⟩<;>(rw[e]at z;cases z;exact s)
def Md(s:Stb o):∀ps,o≠.tbl ps:=λps e=>by subst e;exact s
def Ext.grow(e:Ext ρ H ρ' H')(h:RH K ρ H hd):Grow H H':=⟨λb o s q=>e.keep b _ q (h.stb_out s q) (Md s)⟩
def Ext.refl:Ext ρ H ρ H:=⟨⟨[],by simp,by simp⟩,λ_ _ h _ _=>h,λ_ ps h=>⟨ps,h⟩⟩
def Ext.trans(e:Ext ρ H ρ1 H1)(h0:RH K ρ1 H1 hd1)(e2:Ext ρ1 H1 ρ2 H2):Ext ρ H ρ2 H2:=by
 obtain⟨r1,rfl,f1⟩:=e.pre;obtain⟨r2,rfl,f2⟩:=e2.pre;refine⟨⟨r1++r2,by simp,λb m=>?_⟩,λb o q n t=>?_,λb ps q=>?_⟩
 .rcases mem_append.mp m with m|m
  .exact f1 b m
  .have z:=f2 b m;cases q:H b with
   |none=>rfl
   |some o=>
    by_cases n:b∈ρ
    .rcases h0.mut (gw r1 n)with⟨y,w⟩|⟨y,w⟩<;>(rw[z]at w;cases w)
    .by_cases t:∃ps,o=.tbl ps
     .obtain⟨ps,rfl⟩:=t;obtain⟨ps',this⟩:=e.tab b ps q;rw[z]at this;cases this
     .have:=e.keep b o q n λps y=>t ⟨ps,y⟩;rw[z]at this;cases this
 .refine e2.keep b o (e.keep b o q n t) (λm=>?_) t;rcases mem_append.mp m with m|m
  .exact n m
  .have:=f1 b m;rw[q]at this;cases this
 .obtain⟨ps',q'⟩:=e.tab b ps q;exact e2.tab b ps' q'
mutual
theorem RD.mono(g:Grow H H')(r:List Addr):∀{d:D} {v:V},RD K ρ H d v->RD K (ρ++r) H' d v
 |.im i,v,h=>by simp only[RD]at h ⊢;exact h.grow g
 |.mu n,v,h=>by
  simp only[RD]at h ⊢;obtain⟨a,e,q⟩:=h;exact⟨a,by rw[List.getElem?_append_left (List.getElem?_eq_some_iff.mp e).1];exact e,q⟩
 |.tm ds,v,h=>by
  simp only[RD]at h ⊢;obtain⟨a,xs,e,q,z⟩:=h;exact⟨a,xs,e,g.sq q,RDs.mono g r z⟩
 |.ro ns,v,h=>by
  simp only[RD]at h ⊢;obtain⟨a,e,q⟩:=h;exact⟨a,e,q.grow g⟩
 |.op nm fs ds,v,h=>by
  simp only[RD]at h ⊢;obtain⟨a,xs,e,q,z⟩:=h;exact⟨a,xs,e,q.grow g,RDs.mono g r z⟩
 |.fv k ds,v,h=>by
  simp only[RD]at h ⊢;obtain⟨a,xs,e,q,z⟩:=h;exact⟨a,xs,e,q.grow g,RDs.mono g r z⟩
theorem RDs.mono(g:Grow H H')(r:List Addr):∀{d:List D} {v:List V},RDs K ρ H d v->RDs K (ρ++r) H' d v
 |[],v,h=>by simpa only[RDs]using h
 |d::ds,v,h=>by
  simp only[RDs]at h ⊢;obtain⟨x,r',e,q,z⟩:=h;exact⟨x,r',e,q.mono g r,RDs.mono g r z⟩
end
theorem RKs.mono(g:Grow H H')(r:List Addr):∀{d:List (Key×D)} {v:List (Key×V)},RKs K ρ H d v->RKs K (ρ++r) H' d v
 |[],v,h=>by simpa only[RKs]using h
 |d::ds,v,h=>by
  simp only[RKs]at h ⊢;obtain⟨x,r',e,q1,q,z⟩:=h;exact⟨x,r',e,q1,q.mono g r,RKs.mono g r z⟩
theorem RC.mono(g:Grow H H')(r:List Addr)(h:RC K ρ H o ho):RC K (ρ++r) H' o ho:=by
 cases o with
 |lst ds=>obtain⟨xs,e,q⟩:=h;exact⟨xs,e,q.mono g r⟩
 |dic ds=>obtain⟨xs,e,q⟩:=h;exact⟨xs,e,q.mono g r⟩
def RD.ext(h:RH K ρ H hd)(e:Ext ρ H ρ' H')(q:RD K ρ H d v):RD K ρ' H' d v:=by
 obtain⟨r,rfl,_⟩:=e.pre;exact q.mono (e.grow h) r
def RDs.ext(h:RH K ρ H hd)(e:Ext ρ H ρ' H')(q:RDs K ρ H d v):RDs K ρ' H' d v:=by
 obtain⟨r,rfl,_⟩:=e.pre;exact q.mono (e.grow h) r
theorem RL.ext(h:RH K ρ H hd)(e:Ext ρ H ρ' H')(q:RL K ρ H ls σ):RL K ρ' H' ls σ:=
 ⟨q.len,λi d z=>let ⟨v,a,b⟩:=q.ob i d z;⟨v,a,b.ext h e⟩⟩
theorem RDs.len:∀{ds:List D} {xs:List V},RDs K ρ H ds xs->85=83
 |[],xs,h=>by simp only[RDs]at h;rw[h];rfl
 |d::ds,xs,h=>by
  simp only[RDs]at h;obtain⟨x,r,rfl,_,z⟩:=h;simp[RDs.len z]
theorem RDs.get:∀{ds:List D} {xs:List V} {i:Nat} {d:D},RDs K ρ H ds xs->ds[i]?=some d->∃x,xs[i]?=some x/\RD K ρ H d x
 |[],xs,i,d,h,e=>by simp at e
 |d::ds,xs,0,e,h,q=>by
  simp only[RDs]at h;obtain⟨x,r,rfl,z,_⟩:=h;simp at q;subst q;exact⟨x,rfl,z⟩
 |d::ds,xs,i+1,e,h,q=>by
  simp only[RDs]at h;obtain⟨x,r,rfl,_,z⟩:=h;obtain⟨y,a,b⟩:=RDs.get (i:=i) z (by simpa using q);exact⟨y,by simpa using a,b⟩
def RDs.nil:RDs K ρ H [] []:=by simp[RDs]
def RDs.cons(h:RD K ρ H d v)(t:RDs K ρ H ds vs):RDs K ρ H (d::ds) (v::vs):=by
 simp only[RDs];exact⟨v,vs,rfl,h,t⟩
theorem RDs.app:∀{ds es:List D} {xs ys:List V},RDs K ρ H ds xs->RDs K ρ H es ys->RDs K ρ H (ds++es) (xs++ys)
 |[],es,xs,ys,h,t=>by simp only[RDs]at h;subst h;simpa using t
 |d::ds,es,xs,ys,h,t=>by
  simp only[RDs]at h;obtain⟨x,r,rfl,z,q⟩:=h;simp only[gJ];exact .cons z (q.app t)
theorem RDs.set:∀{ds:List D} {xs:List V} {d:D} {v:V} (i:Nat),RDs K ρ H ds xs->RD K ρ H d v->RDs K ρ H (ds.set i d) (xs.set i v)
 |[],xs,d,v,i,h,t=>by simp only[RDs]at h;subst h;simp[RDs]
 |d::ds,xs,e,v,0,h,t=>by
  simp only[RDs]at h;obtain⟨x,r,rfl,z,q⟩:=h;simpa using RDs.cons t q
 |d::ds,xs,e,v,i+1,h,t=>by
  simp only[RDs]at h;obtain⟨x,r,rfl,z,q⟩:=h;simpa using RDs.cons z (q.set i t)
theorem RDs.drop:∀{ds:List D} {xs:List V} (n:Nat),RDs K ρ H ds xs->RDs K ρ H (ds.drop n) (xs.drop n)
 |ds,xs,0,h=>by simpa using h
 |[],xs,n+1,h=>by simp only[RDs]at h;subst h;simp[RDs]
 |d::ds,xs,n+1,h=>by
  simp only[RDs]at h;obtain⟨x,r,rfl,z,q⟩:=h;simpa using q.drop n
theorem RDs.take:∀{ds:List D} {xs:List V} (n:Nat),RDs K ρ H ds xs->RDs K ρ H (ds.take n) (xs.take n)
 |ds,xs,0,h=>by simp[RDs]
 |[],xs,n+1,h=>by simp only[RDs]at h;subst h;simp[RDs]
 |d::ds,xs,n+1,h=>by
  simp only[RDs]at h;obtain⟨x,r,rfl,z,q⟩:=h;simpa using RDs.cons z (q.take n)
theorem RIs.ds:∀{is:List I} {xs:List V},RIs K H is xs->RDs K ρ H (is.map D.im) xs
 |[],xs,h=>by simpa only[RIs,RDs,gj]using h
 |i::is,xs,h=>by
  simp only[RIs]at h;obtain⟨x,r,rfl,z,q⟩:=h;exact .cons (by simpa only[RD]using z) q.ds
theorem RDs.is:∀{is:List I} {xs:List V},RDs K ρ H (is.map D.im) xs->RIs K H is xs
 |[],xs,h=>by simpa only[RIs,RDs,gj]using h
 |i::is,xs,h=>by
  simp only[fq,RDs]at h;obtain⟨x,r,rfl,z,q⟩:=h;simp only[RIs];exact⟨x,r,rfl,by simpa only[RD]using z,q.is⟩
def RH.put(h:RH K ρ H hd){n:Nat}(hn:ρ[n]?=some a)(c:RC K ρ H o ho):RH K ρ (upd H a ho) (hd.set n o)/\Ext ρ H ρ (upd H a ho):=by
 have ha:=h.mut (fQ hn);have n1:∀ps,H a≠some (.tbl ps):=λps e=>by rcases ha with⟨y,z⟩|⟨y,z⟩<;>(rw[e]at z;cases z)
 have n2:∀φ,H a≠some (.ext φ):=λps e=>by rcases ha with⟨y,z⟩|⟨y,z⟩<;>(rw[e]at z;cases z)
 have ex:Ext ρ H ρ (upd H a ho):=⟨⟨[],by simp,by simp⟩,λb o q m _=>by
  have:b≠a:=λz=>m (by rw[z];exact fQ hn);rw[upd_ne this];exact q,λb ps q=>⟨ps,(upd_ne (show b≠a from λz=>n1 ps (by rw[<- z];exact q))).trans q⟩⟩
 have gr:=ex.grow h;refine⟨⟨by simp[h.len],h.nd,h.tabs.upd n1 n2,λm o' b e1 e2=>?_⟩,ex⟩;have hm:m<hd.length:=by rw[<- h.len];exact(73 e2).1
 by_cases hmn:m=n
 .subst hmn;rw[hn]at e2;cases e2;rw[List.getElem?_set_self hm]at e1;cases e1;exact⟨ho,AF,by simpa using c.mono gr []⟩
 .rw[List.getElem?_set_ne (λz=>hmn z.symm)]at e1;obtain⟨ho',q1,q2⟩:=h.ob m o' b e1 e2;have:b≠a:=λz=>by
   subst z;have l1:=(73 e2).1;have l2:=(73 hn).1;exact hmn ((List.getElem?_inj l1 h.nd).mp (e2.trans hn.symm))
  exact⟨ho',by rw[upd_ne this];exact q1,by simpa using q2.mono gr []⟩
theorem RH.lst(h:RH K ρ H hd){n:Nat}(hn:ρ[n]?=some a)(e:hd[n]?=some (.lst ds)):∃xs,H a=some 145/\RDs K ρ H ds xs:=by
 obtain⟨ho,q,xs,rfl,r⟩:=h.ob n _ a e hn;exact⟨xs,q,r⟩
theorem RH.dic(h:RH K ρ H hd){n:Nat}(hn:ρ[n]?=some a)(e:hd[n]?=some (.dic ds)):∃xs,H a=some (.dK xs)/\RKs K ρ H ds xs:=by
 obtain⟨ho,q,xs,rfl,r⟩:=h.ob n _ a e hn;exact⟨xs,q,r⟩
def RH.hid(h:RH K ρ H hd)(ha:H a=none):RH K ρ (upd H a ho) hd/\Ext ρ H ρ (upd H a ho):=by
 have out:a∉ρ:=λm=>by rcases h.mut m with⟨y,z⟩|⟨y,z⟩<;>(rw[ha]at z;cases z)
 have ex:Ext ρ H ρ (upd H a ho):=⟨⟨[],by simp,by simp⟩,λb o q n _=>by rw[upd_ne (AH q ha)];exact q,λb ps q=>⟨ps,by rw[upd_ne (AH q ha)];exact q⟩⟩
 have gr:=ex.grow h;refine⟨⟨h.len,h.nd,h.tabs.upd (by simp[ha]) (by simp[ha]),λm o' b e1 e2=>?_⟩,ex⟩;obtain⟨ho',q1,q2⟩:=h.ob m o' b e1 e2;exact⟨ho',by rw[upd_ne (AH q1 ha)];exact q1,by simpa using q2.mono gr []⟩
def RH.hput(h:RH K ρ H hd)(out:a∉ρ)(hl:H a=some 145):RH K ρ (upd H a ho) hd:=by
 have gr:Grow H (upd H a ho):=Grow.refl.put (.lst hl);refine⟨h.len,h.nd,h.tabs.upd (by simp[hl]) (by simp[hl]),λm o' b e1 e2=>?_⟩;obtain⟨ho',q1,q2⟩:=h.ob m o' b e1 e2;have:b≠a:=λz=>out (by rw[<- z];exact fQ e2);exact⟨ho',by rw[upd_ne this];exact q1,by simpa using q2.mono gr []⟩
end
end L2
namespace L2
open PySem PySem.Spec PyProof.Rows
noncomputable abbrev ME:=Ls->Hd->Option 121
noncomputable abbrev MT:=Ls->Hd->Option (Bool×Hd)
noncomputable abbrev MA:=Ls->Hd->Option (List D×Hd)
inductive Fl where
 |nx (ls:Ls)|rt (d:D)|bk (ls:Ls)|ct (ls:Ls)
noncomputable abbrev MS:=Ls->Hd->Option (Fl×Hd)
section
variable(K:Frag)
def RE(t:TE)(m:ME):Prop:=∀(ρ:List Addr) (σ:St) (H:Hp) (hd:Hd) (ls:Ls) (Q:VK) (d:D) (hd':Hd),RH K ρ H hd->RL K ρ H ls σ->m ls hd=some (d,hd') ->
 (∀ρ' H' v,Ext ρ H ρ' H'->RH K ρ' H' hd'->RD K ρ' H' d v->Q v H')->t σ H Q
def RT(t:TT)(m:MT):Prop:=∀(ρ:List Addr) (σ:St) (H:Hp) (hd:Hd) (ls:Ls) (Q:Bool->Hp->Prop) (d:Bool) (hd':Hd),RH K ρ H hd->RL K ρ H ls σ->m ls hd=some (d,hd') ->
 (∀ρ' H',Ext ρ H ρ' H'->RH K ρ' H' hd'->Q d H')->t σ H Q
def RA(t:TA)(m:MA):Prop:=∀(ρ:List Addr) (σ:St) (H:Hp) (hd:Hd) (ls:Ls) (Q:List V->Hp->Prop) (d:List D) (hd':Hd),RH K ρ H hd->RL K ρ H ls σ->m ls hd=some (d,hd') ->
 (∀ρ' H' v,Ext ρ H ρ' H'->RH K ρ' H' hd'->RDs K ρ' H' d v->Q v H')->t σ H Q
def RN(t:TE)(m:MA):Prop:=∀(ρ:List Addr) (σ:St) (H:Hp) (hd:Hd) (ls:Ls) (Q:VK) (d:List D) (hd':Hd),RH K ρ H hd->RL K ρ H ls σ->m ls hd=some (d,hd') ->
 (∀ρ' H' a xs,Ext ρ H ρ' H'->RH K ρ' H' hd'->H a=none->a∉ρ'->H' a=some 145->RDs K ρ' H' d xs->Q (.ref a) H')->t σ H Q
def d8(E:Ends)(ρ:List Addr)(H:Hp):Fl->Prop
 |.nx ls=>∀σ,RL K ρ H ls σ->E.nx σ H
 |.bk ls=>∀σ,RL K ρ H ls σ->E.bk σ H
 |.ct ls=>∀σ,RL K ρ H ls σ->E.ct σ H
 |.rt d=>∀v,RD K ρ H d v->E.rt v H
def RS(t:TS)(m:MS):Prop:=∀(ρ:List Addr) (σ:St) (H:Hp) (hd:Hd) (ls:Ls) (E:Ends) (f:Fl) (hd':Hd),RH K ρ H hd->RL K ρ H ls σ->m ls hd=some (f,hd') ->
 (∀ρ' H',Ext ρ H ρ' H'->RH K ρ' H' hd'->d8 K E ρ' H' f)->t E σ H
def RB(r:R2)(f:D->D->Hd->Option 121):Prop:=∀(ρ:List Addr) (H:Hp) (hd:Hd) (d e:D) (v u:V) (Q:VK) (z:D) (hd':Hd),RH K ρ H hd->RD K ρ H d v->RD K ρ H e u->f d e hd=some (z,hd') ->
 (∀ρ' H' w,Ext ρ H ρ' H'->RH K ρ' H' hd'->RD K ρ' H' z w->Q w H')->r v u H Q
def RF(r:List V->Hp->VK->Prop)(f:List D->Hd->Option 121):Prop:=∀(ρ:List Addr) (H:Hp) (hd:Hd) (ds:List D) (vs:List V) (Q:VK) (z:D) (hd':Hd),RH K ρ H hd->RDs K ρ H ds vs->f ds hd=some (z,hd') ->
 (∀ρ' H' w,Ext ρ H ρ' H'->RH K ρ' H' hd'->RD K ρ' H' z w->Q w H')->r vs H Q
def RG(tp:Bool)(r:List V->Hp->VK->Prop)(g:List D->Option D):Prop:=∀(ρ:List Addr) (H:Hp) (hd:Hd) (a:Addr) (xs:List V) (ds:List D) (Q:VK) (z:D),RH K ρ H hd->(SqL K H a xs∨(tp=true/\SqT K H a xs))->RDs K ρ H ds xs->g ds=some z ->
 (∀H' w,Ext ρ H ρ H'->RH K ρ H' hd->RD K ρ H' z w->Q w H')->r [.ref a] H Q
end
structure QE(K:Frag)(X:Cx)(e:Expr)(t:TE)(m:ME):Prop where
 p:PE X e t
 r:RE K t m
structure QT(K:Frag)(X:Cx)(e:Expr)(t:TT)(m:MT):Prop where
 p:PT X e t
 r:RT K t m
structure QW(K:Frag)(X:Cx)(e:Expr)(t:TT)(m:MT):Prop where
 p:PW X e t
 r:RT K t m
structure QA(K:Frag)(X:Cx)(e:List Expr)(t:TA)(m:MA):Prop where
 p:PA X e t
 r:RA K t m
structure QN(K:Frag)(X:Cx)(e:Expr)(t:TE)(m:MA):Prop where
 p:PE X e t
 r:RN K t m
structure QS(K:Frag)(X:Cx)(e:Stmt)(t:TS)(m:MS):Prop where
 p:PS X e t
 r:RS K t m
structure QSs(K:Frag)(X:Cx)(e:List Stmt)(t:TS)(m:MS):Prop where
 p:PSs X e t
 r:RS K t m
noncomputable def AV:D->Option (List D)
 |.im (.tup is)=>some (is.map .im)
 |.tm ds=>some ds
 |_=>none
noncomputable def Ac(hd:Hd):D->Option (List D)
 |.mu n=>match hd[n]? with
  |some (.lst ds)=>some ds
  |_=>none
 |.ro ns=>some (ns.map λn=>.im (.int n))
 |_=>none
noncomputable def An(hd:Hd)(d:D):Option (List D):=match AV d with
 |some ds=>some ds
 |none=>Ac hd d
noncomputable def B2:List D->Option (List I)
 |[]=>some []
 |.im i::r=>(B2 r).map (i::·)
 |_::_=>none
noncomputable def B0(ds:List D):D:=match B2 ds with
 |some is=>.im (.tup is)
 |none=>.tm ds
noncomputable def Ao:List D->Option (List Int)
 |[]=>some []
 |.im (.int i)::r=>(Ao r).map (i::·)
 |_::_=>none
noncomputable def CH:List D->Option (List Bool)
 |[]=>some []
 |.im (.bl i)::r=>(CH r).map (i::·)
 |_::_=>none
section
variable{K:Frag}
theorem GU:∀{ds:List D} {is:List I},B2 ds=some is->ds=is.map .im
 |[],is,h=>by simp[B2]at h;subst h;rfl
 |.im i::r,is,h=>by
  simp only[B2,Option.map_eq_some_iff]at h;obtain⟨js,e,rfl⟩:=h;simp[GU e]
 |.mu _::_,is,h=>by simp[B2]at h
 |.tm _::_,is,h=>by simp[B2]at h
 |.ro _::_,is,h=>by simp[B2]at h
 |.op _ _ _::_,is,h=>by simp[B2]at h
 |.fv _ _::_,is,h=>by simp[B2]at h
theorem C0:∀{ds:List D} {is:List Int},Ao ds=some is->ds=is.map λi=>.im 134
 |[],is,h=>by simp[Ao]at h;subst h;rfl
 |.im (.int i)::r,is,h=>by
  simp only[Ao,Option.map_eq_some_iff]at h;obtain⟨js,e,rfl⟩:=h;simp[C0 e]
 |.im (.bl _)::_,is,h=>by simp[Ao]at h
 |.im (.str _)::_,is,h=>by simp[Ao]at h
 |.im .non::_,is,h=>by simp[Ao]at h
 |.im (.tup _)::_,is,h=>by simp[Ao]at h
 |.mu _::_,is,h=>by simp[Ao]at h
 |.tm _::_,is,h=>by simp[Ao]at h
 |.ro _::_,is,h=>by simp[Ao]at h
 |.op _ _ _::_,is,h=>by simp[Ao]at h
 |.fv _ _::_,is,h=>by simp[Ao]at h
theorem Op:∀{ds:List D} {is:List Bool},CH ds=some is->ds=is.map λi=>.im (.bl i)
 |[],is,h=>by simp[CH]at h;subst h;rfl
 |.im (.bl i)::r,is,h=>by
  simp only[CH,Option.map_eq_some_iff]at h;obtain⟨js,e,rfl⟩:=h;simp[Op e]
 |.im (.int _)::_,is,h=>by simp[CH]at h
 |.im (.str _)::_,is,h=>by simp[CH]at h
 |.im .non::_,is,h=>by simp[CH]at h
 |.im (.tup _)::_,is,h=>by simp[CH]at h
 |.mu _::_,is,h=>by simp[CH]at h
 |.tm _::_,is,h=>by simp[CH]at h
 |.ro _::_,is,h=>by simp[CH]at h
 |.op _ _ _::_,is,h=>by simp[CH]at h
 |.fv _ _::_,is,h=>by simp[CH]at h
@[simp] theorem allIm_map(is:List I):B2 (is.map .im)=some is:=by induction is<;>simp_all [B2]
@[simp] theorem SG(is:List Int):Ao (is.map λi=>.im 134)=some is:=by induction is<;>simp_all [Ao]
@[simp] theorem Ng(is:List Bool):CH (is.map λi=>.im (.bl i))=some is:=by induction is<;>simp_all [CH]
theorem Dc:∀{ns:List Int} {xs:List V},RDs K ρ H (ns.map λi=>.im 134) xs->xs=ns.map V.int
 |[],xs,h=>by simpa [RDs]using h
 |n::ns,xs,h=>by
  simp only[fq,RDs,RD,RI]at h;obtain⟨x,r,rfl,rfl,z⟩:=h;rw[Dc z];rfl
theorem Di:∀{ns:List Int},RDs K ρ H (ns.map λi=>.im 134) (ns.map V.int)
 |[]=>by simp[RDs]
 |n::ns=>by simp only[fq];exact .cons 135 Di
theorem RY:∀{ns:List Bool} {xs:List V},RDs K ρ H (ns.map λi=>.im (.bl i)) xs->xs=ns.map V.bl
 |[],xs,h=>by simpa [RDs]using h
 |n::ns,xs,h=>by
  simp only[fq,RDs,RD,RI]at h;obtain⟨x,r,rfl,rfl,z⟩:=h;rw[RY z];rfl
theorem RD.tup(h:RD K ρ H d v)(e:AV d=some ds):∃a xs,v=.ref a/\SqT K H a xs/\RDs K ρ H ds xs:=by
 cases d with
 |im i=>
  cases i with
  |tup is=>
   simp only[AV,Option.some.injEq]at e;subst e;simp only[RD,RI]at h;obtain⟨a,xs,rfl,q,r⟩:=h;exact⟨a,xs,rfl,q,r.ds⟩
  |_=>simp[AV]at e
 |tm es=>
  simp only[AV,Option.some.injEq]at e;subst e;simpa only[RD]using h
 |_=>simp[AV]at e
theorem RD.lst(hR:RH K ρ H hd)(h:RD K ρ H d v)(e:Ac hd d=some ds):∃a xs,v=.ref a/\SqL K H a xs/\RDs K ρ H ds xs:=by
 cases d with
 |mu n=>
  simp only[Ac]at e;simp only[RD]at h;obtain⟨a,hn,rfl⟩:=h;split at e
  .next q=>
   cases e;obtain⟨xs,e1,e2⟩:=hR.lst hn q;exact⟨a,xs,rfl,SqL.of e1,e2⟩
  .cases e
 |ro ns=>
  simp only[Ac,Option.some.injEq]at e;subst e;simp only[RD]at h;obtain⟨a,rfl,q⟩:=h;exact⟨a,_,rfl,q.sq,Di⟩
 |_=>simp[Ac]at e
def RD.seq(hR:RH K ρ H hd)(h:RD K ρ H d v)(e:An hd d=some ds):∃a xs,v=.ref a/\(SqL K H a xs∨SqT K H a xs)/\RDs K ρ H ds xs:=by
 unfold An at e;split at e
 .next q=>
  cases e;obtain⟨a,xs,e1,e2,e3⟩:=h.tup q;exact⟨a,xs,e1,.inr e2,e3⟩
 .obtain⟨a,xs,e1,e2,e3⟩:=h.lst hR e;exact⟨a,xs,e1,.inl e2,e3⟩
def Cd(q:SqT K H a xs)(r:RDs K ρ H ds xs):RD K ρ H (B0 ds) (.ref a):=by
 unfold B0;split
 .next e=>
  rw[GU e]at r;simp only[RD,RI];exact⟨a,xs,rfl,q,r.is⟩
 .simp only[RD];exact⟨a,xs,rfl,q,r⟩
noncomputable def A0(i:Nat):ME:=λls hd=>match ls[i]? with
 |some (some d)=>some (d,hd)
 |_=>none
def ZF{i:Nat}:RE K (KD i) (A0 i):=by
 and_intros;unfold A0 at hm;split at hm
 .next e=>
  cases hm;obtain⟨v,e1,e2⟩:=hL.ob i _ e;exact⟨v,e1,hQ ρ H v .refl hR e2⟩
 .cases hm
noncomputable def mC(i:I):ME:=λ_ hd=>some (.im i,hd)
def PU(h:∀H,RI K H i v):RE K (tC v) (mC i):=by
 and_intros;cases hm;exact hQ ρ H v .refl hR (by simpa only[RD]using h H)
noncomputable def mOp(f:D->D->Hd->Option 121)(ma mb:ME):ME:=λls hd=>(ma ls hd).bind λp=>(mb ls p.2).bind λq=>f p.1 q.1 q.2
def Lz{f:D->D->Hd->Option 121}(hr:RB K r f)(ha:RE K ta ma)(hb:RE K tb mb):RE K (tOp r ta tb) (mOp f ma mb):=by
 and_intros;obtain⟨⟨d1,h1⟩,e1,hm⟩:=fJ hm;obtain⟨⟨d2,h2⟩,e2,hm⟩:=fJ hm;refine ha ρ σ H hd ls _ d1 h1 hR hL e1 λρ1 H1 v1 x1 R1 r1=>?_;refine hb ρ1 σ H1 h1 ls _ d2 h2 R1 122 e2 λρ2 H2 v2 x2 R2 r2=>?_;exact hr ρ2 H2 h2 d1 d2 v1 v2 Q d hd' R2 (r1.ext R1 x2) r2 hm λρ' H' w x3 R3 r3=>hQ ρ' H' w ((79).trans R2 x3) R3 r3
noncomputable def CP(ta tb:MT):MT:=λls hd=>(ta ls hd).bind λp=>if p.1=true then tb ls p.2 else some (false,p.2)
noncomputable def mOr(ta tb:MT):MT:=λls hd=>(ta ls hd).bind λp=>if p.1=true then some (true,p.2)else tb ls p.2
noncomputable def Gx(ta:MT):MT:=λls hd=>(ta ls hd).bind λp=>some (!p.1,p.2)
def Yy(ha:RT K ta ma)(hb:RT K tb mb):RT K (Ta ta tb) (CP ma mb):=by
 and_intros;obtain⟨⟨d1,h1⟩,e1,hm⟩:=fJ hm;refine ha ρ σ H hd ls _ d1 h1 hR hL e1 λρ1 H1 x1 R1=>?_;cases d1 with
 |true=>
  rw[fb rfl]at hm ⊢;exact hb ρ1 σ H1 h1 ls Q d hd' R1 122 hm λρ2 H2 x2 R2=>hQ ρ2 H2 79 R2
 |false=>
  rw[fe Bool.false_ne_true]at hm ⊢;cases hm;exact hQ ρ1 H1 x1 R1
def c7(ha:RT K ta ma)(hb:RT K tb mb):RT K (tOr ta tb) (mOr ma mb):=by
 and_intros;obtain⟨⟨d1,h1⟩,e1,hm⟩:=fJ hm;refine ha ρ σ H hd ls _ d1 h1 hR hL e1 λρ1 H1 x1 R1=>?_;cases d1 with
 |true=>
  rw[fb rfl]at hm ⊢;cases hm;exact hQ ρ1 H1 x1 R1
 |false=>
  rw[fe Bool.false_ne_true]at hm ⊢;exact hb ρ1 σ H1 h1 ls Q d hd' R1 122 hm λρ2 H2 x2 R2=>hQ ρ2 H2 79 R2
def Yx(ha:RT K ta ma):RT K (TN ta) (Gx ma):=by
 and_intros;obtain⟨⟨d1,h1⟩,e1,hm⟩:=fJ hm;cases hm;exact ha ρ σ H hd ls _ d1 h1 hR hL e1 λρ1 H1 x1 R1=>hQ ρ1 H1 x1 R1
open Classical in
noncomputable def By(hd:Hd):D->Option Bool
 |.im .non=>some false
 |.im (.bl b)=>some b
 |.im (.int i)=>some (i != 0)
 |.im (.str x)=>if BY x.length then some ((x.length:Int) != 0)else none
 |.im (.tup is)=>some (!is.isEmpty)
 |.tm is=>some (!is.isEmpty)
 |.ro ns=>some (!ns.isEmpty)
 |.op _ _ _=>none
 |.fv _ _=>none
 |.mu n=>match hd[n]? with
  |some (.lst ds)=>some (!ds.isEmpty)
  |some (.dic ds)=>some (!ds.isEmpty)
  |none=>none
def D1{α β:Type}{xs:List α}{ys:List β}(h:85=ys.length):xs.isEmpty=ys.isEmpty:=by
 cases xs<;>cases ys<;>simp_all
theorem RKs.len:∀{ds:List (Key×D)} {xs:List (Key×V)},RKs K ρ H ds xs->85=83
 |[],xs,h=>by simp only[RKs]at h;rw[h];rfl
 |d::ds,xs,h=>by
  simp only[RKs]at h;obtain⟨x,r,rfl,_,_,z⟩:=h;simp[RKs.len z]
def WQ{b:Bool}(hR:RH K ρ H hd)(h:RD K ρ H d v)(e:By hd d=some b):Nk K v H b:=by
 cases d with
 |im i=>
  cases i with
  |non=>simp only[RD,RI]at h;subst h;simp only[By,Option.some.injEq]at e;subst e;exact rfl
  |bl c=>simp only[RD,RI]at h;subst h;simp only[By,Option.some.injEq]at e;subst e;exact rfl
  |int c=>simp only[RD,RI]at h;subst h;simp only[By,Option.some.injEq]at e;subst e;exact rfl
  |str c=>
   simp only[RD,RI]at h;subst h;simp only[By]at e;split at e
   .next z=>cases e;exact⟨z,rfl⟩
   .cases e
  |tup is=>
   obtain⟨a,xs,rfl,q,r⟩:=h.tup (ds:=is.map .im) rfl;simp only[By,Option.some.injEq]at e;subst e;exact .inr (.inl ⟨xs,q,by rw[D1 (show 85=is.length by simpa using r.len)]⟩)
 |tm ds=>
  obtain⟨a,xs,rfl,q,r⟩:=h.tup (ds:=ds) rfl;simp only[By,Option.some.injEq]at e;subst e;exact .inr (.inl ⟨xs,q,by rw[D1 r.len]⟩)
 |ro ns=>
  obtain⟨a,xs,rfl,q,r⟩:=h.lst hR (hd:=hd) (ds:=ns.map λn=>.im (.int n)) rfl;simp only[By,Option.some.injEq]at e;subst e;exact .inl ⟨xs,q,by rw[D1 (show 85=ns.length by simpa using r.len)]⟩
 |op _ _ _=>simp[By]at e
 |fv _ _=>simp[By]at e
 |mu n=>
  simp only[RD]at h;obtain⟨a,hn,rfl⟩:=h;simp only[By]at e;split at e
  .next q=>
   cases e;obtain⟨xs,e1,e2⟩:=hR.lst hn q;exact .inl ⟨xs,SqL.of e1,by rw[D1 e2.len]⟩
  .next q=>
   cases e;obtain⟨xs,e1,e2⟩:=hR.dic hn q;exact .inr (.inr ⟨xs,e1,by rw[D1 e2.len]⟩)
  .cases e
noncomputable def CB(ma:ME):MT:=λls hd=>(ma ls hd).bind λp=>(By p.2 p.1).map (·,p.2)
def Tk(ha:RE K ta ma):RT K (λσ H Q=>ta σ H λx H'=>∃k,Nk K x H' k/\Q k H') (CB ma):=by
 and_intros;obtain⟨⟨d1,h1⟩,e1,hm⟩:=fJ hm;obtain⟨b,e2,e3⟩:=fK hm;cases e3;exact ha ρ σ H hd ls _ d1 h1 hR hL e1 λρ1 H1 v x1 R1 r1=>⟨_,WQ R1 r1 e2,hQ ρ1 H1 x1 R1⟩
noncomputable def A7(ma:ME):MT:=λls hd=>(ma ls hd).bind λp=>match p.1 with
 |.im (.bl b)=>some (b,p.2)
 |_=>none
def DG(ha:RE K ta ma):RT K (F0 ta) (A7 ma):=by
 and_intros;obtain⟨⟨d1,h1⟩,e1,hm⟩:=fJ hm;dsimp only at hm;split at hm
 .cases hm;exact ha ρ σ H hd ls _ _ _ hR hL e1 λρ1 H1 v x1 R1 r1=>⟨_,by simpa only[RD,RI]using r1,hQ ρ1 H1 x1 R1⟩
 .cases hm
def Yz(ha:RE K ta ma):RT K (tB ta) (A7 ma):=DG ha
noncomputable def mIf(c:MT)(ma mb:ME):ME:=λls hd=>(c ls hd).bind λp=>if p.1=true then ma ls p.2 else mb ls p.2
def cB(hc:RT K tc c)(ha:RE K ta ma)(hb:RE K tb mb):RE K (tIf tc ta tb) (mIf c ma mb):=by
 and_intros;obtain⟨⟨d1,h1⟩,e1,hm⟩:=fJ hm;refine hc ρ σ H hd ls _ d1 h1 hR hL e1 λρ1 H1 x1 R1=>?_;cases d1 with
 |true=>
  rw[fb rfl]at hm ⊢;exact ha ρ1 σ H1 h1 ls Q d hd' R1 122 hm λρ2 H2 v x2 R2 r2=>hQ ρ2 H2 v 79 R2 r2
 |false=>
  rw[fe Bool.false_ne_true]at hm ⊢;exact hb ρ1 σ H1 h1 ls Q d hd' R1 122 hm λρ2 H2 v x2 R2 r2=>hQ ρ2 H2 v 79 R2 r2
noncomputable def Hn(ma mb:ME):ME:=λls hd=>(A7 ma ls hd).bind λp=>if p.1=true then mb ls p.2 else some (.im (.bl false),p.2)
noncomputable def Hk(ma:ME):ME:=λls hd=>(A7 ma ls hd).bind λp=>some (.im (.bl (!p.1)),p.2)
def X6(ha:RE K ta ma)(hb:RE K tb mb):RE K (P5 ta tb) (Hn ma mb):=by
 and_intros;obtain⟨⟨d1,h1⟩,e1,hm⟩:=fJ hm;refine DG ha ρ σ H hd ls (λc H1=>if c=true then tb σ H1 Q else Q (.bl false) H1) d1 h1 hR hL e1 λρ1 H1 x1 R1=>?_;cases d1 with
 |true=>
  rw[fb rfl]at hm ⊢;exact hb ρ1 σ H1 h1 ls Q d hd' R1 122 hm λρ2 H2 v x2 R2 r2=>hQ ρ2 H2 v 79 R2 r2
 |false=>
  rw[fe Bool.false_ne_true]at hm ⊢;cases hm;exact hQ ρ1 H1 _ x1 R1 135
def Wx(ha:RE K ta ma):RE K (P0 ta) (Hk ma):=by
 and_intros;obtain⟨⟨d1,h1⟩,e1,hm⟩:=fJ hm;cases hm;exact DG ha ρ σ H hd ls (λc H1=>Q (.bl (!c)) H1) d1 h1 hR hL e1 λρ1 H1 x1 R1=>hQ ρ1 H1 _ x1 R1 135
noncomputable def A3:MA:=λ_ hd=>some ([],hd)
noncomputable def A1(ma:ME)(mr:MA):MA:=λls hd=>(ma ls hd).bind λp=>(mr ls p.2).bind λq=>some (p.1::q.1,q.2)
def Mz:RA K BQ A3:=by
 and_intros;cases hm;exact hQ ρ H [] .refl hR .nil
def X9(ha:RE K ta ma)(hr:RA K tr mr):RA K (BK ta tr) (A1 ma mr):=by
 and_intros;obtain⟨⟨d1,h1⟩,e1,hm⟩:=fJ hm;obtain⟨⟨d2,h2⟩,e2,hm⟩:=fJ hm;cases hm;refine ha ρ σ H hd ls _ d1 h1 hR hL e1 λρ1 H1 v1 x1 R1 r1=>?_;exact hr ρ1 σ H1 h1 ls _ d2 _ R1 122 e2 λρ2 H2 v2 x2 R2 r2=>hQ ρ2 H2 _ 79 R2 (.cons (r1.ext R1 x2) r2)
open Classical in
noncomputable def Ay(ma:MA):ME:=λls hd=>(ma ls hd).bind λp=>if BY p.1.length then some (B0 p.1,p.2)else none
def ZG(h:RA K t m):RE K (TJ t) (Ay m):=by
 and_intros;obtain⟨⟨d1,h1⟩,e1,hm⟩:=fJ hm;dsimp only at hm;split at hm
 .next z=>
  cases hm;refine h ρ σ H hd ls _ d1 _ hR hL e1 λρ1 H1 v1 x1 R1 r1=>⟨by rw[r1.len];exact z,λp hp=>?_⟩
  obtain⟨R2,x2⟩:=R1.hid (ho:=.tup v1) hp;exact hQ ρ1 _ _ 79 R2 (Cd (SqT.of AF) (r1.ext R1 x2))
 .cases hm
open Classical in
noncomputable def Ab(ma:MA):MA:=λls hd=>(ma ls hd).bind λp=>if BY p.1.length then some (p.1,p.2)else none
def RH.out(hR:RH K ρ H hd)(h:H a=none):a∉ρ:=λm=>by rcases hR.mut m with⟨y,z⟩|⟨y,z⟩<;>(rw[h]at z;cases z)
theorem Ext.none(e:Ext ρ H ρ' H')(hR:RH K ρ H hd)(h:H' a=none)(hR':RH K ρ' H' hd'):H a=none:=by
 cases q:H a with
 |none=>rfl
 |some o=>
  by_cases m:a∈ρ
  .obtain⟨r,rfl,_⟩:=e.pre;exact absurd (gw r m) (hR'.out h)
  .by_cases t:∃ps,o=.tbl ps
   .obtain⟨ps,rfl⟩:=t;obtain⟨ps',this⟩:=e.tab a ps q;rw[h]at this;cases this
   .rw[e.keep a o q m λps y=>t ⟨ps,y⟩]at h;cases h
def Z6(h:RA K t m):RN K (TQ t) (Ab m):=by
 and_intros;obtain⟨⟨d1,h1⟩,e1,hm⟩:=fJ hm;dsimp only at hm;split at hm
 .next z=>
  cases hm;refine h ρ σ H hd ls _ _ _ hR hL e1 λρ1 H1 v1 x1 R1 r1=>⟨by rw[r1.len];exact z,λp hp=>?_⟩
  obtain⟨R2,x2⟩:=R1.hid (ho:=.lst v1) hp;exact hQ ρ1 _ p v1 79 R2 (x1.none hR hp R1) (R1.out hp) AF (r1.ext R1 x2)
 .cases hm
noncomputable def AU(ml:MA):ME:=λls hd=>(ml ls hd).bind λp=>some (.mu p.2.length,p.2++[.lst p.1])
def RH.name(hR:RH K ρ H hd)(out:a∉ρ)(e:H a=some 145)(r:RDs K ρ H ds xs):RH K (ρ++[a]) H (hd++[.lst ds]):=by
 have mono:∀{o:MO} {ho:HO},RC K ρ H o ho->RC K (ρ++[a]) H o ho:=λc=>c.mono Grow.refl [a];refine⟨by simp[hR.len],?_,hR.tabs,λn o' b e1 e2=>?_⟩
 .rw[nodup_append];refine⟨hR.nd,by simp,λx hx y hy z=>?_⟩;simp at hy;subst hy;subst z;exact out hx
 .by_cases hn:n<ρ.length
  .rw[List.getElem?_append_left hn]at e2;rw[List.getElem?_append_left (by rw[<- hR.len];exact hn)]at e1;obtain⟨ho',q1,q2⟩:=hR.ob n o' b e1 e2;exact⟨ho',q1,mono q2⟩
  .have hn':n=ρ.length:=by
    have:=(73 e2).1;simp at this;omega
   subst hn';simp at e2;rw[hR.len]at e1;simp at e1;subst e1;subst e2;exact⟨_,e,mono ⟨xs,rfl,r⟩⟩
def Ext.name(e:Ext ρ H ρ' H')(h:H a=Option.none):Ext ρ H (ρ'++[a]) H':=by
 obtain⟨r,rfl,f⟩:=e.pre;refine⟨⟨r++[a],by simp,λb m=>?_⟩,e.keep,e.tab⟩;rcases mem_append.mp m with m|m
 .exact f b m
 .simp at m;subst m;exact h
def RW(h:RN K t m):RE K t (AU m):=by
 and_intros;obtain⟨⟨d1,h1⟩,e1,hm⟩:=fJ hm;cases hm;refine h ρ σ H hd ls Q d1 h1 hR hL e1 λρ1 H1 a xs x1 R1 na oa ea r1=>?_;refine hQ (ρ1++[a]) H1 _ (x1.name na) (R1.name oa ea r1) ?_;simp only[RD];exact⟨a,by rw[<- R1.len];simp,rfl⟩
end
section
variable{K:Frag}{ρ ρ':List Addr}{H H':Hp}{hd hd':Hd}
noncomputable def fI(g:Int->Int->Option I):D->D->Hd->Option 121
 |.im (.int i),.im (.int j),hd=>(g i j).map (.im ·,hd)
 |_,_,_=>none
def PZ{C:Int->Int->Prop}{g:Int->Int->V}{f:Int->Int->Option I}(h:∀i j z,f i j=some z->C i j/\∀H,RI K H z (g i j)):RB K (rI C g) (fI f):=by
 intro ρ H hd d e v u Q z hd' hR h1 h2 hf hQ;unfold fI at hf;split at hf
 .simp only[RD,RI]at h1 h2;subst h1 h2;obtain⟨w,e1,e2⟩:=fK hf;cases e2;obtain⟨c,r⟩:=h _ _ _ e1;exact⟨_,_,rfl,rfl,c,hQ ρ H _ .refl hR (by simpa only[RD]using r H)⟩
 .cases hf
def Hf{g:Int->Int->V}{f:Int->Int->I}(h:∀i j H,RI K H (f i j) (g i j)):RB K (rI0 g) (fI λi j=>some (f i j)):=by
 intro ρ H hd d e v u Q z hd' hR h1 h2 hf hQ;unfold fI at hf;split at hf
 .simp only[RD,RI]at h1 h2;subst h1 h2;cases hf;exact⟨_,_,rfl,rfl,hQ ρ H _ .refl hR (by simpa only[RD]using h _ _ H)⟩
 .cases hf
noncomputable def GL(f g:D->D->Hd->Option 121):D->D->Hd->Option 121:=λd e hd=>match f d e hd with
 |some z=>some z
 |none=>g d e hd
def Dd{r r':R2}{f g:D->D->Hd->Option 121}(h:RB K r f)(h':RB K r' g):RB K (λx y H Q=>r x y H Q∨r' x y H Q) (GL f g):=by
 intro ρ H hd d e v u Q z hd' hR h1 h2 hf hQ;unfold GL at hf;split at hf
 .next q=>cases hf;exact .inl (h ρ H hd d e v u Q z hd' hR h1 h2 q hQ)
 .exact .inr (h' ρ H hd d e v u Q z hd' hR h1 h2 hf hQ)
noncomputable abbrev Ke:D->D->Hd->Option 121:=fI λi j=>some (.int (i+j))
noncomputable abbrev CD:D->D->Hd->Option 121:=fI λi j=>some (.int (i-j))
def Rf:RB K (rI0 λi j=>.int (i+j)) Ke:=Hf λ_ _ _=>by simp[RI]
def ZP:RB K (rI0 λi j=>.int (i-j)) CD:=Hf λ_ _ _=>by simp[RI]
open Classical in
noncomputable abbrev Bc:D->D->Hd->Option 121:=fI λi j=>if EH i j then some (.int (i*j))else none
def ZR:RB K (rI CMul λi j=>.int (i*j)) Bc:=PZ λi j z h=>by
 split at h
 .next q=>cases h;exact⟨q,λ_=>by simp[RI]⟩
 .cases h
open Classical in
noncomputable abbrev Cv:D->D->Hd->Option 121:=fI λi j=>if EI j then some (.int (i%j))else none
def ZS:RB K (rI (λ_ j=>0<j) λi j=>.int (i%j)) Cv:=PZ λi j z h=>by
 split at h
 .next q=>cases h;exact⟨q,λ_=>by simp[RI]⟩
 .cases h
open Classical in
noncomputable abbrev GI:D->D->Hd->Option 121:=fI λi j=>if M7 j then some (.int (i/j))else none
def X7:RB K (rI br λi j=>.int (i/j)) GI:=PZ λi j z h=>by
 split at h
 .next q=>cases h;exact⟨q,λ_=>by simp[RI]⟩
 .cases h
open Classical in
noncomputable abbrev Q4:D->D->Hd->Option 121:=fI λi j=>if Ph i j then some (.int (i^j.toNat))else none
def ZQ:RB K (rI bq λi j=>.int (i^j.toNat)) Q4:=PZ λi j z h=>by
 split at h
 .next q=>cases h;exact⟨q,λ_=>by simp[RI]⟩
 .cases h
abbrev gLt:D->D->Hd->Option 121:=fI λi j=>some (.bl (decide (i<j)))
abbrev gLe:D->D->Hd->Option 121:=fI λi j=>some (.bl (decide (i<=j)))
abbrev gGt:D->D->Hd->Option 121:=fI λi j=>some (.bl (decide (j<i)))
abbrev gGe:D->D->Hd->Option 121:=fI λi j=>some (.bl (decide (j<=i)))
def PV:RB K (rI0 λi j=>.bl (decide (i<j))) gLt:=Hf λ_ _ _=>by simp[RI]
def PX:RB K (rI0 λi j=>.bl (decide (i<=j))) gLe:=Hf λ_ _ _=>by simp[RI]
def Ve:RB K (rI0 λi j=>.bl (decide (j<i))) gGt:=Hf λ_ _ _=>by simp[RI]
def cE:RB K (rI0 λi j=>.bl (decide (j<=i))) gGe:=Hf λ_ _ _=>by simp[RI]
noncomputable def scI:I->Option V
 |.non=>some .non
 |.bl b=>some (.bl b)
 |.int i=>some 134
 |.str x=>some (.str x)
 |.tup _=>none
def JO{i:I}{v w:V}(e:scI i=some w)(h:RI K H i v):v=w:=by
 cases i with
 |tup _=>simp[scI]at e
 |_=>simp only[scI,Option.some.injEq]at e;subst e;simpa only[RI]using h
noncomputable def FK(neg:Bool):D->D->Hd->Option 121
 |.im i,.im j,hd=>match scI i,scI j with
  |some x,some y=>if Ml x y=true then some (.im (.bl (if neg then !decide (x=y)else decide (x=y))),hd)else none
  |_,_=>none
 |_,_,_=>none
def Rb:RB K rEq (FK false):=by
 intro ρ H hd d e v u Q z hd' hR h1 h2 hf hQ;unfold FK at hf;split at hf
 .split at hf
  .next x y e1 e2=>
   split at hf
   .next s=>
    cases hf;simp only[RD]at h1 h2;rw[JO e1 h1,JO e2 h2];exact⟨s,hQ ρ H _ .refl hR 135⟩
   .cases hf
  .cases hf
 .cases hf
def RZ:RB K rNe (FK true):=by
 intro ρ H hd d e v u Q z hd' hR h1 h2 hf hQ;unfold FK at hf;split at hf
 .split at hf
  .next x y e1 e2=>
   split at hf
   .next s=>
    cases hf;simp only[RD]at h1 h2;rw[JO e1 h1,JO e2 h2];exact⟨s,hQ ρ H _ .refl hR 135⟩
   .cases hf
  .cases hf
 .cases hf
mutual
noncomputable def I.py:I->PyData
 |.non=>.none
 |.bl b=>.bool b
 |.int i=>.int i
 |.str x=>.str x
 |.tup ds=>.tuple (I.pys ds)
noncomputable def I.pys:List I->List PyData
 |[]=>[]
 |d::ds=>I.py d::I.pys ds
end
mutual
theorem RI.rep:∀{i:I} {v:V},RI K H i v->Rep K H i.py v
 |.non,v,h=>by simpa only[RI,I.py,Rep]using h
 |.bl _,v,h=>by simpa only[RI,I.py,Rep]using h
 |.int _,v,h=>by simpa only[RI,I.py,Rep]using h
 |.str _,v,h=>by simpa only[RI,I.py,Rep]using h
 |.tup ds,v,h=>by
  simp only[RI]at h;obtain⟨a,xs,e,q,r⟩:=h;simp only[I.py,Rep];exact⟨a,xs,e,q,RIs.rep r⟩
theorem RIs.rep:∀{i:List I} {v:List V},RIs K H i v->CM K H (I.pys i) v
 |[],v,h=>by simpa only[RIs,I.pys,CM]using h
 |d::ds,v,h=>by
  simp only[RIs]at h;obtain⟨x,r,e,q,z⟩:=h;simp only[I.pys,CM];exact⟨x,r,e,q.rep,RIs.rep z⟩
end
def pyD(hd:Hd):D->Option PyData
 |.im i=>some i.py
 |.mu n=>match hd[n]? with
  |some (.lst ds)=>(B2 ds).map λis=>.list (I.pys is)
  |_=>none
 |.ro ns=>some (.list (I.pys (ns.map I.int)))
 |_=>none
def FU{d:D}{v:V}{p:PyData}(hR:RH K ρ H hd)(h:RD K ρ H d v)(e:pyD hd d=some p):Rep K H p v:=by
 cases d with
 |im i=>simp only[pyD,Option.some.injEq]at e;subst e;simp only[RD]at h;exact h.rep
 |mu n=>
  simp only[pyD]at e;simp only[RD]at h;obtain⟨a,hn,rfl⟩:=h;split at e
  .next q=>
   obtain⟨is,e1,rfl⟩:=fK e;obtain⟨xs,e2,e3⟩:=hR.lst hn q;rw[GU e1]at e3;simp only[Rep];exact⟨a,xs,rfl,SqL.of e2,e3.is.rep⟩
  .cases e
 |ro ns=>
  simp only[pyD,Option.some.injEq]at e;subst e;obtain⟨a,xs,rfl,q,r⟩:=h.lst hR (hd:=hd) (ds:=ns.map λn=>.im (.int n)) rfl;simp only[Rep];refine⟨a,xs,rfl,q,RIs.rep (RDs.is (ρ:=ρ) ?_)⟩;rw[fM];exact r
 |tm _=>simp[pyD]at e
 |op _ _ _=>simp[pyD]at e
 |fv _ _=>simp[pyD]at e
noncomputable def Kd(neg:Bool):D->D->Hd->Option 121:=λd e hd=>match pyD hd d,pyD hd e with
 |some x,some y=>if x.canLay0=true/\y.canLay0=true/\min x.depth y.depth<=60 then some (.im (.bl (if neg then !PyData.eqv x y else PyData.eqv x y)),hd)else none
 |_,_=>none
def Re:RB K (UD K) (Kd false):=by
 intro ρ H hd d e v u Q z hd' hR h1 h2 hf hQ;unfold Kd at hf;split at hf
 .next e1 e2=>
  split at hf
  .next c=>cases hf;exact⟨_,_,FU hR h1 e1,FU hR h2 e2,c.1,c.2.1,c.2.2,hQ ρ H _ .refl hR 135⟩
  .cases hf
 .cases hf
def Ra:RB K (UB K) (Kd true):=by
 intro ρ H hd d e v u Q z hd' hR h1 h2 hf hQ;unfold Kd at hf;split at hf
 .next e1 e2=>
  split at hf
  .next c=>cases hf;exact⟨_,_,FU hR h1 e1,FU hR h2 e2,c.1,c.2.1,c.2.2,hQ ρ H _ .refl hR 135⟩
  .cases hf
 .cases hf
noncomputable abbrev gEq:=GL (FK false) (Kd false)
noncomputable abbrev gNe:=GL (FK true) (Kd true)
def gIx:D->D->Hd->Option 121
 |d,.im (.int i),hd=>(An hd d).bind λds=>(atI ds i).map (·,hd)
 |_,_,_=>none
def Ks{α β:Type}{xs:List α}{ys:List β}{i:Int}{y:β}(h:85=ys.length)(e:atI ys i=some y):∃(j:Nat),ys[j]?=some y/\∀x,xs[j]?=some x->atI xs i=some x:=by
 unfold atI at e;obtain⟨j,e1,e2⟩:=fJ e;exact⟨j,e2,λx q=>by unfold atI;rw[h,e1];exact q⟩
noncomputable def M0(K:Frag):R2:=λx y H Q=>IX K x y H Q∨UC K x y H Q
def cD:RB K (M0 K) gIx:=by
 intro ρ H hd d e v u Q z hd' hR h1 h2 hf hQ;unfold gIx at hf;split at hf
 .obtain⟨ds,e1,hf⟩:=fJ hf;obtain⟨w,e2,e3⟩:=fK hf;cases e3;obtain⟨a,xs,rfl,q,r⟩:=h1.seq hR e1;simp only[RD,RI]at h2;subst h2;obtain⟨j,j1,j2⟩:=Ks r.len e2;obtain⟨x,x1,x2⟩:=r.get j1;rcases q with q|q
  .exact .inl ⟨a,xs,_,x,rfl,rfl,q,j2 x x1,hQ ρ H x .refl hR x2⟩
  .exact .inr ⟨a,xs,_,x,rfl,rfl,q,j2 x x1,hQ ρ H x .refl hR x2⟩
 .cases hf
noncomputable def GQ(xs:List D)(lo hi:Option Int):List D:=(xs.drop (HT.sIx 85 0 lo)).take (HT.sIx 85 85 hi-HT.sIx 85 0 lo)
def Yg{ds:List D}{xs:List V}{lo hi:Option Int}(r:RDs K ρ H ds xs):RDs K ρ H (GQ ds lo hi) (Iy xs lo hi):=by
 unfold GQ Iy;rw[r.len];exact(r.drop _).take _
noncomputable abbrev MO1:=Ls->Hd->Option (Option Int×Hd)
def RO1(K:Frag)(t:TO)(m:MO1):Prop:=∀(ρ:List Addr) (σ:St) (H:Hp) (hd:Hd) (ls:Ls) (Q:Option Int->Hp->Prop) (d:Option Int) (hd':Hd),RH K ρ H hd->RL K ρ H ls σ->m ls hd=some (d,hd') ->
 (∀ρ' H',Ext ρ H ρ' H'->RH K ρ' H' hd'->Q d H')->t σ H Q
noncomputable def FZ:MO1:=λ_ hd=>some (none,hd)
noncomputable def Jj(m:ME):MO1:=λls hd=>(m ls hd).bind λp=>match p.1 with
 |.im (.int i)=>some (some i,p.2)
 |_=>none
def Wp:RO1 K KF FZ:=by
 and_intros;cases hm;exact hQ ρ H .refl hR
def Wn{t:TE}{m:ME}(h:RE K t m):RO1 K (Oz t) (Jj m):=by
 and_intros;obtain⟨⟨d1,h1⟩,e1,hm⟩:=fJ hm;dsimp only at hm;split at hm
 .cases hm;exact h ρ σ H hd ls _ _ _ hR hL e1 λρ1 H1 v x1 R1 r1=>⟨_,by simpa only[RD,RI]using r1,hQ ρ1 H1 x1 R1⟩
 .cases hm
noncomputable def KS(m:ME)(ml mh:MO1):MA:=λls hd=>(m ls hd).bind λp=>(ml ls p.2).bind λl=>(mh ls l.2).bind λh=>(Ac h.2 p.1).bind λds=>some (GQ ds l.1 h.1,h.2)
def Z4{t:TE}{tl th:TO}{m:ME}{ml mh:MO1}(h:RE K t m)(hl:RO1 K tl ml)(hh:RO1 K th mh):RN K (tSl (Pa K) t tl th) (KS m ml mh):=by
 and_intros;obtain⟨⟨d1,h1⟩,e1,hm⟩:=fJ hm;obtain⟨⟨d2,h2⟩,e2,hm⟩:=fJ hm;obtain⟨⟨d3,h3⟩,e3,hm⟩:=fJ hm;obtain⟨ds,e4,hm⟩:=fJ hm;dsimp only at e2 e3 e4 hm;cases hm;refine h ρ σ H hd ls _ d1 h1 hR hL e1 λρ1 H1 v1 x1 R1 r1=>?_;refine hl ρ1 σ H1 h1 ls _ d2 h2 R1 122 e2 λρ2 H2 x2 R2=>?_;refine hh ρ2 σ H2 h2 ls _ d3 _ R2 (hL.ext hR 79) e3 λρ3 H3 x3 R3=>?_;obtain⟨a,xs,rfl,q,r⟩:=RD.lst R3 ((r1.ext R1 x2).ext R2 x3) e4;refine⟨a,xs,rfl,q,λp hp=>?_⟩;obtain⟨R4,x4⟩:=R3.hid (ho:=.lst (Iy xs d2 d3)) hp;have x123:=(79).trans R2 x3;exact hQ ρ3 _ p _ (x123.trans R3 x4) R4 (x123.none hR hp R3) (R3.out hp) AF ((Yg r).ext R3 x4)
noncomputable def mCB(f:List D->Hd->Option 121)(ma:MA):ME:=λls hd=>(ma ls hd).bind λp=>f p.1 p.2
def Vc{r:List V->Hp->VK->Prop}{f:List D->Hd->Option 121}{t:TA}{m:MA}(hr:RF K r f)(h:RA K t m):RE K (tCB r t) (mCB f m):=by
 and_intros;obtain⟨⟨d1,h1⟩,e1,hm⟩:=fJ hm;refine h ρ σ H hd ls _ d1 h1 hR hL e1 λρ1 H1 v1 x1 R1 r1=>?_;exact hr ρ1 H1 h1 d1 v1 Q d hd' R1 r1 hm λρ' H' w x2 R2 r2=>hQ ρ' H' w 79 R2 r2
noncomputable def f1(tp:Bool)(g:List D->Option D):List D->Hd->Option 121
 |[d],hd=>((if tp then An hd d else Ac hd d)).bind λds=>(g ds).map (·,hd)
 |_,_=>none
def IU{tp:Bool}{r:List V->Hp->VK->Prop}{g:List D->Option D}(h:RG K tp r g):RF K r (f1 tp g):=by
 intro ρ H hd ds vs Q z hd' hR h1 hf hQ;unfold f1 at hf;split at hf
 .next d hd'=>
  obtain⟨es,e1,hf⟩:=fJ hf;obtain⟨w,e2,e3⟩:=fK hf;cases e3;simp only[RDs]at h1;obtain⟨x,r,rfl,rx,rfl⟩:=h1;cases tp with
  |true=>
   rw[fb rfl]at e1;obtain⟨a,xs,rfl,q,rr⟩:=rx.seq hR e1;exact h ρ H hd a xs es Q z hR (q.imp id λq=>⟨rfl,q⟩) rr e2 λH' w x R r=>hQ ρ H' w x R r
  |false=>
   rw[fe Bool.false_ne_true]at e1;obtain⟨a,xs,rfl,q,rr⟩:=rx.lst hR e1;exact h ρ H hd a xs es Q z hR (.inl q) rr e2 λH' w x R r=>hQ ρ H' w x R r
 .cases hf
noncomputable def B9(g:List D->Option D)(ml:MA):ME:=λls hd=>(ml ls hd).bind λp=>(g p.1).map (·,p.2)
def RX{tp:Bool}{r:List V->Hp->VK->Prop}{g:List D->Option D}{t:TE}{m:MA}(hr:RG K tp r g)(h:RN K t m):RE K (tCB r (BK t BQ)) (B9 g m):=by
 and_intros;obtain⟨⟨d1,h1⟩,e1,hm⟩:=fJ hm;obtain⟨w,e2,e3⟩:=fK hm;cases e3;refine h ρ σ H hd ls _ d1 _ hR hL e1 λρ1 H1 a xs x1 R1 na oa ea r1=>?_;exact hr ρ1 H1 _ a xs d1 Q d R1 (.inl (SqL.of ea)) r1 e2 λH' w x R r=>hQ ρ1 H' w (x1.trans R1 x) R r
noncomputable def BS(ds:List D):Option D:=some (.im (.int 83))
def ZD:RG K true (ZU K) BS:=by
 intro ρ H hd a xs ds Q z hR q r e hQ;cases e;refine⟨a,xs,rfl,q.imp id λq=>q.2,?_⟩;rw[r.len];exact hQ H _ .refl hR 135
noncomputable def Bb(ds:List D):Option D:=some (B0 ds)
def Mx:RG K true (N0 K) Bb:=by
 intro ρ H hd a xs ds Q z hR q r e hQ;cases e;refine⟨a,xs,rfl,?_⟩;rcases q with q|⟨_,q⟩
 .refine .inl ⟨q,λp hp=>?_⟩;obtain⟨R2,x2⟩:=hR.hid (ho:=.tup xs) hp;exact hQ _ _ x2 R2 (Cd (SqT.of AF) (r.ext hR x2))
 .exact .inr ⟨q,hQ H _ .refl hR (Cd q r)⟩
noncomputable def Ij(ds:List D):Option D:=(Ao ds).map λns=>.im (.int ns.sum)
def dF(K:Frag):List V->Hp->VK->Prop:=λxs H Q=>Vg K xs H Q∨Vf K xs H Q
def RP:RG K true (dF K) Ij:=by
 intro ρ H hd a xs ds Q z hR q r e hQ;obtain⟨ns,e1,rfl⟩:=fK e;rw[C0 e1]at r;have:=Dc r;subst this;rcases q with q|⟨_,q⟩
 .exact .inl ⟨a,ns,rfl,q,hQ H _ .refl hR 135⟩
 .exact .inr ⟨a,ns,rfl,q,hQ H _ .refl hR 135⟩
noncomputable def Ik(ds:List D):Option D:=(CH ds).map λbs=>.im (.bl (bs.any id))
def RV:RG K false (ZV K) Ik:=by
 intro ρ H hd a xs ds Q z hR q r e hQ;obtain⟨ns,e1,rfl⟩:=fK e;rw[Op e1]at r;have:=RY r;subst this;rcases q with q|⟨q,_⟩
 .exact⟨a,ns,rfl,q,hQ H _ .refl hR 135⟩
 .cases q
noncomputable def Cg:List Int->Int
 |[]=>0
 |[x]=>x
 |x::r=>if Cg r>x then Cg r else x
noncomputable def CO:List Int->Int
 |[]=>0
 |[x]=>x
 |x::r=>if CO r<x then CO r else x
theorem BR:∀{xs:List Int},xs≠[]->Cg xs∈xs/\∀x∈xs,x<=Cg xs
 |[],h=>absurd rfl h
 |[x],_=>by simp[Cg]
 |x::y::r,_=>by
  obtain⟨h1,h2⟩:=BR (xs:=y::r) 70;rw[Cg];split
  .next h=>exact⟨fj _ h1,λz m=>by rcases mem_cons.mp m with rfl|m;omega;exact h2 z m⟩
  .next h=>exact⟨fo,λz m=>by rcases mem_cons.mp m with rfl|m;omega;exact Int.le_trans (h2 z m) 59⟩
  .simp
theorem Bs:∀{xs:List Int},xs≠[]->CO xs∈xs/\∀x∈xs,CO xs<=x
 |[],h=>absurd rfl h
 |[x],_=>by simp[CO]
 |x::y::r,_=>by
  obtain⟨h1,h2⟩:=Bs (xs:=y::r) 70;rw[CO];split
  .next h=>exact⟨fj _ h1,λz m=>by rcases mem_cons.mp m with rfl|m;omega;exact h2 z m⟩
  .next h=>exact⟨fo,λz m=>by rcases mem_cons.mp m with rfl|m;omega;exact Int.le_trans 59 (h2 z m)⟩
  .simp
noncomputable def GC(ds:List D):Option D:=(Ao ds).bind λns=>if ns=[]then none else some (.im (.int (Cg ns)))
noncomputable def ED(ds:List D):Option D:=(Ao ds).bind λns=>if ns=[]then none else some (.im (.int (CO ns)))
def dG(K:Frag):List V->Hp->VK->Prop:=λxs H Q=>Vj K xs H Q∨Vi K xs H Q
def Fd{α:Type}{xs:List α}(h:xs≠[]):0<xs.length:=by cases xs<;>simp_all
def RU:RG K true (dG K) GC:=by
 intro ρ H hd a xs ds Q z hR q r e hQ;obtain⟨ns,e1,e⟩:=fJ e;split at e
 .cases e
 .next hn=>
  cases e;rw[C0 e1]at r;have:=Dc r;subst this;have u:∀M:Int,M∈ns->(∀x∈ns,x<=M)->M=Cg ns:=λM m1 m2=>by
   obtain⟨n1,n2⟩:=BR hn;have:=n2 M m1;have:=m2 _ n1;omega
  rcases q with q|⟨_,q⟩
  .exact .inl ⟨a,ns,rfl,q,Fd hn,λM m1 m2=>by rw[u M m1 m2];exact hQ H _ .refl hR 135⟩
  .exact .inr ⟨a,ns,rfl,q,Fd hn,λM m1 m2=>by rw[u M m1 m2];exact hQ H _ .refl hR 135⟩
def RQ:RG K false (Vh K) ED:=by
 intro ρ H hd a xs ds Q z hR q r e hQ;obtain⟨ns,e1,e⟩:=fJ e;split at e
 .cases e
 .next hn=>
  cases e;rw[C0 e1]at r;have:=Dc r;subst this;have u:∀M:Int,M∈ns->(∀x∈ns,M<=x)->M=CO ns:=λM m1 m2=>by
   obtain⟨n1,n2⟩:=Bs hn;have:=n2 M m1;have:=m2 _ n1;omega
  rcases q with q|⟨q,_⟩
  .exact⟨a,ns,rfl,q,Fd hn,λM m1 m2=>by rw[u M m1 m2];exact hQ H _ .refl hR 135⟩
  .cases q
noncomputable def D6:List D->Hd->Option 121
 |[.im (.int i),.im (.int j)],hd=>some (.im (.int (if j>i then j else i)),hd)
 |_,_=>none
noncomputable def GK:List D->Hd->Option 121
 |[.im (.int i),.im (.int j)],hd=>some (.im (.int (if j<i then j else i)),hd)
 |_,_=>none
def Wv:RF K (λxs H Q=>∃i j,xs=[.int i,.int j]/\Q (.int (if j>i then j else i)) H) D6:=by
 intro ρ H hd ds vs Q z hd' hR h1 hf hQ;unfold D6 at hf;split at hf
 .cases hf;simp only[RDs,RD,RI]at h1;obtain⟨x,r,rfl,rfl,y,r2,rfl,rfl,rfl⟩:=h1;exact⟨_,_,rfl,hQ ρ H _ .refl hR 135⟩
 .cases hf
def Wu:RF K (λxs H Q=>∃i j,xs=[.int i,.int j]/\Q (.int (if j<i then j else i)) H) GK:=by
 intro ρ H hd ds vs Q z hd' hR h1 hf hQ;unfold GK at hf;split at hf
 .cases hf;simp only[RDs,RD,RI]at h1;obtain⟨x,r,rfl,rfl,y,r2,rfl,rfl,rfl⟩:=h1;exact⟨_,_,rfl,hQ ρ H _ .refl hR 135⟩
 .cases hf
noncomputable def Gz(ml:MA):MA:=ml
def Tw{t:TE}{m:MA}(h:RN K t m):RN K (tCB (KN K) (BK t BQ)) (Gz m):=by
 and_intros;refine h ρ σ H hd ls _ d _ hR hL hm λρ1 H1 a xs x1 R1 na oa ea r1=>?_;refine⟨a,xs,rfl,.inl (SqL.of ea),λl hl=>?_⟩;obtain⟨R2,x2⟩:=R1.hid (ho:=.lst xs) hl;exact hQ ρ1 _ l xs 79 R2 (x1.none hR hl R1) (R1.out hl) AF (r1.ext R1 x2)
noncomputable def EM:I->Option V
 |.non=>some .non
 |.bl b=>some (.bl b)
 |.int i=>some 134
 |.str x=>some (.str x)
 |.tup _=>none
noncomputable def Bu:List D->Option (List V)
 |[]=>some []
 |.im i::r=>(EM i).bind λv=>(Bu r).map (v::·)
 |_::_=>none
def Im{i:I}{v w:V}(e:EM i=some w)(h:RI K H i v):v=w/\Dr w=true:=by
 cases i with
 |tup _=>simp[EM]at e
 |_=>simp only[EM,Option.some.injEq]at e;subst e;exact⟨by simpa only[RI]using h,rfl⟩
theorem HI:∀{ds:List D} {vs ws:List V},Bu ds=some ws->RDs K ρ H ds vs->vs=ws/\ws.all Dr=true
 |[],vs,ws,e,h=>by simp[Bu]at e;subst e;simp only[RDs]at h;subst h;exact⟨rfl,rfl⟩
 |.im i::r,vs,ws,e,h=>by
  simp only[Bu]at e;obtain⟨v,e1,e⟩:=fJ e;obtain⟨us,e2,rfl⟩:=fK e;simp only[RDs,RD]at h;obtain⟨x,y,rfl,h1,h2⟩:=h;obtain⟨rfl,f1⟩:=Im e1 h1;obtain⟨rfl,f2⟩:=HI e2 h2;exact⟨rfl,by simp[f1,f2]⟩
 |.mu _::_,_,_,e,_=>by simp[Bu]at e
 |.tm _::_,_,_,e,_=>by simp[Bu]at e
 |.ro _::_,_,_,e,_=>by simp[Bu]at e
 |.op _ _ _::_,_,_,e,_=>by simp[Bu]at e
 |.fv _ _::_,_,_,e,_=>by simp[Bu]at e
def gIn(neg:Bool):D->D->Hd->Option 121
 |.im i,e,hd=>(EM i).bind λx=>(An hd e).bind λds=>(Bu ds).map λxs=>(.im (.bl (if neg then !inV x xs else inV x xs)),hd)
 |_,_,_=>none
def PY{neg:Bool}:RB K (rIn K neg) (gIn neg):=by
 intro ρ H hd d e v u Q z hd' hR h1 h2 hf hQ;unfold gIn at hf;split at hf
 .obtain⟨x,e1,hf⟩:=fJ hf;obtain⟨ds,e2,hf⟩:=fJ hf;obtain⟨xs,e3,e4⟩:=fK hf;cases e4;simp only[RD]at h1;obtain⟨rfl,f1⟩:=Im e1 h1;obtain⟨a,ys,rfl,q,r⟩:=h2.seq hR e2;obtain⟨rfl,f2⟩:=HI e3 r;exact⟨a,ys,rfl,q,f1,f2,hQ ρ H _ .refl hR 135⟩
 .cases hf
noncomputable def mMt(f:D->List D->Hd->Option 121)(mo:ME)(ma:MA):ME:=λls hd=>(mo ls hd).bind λp=>match Ac p.2 p.1 with
 |some _=>(ma ls p.2).bind λq=>f p.1 q.1 q.2
 |none=>none
def RM(K:Frag)(r:V->List V->Hp->VK->Prop)(f:D->List D->Hd->Option 121):Prop:=∀(ρ:List Addr) (H:Hp) (hd:Hd) (d:D) (v:V) (ds:List D) (vs:List V) (Q:VK) (z:D) (hd':Hd),RH K ρ H hd->RD K ρ H d v->RDs K ρ H ds vs->f d ds hd=some (z,hd') ->
 (∀ρ' H' w,Ext ρ H ρ' H'->RH K ρ' H' hd'->RD K ρ' H' z w->Q w H')->r v vs H Q
def Vb{r:V->List V->Hp->VK->Prop}{f:D->List D->Hd->Option 121}{to:TE}{t:TA}{mo:ME}{ma:MA}(hr:RM K r f)(ho:RE K to mo)(ha:RA K t ma):RE K (tBM K "list" r to t) (mMt f mo ma):=by
 and_intros;obtain⟨⟨d1,h1⟩,e1,hm⟩:=fJ hm;dsimp only at hm;split at hm
 .next e=>
  obtain⟨⟨d2,h2⟩,e2,hm⟩:=fJ hm;refine ho ρ σ H hd ls _ d1 h1 hR hL e1 λρ1 H1 v x1 R1 r1=>⟨?_,?_⟩
  .obtain⟨a,xs,rfl,q,_⟩:=r1.lst R1 e;exact .inl ⟨rfl,xs,q⟩
  .exact ha ρ1 σ H1 h1 ls _ d2 h2 R1 122 e2 λρ2 H2 vs x2 R2 r2=>hr ρ2 H2 h2 d1 v d2 vs Q d hd' R2 (r1.ext R1 x2) r2 hm λρ' H' w x3 R3 r3=>hQ ρ' H' w ((79).trans R2 x3) R3 r3
 .cases hm
def ZI{r:V->List V->Hp->VK->Prop}{f:D->List D->Hd->Option 121}{to:TE}{mo:ME}(hr:RM K r f)(ho:RE K to mo):RE K (TY K "list" r to) (mMt f mo A3):=Vb (t:=BQ) hr ho Mz
open Classical in
noncomputable def Ad:D->List D->Hd->Option 121
 |.mu n,[x],hd=>match hd[n]? with
  |some (.lst ds)=>if DR 83 then some (.im .non,hd.set n (.lst (ds++[x])))else none
  |_=>none
 |_,_,_=>none
def RK:RM K OP Ad:=by
 intro ρ H hd d v ds vs Q z hd' hR h1 h2 hf hQ;unfold Ad at hf;split at hf
 .split at hf
  .next q=>
   split at hf
   .next c=>
    cases hf;simp only[RD]at h1;obtain⟨a,hn,rfl⟩:=h1;simp only[RDs]at h2;obtain⟨x,r,rfl,rx,rfl⟩:=h2;obtain⟨xs,e1,e2⟩:=hR.lst hn q;obtain⟨R2,x2⟩:=hR.put hn (o:=.lst (_++[_])) (ho:=.lst (xs++[x])) ⟨_,rfl,e2.app (.cons rx .nil)⟩;exact⟨a,xs,x,rfl,rfl,e1,by rw[e2.len];exact c,hQ ρ _ _ x2 R2 135⟩
   .cases hf
  .cases hf
 .cases hf
noncomputable def HK:D->List D->Hd->Option 121
 |.mu n,[],hd=>match hd[n]? with
  |some (.lst ds)=>(ds[83-1]?).map λy=>(y,hd.set n (.lst ds.dropLast))
  |_=>none
 |_,_,_=>none
theorem RDs.dropLast{ds:List D}{xs:List V}(h:RDs K ρ H ds xs):RDs K ρ H ds.dropLast xs.dropLast:=by
 rw[List.dropLast_eq_take,List.dropLast_eq_take,h.len];exact h.take _
def Z9:RM K ZT HK:=by
 intro ρ H hd d v ds vs Q z hd' hR h1 h2 hf hQ;unfold HK at hf;split at hf
 .split at hf
  .next q=>
   obtain⟨y,e0,e3⟩:=fK hf;cases e3;simp only[RD]at h1;obtain⟨a,hn,rfl⟩:=h1;simp only[RDs]at h2;subst h2;obtain⟨xs,e1,e2⟩:=hR.lst hn q;obtain⟨x,x1,x3⟩:=e2.get e0;obtain⟨R2,x2⟩:=hR.put hn (o:=.lst _) (ho:=.lst xs.dropLast) ⟨_,rfl,e2.dropLast⟩;exact⟨a,xs,x,rfl,rfl,e1,by rw[e2.len];exact x1,hQ ρ _ _ x2 R2 (x3.ext hR x2)⟩
  .cases hf
 .cases hf
end
end L2
namespace L2
open PySem PySem.Spec PyProof.Rows
section
variable{K:Frag}
noncomputable def Aa:MS:=λls hd=>some (.nx ls,hd)
def OH:RS K Lw Aa:=by
 intro ρ σ H hd ls E f hd' hR hL hm hQ;cases hm;exact hQ ρ H .refl hR σ hL
noncomputable def A5(a b:MS):MS:=λls hd=>(a ls hd).bind λp=>match p.1 with
 |.nx ls1=>b ls1 p.2
 |f=>some (f,p.2)
def Z0(ha:RS K t a)(hb:RS K u b):RS K (TK t u) (A5 a b):=by
 intro ρ σ H hd ls E f hd' hR hL hm hQ;obtain⟨⟨f1,h1⟩,e1,hm⟩:=fJ hm;refine ha ρ σ H hd ls { E with nx:=u E } f1 h1 hR hL e1 λρ1 H1 x1 R1=>?_;cases f1 with
 |nx ls1=>
  intro σ1 L1;exact hb ρ1 σ1 H1 h1 ls1 E f hd' R1 L1 hm λρ2 H2 x2 R2=>hQ ρ2 H2 79 R2
 |bk ls1=>cases hm;exact hQ ρ1 H1 x1 R1
 |ct ls1=>cases hm;exact hQ ρ1 H1 x1 R1
 |rt d=>cases hm;exact hQ ρ1 H1 x1 R1
noncomputable def Aq(m:ME):MS:=λls hd=>(m ls hd).bind λp=>some (.nx ls,p.2)
def Wk(h:RE K t m):RS K (P2 t) (Aq m):=by
 intro ρ σ H hd ls E f hd' hR hL hm hQ;obtain⟨⟨d1,h1⟩,e1,hm⟩:=fJ hm;cases hm;exact h ρ σ H hd ls _ d1 _ hR hL e1 λρ1 H1 v x1 R1 r1=>hQ ρ1 H1 x1 R1 σ 122
noncomputable def AN(m:ME):MS:=λls hd=>(m ls hd).bind λp=>some (.rt p.1,p.2)
def Z1(h:RE K t m):RS K (TL t) (AN m):=by
 intro ρ σ H hd ls E f hd' hR hL hm hQ;obtain⟨⟨d1,h1⟩,e1,hm⟩:=fJ hm;cases hm;exact h ρ σ H hd ls _ d1 _ hR hL e1 λρ1 H1 v x1 R1 r1=>hQ ρ1 H1 x1 R1 v r1
noncomputable def Ag(c:MT)(a b:MS):MS:=λls hd=>(c ls hd).bind λp=>if p.1=true then a ls p.2 else b ls p.2
def c8(hc:RT K tc c)(ha:RS K t a)(hb:RS K u b):RS K (TV tc t u) (Ag c a b):=by
 intro ρ σ H hd ls E f hd' hR hL hm hQ;obtain⟨⟨d1,h1⟩,e1,hm⟩:=fJ hm;refine hc ρ σ H hd ls _ d1 h1 hR hL e1 λρ1 H1 x1 R1=>?_;cases d1 with
 |true=>
  rw[fb rfl]at hm ⊢;exact ha ρ1 σ H1 h1 ls E f hd' R1 122 hm λρ2 H2 x2 R2=>hQ ρ2 H2 79 R2
 |false=>
  rw[fe Bool.false_ne_true]at hm ⊢;exact hb ρ1 σ H1 h1 ls E f hd' R1 122 hm λρ2 H2 x2 R2=>hQ ρ2 H2 79 R2
noncomputable def Gy:MS:=λ_ _=>none
def To:RS K MW Gy:=by
 intro ρ σ H hd ls E f hd' hR hL hm hQ;cases hm
noncomputable abbrev MG:=D->Ls->Hd->Option Ls
noncomputable abbrev MGs:=List D->Ls->Hd->Option Ls
def RGt(K:Frag)(t:TG)(m:MG):Prop:=∀(ρ:List Addr) (σ:St) (H:Hp) (hd:Hd) (ls ls':Ls) (d:D) (v:V) (Q:St->Hp->Prop),RH K ρ H hd->RL K ρ H ls σ->RD K ρ H d v->m d ls hd=some ls' ->
 (∀σ',RL K ρ H ls' σ'->Q σ' H)->t v σ H Q
def Nn(K:Frag)(t:TGs)(m:MGs):Prop:=∀(ρ:List Addr) (σ:St) (H:Hp) (hd:Hd) (ls ls':Ls) (d:List D) (v:List V) (Q:St->Hp->Prop),RH K ρ H hd->RL K ρ H ls σ->RDs K ρ H d v->m d ls hd=some ls' ->
 (∀σ',RL K ρ H ls' σ'->Q σ' H)->t v σ H Q
theorem RL.set(h:RL K ρ H ls σ)(i:Nat)(r:RD K ρ H d v):RL K ρ H (ls.set i (some d)) (σ.set i (some v)):=by
 refine⟨by simp[h.len],λj e q=>?_⟩;by_cases hij:i=j
 .subst hij;have hl:i<ls.length:=by
   have:=(73 q).1;simpa using this
  rw[List.getElem?_set_self hl]at q;cases q;exact⟨v,by rw[List.getElem?_set_self (by rw[<- h.len];exact hl)],r⟩
 .rw[List.getElem?_set_ne hij]at q;obtain⟨w,e1,e2⟩:=h.ob j e q;exact⟨w,by rw[List.getElem?_set_ne hij];exact e1,e2⟩
noncomputable def AC(i:Nat):MG:=λd ls _=>some (ls.set i (some d))
def KJ{i:Nat}:RGt K (Dq i) (AC i):=by
 intro ρ σ H hd ls ls' d v Q hR hL hd hm hQ;cases hm;exact hQ _ (hL.set i hd)
noncomputable def Bl:MGs:=λds ls _=>match ds with
 |[]=>some ls
 |_=>none
noncomputable def AZ(m:MG)(r:MGs):MGs:=λds ls hd=>match ds with
 |d::es=>(m d ls hd).bind λls1=>r es ls1 hd
 |[]=>none
def Ws:Nn K VA Bl:=by
 intro ρ σ H hd ls ls' d v Q hR hL hd hm hQ;cases d with
 |nil=>
  simp only[RDs]at hd;subst hd;cases hm;exact⟨rfl,hQ _ hL⟩
 |cons a b=>cases hm
def Tz(h:RGt K t m)(h':Nn K u r):Nn K (Q5 t u) (AZ m r):=by
 intro ρ σ H hd ls ls' d v Q hR hL hd hm hQ;cases d with
 |nil=>cases hm
 |cons a b=>
  simp only[RDs]at hd;obtain⟨x,y,rfl,h1,h2⟩:=hd;obtain⟨ls1,e1,e2⟩:=fJ hm;exact⟨x,y,rfl,h ρ σ H _ ls ls1 a x _ hR hL h1 e1 λσ1 L1=>h' ρ σ1 H _ ls1 ls' b y Q hR L1 h2 e2 hQ⟩
noncomputable def Bj(n:Nat)(r:MGs):MG:=λd ls hd=>(AV d).bind λds=>if 83=n then r ds ls hd else none
def ZC{n:Nat}(h':Nn K u r):RGt K (Q3 K n u) (Bj n r):=by
 intro ρ σ H hd ls ls' d v Q hR hL hd hm hQ;obtain⟨ds,e1,hm⟩:=fJ hm;split at hm
 .next c=>
  obtain⟨a,xs,rfl,q,rr⟩:=hd.tup e1;exact⟨a,xs,rfl,q,by rw[rr.len];exact c,h' ρ σ H _ ls ls' ds xs Q hR hL rr hm hQ⟩
 .cases hm
noncomputable def G8(m:ME)(g:MG):MS:=λls hd=>(m ls hd).bind λp=>(g p.1 ls p.2).map λls'=>(.nx ls',p.2)
def Mv(h:RE K t m)(hg:RGt K g n):RS K (Ec t g) (G8 m n):=by
 intro ρ σ H hd ls E f hd' hR hL hm hQ;obtain⟨⟨d1,h1⟩,e1,hm⟩:=fJ hm;obtain⟨ls',e2,e3⟩:=fK hm;cases e3;exact h ρ σ H hd ls _ d1 _ hR hL e1 λρ1 H1 v x1 R1 r1=>hg ρ1 σ H1 _ ls ls' d1 v _ R1 122 r1 e2 λσ' L'=>hQ ρ1 H1 x1 R1 σ' L'
noncomputable abbrev AE(i:Nat)(m:ME):MS:=G8 m (AC i)
noncomputable abbrev Gd:=List (Nat×List D)
noncomputable abbrev MI:=Ls->Hd->Option ((List D×Gd)×Hd)
def GOk(hd:Hd)(g:Gd):Prop:=∀p∈g,hd[p.1]?=some (.lst p.2)
@[simp] theorem AJ(hd:Hd):GOk hd []:=λp h=>by cases h
def Nj(K:Frag)(ρ:List Addr)(H:Hp)(J:It)(ds:List D)(g:Gd):Prop:=∀(ρ2:List Addr) (H2:Hp) (hd2:Hd),Ext ρ H ρ2 H2->RH K ρ2 H2 hd2->GOk hd2 g ->
 ∀i:Nat,(i<83->J.go i H2/\∀x H3,J.yld i H2 x H3->∃ρ3 d,Ext ρ2 H2 ρ3 H3/\ρ3=ρ2/\RH K ρ3 H3 hd2/\ds[i]?=some d/\RD K ρ3 H3 d x)/\(i=83->J.stop i H2)
def RIt(K:Frag)(t:TI)(m:MI):Prop:=∀(ρ:List Addr) (σ:St) (H:Hp) (hd:Hd) (ls:Ls) (Q:It->Hp->Prop) (d:List D) (g:Gd) (hd':Hd),RH K ρ H hd->RL K ρ H ls σ->m ls hd=some ((d,g),hd') ->
 (∀ρ' H' J,Ext ρ H ρ' H'->RH K ρ' H' hd'->GOk hd' g->Nj K ρ' H' J d g->Q J H')->t σ H Q
def Os(hR:RH K ρ H hd)(q:SqT K H a xs)(r:RDs K ρ H ds xs)(g:Gd):Nj K ρ H (Itt K a) ds g:=by
 intro ρ2 H2 hd2 x2 R2 _ i;have q2:=(x2.grow hR).sq q;have r2:=r.ext hR x2;have uniq:∀ys,SqT K H2 a ys->True:=λ_ _=>trivial;refine⟨λhi=>?_,λhi=>⟨xs,q2,by rw[r2.len,hi];exact fg _⟩⟩;have e:ds[i]?=some ds[i]:=by simp[hi]
 obtain⟨x,x1,x3⟩:=r2.get e;refine⟨⟨xs,x,q2,x1⟩,λy H3 ⟨e3,hy⟩=>?_⟩;subst e3;have:=hy xs q2;rw[x1]at this;cases this;exact⟨ρ2,_,.refl,rfl,R2,e,x3⟩
noncomputable def Au(m:ME):MI:=λls hd=>(m ls hd).bind λp=>(AV p.1).map λds=>((ds,[]),p.2)
def RO(h:RE K t m):RIt K (NH K t) (Au m):=by
 intro ρ σ H hd ls Q d g hd' hR hL hm hQ;obtain⟨⟨d1,h1⟩,e1,hm⟩:=fJ hm;obtain⟨ds,e2,e3⟩:=fK hm;cases e3;refine h ρ σ H hd ls _ d1 _ hR hL e1 λρ1 H1 v x1 R1 r1=>?_;obtain⟨a,xs,rfl,q,r⟩:=r1.tup e2;exact⟨a,rfl,⟨xs,q⟩,hQ ρ1 H1 _ x1 R1 (AJ _) (Os R1 q r [])⟩
noncomputable def BI(m:ME):MI:=λls hd=>(m ls hd).bind λp=>match p.1 with
 |.mu n=>match p.2[n]? with
  |some (.lst ds)=>some ((ds,[(n,ds)]),p.2)
  |_=>none
 |.ro ns=>some ((ns.map λn=>.im (.int n),[]),p.2)
 |_=>none
def OJ(h:RE K t m):RIt K (GF K t) (BI m):=by
 intro ρ σ H hd ls Q d g hd' hR hL hm hQ;obtain⟨⟨d1,h1⟩,e1,hm⟩:=fJ hm;dsimp only at hm;split at hm
 .next n=>
  split at hm
  .next ds q=>
   cases hm;refine h ρ σ H hd ls _ _ _ hR hL e1 λρ1 H1 v x1 R1 r1=>?_;simp only[RD]at r1;obtain⟨a,hn,rfl⟩:=r1;obtain⟨xs,e2,e3⟩:=R1.lst hn q;refine⟨a,rfl,⟨xs,SqL.of e2⟩,hQ ρ1 H1 _ x1 R1 (λp z=>by simp at z;subst z;exact q) ?_⟩;intro ρ2 H2 hd2 x2 R2 G2 i;have q2:=G2 (n,d) 70;have hn2:ρ2[n]?=some a:=by
    obtain⟨r,rfl,_⟩:=x2.pre;rw[List.getElem?_append_left (List.getElem?_eq_some_iff.mp hn).1];exact hn
   obtain⟨ys,e4,e5⟩:=R2.lst hn2 q2;refine⟨λhi=>?_,λhi=>⟨ys,SqL.of e4,by rw[e5.len,hi];exact fg _⟩⟩;have e:d[i]?=some d[i]:=by simp[hi]
   obtain⟨x,y1,y2⟩:=e5.get e;refine⟨⟨ys,x,SqL.of e4,y1⟩,λy H3 ⟨e6,hy⟩=>?_⟩;subst e6;have:=hy ys (SqL.of e4);rw[y1]at this;cases this;exact⟨ρ2,_,.refl,rfl,R2,e,y2⟩
  .cases hm
 .next ns=>
  cases hm;refine h ρ σ H hd ls _ _ _ hR hL e1 λρ1 H1 v x1 R1 r1=>?_;simp only[RD]at r1;obtain⟨a,rfl,q⟩:=r1;refine⟨a,rfl,⟨_,q.sq⟩,hQ ρ1 H1 _ x1 R1 (AJ _) ?_⟩;intro ρ2 H2 hd2 x2 R2 G2 i;have q2:=(q.grow (x2.grow R1)).sq;have e5:RDs K ρ2 H2 (ns.map λn=>.im (.int n)) (ns.map V.int):=Di;refine⟨λhi=>?_,λhi=>⟨_,q2,by rw[e5.len,hi];exact fg _⟩⟩;have e:(ns.map λn=>D.im (.int n))[i]?=some ((ns.map λn=>D.im (.int n))[i]):=by simp[hi]
  obtain⟨x,y1,y2⟩:=e5.get e;refine⟨⟨_,x,q2,y1⟩,λy H3 ⟨e6,hy⟩=>?_⟩;subst e6;have:=hy _ q2;rw[y1]at this;cases this;exact⟨ρ2,_,.refl,rfl,R2,e,y2⟩
 .cases hm
noncomputable def KU(ml:MA):MI:=λls hd=>(ml ls hd).map λp=>((p.1,[]),p.2)
def ZB(h:RN K t m):RIt K (GF K t) (KU m):=by
 intro ρ σ H hd ls Q d g hd' hR hL hm hQ;obtain⟨⟨d1,h1⟩,e1,e3⟩:=fK hm;obtain⟨⟨rfl,rfl⟩,rfl⟩:=Prod.mk.inj e3 |>.imp Prod.mk.inj id;clear e3 hm;refine h ρ σ H hd ls _ _ _ hR hL e1 λρ1 H1 a xs x1 R1 na oa ea r1=>?_;refine⟨a,rfl,⟨xs,SqL.of ea⟩,hQ ρ1 H1 _ x1 R1 (AJ _) ?_⟩;intro ρ2 H2 hd2 x2 R2 G2 i;have q2:SqL K H2 a xs:=SqL.of (x2.keep a _ ea oa nt);have r2:=r1.ext R1 x2;refine⟨λhi=>?_,λhi=>⟨xs,q2,by rw[r2.len,hi];exact fg _⟩⟩;have hi:i<d1.length:=hi;have e:d1[i]?=some d1[i]:=by simp[hi]
 obtain⟨x,y1,y2⟩:=r2.get e;refine⟨⟨xs,x,q2,y1⟩,λy H3 ⟨e6,hy⟩=>?_⟩;subst e6;have:=hy xs q2;rw[y1]at this;cases this;exact⟨ρ2,_,.refl,rfl,R2,e,y2⟩
noncomputable def Aw(lo:Int):Nat->List D
 |0=>[]
 |n+1=>.im (.int lo)::Aw (lo+1) n
@[simp] theorem JX(lo:Int)(n:Nat):(Aw lo n).length=n:=by
 induction n generalizing lo with
 |zero=>rfl
 |succ n ih=>simp[Aw,ih]
def JY{n:Nat}:∀{lo:Int} {i:Nat},i<n->(Aw lo n)[i]?=some (.im (.int (lo+i))):=by
 induction n with
 |zero=>intro lo i h;omega
 |succ n ih=>
  intro lo i h;cases i with
  |zero=>simp[Aw]
  |succ i=>
   simp only[Aw,List.getElem?_cons_succ];rw[ih 59]
   congr 3
   push_cast
   omega
def Ot{lo:Int}{n:Nat}:Nj K ρ H (Itr lo n) (Aw lo n) g:=by
 intro ρ2 H2 hd2 x2 R2 G2 i;refine⟨λhi=>?_,λhi=>by rw[hi,JX];exact fg _⟩;rw[JX]at hi;refine⟨hi,λx H3 ⟨e1,e2⟩=>?_⟩;subst e1 e2;exact⟨ρ2,_,.refl,rfl,R2,JY hi,by simp[RD,RI]⟩
open Classical in
noncomputable def DE(m:MA):MI:=λls hd=>(m ls hd).bind λp=>match p.1 with
 |[.im (.int j)]=>if Fz j then some ((Aw 0 j.toNat,[]),p.2)else none
 |_=>none
def Wq(h:RA K t m):RIt K (Pz t) (DE m):=by
 intro ρ σ H hd ls Q d g hd' hR hL hm hQ;obtain⟨⟨d1,h1⟩,e1,hm⟩:=fJ hm;dsimp only at hm;split at hm
 .next j=>
  split at hm
  .next c=>
   cases hm;refine h ρ σ H hd ls _ _ _ hR hL e1 λρ1 H1 v x1 R1 r1=>?_;simp only[RDs,RD,RI]at r1;obtain⟨x,r,rfl,rfl,rfl⟩:=r1;exact⟨j,rfl,c.1,c.2,hQ ρ1 H1 _ x1 R1 (AJ _) Ot⟩
  .cases hm
 .cases hm
open Classical in
noncomputable def BW(n:MG)(b:MS)(g:Gd):List D->Ls->Hd->Option (Fl×Hd)
 |[],ls,hd=>some (.nx ls,hd)
 |d::r,ls,hd=>(n d ls hd).bind λls1=>(b ls1 hd).bind λp=>match p.1 with
  |.nx ls2=>if GOk p.2 g then BW n b g r ls2 p.2 else none
  |.ct ls2=>if GOk p.2 g then BW n b g r ls2 p.2 else none
  |.bk ls2=>some (.nx ls2,p.2)
  |.rt d=>some (.rt d,p.2)
noncomputable def BA(mi:MI)(n:MG)(b:MS):MS:=λls hd=>(mi ls hd).bind λp=>BW n b p.1.2 p.1.1 ls p.2
def Z2(hi:RIt K wi mi)(hg:RGt K g n)(hb:RS K tb b):RS K (TW wi g tb) (BA mi n b):=by
 intro ρ σ H hd ls E f hd' hR hL hm hQ;obtain⟨⟨⟨ds,gd⟩,h1⟩,e1,hm⟩:=fJ hm;refine hi ρ σ H hd ls _ ds gd h1 hR hL e1 λρ1 H1 J x1 R1 G1 Y=>?_;dsimp only at hm;refine⟨λi m σ2 H2=>m=83-i/\i<=83/\∃ρ2 ls2 hd2,Ext ρ1 H1 ρ2 H2/\RH K ρ2 H2 hd2/\RL K ρ2 H2 ls2 σ2/\GOk hd2 gd/\BW n b gd (ds.drop i) ls2 hd2=some (f,hd'),
  ⟨83,by simp,gn _,ρ1,ls,h1,.refl,R1,hL.ext hR x1,G1,by simpa using hm⟩,?_⟩
 rintro i m σ2 H2 ⟨rfl,hi,ρ2,ls2,hd2,x2,R2,L2',G2,hm2⟩;obtain⟨Y1,Y2⟩:=Y ρ2 H2 hd2 x2 R2 G2 i;by_cases hlt:i<83
 .obtain⟨go,Y1⟩:=Y1 hlt;have ed:ds.drop i=ds[i]::ds.drop (i+1):=gX hlt;rw[ed]at hm2;unfold BW at hm2;obtain⟨ls3,e3,hm2⟩:=fJ hm2;obtain⟨⟨fl,hd4⟩,e4,hm2⟩:=fJ hm2;refine .inr ⟨go,λσ' H'=>∃ρ2 ls2 hd2,Ext ρ1 H1 ρ2 H'/\RH K ρ2 H' hd2/\RL K ρ2 H' ls2 σ'/\GOk hd2 gd/\BW n b gd (ds.drop (i+1)) ls2 hd2=some (f,hd'),λσ' H' z=>⟨83-(i+1),by omega,rfl,hlt,z⟩,λx H3 y=>?_⟩;obtain⟨ρ3,d3,x3,rfl,R3,e5,r3⟩:=Y1 x H3 y;have e6:d3=ds[i]:=by
   have:ds[i]?=some ds[i]:=by simp[hlt]
   rw[this]at e5;exact(86 e5).symm
  subst e6;refine hg ρ3 σ2 H3 hd2 ls2 ls3 _ x _ R3 (L2'.ext R2 x3) r3 e3 λσ4 L4=>?_;refine hb ρ3 σ4 H3 hd2 ls3 _ fl hd4 R3 L4 e4 λρ5 H5 x5 R5=>?_;have x15:=(x2.trans R2 x3).trans R3 x5;cases fl with
  |nx ls5=>
   intro σ5 L5;dsimp only at hm2;split at hm2
   .next c=>exact⟨ρ5,ls5,hd4,x15,R5,L5,c,hm2⟩
   .cases hm2
  |ct ls5=>
   intro σ5 L5;dsimp only at hm2;split at hm2
   .next c=>exact⟨ρ5,ls5,hd4,x15,R5,L5,c,hm2⟩
   .cases hm2
  |bk ls5=>
   intro σ5 L5;cases hm2;exact hQ ρ5 H5 (x1.trans R1 x15) R5 σ5 L5
  |rt d5=>
   intro v5 r5;cases hm2;exact hQ ρ5 H5 (x1.trans R1 x15) R5 v5 r5
 .have e:i=ds.length:=by omega
  subst e;rw[List.drop_length]at hm2;unfold BW at hm2;cases hm2;exact .inl ⟨Y2 rfl,hQ ρ2 H2 79 R2 σ2 L2'⟩
open Classical in
noncomputable def B5(n:MG)(c:MT)(m:ME)(g:Gd):List D->Ls->Hd->Option (List D×Hd)
 |[],_,hd=>some ([],hd)
 |d::r,ls,hd=>(n d ls hd).bind λls1=>(c ls1 hd).bind λp=>if p.1=true then(m ls1 p.2).bind λq=>if GOk q.2 g then(B5 n c m g r ls1 q.2).map λz=>(q.1::z.1,z.2)else none else if GOk p.2 g then B5 n c m g r ls1 p.2 else none
noncomputable def Dv(k:Nat)(ix:List Nat)(ls:Ls):Ls:=104 k none++ix.map λi=>(ls[i]?).join
open Classical in
noncomputable def Af(k:Nat)(ix:List Nat)(mi:MI)(n:MG)(c:MT)(m:ME):MA:=λls hd=>(mi ls hd).bind λp=>if BY p.1.1.length then B5 n c m p.1.2 p.1.1 (Dv k ix ls) p.2 else none
def On{k:Nat}(h:RL K ρ H ls σ):RL K ρ H (Dv k ix ls) (GS k ix σ):=by
 refine⟨by simp[Dv,GS],λi d e=>?_⟩;unfold Dv at e;unfold GS;by_cases hi:i<k
 .rw[List.getElem?_append_left (by simpa using hi),List.getElem?_replicate]at e;split at e<;>cases e
 .have hi':k<=i:=not_lt.mp hi;rw[List.getElem?_append_right (by simpa using hi'),List.length_replicate,List.getElem?_map]at e ⊢;cases q:ix[i-k]? with
  |none=>rw[q]at e;cases e
  |some j=>
   rw[q]at e;simp only[fR,Option.some.injEq]at e ⊢;have e5:ls[j]?=some (some d):=by
    cases w:ls[j]? with
    |none=>rw[w]at e;cases e
    |some z=>rw[w]at e;simpa using e
   obtain⟨v,e6,e7⟩:=h.ob j d e5;exact⟨v,by rw[e6];rfl,e7⟩
def OI{k:Nat}(hi:RIt K wi mi)(hg:RGt K g n)(hf:RT K tf c)(he:RE K te m):RN K (Fv k ix wi g tf te) (Af k ix mi n c m):=by
 intro ρ σ H hd ls Q out hd' hR hL hm hQ;obtain⟨⟨⟨ds,gd⟩,h1⟩,e1,hm⟩:=fJ hm;dsimp only at hm;split at hm
 .next hlen=>
  have hlen:83<=sizeLine:=hlen;refine hi ρ σ H hd ls _ ds gd h1 hR hL e1 λρ1 H1 J x1 R1 G1 Y=>?_;intro Da hDa;obtain⟨R1',x1'⟩:=R1.hid (ho:=.lst []) hDa;have oD:Da∉ρ1:=R1.out hDa;have nD:H Da=none:=x1.none hR hDa R1;refine⟨λi mm σ2 ys H2=>mm=83-i/\i<=83/\∃ρ2 ls2 hd2 es rest,Ext ρ1 (upd H1 Da (.lst ys)) ρ2 H2/\Ext ρ1 H1 ρ2 H2/\Da∉ρ2/\H2 Da=some (.lst ys)/\RH K ρ2 H2 hd2/\RL K ρ2 H2 ls2 σ2/\RDs K ρ2 H2 es ys/\es.length<=i/\GOk hd2 gd/\B5 n c m gd (ds.drop i) ls2 hd2=some (rest,hd')/\out=es++rest,
   ⟨83,by simp,gn _,ρ1,_,h1,[],out,.refl,x1',oD,AF,R1',(On ((122).ext R1 x1')),.nil,fg _,G1,by simpa using hm,rfl⟩,?_⟩
  rintro i mm σ2 ys H2 ⟨rfl,hi,ρ2,ls2,hd2,es,rest,x2',x2,oD2,hD2,R2,L2',r2,hle,G2,hm2,rfl⟩;refine⟨hD2,?_⟩;obtain⟨Y1,Y2⟩:=Y ρ2 H2 hd2 x2 R2 G2 i;by_cases hlt:i<83
  .obtain⟨go,Y1⟩:=Y1 hlt;have ed:ds.drop i=ds[i]::ds.drop (i+1):=gX hlt;rw[ed]at hm2;unfold B5 at hm2;obtain⟨ls3,e3,hm2⟩:=fJ hm2;obtain⟨⟨bb,hd4⟩,e4,hm2⟩:=fJ hm2;refine .inr ⟨go,Nat.lt_of_le_of_lt (by rw[r2.len];exact hle) 59,λσ' ys' H'=>∃ρ2 ls2 hd2 es' rest',Ext ρ1 (upd H1 Da (.lst ys')) ρ2 H'/\Ext ρ1 H1 ρ2 H'/\Da∉ρ2/\H' Da=some (.lst ys')/\RH K ρ2 H' hd2/\RL K ρ2 H' ls2 σ'/\RDs K ρ2 H' es' ys'/\es'.length<=i+1/\GOk hd2 gd/\B5 n c m gd (ds.drop (i+1)) ls2 hd2=some (rest',hd')/\es++rest=es'++rest',λσ' ys' H' z=>⟨83-(i+1),by omega,rfl,hlt,z⟩,λx H3 y=>?_⟩;obtain⟨ρ3,d3,x3,rfl,R3,e5,r3⟩:=Y1 x H3 y;have e6:d3=ds[i]:=by
    have:ds[i]?=some ds[i]:=by simp[hlt]
    rw[this]at e5;exact(86 e5).symm
   subst e6;refine hg ρ3 σ2 H3 hd2 ls2 ls3 _ x _ R3 (L2'.ext R2 x3) r3 e3 λσ4 L4=>?_;refine hf ρ3 σ4 H3 hd2 ls3 _ bb hd4 R3 L4 e4 λρ5 H5 x5 R5=>?_;have hD5:H5 Da=some (.lst ys):=x5.keep Da _ (x3.keep Da _ hD2 oD2 nt) oD2 nt;have out5:Da∉ρ5:=by
    obtain⟨r,rfl,fr⟩:=x5.pre;intro z;rcases mem_append.mp z with z|z
    .exact oD2 z
    .have:=fr _ z;rw[x3.keep Da _ hD2 oD2 nt]at this;cases this
   cases bb with
   |false=>
    rw[fe Bool.false_ne_true]at hm2 ⊢;have y25:=x3.trans R3 x5;split at hm2
    .next g5=>exact⟨ρ5,ls3,hd4,es,rest,x2'.trans R2 y25,(x2.trans R2 y25),out5,hD5,R5,L4.ext R3 x5,(r2.ext R2 y25),by omega,g5,hm2,rfl⟩
    .cases hm2
   |true=>
    rw[fb rfl]at hm2 ⊢;obtain⟨⟨z,hd6⟩,e6,hm2⟩:=fJ hm2;obtain⟨g6,hm2⟩:GOk hd6 gd/\((B5 n c m gd (ds.drop (i+1)) ls3 hd6).map λq=>(z::q.1,q.2))=some (rest,hd'):=by
     dsimp only at hm2;split at hm2
     .next g6=>exact⟨g6,hm2⟩
     .cases hm2
    obtain⟨⟨zs,hd7⟩,e7,e8⟩:=fK hm2;cases e8;refine he ρ5 σ4 H5 hd4 ls3 _ z hd6 R5 (L4.ext R3 x5) e6 λρ6 H6 v6 x6 R6 r6=>?_;have hD6:H6 Da=some (.lst ys):=x6.keep Da _ hD5 out5 nt;have out6:Da∉ρ6:=by
     obtain⟨r,rfl,fr⟩:=x6.pre;intro z;rcases mem_append.mp z with z|z
     .exact out5 z
     .have:=fr _ z;rw[hD5]at this;cases this
    refine⟨hD6,?_⟩;have y26:=(x3.trans R3 x5).trans R5 x6;have gr:Grow H6 (upd H6 Da (.lst (ys++[v6]))):=Grow.refl.put (.lst hD6);have R7:=R6.hput (ho:=.lst (ys++[v6])) out6 hD6;have x12:=x2.trans R2 y26;have ext7:Ext ρ1 H1 ρ6 (upd H6 Da (.lst (ys++[v6]))):=⟨x12.pre,λb o q nb t=>by
     have:b≠Da:=AH q hDa;rw[upd_ne this];exact x12.keep b o q nb t,λb ps q=>by
     have:b≠Da:=AH q hDa;rw[upd_ne this];exact x12.tab b ps q⟩
    have ext8:Ext ρ1 (upd H1 Da (.lst (ys++[v6]))) ρ6 (upd H6 Da (.lst (ys++[v6]))):=by
     obtain⟨r,er,fr⟩:=x12.pre;refine⟨⟨r,er,λb hb=>?_⟩,λb o q nb t=>?_,λb ps q=>?_⟩
     .have:b≠Da:=λz=>out6 (by rw[er,<- z];exact fm _ hb);rw[upd_ne this];exact fr b hb
     .by_cases hb:b=Da
      .subst hb;rw[AF]at q ⊢;exact q
      .rw[upd_ne hb]at q ⊢;exact x12.keep b o q nb t
     .by_cases hb:b=Da
      .subst hb;rw[AF]at q;cases q
      .rw[upd_ne hb]at q ⊢;exact x12.tab b ps q
    refine⟨ρ6,ls3,hd6,es++[z],zs,ext8,ext7,out6,AF,R7,?_,?_,by simp;omega,g6,e7,by simp⟩
    .have L6:=(L4.ext R3 x5).ext R5 x6;exact⟨L6.len,λi d e=>let ⟨v,a,b⟩:=L6.ob i d e;⟨v,a,by simpa using b.mono gr []⟩⟩
    .have:=((r2.ext R2 y26).app (.cons r6 .nil)).mono gr [];simpa using this
  .have e:i=ds.length:=by omega
   subst e;rw[List.drop_length]at hm2;unfold B5 at hm2;cases hm2;refine .inl ⟨Y2 rfl,?_⟩;exact hQ ρ2 H2 Da ys 79 R2 nD oD2 hD2 (by simpa using r2)
 .cases hm
end
mutual
noncomputable def clD(w:Nat):D->Bool
 |.im _=>true
 |.mu n=>decide (n<w)
 |.tm ds=>Ak w ds
 |.ro _=>true
 |.op _ _ ds=>Ak w ds
 |.fv _ ds=>Ak w ds
noncomputable def Ak(w:Nat):List D->Bool
 |[]=>true
 |d::ds=>clD w d&&Ak w ds
end
noncomputable def GR(w:Nat):List (Key×D)->Bool
 |[]=>true
 |d::ds=>clD w d.2&&GR w ds
noncomputable def clO(w:Nat):MO->Bool
 |.lst ds=>Ak w ds
 |.dic ds=>GR w ds
section
variable{K:Frag}
@[simp] theorem dZ{w:Nat}(a b:List D):Ak w (a++b)=(Ak w a&&Ak w b):=by induction a<;>simp_all [Ak,Bool.and_assoc]
mutual
theorem RD.take(w:Nat):∀{d:D} {v:V},RD K ρ H d v->clD w d=true->RD K (ρ.take w) H d v
 |.im i,v,h,_=>by simp only[RD]at h ⊢;exact h
 |.mu n,v,h,c=>by
  simp only[RD]at h ⊢;obtain⟨a,e,q⟩:=h;exact⟨a,by rw[List.getElem?_take_of_lt (by simpa [clD]using c)];exact e,q⟩
 |.tm ds,v,h,c=>by
  simp only[RD]at h ⊢;obtain⟨a,xs,e,q,z⟩:=h;exact⟨a,xs,e,q,RDs.take' w z (by simpa [clD]using c)⟩
 |.ro ns,v,h,c=>by simp only[RD]at h ⊢;exact h
 |.op nm fs ds,v,h,c=>by
  simp only[RD]at h ⊢;obtain⟨a,xs,e,q,z⟩:=h;exact⟨a,xs,e,q,RDs.take' w z (by simpa [clD]using c)⟩
 |.fv k ds,v,h,c=>by
  simp only[RD]at h ⊢;obtain⟨a,xs,e,q,z⟩:=h;exact⟨a,xs,e,q,RDs.take' w z (by simpa [clD]using c)⟩
theorem RDs.take'(w:Nat):∀{d:List D} {v:List V},RDs K ρ H d v->Ak w d=true->RDs K (ρ.take w) H d v
 |[],v,h,_=>by simpa only[RDs]using h
 |d::ds,v,h,c=>by
  simp only[RDs]at h ⊢;obtain⟨x,r',e,q,z⟩:=h;have c:clD w d=true/\Ak w ds=true:=by simpa [Ak]using c
  exact⟨x,r',e,q.take w c.1,RDs.take' w z c.2⟩
end
theorem RKs.take(w:Nat):∀{d:List (Key×D)} {v:List (Key×V)},RKs K ρ H d v->GR w d=true->RKs K (ρ.take w) H d v
 |[],v,h,_=>by simpa only[RKs]using h
 |d::ds,v,h,c=>by
  simp only[RKs]at h ⊢;obtain⟨x,r',e,q1,q,z⟩:=h;have c:clD w d.2=true/\GR w ds=true:=by simpa [GR]using c
  exact⟨x,r',e,q1,q.take w c.1,RKs.take w z c.2⟩
theorem RC.take(w:Nat)(h:RC K ρ H o ho)(c:clO w o=true):RC K (ρ.take w) H o ho:=by
 cases o with
 |lst ds=>obtain⟨xs,e,q⟩:=h;exact⟨xs,e,q.take' w c⟩
 |dic ds=>obtain⟨xs,e,q⟩:=h;exact⟨xs,e,q.take w c⟩
theorem RH.take(h:RH K ρ H hd)(w:Nat)(c:(hd.take w).all (clO w)=true):RH K (ρ.take w) H (hd.take w):=by
 refine⟨by simp[h.len],h.nd.sublist (List.take_sublist _ _),h.tabs,λn o a e1 e2=>?_⟩;have co:=all_eq_true.mp c o (fQ e1);have hn:n<w:=by
  have:=(73 e1).1;simp at this;omega
 rw[List.getElem?_take_of_lt hn]at e1 e2;obtain⟨ho,q1,q2⟩:=h.ob n o a e1 e2;exact⟨ho,q1,q2.take w co⟩
def RH.back(R1:RH K ρ1 H1 h1){w:Nat}(hw:w<=h1.length)(c1:(h1.take w).all (clO w)=true)(x:Ext (ρ1.take w) H1 ρ' H')(R':RH K ρ' H' h2)(c:(h2.take w).all (clO w)=true):
 RH K ρ1 H' (h2.take w++h1.drop w)/\Ext ρ1 H1 ρ1 H'/\ρ'.take w=ρ1.take w:=by
 obtain⟨r,rfl,fr⟩:=x.pre;have lw:(ρ1.take w).length=w:=by rw[gP,R1.len];omega
 have l2:w<=h2.length:=by rw[<- R'.len];simp[lw]
 have tk:(ρ1.take w++r).take w=ρ1.take w:=by rw[List.take_append_of_le_length 59,List.take_take];simp
 refine⟨⟨?_,R1.nd,R'.tabs,λn o a e1 e2=>?_⟩,⟨⟨[],by simp,by simp⟩,λb o q nb t=>x.keep b o q (λm=>nb (List.mem_of_mem_take m)) t,x.tab⟩,tk⟩
 .rw[fV,gP,List.length_drop,R1.len];omega
 .by_cases hn:n<w
  .rw[List.getElem?_append_left (by rw[gP];omega),List.getElem?_take_of_lt hn]at e1;have e3:(ρ1.take w++r)[n]?=some a:=by
    rw[List.getElem?_append_left 59,List.getElem?_take_of_lt hn];exact e2
   obtain⟨ho,q1,q2⟩:=R'.ob n o a e1 e3;have co:=all_eq_true.mp c o (by
    have:(h2.take w)[n]?=some o:=by rw[List.getElem?_take_of_lt hn];exact e1
    exact fQ this)
   have q3:=q2.take w co;rw[tk]at q3;have q4:=q3.mono (Grow.refl (H:=H')) (ρ1.drop w);rw[List.take_append_drop]at q4;exact⟨ho,q1,q4⟩
  .rw[List.getElem?_append_right (by rw[gP];omega),gP,List.getElem?_drop]at e1;have e1:h1[n]?=some o:=by
    have:w+(n-min w h2.length)=n:=by omega
    rw[this]at e1;exact e1
   obtain⟨ho,q1,q2⟩:=R1.ob n o a e1 e2;have out:a∉ρ1.take w:=λm=>by
    obtain⟨k,hk⟩:=mem_iff_getElem?.mp m;have kw:k<w:=by
     have:=(73 hk).1;rw[lw]at this;exact this
    rw[List.getElem?_take_of_lt kw]at hk;have:=(List.getElem?_inj (73 e2).1 R1.nd).mp (e2.trans hk.symm);omega
   have gr:=x.grow (R1.take w c1);exact⟨ho,x.keep a ho q1 out (λps z=>by rcases R1.mut (fQ e2)with⟨y,w⟩|⟨y,w⟩<;>(rw[q1,z]at w;cases w)),by simpa using q2.mono gr []⟩
noncomputable def spF(K:Frag)(k:Nat)(F:List D->Hd->Option 121):Sp:=λvs H Q _=>98=k/\∃(ρ:List Addr) (hd:Hd) (ds:List D) (d:D) (hd':Hd),RH K ρ H hd/\RDs K ρ H ds vs/\F ds hd=some (d,hd')/\
 ∀ρ' H' v,Ext ρ H ρ' H'->RH K ρ' H' hd'->RD K ρ' H' d v->Q v H'
noncomputable def mkF(k n:Nat)(m:MS):List D->Hd->Option 121:=λds hd=>if 83=k then(match m (ds.map some++104 (n-k) none) hd with
 |some (.rt d,hd')=>some (d,hd')
 |some (.nx _,hd')=>some (.im .non,hd')
 | _=>none)else none
def Mw{N:List Str}:∀{ds:List D} {vs:List V},RDs K ρ H ds vs->RL K ρ H (ds.map some++104 (N.length-83) none) (start N vs):=by
 intro ds vs r;have hl:=r.len;refine⟨by simp[start,hl],λi d e=>?_⟩;unfold start;by_cases hi:i<83
 .rw[List.getElem?_append_left (by simpa using hi),List.getElem?_map]at e;have e':ds[i]?=some d:=by
   cases q:ds[i]? with
   |none=>rw[q]at e;cases e
   |some z=>rw[q]at e;simpa using e
  obtain⟨x,x1,x2⟩:=r.get e';exact⟨x,by rw[List.getElem?_append_left (by rw[fN,hl];exact hi),List.getElem?_map,x1];rfl,x2⟩
 .rw[List.getElem?_append_right (by simpa using not_lt.mp hi),List.getElem?_replicate]at e;split at e<;>cases e
def OB{k:Nat}{N:List Str}(h:RS K t m)(s:spF K k (mkF k N.length m) vs H Q E):t { nx:=λ_ H'=>Q .non H',rt:=Q } (start N vs) H:=by
 obtain⟨hk,ρ,hd,ds,d,hd',hR,hr,hF,hQ⟩:=s;unfold mkF at hF;split at hF
 .next hl=>
  subst hl;split at hF
  .next q=>
   cases hF;exact h ρ _ H hd _ _ _ _ hR (Mw hr) q λρ' H' x R v r=>hQ ρ' H' v x R r
  .next q=>
   cases hF;exact h ρ _ H hd _ _ _ _ hR (Mw hr) q λρ' H' x R σ L=>hQ ρ' H' .non x R 135
  .cases hF
 .cases hF
noncomputable def Ba(F:List D->Hd->Option 121)(ma:MA):ME:=λls hd=>(ma ls hd).bind λp=>F p.1 p.2
def U6{k:Nat}{F:List D->Hd->Option 121}(h:RA K t m)(hk:∀ds hd z,F ds hd=some z->83=k):RE K (C9 (spF K k F) [] E0 t) (Ba F m):=by
 and_intros;obtain⟨⟨d1,h1⟩,e1,hm⟩:=fJ hm;refine h ρ σ H hd ls _ d1 h1 hR hL e1 λρ1 H1 v1 x1 R1 r1=>?_;rw[fY];exact⟨by rw[r1.len];exact hk _ _ _ hm,ρ1,h1,d1,d,hd',R1,r1,hm,λρ' H' w x2 R2 r2=>hQ ρ' H' w 79 R2 r2⟩
def OW{k n:Nat}:∀ds hd z,mkF k n m ds hd=some z->83=k:=λds hd z h=>by
 unfold mkF at h;split at h
 .next e=>exact e
 .cases h
def fin(w:Nat)(d:D)(h2 rest:Hd):Option 121:=if(h2.take w).all (clO w)=true then(match d with
 | .mu k=>if k<w then some (.mu k,h2.take w++rest)else(match h2[k]? with
  |some (.lst ds)=>if Ak w ds=true then some (.mu (w+rest.length),h2.take w++rest++[.lst ds])else none
  | _=>none)
 | d=>if clD w d=true then some (d,h2.take w++rest)else none)else none
noncomputable def A9(w:Nat)(F:List D->Hd->Option 121)(ma:MA):ME:=λls hd=>(ma ls hd).bind λp=>
 if w<=p.2.length/\Ak w p.1=true/\(p.2.take w).all (clO w)=true then(F p.1 (p.2.take w)).bind λr=>fin w r.1 r.2 (p.2.drop w)else none
def My{w k:Nat}{F:List D->Hd->Option 121}(h:RA K t m)(hk:∀ds hd z,F ds hd=some z->83=k):RE K (C9 (spF K k F) [] E0 t) (A9 w F m):=by
 and_intros;obtain⟨⟨d1,h1⟩,e1,hm⟩:=fJ hm;dsimp only at hm;split at hm
 .next c=>
  obtain⟨c0,c1,c2⟩:=c;obtain⟨⟨d2,h2⟩,e2,hm⟩:=fJ hm;refine h ρ σ H hd ls _ d1 h1 hR hL e1 λρ1 H1 v1 x1 R1 r1=>?_;rw[fY];refine⟨by rw[r1.len];exact hk _ _ _ e2,ρ1.take w,h1.take w,d1,d2,h2,R1.take w c2,r1.take' w c1,e2,λρ' H' v x2 R2 r2=>?_⟩;unfold fin at hm;dsimp only at hm;split at hm
  .next c3=>
   obtain⟨R3,x3,tk⟩:=R1.back c0 c2 x2 R2 c3;have up:∀{d:D} {v:V},RD K ρ' H' d v->clD w d=true->RD K ρ1 H' d v:=λr c=>by
    have q:=r.take w c;rw[tk]at q;have q:=q.mono (Grow.refl (H:=H')) (ρ1.drop w);rw[List.take_append_drop]at q;exact q
   have ups:∀{d:List D} {v:List V},RDs K ρ' H' d v->Ak w d=true->RDs K ρ1 H' d v:=λr c=>by
    have q:=r.take' w c;rw[tk]at q;have q:=q.mono (Grow.refl (H:=H')) (ρ1.drop w);rw[List.take_append_drop]at q;exact q
   split at hm
   .next k'=>
    split at hm
    .next hk'=>
     cases hm;exact hQ ρ1 H' v (x1.trans R1 x3) R3 (up r2 (by simpa [clD]using hk'))
    .next hk'=>
     split at hm
     .next ds q=>
      split at hm
      .next c4=>
       cases hm;simp only[RD]at r2;obtain⟨a,ea,rfl⟩:=r2;obtain⟨xs,l1,l2⟩:=R2.lst ea q;have len3:=R3.len;have out:a∉ρ1:=λm=>by
        -- a is one of those made behind the first w
        obtain⟨r,er,fr⟩:=x2.pre;have lw:(ρ1.take w).length=w:=by rw[gP,R1.len];omega
        have ma:a∈r:=by
         rw[er,List.getElem?_append_right (by rw[lw];omega)]at ea;exact fQ ea
        exact R1.out (fr a ma) m
       have na:H1 a=none:=by
        obtain⟨r,er,fr⟩:=x2.pre;have lw:(ρ1.take w).length=w:=by rw[gP,R1.len];omega
        have ma:a∈r:=by
         rw[er,List.getElem?_append_right (by rw[lw];omega)]at ea;exact fQ ea
        exact fr a ma
       refine hQ (ρ1++[a]) H' _ (x1.trans R1 (x3.name na)) (R3.name out l1 (ups l2 c4)) ?_;simp only[RD];refine⟨a,?_,rfl⟩;have:w+(List.drop w h1).length=ρ1.length:=by rw[List.length_drop,R1.len];omega
       rw[this];simp
      .cases hm
     .cases hm
   .next d' nd=>
    split at hm
    .next c4=>cases hm;exact hQ ρ1 H' v (x1.trans R1 x3) R3 (up r2 c4)
    .cases hm
  .cases hm
 .cases hm
noncomputable def B3(c:MT)(b:MS):Nat->Ls->Hd->Option (Fl×Hd)
 |0,_,_=>none
 | k+1,ls,hd=>(c ls hd).bind λp=>if p.1=true then(b ls p.2).bind λq=>(match q.1 with
  |.nx ls2=>B3 c b k ls2 q.2
  |.ct ls2=>B3 c b k ls2 q.2
  |.bk ls2=>some (.nx ls2,q.2)
  | .rt d=>some (.rt d,q.2))else some (.nx ls,p.2)
open Classical in
noncomputable def Ch(c:MT)(b:MS):MS:=λls hd=>if h:∃r k,B3 c b k ls hd=some r then some h.choose else none
theorem Dk:∀{k j:Nat} {ls:Ls} {hd:Hd} {r:Fl×Hd},B3 c b k ls hd=some r->k<=j->B3 c b j ls hd=some r
 |0,_,_,_,_,h,_=>by cases h
 |k+1,0,_,_,_,_,hj=>by omega
 |k+1,j+1,ls,hd,r,h,hj=>by
  unfold B3 at h ⊢;obtain⟨p,e1,h⟩:=fJ h;rw[e1];show(if p.1=true then _ else _)=_;split at h
  .next c=>
   rw[fb c];obtain⟨q,e2,h⟩:=fJ h;rw[e2];obtain⟨f,hd2⟩:=q;cases f with
   |nx ls2=>exact Dk h 59
   |ct ls2=>exact Dk h 59
   |bk ls2=>exact h
   |rt d=>exact h
  .next c=>rw[fe c];exact h
def LI{k:Nat}(h:B3 c b k ls hd=some r):Ch c b ls hd=some r:=by
 unfold Ch;have ex:∃r k,B3 c b k ls hd=some r:=⟨r,k,h⟩
 rw[dif_pos ex];obtain⟨j,e⟩:=ex.choose_spec;have e1:=Dk e (Nat.le_max_left j k);have e2:=Dk h (Nat.le_max_right j k);rw[e1]at e2;exact e2
def Tl(hc:RT K tc c)(hb:RS K tb b):RS K (MV tc tb) (Ch c b):=by
 intro ρ σ H hd ls E f hd' hR hL hm hQ;obtain⟨k,hk⟩:∃k,B3 c b k ls hd=some (f,hd'):=by
  unfold Ch at hm;split at hm
  .next ex=>
   obtain⟨j,e⟩:=ex.choose_spec;exact⟨j,by rw[e];exact hm⟩
  .cases hm
 refine⟨λm σ2 H2=>∃ρ2 ls2 hd2,Ext ρ H ρ2 H2/\RH K ρ2 H2 hd2/\RL K ρ2 H2 ls2 σ2/\B3 c b m ls2 hd2=some (f,hd'),⟨k,ρ,ls,hd,.refl,hR,hL,hk⟩,?_⟩;rintro m σ2 H2 ⟨ρ2,ls2,hd2,x2,R2,L2',hm2⟩;cases m with
 |zero=>cases hm2
 |succ m=>
  unfold B3 at hm2;obtain⟨⟨bb,hd3⟩,e1,hm2⟩:=fJ hm2;refine hc ρ2 σ2 H2 hd2 ls2 _ bb hd3 R2 L2' e1 λρ3 H3 x3 R3=>?_;cases bb with
  |false=>
   rw[fe Bool.false_ne_true]at hm2 ⊢;cases hm2;exact hQ ρ3 H3 (x2.trans R2 x3) R3 σ2 (L2'.ext R2 x3)
  |true=>
   rw[fb rfl]at hm2 ⊢;obtain⟨⟨fl,hd4⟩,e2,hm2⟩:=fJ hm2;refine⟨λσ' H'=>∃ρ2 ls2 hd2,Ext ρ H ρ2 H'/\RH K ρ2 H' hd2/\RL K ρ2 H' ls2 σ'/\B3 c b m ls2 hd2=some (f,hd'),λσ' H' z=>⟨m,Nat.lt_succ_self m,z⟩,?_⟩;refine hb ρ3 σ2 H3 hd3 ls2 _ fl hd4 R3 (L2'.ext R2 x3) e2 λρ5 H5 x5 R5=>?_;have x15:=(x2.trans R2 x3).trans R3 x5;cases fl with
   |nx ls5=>intro σ5 L5;exact⟨ρ5,ls5,hd4,x15,R5,L5,hm2⟩
   |ct ls5=>intro σ5 L5;exact⟨ρ5,ls5,hd4,x15,R5,L5,hm2⟩
   |bk ls5=>intro σ5 L5;cases hm2;exact hQ ρ5 H5 x15 R5 σ5 L5
   |rt d5=>intro v5 r5;cases hm2;exact hQ ρ5 H5 x15 R5 v5 r5
noncomputable def BG(kvs:List (Key×D))(k:Key):Option D:=(kvs.find? λkv=>decide (kv.1=k)).map (·.2)
noncomputable def De(kvs:List (Key×D))(k:Key)(v:D):List (Key×D):=
 if(kvs.any λkv=>decide (kv.1=k))=true then kvs.map (λkv=>if kv.1=k then(kv.1,v)else kv)else kvs++[(k,v)]
theorem RKs.val:∀{kvs:List (Key×D)} {xs:List (Key×V)} {k:Key} {d:D},RKs K ρ H kvs xs->BG kvs k=some d->∃v,DZ xs k=some v/\RD K ρ H d v
 |[],xs,k,d,h,e=>by simp[BG]at e
 |p::kvs,xs,k,d,h,e=>by
  simp only[RKs]at h;obtain⟨x,r,rfl,e1,r1,r2⟩:=h;by_cases hk:p.1=k
  .rw[EZ (e1.trans hk)];simp[BG,gH,hk]at e;subst e;exact⟨_,rfl,r1⟩
  .rw[Eb (by rw[e1];exact hk)];simp only[BG,gH,hk,iw]at e;exact RKs.val r2 e
theorem RKs.valN:∀{kvs:List (Key×D)} {xs:List (Key×V)} {k:Key},RKs K ρ H kvs xs->(DZ xs k).isSome=(BG kvs k).isSome
 |[],xs,k,h=>by simp only[RKs]at h;subst h;rfl
 |p::kvs,xs,k,h=>by
  simp only[RKs]at h;obtain⟨x,r,rfl,e1,r1,r2⟩:=h;by_cases hk:p.1=k
  .rw[EZ (e1.trans hk)];simp[BG,gH,hk]
  .rw[Eb (by rw[e1];exact hk)];simp only[BG,gH,hk,iw];exact RKs.valN r2
theorem RKs.any:∀{kvs:List (Key×D)} {xs:List (Key×V)} {k:Key},RKs K ρ H kvs xs->(xs.any λkv=>decide (kv.1=k))=(kvs.any λkv=>decide (kv.1=k))
 |[],xs,k,h=>by simp only[RKs]at h;subst h;rfl
 |p::kvs,xs,k,h=>by
  simp only[RKs]at h;obtain⟨x,r,rfl,e1,r1,r2⟩:=h;simp only[gV,e1,RKs.any r2]
theorem RKs.upd:∀{kvs:List (Key×D)} {xs:List (Key×V)} {k:Key} {d:D} {v:V},RKs K ρ H kvs xs->RD K ρ H d v->RKs K ρ H (kvs.map (λkv=>if kv.1=k then(kv.1,d)else kv)) (xs.map (λkv=>if kv.1=k then(kv.1,v)else kv))
 |[],xs,k,d,v,h,_=>by simp only[RKs]at h;subst h;simp[RKs]
 |p::kvs,xs,k,d,v,h,q=>by
  simp only[RKs]at h;obtain⟨x,r,rfl,e1,r1,r2⟩:=h;simp only[fq,RKs];refine⟨_,_,rfl,?_,?_,RKs.upd r2 q⟩
  .rw[e1];split<;>simp[e1]
  .rw[e1];split
   .exact q
   .exact r1
theorem RKs.app:∀{kvs ks:List (Key×D)} {xs ys:List (Key×V)},RKs K ρ H kvs xs->RKs K ρ H ks ys->RKs K ρ H (kvs++ks) (xs++ys)
 |[],ks,xs,ys,h,t=>by simp only[RKs]at h;subst h;simpa using t
 |d::ds,ks,xs,ys,h,t=>by
  simp only[RKs]at h;obtain⟨x,r,rfl,e,z,q⟩:=h;simp only[gJ,RKs];exact⟨_,_,rfl,e,z,q.app t⟩
def RKs.put(h:RKs K ρ H kvs xs)(q:RD K ρ H d v):RKs K ρ H (De kvs k d) (Ce xs k v):=by
 unfold De Ce;rw[h.any];split
 .exact h.upd q
 .exact h.app (by simp only[RKs];exact⟨_,_,rfl,rfl,q,rfl⟩)
noncomputable def Ci:D->Option Key
 |.im (.int i)=>some (.inl i)
 |.im (.str x)=>some (.inr x)
 |_=>none
def Hu(h:RD K ρ H d v)(e:Ci d=some k):v=kV k:=by
 cases d with
 |im i=>
  cases i with
  |int i=>simp only[Ci,Option.some.injEq]at e;subst e;simp only[RD,RI]at h;exact h
  |str i=>simp only[Ci,Option.some.injEq]at e;subst e;simp only[RD,RI]at h;exact h
  |_=>simp[Ci]at e
 |_=>simp[Ci]at e
noncomputable def C7(hd:Hd):D->Option (List (Key×D))
 |.mu n=>match hd[n]? with
  |some (.dic kvs)=>some kvs
  |_=>none
 |_=>none
theorem RD.dic(hR:RH K ρ H hd)(h:RD K ρ H d v)(e:C7 hd d=some kvs):∃n a xs,d=.mu n/\v=.ref a/\ρ[n]?=some a/\H a=some (.dK xs)/\RKs K ρ H kvs xs:=by
 cases d with
 |mu n=>
  simp only[C7]at e;simp only[RD]at h;obtain⟨a,hn,rfl⟩:=h;split at e
  .next q=>
   cases e;obtain⟨xs,e1,e2⟩:=hR.dic hn q;exact⟨n,a,xs,rfl,rfl,hn,e1,e2⟩
  .cases e
 |_=>simp[C7]at e
noncomputable def EL:D->D->Hd->Option 121:=λd e hd=>(C7 hd d).bind λkvs=>(Ci e).bind λk=>(BG kvs k).map (·,hd)
def X4(hd:RE K td md)(hy:RE K ty my):RE K (P3 td ty) (mOp EL md my):=by
 intro ρ σ H hd0 ls Q d hd' hR hL hm hQ;obtain⟨⟨d1,h1⟩,e1,hm⟩:=fJ hm;obtain⟨⟨d2,h2⟩,e2,hm⟩:=fJ hm;obtain⟨kvs,e3,hm⟩:=fJ hm;obtain⟨k,e4,hm⟩:=fJ hm;obtain⟨w,e5,e6⟩:=fK hm;cases e6;refine hd ρ σ H hd0 ls _ d1 h1 hR hL e1 λρ1 H1 v1 x1 R1 r1=>?_;refine hy ρ1 σ H1 h1 ls _ d2 _ R1 122 e2 λρ2 H2 v2 x2 R2 r2=>?_;obtain⟨n,a,xs,rfl,rfl,hn,l1,l2⟩:=RD.dic R2 (r1.ext R1 x2) e3;have:=Hu r2 e4;subst this;obtain⟨v,v1,v2⟩:=l2.val e5;exact⟨a,v,rfl,v1 ▸ DGet.k l1,hQ ρ2 H2 v 79 R2 v2⟩
noncomputable def HH(neg:Bool):D->D->Hd->Option 121:=λe d hd=>(C7 hd d).bind λkvs=>(Ci e).map λk=>(.im (.bl (if neg then !(BG kvs k).isSome else(BG kvs k).isSome)),hd)
def ZN(hd:RE K td md)(hy:RE K ty my):RE K (TX ty td) (mOp (HH false) my md):=by
 intro ρ σ H hd0 ls Q d hd' hR hL hm hQ;obtain⟨⟨d1,h1⟩,e1,hm⟩:=fJ hm;obtain⟨⟨d2,h2⟩,e2,hm⟩:=fJ hm;obtain⟨kvs,e3,hm⟩:=fJ hm;obtain⟨k,e4,e6⟩:=fK hm;cases e6;refine hy ρ σ H hd0 ls _ d1 h1 hR hL e1 λρ1 H1 v1 x1 R1 r1=>?_;refine hd ρ1 σ H1 h1 ls _ d2 _ R1 122 e2 λρ2 H2 v2 x2 R2 r2=>?_;obtain⟨n,a,xs,rfl,rfl,hn,l1,l2⟩:=RD.dic R2 r2 e3;have:=Hu r1 e4;subst this;refine⟨a,_,rfl,DGet.k l1,?_⟩;rw[l2.valN];exact hQ ρ2 H2 _ 79 R2 135
open Classical in
noncomputable def Hm(md my mv:ME):MS:=λls hd=>(mv ls hd).bind λp=>(md ls p.2).bind λq=>(my ls q.2).bind λr=>(Ci r.1).bind λk=>match q.1 with
 |.mu n=>match r.2[n]? with
  |some (.dic kvs)=>if DR kvs.length then some (.nx ls,r.2.set n (.dic (De kvs k p.1)))else none
  |_=>none
 |_=>none
def Wl(hd:RE K td md)(hy:RE K ty my)(hv:RE K tv mv):RS K (PK td ty tv) (Hm md my mv):=by
 intro ρ σ H hd0 ls E f hd' hR hL hm hQ;obtain⟨⟨d1,h1⟩,e1,hm⟩:=fJ hm;obtain⟨⟨d2,h2⟩,e2,hm⟩:=fJ hm;obtain⟨⟨d3,h3⟩,e3,hm⟩:=fJ hm;obtain⟨k,e4,hm⟩:=fJ hm;dsimp only at hm;split at hm
 .split at hm
  .next q=>
   split at hm
   .next c=>
    cases hm;refine hv ρ σ H hd0 ls _ d1 h1 hR hL e1 λρ1 H1 v1 x1 R1 r1=>?_;refine hd ρ1 σ H1 h1 ls _ _ h2 R1 122 e2 λρ2 H2 v2 x2 R2 r2=>?_;refine hy ρ2 σ H2 h2 ls _ d3 _ R2 (hL.ext hR 79) e3 λρ3 H3 v3 x3 R3 r3=>?_;have r2:=r2.ext R2 x3;simp only[RD]at r2;obtain⟨a,hn,rfl⟩:=r2;obtain⟨xs,l1,l2⟩:=R3.dic hn q;have:=Hu r3 e4;subst this;obtain⟨R4,x4⟩:=R3.put hn (o:=.dic (De _ k d1)) (ho:=.dK (Ce xs k v1)) ⟨_,rfl,l2.put ((r1.ext R1 x2).ext R2 x3)⟩;have x13:=(79).trans R2 x3;exact⟨a,_,rfl,DPut.k l1 (by rw[l2.len];exact c),hQ ρ3 _ (x13.trans R3 x4) R4 σ ((hL.ext hR x13).ext R3 x4)⟩
   .cases hm
  .cases hm
 .cases hm
def RH.nameD(hR:RH K ρ H hd)(out:a∉ρ)(e:H a=some o)(hs:¬ Stb o)(r:RKs K ρ H kvs xs)(h1:∀ps,o≠.tbl ps:=by intro _ z;cases z)(h2:∀φ,o≠.ext φ:=by intro _ z;cases z):RH K (ρ++[a]) (upd H a (.dK xs)) (hd++[.dic kvs]):=by
 have gr:Grow H (upd H a (.dK xs)):=Grow.refl.put λu st z=>hs (by rw[e]at z;cases z;exact st);refine⟨by simp[hR.len],?_,hR.tabs.upd (λps z=>h1 ps (86 (e.symm.trans z))) (λps z=>h2 ps (86 (e.symm.trans z))),λn o' b e1 e2=>?_⟩
 .rw[nodup_append];refine⟨hR.nd,by simp,λx hx y hy z=>?_⟩;simp at hy;subst hy;subst z;exact out hx
 .by_cases hn:n<ρ.length
  .rw[List.getElem?_append_left hn]at e2;rw[List.getElem?_append_left (by rw[<- hR.len];exact hn)]at e1;obtain⟨ho',q1,q2⟩:=hR.ob n o' b e1 e2;have:b≠a:=λz=>out (by rw[<- z];exact fQ e2);exact⟨ho',by rw[upd_ne this];exact q1,q2.mono gr [a]⟩
  .have hn':n=ρ.length:=by
    have:=(73 e2).1;simp at this;omega
   subst hn';simp at e2;rw[hR.len]at e1;simp at e1;subst e1;subst e2;exact⟨_,AF,⟨xs,rfl,r.mono gr [_]⟩⟩
noncomputable def CQ(mo mi mv:ME):MS:=λls hd=>(mv ls hd).bind λp=>(mo ls p.2).bind λq=>(mi ls q.2).bind λr=>match q.1,r.1 with
 |.mu n,.im (.int i)=>match r.2[n]? with
  |some (.lst ds)=>(ixN 83 i).map λj=>(.nx ls,r.2.set n (.lst (ds.set j p.1)))
  |_=>none
 |_,_=>none
def Wi(ho:RE K to mo)(hi:RE K ti mi)(hv:RE K tv mv):RS K (Ec tv (V9 to ti JZ)) (CQ mo mi mv):=by
 intro ρ σ H hd0 ls E f hd' hR hL hm hQ;obtain⟨⟨d1,h1⟩,e1,hm⟩:=fJ hm;obtain⟨⟨d2,h2⟩,e2,hm⟩:=fJ hm;obtain⟨⟨d3,h3⟩,e3,hm⟩:=fJ hm;dsimp only at hm;split at hm
 .split at hm
  .next q=>
   obtain⟨j,e4,e5⟩:=fK hm;cases e5;refine hv ρ σ H hd0 ls _ d1 h1 hR hL e1 λρ1 H1 v1 x1 R1 r1=>?_;refine ho ρ1 σ H1 h1 ls _ _ h2 R1 122 e2 λρ2 H2 v2 x2 R2 r2=>?_;refine hi ρ2 σ H2 h2 ls _ _ _ R2 (hL.ext hR 79) e3 λρ3 H3 v3 x3 R3 r3=>?_;have r2:=r2.ext R2 x3;simp only[RD]at r2;obtain⟨a,hn,rfl⟩:=r2;simp only[RD,RI]at r3;subst r3;obtain⟨xs,l1,l2⟩:=R3.lst hn q;obtain⟨R4,x4⟩:=R3.put hn (o:=.lst _) (ho:=.lst (xs.set j v1)) ⟨_,rfl,l2.set j ((r1.ext R1 x2).ext R2 x3)⟩;have x13:=(79).trans R2 x3;exact⟨a,xs,_,j,rfl,rfl,l1,by rw[l2.len];exact e4,hQ ρ3 _ (x13.trans R3 x4) R4 σ ((hL.ext hR x13).ext R3 x4)⟩
  .cases hm
 .cases hm
end
end L2
namespace L2
open PySem PySem.Spec PyProof.Rows
structure QG(K:Frag)(X:Cx)(e:Expr)(t:TG)(m:MG):Prop where
 p:PG X e t
 r:RGt K t m
structure QGs(K:Frag)(X:Cx)(e:List Expr)(t:TGs)(m:MGs):Prop where
 p:PGs X e t
 r:Nn K t m
structure QI(K:Frag)(X:Cx)(tg e:Expr)(t:TI)(m:MI):Prop where
 p:PI X tg e t
 r:RIt K t m
structure QF(K:Frag)(X:Cx)(e:List Expr)(t:TT)(m:MT):Prop where
 p:PF X e t
 r:RT K t m
structure QO(K:Frag)(X:Cx)(e:Option Expr)(t:TO)(m:MO1):Prop where
 p:PO X e t
 r:RO1 K t m
def W0(a b:List D):Prop:=a≠[]/\BY (a.length+b.length)
open Classical in
noncomputable def GJ:D->D->Hd->Option 121:=λd e hd=>(AV d).bind λa=>(AV e).bind λb=>if W0 a b then some (B0 (a++b),hd)else none
def OM{K:Frag}:RB K (Pb K) GJ:=by
 intro ρ H hd d e v u Q z hd' hR h1 h2 hf hQ;unfold GJ at hf;obtain⟨a,e1,hf⟩:=fJ hf;obtain⟨b,e2,hf⟩:=fJ hf;split at hf
 .next c=>
  cases hf;obtain⟨p,xs,rfl,q1,r1⟩:=h1.tup e1;obtain⟨p2,ys,rfl,q2,r2⟩:=h2.tup e2;have l1:=r1.len;have l2:=r2.len;refine⟨p,p2,xs,ys,rfl,rfl,q1,q2,λz=>c.1 (by rw[z]at l1;simpa using l1.symm),by rw[l1,l2];exact c.2,λz=>?_,λ_ p3 hp=>?_⟩
  .have:b=[]:=by rw[z]at l2;simpa using l2.symm
   subst this;exact hQ ρ H _ .refl hR (by rw[fY];exact Cd q1 r1)
  .obtain⟨R2,x2⟩:=hR.hid (ho:=.tup (xs++ys)) hp;exact hQ ρ _ _ x2 R2 (Cd (SqT.of AF) ((r1.app r2).ext hR x2))
 .cases hf
noncomputable abbrev Al:=GL Ke GJ
noncomputable def HB(neg:Bool)(m:ME):ME:=λls hd=>(m ls hd).bind λp=>some (.im (.bl (match p.1 with
 |.im .non=>!neg
 | _=>neg)),p.2)
def dM{K:Frag}(h:RD K ρ H d v):decide (v=.non)=(match d with|.im .non=>true|_=>false):=by
 cases d with
 |im i=>
  cases i with
  |non=>simp only[RD,RI]at h;subst h;rfl
  |tup is=>simp only[RD,RI]at h;obtain⟨a,xs,rfl,_⟩:=h;rfl
  |_=>simp only[RD,RI]at h;subst h;rfl
 |mu n=>simp only[RD]at h;obtain⟨a,_,rfl⟩:=h;rfl
 |tm ds=>simp only[RD]at h;obtain⟨a,xs,rfl,_⟩:=h;rfl
 |ro ns=>simp only[RD]at h;obtain⟨a,rfl,_⟩:=h;rfl
 |op nm fs ds=>simp only[RD]at h;obtain⟨a,xs,rfl,_⟩:=h;rfl
 |fv k ds=>simp only[RD]at h;obtain⟨a,xs,rfl,_⟩:=h;rfl
def ZL{K:Frag}(h:RE K t m):RE K (TU t) (HB false m):=by
 and_intros;obtain⟨⟨d1,h1⟩,e1,hm⟩:=fJ hm;cases hm;refine h ρ σ H hd ls _ d1 _ hR hL e1 λρ1 H1 v x1 R1 r1=>?_;rw[dM r1];refine hQ ρ1 H1 _ x1 R1 ?_;simp only[RD,RI];cases d1 with
 |im i=>cases i<;>rfl
 |_=>rfl
noncomputable def EB(m:ME):ME:=λls hd=>(m ls hd).bind λp=>match p.1 with
 |.im (.int i)=>some (.im (.int (-i)),p.2)
 |_=>none
def ZH{K:Frag}(h:RE K t m):RE K (tUn (rU λi=>.int (-i)) t) (EB m):=by
 and_intros;obtain⟨⟨d1,h1⟩,e1,hm⟩:=fJ hm;dsimp only at hm;split at hm
 .cases hm;exact h ρ σ H hd ls _ _ _ hR hL e1 λρ1 H1 v x1 R1 r1=>⟨_,by simpa only[RD,RI]using r1,hQ ρ1 H1 _ x1 R1 135⟩
 .cases hm
noncomputable def C6:MT:=λ_ hd=>some (true,hd)
def Yw{K:Frag}:RT K TH C6:=by
 and_intros;cases hm;exact hQ ρ H .refl hR
section
variable(K:Frag){X:Cx}{tc:TE}{mc:ME}
def qv(i:Nat){pos:Pos}(hN:X.N[i]?=some x:=by rfl)(hv:Vis X.env.scope x:=by first|exact Or.inl rfl|exact Or.inr (Or.inl rfl)|exact Or.inr (Or.inr rfl))(hd:126=false:=by decide)
 (hcd:(x==("__classdict__":Str))=false:=by decide):QE K X (.Name x pos) (KD i) (A0 i):=⟨Jd hN hv hd hcd,ZF⟩
def aA{i:Int}{j pos}:QE K X (.Constant 134 j pos) (tC 134) (mC 134):=⟨aX,PU λ_=>by simp[RI]⟩
def cK{i:Bool}{j pos}:QE K X (.Constant (.bool i) j pos) (tC (.bl i)) (mC (.bl i)):=⟨cQ,PU λ_=>by simp[RI]⟩
def Zy{j pos}:QE K X (.Constant .none j pos) (tC .non) (mC .non):=⟨aU,PU λ_=>by simp[RI]⟩
def Zv{j pos}:QE K X (.Constant (.str x) j pos) (tC (.str x)) (mC (.str x)):=⟨aR,PU λ_=>by simp[RI]⟩
def G4{f:D->D->Hd->Option 121}(ho:OpR X (binaryOp op) r)(hr:RB K r f)(ha:QE K X a ta ma)(hb:QE K X b tb mb):QE K X (.BinOp a op b pos) (tOp r ta tb) (mOp f ma mb):=⟨Pi ho ha.p hb.p,Lz hr ha.r hb.r⟩
def a7(ha:QE K X a ta ma):QE K X (.UnaryOp .USub a pos) (tUn (rU λi=>.int (-i)) ta) (EB ma):=⟨cO Yq ha.p,ZH ha.r⟩
def Jb{f:D->D->Hd->Option 121}(ho:OpR X (compareOp op) r)(hr:RB K r f)(ha:QE K X a ta ma)(hb:QE K X b tb mb)(hm:behindInMarks op b=false:=by first|exact Gq _|rfl):QE K X (.Compare a [op] [b] pos) (tOp r ta tb) (mOp f ma mb):=⟨Xy ho ha.p hb.p hm,Lz hr ha.r hb.r⟩
def E2{f:D->D->Hd->Option 121}(ho:OpR X (compareOp op) r)(hr:RB K r f)(ha:QE K X a ta ma)(hb:QE K X b tb mb)(hm:behindInMarks op b=false:=by first|exact Gq _|rfl):QT K X (.Compare a [op] [b] pos) (F0 (tOp r ta tb)) (A7 (mOp f ma mb)):=⟨Hg ho ha.p hb.p hm,DG (Lz hr ha.r hb.r)⟩
def ZZ{j pos'}(ha:QE K X a ta ma):QT K X (.Compare a [.Is] [.Constant .none j pos'] pos) (tB (TU ta)) (A7 (HB false ma)):=⟨Rl (ac ha.p),Yz (ZL ha.r)⟩
def UF(ha:QE K X a ta ma)(he:∀whole,isTrue a X.env whole=(do let v <- whole;standAt a.pos;holding [v] (truthy v)):=by intro _;rfl)(hK:X.K=K:=by rfl):
 QT K X a (λσ H Q=>ta σ H λx H'=>∃k,Nk K x H' k/\Q k H') (CB ma):=by
 subst hK;exact⟨UW ha.p he,Tk ha.r⟩
def ZY(ha:QT K X a tA nA):QT K X (.UnaryOp .Not a pos) (TN tA) (Gx nA):=⟨aF ha.p,Yx ha.r⟩
def XB(ha:QT K X a tA nA):QW K X (.BoolOp .And [a] pos) tA nA:=⟨Xd ha.p,ha.r⟩
def ZW(ha:QT K X a tA nA):QW K X (.BoolOp .Or [a] pos) tA nA:=⟨aD ha.p,ha.r⟩
def ZX{rest:List Expr}(ha:QT K X a tA nA)(hb:QW K X (.BoolOp .And (b::rest) pos) tB' nB):QW K X (.BoolOp .And (a::b::rest) pos) (Ta tA tB') (CP nA nB):=⟨aE ha.p hb.p,Yy ha.r hb.r⟩
def cF{rest:List Expr}(ha:QT K X a tA nA)(hb:QW K X (.BoolOp .Or (b::rest) pos) tB' nB):QW K X (.BoolOp .Or (a::b::rest) pos) (tOr tA tB') (mOr nA nB):=⟨cM ha.p hb.p,c7 ha.r hb.r⟩
def QW.toT{K:Frag}(h:QW K X e t m):QT K X e t m:=⟨h.p.pt,h.r⟩
def Zw{op}(ha:QE K X a ta ma):QE K X (.BoolOp op [a] pos) ta ma:=⟨aS ha.p,ha.r⟩
def aB{rest:List Expr}(ha:QE K X a ta ma)(hb:QE K X (.BoolOp .And (b::rest) pos) tb mb):QE K X (.BoolOp .And (a::b::rest) pos) (P5 ta tb) (Hn ma mb):=⟨aZ ha.p hb.p,X6 ha.r hb.r⟩
def Zx(ha:QE K X a ta ma):QE K X (.UnaryOp .Not a pos) (P0 ta) (Hk ma):=⟨aT ha.p,Wx ha.r⟩
def UQ(hc:QT K X c tA nA)(ha:QE K X a ta ma)(hb:QE K X b tb mb):QE K X (.IfExp c a b pos) (tIf tA ta tb) (mIf nA ma mb):=⟨Uf hc.p ha.p hb.p,cB hc.r ha.r hb.r⟩
def aC:QA K X [] BQ A3:=⟨CL,Mz⟩
def Xb(ha:QE K X e te me)(hr:QA K X es t m)(hs:starEach (e::es) X.env=88::starEach es X.env:=by rfl):QA K X (e::es) (BK te t) (A1 me m):=⟨Bm ha.p hr.p hs,X9 ha.r hr.r⟩
def Zu{x1}(h:QA K X es t m):QE K X (.Tuple es x1 pos) (TJ t) (Ay m):=⟨aQ h.p,ZG h.r⟩
def Zj(h:QA K X es t m):QN K X (.List es pos) (TQ t) (Ab m):=⟨aV h.p,Z6 h.r⟩
def Zz(h:QN K X e te m):QE K X e te (AU m):=⟨h.p,RW h.r⟩
def cI(ha:QE K X a ta ma)(hb:QE K X b tb mb)(hs:Kv b:=by exact λ_ _=>rfl)(hK:X.K=K:=by rfl):QE K X (.Subscript a b pos) (tOp (M0 K) ta tb) (mOp gIx ma mb):=⟨Pj ((ND K hK).or (Oa K hK)) ha.p hb.p hs,Lz cD ha.r hb.r⟩
def Xa(hu:X.A.units+1<cLine)(ha:QE K X a ta ma)(hb:QE K X b tb mb)(hs:VT b:=by exact λ_ _=>rfl):QE K X (.Subscript a b pos) (P3 ta tb) (mOp EL ma mb):=⟨Xw hu ha.p hb.p hs,X4 ha.r hb.r⟩
def XS:QO K X none KF FZ:=⟨Xl,Wp⟩
def XR(h:QE K X e te me):QO K X (some e) (Oz te) (Jj me):=⟨Xk h.p,Wn h.r⟩
def Zh{lo:Option Expr}(h:QE K X e te me)(hl:QO K X lo tl ml)(hh:QO K X hi th mh)(hK:X.K=K:=by rfl):QN K X (.Subscript e (.Slice lo hi none p2) pos) (tSl (Pa K) te tl th) (KS me ml mh):=⟨Ud (Te K hK) h.p hl.p hh.p,Z4 h.r hl.r hh.r⟩
def F7{id:String}{p:Pos}{r:List V->Hp->VK->Prop}{f:List D->Hd->Option 121}(hc:CallR X (.builtin id) r)(hr:RF K r f)(hm:X.mg x=none)(hv:bootBuiltins x=some (.builtin id))(ha:QA K X (e::es) t m)(hg:Gl X x:=by rfl)(hn:x≠"__name__":=by decide)(hdb:126=false:=by decide)
 (he:starEach (e::es) X.env=88::starEach es X.env:=by rfl) (hpl:(backTo pos 130).any (·.1)=false:=by rfl):QE K X (.Call (.Name x p) (e::es) [] pos) (tCB r t) (mCB f m):=⟨Ei hc hg hm hv ha.p hn hdb he hpl,Vc hr ha.r⟩
def Vn{id:String}{p:Pos}{r:List V->Hp->VK->Prop}{f:List D->Hd->Option 121}(hc:CallR X (.type id) r)(hr:RF K r f)(hm:X.mg x=none)(hv:bootBuiltins x=some (.type id))(ha:QA K X (e::es) t m)(hg:Gl X x:=by rfl)(hn:x≠"__name__":=by decide)(hdb:126=false:=by decide)
 (he:starEach (e::es) X.env=88::starEach es X.env:=by rfl) (hpl:(backTo pos 130).any (·.1)=false:=by rfl):QE K X (.Call (.Name x p) (e::es) [] pos) (tCB r t) (mCB f m):=⟨Cf hc hg hm hv ha.p hn hdb he hpl,Vc hr ha.r⟩
def M1{id:String}{p:Pos}{r:List V->Hp->VK->Prop}{tp:Bool}{g:List D->Option D}(hc:CallR X (.builtin id) r)(hr:RG K tp r g)(hm:X.mg x=none)(hv:bootBuiltins x=some (.builtin id))(ha:QN K X e te m)(hg:Gl X x:=by rfl)(hn:x≠"__name__":=by decide)(hdb:126=false:=by decide)
 (he:starEach [e] X.env=[88]:=by rfl):QE K X (.Call (.Name x p) [e] [] pos) (tCB r (BK te BQ)) (B9 g m):=⟨Ei hc hg hm hv (Bm ha.p CL he) hn hdb he rfl,RX hr ha.r⟩
def cJ{id:String}{p:Pos}{r:List V->Hp->VK->Prop}{tp:Bool}{g:List D->Option D}(hc:CallR X (.type id) r)(hr:RG K tp r g)(hm:X.mg x=none)(hv:bootBuiltins x=some (.type id))(ha:QN K X e te m)(hg:Gl X x:=by rfl)(hn:x≠"__name__":=by decide)(hdb:126=false:=by decide)
 (he:starEach [e] X.env=[88]:=by rfl):QE K X (.Call (.Name x p) [e] [] pos) (tCB r (BK te BQ)) (B9 g m):=⟨Cf hc hg hm hv (Bm ha.p CL he) hn hdb he rfl,RX hr ha.r⟩
def UN(hm:X.mg "list"=none)(ha:QN K X e te m)(hg:Gl X "list":=by rfl)(he:starEach [e] X.env=[88]:=by rfl)(hK:X.K=K:=by rfl):QN K X (.Call (.Name "list" p) [e] [] pos) (tCB (KN K) (BK te BQ)) (Gz m):=⟨Cf (QP K hK) hg hm Oo (Bm ha.p CL he) 90 90 he rfl,Tw ha.r⟩
def Vm{id:String}{r:V->List V->Hp->VK->Prop}{f:D->List D->Hd->Option 121}{apos cpos:Pos}(slot:Slot "list" name id)(hty:typeOf (.builtin id)=pure (.type "method_descriptor"))(hm:MtM X id r)(hr:RM K r f)(ho:QE K X o to mo)(ha:QA K X (e::es) t m)
 (hbase:attributeBase o name X.env (eval o X.env)=eval o X.env:=by rfl)
 (hfew:((backTo cpos (starEach (e::es) X.env)).all (λx=>!x.1)&&(backToKw cpos (keywordEach [] X.env)).all (λx=>x.1.isSome)
  && decide ((e::es).length+([]:List Keyword).length+(if([]:List Keyword).isEmpty then 0 else 1)<30))=true:=by rfl)
 (hline:(apos.endLine==cpos.line)=true:=by rfl) (hs:starEach (e::es) X.env=88::starEach es X.env:=by rfl) (hplain:(backTo cpos 130).any (·.1)=false:=by rfl) (hK:X.K=K:=by rfl):
 QE K X (.Call (.Attribute o name apos) (e::es) [] cpos) (tBM K "list" r to t) (mMt f mo m):=by
 subst hK;exact⟨cP PySem.F.plainAttrs_list slot hty hm ho.p ha.p hbase hfew hline hs hplain,Vb hr ho.r ha.r⟩
def a8{id:String}{r:V->List V->Hp->VK->Prop}{f:D->List D->Hd->Option 121}{apos cpos:Pos}(slot:Slot "list" name id)(hty:typeOf (.builtin id)=pure (.type "method_descriptor"))(hm:MtM X id r)(hr:RM K r f)(ho:QE K X o to mo)
 (hbase:attributeBase o name X.env (eval o X.env)=eval o X.env:=by rfl) (hline:(apos.endLine==cpos.line)=true:=by rfl) (hK:X.K=K:=by rfl):
 QE K X (.Call (.Attribute o name apos) [] [] cpos) (TY K "list" r to) (mMt f mo A3):=by
 subst hK;exact⟨aY PySem.F.plainAttrs_list slot hty hm ho.p hbase hline,ZI hr ho.r⟩
def US(w:Nat){j k:Nat}{n:Nat}{F:List D->Hd->Option 121}{st:Stmt}{p:Pos}(G:FnOk X.prog X.w X.K X.mg X.base CX0 j f fd ps (spF K n F))(hr:Room k X.A)(DA:DefAt X.K X.mg x st f fd ps)(ha:QA K X (e::es) t m)(hF:∀ds hd z,F ds hd=some z->83=n)
 (hjk:j<=k:=by decide) (hg:Gl X x:=by rfl) (hdb:126=false:=by decide) (he:starEach (e::es) X.env=88::starEach es X.env:=by rfl) (hpl:(backTo pos 130).any (·.1)=false:=by rfl):
 QE K X (.Call (.Name x p) (e::es) [] pos) (C9 (spF K n F) [] E0 t) (A9 w F m):=⟨Pl G hr DA ha.p hjk hg hdb he hpl,My ha.r hF⟩
def UV{j k:Nat}{n:Nat}{F:List D->Hd->Option 121}{st:Stmt}{p:Pos}(G:FnOk X.prog X.w X.K X.mg X.base CX0 j f fd ps (spF K n F))(hr:Room k X.A)(DA:DefAt X.K X.mg x st f fd ps)(ha:QA K X (e::es) t m)(hF:∀ds hd z,F ds hd=some z->83=n)
 (hjk:j<=k:=by decide) (hg:Gl X x:=by rfl) (hdb:126=false:=by decide) (he:starEach (e::es) X.env=88::starEach es X.env:=by rfl) (hpl:(backTo pos 130).any (·.1)=false:=by rfl):
 QE K X (.Call (.Name x p) (e::es) [] pos) (C9 (spF K n F) [] E0 t) (Ba F m):=⟨Pl G hr DA ha.p hjk hg hdb he hpl,U6 ha.r hF⟩
def XX{i:Nat}(hN:X.N.Nodup)(hi:X.N[i]?=some x)(hx:Loc X.env.scope x)(hf:X.fn x=true∨X.env.scope.names.lookup x=some .local:=by first|exact .inl rfl|exact .inr rfl|assumption):QG K X (.Name x pos) (Dq i) (AC i):=⟨Xr hN hi hx hf,KJ⟩
def XW:QGs K X [] VA Bl:=⟨Xp,Ws⟩
def UO(h1:QG K X e tg n)(h2:QGs K X es tgs ns)(hs:(assignEach (e::es) X.env).map (·.2)=assign e X.env::(assignEach es X.env).map (·.2):=by rfl):QGs K X (e::es) (Q5 tg tgs) (AZ n ns):=⟨Ub h1.p h2.p hs,Tz h1.r h2.r⟩
def Zq{k n:Nat}(hc:X.calm=true)(h:QGs K X es tgs ns)(hK:X.K=K:=by rfl)(hn:(assignEach es X.env).length=n:=by rfl)(hst:(assignEach es X.env).findIdx? (·.1)=none:=by rfl):QG K X (.Tuple es k pos) (Q3 K n tgs) (Bj n ns):=⟨Xq K hc h.p hK hn hst,ZC h.r⟩
def Zn(h:QE K X e te me)(hK:X.K=K:=by rfl):QI K X tg e (NH K te) (Au me):=⟨OS K h.p hK,RO h.r⟩
def XV(h:QE K X e te me)(hK:X.K=K:=by rfl):QI K X tg e (GF K te) (BI me):=⟨IZ K h.p hK,OJ h.r⟩
def Zp(h:QN K X e te m)(hK:X.K=K:=by rfl):QI K X tg e (GF K te) (KU m):=⟨IZ K h.p hK,ZB h.r⟩
def XU(hm:X.mg "range"=none)(ha:QA K X [a] t m)(hg:Gl X "range":=by rfl)(hs:starEach [a] X.env=[(false,eval a X.env)]:=by rfl):QI K X tg (.Call (.Name "range" p) [a] [] pos) (Pz t) (DE m):=⟨Rp hg hm ha.p hs,Wq ha.r⟩
def Zt:QF K X [] TH C6:=⟨aP,Yw⟩
def Zr(h:QT K X c tA nA):QF K X [c] tA nA:=⟨aO h.p,h.r⟩
def XT{iter:Expr}(hc:X.calm=true)(S:CSc X scope fr ix)(hi:QI K X tg iter wi mi)
 (hg:∀s H ex,QG K 116 tg g n) (hf:∀s H ex,QF K 116 ifs tf mf) (he:∀s H ex,QE K 116 elt te mm)
 (hs:∀x,foldedSetIterable iter X.env x=pure x:=by intro _;rfl):QN K X 146 (Fv loc.length ix wi g tf te) (Af loc.length ix mi n mf mm):=
 ⟨Xx hc S hi.p (λs H ex=>(hg s H ex).p) (λs H ex=>(hf s H ex).p) (λs H ex=>(he s H ex).p) hs,OI hi.r (hg X.s₀ X.H₀ []).r (hf X.s₀ X.H₀ []).r (he X.s₀ X.H₀ []).r⟩
def XE:QSs K X [] Lw Aa:=⟨Xf,OH⟩
def UH{st:Stmt}{rest:List Stmt}{m1:MS}(h1:QS K X st u m1)(h2:QSs K X rest v m2):QSs K X (st::rest) (TK u v) (A5 m1 m2):=⟨UY h1.p h2.p,Z0 h1.r h2.r⟩
def XD{st:Stmt}{m1:MS}(h1:QS K X st u m1):QSs K X [st] u m1:=⟨Xe h1.p,h1.r⟩
def XG:QS K X (.Pass pos) Lw Aa:=⟨ps_pass,OH⟩
def XJ(he:QE K X e te me)(hs:swapsWith e none pos.line X.env=pure false:=by rfl):QS K X (.Expr e pos) (P2 te) (Aq me):=⟨Xh he.p hs,Wk he.r⟩
def Zd(he:QE K X e te me):QS K X (.Return (some e) pos) (TL te) (AN me):=⟨aH he.p,Z1 he.r⟩
def cG{m1:MS}(hc:QT K X c tA nA)(ha:QSs K X a u m1)(hb:QSs K X b v m2):QS K X (.If c a b pos) (TV tA u v) (Ag nA m1 m2):=⟨cN hc.p ha.p hb.p,c8 hc.r ha.r hb.r⟩
def UK{st:Stmt}:QS K X st MW Gy:=⟨Ua,To⟩
def Zf(he:QE K X e te me)(hg:QG K X tg g n)(hs:swapsWithSole [tg] e pos.line X.env=pure false:=by rfl)(hw:swappedStores [tg] e X.env=pure none:=by rfl)
 (h1:(assignEach [tg] X.env).map (·.2)=[assign tg X.env]:=by rfl):QS K X (.Assign [tg] e pos) (Ec te g) (G8 me n):=⟨Rm he.p hg.p hs hw h1,Mv he.r hg.r⟩
def Zc{i:Nat}(hN:X.N.Nodup)(hi:X.N[i]?=some x)(hx:Loc X.env.scope x)(he:QE K X e te me)(hs:swapsWith e (some (.Name x pos')) pos.line X.env=pure false:=by rfl)(hf:X.fn x=true∨X.env.scope.names.lookup x=some .local:=by first|exact .inl rfl|exact .inr rfl|assumption):
 QS K X (.Assign [.Name x pos'] e pos) (Ec te (Dq i)) (AE i me):=⟨aG hN hi hx he.p hs hf,Mv he.r KJ⟩
def XF{i:Nat}{iter:Expr}{spos:Pos}(hN:X.N.Nodup)(hiN:X.N[i]?=some y)(hy:X.env.scope.names.lookup y=some .local)
 (hc:X.calm=true) (S:CSc X scope fr ix) (hi:QI K X tg iter wi mi)
 (hg:∀s H ex,QG K 116 tg g n) (hf:∀s H ex,QF K 116 ifs tf mf) (he:∀s H ex,QE K 116 elt te mm)
 (hsw:swapsWith 146 (some (.Name y py)) spos.line X.env=pure true:=by rfl) (hs:∀x,foldedSetIterable iter X.env x=pure x:=by intro _;rfl):
 QS K X (.Assign [.Name y py] 146 spos) (Ec (Fv loc.length ix wi g tf te) (Dq i)) (AE i (AU (Af loc.length ix mi n mf mm))):=
 ⟨Xg hN hiN hy hc S hi.p (λs H ex=>(hg s H ex).p) (λs H ex=>(hf s H ex).p) (λs H ex=>(he s H ex).p) hsw hs,Mv (RW (OI hi.r (hg X.s₀ X.H₀ []).r (hf X.s₀ X.H₀ []).r (he X.s₀ X.H₀ []).r)) KJ⟩
def XM(hu:X.A.units+1<cLine)(ho:QE K X o td md)(hi:QE K X i ty my)(hv:QE K X value tv mv)(hs:swapsWith value (some (.Subscript o i pos')) pos.line X.env=pure false:=by rfl):
 QS K X (.Assign [.Subscript o i pos'] value pos) (PK td ty tv) (Hm md my mv):=⟨Xi hu ho.p hi.p hv.p hs,Wl ho.r hi.r hv.r⟩
def XH(ho:QE K X o to mo)(hi:QE K X i ti mi)(hv:QE K X value tv mv)(hs:swapsWithSole [.Subscript o i pos'] value pos.line X.env=pure false:=by rfl)(hw:swappedStores [.Subscript o i pos'] value X.env=pure none:=by rfl)
 (h1:(assignEach [.Subscript o i pos'] X.env).map (·.2)=[assign (.Subscript o i pos') X.env]:=by rfl)
 (ha:∀v,assign (.Subscript o i pos') X.env v=(do
  let ov <- holding [v] (eval o X.env)
  let iv <- holding [v,ov] (eval i X.env)
  standAt pos'
  holding [v,ov,iv] (setItem ov iv v)
  release [v,ov,iv] []):=by intro _;rfl):QS K X (.Assign [.Subscript o i pos'] value pos) (Ec tv (V9 to ti JZ)) (CQ mo mi mv):=⟨Rm hv.p (aN ho.p hi.p Mk ha) hs hw h1,Wi ho.r hi.r hv.r⟩
def Ze{iter:Expr}(hc:X.calm=true)(hi:QI K X tg iter wi mi)(hg:QG K X tg g n)(hb:QSs K X body tb mb)(hp:PassesOwn 68 X.A X.env X.xe:=by exact PassesOwn.never)
 (hs:∀x,foldedSetIterable iter X.env x=pure x:=by intro _;rfl):QS K X (.For tg iter body [] pos) (TW wi g tb) (BA mi n mb):=⟨aI hp hc hi.p hg.p hb.p hs,Z2 hi.r hg.r hb.r⟩
def UJ(hc:QT K X c tA nA)(hb:QSs K X body tb mb)(hp:PassesOwn 68 X.A X.env X.xe:=by exact PassesOwn.never):QS K X (.While c body [] pos) (MV tA tb) (Ch nA mb):=⟨UZ hp hc.p hb.p,Tl hc.r hb.r⟩
end
def Y5{K:Frag}{mg:Str->Option Value}{st:Stmt}{j:Nat}(DA:DefAt K mg x st f fd ps)(S:FnScope N ps (AB st))
 (h:∀(cdv:Value) (A:Around) (outer:List Env) (s:Shared) (H:Hp) (E:XK),Room j (A.deeper (envOfC x (AB st) 58 f cdv))->∃t,QSs K (FN CX0 P w K mg base N x (AB st) f cdv A outer s H E).nox (BF st) t m):
 FnOk P w K mg base CX0 (j+1) f fd ps (spF K 112 (mkF 112 N.length m)):=by
 refine DA.fn.ok S (λvs H Q E h=>h.1) (λcdv A outer s H vs Q E hr hs=>?_);obtain⟨t,q⟩:=h cdv A outer s H E hr;exact⟨t,q.p,OB q.r hs⟩
def fF(tp:Bool)(h:Heap)(it l:Addr)(k:Nat):Prop:=match tp with
 |true=>h.IsTupleIter it l k
 |false=>h.IsListIter it l k
def SqS(K:Frag)(tp:Bool)(H:Hp)(a:Addr)(xs:List V):Prop:=match tp with
 |true=>SqT K H a xs
 |false=>SqL K H a xs
def d7(K:Frag)(ρ:List Addr)(H:Hp)(tp:Bool)(a:Addr)(ds:List D)(g:Gd):Prop:=∀(ρ2:List Addr) (H2:Hp) (hd2:Hd),Ext ρ H ρ2 H2->RH K ρ2 H2 hd2->GOk hd2 g->∃xs,SqS K tp H2 a xs/\RDs K ρ2 H2 ds xs
def RRw(K:Frag)(tp:Bool)(t:TE)(m:MI):Prop:=∀(ρ:List Addr) (σ:St) (H:Hp) (hd:Hd) (ls:Ls) (Q:VK) (d:List D) (g:Gd) (hd':Hd),RH K ρ H hd->RL K ρ H ls σ->m ls hd=some ((d,g),hd') ->
 (∀ρ' H' a,Ext ρ H ρ' H'->RH K ρ' H' hd'->GOk hd' g->d7 K ρ' H' tp a d g->Q (.ref a) H')->t σ H Q
structure QR(K:Frag)(tp:Bool)(X:Cx)(e:Expr)(t:TE)(m:MI):Prop where
 p:PE X e t
 r:RRw K tp t m
section
variable{K:Frag}{ρ':List Addr}{H':Hp}
def Yv(h:RE K t m):RRw K true t (Au m):=by
 intro ρ σ H hd ls Q d g hd' hR hL hm hQ;obtain⟨⟨d1,h1⟩,e1,hm⟩:=fJ hm;obtain⟨ds,e2,e3⟩:=fK hm;cases e3;refine h ρ σ H hd ls _ d1 _ hR hL e1 λρ1 H1 v x1 R1 r1=>?_;obtain⟨a,xs,rfl,q,r⟩:=r1.tup e2;exact hQ ρ1 H1 a x1 R1 (AJ _) λρ2 H2 hd2 x2 R2 _=>⟨xs,(x2.grow R1).sq q,r.ext R1 x2⟩
def We(h:RE K t m):RRw K false t (BI m):=by
 intro ρ σ H hd ls Q d g hd' hR hL hm hQ;obtain⟨⟨d1,h1⟩,e1,hm⟩:=fJ hm;dsimp only at hm;split at hm
 .next n=>
  split at hm
  .next ds q=>
   cases hm;refine h ρ σ H hd ls _ _ _ hR hL e1 λρ1 H1 v x1 R1 r1=>?_;simp only[RD]at r1;obtain⟨a,hn,rfl⟩:=r1;refine hQ ρ1 H1 a x1 R1 (λp z=>by simp at z;subst z;exact q) λρ2 H2 hd2 x2 R2 G2=>?_;have hn2:ρ2[n]?=some a:=by
    obtain⟨r,rfl,_⟩:=x2.pre;rw[List.getElem?_append_left (List.getElem?_eq_some_iff.mp hn).1];exact hn
   obtain⟨ys,e4,e5⟩:=R2.lst hn2 (G2 (n,d) 70);exact⟨ys,SqL.of e4,e5⟩
  .cases hm
 .next ns=>
  cases hm;refine h ρ σ H hd ls _ _ _ hR hL e1 λρ1 H1 v x1 R1 r1=>?_;simp only[RD]at r1;obtain⟨a,rfl,q⟩:=r1;exact hQ ρ1 H1 a x1 R1 (AJ _) λρ2 H2 hd2 x2 R2 _=>⟨_,(q.grow (x2.grow R1)).sq,Di⟩
 .cases hm
end
section
variable(K:Frag)
def Ri(h:QE K X e te me):QR K true X e te (Au me):=⟨h.p,Yv h.r⟩
def XQ(h:QE K X e te me):QR K false X e te (BI me):=⟨h.p,We h.r⟩
end
section
variable{K:Frag}
noncomputable def HA(ml:MA)(mb:ME):ME:=λls hd=>(ml ls hd).bind λp=>(mb ls p.2).bind λq=>match q.1 with
 |.im (.int i)=>(atI p.1 i).map (·,q.2)
 |_=>none
def ZJ(ha:RN K ta ml)(hb:RE K tb mb):RE K (tOp (M0 K) ta tb) (HA ml mb):=by
 and_intros;obtain⟨⟨d1,h1⟩,e1,hm⟩:=fJ hm;obtain⟨⟨d2,h2⟩,e2,hm⟩:=fJ hm;dsimp only at hm;split at hm
 .obtain⟨w,e3,e4⟩:=fK hm;cases e4;refine ha ρ σ H hd ls _ d1 h1 hR hL e1 λρ1 H1 a xs x1 R1 na oa ea r1=>?_;refine hb ρ1 σ H1 h1 ls _ _ _ R1 122 e2 λρ2 H2 v2 x2 R2 r2=>?_;simp only[RD,RI]at r2;subst r2;have r1':=r1.ext R1 x2;obtain⟨j,j1,j2⟩:=Ks r1'.len e3;obtain⟨x,y1,y2⟩:=r1'.get j1;exact .inl ⟨a,xs,_,x,rfl,rfl,SqL.of (x2.keep a _ ea oa nt),j2 x y1,hQ ρ2 H2 x 79 R2 y2⟩
 .cases hm
noncomputable def Ep(neg:Bool)(x y:PyData)(hd:Hd):Option 121:=if x.canLay0=true/\y.canLay0=true/\min x.depth y.depth<=60 then some (.im (.bl (if neg then !PyData.eqv x y else PyData.eqv x y)),hd)else none
noncomputable def CS(neg:Bool)(ma:ME)(ml:MA):ME:=λls hd=>(ma ls hd).bind λp=>(ml ls p.2).bind λq=>(pyD q.2 p.1).bind λx=>(B2 q.1).bind λis=>Ep neg x (.list (I.pys is)) q.2
noncomputable def Dm(neg:Bool)(ml mk:MA):ME:=λls hd=>(ml ls hd).bind λp=>(mk ls p.2).bind λq=>(B2 p.1).bind λis=>(B2 q.1).bind λjs=>Ep neg (.list (I.pys is)) (.list (I.pys js)) q.2
noncomputable def rEN(K:Frag)(neg:Bool):R2:=λx y H Q=>∃d e,Rep K H d x/\Rep K H e y/\d.canLay0=true/\e.canLay0=true/\min d.depth e.depth<=60/\Q (.bl (if neg then !PyData.eqv d e else PyData.eqv d e)) H
def KK(ea:H a=some 145)(r:RDs K ρ H ds xs)(e:B2 ds=some is):Rep K H (.list (I.pys is)) (.ref a):=by
 rw[GU e]at r;simp only[Rep];exact⟨a,xs,rfl,SqL.of ea,r.is.rep⟩
def X2{neg:Bool}(ha:RE K ta ma)(hb:RN K tb ml):RE K (tOp (rEN K neg) ta tb) (CS neg ma ml):=by
 and_intros;obtain⟨⟨d1,h1⟩,e1,hm⟩:=fJ hm;obtain⟨⟨d2,h2⟩,e2,hm⟩:=fJ hm;obtain⟨x,e3,hm⟩:=fJ hm;obtain⟨is,e4,hm⟩:=fJ hm;unfold Ep at hm;split at hm
 .next c=>
  cases hm;refine ha ρ σ H hd ls _ d1 h1 hR hL e1 λρ1 H1 v x1 R1 r1=>?_;refine hb ρ1 σ H1 h1 ls _ d2 _ R1 122 e2 λρ2 H2 a xs x2 R2 na oa ea r2=>?_;exact⟨_,_,FU R2 (r1.ext R1 x2) e3,KK ea r2 e4,c.1,c.2.1,c.2.2,hQ ρ2 H2 _ 79 R2 135⟩
 .cases hm
def X1{neg:Bool}(ha:RN K ta ml)(hb:RN K tb mk):RE K (tOp (rEN K neg) ta tb) (Dm neg ml mk):=by
 and_intros;obtain⟨⟨d1,h1⟩,e1,hm⟩:=fJ hm;obtain⟨⟨d2,h2⟩,e2,hm⟩:=fJ hm;obtain⟨is,e4,hm⟩:=fJ hm;obtain⟨js,e3,hm⟩:=fJ hm;unfold Ep at hm;split at hm
 .next c=>
  cases hm;refine ha ρ σ H hd ls _ d1 h1 hR hL e1 λρ1 H1 a xs x1 R1 na oa ea r1=>?_;refine hb ρ1 σ H1 h1 ls _ d2 _ R1 122 e2 λρ2 H2 b ys x2 R2 nb ob eb r2=>?_;exact⟨_,_,KK (x2.keep a _ ea oa nt) (r1.ext R1 x2) e4,KK eb r2 e3,c.1,c.2.1,c.2.2,hQ ρ2 H2 _ 79 R2 135⟩
 .cases hm
end
def Rx(K:Frag){X:Cx}(hu:X.A.units+64<cLine)(hK:X.K=K:=by rfl):OpR X (compareOp .Eq) (rEN K false):=KP K hu hK
def Ru(K:Frag){X:Cx}(hu:X.A.units+64<cLine)(hK:X.K=K:=by rfl):OpR X (compareOp .NotEq) (rEN K true):=KO K hu hK
section
variable(K:Frag){e:Expr}{te:TE}{me:ME}{neg:Bool}
def a9(ha:QN K X a ta m)(hb:QE K X b tb mb)(hs:Kv b:=by exact λ_ _=>rfl)(hK:X.K=K:=by rfl):QE K X (.Subscript a b pos) (tOp (M0 K) ta tb) (HA m mb):=⟨Pj ((ND K hK).or (Oa K hK)) ha.p hb.p hs,ZJ ha.r hb.r⟩
def OR(ho:OpR X (compareOp op) (rEN K neg))(ha:QE K X a ta ma)(hb:QN K X b tb m)(hm:behindInMarks op b=false:=by first|exact Gq _|rfl):QT K X (.Compare a [op] [b] pos) (F0 (tOp (rEN K neg) ta tb)) (A7 (CS neg ma m)):=⟨Hg ho ha.p hb.p hm,DG (X2 ha.r hb.r)⟩
def OQ(ho:OpR X (compareOp op) (rEN K neg))(ha:QN K X a ta m)(hb:QN K X b tb mk)(hm:behindInMarks op b=false:=by first|exact Gq _|rfl):QT K X (.Compare a [op] [b] pos) (F0 (tOp (rEN K neg) ta tb)) (A7 (Dm neg m mk)):=⟨Hg ho ha.p hb.p hm,DG (X1 ha.r hb.r)⟩
end
noncomputable def BB(lo:Int):Nat->List V
 |0=>[]
 |n+1=>.int lo::BB (lo+1) n
def JW(lo:Int)(n:Nat):(BB lo n).length=n:=by
 induction n generalizing lo with
 |zero=>rfl
 |succ n ih=>simp[BB,ih]
def G3{K:Frag}(lo:Int)(n:Nat):RDs K ρ H (Aw lo n) (BB lo n):=by
 induction n generalizing lo with
 |zero=>simp[Aw,BB,RDs]
 |succ n ih=>exact .cons 135 (ih _)
theorem JV{lo:Int}:∀{n:Nat} {us:List Value},us.length=n->(∀(j:Nat) (v:Value),us[j]?=some v->∃t,v=.int (lo+j*1) t)->Vals (BB lo n) us
 |0,us,h,_=>by
  have:us=[]:=List.length_eq_zero_iff.mp h;subst this;exact .nil
 |n+1,[],h,_=>by simp at h
 |n+1,u::us,h,k=>by
  obtain⟨t,e⟩:=k 0 u rfl;refine .cons ⟨t,by rw[e];simp⟩ (JV (by simpa using h) λj v q=>?_);obtain⟨t',e'⟩:=k (j+1) v (by simpa using q);exact⟨t',by rw[e'];congr 1;push_cast;omega⟩
section
variable{A:Around}{E:Value->Shared->Prop}{s:Shared}
def ID{Q:List Value->Shared->Prop}{a b c:Int}{n:Nat}(hh:A.handled=none)(hr:IsRange s.heap r a b c t u v)(hsm:Builtin.Range.small a b c=true)(hn:Builtin.Range.rangeSize a b c=n)(hl:n<=2^24)
 (hQ:∀g tk (acc:Array Value),(∀b o,s.heap.get? b=some o->g.get? b=some o)->ItemsOf (λi v=>∃t,v=.int (a+i*c) t) acc n->Q acc.toList { s with heap:=g,toks:=tk }):
 wpAny 89 A (collect (.ref r)) Q E s:=by
 unfold collect;refine fc (wpAny_runValue (gF F.entry_proto_collect ?_));rw[Around.under_plainId F.plain_proto_collect _];show wpAny _ A.in1 (newList [] >>= λl=>again (.builtin "list.__iadd__" ⟨[l,.ref r],[]⟩)) _ _ s;refine fc (iy (fh ⟨gG F.plain_list_iadd _,gF F.entry_list_iadd ?_⟩));rw[Around.under_plainId F.plain_list_iadd _];show wpAny _ A.in1 (Builtin.List.listExtendWith (.ref 58) (.ref r) (.ref 58)) _ _ _;have e0:(s.heap.push { cls:=.type "list",data:=.seq ([]:List Value).toArray }).get? 58=some { cls:=.type "list",data:=.seq #[] 0 }:=78 _ rfl;have fin:∀g tk (acc:Array Value) c',(∀b o,b≠58->(s.heap.push { cls:=.type "list",data:=.seq ([]:List Value).toArray }).get? b=some o->g.get? b=some o)->g.get? 58=some { cls:=.type "list",dict:=none,data:=.seq acc c',slots:=#[] }->ItemsOf (λi v=>∃t,v=.int (a+i*c) t) acc n ->
  wpAny 89 A (load 58 >>= λo=>match o.data with|Data.seq xs epoch=>pure xs.toList|x=>unsupported "internal:collect") Q E { s with heap:=g,toks:=tk }:=λg tk acc c' kp eS it=>
  fc (wpAny_load eS (fh (hQ g tk acc (λb o q=>kp b o (fz (74 q)) (66 _ q)) it)))
 refine fw (wpAny_extend_range (A:=A) (R:=λr s'=>r=.ok (.ret (.ref 58))/\∃g tk,s'={ s with heap:=g,toks:=tk }/\wpAny 89 A (load 58 >>= λo=>match o.data with|Data.seq xs epoch=>pure xs.toList|x=>unsupported "internal:collect") Q E s')
  (s:={ s with heap:=s.heap.push { cls:=.type "list",data:=.seq ([]:List Value).toArray } }) hh (66 _ hr) hsm hn hl 58 (.ref 58) 0 e0 λg tk acc c' kp eS it=>⟨rfl,g,tk,rfl,fin g tk acc c' kp eS it⟩) (λfn s' h=>?_) (λe s' h=>absurd h.1 (by simp))
 cases fn with
 |done f=>
  obtain⟨e,_,_,_,q⟩:=h;cases e;exact q
 |again c'=>exact⟨h.1,i0 h.2 λr s'' hr=>by obtain⟨rfl,_,_,_,q⟩:=hr;exact q⟩
def MQ(r:Addr)(a b c:Int)(t u v:Tok)(n:Nat)(hsm:Builtin.Range.small a b c=true)(hn:Builtin.Range.rangeSize a b c=n)(hl:n<=2^24):
 Meets (Builtin.«tuple.__new__» ⟨[.type "tuple",.ref r],[]⟩)
  (λ(A:Around) (R:Result->Shared->Prop) (s:Shared)=>A.handled=none/\IsRange s.heap r a b c t u v/\∀(g:Heap) (tk:Nat) (acc:Array Value),(∀b o,s.heap.get? b=some o->g.get? b=some o)->ItemsOf (λi v=>∃t,v=.int (a+i*c) t) acc n->R (.ok (.ret (.ref g.objs.size))) { s with heap:=g.push { cls:=.type "tuple",data:=.seq acc },toks:=tk }):=
 .of_wp λprog w A R s h=>by
  obtain⟨hp,gg,d,tk,os⟩:=s;obtain⟨hh,hr,h⟩:=h;have hsub:=sub_tuple_self;have hinit:=init_tuple_lookup;have hmh:=madeHere_tuple;have hT:Shared.TypeIs ⟨hp,gg,d,tk,os⟩ (.ref r) "range":=⟨_,hr,rfl⟩
  have hh':A.in1.handled=none:=hh
  wp_walk using wpAny_typeOf hT,wpAny_loadPart' hr,ID hh' hr hsm hn hl
  intro g tk2 acc kp it;show wpAny _ _ (Builtin.Tuple.tupleExact acc.toList.toArray >>= λv=>ret v) _ _ _;unfold Builtin.Tuple.tupleExact;refine fc (iy ?_ (by show acc.toList.toArray.size<=sizeLine;rw[gp];have:=it.1;simp only[Array.toArray_toList];omega));refine fh ⟨_,rfl,?_⟩;have e:acc.toList.toArray=acc:=by simp
  rw[e];exact h g tk2 acc kp it
end
def OO:List V->Hp->VK->Prop:=λxs H Q=>∃j:Int,xs=[.int j]/\∀p,H p=none->Q (.ref p) (upd H p (.rng 0 j))
def ON:List V->Hp->VK->Prop:=λxs H Q=>∃i j:Int,xs=[.int i,.int j]/\∀p,H p=none->Q (.ref p) (upd H p (.rng i j))
def N1:List V->Hp->VK->Prop:=λxs H Q=>∃a lo hi,xs=[.ref a]/\H a=some (.rng lo hi)/\(-(2^62)<=lo/\lo<2^62/\-(2^62)<=hi/\hi<2^62)/\(hi-lo).toNat<=2^24/\∀p,H p=none->Q (.ref p) (upd H p (.lst (BB lo (hi-lo).toNat)))
def KL:List V->Hp->VK->Prop:=λxs H Q=>∃a lo hi,xs=[.ref a]/\H a=some (.rng lo hi)/\(-(2^62)<=lo/\lo<2^62/\-(2^62)<=hi/\hi<2^62)/\(hi-lo).toNat<=2^24/\∀p,H p=none->Q (.ref p) (upd H p (.tup (BB lo (hi-lo).toNat)))
section
def call_rng1:CallR X (.type "range") OO:=by
 intro pins s σ H xs us Q I r h;obtain⟨j,rfl,q⟩:=h;obtain⟨u,rfl,t,rfl⟩:=BJ r;exact call_range_1 ⟨.ref 58,_,I.laid (a:=58) (o:=.rng 0 j) (λb o e=>66 _ e) (fg _) ⟨_,_,_,78 _ rfl⟩,rfl,q _ (I.hok.fresh (fg _))⟩
def LW:CallR X (.type "range") ON:=by
 intro pins s σ H xs us Q I r h;obtain⟨i,j,rfl,q⟩:=h;obtain⟨u,v,rfl,⟨t,rfl⟩,⟨t',rfl⟩⟩:=Ov r;exact call_range_2 ⟨.ref 58,_,I.laid (a:=58) (o:=.rng i j) (λb o e=>66 _ e) (fg _) ⟨_,_,_,78 _ rfl⟩,rfl,q _ (I.hok.fresh (fg _))⟩
def PL{lo hi:Int}:Builtin.Range.rangeSize lo hi 1=((hi-lo).toNat:Nat):=by rw[rangeSize_one];split<;>omega
def GD{lo:Int}{n:Nat}(it:ItemsOf (λi v=>∃t,v=.int (lo+i*1) t) acc n):Vals (BB lo n) acc.toList:=JV (by simpa using it.1) λj v q=>it.2 j v (by simpa using q)
def QM(hc:X.calm=true):CallR X (.type "list") N1:=by
 intro pins s σ H xs us Q I r h;obtain⟨a,lo,hi,rfl,ha,⟨b1,b2,b3,b4⟩,hz,q⟩:=h;obtain⟨u,rfl,ru⟩:=BJ r;cases ru;obtain⟨t,u,v,hr⟩:∃t u v,s.heap.get? a=some { cls:=.type "range",data:=.fields #[.int lo t,.int hi u,.int 1 v] }:=I.hok a _ ha;refine call_list_range (I.ok.hd hc) hr (small_one b1 b2 b3 b4) PL hz λg tk acc c' kp e it=>?_;exact⟨.ref 58,_,I.laid (t':=tk) (o:=.lst _) kp (fg _) ⟨by rw[JW,gp];omega,acc.toList,c',GD it,by simpa using e⟩,rfl,q _ (I.hok.fresh (fg _))⟩
def O3(hc:X.calm=true):CallR X (.type "tuple") KL:=by
 intro pins s σ H xs us Q I r h;obtain⟨a,lo,hi,rfl,ha,⟨b1,b2,b3,b4⟩,hz,q⟩:=h;obtain⟨u,rfl,ru⟩:=BJ r;cases ru;obtain⟨t,u,v,hr⟩:∃t u v,s.heap.get? a=some { cls:=.type "range",data:=.fields #[.int lo t,.int hi u,.int 1 v] }:=I.hok a _ ha;refine callType_new F.called_tuple 90 (F.typeCall_tuple_1 _) (F.newCall_tuple_1 _) (λobj=>F.args_object_init_2 obj _) F.entry_tuple_new (MQ a lo hi 1 t u v _ (small_one b1 b2 b3 b4) PL hz)
  ⟨I.ok.hd hc,hr,λg tk acc kp it=>⟨⟨_,78 _ rfl,rfl⟩,?_⟩⟩
 have I1:Inv X pins σ H { s with heap:=g,toks:=tk }:=I.kept kp;exact⟨.ref g.objs.size,_,I1.laid (t':=tk) (o:=.tup (BB lo (hi-lo).toNat)) (λb o e=>66 _ e) (fg _) ⟨by rw[JW,gp];omega,acc.toList,GD it,⟨_,78 _ rfl,rfl,⟨0,by simp⟩,rfl⟩⟩,rfl,q _ (I1.hok.fresh (fg _))⟩
end
section
variable{K:Frag}
open Classical in
noncomputable def Gv(m:MA):MA:=λls hd=>(m ls hd).bind λp=>match p.1 with
 |[.im (.int j)]=>if He j then some (Aw 0 j.toNat,p.2)else none
 |[.im (.int i),.im (.int j)]=>if Va i j then some (Aw i (j-i).toNat,p.2)else none
 |_=>none
def Ja:List V->Hp->VK->Prop:=λxs H Q=>OO xs H Q∨ON xs H Q
def Tv(h:RA K t m):RN K (tCB N1 (BK (tCB Ja t) BQ)) (Gv m):=by
 and_intros;obtain⟨⟨d1,h1⟩,e1,hm⟩:=fJ hm;dsimp only at hm;refine h ρ σ H hd ls _ d1 h1 hR hL e1 λρ1 H1 v x1 R1 r1=>?_;split at hm
 .next j=>
  split at hm
  .next c=>
   have c:j<2^24/\-(2^62)<=j:=c;cases hm;simp only[RDs,RD,RI]at r1;obtain⟨x,r,rfl,rfl,rfl⟩:=r1;refine .inl ⟨j,rfl,λp hp=>⟨p,0,j,rfl,AF,⟨by decide,by decide,c.2,by omega⟩,by omega,λl hl=>?_⟩⟩;obtain⟨R2,x2⟩:=R1.hid (ho:=.rng 0 j) hp;obtain⟨R3,x3⟩:=R2.hid (ho:=.lst (BB 0 (j-0).toNat)) hl;refine hQ ρ1 _ l (BB 0 (j-0).toNat) ((79).trans R2 x3) R3 ((79).none hR hl R2) (R2.out hl) AF ?_;rw[Int.sub_zero];exact G3 0 _
  .cases hm
 .next i j=>
  split at hm
  .next c=>
   cases hm;simp only[RDs,RD,RI]at r1;obtain⟨x,r,rfl,rfl,y,r2,rfl,rfl,rfl⟩:=r1;refine .inr ⟨i,j,rfl,λp hp=>⟨p,i,j,rfl,AF,⟨c.1.1,c.1.2,c.2.1.1,c.2.1.2⟩,c.2.2,λl hl=>?_⟩⟩;obtain⟨R2,x2⟩:=R1.hid (ho:=.rng i j) hp;obtain⟨R3,x3⟩:=R2.hid (ho:=.lst (BB i (j-i).toNat)) hl;exact hQ ρ1 _ l (BB i (j-i).toNat) ((79).trans R2 x3) R3 ((79).none hR hl R2) (R2.out hl) AF (G3 i _)
  .cases hm
 .cases hm
noncomputable def Jg(m:MA):ME:=λls hd=>(Gv m ls hd).bind λp=>some (B0 p.1,p.2)
def Ww(h:RA K t m):RE K (tCB KL (BK (tCB Ja t) BQ)) (Jg m):=by
 and_intros;obtain⟨⟨dd,h0⟩,e0,hm⟩:=fJ hm;cases hm;obtain⟨⟨d1,h1⟩,e1,hm⟩:=fJ e0;dsimp only at hm;refine h ρ σ H hd ls _ d1 h1 hR hL e1 λρ1 H1 v x1 R1 r1=>?_;split at hm
 .next j=>
  split at hm
  .next c=>
   have c:j<2^24/\-(2^62)<=j:=c;cases hm;simp only[RDs,RD,RI]at r1;obtain⟨x,r,rfl,rfl,rfl⟩:=r1;refine .inl ⟨j,rfl,λp hp=>⟨p,0,j,rfl,AF,⟨by decide,by decide,c.2,by omega⟩,by omega,λl hl=>?_⟩⟩;obtain⟨R2,x2⟩:=R1.hid (ho:=.rng 0 j) hp;obtain⟨R3,x3⟩:=R2.hid (ho:=.tup (BB 0 (j-0).toNat)) hl;refine hQ ρ1 _ _ ((79).trans R2 x3) R3 (Cd (SqT.of AF) ?_);rw[Int.sub_zero];exact G3 0 _
  .cases hm
 .next i j=>
  split at hm
  .next c=>
   cases hm;simp only[RDs,RD,RI]at r1;obtain⟨x,r,rfl,rfl,y,r2,rfl,rfl,rfl⟩:=r1;refine .inr ⟨i,j,rfl,λp hp=>⟨p,i,j,rfl,AF,⟨c.1.1,c.1.2,c.2.1.1,c.2.1.2⟩,c.2.2,λl hl=>?_⟩⟩;obtain⟨R2,x2⟩:=R1.hid (ho:=.rng i j) hp;obtain⟨R3,x3⟩:=R2.hid (ho:=.tup (BB i (j-i).toNat)) hl;exact hQ ρ1 _ _ ((79).trans R2 x3) R3 (Cd (SqT.of AF) (G3 i _))
  .cases hm
 .cases hm
def Cn:∀{xs ys:List Int},xs.Perm ys->xs.Pairwise (·<=·)->ys.Pairwise (·<=·)->xs=ys:=λ{xs ys} p a b=>
 p.eq_of_pairwise (le:=(·<=·)) (λ_ _ _ _ h1 h2=>Int.le_antisymm h1 h2) a b
noncomputable def AX(xs:List Int):List Int:=xs.mergeSort (λa b=>decide (a<=b))
def Br(xs:List Int):(AX xs).Perm xs:=List.mergeSort_perm ..
def Cc(xs:List Int):(AX xs).Pairwise (·<=·):=by
 have:=List.pairwise_mergeSort (le:=λa b:Int=>decide (a<=b)) (by intro a b c h1 h2;simp at *;omega) (by intro a b;simp;omega) xs;exact this.imp 70
noncomputable def Bn(m:MI):MA:=λls hd=>(m ls hd).bind λp=>(Ao p.1.1).bind λns=>if ns.length<64 then some ((AX ns).map λi=>.im 134,p.2)else none
def PQ(h:RRw K false t m):RN K (tCB (KM K) (BK t BQ)) (Bn m):=by
 and_intros;obtain⟨⟨⟨d1,g1⟩,h1⟩,e1,hm⟩:=fJ hm;obtain⟨ns,e2,hm⟩:=fJ hm;split at hm
 .next c=>
  cases hm;refine h ρ σ H hd ls _ d1 g1 _ hR hL e1 λρ1 H1 a x1 R1 G1 S1=>?_;obtain⟨xs,q,r⟩:=S1 ρ1 H1 _ .refl R1 G1;have e3:d1=ns.map λi=>.im 134:=C0 e2;rw[e3]at r;have:=Dc r;subst this;refine⟨a,ns,rfl,q,c,λp ns' hp pm pw=>?_⟩;have:ns'=AX ns:=Cn (pm.trans (Br ns).symm) pw (Cc ns);subst this;obtain⟨R2,x2⟩:=R1.hid (ho:=.lst ((AX ns).map V.int)) hp;exact hQ ρ1 _ p _ 79 R2 (x1.none hR hp R1) (R1.out hp) AF Di
 .cases hm
end
section
variable(K:Frag){X:Cx}{b:Expr}{ta tb:TE}{me:ME}
def UM(hm:X.mg "list"=none)(hm2:X.mg "range"=none)(ha:QA K X (a::es) t m)(hc:X.calm=true:=by rfl)(hg:Gl X "list":=by rfl)(hg2:Gl X "range":=by rfl)(he2:starEach (a::es) X.env=(false,eval a X.env)::starEach es X.env:=by rfl)(hpl:(backTo pos2 130).any (·.1)=false:=by rfl)
 (he:starEach [.Call (.Name "range" p2) (a::es) [] pos2] X.env=[(false,eval (.Call (.Name "range" p2) (a::es) [] pos2) X.env)]:=by rfl):
 QN K X (.Call (.Name "list" p) [.Call (.Name "range" p2) (a::es) [] pos2] [] pos) (tCB N1 (BK (tCB Ja t) BQ)) (Gv m):=
 ⟨Cf (QM hc) hg hm Oo (Bm (Cf (call_rng1.or LW) hg2 hm2 boot_range ha.p 90 90 he2 hpl) CL he) 90 90 he rfl,Tv ha.r⟩
def XY(hm:X.mg "tuple"=none)(hm2:X.mg "range"=none)(ha:QA K X (a::es) t m)(hc:X.calm=true:=by rfl)(hg:Gl X "tuple":=by rfl)(hg2:Gl X "range":=by rfl)(he2:starEach (a::es) X.env=(false,eval a X.env)::starEach es X.env:=by rfl)(hpl:(backTo pos2 130).any (·.1)=false:=by rfl)
 (he:starEach [.Call (.Name "range" p2) (a::es) [] pos2] X.env=[(false,eval (.Call (.Name "range" p2) (a::es) [] pos2) X.env)]:=by rfl):
 QE K X (.Call (.Name "tuple" p) [.Call (.Name "range" p2) (a::es) [] pos2] [] pos) (tCB KL (BK (tCB Ja t) BQ)) (Jg m):=
 ⟨Cf (O3 hc) hg hm bt_tuple (Bm (Cf (call_rng1.or LW) hg2 hm2 boot_range ha.p 90 90 he2 hpl) CL he) 90 90 he rfl,Ww ha.r⟩
def Pf(hm:X.mg "sorted"=none)(ha:QR K false X e te mi)(hg:Gl X "sorted":=by rfl)(he:starEach [e] X.env=[88]:=by rfl)(hK:X.K=K:=by rfl):QN K X (.Call (.Name "sorted" p) [e] [] pos) (tCB (KM K) (BK te BQ)) (Bn mi):=
 ⟨Ei (Na K hK) hg hm FE (Bm ha.p CL he) 90 90 he rfl,PQ ha.r⟩
end
end L2
namespace L2
structure BltA(mg:PySem.Str->Option PySem.Value):Prop where
 list:mg "list"=none
 tuple:mg "tuple"=none
 len:mg "len"=none
 range:mg "range"=none
 repr:mg "repr"=none
 sum:mg "sum"=none
 min:mg "min"=none
 max:mg "max"=none
 abs:mg "abs"=none
 all:mg "all"=none
 any:mg "any"=none
 sorted:mg "sorted"=none
 zip:mg "zip"=none
 isinstance:mg "isinstance"=none
 int:mg "int"=none
 bool:mg "bool"=none
 str:mg "str"=none
 set:mg "set"=none
 enumerate:mg "enumerate"=none
 reversed:mg "reversed"=none
 dict:mg "dict"=none
end L2
namespace L2
open PySem PySem.Spec PyProof.Rows
section
variable{ls:Ls}{hd:Hd}{a b c:MS}{ma mb mc:ME}{ta tb:MT}{m m1 m2:MA}{n:MG}{ns:MGs}{d e:D}
@[simp] theorem Jt:A5 a b ls hd=(a ls hd).bind λp=>match p.1 with
 |.nx ls1=>b ls1 p.2
 |f=>some (f,p.2):=rfl
@[simp] theorem Of:Aa ls hd=some (.nx ls,hd):=rfl
@[simp] theorem Yb:Aq ma ls hd=(ma ls hd).bind λp=>some (.nx ls,p.2):=rfl
@[simp] theorem SU:AN ma ls hd=(ma ls hd).bind λp=>some (.rt p.1,p.2):=rfl
@[simp] theorem NN:Ag ta a b ls hd=(ta ls hd).bind λp=>if p.1=true then a ls p.2 else b ls p.2:=rfl
@[simp] theorem Jv:G8 ma n ls hd=(ma ls hd).bind λp=>(n p.1 ls p.2).map λls'=>(.nx ls',p.2):=rfl
@[simp] theorem Kg(i:Nat):AC i d ls hd=some (ls.set i (some d)):=rfl
@[simp] theorem dm(k:Nat):Bj k ns d ls hd=(AV d).bind λds=>if 83=k then ns ds ls hd else none:=rfl
@[simp] theorem dR(d:D)(ds:List D):AZ n ns (d::ds) ls hd=(n d ls hd).bind λls1=>ns ds ls1 hd:=rfl
@[simp] theorem dt:Bl [] ls hd=some ls:=rfl
@[simp] theorem DS(i:Nat):A0 i ls hd=match ls[i]? with
 |some (some d)=>some (d,hd)
 |_=>none:=rfl
@[simp] theorem fE(i:I):mC i ls hd=some (.im i,hd):=rfl
@[simp] theorem M4(f:D->D->Hd->Option 121):mOp f ma mb ls hd=(ma ls hd).bind λp=>(mb ls p.2).bind λq=>f p.1 q.1 q.2:=rfl
@[simp] theorem NP:CP ta tb ls hd=(ta ls hd).bind λp=>if p.1=true then tb ls p.2 else some (false,p.2):=rfl
@[simp] theorem f6:mOr ta tb ls hd=(ta ls hd).bind λp=>if p.1=true then some (true,p.2)else tb ls p.2:=rfl
@[simp] theorem eF:Gx ta ls hd=(ta ls hd).bind λp=>some (!p.1,p.2):=rfl
@[simp] theorem Js:CB ma ls hd=(ma ls hd).bind λp=>(By p.2 p.1).map (·,p.2):=rfl
@[simp] theorem Hw:A7 ma ls hd=(ma ls hd).bind λp=>match p.1 with
 |.im (.bl b)=>some (b,p.2)
 |_=>none:=rfl
@[simp] theorem f7:mIf ta ma mb ls hd=(ta ls hd).bind λp=>if p.1=true then ma ls p.2 else mb ls p.2:=rfl
@[simp] theorem dy:Hn ma mb ls hd=(A7 ma ls hd).bind λp=>if p.1=true then mb ls p.2 else some (.im (.bl false),p.2):=rfl
@[simp] theorem dq:Hk ma ls hd=(A7 ma ls hd).bind λp=>some (.im (.bl (!p.1)),p.2):=rfl
@[simp] theorem Ju:A3 ls hd=some ([],hd):=rfl
@[simp] theorem Ki:A1 ma m ls hd=(ma ls hd).bind λp=>(m ls p.2).bind λq=>some (p.1::q.1,q.2):=rfl
open Classical in
@[simp] theorem bN:Ay m ls hd=(m ls hd).bind λp=>if BY p.1.length then some (B0 p.1,p.2)else none:=rfl
open Classical in
@[simp] theorem bR:Ab m ls hd=(m ls hd).bind λp=>if BY p.1.length then some (p.1,p.2)else none:=rfl
@[simp] theorem bP:AU m ls hd=(m ls hd).bind λp=>some (.mu p.2.length,p.2++[.lst p.1]):=rfl
@[simp] theorem bQ:EB ma ls hd=(ma ls hd).bind λp=>match p.1 with
 |.im (.int i)=>some (.im (.int (-i)),p.2)
 |_=>none:=rfl
@[simp] theorem eG(neg:Bool):HB neg ma ls hd=(ma ls hd).bind λp=>some (.im (.bl (match p.1 with
 |.im .non=>!neg
 | _=>neg)),p.2):=rfl
@[simp] theorem f8(g:Int->Int->Option I)(i j:Int):fI g (.im 134) (.im (.int j)) hd=(g i j).map (.im ·,hd):=rfl
@[simp] theorem Kh(f g:D->D->Hd->Option 121):GL f g d e hd=match f d e hd with
 |some z=>some z
 |none=>g d e hd:=rfl
@[simp] theorem NO(neg:Bool)(i j:Int):FK neg (.im 134) (.im (.int j)) hd=some (.im (.bl (if neg then !decide (i=j)else decide (i=j))),hd):=by simp[FK,scI,Ml]
@[simp] theorem eI(neg:Bool)(i j:Str):FK neg (.im (.str i)) (.im (.str j)) hd=some (.im (.bl (if neg then !decide (i=j)else decide (i=j))),hd):=by simp[FK,scI,Ml]
@[simp] theorem Vy(i:Int):gIx d (.im 134) hd=(An hd d).bind λds=>(atI ds i).map (·,hd):=rfl
@[simp] theorem Yd:EL d e hd=(C7 hd d).bind λkvs=>(Ci e).bind λk=>(BG kvs k).map (·,hd):=rfl
@[simp] theorem f9(f:List D->Hd->Option 121):mCB f m ls hd=(m ls hd).bind λp=>f p.1 p.2:=rfl
@[simp] theorem cj(tp:Bool)(g:List D->Option D):f1 tp g [d] hd=((if tp then An hd d else Ac hd d)).bind λds=>(g ds).map (·,hd):=rfl
@[simp] theorem SW(g:List D->Option D):B9 g m ls hd=(m ls hd).bind λp=>(g p.1).map (·,p.2):=rfl
@[simp] theorem Q8(f:D->List D->Hd->Option 121):mMt f ma m ls hd=(ma ls hd).bind λp=>match Ac p.2 p.1 with
 |some _=>(m ls p.2).bind λq=>f p.1 q.1 q.2
 |none=>none:=rfl
@[simp] theorem dv(i j:Int):D6 [.im 134,.im (.int j)] hd=some (.im (.int (if j>i then j else i)),hd):=rfl
@[simp] theorem du(i j:Int):GK [.im 134,.im (.int j)] hd=some (.im (.int (if j<i then j else i)),hd):=rfl
@[simp] theorem bS:HA m ma ls hd=(m ls hd).bind λp=>(ma ls p.2).bind λq=>match q.1 with
 |.im (.int i)=>(atI p.1 i).map (·,q.2)
 |_=>none:=rfl
@[simp] theorem bU:Au ma ls hd=(ma ls hd).bind λp=>(AV p.1).map λds=>((ds,[]),p.2):=rfl
@[simp] theorem bW:KU m ls hd=(m ls hd).map λp=>((p.1,[]),p.2):=rfl
@[simp] theorem SV:BI ma ls hd=(ma ls hd).bind λp=>match p.1 with
 |.mu n=>match p.2[n]? with
  |some (.lst ds)=>some ((ds,[(n,ds)]),p.2)
  |_=>none
 |.ro ns=>some ((ns.map λn=>.im (.int n),[]),p.2)
 |_=>none:=rfl
open Classical in
@[simp] theorem bV:DE m ls hd=(m ls hd).bind λp=>match p.1 with
 |[.im (.int j)]=>if Fz j then some ((Aw 0 j.toNat,[]),p.2)else none
 |_=>none:=rfl
@[simp] theorem bX(mi:MI):BA mi n a ls hd=(mi ls hd).bind λp=>BW n a p.1.2 p.1.1 ls p.2:=rfl
open Classical in
@[simp] theorem dw(k:Nat)(ix:List Nat)(mi:MI):Af k ix mi n ta ma ls hd=(mi ls hd).bind λp=>if BY p.1.1.length then B5 n ta ma p.1.2 p.1.1 (Dv k ix ls) p.2 else none:=rfl
@[simp] theorem eD:C6 ls hd=some (true,hd):=rfl
@[simp] theorem dW(F:List D->Hd->Option 121):Ba F m ls hd=(m ls hd).bind λp=>F p.1 p.2:=rfl
@[simp] theorem dE:FZ ls hd=some (none,hd):=rfl
@[simp] theorem dj:Jj ma ls hd=(ma ls hd).bind λp=>match p.1 with
 |.im (.int i)=>some (some i,p.2)
 |_=>none:=rfl
@[simp] theorem dU:Gz m ls hd=m ls hd:=rfl
@[simp] theorem eE(ml mh:MO1):KS ma ml mh ls hd=(ma ls hd).bind λp=>(ml ls p.2).bind λl=>(mh ls l.2).bind λh=>(Ac h.2 p.1).bind λds=>some (GQ ds l.1 h.1,h.2):=rfl
@[simp] theorem di:Jg m ls hd=(Gv m ls hd).bind λp=>some (B0 p.1,p.2):=rfl
open Classical in
@[simp] theorem bO:Gv m ls hd=(m ls hd).bind λp=>match p.1 with
 |[.im (.int j)]=>if He j then some (Aw 0 j.toNat,p.2)else none
 |[.im (.int i),.im (.int j)]=>if Va i j then some (Aw i (j-i).toNat,p.2)else none
 |_=>none:=rfl
@[simp] theorem SS(mi:MI):Bn mi ls hd=(mi ls hd).bind λp=>(Ao p.1.1).bind λns=>if ns.length<64 then some ((AX ns).map λi=>.im 134,p.2)else none:=rfl
open Classical in
@[simp] theorem Yc:Hm ma mb mc ls hd=(mc ls hd).bind λp=>(ma ls p.2).bind λq=>(mb ls q.2).bind λr=>(Ci r.1).bind λk=>match q.1 with
 |.mu n=>match r.2[n]? with
  |some (.dic kvs)=>if DR kvs.length then some (.nx ls,r.2.set n (.dic (De kvs k p.1)))else none
  |_=>none
 |_=>none:=rfl
@[simp] theorem YZ:CQ ma mb mc ls hd=(mc ls hd).bind λp=>(ma ls p.2).bind λq=>(mb ls q.2).bind λr=>match q.1,r.1 with
 |.mu n,.im (.int i)=>match r.2[n]? with
  |some (.lst ds)=>(ixN 83 i).map λj=>(.nx ls,r.2.set n (.lst (ds.set j p.1)))
  |_=>none
 |_,_=>none:=rfl
@[simp] theorem dz(is:List I):AV (.im (.tup is))=some (is.map .im):=rfl
@[simp] theorem eO(ds:List D):AV (.tm ds)=some ds:=rfl
@[simp] theorem eQ(k:Nat):AV (.mu k)=none:=rfl
@[simp] theorem eP(k:List Int):AV (.ro k)=none:=rfl
@[simp] theorem Cb(is:List I):An hd (.im (.tup is))=some (is.map .im):=rfl
@[simp] theorem eR(ds:List D):An hd (.tm ds)=some ds:=rfl
@[simp] theorem VX(k:Nat):An hd (.mu k)=Ac hd (.mu k):=rfl
@[simp] theorem eT(k:List Int):An hd (.ro k)=some (k.map λn=>.im (.int n)):=rfl
@[simp] theorem Ho(k:Nat):Ac hd (.mu k)=match hd[k]? with
 |some (.lst ds)=>some ds
 |_=>none:=rfl
@[simp] theorem eV(k:List Int):Ac hd (.ro k)=some (k.map λn=>.im (.int n)):=rfl
@[simp] theorem fA(k:Nat):C7 hd (.mu k)=match hd[k]? with
 |some (.dic ds)=>some ds
 |_=>none:=rfl
@[simp] theorem eY(i:Int):Ci (.im 134)=some (.inl i):=rfl
@[simp] theorem eX(i:Str):Ci (.im (.str i))=some (.inr i):=rfl
@[simp] theorem eN:B2 []=some []:=rfl
@[simp] theorem fC(i:I)(r:List D):B2 (.im i::r)=(B2 r).map (i::·):=rfl
@[simp] theorem eB:Ao []=some []:=rfl
@[simp] theorem eC(i:Int)(r:List D):Ao (.im 134::r)=(Ao r).map (i::·):=rfl
@[simp] theorem eL:CH []=some []:=rfl
@[simp] theorem fB(i:Bool)(r:List D):CH (.im (.bl i)::r)=(CH r).map (i::·):=rfl
@[simp] theorem BX(is:List I):B0 (is.map .im)=.im (.tup is):=by simp[B0]
@[simp] theorem dD:B0 []=.im (.tup []):=rfl
@[simp] theorem OV(i:I):B0 [.im i]=.im (.tup [i]):=rfl
@[simp] theorem FY(i j:I):B0 [.im i,.im j]=.im (.tup [i,j]):=rfl
@[simp] theorem FX(i j k:I):B0 [.im i,.im j,.im k]=.im (.tup [i,j,k]):=rfl
@[simp] theorem dh(i j k l:I):B0 [.im i,.im j,.im k,.im l]=.im (.tup [i,j,k,l]):=rfl
@[simp] theorem eK(w:Nat)(i:I):clD w (.im i)=true:=by simp[clD]
@[simp] theorem eJ(w n:Nat):clD w (.mu n)=decide (n<w):=by simp[clD]
@[simp] theorem dY(w:Nat):Ak w []=true:=by simp[Ak]
@[simp] theorem Sf(w:Nat)(d:D)(ds:List D):Ak w (d::ds)=(clD w d&&Ak w ds):=by simp[Ak]
@[simp] theorem Cw{α:Type}(x:α)(r:List α):atI (x::r) 0=some x:=Bf (j:=0) rfl
@[simp] theorem Ew{α:Type}(x y:α)(r:List α):atI (x::y::r) 1=some y:=Bf (j:=1) rfl
@[simp] theorem Eu{α:Type}(x y z:α)(r:List α):atI (x::y::z::r) 2=some z:=Bf (j:=2) rfl
def JA{α:Type}{xs:List α}{i:Int}{k:Nat}{x:α}(hi:i=k)(h:xs[k]?=some x):atI xs i=some x:=by subst hi;exact Bf h
@[simp] theorem E6:BY 0:=AL 90
@[simp] theorem DQ:BY 1:=AL 90
@[simp] theorem Fh:BY 2:=AL 90
@[simp] theorem DP:BY 3:=AL 90
@[simp] theorem SN:BY 4:=AL 90
@[simp] theorem SM:BY 5:=AL 90
open Classical in
@[simp] theorem SX(k:Nat)(x:D):Ad (.mu k) [x] hd=match hd[k]? with
 |some (.lst ds)=>if DR 83 then some (.im .non,hd.set k (.lst (ds++[x])))else none
 |_=>none:=rfl
def HV{F:List D->Hd->Option 121}(h1:m ls hd=some (ds,hd1))(hc:Ak 0 ds=true)(hF:F ds []=some (.im i,h2)):A9 0 F m ls hd=some (.im i,hd1):=by
 simp[A9,h1,hc,hF,fin]
def QU{F:List D->Hd->Option 121}{k:Nat}(h1:m ls hd=some (ds,hd1))(hc:Ak 0 ds=true)(hF:F ds []=some (.mu k,h2))(hk:h2[k]?=some (.lst es))(hes:Ak 0 es=true):A9 0 F m ls hd=some (.mu hd1.length,hd1++[.lst es]):=by
 simp[A9,h1,hc,hF,fin,hk,hes]
def Nf{w:Nat}{F:List D->Hd->Option 121}{pre pre' rest:Hd}(hw:pre.length=w)(hw':pre'.length=w)(h1:m ls hd=some (ds,pre++rest))(hc:Ak w ds=true)(hp:pre.all (clO w)=true)(hp':pre'.all (clO w)=true)(hF:F ds pre=some (.im i,pre'++g)):A9 w F m ls hd=some (.im i,pre'++rest):=by
 subst hw;have e1:(pre++rest).take pre.length=pre:=by simp
 have e2:(pre'++g).take pre.length=pre':=by rw[<- hw'];simp
 simp only[A9,h1,bind_some,e1,hc,hp,hF,fin,e2,hp'];simp
end
def NB:BW n b g [] ls hd=some (.nx ls,hd):=by unfold BW;rfl
def HE(h1:n d ls hd=some ls1)(h2:b ls1 hd=some (.nx ls2,hd2))(h3:GOk hd2 g):BW n b g (d::r) ls hd=BW n b g r ls2 hd2:=by
 conv=>lhs;unfold BW
 simp[h1,h2,h3]
def Uz(h1:n d ls hd=some ls1)(h2:b ls1 hd=some (.rt v,hd2)):BW n b g (d::r) ls hd=some (.rt v,hd2):=by
 conv=>lhs;unfold BW
 simp[h1,h2]
section
variable{K:Frag}
def YW(G:GOk h g)(r:Hd):GOk (h++r) g:=λp hp=>by
 have:=G p hp;have hl:p.1<h.length:=(73 this).1;rw[List.getElem?_append_left hl];exact this
end
open Classical in
noncomputable def G7(ma mb:ME):MA:=λls hd=>(ma ls hd).bind λp=>(mb ls p.2).bind λq=>match p.1,q.1 with
 |.mu i,.mu j=>match q.2[i]?,q.2[j]? with
  |some (.lst xs),some (.lst ys)=>if BY (85+ys.length)then some (xs++ys,q.2)else none
  |_,_=>none
 |_,_=>none
def Z7{K:Frag}(ha:RE K ta ma)(hb:RE K tb mb):RN K (tOp UE ta tb) (G7 ma mb):=by
 and_intros;obtain⟨⟨d1,h1⟩,e1,hm⟩:=fJ hm;obtain⟨⟨d2,h2⟩,e2,hm⟩:=fJ hm;dsimp only at hm;split at hm
 .next i j=>
  split at hm
  .next xs ys q1 q2=>
   split at hm
   .next c=>
    cases hm;refine ha ρ σ H hd ls _ _ h1 hR hL e1 λρ1 H1 v x1 R1 r1=>?_;refine hb ρ1 σ H1 h1 ls _ _ _ R1 122 e2 λρ2 H2 u x2 R2 r2=>?_;have r1':=r1.ext R1 x2;simp only[RD]at r1' r2;obtain⟨a,ka,rfl⟩:=r1';obtain⟨b,kb,rfl⟩:=r2;obtain⟨vs,f1,f2⟩:=R2.lst ka q1;obtain⟨us,f3,f4⟩:=R2.lst kb q2;refine⟨a,b,vs,us,rfl,rfl,f1,f3,by rw[f2.len,f4.len];exact c,λp hp=>?_⟩;obtain⟨R3,x3⟩:=R2.hid (ho:=.lst (vs++us)) hp;have x12:=x1.trans R1 x2;exact hQ ρ2 _ p _ (x12.trans R2 x3) R3 (x12.none hR hp R2) (R2.out hp) AF ((f2.app f4).ext R2 x3)
   .cases hm
  .cases hm
 .cases hm
def Zk(K:Frag)(ha:QE K X a ta ma)(hb:QE K X b tb mb):QN K X (.BinOp a .Add b pos) (tOp UE ta tb) (G7 ma mb):=⟨Pi am ha.p hb.p,Z7 ha.r hb.r⟩
end L2
namespace L2
open PySem PySem.Spec PyProof.Rows PySem.W
section
variable(r:Nat->Int)(n:Nat)
def PWp{α:Type}:KasT α->(α->Prop)->Prop
 |.ret a,Q=>Q a
 |.ask i j k,Q=>i<n/\j<n/\PWp (k (decide (r i<r j))) Q
noncomputable def kv(p:Array Nat)(i:Nat):Int:=r (p.getD i 0)
def STo(p:Array Nat)(m:Nat):Prop:=∀i j,i<=j->j<m->kv r p i<=kv r p j
def DTo(p:Array Nat)(m:Nat):Prop:=∀i j,i<=j->j<m->kv r p j<=kv r p i
def EqL(p:Array Nat)(m q:Nat):Prop:=∀k,m-(q+1)<=k->k<m->kv r p k=kv r p (m-1)
def PAr(p:Array Nat):Prop:=p.Perm (69 n).toArray
end
section
variable{r:Nat->Int}{n:Nat}
theorem PWp.bind{α β:Type}{f:α->KasT β}{Q:β->Prop}:∀{t:KasT α},PWp r n t (λa=>PWp r n (f a) Q)->PWp r n (t.bind f) Q
 |.ret _,h=>h
 |.ask i j k,h=>⟨h.1,h.2.1,PWp.bind h.2.2⟩
theorem PWp.mono{α:Type}{Q Q':α->Prop}:∀{t:KasT α},PWp r n t Q->(∀a,Q a->Q' a)->PWp r n t Q'
 |.ret _,h,q=>q _ h
 |.ask i j k,h,q=>⟨h.1,h.2.1,PWp.mono h.2.2 q⟩
theorem PWp.wp{α:Type}{cmp:Nat->Nat->(Bool->Shared->Prop)->Shared->Prop}{P:Shared->Prop}{Q:α->Shared->Prop}(hc:∀i j C s,i<n->j<n->P s->(∀s',P s'->C (decide (r i<r j)) s')->cmp i j C s):∀{t:KasT α} {s:Shared},PWp r n t (λa=>∀s,P s->Q a s)->P s->t.kasWp cmp Q s
 |.ret _,s,h,p=>h s p
 |.ask i j k,s,h,p=>hc i j _ s h.1 h.2.1 p λs' p'=>PWp.wp hc h.2.2 p'
theorem PAr.size(h:PAr n p):p.size=n:=by have:=h.size_eq;simpa using this
def PAr.lt(h:PAr n p){i:Nat}(hi:i<n):p.getD i 0<n:=by
 have hs:=h.size;have hi':i<p.size:=by omega
 have:p[i]∈(69 n).toArray:=h.mem_iff.mp (Array.getElem_mem hi');have e:p.getD i 0=p[i]:=by simp[Array.getD,hi']
 rw[e];simpa using this
def Jl{p:Array Nat}{i j:Nat}(hj:j<=p.size)(k:Nat):kv r (kas_rev p i j) k=if i<=k/\k<j then kv r p (i+j-1-k)else kv r p k:=by
 unfold kv kas_rev;simp only[Array.getD_eq_getD_getElem?];rw[getElem?_mirror_all hj];split<;>rfl
def PAr.rev(h:PAr n p)(i j:Nat):PAr n (kas_rev p i j):=(mirror_perm _ _ _ _).trans h
def OY{p:Array Nat}{m q:Nat}(hj:m<=p.size)(hq:q+1<=m)(h:EqL r p m q)(k:Nat):kv r (kas_rev p (m-(q+1)) m) k=kv r p k:=by
 rw[Jl hj];split
 .next c=>rw[h _ 59 59,h k c.1 c.2]
 .rfl
theorem Ni(pa:PAr n p):∀(f m:Nat),1<=m->m+f<=n->STo r p m->PWp r n (kas_asc p f m) λm'=>m<=m'/\m'<=m+f/\STo r p m'/\(m'<m+f->kv r p m'<kv r p (m'-1))
 |0,m,h1,hn,hs=>⟨fg _,fg _,hs,λh=>by omega⟩
 |f+1,m,h1,hn,hs=>by
  refine⟨pa.lt 59,pa.lt 59,?_⟩;by_cases c:r (p.getD m 0)<r (p.getD (m-1) 0)
  .rw[fZ c];exact⟨fg _,by omega,hs,λ_=>c⟩
  .rw[gh c];refine(Ni pa f (m+1) 59 59 ?_).mono λm' h=>⟨by omega,by omega,h.2.2.1,λz=>h.2.2.2 59⟩
   intro i j hij hj;by_cases e:j<m
   .exact hs i j hij e
   .have:j=m:=by omega
    subst this;by_cases e2:i=j
    .subst e2;exact 102 _
    .have:=hs i (j-1) 59 59;have:kv r p (j-1)<=kv r p j:=by unfold kv;omega
     omega
def Iv{m:Nat}(h1:1<=m)(h:DTo r p m)(c:kv r p m<=kv r p (m-1)):DTo r p (m+1):=by
 intro i j hij hj;by_cases e:j<m
 .exact h i j hij e
 .have:j=m:=by omega
  subst this;by_cases e2:i=j
  .subst e2;exact 102 _
  .have:=h i (j-1) 59 59;omega
theorem Hx:∀(f:Nat) (p:Array Nat) (m q:Nat),PAr n p->1<=m->q+1<=m->m+f<=n->DTo r p m->EqL r p m q ->
 PWp r n (kas_desc f p m q) λz=>PAr n z.1/\m<=z.2.1/\z.2.1<=m+f/\DTo r z.1 z.2.1/\EqL r z.1 z.2.1 z.2.2/\z.2.2+1<=z.2.1
 |0,p,m,q,pa,h1,hq,hn,hd,he=>⟨pa,fg _,fg _,hd,he,hq⟩
 |f+1,p,m,q,pa,h1,hq,hn,hd,he=>by
  refine⟨pa.lt 59,pa.lt 59,?_⟩;have sz:=pa.size;by_cases c:r (p.getD m 0)<r (p.getD (m-1) 0)
  .rw[fZ c];have c':kv r p m<=kv r p (m-1):=by unfold kv;omega
   dsimp only;rw[fb rfl];by_cases hq0:q>0
   .rw[fb hq0];have sm:=OY (r:=r) (p:=p) (m:=m) (q:=q) 59 hq he;refine(Hx f _ (m+1) 0 (pa.rev _ _) 59 59 59 ?_ ?_).mono λz h=>⟨h.1,by omega,by omega,h.2.2.2⟩
    .have:=Iv h1 hd c';intro i j a b;rw[sm,sm];exact this i j a b
    .intro k a b;have:k=m:=by omega
     subst this;rfl
   .rw[fe hq0];refine(Hx f p (m+1) 0 pa 59 59 59 (Iv h1 hd c') ?_).mono λz h=>⟨h.1,by omega,by omega,h.2.2.2⟩
    intro k a b;have:k=m:=by omega
    subst this;rfl
  .rw[gh c];dsimp only;rw[fe Bool.false_ne_true];refine⟨pa.lt 59,pa.lt 59,?_⟩;by_cases d:r (p.getD (m-1) 0)<r (p.getD m 0)
   .rw[fZ d];exact⟨pa,fg _,by show m<=m+(f+1);omega,hd,he,hq⟩
   .rw[gh d];dsimp only;rw[fe Bool.false_ne_true];have e:kv r p m=kv r p (m-1):=by unfold kv;omega
    refine(Hx f p (m+1) (q+1) pa 59 59 59 (Iv h1 hd 59) ?_).mono λz h=>⟨h.1,by omega,by omega,h.2.2.2⟩
    intro k a b;by_cases e2:k=m
    .subst e2;rfl
    .have:=he k 59 59;have e3:m+1-1=m:=rfl;rw[e3];omega
def Run(z:Nat×Array Nat)(r:Nat->Int)(n:Nat):Prop:=PAr n z.2/\1<=z.1/\z.1<=n/\STo r z.2 z.1
def MU{m:Nat}(pa:PAr n p)(h1:1<=m)(hn:m<=n)(hd:DTo r p m):PWp r n (kas_tail3 m n p) λz=>Run z r n:=by
 have sz:=pa.size;have st:STo r (kas_rev p 0 m) m:=by
  intro i j a b;rw[Jl 59,Jl 59,fb ⟨by omega,by omega⟩,fb ⟨by omega,by omega⟩];exact hd _ _ 59 59
 refine PWp.bind ((Ni (pa.rev 0 m) (n-m) m h1 59 st).mono λm' h=>?_);exact⟨pa.rev 0 m,by show 1<=m';omega,by show m'<=n;omega,h.2.2.1⟩
def IE{m:Nat}(pa:PAr n p)(hn:m+1<=n)(hd:DTo r p (m+1)):PWp r n (kas_descPart m n p) λz=>Run z r n:=by
 refine PWp.bind ((Hx (n-(m+1)) p (m+1) 0 pa 59 59 59 hd ?_).mono λz h=>?_)
 .intro k a b;have:k=m:=by omega
  subst this;rfl
 .obtain⟨a,b,c,d,e,g⟩:=h;have sz:=a.size;by_cases hq:z.2.2>0
  .rw[fb hq];have sm:=OY (r:=r) (p:=z.1) (m:=z.2.1) (q:=z.2.2) 59 g e;exact MU (a.rev _ _) 59 59 λi j x y=>by rw[sm,sm];exact d i j x y
  .rw[fe hq];exact MU a 59 59 d
def VL(h1:1<=n):PWp r n (kas_count n (List.toArray (69 n))) λz=>Run z r n:=by
 have pa:PAr n (69 n).toArray:=.refl _;have sz:=pa.size;refine PWp.bind ((Ni pa (n-1) 1 59 59 λi j a b=>?_).mono λm h=>?_)
 .have:i=j:=by omega
  subst this;exact 102 _
 .obtain⟨a,b,c,d⟩:=h;by_cases e:(m==n)=true
  .rw[fb e];have:m=n:=by simpa using e
   exact⟨pa,by show 1<=m;omega,by show m<=n;omega,c⟩
  .rw[fe e];have hne:m≠n:=by simpa using e
   have dd:=d 59;by_cases h2:m>1
   .rw[fb h2];refine⟨pa.lt 59,pa.lt 59,?_⟩;by_cases g:r ((69 n).toArray.getD 0 0)<r ((69 n).toArray.getD (m-1) 0)
    .rw[fZ g];exact⟨pa,by show 1<=m;omega,by show m<=n;omega,c⟩
    .rw[gh g];dsimp only;rw[fe Bool.false_ne_true];have g':kv r (69 n).toArray (m-1)<=kv r (69 n).toArray 0:=by unfold kv;omega
     have eq:∀k,k<m->kv r (69 n).toArray k=kv r (69 n).toArray 0:=λk hk=>by
      have x1:=c 0 k 59 hk;have x2:=c k (m-1) 59 59;omega
     have rv:∀k,kv r (kas_rev (69 n).toArray 0 m) k=kv r (69 n).toArray k:=λk=>by
      rw[Jl 59];split
      .next z=>rw[eq _ 59,eq k z.2]
      .rfl
     refine IE (pa.rev 0 m) 59 λi j x y=>?_;rw[rv,rv];by_cases z:j<m
     .rw[eq i 59,eq j z];exact 102 _
     .have:j=m:=by omega
      subst this;by_cases z2:i=j
      .subst z2;exact 102 _
      .rw[eq i 59];have:=eq (j-1) 59;omega
   .rw[fe h2];have:m=1:=by omega
    subst this;refine IE pa 59 λi j x y=>?_;by_cases z:i=j
    .subst z;exact 102 _
    .have:i=0:=by omega
     have:j=1:=by omega
     subst i j;have:kv r (69 n).toArray 1<kv r (69 n).toArray 0:=dd;omega
theorem IY{k:Nat}(pa:PAr n p)(hk:k<n)(hs:STo r p k):∀(f l q:Nat),l<=q->q<=k->q-l<=f->(∀i,i<l->kv r p i<=kv r p k)->(∀i,q<=i->i<k->kv r p k<kv r p i) ->
 PWp r n (kas_place p k f l q) λm=>m<=k/\(∀i,i<m->kv r p i<=kv r p k)/\∀i,m<=i->i<k->kv r p k<kv r p i
 |0,l,q,a,b,c,d,e=>⟨by omega,d,λi x y=>e i 59 y⟩
 |f+1,l,q,a,b,c,d,e=>by
  unfold kas_place;by_cases h:l>=q
  .rw[fb h];exact⟨by omega,d,λi x y=>e i 59 y⟩
  .rw[fe h];refine⟨pa.lt 59,pa.lt 59,?_⟩;by_cases g:r (p.getD k 0)<r (p.getD ((l+q)/2) 0)
   .rw[fZ g];dsimp only;rw[fb rfl];have g':kv r p k<kv r p ((l+q)/2):=g;refine IY pa hk hs f l ((l+q)/2) 59 59 59 d λi x y=>?_;have:=hs ((l+q)/2) i x y;omega
   .rw[gh g];dsimp only;rw[fe Bool.false_ne_true];have g':kv r p ((l+q)/2)<=kv r p k:=by unfold kv;omega
    refine IY pa hk hs f ((l+q)/2+1) q 59 59 59 (λi x=>?_) e;have:=hs i ((l+q)/2) 59 59;omega
def LL{p:Array Nat}{k d:Nat}(hk:k<p.size)(hd:d<=k)(i:Nat):kv r (bubble p k d) i=if i=k-d then kv r p k else if k-d<i/\i<=k then kv r p (i-1)else kv r p i:=by
 unfold kv;simp only[Array.getD_eq_getD_getElem?];rw[getElem?_bubble hk d hd];split
 .rfl
 .split<;>rfl
theorem Sl:∀(f:Nat) (p:Array Nat) (k:Nat),PAr n p->k+f=n->STo r p k->PWp r n (kas_bin f p k) λz=>PAr n z/\STo r z n
 | 0,p,k,pa,e,hs=>⟨pa,by
  have:k=n:=by omega
  subst this;exact hs⟩
 |f+1,p,k,pa,e,hs=>by
  have sz:=pa.size;refine PWp.bind ((IY pa 59 hs k 0 k 59 59 59 (λi h=>by omega) (λi a b=>by omega)).mono λm h=>?_);obtain⟨a,b,c⟩:=h;refine Sl f _ (k+1) ((bubble_perm _ _ _).trans pa) 59 λi j x y=>?_;rw[LL 59 59,LL 59 59];have ek:k-(k-m)=m:=by omega
  rw[ek]
  repeat' split
  .exact 102 _
  .exact Int.le_of_lt (c _ 59 59)
  .omega
  .exact b _ 59
  .exact hs _ _ 59 59
  .omega
  .exact b _ 59
  .exact hs _ _ 59 59
  .exact hs _ _ 59 59
def OC(h1:1<=n):PWp r n (kas_sort n) λp=>PAr n p/\STo r p n:=by
 refine PWp.bind ((VL h1).mono λz h=>?_);obtain⟨a,b,c,d⟩:=h;by_cases e:z.1<n
 .rw[fb e];have:max z.1 1=z.1:=by omega
  rw[this];exact Sl _ _ _ a 59 d
 .rw[fe e];have:z.1=n:=by omega
  exact⟨a,this ▸ d⟩
end
def PairAt(h:Heap)(v:Value)(p:Int×Int):Prop:=∃(x:Addr) (o:Obj) (t u:Tok) (k:Nat),v=.ref x/\h.get? x=some o/\o.cls=.type "tuple"/\o.data=.seq #[.int p.1 t,.int p.2 u] k
noncomputable def Ap(p:Int×Int):Int:=p.1*4000000000+p.2
def pok(p:Int×Int):Prop:=-1000000000<=p.1/\p.1<=1000000000/\-1000000000<=p.2/\p.2<=1000000000
section
variable{E:Value->Shared->Prop}{s:Shared}
def OX{C:Bool->Shared->Prop}(hx:PairAt s.heap x p)(hy:PairAt s.heap y q)(op:pok p)(oq:pok q)(h:C (decide (Ap p<Ap q)) s):
 wpAny 89 A (keyLt' (tuples' true) x y) C E s:=by
 obtain⟨a,o,t,u,k,rfl,ho,hc,hd⟩:=hx;obtain⟨a2,o2,t2,u2,k2,rfl,ho2,hc2,hd2⟩:=hy;obtain⟨p1,p2⟩:=p;obtain⟨q1,q2⟩:=q;unfold pok at op oq;unfold Ap at h;dsimp only at op oq h;refine kat_lt ho hd ho2 hd2 ?_;refine kat_cons (ip ?_);by_cases e1:p1=q1
 .have b1:(p1==q1)=true:=by simp[e1]
  rw[b1];refine kat_yes (kat_cons (ip ?_));by_cases e2:p2=q2
  .have b2:(p2==q2)=true:=by simp[e2]
   rw[b2];refine kat_yes (kat_nil ?_);have:decide (p1*4000000000+p2<q1*4000000000+q2)=false:=gh 59;rw[this]at h;exact h
  .have b2:(p2==q2)=false:=by simp[e2]
   rw[b2];refine kat_no (kat_one _ _ (lt_int ?_));have:decide (p1*4000000000+p2<q1*4000000000+q2)=decide (p2<q2):=decide_eq_decide.mpr 59;rw[this]at h;exact h
 .have b1:(p1==q1)=false:=by simp[e1]
  rw[b1];refine kat_no (oneLt_int ?_);have:decide (p1*4000000000+p2<q1*4000000000+q2)=decide (p1<q1):=decide_eq_decide.mpr 59;rw[this]at h;exact h
theorem KB:∀{vs:List Value} {ps:List 115},98=112->(∀(i:Nat) (v:Value) (p:Int×Int),vs[i]?=some v->ps[i]?=some p->PairAt h v p)->∃fs,KatTups h vs fs/\fs.length=98/\∀f∈fs,∃i t,f=.int i t
 |[],[],_,_=>⟨[],.nil,rfl,λ_ z=>by cases z⟩
 |v::vs,p::ps,hl,hp=>by
  obtain⟨fs,a,b,c⟩:=KB (vs:=vs) (ps:=ps) (by simpa using hl) λi v q e1 e2=>hp (i+1) v q (by simpa using e1) (by simpa using e2);obtain⟨x,o,t,u,k,rfl,ho,hc,hd⟩:=hp 0 v p rfl rfl;exact⟨.int p.1 t::fs,.cons ho hc hd rfl a,by simp[b],λf hf=>by
   rcases mem_cons.mp hf with rfl|hf
   .exact⟨_,_,rfl⟩
   .exact c f hf⟩
def ES(vs:List Value)(ps:List 115)(out:List Value):Prop:=∃zs:List (Value×115),zs.Perm (vs.zip ps)/\(zs.map λz=>Ap z.2).Pairwise (·<=·)/\out=zs.map (·.1)
def Qn{vs:List Value}{ps:List 115}(hl:98=112)(pa:PAr 98 p)(hs:STo (λi=>Ap (ps.getD i (0,0))) p 98):ES vs ps (p.toList.map λi=>vs.getD i Value.none):=by
 have sz:=pa.size;refine⟨p.toList.map λi=>(vs.getD i Value.none,ps.getD i (0,0)),?_,?_,by rw[fM];rfl⟩
 .have e:vs.zip ps=(69 98).map λi=>(vs.getD i Value.none,ps.getD i (0,0)):=by
   refine ext_getElem? λi=>?_;by_cases hi:i<98
   .have hi2:i<ps.length:=by omega
    rw[(List.getElem?_zip_eq_some (z:=(vs[i],ps[i]))).mpr ⟨by simp[hi],by simp[hi2]⟩];simp[hi,hi2]
   .rw[List.getElem?_eq_none 82,List.getElem?_eq_none 82]
  rw[e];have:=Array.perm_iff_toList_perm.mp pa;simpa using this.map _
 .rw[fM,List.pairwise_iff_getElem];intro i j hi hj hij;simp only[fN,Array.length_toList]at hi hj;have:=hs i j 59 59;unfold kv at this;simpa [Array.getD,hi,hj]using this
def P8{vs:List Value}{ps:List 115}{n:Nat}{P:PySem.Fin->Shared->Prop}(ho:s.heap.get? a=some (seqObj "list" 76 n))(hl:98=112)(h64:98<64)(hok:∀p∈ps,pok p)
 (hp:∀(i:Nat) (v:Value) (p:Int×Int),vs[i]?=some v->ps[i]?=some p->PairAt (s.heap.update a (118 λ_=>#[])) v p)
 (h:∀out:List Value,ES vs ps out->P (.done (.ret .none)) { s with heap:=sortedHeap s.heap a vs out.toArray }):
 wpAny 89 A (Builtin.«list.sort» ⟨[.ref a],[]⟩) P E s:=by
 have ha:=74 ho;have line:98<=sizeLine:=by rw[gp];omega
 obtain⟨e1,ho1⟩:∃e1,(s.heap.update a (Obj.mapSeq λ_=>#[])).get? a=some (seqObj "list" #[] e1):=⟨_,hE ho _⟩
 rw[list_sort_plain];refine fc (listItems_at ho rfl (fc (i3 ho rfl (fc (seqEpoch_at ho1 rfl (fc (wpAny_newTuple (fc (i4 (fX ?_) (gn _))) line)))) (by rw[ft];exact line) (gn _))));have grow:∀b o,(s.heap.update a (118 λ_=>#[])).get? b=some o->(((s.heap.update a (118 λ_=>#[])).push (seqObj "tuple" 76 0)).push 127).get? b=some o:=λb o e=>66 _ (66 _ e);have ho6:=grow _ _ ho1;generalize h6:((s.heap.update a (118 λ_=>#[])).push (seqObj "tuple" 76 0)).push 127=hp6 at *;have done:∀out:List Value,ES vs ps out->P (.done (.ret .none)) { s with heap:=hp6.update a (Obj.mapSeq λ_=>out.toArray) }:=λout z=>by
  have:=h out z;unfold sortedHeap at this;rw[h6]at this;exact this
 show wpAny 89 A _ P E { s with heap:=hp6 };dsimp only;have pairs6:∀(i:Nat) (v:Value) (p:Int×Int),vs[i]?=some v->ps[i]?=some p->PairAt hp6 v p:=λi v p x y=>by
  obtain⟨x',o,t,u,k,e,q,c,d⟩:=hp i v p x y;exact⟨x',o,t,u,k,e,grow _ _ q,c,d⟩
 by_cases h2:vs.toArray.size<2
 .rw[fb h2,fb h2];refine fc (fh ?_);rw[StateT.run_pure];refine fc (fh ?_);dsimp only;have hout:(arrOf (SortSt.mk' general' (vs.toArray.zip 76) #[] 7 none)).map (·.2)=vs.toArray:=by
   show(vs.toArray.zip 76).map (·.2)=76;apply Array.toList_inj.mp;simp only[Array.toList_map,Array.toList_zip];exact map_snd_zip (fg _)
  rw[hout];refine fc (seqEpoch_at ho6 rfl (fc (i3 ho6 rfl ?_ (gn _) (by rw[ft];omega))));simp only[bne_self_eq_false,Bool.false_eq_true,fT];refine fh (done vs ⟨vs.zip ps,.refl _,?_,?_⟩)
  .have hz:(vs.zip ps).length<2:=by simp at h2 ⊢;omega
   cases hh:vs.zip ps with
   |nil=>exact .nil
   |cons z r=>
    cases r with
    |nil=>exact List.pairwise_singleton _ _
    |cons y t=>rw[hh]at hz;exact absurd hz 70
  .rw[List.map_fst_zip 59]
 .rw[fe h2,fe h2];have h2':2<=vs.length:=by simp at h2;omega
  obtain⟨fs,t1,t2,t3⟩:=KB hl pairs6;have tT:∀f∈fs,Looks 89 hp6 (typeOf f) (Value.type "int"):=λf hf=>by
   obtain⟨i,t,rfl⟩:=t3 f hf;exact .of_pure rfl
  refine fc (kat_kind (s:={ s with heap:=hp6 }) t1 59 tT rfl ?_);have est:SortSt.mk' (tuples' true) (vs.toArray.zip 76) #[] 7 none=kas_st (tuples' true) (pairsOf vs) (List.toArray (69 98)):=by
   unfold kas_st;rw[<- pairsOf_size vs,kas_range];rfl
  have ask:(kas_sort 98).kasWp (kas_cmp prog w A (tuples' true) (pairsOf vs)) (λp s'=>s'={ s with heap:=hp6 }/\ES vs ps (p.toList.map λi=>vs.getD i Value.none)) { s with heap:=hp6 }:=by
   rw[<- kas_ask_eq];refine PWp.wp (n:=98) (r:=λi=>Ap (ps.getD i (0,0))) (P:=λs'=>s'={ s with heap:=hp6 }) (λi j C s' hi hj e hC=>?_) ((OC 59).mono λp z s' e=>⟨e,Qn hl z.1 z.2⟩) rfl;subst e;have pi:ps[i]?=some (ps.getD i (0,0)):=by simp[show i<ps.length by omega]
   have pj:ps[j]?=some (ps.getD j (0,0)):=by simp[show j<ps.length by omega]
   have vi:vs[i]?=some (vs.getD i Value.none):=by simp[hi]
   have vj:vs[j]?=some (vs.getD j Value.none):=by simp[hj]
   exact OX (s:={ s with heap:=hp6 }) (pairs6 i _ _ vi pi) (pairs6 j _ _ vj pj) (hok _ (fQ pi)) (hok _ (fQ pj)) (hC _ rfl)
  have run:=kas_runs (E:=E) (Q:=λ_ st' s'=>∃p:Array Nat,p.size=98/\arrOf st'=p.map (kas_item (pairsOf vs))/\failedOf st'=none/\s'={ s with heap:=hp6 }/\ES vs ps (p.toList.map λi=>vs.getD i Value.none)) h2' h64 (λp st' s' x1 x2 x3 x4=>⟨p,x1,x2,x3,x4⟩) ask;rw[<- est]at run;refine fc (fw run ?_ λ_ _ e=>e);rintro⟨⟨⟩,st'⟩ s' ⟨p,hsz,har,hf,rfl,so⟩;dsimp only;have hout:(arrOf st').map (·.2)=(p.toList.map λi=>vs.getD i Value.none).toArray:=by
   rw[har];apply Array.toList_inj.mp;simp only[Array.toList_map,fM];exact i7 λi _=>fS Prod.snd (kas_item_eq vs i)
  rw[hout];refine fc (seqEpoch_at ho6 rfl (fc (i3 ho6 rfl ?_ (gn _) (by simp[hsz];omega))));rw[hf];simp only[bne_self_eq_false,Bool.false_eq_true,fT];exact fh (done _ so)
end
def PairAt.keep{h h':Heap}(k:∀b o,h.get? b=some o->h'.get? b=some o)(q:PairAt h v p):PairAt h' v p:=by
 obtain⟨x,o,t,u,n,e,ho,c,d⟩:=q;exact⟨x,o,t,u,n,e,k _ _ ho,c,d⟩
section
variable{E:Value->Shared->Prop}{s:Shared}
def Me{vs:List Value}{ps:List 115}{Q:Value->Shared->Prop}(hl:s.heap.IsList l 76)(hlen:98=112)(h64:98<64)(hok:∀p∈ps,pok p)
 (hp:∀(i:Nat) (v:Value) (p:Int×Int),vs[i]?=some v->ps[i]?=some p->PairAt s.heap v p)
 (h:∀out:List Value,ES vs ps out->Q (.ref (58+1)) { s with heap:=sortedAll s.heap vs out.toArray }):
 wpAny 89 A (call (.builtin "sorted") [.ref l]) Q E s:=by
 have line:98<=sizeLine:=by rw[gp];omega
 refine Calls.call_function_entry kind_sorted plain_sorted entry_sorted (args_sorted1 _) ?_;unfold Builtin.«sorted»;refine fc (m:=checkCount "sorted" 1 1 _) (fh (fc (collect_list hl (fc (i4 ?_ line)) line)));have sz:((s.heap.push 127).update 58 (118 (·++76))).objs.size=58+1:=by rw[Heap.size_update,size_push']
 have at1:(((s.heap.push 127).update 58 (118 (·++76))).push (seqObj "list" 76 0)).get? (58+1)=some (seqObj "list" 76 0):=by
  have:=Heap.get?_push_size ((s.heap.push 127).update 58 (118 (·++76))) (o:=seqObj "list" 76 0) rfl
  rwa [sz]at this
 have old:∀b o,s.heap.get? b=some o->((((s.heap.push 127).update 58 (118 (·++76))).push (seqObj "list" 76 0)).update (58+1) (118 λ_=>#[])).get? b=some o:=λb o e=>by
  have lt:=74 e;rw[Heap.get?_update_ne _ _ _ _ (fz (i9 lt)),Heap.get?_push_ne _ _ _ (by rw[sz];exact fz (i9 lt)),Heap.get?_update_ne _ _ _ _ (fz lt),Heap.get?_push_ne _ _ _ (fz lt)];exact e
 show wpAny _ _ _ _ _ { s with heap:=((s.heap.push (seqObj "list" #[] 0)).update s.heap.objs.size (Obj.mapSeq (·++vs.toArray))).push (seqObj "list" vs.toArray 0) };rw[sz];refine fc (fX (wpAny_call_entry slot_list_sort ⟨_,at1,rfl⟩ entry_list_sort (P8 at1 hlen h64 hok (λi v p a b=>(hp i v p a b).keep old) λout z=>⟨_,rfl,?_⟩) (args_list_sort _)));exact fh ⟨_,rfl,h out z⟩
end
section
variable(K:Frag){X:Cx}
def IW:List V->Hp->VK->Prop:=λxs H Q=>∃(a:Addr) (us:List V) (ps:List 115),xs=[.ref a]/\SqL K H a us/\us.length=112/\us.length<64/\(∀q∈ps,pok q)/\
 (∀(i:Nat) (u:V) (q:Int×Int),us[i]?=some u->ps[i]?=some q->∃x,u=.ref x/\SqT K H x [.int q.1,.int q.2])/\
 ∀(p:Addr) (zs:List (V×115)),H p=none->zs.Perm (us.zip ps)->(zs.map λz=>Ap z.2).Pairwise (·<=·)->Q (.ref p) (upd H p (.lst (zs.map (·.1))))
noncomputable def G0:Value->V
 |.ref x=>.ref x
 |_=>.non
theorem IM:∀{us:List V} {its:List Value} {i:Nat} {u:V},Vals us its->us[i]?=some u->∃v,its[i]?=some v/\RelV u v
 |_,_,_,_,.nil,h=>by simp at h
 |_::_,_::_,0,_,.cons r _,h=>by
  simp at h;subst h;exact⟨_,rfl,r⟩
 |_::_,_::_,i+1,_,.cons _ t,h=>IM (i:=i) t (by simpa using h)
def NZ(hK:X.K=K:=by rfl):CallR X (.builtin "sorted") (IW K):=by
 subst hK;intro pins s σ H xs us0 Q I r h;obtain⟨a,us,ps,rfl,hq,hlen,h64,hok,hpr,q⟩:=h;obtain⟨u,rfl,ru⟩:=BJ r;cases ru;obtain⟨its,rv,p,hz⟩:=I.list hq;have hl2:us.length=its.length:=rv.length;have point:∀(i:Nat) (v:Value) (q:Int×Int),its[i]?=some v->ps[i]?=some q->(∃x,us[i]?=some (.ref x)/\v=.ref x)/\PairAt s.heap v q:=by
  intro i v q e1 e2;have hi:i<us.length:=by rw[hl2];exact(73 e1).1
  have eu:us[i]?=some us[i]:=by simp[hi]
  obtain⟨x,ex,sq⟩:=hpr i _ q eu e2;obtain⟨v',ev,rel⟩:=IM rv eu;rw[e1]at ev;cases ev;rw[ex]at rel eu;have rel:v=Value.ref x:=rel;subst rel;refine⟨⟨x,eu,rfl⟩,?_⟩;obtain⟨jts,rj,⟨o,ho,hc,n,hd⟩,_⟩:=I.tuple sq;cases rj with
  |cons r1 t1=>
   cases t1 with
   |cons r2 t2=>
    cases t2;obtain⟨t,rfl⟩:=r1;obtain⟨t',rfl⟩:=r2;exact⟨x,o,t,t',n,rfl,ho,hc,hd⟩
 refine Me (ps:=ps) p.isList 59 59 hok (λi v q a b=>(point i v q a b).2) λout z=>?_;obtain⟨zs,pm,pw,rfl⟩:=z;obtain⟨e,he⟩:=sortedAll_at s.heap its (zs.map (·.1)).toArray;have mz:∀z∈zs,∃x,z.1=.ref x:=λz hz=>by
  have:=pm.mem_iff.mp hz;obtain⟨i,hi⟩:=mem_iff_getElem?.mp this;obtain⟨e1,e2⟩:=List.getElem?_zip_eq_some.mp hi;obtain⟨⟨x,_,ex⟩,_⟩:=point i _ _ e1 e2;exact⟨x,ex⟩
 have vz:∀{zs:List (Value×115)},(∀z∈zs,∃x,z.1=.ref x)->Vals (zs.map λz=>G0 z.1) (zs.map (·.1)):=by
  intro zs
  induction zs with
  |nil=>intro _;exact .nil
  |cons z r ih=>
   intro h;obtain⟨x,ex⟩:=h z fo;refine .cons ?_ (ih λy hy=>h y (fj _ hy));show RelV (G0 z.1) z.1;rw[ex];rfl
 have pm2:(zs.map λz=>(G0 z.1,z.2)).Perm (us.zip ps):=by
  have:=pm.map λz:Value×115=>(G0 z.1,z.2)
  have e:((its.zip ps).map λz:Value×115=>(G0 z.1,z.2))=us.zip ps:=by
   refine ext_getElem? λi=>?_;by_cases hi:i<us.length
   .have h1:i<its.length:=by omega
    have h2:i<ps.length:=by omega
    have e1:its[i]?=some its[i]:=by simp[h1]
    have e2:ps[i]?=some ps[i]:=by simp[h2]
    obtain⟨⟨x,ex,ev⟩,_⟩:=point i _ _ e1 e2;rw[List.getElem?_map,(List.getElem?_zip_eq_some (z:=(its[i],ps[i]))).mpr ⟨e1,e2⟩,(List.getElem?_zip_eq_some (z:=(V.ref x,ps[i]))).mpr ⟨ex,e2⟩,fR,ev];rfl
   .rw[List.getElem?_eq_none 82,List.getElem?_eq_none 82]
  rwa [e]at this
 have pw2:((zs.map λz=>(G0 z.1,z.2)).map λz:V×115=>Ap z.2).Pairwise (·<=·):=by rw[fM];exact pw
 have fin:=q (58+1) _ (I.hok.fresh (gL _)) pm2 pw2;have em:(zs.map λz=>(G0 z.1,z.2)).map (·.1)=zs.map λz=>G0 z.1:=by rw[fM];rfl
 rw[em]at fin;have zl:zs.length<64:=by rw[pm.length_eq];simp;omega
 refine⟨.ref (58+1),_,I.laid (a:=58+1) (o:=.lst (zs.map λz=>G0 z.1)) (t':=s.toks) (λb o hb=>sortedAll_old hb) (gL _) ⟨?_,_,e,vz mz,he⟩,rfl,fin⟩;rw[fN];exact gB (Gk 59)
end
noncomputable def AY(p:Int×Int):D:=.im (.tup [.int p.1,.int p.2])
noncomputable def Cy:List D->Option (List 115)
 |[]=>some []
 |.im (.tup [.int a,.int b])::r=>(Cy r).map ((a,b)::·)
 |_=>none
def Go:∀{ds:List D} {ps:List 115},Cy ds=some ps->ds=ps.map AY:=by
 intro ds
 induction ds with
 |nil=>intro ps h;simp[Cy]at h;subst h;rfl
 |cons d r ih=>
  intro ps h;unfold Cy at h;split at h
  .next e=>cases e
  .next a b r' e=>
   cases e;obtain⟨qs,e1,rfl⟩:=fK h;rw[ih e1];rfl
  .cases h
@[simp] theorem Pm(ps:List 115):Cy (ps.map AY)=some ps:=by
 induction ps with
 |nil=>rfl
 |cons p r ih=>simp[Cy,AY]at ih ⊢;exact ih
noncomputable def Bq(ps:List 115):List 115:=ps.mergeSort λa b=>decide (Ap a<=Ap b)
def Fx(ps:List 115):(Bq ps).Perm ps:=List.mergeSort_perm ..
def Mh(ps:List 115):(Bq ps).Pairwise λa b=>Ap a<=Ap b:=by
 have:=List.pairwise_mergeSort (le:=λa b:Int×Int=>decide (Ap a<=Ap b)) (by intro a b c h1 h2;simp at *;omega) (by intro a b;simp;omega) ps;exact this.imp 70
def N4(a:pok p)(b:pok q)(h:Ap p=Ap q):p=q:=by
 unfold pok at a b;unfold Ap at h;exact Prod.ext 59 59
open Classical in
noncomputable def Em(m:MI):MA:=λls hd=>(m ls hd).bind λp=>(Cy p.1.1).bind λps=>if 112<64/\∀q∈ps,pok q then some ((Bq ps).map AY,p.2)else none
section
variable{K:Frag}
def OL(h:RD K ρ H (AY p) v):∃x,v=.ref x/\SqT K H x [.int p.1,.int p.2]:=by
 simp only[AY,RD,RI,RIs]at h;obtain⟨a,xs,rfl,q,x,r,rfl,rfl,y,r2,rfl,rfl,rfl⟩:=h;exact⟨a,rfl,q⟩
def PP(h:RRw K false t m):RN K (tCB (IW K) (BK t BQ)) (Em m):=by
 and_intros;obtain⟨⟨⟨d1,g1⟩,h1⟩,e1,hm⟩:=fJ hm;obtain⟨ps,e2,hm⟩:=fJ hm;split at hm
 .next c=>
  cases hm;refine h ρ σ H hd ls _ d1 g1 _ hR hL e1 λρ1 H1 a x1 R1 G1 S1=>?_;obtain⟨xs,q,r⟩:=S1 ρ1 H1 _ .refl R1 G1;have e2:Cy d1=some ps:=e2;rw[Go e2]at r;have hl:85=ps.length:=by simpa using r.len
  have each:∀(i:Nat) (u:V) (q:Int×Int),xs[i]?=some u->ps[i]?=some q->RD K ρ1 H1 (AY q) u:=λi u q a b=>by
   obtain⟨x,e,z⟩:=r.get (i:=i) (d:=AY q) (by simp[b]);rw[a]at e;cases e;exact z
  refine⟨a,xs,ps,rfl,q,hl,by rw[hl];exact c.1,c.2,λi u q a b=>OL (each i u q a b),λp zs hp pm pw=>?_⟩;have es:zs.map (·.2)=Bq ps:=by
   have pp:(zs.map (·.2)).Perm ps:=by
    have:=pm.map (λz:V×115=>z.2)
    rwa [map_snd_zip 59]at this
   refine(pp.trans (Fx ps).symm).eq_of_pairwise (le:=λa b=>Ap a<=Ap b) (λx y hx hy l1 l2=>N4 (c.2 _ (pp.mem_iff.mp hx)) (c.2 _ ((Fx ps).mem_iff.mp hy)) (Int.le_antisymm l1 l2)) ?_ (Mh ps);rw[gY]at pw ⊢;exact pw
  obtain⟨R2,x2⟩:=R1.hid (ho:=.lst (zs.map (·.1))) hp;have all:∀z∈zs,RD K ρ1 H1 (AY z.2) z.1:=λz hz=>by
   obtain⟨i,hi⟩:=mem_iff_getElem?.mp (pm.mem_iff.mp hz);obtain⟨a1,a2⟩:=List.getElem?_zip_eq_some.mp hi;exact each i _ _ a1 a2
  have rd:∀{zs:List (V×115)},(∀z∈zs,RD K ρ1 H1 (AY z.2) z.1)->RDs K ρ1 H1 ((zs.map (·.2)).map AY) (zs.map (·.1)):=by
   intro zs
   induction zs with
   |nil=>intro _;exact .nil
   |cons z r ih=>intro h;exact .cons (h z fo) (ih λy hy=>h y (fj _ hy))
  have rz:=rd all;rw[es]at rz;exact hQ ρ1 _ p _ 79 R2 (x1.none hR hp R1) (R1.out hp) AF (rz.ext R1 x2)
 .cases hm
open Classical in
noncomputable def Fi:D->List D->Hd->Option 121
 |.mu n,[.im (.int i)],hd=>match hd[n]? with
  |some (.lst ds)=>if Fz i then(ixN 83 i).bind λk=>(ds[k]?).map λy=>(y,hd.set n (.lst (ds.eraseIdx k)))else none
  |_=>none
 |_,_,_=>none
theorem RDs.erase:∀{ds:List D} {xs:List V} (k:Nat),RDs K ρ H ds xs->RDs K ρ H (ds.eraseIdx k) (xs.eraseIdx k)
 |[],_,_,h=>by simp only[RDs]at h;subst h;simp[RDs]
 |d::ds,_,0,h=>by simp only[RDs]at h;obtain⟨x,r,rfl,_,t⟩:=h;simpa using t
 |d::ds,_,k+1,h=>by
  simp only[RDs]at h;obtain⟨x,r,rfl,a,t⟩:=h;simpa using RDs.cons a (RDs.erase k t)
end
def Tx{K:Frag}:RM K Rg Fi:=by
 intro ρ H hd d v ds vs Q z hd' hR h1 h2 hf hQ;unfold Fi at hf;split at hf
 .split at hf
  .next q=>
   split at hf
   .next c=>
    obtain⟨k,e0,hf⟩:=fJ hf;obtain⟨y,e1,e3⟩:=fK hf;cases e3;simp only[RD]at h1;obtain⟨a,hn,rfl⟩:=h1;simp only[RDs,RD,RI]at h2;obtain⟨x,r,rfl,rfl,rfl⟩:=h2;obtain⟨xs,f1,f2⟩:=hR.lst hn q;obtain⟨x,x1,x3⟩:=f2.get e1;obtain⟨R2,x2⟩:=hR.put hn (o:=.lst _) (ho:=.lst (xs.eraseIdx k)) ⟨_,rfl,f2.erase k⟩;obtain⟨s1,s2,s3,s4⟩:=Kb e0;have sz:=f2.len;unfold Fz at c;exact⟨a,xs,_,k,x,rfl,rfl,f1,by omega,by omega,by rw[sz];exact s1,x1,hQ ρ _ _ x2 R2 (x3.ext hR x2)⟩
   .cases hf
  .cases hf
 .cases hf
section
variable(K:Frag){X:Cx}
def Pe(hm:X.mg "sorted"=none)(ha:QR K false X e te mi)(hg:Gl X "sorted":=by rfl)(he:starEach [e] X.env=[88]:=by rfl)(hK:X.K=K:=by rfl):QN K X (.Call (.Name "sorted" p) [e] [] pos) (tCB (IW K) (BK te BQ)) (Em mi):=
 ⟨Ei (NZ K hK) hg hm FE (Bm ha.p CL he) 90 90 he rfl,PP ha.r⟩
end
section
open Classical in
@[simp] theorem VE(k:Nat)(i:Int):Fi (.mu k) [.im 134] hd=match hd[k]? with
 |some (.lst ds)=>if Fz i then(ixN 83 i).bind λj=>(ds[j]?).map λy=>(y,hd.set k (.lst (ds.eraseIdx j)))else none
 |_=>none:=rfl
open Classical in
@[simp] theorem ci(mi:MI):Em mi ls hd=(mi ls hd).bind λp=>(Cy p.1.1).bind λps=>if 112<64/\∀q∈ps,pok q then some ((Bq ps).map AY,p.2)else none:=rfl
end
noncomputable def En(m:ME):MI:=λls hd=>match Au m ls hd with
 |some z=>some z
 |none=>BI m ls hd
noncomputable def Oc(K:Frag)(t:TE):TI:=λσ H R=>NH K t σ H R∨GF K t σ H R
def ZA{K:Frag}(h:RE K t m):RIt K (Oc K t) (En m):=by
 intro ρ σ H hd ls Q d g hd' hR hL hm hQ;unfold En at hm;split at hm
 .next z e=>
  cases hm;exact .inl (RO h ρ σ H hd ls Q d g hd' hR hL e hQ)
 .exact .inr (OJ h ρ σ H hd ls Q d g hd' hR hL hm hQ)
def Zo(K:Frag)(h:QE K X e t m)(hK:X.K=K:=by rfl):QI K X tg e (Oc K t) (En m):=
 ⟨λpins s σ H R I q=>q.elim (λq=>(OS K h.p hK) pins s σ H R I q) λq=>(IZ K h.p hK) pins s σ H R I q,ZA h.r⟩
section
def YN(e:m ls hd=some (.im (.tup is),hd')):En m ls hd=some ((is.map .im,[]),hd'):=by unfold En;simp[e]
end
noncomputable def FV(p:Int×Int):I:=.tup [.int p.1,.int p.2]
end L2
namespace L2
open PySem PySem.Spec PyProof.Rows
section
variable{A:Around}{R:Result->Shared->Prop}
def Lo(k v target iter:Expr)(ifs:List Expr)(scope:Scope)(pos:Pos)(it acc:Value)(env:Env):
 compTurn (.DictComp k v [⟨target,iter,ifs,0⟩] scope pos) 0 it acc env=(do
  standAt iter.pos
  match <- pyNext it with
  |none=>pure (.done .next)
  |some x=>
   letOwnedTupleGo target it x
   assign target env x
   let mut ok:=true
   for c in ifs do
    if ok then ok <- isTrue c env (eval c env)
   if ok then
    (do
     let kv <- eval k env
     let vv <- holding [kv] (eval v env)
     match acc with
     |.ref d=>do
      standAt { k.pos with endLine:=v.pos.endLine,endCol:=v.pos.endCol }
      holding [kv,vv] (dictSet d kv vv)
     | _=>unsupported "internal:dictcomp")
   again (.compLoop (.DictComp k v [⟨target,iter,ifs,0⟩] scope pos) 0 it acc env)):=by rfl
def Se{iter:Expr}{ifs:List Expr}{emit:Sem Unit}(I:Nat->Shared->Prop)
 (hden:(89).den (.compLoop e 0 it acc env)=(compTurn e 0 it acc env).onRaise (λx=>do noteFrame x env;theTreesLotGoes x))
 (hund:A.under (.compLoop e 0 it acc env)=A)
 (hturn:compTurn e 0 it acc env=(do
  standAt iter.pos
  match <- pyNext it with
  |none=>pure (.done .next)
  |some x=>
   letOwnedTupleGo target it x
   assign target env x
   let mut ok:=true
   for c in ifs do
    if ok then ok <- isTrue c env (eval c env)
   if ok then emit
   again (.compLoop e 0 it acc env)))
 (turn:∀n s,I n s->wpAny 89 A (pyNext it) (λr s₁=>match r with
  |none=>R (.ok .next) s₁
  | some v=>wpAny 89 A (letOwnedTupleGo target it v) (λ_ s₁=>wpAny 89 A (assign target env v) (λ_ s₂=>
   wpAny 89 A (forIn ifs true λc r=>if r=true then do let ok <- isTrue c env (eval c env);pure (ForInStep.yield ok)else pure (ForInStep.yield r)) (λok s₃=>
    if ok=true then wpAny 89 A emit (λ_ s₅=>∃m,m<n/\I m s₅) (λ_ _=>False) s₃
    else ∃m,m<n/\I m s₃) (λ_ _=>False) s₂) (λ_ _=>False) s₁) (λ_ _=>False) s₁) (λ_ _=>False) s)
 (n:Nat) (h:I n s):
 codeAny 89 A (.compLoop e 0 it acc env) R s:=by
 refine codeAny_loop rfl I (λn s hI=>?_) n h;rw[hden,hund];refine wpAny_noted ?_;rw[hturn];refine fc (gM (fc (fw (turn n s hI) (λr s₁ h₁=>?_) λ_ _ h'=>h'.elim)));cases r with
 |none=>exact fh h₁
 |some v=>
  refine fc (fw h₁ (λ_ s₁ h₁=>?_) λ_ _ h'=>h'.elim);refine fc (fw h₁ (λ_ s₂ h₂=>fc (fw h₂ (λok s₃ h₃=>?_) λ_ _ h'=>h'.elim)) λ_ _ h'=>h'.elim);cases ok with
  |false=>exact fh ⟨rfl,h₃⟩
  |true=>
   exact fc (fw h₃ (λx s₄ h₄=>fh ⟨rfl,h₄⟩) λ_ _ h'=>h'.elim)
def QK(hcl:clausesOf e=g::gs)(hasy:g.is_async=0)
 (hden:(89).den (.compStart e 0 it acc env)=(compStart e 0 it acc env).onRaise (λx=>do noteFrame x env;standAt theWindowsPlace))
 (hund:A.under (.compStart e 0 it acc env)=A)
 (h0:codeAny 89 A (.compLoop e 0 it acc env) R s)
 (h:wpAny 89 A (pyIter it) (λit' s'=>codeAny 89 A (.compLoop e 0 it' acc env) R s')
  (notedBy 89 A env λx s'=>R (.error x) s') s):
 codeAny 89 A (.compStart e 0 it acc env) R s:=by
 refine codeAny_of_tree ?_;rw[hden,hund];refine wpAny_notedAt ?_;have e1:((clausesOf e)[0]?).elim false (·.is_async != 0)=false:=by rw[hcl];simp[hasy]
 have e2:(clausesOf e)[0]?=some g:=by rw[hcl];rfl
 unfold compStart;rw[e1,e2];show wpAny _ _ (ask >>= _) _ _ s;refine fc (wpAny_askSetting (wpAny_ite ?_));split
 .first
   |exact fc (fh (fh (And.intro rfl h0)))
   |exact fh (And.intro rfl h0)
 .first
   |exact fc (wpAny_rule (fc (gM (fc (fw h (λit' s' h'=>fh (And.intro rfl h')) λ_ _ x=>x)))))
   |(refine fc (wpAny_rule ?_);show wpAny _ _ (standAt g.iter.pos >>= _) _ _ s;exact fc (gM (fc (fw h (λit' s' h'=>fh (And.intro rfl h')) λ_ _ x=>x))))
end
noncomputable abbrev TM:=Addr->St->Hp->(Hp->Prop)->Prop
def PM(X:Cx)(emit:Value->Env->Sem Unit)(t:TM):Prop:=
 ∀(D:Addr) (pins:List 92) (s:Shared) (σ:St) (H:Hp) (Q:Hp->Prop),Inv X pins σ H s->t D σ H Q->wpAny 68 X.A (emit (.ref D) X.env) (λ_ s'=>∃H',Inv X pins σ H' s'/\Q H') X.xe s
def bp(J:It)(D:Addr)(o:HO)(σ0:St)(H0:Hp)(g:TG)(tf:TT)(tm:TM)(Q:VK):Prop:=∃W:Nat->Nat->St->Hp->Prop,
 (∃m,W 0 m σ0 (upd H0 D o))/\∀i m σ H,W i m σ H ->
  ((J.stop i H/\Q (.ref D) H)∨(J.go i H/\∃N:St->Hp->Prop,(∀σ' H',N σ' H'->∃m',m'<m/\W (i+1) m' σ' H')/\
    ∀x H',J.yld i H x H'->g x σ H' λσ2 H2=>tf σ2 H2 λb H3=>
     if b=true then tm D σ2 H3 λH4=>N σ2 H4 else N σ2 H3))
noncomputable def Gj(o:HO)(n:Nat)(ix:List Nat)(wi:TI)(g:TG)(tf:TT)(tm:TM):TE:=λσ H Q=>wi σ H λJ H1=>∀D,H1 D=none->bp J D o (GS n ix σ) H1 g tf tm Q
section
variable{X:Cx}
def Uh{iter:Expr}{emit:Value->Env->Sem Unit}{ho:HO}
 (hc:X.calm=true) (S:CSc X scope fr ix) (hi:PI X tg iter wi)
 (hg:∀s H ex,PG 116 tg g) (hf:∀s H ex,PF 116 ifs tf) (he:∀s H ex,PM 116 emit tm)
 (hev:eval e X.env=comprehension e scope X.env pos newAcc false (eval iter X.env))
 (hcl:clausesOf e=[⟨tg,iter,ifs,0⟩])
 (hturn:∀it acc env,compTurn e 0 it acc env=(do
  standAt iter.pos
  match <- pyNext it with
  |none=>pure (.done .next)
  |some x=>
   letOwnedTupleGo tg it x
   assign tg env x
   let mut ok:=true
   for c in ifs do
    if ok then ok <- isTrue c env (eval c env)
   if ok then emit acc env
   again (.compLoop e 0 it acc env)))
 (hd1:∀it acc env,(68).den (.compLoop e 0 it acc env)=(compTurn e 0 it acc env).onRaise (λx=>do noteFrame x env;theTreesLotGoes x))
 (hd2:∀it acc env,(68).den (.compStart e 0 it acc env)=(compStart e 0 it acc env).onRaise (λx=>do noteFrame x env;standAt theWindowsPlace))
 (hu1:∀it acc env,X.A.under (.compLoop e 0 it acc env)=X.A) (hu2:∀it acc env,X.A.under (.compStart e 0 it acc env)=X.A)
 (hnew:∀(pins:List 92) (s:Shared) (σ:St) (H:Hp) (Q:Value->Shared->Prop),Inv X pins σ H s->(∀ob,Inv X pins σ (upd H 58 ho) { s with heap:=s.heap.push ob }->Q (.ref 58) { s with heap:=s.heap.push ob })->wpAny 68 X.A newAcc Q X.xe s)
 (hs:∀x,foldedSetIterable iter X.env x=pure x:=by intro _;rfl):PE X e (Gj ho loc.length ix wi g tf tm):=by
 intro pins s σ H Q I h;rw[hev];have hnames:∀y∈75,y.2=.local->scope.names.lookup y.1=some .local:=λy hy e=>by
  have:=all_eq_true.mp S.loc y hy;rw[e]at this;simpa using this
 refine iD (use:=none) hcl hs (D8 (S.clos I.ok)) S.kind hnames (thn (hi pins s σ H _ I h) λv s1 h1=>thn h1 λitv s2 h2=>?_);obtain⟨it,fp,tn,J,H2,rfl,I2,T,st2,f2,hW⟩:=h2;refine hnew pins s2 σ H2 _ I2 λob I3=>?_;have fresh2:H2 71=none:=I2.hok.fresh (fg _);obtain⟨W,⟨m0,w0⟩,turn⟩:=hW 71 fresh2;have lt2:∀b∈fp,b<s2.heap.objs.size:=λb hb=>let ⟨o,e,_⟩:=T.obj 0 _ st2 b hb;74 e
 have f3:∀b∈fp,FpOk X pins (upd H2 71 ho) b:=λb hb=>⟨by rw[upd_ne (fz (lt2 b hb))];exact(f2 b hb).1,(f2 b hb).2⟩
 have lt3:∀b∈fp,b<(s2.heap.push ob).objs.size:=λb hb=>by rw[Heap.size_push];exact i9 (lt2 b hb)
 generalize hs3:({ s2 with heap:=s2.heap.push ob }:Shared)=s3 at *;have lt3:∀b∈fp,b<s3.heap.objs.size:=by rw[<- hs3];exact lt3
 have st3:tn 0 s3.heap:=T.keep _ _ _ st2 λb hb o e=>by rw[<- hs3];exact 66 _ e
 refine KQ λh' hk hn ho' ha=>?_;have I4:=Il (loc:=loc) S I3 f3 hk hn ho' ha lt3;have fpX:∀{H':Hp},(∀b∈fp,H' b=none)->∀b∈fp,FpOk (cCx X (loc++fr) scope s3 (upd H2 71 ho) fp) [] H' b:=λhn b hb=>
  ⟨hn b hb,(I4.ok.exf b hb).1,I4.ok.exfs b hb,.inl hb,(I4.ok.exf b hb).2,λp hp=>by cases hp⟩
 have loop:codeAny 68 X.A (.compLoop e 0 (.ref it) (.ref 71) (QV scope 114 X.env))
  (compPost 68 X.A X.xe none (EP X pins σ Q) (.ref 71) 114) { s3 with heap:=h' }:=by
  refine Se (λn s'=>∃i σ' H',Inv (cCx X (loc++fr) scope s3 (upd H2 71 ho) fp) [] σ' H' s'/\tn i s'.heap/\(∀b∈fp,H' b=none)/\W i n σ' H') (hd1 _ _ _) (hu1 _ _ _) (hturn _ _ _) ?_ m0
   ⟨0,_,_,I4,T.keep _ _ _ st3 λb hb o e=>hk b o e,λb hb=>(f3 b hb).1,w0⟩
  rintro n s5 ⟨i,σ5,H5,I5,st5,fr5,w5⟩;have w5:=turn i n σ5 H5 w5;rcases w5 with⟨stop,qn⟩|⟨go,N,hN,step⟩
  .refine thn (T.done (cCx X (loc++fr) scope s3 (upd H2 71 ho) fp) rfl rfl rfl hc i [] s5 σ5 H5 _ I5 (fpX fr5) st5 stop) λr s6 ⟨hr,I6⟩=>?_;subst hr;obtain⟨m,hm,_⟩:=I6.loc;refine⟨m,hm,λh'' hs=>?_⟩;have neC:∀b o,s3.heap.get? b=some o->b≠s3.heap.objs.size:=λb o e=>fz (74 e);have un:=I6.base;refine⟨.ref 71,H5,I3.call' (s':={ s6 with heap:=h'' }) (ch:=fp) I6.os ⟨λb o e n hb hx=>?_,λb o e n hb hx=>?_,un.free,λb o e hx=>?_,un.tups,un.frzs,un.tbls⟩ ?_ I6.bare ?_,rfl,qn⟩
   .exact(hs.2 b (neC b o e)).trans (un.keep b o e n hb hx)
   .obtain⟨sl,q⟩:=un.slot b o e n hb hx;exact⟨sl,(hs.2 b (neC b o e)).trans q⟩
   .obtain⟨o',q⟩:=un.there b o e hx;exact⟨o',(hs.2 b (neC b o e)).trans q⟩
   .intro b ob e;have hfree:H5 114=none:=I6.free;refine(I6.hok b ob e).stay (λc w' hc q=>(hs.2 c ?_).trans q) (λ_ q=>q) λ_ _ q=>q;intro z;rcases hc with hc|hc
    .rw[<- hc,z,hfree]at e;cases e
    .rw[z,hfree]at hc;cases hc
   .intro b hb;obtain⟨_,a2,_,a4,a5,a6⟩:=f3 b hb;exact⟨a4,a2,a5,a6⟩
  .refine thn (T.item (cCx X (loc++fr) scope s3 (upd H2 71 ho) fp) rfl rfl rfl hc i [] s5 σ5 H5 _ I5 (fpX fr5) st5 go) λr s6 ⟨u,hr,h6⟩=>?_;subst hr;refine thn h6 λ_ s7 ⟨x,H7,I7,r7,y7,st7,fr7⟩=>?_;have I7':=I7.pinned (fpX fr7) (T.obj _ _ st7);have keepI:∀{σ8:St} {H8:Hp} {s8:Shared},Inv (cCx X (loc++fr) scope s3 (upd H2 71 ho) fp) ([]++Eh fp s7.heap) σ8 H8 s8->tn (i+1) s8.heap/\∀b∈fp,H8 b=none:=λ{σ8 H8 s8} I8=>by
    refine⟨T.keep _ _ _ st7 λb hb o e=>(I8.pin (b,o) (fm _ (fm _ (Bt hb e)))).1,λb hb=>?_⟩;obtain⟨o,e,d⟩:=T.obj _ _ st7 b hb;exact(I8.pin (b,o) (fm _ (fm _ (Bt hb e)))).2.1
   refine thn (hg s3 (upd H2 71 ho) fp _ s7 σ5 H7 x u _ I7' r7 (step x H7 y7)) λ_ s8 ⟨σ8,H8,I8,q8⟩=>?_;refine thn (hf s3 (upd H2 71 ho) fp _ s8 σ8 H8 _ I8 q8) λb s9 ⟨H9,I9,q9⟩=>?_;cases b with
   |false=>
    rw[fe Bool.false_ne_true]at q9 ⊢;obtain⟨m',hm,w9⟩:=hN _ _ q9;exact⟨m',hm,i+1,σ8,H9,I9.unpinned,(keepI I9).1,(keepI I9).2,w9⟩
   |true=>
    rw[fb rfl]at q9 ⊢;refine thn (he s3 (upd H2 71 ho) fp _ _ s9 σ8 H9 _ I9 q9) λe10 s10 ⟨H10,I10,n10⟩=>?_;obtain⟨m',hm,w10⟩:=hN _ _ n10;exact⟨m',hm,i+1,σ8,_,I10.unpinned,(keepI I10).1,(keepI I10).2,w10⟩
 exact QK hcl rfl (hd2 _ _ _) (hu2 _ _ _) loop (T.self X.A 0 _ _ _ (T.keep _ _ _ st3 λb hb o e=>hk b o e) loop)
noncomputable def Ji(tk tv:TE):TM:=λD σ H Q=>tk σ H λy H1=>tv σ H1 λv H2=>∃kvs k,H2 D=some (.dK kvs)/\y=kV k/\kvs.length<sizeLine/\Q (upd H2 D (.dK (Ce kvs k v)))
def Sd{E:Value->Shared->Prop}{Q:Unit->Shared->Prop}(I:Inv X pins σ H s)(e:H a=some (.dK kvs))(l:kvs.length<sizeLine)(ry:RelV (kV k) u)(rv:RelV v r)(h:∀s',Inv X pins σ (upd H a (.dK (Ce kvs k v))) s'->Q () s'):
 wpAny 68 A (dictSet a u r) Q E s:=by
 obtain⟨z,hd,vs,rel,dd⟩:=Vz I.hok e;have hz:98<=sizeLine:=by rw[<- rel.length];exact z
 have hl:(Ce kvs k v).length<=sizeLine:=by have:=FJ kvs k v;omega
 refine wpAny_dictSet_pairs (hsz:=hz) (Jn ry) dd λh' dd' hs=>h _ ?_;have he:∃q,h'.get? a=some q:=let ⟨q,_,_,hq,_⟩:=dd';⟨q,hq⟩
 exact Ko I (by rw[e];exact True.intro) hs he (SZ hl hd (rel.put k rv) dd')
noncomputable def QB(k v:Expr):Value->Env->Sem Unit:=λacc env=>do
 let kv <- eval k env
 let vv <- holding [kv] (eval v env)
 match acc with
 |.ref d=>do
  standAt { k.pos with endLine:=v.pos.endLine,endCol:=v.pos.endCol }
  holding [kv,vv] (dictSet d kv vv)
 |_=>unsupported "internal:dictcomp"
def Xm(hk:PE X k tk)(hv:PE X v tv):PM X (QB k v) (Ji tk tv):=by
 intro D pins s σ H Q I h;unfold QB;refine fc (thn (hk pins s σ H _ I h) λu s1 ⟨y,H1,I1,r1,q1⟩=>?_);refine fc (fX (thn (hv pins s1 σ H1 _ I1 q1) λr s2 ⟨v,H2,I2,r2,kvs,k,e,ey,l,q2⟩=>?_));refine fc (gM (fX ?_));subst ey;exact Sd I2 e l r1 r2 λs' I'=>⟨_,I',q2⟩
def Ug{iter:Expr}
 (hc:X.calm=true) (S:CSc X scope fr ix) (hi:PI X tg iter wi)
 (hg:∀s H ex,PG 116 tg g) (hf:∀s H ex,PF 116 ifs tf) (hk:∀s H ex,PE 116 k tk) (hv:∀s H ex,PE 116 v tv)
 (hs:∀x,foldedSetIterable iter X.env x=pure x:=by intro _;rfl):PE X (.DictComp k v [⟨tg,iter,ifs,0⟩] scope pos) (Gj (.dK []) loc.length ix wi g tf (Ji tk tv)):=by
 refine Uh (emit:=QB k v) (newAcc:=newDict) (pos:=firstIterPos [⟨tg,iter,ifs,0⟩] pos) hc S hi hg hf (λs H ex=>Xm (hk s H ex) (hv s H ex)) rfl rfl (λit acc env=>Lo ..) (λ_ _ _=>rfl) (λ_ _ _=>rfl) (λ_ _ _=>rfl) (λ_ _ _=>rfl) (λpins s σ H Q I h=>?_) hs;simp only[newDict,newObj];refine fc (wpAny_alloc (fh (h _ ?_)));exact I.laid (a:=58) (o:=.dK []) (t':=s.toks) (λ_ _ q=>66 _ q) (fg _) (VG s.heap I.big)
end
section
variable{K:Frag}{ρ ρ':List Addr}{H H':Hp}{hd hd':Hd}
def RH.hputO(h:RH K ρ H hd)(out:a∉ρ)(hl:H a=some o)(c:Chg H a)(n1:∀ps,o≠.tbl ps)(n2:∀φ,o≠.ext φ):RH K ρ (upd H a ho) hd:=by
 have gr:Grow H (upd H a ho):=Grow.refl.put c;refine⟨h.len,h.nd,h.tabs.upd (λps z=>n1 ps (86 (hl.symm.trans z))) (λps z=>n2 ps (86 (hl.symm.trans z))),λm o' b e1 e2=>?_⟩;obtain⟨ho',q1,q2⟩:=h.ob m o' b e1 e2;have:b≠a:=λz=>out (by rw[<- z];exact fQ e2);exact⟨ho',by rw[upd_ne this];exact q1,by simpa using q2.mono gr []⟩
def Ext.outk(x:Ext ρ H ρ' H')(h:H a=some o)(out:a∉ρ):a∉ρ':=by
 obtain⟨r,rfl,fr⟩:=x.pre;intro z;rcases mem_append.mp z with z|z
 .exact out z
 .have:=fr _ z;rw[h]at this;cases this
structure Acc(K:Frag)(α:Type)(o0:HO)(a0:α) where
 rel:List Addr->Hp->α->HO->Prop
 mono:∀{ρ:List Addr} {H H':Hp} {a:α} {o:HO} (r:List Addr),Grow H H'->rel ρ H a o->rel (ρ++r) H' a o
 chg:∀{ρ:List Addr} {H:Hp} {a:α} {o:HO},rel ρ H a o->¬ Stb o
 chg2:∀{ρ:List Addr} {H:Hp} {a:α} {o:HO},rel ρ H a o->(∀xs,o≠.tbl xs)/\∀z,o≠.ext z
 init:∀ρ H,rel ρ H a0 o0
noncomputable abbrev MM(α:Type):=Ls->Hd->α->Option (α×Hd)
def RM1{α:Type}{o0:HO}{a0:α}(B:Acc K α o0 a0)(t:TM)(m:MM α):Prop:=∀(ρ:List Addr) (σ:St) (H:Hp) (hd:Hd) (ls:Ls) (a a':α) (hd':Hd) (Da:Addr) (o:HO) (Q:Hp->Prop),RH K ρ H hd->RL K ρ H ls σ->Da∉ρ->H Da=some o->B.rel ρ H a o ->
 m ls hd a=some (a',hd')->(∀ρ' H' o',Ext ρ H ρ' H'->RH K ρ' H' hd'->H' Da=some o->B.rel ρ' H' a' o'->Q (upd H' Da o'))->t Da σ H Q
open Classical in
noncomputable def mGo{α:Type}(n:MG)(c:MT)(me:MM α)(g:Gd):List D->Ls->Hd->α->Option (α×Hd)
 |[],_,hd,a=>some (a,hd)
 |d::r,ls,hd,a=>(n d ls hd).bind λls1=>(c ls1 hd).bind λp=>if p.1=true then(me ls1 p.2 a).bind λq=>if GOk q.2 g then mGo n c me g r ls1 q.2 q.1 else none else if GOk p.2 g then mGo n c me g r ls1 p.2 a else none
noncomputable def HC{α:Type}(k:Nat)(ix:List Nat)(mi:MI)(n:MG)(c:MT)(a0:α)(me:MM α):Ls->Hd->Option (α×Hd):=λls hd=>(mi ls hd).bind λp=>mGo n c me p.1.2 p.1.1 (Dv k ix ls) p.2 a0
def RNG{α:Type}{o0:HO}{a0:α}(B:Acc K α o0 a0)(t:TE)(m:Ls->Hd->Option (α×Hd)):Prop:=∀(ρ:List Addr) (σ:St) (H:Hp) (hd:Hd) (ls:Ls) (Q:VK) (a:α) (hd':Hd),RH K ρ H hd->RL K ρ H ls σ->m ls hd=some (a,hd') ->
 (∀ρ' H' Da o,Ext ρ H ρ' H'->RH K ρ' H' hd'->H Da=none->Da∉ρ'->H' Da=some o->B.rel ρ' H' a o->Q (.ref Da) H')->t σ H Q
def Ts{α:Type}{o0:HO}{a0:α}{B:Acc K α o0 a0}{k:Nat}{ix:List Nat}{wi:TI}{g:TG}{tf:TT}{tm:TM}{mi:MI}{n:MG}{c:MT}{m:MM α}(hi:RIt K wi mi)(hg:RGt K g n)(hf:RT K tf c)(he:RM1 B tm m):RNG B (Gj o0 k ix wi g tf tm) (HC k ix mi n c a0 m):=by
 intro ρ σ H hd ls Q out hd' hR hL hm hQ;obtain⟨⟨⟨ds,gd⟩,h1⟩,e1,hm⟩:=fJ hm;dsimp only at hm;refine hi ρ σ H hd ls _ ds gd h1 hR hL e1 λρ1 H1 J x1 R1 G1 Y=>?_;intro Da hDa;obtain⟨R1',x1'⟩:=R1.hid (ho:=o0) hDa;have oD:Da∉ρ1:=R1.out hDa;have nD:H Da=none:=x1.none hR hDa R1;refine⟨λi mm σ2 H2=>mm=83-i/\i<=83/\∃ρ2 ls2 hd2 a2 o2,Ext ρ1 H1 ρ2 H2/\Da∉ρ2/\H2 Da=some o2/\RH K ρ2 H2 hd2/\RL K ρ2 H2 ls2 σ2/\B.rel ρ2 H2 a2 o2/\GOk hd2 gd/\mGo n c m gd (ds.drop i) ls2 hd2 a2=some (out,hd'),
  ⟨83,by simp,gn _,ρ1,_,h1,a0,o0,x1',oD,AF,R1',(On ((122).ext R1 x1')),B.init _ _,G1,by simpa using hm⟩,?_⟩
 rintro i mm σ2 H2 ⟨rfl,hi,ρ2,ls2,hd2,a2,o2,x2,oD2,hD2,R2,L2',r2,G2,hm2⟩;obtain⟨Y1,Y2⟩:=Y ρ2 H2 hd2 x2 R2 G2 i;by_cases hlt:i<83
 .obtain⟨go,Y1⟩:=Y1 hlt;have ed:ds.drop i=ds[i]::ds.drop (i+1):=gX hlt;rw[ed]at hm2;unfold mGo at hm2;obtain⟨ls3,e3,hm2⟩:=fJ hm2;obtain⟨⟨bb,hd4⟩,e4,hm2⟩:=fJ hm2;refine .inr ⟨go,λσ' H'=>∃ρ2 ls2 hd2 a2 o2,Ext ρ1 H1 ρ2 H'/\Da∉ρ2/\H' Da=some o2/\RH K ρ2 H' hd2/\RL K ρ2 H' ls2 σ'/\B.rel ρ2 H' a2 o2/\GOk hd2 gd/\mGo n c m gd (ds.drop (i+1)) ls2 hd2 a2=some (out,hd'),λσ' H' z=>⟨83-(i+1),by omega,rfl,hlt,z⟩,λx H3 y=>?_⟩;obtain⟨ρ3,d3,x3,rfl,R3,e5,r3⟩:=Y1 x H3 y;have e6:d3=ds[i]:=by
   have:ds[i]?=some ds[i]:=by simp[hlt]
   rw[this]at e5;exact(86 e5).symm
  subst e6;refine hg ρ3 σ2 H3 hd2 ls2 ls3 _ x _ R3 (L2'.ext R2 x3) r3 e3 λσ4 L4=>?_;refine hf ρ3 σ4 H3 hd2 ls3 _ bb hd4 R3 L4 e4 λρ5 H5 x5 R5=>?_;have hD3:H3 Da=some o2:=x3.keep Da _ hD2 oD2 (B.chg2 r2).1;have hD5:H5 Da=some o2:=x5.keep Da _ hD3 oD2 (B.chg2 r2).1;have out5:Da∉ρ5:=x5.outk hD3 oD2;have y25:=x3.trans R3 x5;have r5:B.rel ρ5 H5 a2 o2:=by
   obtain⟨r,rfl,fr⟩:=y25.pre;exact B.mono r (y25.grow R2) r2
  cases bb with
  |false=>
   rw[fe Bool.false_ne_true]at hm2 ⊢;split at hm2
   .next g5=>exact⟨ρ5,ls3,hd4,a2,o2,x2.trans R2 y25,out5,hD5,R5,L4.ext R3 x5,r5,g5,hm2⟩
   .cases hm2
  |true=>
   rw[fb rfl]at hm2 ⊢;obtain⟨⟨z,hd6⟩,e6,hm2⟩:=fJ hm2;dsimp only at hm2;split at hm2
   .next g6=>
    refine he ρ5 σ4 H5 hd4 ls3 a2 z hd6 Da o2 _ R5 (L4.ext R3 x5) out5 hD5 r5 e6 λρ6 H6 o6 x6 R6 hD6 r6=>?_;have out6:Da∉ρ6:=x6.outk hD5 out5;have c6:Chg H6 Da:=λu st z=>B.chg r5 (by rw[hD6]at z;cases z;exact st);have gr:Grow H6 (upd H6 Da o6):=Grow.refl.put c6;have R7:=R6.hputO (ho:=o6) out6 hD6 c6 (B.chg2 r5).1 (B.chg2 r5).2;have x12:=(x2.trans R2 y25).trans R5 x6;have ext7:Ext ρ1 H1 ρ6 (upd H6 Da o6):=⟨x12.pre,λb o q nb t=>by
     have:b≠Da:=AH q hDa;rw[upd_ne this];exact x12.keep b o q nb t,λb ps q=>by
     have:b≠Da:=AH q hDa;rw[upd_ne this];exact x12.tab b ps q⟩
    have L6:=(L4.ext R3 x5).ext R5 x6;exact⟨ρ6,ls3,hd6,z,o6,ext7,out6,AF,R7,⟨L6.len,λi d e=>let ⟨v,a,b⟩:=L6.ob i d e;⟨v,a,by simpa using b.mono gr []⟩⟩,by simpa using B.mono [] gr r6,g6,hm2⟩
   .cases hm2
 .have e:i=ds.length:=by omega
  subst e;rw[List.drop_length]at hm2;unfold mGo at hm2;cases hm2;exact .inl ⟨Y2 rfl,hQ ρ2 H2 Da o2 79 R2 nD oD2 hD2 r2⟩
noncomputable def bn(K:Frag):Acc K (List (Key×D)) (.dK []) [] where
 rel:=λρ H a o=>∃xs,o=.dK xs/\RKs K ρ H a xs
 mono:=λr g ⟨xs,e,q⟩=>⟨xs,e,q.mono g r⟩
 chg:=λ⟨xs,e,q⟩ st=>by subst e;exact st
 chg2:=λ⟨xs,e,q⟩=>⟨λ_ z=>(by subst e;cases z),λ_ z=>(by subst e;cases z)⟩
 init:=λρ H=>⟨[],rfl,by simp[RKs]⟩
open Classical in
noncomputable def Hj(mk mv:ME):MM (List (Key×D)):=λls hd a=>(mk ls hd).bind λq=>(mv ls q.2).bind λz=>(Ci q.1).bind λk=>if DR a.length then some (De a k z.1,z.2)else none
def Z8(hk:RE K tk mk)(hv:RE K tv mv):RM1 (bn K) (Ji tk tv) (Hj mk mv):=by
 intro ρ σ H hd ls a a' hd' Da o Q hR hL out hD hrel hm hQ;obtain⟨⟨d1,h1⟩,e1,hm⟩:=fJ hm;obtain⟨⟨d2,h2⟩,e2,hm⟩:=fJ hm;obtain⟨k,e4,hm⟩:=fJ hm;obtain⟨xs,rfl,r⟩:=hrel;dsimp only at hm;split at hm
 .next c=>
  cases hm;refine hk ρ σ H hd ls _ d1 h1 hR hL e1 λρ1 H1 v1 x1 R1 r1=>?_;refine hv ρ1 σ H1 h1 ls _ d2 _ R1 122 e2 λρ2 H2 v2 x2 R2 r2=>?_;have:=Hu r1 e4;subst this;have hD2:H2 Da=some (.dK xs):=x2.keep Da _ (x1.keep Da _ hD out nt) (x1.outk hD out) nt;have x12:=x1.trans R1 x2;have r':RKs K ρ2 H2 a xs:=by
   obtain⟨rr,rfl,fr⟩:=x12.pre;exact r.mono (x12.grow hR) rr
  exact⟨xs,k,hD2,rfl,by rw[r'.len];exact c,hQ ρ2 H2 _ x12 R2 hD2 ⟨_,rfl,r'.put r2⟩⟩
 .cases hm
noncomputable def Jk(m:Ls->Hd->Option (List (Key×D)×Hd)):ME:=λls hd=>(m ls hd).bind λp=>some (.mu p.2.length,p.2++[.dic p.1])
def Wy{m:Ls->Hd->Option (List (Key×D)×Hd)}(h:RNG (bn K) t m):RE K t (Jk m):=by
 and_intros;obtain⟨⟨a,h1⟩,e1,hm⟩:=fJ hm;cases hm;refine h ρ σ H hd ls Q a h1 hR hL e1 λρ1 H1 Da o x1 R1 nD oD hD ⟨xs,eo,r⟩=>?_;subst eo;have R2:=R1.nameD oD hD (λz=>z) r;have e0:upd H1 Da (.dK xs)=H1:=by
  funext b
  by_cases hb:b=Da
  .subst hb;rw[AF,hD]
  .rw[upd_ne hb]
 rw[e0]at R2;refine hQ (ρ1++[Da]) H1 _ (x1.name nD) R2 ?_;simp only[RD];exact⟨Da,by rw[<- R1.len];simp,rfl⟩
variable(K:Frag){X:Cx}
def UR{k v tg iter:Expr}{ifs:List Expr}{scope:Scope}{pos:Pos}{loc fr:List Str}{ix:List Nat}{wi:TI}{g:TG}{tf:TT}{tk tv:TE}{mi:MI}{n:MG}{mf:MT}{mk mv:ME}(hc:X.calm=true)(S:CSc X scope fr ix)(hi:QI K X tg iter wi mi)
 (hg:∀s H ex,QG K 116 tg g n) (hf:∀s H ex,QF K 116 ifs tf mf) (hk:∀s H ex,QE K 116 k tk mk) (hv:∀s H ex,QE K 116 v tv mv)
 (hs:∀x,foldedSetIterable iter X.env x=pure x:=by intro _;rfl):QE K X (.DictComp k v [⟨tg,iter,ifs,0⟩] scope pos) (Gj (.dK []) loc.length ix wi g tf (Ji tk tv)) (Jk (HC loc.length ix mi n mf [] (Hj mk mv))):=
 ⟨Ug hc S hi.p (λs H ex=>(hg s H ex).p) (λs H ex=>(hf s H ex).p) (λs H ex=>(hk s H ex).p) (λs H ex=>(hv s H ex).p) hs,
  Wy (Ts hi.r (hg X.s₀ X.H₀ []).r (hf X.s₀ X.H₀ []).r (Z8 (hk X.s₀ X.H₀ []).r (hv X.s₀ X.H₀ []).r))⟩
def Za(hu:X.A.units+1<cLine)(ha:QE K X a ta ma)(hb:QE K X b tb mb)(hmk:behindInMarks .In b=false:=by rfl):QT K X (.Compare a [.In] [b] pos) (tB (TX ta tb)) (A7 (mOp (HH false) ma mb)):=⟨Rl (ad hu ha.p hb.p) hmk,Yz (ZN hb.r ha.r)⟩
end
def WP{α:Type}(o:Option (α×Hd))(Q:α->Hd->Prop):Prop:=∃z h,o=some (z,h)/\Q z h
abbrev WS(m:MS)(ls:Ls)(hd:Hd)(Q:Fl->Hd->Prop):Prop:=WP (m ls hd) Q
abbrev WE(m:ME)(ls:Ls)(hd:Hd)(Q:D->Hd->Prop):Prop:=WP (m ls hd) Q
abbrev WT(m:MT)(ls:Ls)(hd:Hd)(Q:Bool->Hd->Prop):Prop:=WP (m ls hd) Q
abbrev WA(m:MA)(ls:Ls)(hd:Hd)(Q:List D->Hd->Prop):Prop:=WP (m ls hd) Q
abbrev WI(m:MI)(ls:Ls)(hd:Hd)(Q:List D×Gd->Hd->Prop):Prop:=WP (m ls hd) Q
abbrev WF(F:List D->Hd->Option 121)(ds:List D)(hd:Hd)(Q:D->Hd->Prop):Prop:=WP (F ds hd) Q
section
variable{α β:Type}{Q:α->Hd->Prop}{R:β->Hd->Prop}
theorem WP.some{z:α}(q:Q z h):WP (some (z,h)) Q:=⟨z,h,rfl,q⟩
def WP.mono{Q':α->Hd->Prop}(h:WP o Q)(k:∀z h,Q z h->Q' z h):WP o Q':=let ⟨z,x,e,q⟩:=h;⟨z,x,e,k z x q⟩
theorem WP.bind{f:α×Hd->Option (β×Hd)}(h:WP o λz x=>WP (f (z,x)) R):WP (o.bind f) R:=by
 obtain⟨z,x,e,q⟩:=h;rw[e];exact q
def WP.eq{z:α}(e:o=Option.some (z,h))(q:Q z h):WP o Q:=⟨z,h,e,q⟩
end
section
variable{ls:Ls}{hd:Hd}{a b:MS}{ma mb mc:ME}{ta tb:MT}{m m1 m2:MA}{n:MG}{ns:MGs}{mi:MI}{d e:D}{i j:Nat}{QS:Fl->Hd->Prop}{QE:D->Hd->Prop}{QT:Bool->Hd->Prop}{QA:List D->Hd->Prop}{QO:Option Int->Hd->Prop}{QI:List D×Gd->Hd->Prop}
def Lu(b:MS)(Q:Fl->Hd->Prop):Fl->Hd->Prop
 |.nx l,h=>WS b l h Q
 |f,h=>Q f h
def AD(h:WS a ls hd (Lu b QS)):WS (A5 a b) ls hd QS:=by
 obtain⟨f,x,e,q⟩:=h;show WP (A5 a b ls hd) QS;rw[Jt,e];cases f<;>first|exact q|exact⟨_,_,rfl,q⟩
def A6(q:WS b l h QS):Lu b QS (.nx l) h:=q
def MR(q:QS (.rt d) h):Lu b QS (.rt d) h:=q
def Az(h:QS (.nx ls) hd):WS Aa ls hd QS:=⟨_,_,rfl,h⟩
def B6(h:WE ma ls hd λd x=>QS (.rt d) x):WS (AN ma) ls hd QS:=WP.bind (h.mono λ_ _ q=>WP.some q)
def AS(h:WE ma ls hd λd x=>QS (.nx (ls.set i (some d))) x):WS (AE i ma) ls hd QS:=by
 obtain⟨d,x,e,q⟩:=h;exact⟨_,_,by simp only[Jv,e,bind_some,Kg,fR],q⟩
def JD(h:WE ma ls hd λd x=>∃l,n d ls x=some l/\QS (.nx l) x):WS (G8 ma n) ls hd QS:=by
 obtain⟨d,x,e,l,e2,q⟩:=h;exact⟨_,_,by simp only[Jv,e,bind_some,e2,fR],q⟩
def C2(h:WE ma ls hd λ_ x=>QS (.nx ls) x):WS (Aq ma) ls hd QS:=WP.bind (h.mono λ_ _ q=>WP.some q)
def VU(h:WT ta ls hd λc x=>if c=true then WS a ls x QS else WS b ls x QS):WS (Ag ta a b) ls hd QS:=by
 refine WP.bind (h.mono λc x q=>?_);dsimp only;cases c<;>simpa using q
def BP(h:WT ta ls hd λc x=>(c=true->WS a ls x QS)/\(c=false->WS b ls x QS)):WS (Ag ta a b) ls hd QS:=
 VU (h.mono λc x q=>by cases c<;>simp_all)
def WL(n:MG)(b:MS)(g:Gd)(ds:List D)(ls:Ls)(hd:Hd)(Q:Fl->Hd->Prop):Prop:=WP (BW n b g ds ls hd) Q
def Bp(h:WI mi ls hd λp x=>WL n b p.2 p.1 ls x QS):WS (BA mi n b) ls hd QS:=WP.bind (h.mono λ_ _ q=>q)
def VV(g:Gd)(P:Ls->Hd->Prop)(Q:Fl->Hd->Prop):Fl->Hd->Prop
 |.nx l,h=>GOk h g/\P l h
 |.ct l,h=>GOk h g/\P l h
 |.bk l,h=>Q (.nx l) h
 |.rt d,h=>Q (.rt d) h
theorem B7(P:List D->Ls->Hd->Prop):∀{ds:List D} {ls:Ls} {hd:Hd},P ds ls hd ->
 (∀d r ls hd,P (d::r) ls hd->∃ls1,n d ls hd=some ls1/\WS b ls1 hd (VV g (P r) QS))->(∀ls hd,P [] ls hd->QS (.nx ls) hd)->WL n b g ds ls hd QS
 |[],ls,hd,h,_,z=>⟨_,_,by unfold BW;rfl,z _ _ h⟩
 |d::r,ls,hd,h,k,z=>by
  obtain⟨ls1,e1,f,x,e2,q⟩:=k d r ls hd h;unfold WL;unfold BW;rw[e1,bind_some,e2,bind_some];cases f with
  |nx l=>exact(show GOk x g/\P r l x from q).1 |> λg1=>by dsimp only;rw[fb g1];exact B7 P q.2 k z
  |ct l=>exact(show GOk x g/\P r l x from q).1 |> λg1=>by dsimp only;rw[fb g1];exact B7 P q.2 k z
  |bk l=>exact⟨_,_,rfl,q⟩
  |rt l=>exact⟨_,_,rfl,q⟩
def A2(h:ls[i]?=some (some d))(q:QE d hd):WE (A0 i) ls hd QE:=⟨d,hd,by rw[DS,h],q⟩
def AW{i:I}(q:QE (.im i) hd):WE (mC i) ls hd QE:=⟨_,_,rfl,q⟩
def AA{f:D->D->Hd->Option 121}(h:WE ma ls hd λd x=>WE mb ls x λe y=>WP (f d e y) QE):WE (mOp f ma mb) ls hd QE:=WP.bind (h.mono λ_ _ q=>WP.bind (q.mono λ_ _ q=>q))
def bt(h:WT ta ls hd λc x=>if c=true then WE ma ls x QE else WE mb ls x QE):WE (mIf ta ma mb) ls hd QE:=by
 refine WP.bind (h.mono λc x q=>?_);dsimp only;cases c<;>simpa using q
def Qe(h:WT ta ls hd λc x=>(c=true->WE ma ls x QE)/\(c=false->WE mb ls x QE)):WE (mIf ta ma mb) ls hd QE:=
 bt (h.mono λc x q=>by cases c<;>simp_all)
def Bg(h:WA m ls hd λds x=>BY 83/\QE (B0 ds) x):WE (Ay m) ls hd QE:=WP.bind (h.mono λds x q=>by dsimp only;rw[fb q.1];exact WP.some q.2)
def Av(h:WA m ls hd λds x=>QE (.mu x.length) (x++[.lst ds])):WE (AU m) ls hd QE:=WP.bind (h.mono λ_ _ q=>WP.some q)
def C4{g:List D->Option D}(h:WA m ls hd λds x=>∃d,g ds=some d/\QE d x):WE (B9 g m) ls hd QE:=by
 obtain⟨ds,x,e,d,e2,q⟩:=h;exact⟨d,x,by simp only[SW,e,bind_some,e2,fR],q⟩
def Qd(h:WA m ls hd λds x=>WE ma ls x λe y=>∃i d,e=.im 134/\atI ds i=some d/\QE d y):WE (HA m ma) ls hd QE:=by
 obtain⟨ds,x,e,d,y,e2,i,z,rfl,e4,q⟩:=h;exact⟨z,y,by simp only[bS,e,bind_some,e2,e4,fR],q⟩
def Bi{f:List D->Hd->Option 121}(h:WA m ls hd λds x=>WP (f ds x) QE):WE (mCB f m) ls hd QE:=WP.bind (h.mono λ_ _ q=>q)
def EG{f:D->List D->Hd->Option 121}(h:WE ma ls hd λd x=>(∃l,Ac x d=some l)/\WA m ls x λds y=>WP (f d ds y) QE):WE (mMt f ma m) ls hd QE:=by
 obtain⟨d,x,e,⟨l,hl⟩,q⟩:=h;unfold WE;rw[Q8,e,bind_some];dsimp only;rw[hl];exact WP.bind (q.mono λ_ _ q=>q)
def CY{F:List D->Hd->Option 121}(h:WA m ls hd λds x=>WF F ds x QE):WE (Ba F m) ls hd QE:=WP.bind (h.mono λ_ _ q=>q)
def Gh(h:WE ma ls hd λd x=>∃i,d=.im 134/\QE (.im (.int (-i))) x):WE (EB ma) ls hd QE:=by
 obtain⟨d,x,e,i,rfl,q⟩:=h;exact⟨_,x,by simp only[bQ,e,bind_some],q⟩
def WM(h:WT (A7 ma) ls hd λc x=>if c=true then WE mb ls x QE else QE (.im (.bl false)) x):WE (Hn ma mb) ls hd QE:=by
 refine WP.bind (h.mono λc x q=>?_);dsimp only;cases c
 .exact WP.some (by simpa using q)
 .simpa using q
def WG(h:WT (A7 ma) ls hd λc x=>QE (.im (.bl (!c))) x):WE (Hk ma) ls hd QE:=WP.bind (h.mono λ_ _ q=>WP.some q)
def AQ(h:WE ma ls hd λd x=>∃b,d=.im (.bl b)/\QT b x):WT (A7 ma) ls hd QT:=by
 obtain⟨d,x,e,b,rfl,q⟩:=h;exact⟨b,x,by simp only[Hw,e,bind_some],q⟩
def FP(h:WE ma ls hd λd x=>∃b,By x d=some b/\QT b x):WT (CB ma) ls hd QT:=by
 obtain⟨d,x,e,b,e2,q⟩:=h;exact⟨b,x,by simp only[Js,e,bind_some,e2,fR],q⟩
def Gf(h:WT ta ls hd λc x=>QT (!c) x):WT (Gx ta) ls hd QT:=WP.bind (h.mono λ_ _ q=>WP.some q)
def EV(h:WT ta ls hd λc x=>if c=true then WT tb ls x QT else QT false x):WT (CP ta tb) ls hd QT:=by
 refine WP.bind (h.mono λc x q=>?_);dsimp only;cases c
 .exact WP.some (by simpa using q)
 .simpa using q
def Dj(h:WT ta ls hd λc x=>if c=true then QT true x else WT tb ls x QT):WT (mOr ta tb) ls hd QT:=by
 refine WP.bind (h.mono λc x q=>?_);dsimp only;cases c
 .simpa using q
 .exact WP.some (by simpa using q)
def C1(h:QT true hd):WT C6 ls hd QT:=⟨_,_,rfl,h⟩
def A8(h:QA [] hd):WA A3 ls hd QA:=⟨_,_,rfl,h⟩
def A4(h:WE ma ls hd λd x=>WA m ls x λds y=>QA (d::ds) y):WA (A1 ma m) ls hd QA:=WP.bind (h.mono λ_ _ q=>WP.bind (q.mono λ_ _ q=>WP.some q))
def BZ(h:WA m ls hd λds x=>BY 83/\QA ds x):WA (Ab m) ls hd QA:=WP.bind (h.mono λds x q=>by dsimp only;rw[fb q.1];exact WP.some q.2)
def WN{k:Int}(e:m ls hd=some ([.im (.int k)],hd))(hk:He k)(q:QA (Aw 0 k.toNat) hd):WA (Gv m) ls hd QA:=⟨_,_,by simp only[bO,e,bind_some,hk,fL],q⟩
def IK(h:WA m ls hd λds x=>∃k,ds=[.im (.int k)]/\Fz k/\QI (Aw 0 k.toNat,[]) x):WI (DE m) ls hd QI:=by
 obtain⟨ds,x,e,k,rfl,c,q⟩:=h;exact⟨_,x,by simp only[bV,e,bind_some,c,fL],q⟩
def C3(h:WE ma ls hd λd x=>∃ds,AV d=some ds/\QI (ds,[]) x):WI (Au ma) ls hd QI:=by
 obtain⟨d,x,e,ds,e2,q⟩:=h;exact⟨_,x,by simp only[bU,e,bind_some,e2,fR],q⟩
def Sz(h:WA m ls hd λds x=>QI (ds,[]) x):WI (KU m) ls hd QI:=by
 obtain⟨ds,x,e,q⟩:=h;exact⟨_,x,by simp only[bW,e,fR],q⟩
def FG(h:WE ma ls hd λd x=>∃k ds,d=.mu k/\x[k]?=some (.lst ds)/\QI (ds,[(k,ds)]) x):WI (BI ma) ls hd QI:=by
 obtain⟨d,x,e,k,ds,rfl,e2,q⟩:=h;exact⟨_,x,by simp only[SV,e,bind_some,e2],q⟩
def Ar{k:Nat}(h:WI mi ls hd λp x=>BY p.1.length/\WP (B5 n ta ma p.2 p.1 (Dv k ix ls) x) QA):WA (Af k ix mi n ta ma) ls hd QA:=WP.bind (h.mono λp x q=>by dsimp only;rw[fb q.1];exact q.2)
theorem MH(P:List D->List D->Ls->Hd->Prop):∀{ds es:List D} {ls:Ls} {hd:Hd},P ds es ls hd ->
 (∀d r es ls hd,P (d::r) es ls hd->∃ls1,n d ls hd=some ls1/\WT ta ls1 hd λc x=>if c=true then WE ma ls1 x λz y=>GOk y g/\P r (es++[z]) ls1 y else GOk x g/\P r es ls1 x) ->
 WP (B5 n ta ma g ds ls hd) λzs x=>∃ls',P [] (es++zs) ls' x
 |[],es,ls,hd,h,k=>⟨_,_,by unfold B5;rfl,ls,by simpa using h⟩
 |d::r,es,ls,hd,h,k=>by
  obtain⟨ls1,e1,c,x,e2,q⟩:=k d r es ls hd h;unfold B5;rw[e1,bind_some,e2,bind_some];cases c with
  |true=>
   rw[fb rfl]at q ⊢;obtain⟨z,y,e3,g3,p3⟩:=q;obtain⟨zs,y2,e4,ls',p4⟩:=MH P p3 k;rw[e3,bind_some];dsimp only;rw[fb g3,e4];exact⟨z::zs,y2,rfl,ls',by simpa using p4⟩
  |false=>
   rw[fe Bool.false_ne_true]at q ⊢;dsimp only;rw[fb q.1];exact MH P q.2 k
def EY{i j:Int}(q:QE (.im (.int (i+j))) hd):WP (Al (.im 134) (.im (.int j)) hd) QE:=⟨_,_,by simp,q⟩
def FQ{i j:Int}(q:QE (.im (.int (i-j))) hd):WP (CD (.im 134) (.im (.int j)) hd) QE:=⟨_,_,by simp,q⟩
def EW{i j:Int}(c:EH i j)(q:QE (.im (.int (i*j))) hd):WP (Bc (.im 134) (.im (.int j)) hd) QE:=⟨_,_,by simp[c],q⟩
def Dy{i j:Int}(c:EI j)(q:QE (.im (.int (i%j))) hd):WP (Cv (.im 134) (.im (.int j)) hd) QE:=⟨_,_,by simp[c],q⟩
def K9{i j:Int}(c:M7 j)(q:QE (.im (.int (i/j))) hd):WP (GI (.im 134) (.im (.int j)) hd) QE:=⟨_,_,by simp[c],q⟩
def Ha{i j:Int}(q:QE (.im (.bl (decide (i<j)))) hd):WP (gLt (.im 134) (.im (.int j)) hd) QE:=⟨_,_,by simp,q⟩
def Hb{i j:Int}(q:QE (.im (.bl (decide (i<=j)))) hd):WP (gLe (.im 134) (.im (.int j)) hd) QE:=⟨_,_,by simp,q⟩
def Ft{i j:Int}(q:QE (.im (.bl (decide (j<i)))) hd):WP (gGt (.im 134) (.im (.int j)) hd) QE:=⟨_,_,by simp,q⟩
def Ou{i j:Int}(q:QE (.im (.bl (decide (j<=i)))) hd):WP (gGe (.im 134) (.im (.int j)) hd) QE:=⟨_,_,by simp,q⟩
def EX{i j:Int}(q:QE (.im (.bl (decide (i=j)))) hd):WP (gEq (.im 134) (.im (.int j)) hd) QE:=⟨_,_,by simp,q⟩
def JF{i j:Int}(q:QE (.im (.bl (!decide (i=j)))) hd):WP (gNe (.im 134) (.im (.int j)) hd) QE:=⟨_,_,by simp,q⟩
def FR{i j:Str}(q:QE (.im (.bl (decide (i=j)))) hd):WP (gEq (.im (.str i)) (.im (.str j)) hd) QE:=⟨_,_,by simp,q⟩
def JE{i j:Str}(q:QE (.im (.bl (!decide (i=j)))) hd):WP (gNe (.im (.str i)) (.im (.str j)) hd) QE:=⟨_,_,by simp,q⟩
def AG{i:Int}(e1:An hd d=some ds)(e2:atI ds i=some e)(q:QE e hd):WP (gIx d (.im 134) hd) QE:=⟨_,_,by rw[Vy,e1,bind_some,e2];rfl,q⟩
def WB(e1:C7 hd d=some kvs)(e2:Ci e=some k)(e3:BG kvs k=some z)(q:QE z hd):WP (EL d e hd) QE:=⟨_,_,by rw[Yd,e1,bind_some,e2,bind_some,e3];rfl,q⟩
def Ym{neg:Bool}(e1:C7 hd d=some kvs)(e2:Ci e=some k)(q:QE (.im (.bl (if neg then !(BG kvs k).isSome else(BG kvs k).isSome))) hd):WP (HH neg e d hd) QE:=⟨_,_,by unfold HH;rw[e1,bind_some,e2];rfl,q⟩
def HZ{i j:Int}(q:QE (.im (.int (max i j))) hd):WP (D6 [.im 134,.im (.int j)] hd) QE:=⟨_,_,rfl,by have:(if j>i then j else i)=max i j:=(by split<;>omega);rw[this];exact q⟩
def K8{i j:Int}(q:QE (.im (.int (min i j))) hd):WP (GK [.im 134,.im (.int j)] hd) QE:=⟨_,_,rfl,by have:(if j<i then j else i)=min i j:=(by split<;>omega);rw[this];exact q⟩
def Bh{tp:Bool}{g:List D->Option D}(e1:(if tp then An hd d else Ac hd d)=some ds)(e2:g ds=some z)(q:QE z hd):WP (f1 tp g [d] hd) QE:=⟨_,_,by rw[cj,e1,bind_some,e2];rfl,q⟩
def CK{k:Nat}(e1:hd[k]?=some (.lst ds))(c:DR 83)(q:QE (.im .non) (hd.set k (.lst (ds++[x])))):WP (Ad (.mu k) [x] hd) QE:=⟨_,_,by rw[SX,e1];simp only[c,fL],q⟩
def W9{w:Nat}(h:WE mc ls hd λp x=>WE ma ls x λq y=>WE mb ls y λr z=>∃w k kvs,q=.mu w/\Ci r=some k/\z[w]?=some (.dic kvs)/\DR kvs.length/\QS (.nx ls) (z.set w (.dic (De kvs k p)))):WS (Hm ma mb mc) ls hd QS:=by
 obtain⟨p,x,e1,q,y,e2,r,z,e3,w,k,kvs,rfl,e4,e5,c,qq⟩:=h;exact⟨_,_,by simp only[Yc,e1,bind_some,e2,e3,e4,e5,c,fL],qq⟩
def DF(h:WE mc ls hd λp x=>WE ma ls x λq y=>WE mb ls y λr z=>∃w i j ds,q=.mu w/\r=.im 134/\z[w]?=some (.lst ds)/\ixN 83 i=some j/\QS (.nx ls) (z.set w (.lst (ds.set j p)))):WS (CQ ma mb mc) ls hd QS:=by
 obtain⟨p,x,e1,q,y,e2,r,z,e3,w,i,j,ds,rfl,rfl,e5,c,qq⟩:=h;exact⟨_,_,by simp only[YZ,e1,bind_some,e2,e3,e5,c,fR],qq⟩
def Ax{k n:Nat}{m:MS}{ds:List D}{Q:D->Hd->Prop}(hl:83=k)(h:WS m (ds.map some++104 (n-k) none) hd λf x=>match f with
 |.rt d=>Q d x
 |.nx _=>Q (.im .non) x
 | _=>False):WF (mkF k n m) ds hd Q:=by
 obtain⟨f,x,e,q⟩:=h;unfold WF mkF;rw[fb hl,e];cases f with
 |nx l=>exact⟨_,_,rfl,q⟩
 |rt l=>exact⟨_,_,rfl,q⟩
 |bk l=>exact q.elim
 |ct l=>exact q.elim
def As{F:List D->Hd->Option 121}(h:WA m ls hd λds x=>Ak 0 ds=true/\WF F ds [] λd _=>∃i,d=.im i/\QE (.im i) x):WE (A9 0 F m) ls hd QE:=by
 obtain⟨ds,x,e,c,d,y,e2,i,rfl,q⟩:=h;exact⟨_,_,HV e c e2,q⟩
end
structure Tap(T:Nat->MO->MO->Prop)(P:List D->Hd->Option 121):Prop where
 cl:∀{k:Nat} {a b:MO},T k a b->clO 2 a=true/\clO 2 b=true
 le:∀{j k:Nat} {a b:MO},T k a b->j<=k->T j a b
 pick:∀{k:Nat} {a b:MO} {many:Int},T (k+1) a b->0<many->many<1073741824->∃r a' b',0<=r/\r<many/\P [.mu 1,.im (.int many)] [a,b]=some (.im (.int r),[a',b'])/\T k a' b'
section
variable{T:Nat->MO->MO->Prop}{P:List D->Hd->Option 121}{rest:Hd}{QE:D->Hd->Prop}{n c:Nat}
def Tap.draw(t:Tap T P)(hT:T (n+1) a b){many:Int}(e:m ls hd=some ([.mu 1,.im (.int many)],a::b::rest))(h0:0<many)(h1:many<1073741824)
 (k:∀r a' b',T n a' b'->0<=r->r<many->QE (.im (.int r)) (a'::b'::rest)):WE (A9 2 P m) ls hd QE:=by
 obtain⟨r,a',b',p1,p2,e2,hT'⟩:=t.pick hT h0 h1;refine⟨_,_,Nf (w:=2) (ds:=[.mu 1,.im (.int many)]) (pre:=[a,b]) (pre':=[a',b']) (rest:=rest) (g:=[]) rfl rfl e 70 ?_ ?_ (by simpa using e2),k r a' b' hT' p1 p2⟩
 .simp[t.cl hT]
 .simp[t.cl hT']
end
section
variable{K:Frag}
noncomputable def Ey(w:Nat)(ls:Ls):Ls:=ls.map λo=>match o with
 |some d=>if clD w d=true then some d else none
 |none=>none
noncomputable def Ez(w:Nat):Fl->Option Fl
 |.nx ls=>some (.nx (Ey w ls))
 |.bk ls=>some (.bk (Ey w ls))
 |.ct ls=>some (.ct (Ey w ls))
 |.rt d=>if clD w d=true then some (.rt d)else none
noncomputable def Jh(w:Nat)(m:MS):MS:=λls hd=>if 131<=w then(m ls hd).bind λp=>if(p.2.take w).all (clO w)=true then(Ez w p.1).map λf=>(f,p.2.take w)else none else none
def RL.trim(h:RL K ρ H ls σ)(w:Nat):RL K (ρ.take w) H (Ey w ls) σ:=by
 refine⟨by simp[Ey,h.len],λi d e=>?_⟩;unfold Ey at e;rw[List.getElem?_map]at e;cases q:ls[i]? with
 |none=>rw[q]at e;cases e
 |some o=>
  rw[q]at e;cases o with
  |none=>simp at e
  |some z=>
   simp only[fR,Option.some.injEq]at e;split at e
   .next c=>
    cases e;obtain⟨v,e1,e2⟩:=h.ob i _ q;exact⟨v,e1,e2.take w c⟩
   .cases e
def Ext.trim(x:Ext ρ H ρ' H'){w:Nat}(h:ρ.length<=w):Ext ρ H (ρ'.take w) H':=by
 obtain⟨r,rfl,fr⟩:=x.pre;refine⟨⟨r.take (w-ρ.length),?_,λb hb=>fr b (List.mem_of_mem_take hb)⟩,x.keep,x.tab⟩;rw[List.take_append,List.take_of_length_le h]
def Wh(w:Nat)(h:RS K t m):RS K t (Jh w m):=by
 intro ρ σ H hd ls E f hd' hR hL hm hQ;unfold Jh at hm;split at hm
 .next hw=>
  obtain⟨⟨f1,h1⟩,e1,hm⟩:=fJ hm;dsimp only at hm;split at hm
  .next c=>
   obtain⟨f2,e2,e3⟩:=fK hm;cases e3;refine h ρ σ H hd ls E f1 h1 hR hL e1 λρ1 H1 x1 R1=>?_;have q:=hQ (ρ1.take w) H1 (x1.trim (by rw[hR.len];exact hw)) (R1.take w c);cases f1 with
   |nx l=>simp only[Ez,Option.some.injEq]at e2;subst e2;exact λσ' L=>q σ' (L.trim w)
   |bk l=>simp only[Ez,Option.some.injEq]at e2;subst e2;exact λσ' L=>q σ' (L.trim w)
   |ct l=>simp only[Ez,Option.some.injEq]at e2;subst e2;exact λσ' L=>q σ' (L.trim w)
   |rt d=>
    simp only[Ez]at e2;split at e2
    .next c2=>cases e2;exact λv r=>q v (r.take w c2)
    .cases e2
  .cases hm
 .cases hm
def W7{w:Nat}{Q:Fl->Hd->Prop}(hw:131<=w)(h:WS m ls hd λf x=>(x.take w).all (clO w)=true/\∃f',Ez w f=some f'/\Q f' (x.take w)):WS (Jh w m) ls hd Q:=by
 obtain⟨f,x,e,c,f',e2,q⟩:=h;exact⟨f',x.take w,by unfold Jh;rw[fb hw,e,bind_some];dsimp only;rw[fb c,e2];rfl,q⟩
noncomputable def El(m:MS):MS:=λls hd=>Jh 131 m ls hd
def Tm(h:RS K t m):RS K t (El m):=λρ σ H hd ls E f hd' hR hL hm hQ=>Wh 131 h ρ σ H hd ls E f hd' hR hL hm hQ
def Rh(K:Frag){st:List Stmt}(h:QSs K X st t m):QSs K X st t (El m):=⟨h.p,Tm h.r⟩
def II{Q:Fl->Hd->Prop}(h:WS m ls hd λf x=>(x.take 131).all (clO 131)=true/\∃f',Ez 131 f=some f'/\Q f' (x.take 131)):WS (El m) ls hd Q:=W7 (fg _) h
noncomputable def eU:ME:=λ_ hd=>some (.mu 131,hd++[.dic []])
def aa{X:Cx}{j k:Nat}{st:Stmt}{p pos:Pos}(F:FnOk X.prog X.w X.K X.mg X.base CX0 j f fd ps sp)(hr:Room k X.A)(D:DefAt X.K X.mg x st f fd ps)
 (hjk:j<=k:=by decide) (hg:Gl X x:=by rfl) (hdb:126=false:=by decide):
 PE X (.Call (.Name x p) [] [] pos) (C9 sp [] E0 BQ):=
 Uk (F.mono hjk) hr hg D.mg D.fn.kp D.bd .nil Vo hdb
def Rj(K:Frag){X:Cx}(w:Nat){j k:Nat}{n:Nat}{F:List D->Hd->Option 121}{st:Stmt}{p pos:Pos}(G:FnOk X.prog X.w X.K X.mg X.base CX0 j f fd ps (spF K n F))(hr:Room k X.A)(DA:DefAt X.K X.mg x st f fd ps)(hF:∀ds hd z,F ds hd=some z->83=n)
 (hjk:j<=k:=by decide) (hg:Gl X x:=by rfl) (hdb:126=false:=by decide):
 QE K X (.Call (.Name x p) [] [] pos) (C9 (spF K n F) [] E0 BQ) (A9 w F A3):=⟨aa G hr DA hjk hg hdb,My Mz hF⟩
end
mutual
theorem NW{v w:Nat}(h:v<=w):∀{d:D},clD v d=true->clD w d=true
 |.im i,_=>by simp
 |.mu n,c=>by simp at c ⊢;omega
 |.tm ds,c=>by rw[clD]at c ⊢;exact E8 h c
 |.ro ns,_=>by rw[clD]
 |.op _ _ ds,c=>by rw[clD]at c ⊢;exact E8 h c
 |.fv _ ds,c=>by rw[clD]at c ⊢;exact E8 h c
theorem E8{v w:Nat}(h:v<=w):∀{ds:List D},Ak v ds=true->Ak w ds=true
 |[],_=>by simp
 |d::ds,c=>by
  simp only[Sf,Bool.and_eq_true]at c ⊢;exact⟨NW h c.1,E8 h c.2⟩
end
theorem LU{v w:Nat}(h:v<=w):∀{ds:List (Key×D)},GR v ds=true->GR w ds=true
 |[],_=>by simp[GR]
 |d::ds,c=>by
  simp only[GR,Bool.and_eq_true]at c ⊢;exact⟨NW h c.1,LU h c.2⟩
def Iz{v w:Nat}(h:v<=w)(c:clO v o=true):clO w o=true:=by
 cases o with
 |lst ds=>exact E8 h c
 |dic ds=>exact LU h c
section
variable{T:Nat->MO->MO->Prop}{P:List D->Hd->Option 121}{rest:Hd}{QE:D->Hd->Prop}
def Tap.callX(t:Tap T P){n c:Nat}(hT:T (n+c) a b)(ex:Hd){w:Nat}{F:List D->Hd->Option 121}{R:I->Prop}(e:m ls hd=some (.mu 1::as,a::b::(ex++rest)))(hw:w=ex.length+2)(ha:Ak w as=true)(hx:ex.all (clO w)=true)
 (hF:∀a b,T (n+c) a b->WF F (.mu 1::as) (a::b::ex) λd x=>∃i a' b' g,d=.im i/\R i/\T n a' b'/\x=a'::b'::(ex++g))
 (k:∀i a' b',T n a' b'->R i->QE (.im i) (a'::b'::(ex++rest))):WE (A9 w F m) ls hd QE:=by
 subst hw;have hcl:∀o,clO 2 o=true->clO (ex.length+2) o=true:=λo h=>Iz 59 h;obtain⟨d,x,e2,i,a',b',g,rfl,hR,hT',rfl⟩:=hF a b hT;refine⟨_,_,Nf (w:=ex.length+2) (ds:=.mu 1::as) (pre:=a::b::ex) (pre':=a'::b'::ex) (rest:=rest) (g:=g) rfl rfl e (by simp[ha]) ?_ ?_ e2,k i a' b' hT' hR⟩
 .simp[hcl _ (t.cl hT).1,hcl _ (t.cl hT).2];simpa using hx
 .simp[hcl _ (t.cl hT').1,hcl _ (t.cl hT').2];simpa using hx
def Tap.call(t:Tap T P){n c:Nat}(hT:T (n+c) a b){F:List D->Hd->Option 121}{R:I->Prop}(e:m ls hd=some (.mu 1::as,a::b::rest))(ha:Ak 2 as=true)
 (hF:∀a b,T (n+c) a b->WF F (.mu 1::as) [a,b] λd x=>∃i a' b' g,d=.im i/\R i/\T n a' b'/\x=a'::b'::g)
 (k:∀i a' b',T n a' b'->R i->QE (.im i) (a'::b'::rest)):WE (A9 2 F m) ls hd QE:=
 t.callX hT [] (w:=2) e rfl ha rfl hF k
end
end L2
namespace L2
open PySem PySem.Spec PyProof.Rows
section
variable{Q:Fl->Hd->Prop}{QE:D->Hd->Prop}
def bw(P:Ls->Hd->Prop)(Q:Fl->Hd->Prop):Fl->Hd->Prop
 |.nx l,h=>P l h
 |.ct l,h=>P l h
 |.bk l,h=>Q (.nx l) h
 |.rt d,h=>Q (.rt d) h
def M9(P:Nat->Ls->Hd->Prop){n:Nat}(h:P n ls hd)
 (k:∀n ls hd,P n ls hd->WT c ls hd λt x=>if t=true then WS b ls x (bw (λl y=>∃m,m<n/\P m l y) Q)else Q (.nx ls) x):WS (Ch c b) ls hd Q:=by
 have go:∀n ls hd,P n ls hd->∃j r,B3 c b j ls hd=some r/\Q r.1 r.2:=by
  intro n
  induction n using Nat.strongRecOn with
  |ind n ih=>
   intro ls hd h;obtain⟨t,x,e1,q⟩:=k n ls hd h;cases t with
   |false=>
    rw[fe Bool.false_ne_true]at q;exact⟨1,(.nx ls,x),by unfold B3;rw[e1];rfl,q⟩
   |true=>
    rw[fb rfl]at q;obtain⟨f,y,e2,q⟩:=q;cases f with
    |nx l=>
     obtain⟨m,hm,p⟩:=q;obtain⟨j,r,e3,q3⟩:=ih m hm l y p;exact⟨j+1,r,by unfold B3;rw[e1,bind_some,fb rfl,e2];exact e3,q3⟩
    |ct l=>
     obtain⟨m,hm,p⟩:=q;obtain⟨j,r,e3,q3⟩:=ih m hm l y p;exact⟨j+1,r,by unfold B3;rw[e1,bind_some,fb rfl,e2];exact e3,q3⟩
    |bk l=>exact⟨1,(.nx l,y),by unfold B3;rw[e1,bind_some,fb rfl,e2];rfl,q⟩
    |rt d=>exact⟨1,(.rt d,y),by unfold B3;rw[e1,bind_some,fb rfl,e2];rfl,q⟩
 obtain⟨j,⟨f,x⟩,e,q⟩:=go n ls hd h;exact⟨f,x,LI e,q⟩
def Sr{k j:Nat}{i:Int}(e1:hd[k]?=some (.lst ds))(hr:Fz i)(e2:ixN 83 i=some j)(e3:ds[j]?=some z)(q:QE z (hd.set k (.lst (ds.eraseIdx j)))):WP (Fi (.mu k) [.im 134] hd) QE:=⟨_,_,by rw[VE,e1];simp[hr,e2,e3],q⟩
end
end L2
namespace Bd
open PySem L2
@[reducible] noncomputable def Tp:MS:=(A5 (AE 2 103)
 (A5 (BA (Au 77) (Bj 2 (AZ (AC 3) (AZ (AC 4) Bl)))
  (A5 (Ag (A7 (mOp gGt (A0 3) 139))
  (AN 144)
  Aa)
 (AE 2 (A0 4))))
 (AN 144)))
noncomputable def HR:List D->Hd->Option 121:=mkF 2 5 Tp
@[reducible] def fG:MS:=(A5 (AE 2 (mOp gIx 77 103))
 (A5 (Ag (A7 (mOp gEq 144 (mC (.str "steps"))))
  (AN (A9 0 HR (A1 (mOp gIx 77 123) (A1 139 A3))))
  Aa)
 (A5 (Ag (A7 (mOp gEq 144 (mC (.str "ends"))))
  (AN (mOp Bc (mOp gIx 77 123) 139))
  Aa)
 (A5 (AE 3 (mOp CD 139 (mOp gIx 77 123)))
 (A5 (Ag (A7 (mOp gEq 144 (mC (.str "late"))))
  (AN (A0 3))
  Aa)
 (A5 (Ag (A7 (mOp gLe (A0 3) 103))
  (AN 103)
  Aa)
 (A5 (Ag (A7 (mOp gEq 144 (mC (.str "tardy"))))
  (AN (mOp Bc (mOp gIx 77 (mC (.int 2))) (A0 3)))
  Aa)
 (AN (mOp gIx 77 (mC (.int 2)))))))))))
noncomputable def F_cost_at:List D->Hd->Option 121:=mkF 2 4 fG
theorem DD:∀ns:List Int,I.pys (ns.map I.int)=ns.map PyData.int
 |[]=>by simp[I.pys]
 |n::ns=>by simp[I.pys,I.py,DD ns]
def Cr(ns:List Int):B2 (ns.map λi=>D.im 134)=some (ns.map I.int):=by
 have:(ns.map λi=>D.im 134)=(ns.map I.int).map D.im:=by rw[fM];rfl
 rw[this];exact allIm_map _
def Ye(ns:List Int):PyData.eqv (.list (ns.map PyData.int)) (.list [])=decide (ns=[]):=by
 cases ns<;>simp[PyData.eqv,PyData.eqvAll]
def lay_ints(ns:List Int):(PyData.list (ns.map PyData.int)).canLay0=true:=by simp[PyData.canLay0,IG]
def Ol(ns:List Int)(hd:Hd)(neg:Bool):Ep neg (.list (ns.map PyData.int)) (.list []) hd=some (.im (.bl (if neg then !decide (ns=[])else decide (ns=[]))),hd):=by
 unfold Ep;rw[fb,Ye];refine⟨lay_ints ns,by simp[PyData.canLay0,PyData.canLayAll0],?_⟩;have:(PyData.list []).depth<=1:=by simp[PyData.depth,PyData.depthAll]
 omega
def F8{x:Int}(m:Int)(h:0<m):0<=x%m/\x%m<m:=⟨Int.emod_nonneg _ 59,Int.emod_lt_of_pos _ h⟩
def cz(h:xs≠[])(n:Int):∃c,atI (xs.map λi=>D.im 134) (n%(xs.length:Int))=some (.im (.int c)):=by
 have hl:0<xs.length:=Fd h;obtain⟨a,b⟩:=F8 (x:=n) (xs.length:Int) 59;obtain⟨k,hk⟩:=Int.eq_ofNat_of_zero_le a;have hk':k<xs.length:=by omega
 exact⟨xs[k],JA hk (by simp[hk'])⟩
def po1:Ph 10 18:=by unfold Ph;decide
inductive Cost where
 |late (d:Int)|tardy (d w:Int)|miss (d w:Int)|ends (w:Int)|steps (rows:List 115)
noncomputable def Fy(r:Int×Int):I:=.tup [.int r.1,.int r.2]
noncomputable def Ai:Cost->I
 |.late d=>.tup [.str "late",.int d]
 |.tardy d w=>.tup [.str "tardy",.int d,.int w]
 |.miss d w=>.tup [.str "miss",.int d,.int w]
 |.ends w=>.tup [.str "ends",.int w]
 |.steps rows=>.tup [.str "steps",.tup (rows.map Fy)]
noncomputable def BE(t:Int):List 115->Int->Int
 |[],told=>told
 |(b,a)::r,told=>if t<b then told else BE t r a
noncomputable def Cost.at:Cost->Int->Int
 |.late d,t=>t-d
 |.tardy d w,t=>if t-d<=0 then 0 else w*(t-d)
 |.miss d w,t=>if t-d<=0 then 0 else w
 |.ends w,t=>w*t
 |.steps rows,t=>BE t rows 0
def Cost.wok:Cost->Prop
 |.tardy _ w=>0<=w/\w<=1000000
 |.miss _ w=>0<=w/\w<=1000000
 |.ends w=>0<=w/\w<=1000000
 |_=>True
def n1:¬ (("late":Str)="steps"):=by decide +kernel
def n2:¬ (("tardy":Str)="steps"):=by decide +kernel
def n3:¬ (("miss":Str)="steps"):=by decide +kernel
def n4:¬ (("ends":Str)="steps"):=by decide +kernel
def n5:¬ (("late":Str)="ends"):=by decide +kernel
def n6:¬ (("tardy":Str)="ends"):=by decide +kernel
def n7:¬ (("miss":Str)="ends"):=by decide +kernel
def n8:¬ (("tardy":Str)="late"):=by decide +kernel
def n9:¬ (("miss":Str)="late"):=by decide +kernel
def n10:¬ (("miss":Str)="tardy"):=by decide +kernel
theorem JM(t:Int)(z:D)(hd:Hd):∀(rows:List 115) (told:Int) (x y:Option D),∃fl x' y',BW (Bj 2 (AZ (AC 3) (AZ (AC 4) Bl))) (A5 (Ag (A7 (mOp gGt (A0 3) 139)) (AN 144) Aa) (AE 2 (A0 4))) [] ((rows.map Fy).map .im)
 [some z,some (.im (.int t)),some (.im (.int told)),x,y] hd=some (fl,hd)/\(fl=.rt (.im (.int (BE t rows told)))∨fl=.nx [some z,some (.im (.int t)),some (.im (.int (BE t rows told))),x',y'])
 |[],told,x,y=>⟨_,x,y,NB,.inr rfl⟩
 |(b,a)::rows,told,x,y=>by
   by_cases h:t<b
   .refine⟨_,x,y,Uz (ls1:=[some z,some (.im (.int t)),some (.im (.int told)),some (.im (.int b)),some (.im (.int a))]) (by simp[Fy]) (v:=.im (.int told)) (hd2:=hd) ?_,.inl ?_⟩
    .simp[h]
    .simp[BE,h]
   .obtain⟨fl,x',y',e,q⟩:=JM t z hd rows a (some (.im (.int b))) (some (.im (.int a)));refine⟨fl,x',y',?_,?_⟩
    .rw[<- e];refine HE (ls1:=[some z,some (.im (.int t)),some (.im (.int told)),some (.im (.int b)),some (.im (.int a))]) (by simp[Fy]) ?_ (AJ _);simp[h]
    .simpa [BE,h]using q
def Np(rows:List 115)(t:Int):HR [.im (.tup (rows.map Fy)),.im (.int t)] []=some (.im (.int (BE t rows 0)),[]):=by
 obtain⟨fl,x',y',e,q⟩:=JM t (.im (.tup (rows.map Fy))) [] rows 0 none none;rcases q with rfl|rfl
 .simp[HR,mkF]at e ⊢;simp[e]
 .simp[HR,mkF]at e ⊢;simp[e]
def Jw(c:Cost)(t:Int)(h:c.wok):F_cost_at [.im (Ai c),.im (.int t)] []=some (.im (.int (c.at t)),[]):=by
 cases c with
 |late d=>simp[F_cost_at,mkF,Ai,n1,n5,Cost.at]
 |tardy d w=>
  have b1:∀j,EH w j:=λj=>DH (by obtain⟨a,b⟩:=h;omega) (by obtain⟨a,b⟩:=h;omega);by_cases q:t-d<=0
  .simp[F_cost_at,mkF,Ai,n2,n6,n8,Cost.at,q]
  .simp[F_cost_at,mkF,Ai,n2,n6,n8,Cost.at,q,b1]
 |miss d w=>
  by_cases q:t-d<=0
  .simp[F_cost_at,mkF,Ai,n3,n7,n9,Cost.at,q]
  .simp[F_cost_at,mkF,Ai,n3,n7,n9,n10,Cost.at,q]
 |ends w=>
  have b1:∀j,EH w j:=λj=>DH (by obtain⟨a,b⟩:=h;omega) (by obtain⟨a,b⟩:=h;omega);simp[F_cost_at,mkF,Ai,n4,Cost.at,b1]
 |steps rows=>
  have:=HV (m:=A1 (mOp gIx 77 123) (A1 139 A3)) (ls:=[some (.im (Ai (.steps rows))),some (.im (.int t)),some (.im (.str "steps")),none]) (hd:=[]) (hd1:=[]) (F:=HR) (ds:=[.im (.tup (rows.map Fy)),.im (.int t)]) (by simp[Ai]) 70 (Np rows t);simp[Ai]at this;simp[F_cost_at,mkF,Ai,Cost.at,this]
def E9(w:Nat)(ns:List Int):Ak w (ns.map λi=>D.im 134)=true:=by induction ns<;>simp_all [Ak,clD]
noncomputable abbrev Ae(ks:List Nat):I:=.tup (ks.map λk:Nat=>.int k)
def VJ(ns:List Int)(lo hi:Option Int):∃cs:List Int,GQ (ns.map λn=>.im (.int n)) lo hi=cs.map λn=>.im (.int n):=⟨(ns.drop _).take _,by unfold GQ;rw[map_take,List.map_drop]⟩
noncomputable abbrev AK(ks:List Nat):List D:=ks.map λk:Nat=>D.im 120
def YM{n:Nat}{i:Int}(a:0<=i)(b:i<n):ixN n i=some i.toNat:=by unfold ixN;rw[fb a,fb b]
theorem Jc:∀{a:List Nat} {k x:Nat},a[k]?=some x->(x::a.eraseIdx k).Perm a
 |[],k,x,h=>by simp at h
 |y::r,0,x,h=>by simp at h;subst h;exact .refl _
 |y::r,k+1,x,h=>by
  have ih:=Jc (a:=r) (k:=k) (x:=x) (by simpa using h);exact(List.Perm.swap y x _).trans (ih.cons y)
theorem LS{α β:Type}(f:α->β):∀(l:List α) (k:Nat),(l.map f).eraseIdx k=(l.eraseIdx k).map f
 |[],k=>rfl
 |y::r,0=>rfl
 |y::r,k+1=>by simp[LS f r k]
def Rr{k x:Nat}(h:a[k]?=some x):(b++[x]++a.eraseIdx k).Perm (b++a):=by
 rw[gz];exact List.Perm.append_left b (Jc h)
noncomputable def M2(p:Int×Int):I:=.tup [.int p.1,.int p.2]
def Along(seq:List Nat)(ps:List 115):Prop:=∀p∈ps,∃i j a b:Nat,i<j/\seq[i]?=some a/\seq[j]?=some b/\p=((a:Int),(b:Int))
def S4{i a:Nat}(h:seq[i]?=some a):atI (AK seq) (i:Int)=some (.im (.int (a:Int))):=JA rfl (by simp[h])
def VI(xs:List D)(k:Nat):GQ xs none (some (k:Int))=xs.take k:=by
 unfold GQ;rw[HT.sIx_none,HT.sIx_nat,Nat.sub_zero,List.drop_zero];by_cases h:k<=85
 .rw[Nat.min_eq_left h]
 .rw[Nat.min_eq_right 59,List.take_length,List.take_of_length_le 59]
def CA(n:Nat):Aw 0 n=AK (69 n):=by
 refine ext_getElem? λi=>?_;by_cases h:i<n
 .rw[JY h];simp[h]
 .rw[List.getElem?_eq_none 82,List.getElem?_eq_none 82]
theorem Along.pok{seq:List Nat}{n:Nat}(hp:seq.Perm (69 n))(hn:n<=1000)(h:Along seq ps):∀p∈ps,pok p:=by
 intro p hp';obtain⟨i,j,a,b,_,ea,eb,rfl⟩:=h p hp';have ha:a<n:=by simpa using hp.mem_iff.mp (fQ ea)
 have hb:b<n:=by simpa using hp.mem_iff.mp (fQ eb)
 exact⟨by show -1000000000<=(a:Int);omega,by show(a:Int)<=1000000000;omega,by show -1000000000<=(b:Int);omega,by show(b:Int)<=1000000000;omega⟩
noncomputable abbrev intD(xs:List Int):List D:=xs.map λx=>D.im (.int x)
noncomputable abbrev Ed:MS:=(Ag (CP (A7 (mOp gEq (A0 5) (A0 4))) (A7 (mOp (gIn true) (A0 6) 144)))
 (A5 (Aq (mMt Ad 144 (A1 (A0 6) A3)))
 (Aq (mMt Ad (A0 3) (A1 (A0 6) A3))))
  Aa)
noncomputable abbrev NI:MS:=(A5 (AE 4 (mMt HK (A0 3) A3))
 (BA (En 77) (Bj 2 (AZ (AC 5) (AZ (AC 6) Bl))) Ed))
@[reducible] noncomputable def Le:MS:=(A5 (AE 2 (AU (Ab A3)))
 (A5 (AE 3 (AU (Ab (A1 139 A3))))
 (A5 (Ch (CB (A0 3)) NI)
 (AN (B9 Bb (Bn (BI 144)))))))
noncomputable def F_reached:List D->Hd->Option 121:=mkF 2 7 Le
def SL(xs:List Int):Bu (intD xs)=some (xs.map V.int):=by
 induction xs with
 |nil=>rfl
 |cons x r ih=>simp[Bu,EM]at ih ⊢;exact ih
def V5(x:Int)(xs:List Int):inV (.int x) (xs.map V.int)=decide (x∈xs):=by
 unfold inV
 induction xs with
 |nil=>simp
 |cons y r ih=>
  simp only[fq,gV,ih,mem_cons];have:eqV (V.int y) (V.int x)=decide (x=y):=by
   unfold eqV;by_cases h:x=y
   .subst h;simp
   .have h':¬ y=x:=λz=>h z.symm;simp[h,h']
  rw[this,Bool.decide_or]
def in_ints(x:Int)(neg:Bool)(h:An hd d=some (intD xs)):gIn neg (.im (.int x)) d hd=some (.im (.bl (if neg then !decide (x∈xs)else decide (x∈xs))),hd):=by
 simp only[gIn,EM,bind_some,h,SL,fR,V5]
def g0(hd:Hd)(x y:MO):(hd++[x,y])[131]?=some x:=by simp
def g1(hd:Hd)(x y:MO):(hd++[x,y])[131+1]?=some y:=by simp
def t0(hd:Hd)(x y z:MO):(hd++[x,y]).set 131 z=hd++[z,y]:=by simp
def t1(hd:Hd)(x y z:MO):(hd++[x,y]).set (131+1) z=hd++[x,z]:=by simp
theorem Gm(P:D)(hd:Hd)(g:Gd)(G:GOk hd g)(a at_:Int):∀(qs:List 115) (found fresh:List Int) (z5 z6:Option D),found.length+qs.length<=1000->fresh.length+qs.length<=10000->∃(new:List Int) (y5 y6:Option D),
 BW (Bj 2 (AZ (AC 5) (AZ (AC 6) Bl))) Ed g (qs.map AY) [some P,some (.im (.int a)),some (.mu 131),some (.mu (131+1)),some (.im (.int at_)),z5,z6] (hd++[.lst (intD found),.lst (intD fresh)]) =
  some (.nx [some P,some (.im (.int a)),some (.mu 131),some (.mu (131+1)),some (.im (.int at_)),y5,y6],hd++[.lst (intD (found++new)),.lst (intD (fresh++new))])/\
 new.length<=qs.length/\new.Nodup/\(∀y∈new,y∉found/\(at_,y)∈qs)/\∀y,(at_,y)∈qs->y∈found++new
 |[],found,fresh,z5,z6,_,_=>⟨[],z5,z6,by simp[NB],by simp,.nil,λy h=>by simp at h,λy h=>by simp at h⟩
 |(u,v)::qs,found,fresh,z5,z6,hf,hr=>by
   simp only[fU]at hf hr;have gg:∀r:Hd,GOk (hd++r) g:=λr=>YW G r;have nm:∀z5 z6:Option D,∀h:Hd,Bj 2 (AZ (AC 5) (AZ (AC 6) Bl)) (AY (u,v)) [some P,some (.im (.int a)),some (.mu 131),some (.mu (131+1)),some (.im (.int at_)),z5,z6] h=some [some P,some (.im (.int a)),some (.mu 131),some (.mu (131+1)),some (.im (.int at_)),some (.im (.int u)),some (.im (.int v))]:=λz5 z6 h=>by simp[AY]
   have sv:An (hd++[.lst (intD found),.lst (intD fresh)]) (.mu 131)=some (intD found):=by rw[VX,Ho,g0]
   have gi:=in_ints v true sv;by_cases c:u=at_/\v∉found
   .obtain⟨new,y5,y6,q,l,nd,fr,al⟩:=Gm P hd g G a at_ qs (found++[v]) (fresh++[v]) (some (.im (.int u))) (some (.im (.int v))) 82 82;refine⟨v::new,y5,y6,?_,by simp;omega,?_,λy hy=>?_,λy hy=>?_⟩
    .have e1:found++v::new=found++[v]++new:=by simp
     have e2:fresh++v::new=fresh++[v]++new:=by simp
     rw[e1,e2,<- q,fq];have f1:DR found.length:=B4 59;have f2:DR fresh.length:=B4 59;refine HE (nm _ _ _) ?_ (gg _);simp only[Ed,NN,NP,Hw,M4,DS,List.getElem?_cons_zero,List.getElem?_cons_succ,bind_some,Kh,NO,c.1,decide_true,fL,Bool.false_eq_true,fT,gi,c.2,iw,Bool.not_false,Jt,Yb,Q8,Ho,g0,g1,Ki,Ju,SX,fN,f1,f2,t0,t1,gA,fq,gj]
    .refine nodup_cons.mpr ⟨λh=>(fr v h).1 70,nd⟩
    .rcases mem_cons.mp hy with rfl|hy
     .exact⟨c.2,by rw[c.1];exact fo⟩
     .have:=fr y hy;exact⟨λh=>this.1 (by simp[h]),fj _ this.2⟩
    .rcases mem_cons.mp hy with h|h
     .cases h;simp
     .have:=al y h;simp at this ⊢;rcases this with h|h|h
      .exact .inl h
      .exact .inr (.inl h)
      .exact .inr (.inr h)
   .obtain⟨new,y5,y6,q,l,nd,fr,al⟩:=Gm P hd g G a at_ qs found fresh (some (.im (.int u))) (some (.im (.int v))) 59 59;refine⟨new,y5,y6,?_,by simp;omega,nd,λy hy=>⟨(fr y hy).1,fj _ (fr y hy).2⟩,λy hy=>?_⟩
    .rw[<- q,fq];refine HE (nm _ _ _) ?_ (gg _);by_cases c1:u=at_
     .have c2:v∈found:=Classical.not_not.mp λh=>c ⟨c1,h⟩;simp only[Ed,NN,NP,Hw,M4,DS,List.getElem?_cons_zero,List.getElem?_cons_succ,bind_some,Kh,NO,c1,decide_true,fL,Bool.false_eq_true,fT,gi,c2,Bool.not_true,Of]
     .simp only[Ed,NN,NP,Hw,M4,DS,List.getElem?_cons_zero,List.getElem?_cons_succ,bind_some,Kh,NO,c1,iw,fL,Bool.false_eq_true,fT,Of]
    .rcases mem_cons.mp hy with h|h
     .cases h;have c2:v∈found:=Classical.not_not.mp λh=>c ⟨rfl,h⟩;simp[c2]
     .exact al y h
end Bd
namespace L2
open PySem PySem.Spec PyProof.Rows
def CZ(p:Key×D)(r:List (Key×D))(k:Key):BG (p::r) k=if p.1=k then some p.2 else BG r k:=by
 unfold BG;rw[gH];by_cases e:p.1=k<;>simp[e]
theorem MP(k:Key):∀kvs:List (Key×D),(kvs.any λkv=>decide (kv.1=k))=(BG kvs k).isSome
 |[]=>rfl
 |p::r=>by
  rw[gV,CZ];by_cases e:p.1=k
  .simp[e]
  .rw[fe e,gh e,Bool.false_or];exact MP k r
theorem MN(k j:Key)(y:D):∀kvs:List (Key×D),BG (kvs.map λkv=>if kv.1=k then(kv.1,y)else kv) j=(BG kvs j).map λx=>if j=k then y else x
 |[]=>rfl
 |p::r=>by
  have ih:=MN k j y r;rw[fq,CZ,CZ,ih];by_cases h:p.1=k
  .rw[fb h];by_cases e:p.1=j
   .have:j=k:=e.symm.trans h;simp[e,this]
   .simp[e]
  .rw[fe h];by_cases e:p.1=j
   .have:¬ j=k:=λz=>h (e.trans z);simp[e,this]
   .simp[e]
theorem Kx(k j:Key)(y:D):∀kvs:List (Key×D),BG kvs k=none->BG (kvs++[(k,y)]) j=if j=k then some y else BG kvs j
 |[],_=>by
  rw[gQ,CZ];by_cases e:k=j
  .subst e;simp
  .have:¬ j=k:=λz=>e z.symm;simp[e,this]
 |p::r,hn=>by
  rw[CZ]at hn;have hk:¬ p.1=k:=λz=>by rw[fb z]at hn;cases hn
  rw[fe hk]at hn;have ih:=Kx k j y r hn;rw[gJ,CZ,CZ,ih];by_cases e:p.1=j
  .have:¬ j=k:=λz=>hk (e.trans z);simp[e,this]
  .simp[e]
def T8(kvs:List (Key×D))(k j:Key)(y:D):BG (De kvs k y) j=if j=k then some y else BG kvs j:=by
 unfold De;rw[MP];by_cases a:(BG kvs k).isSome=true
 .rw[fb a,MN];by_cases e:j=k
  .subst e;obtain⟨x,hx⟩:=isSome_iff_exists.mp a;simp[hx]
  .simp[e]
 .rw[fe a];exact Kx k j y kvs (by simpa using a)
def N3(kvs:List (Key×D))(k:Key)(y:D):(De kvs k y).length<=kvs.length+1:=by
 unfold De;split<;>simp
def DicI(kvs:List (Key×D))(g:Nat->Option Int):Prop:=∀k:Nat,BG kvs (.inl (k:Int))=(g k).map λv=>.im (.int v)
def DicI.put{g:Nat->Option Int}(h:DicI kvs g)(k:Nat)(v:Int):DicI (De kvs (.inl (k:Int)) (.im (.int v))) λj=>if j=k then some v else g j:=λj=>by
 rw[T8];by_cases e:j=k
 .subst e;simp
 .have:¬ (Sum.inl (j:Int):Key)=Sum.inl (k:Int):=λz=>e (by have:=Sum.inl.inj z;omega);rw[fe this];dsimp only;rw[fe e];exact h j
section
variable{ls:Ls}{hd:Hd}{QE:D->Hd->Prop}{QI:List D×Gd->Hd->Prop}{ma:ME}{n:MG}{ta:MT}{mi:MI}{m:MA}
def IJ{g:Nat->Option Int}{k:Nat}{v:Int}(e1:C7 hd d=some kvs)(h:DicI kvs g)(e:g k=some v)(q:QE (.im (.int v)) hd):WP (EL d (.im 120) hd) QE:=
 WB e1 rfl (by rw[h k,e];rfl) q
def O7{g:Nat->Option Int}{k:Nat}{neg:Bool}(e1:C7 hd d=some kvs)(h:DicI kvs g)(q:QE (.im (.bl (if neg then !(g k).isSome else(g k).isSome))) hd):WP (HH neg (.im 120) d hd) QE:=
 Ym e1 rfl (by rw[h k,isSome_map];exact q)
def MB{x:Int}{neg:Bool}(e1:An hd d=some (Bd.intD xs))(q:QE (.im (.bl (if neg then !decide (x∈xs)else decide (x∈xs)))) hd):WP (gIn neg (.im (.int x)) d hd) QE:=WP.eq (Bd.in_ints x neg e1) q
def WK{mm:Ls->Hd->Option (List (Key×D)×Hd)}(h:WP (mm ls hd) λkvs x=>QE (.mu x.length) (x++[.dic kvs])):WE (Jk mm) ls hd QE:=WP.bind (h.mono λ_ _ q=>WP.some q)
def Su{α:Type}{k:Nat}{ix:List Nat}{a0:α}{me:MM α}{Q:α->Hd->Prop}(h:WI mi ls hd λp x=>WP (mGo n ta me p.2 p.1 (Dv k ix ls) x a0) Q):WP (HC k ix mi n ta a0 me ls hd) Q:=WP.bind (h.mono λ_ _ q=>q)
theorem MC{α:Type}{me:MM α}{g:Gd}{Q:α->Hd->Prop}(P:List D->α->Ls->Hd->Prop):∀{ds:List D} {a:α} {ls:Ls} {hd:Hd},P ds a ls hd ->
 (∀d r a ls hd,P (d::r) a ls hd->∃ls1,n d ls hd=some ls1/\WT ta ls1 hd λc x=>if c=true then WP (me ls1 x a) λa' y=>GOk y g/\P r a' ls1 y else GOk x g/\P r a ls1 x) ->
 (∀a ls hd,P [] a ls hd->Q a hd)->WP (mGo n ta me g ds ls hd a) Q
 |[],a,ls,hd,h,k,z=>⟨_,_,by unfold mGo;rfl,z _ _ _ h⟩
 |d::r,a,ls,hd,h,k,z=>by
  obtain⟨ls1,e1,c,x,e2,q⟩:=k d r a ls hd h;unfold mGo;rw[e1,bind_some,e2,bind_some];cases c with
  |true=>
   rw[fb rfl]at q ⊢;obtain⟨a',y,e3,g3,p3⟩:=q;rw[e3,bind_some];dsimp only;rw[fb g3];exact MC P p3 k z
  |false=>
   rw[fe Bool.false_ne_true]at q ⊢;dsimp only;rw[fb q.1];exact MC P q.2 k z
def Yn{a:List (Key×D)}{Q:List (Key×D)->Hd->Prop}(h:WE mk ls hd λd x=>WE mv ls x λe y=>∃k,Ci d=some k/\DR a.length/\Q (De a k e) y):WP (Hj mk mv ls hd a) Q:=by
 obtain⟨d,x,e1,e,y,e2,k,e3,c,q⟩:=h;exact⟨_,_,by simp only[Hj,e1,bind_some,e2,e3,c,fL],q⟩
def bu{QA:List D->Hd->Prop}(P:List D->List D->Ls->Hd->Prop)(h:P ds [] ls hd)
 (k:∀d r es ls hd,P (d::r) es ls hd->∃ls1,n d ls hd=some ls1/\WT ta ls1 hd λc x=>if c=true then WE ma ls1 x λz y=>GOk y g/\P r (es++[z]) ls1 y else GOk x g/\P r es ls1 x)
 (z:∀es ls hd,P [] es ls hd->QA es hd):WP (B5 n ta ma g ds ls hd) QA:=
 (MH P h k).mono λzs x ⟨ls',q⟩=>z zs ls' x (by simpa using q)
def B8{α:Type}{g:Gd}{QA:List D->Hd->Prop}(inj:α->D)(f:α->Option D)(L:D->Ls->Prop)(l0:Ls){xs:List α}{hd:Hd}(hg:GOk hd g)
 (k:∀x∈xs,∀ls,ls=l0∨(∃d,L d ls)->∃ls1,n (inj x) ls hd=some ls1/\L (inj x) ls1/\WT ta ls1 hd λc y=>y=hd/\if c=true then ∃z,f x=some z/\WE ma ls1 hd λe y=>y=hd/\e=z else f x=none)
 (q:QA (xs.filterMap f) hd):WP (B5 n ta ma g (xs.map inj) l0 hd) QA:=by
 have go:∀(xs':List α) (ls:Ls),(∀x∈xs',x∈xs)->(ls=l0∨∃d,L d ls)->B5 n ta ma g (xs'.map inj) ls hd=some (xs'.filterMap f,hd):=by
  intro xs'
  induction xs' with
  |nil=>intro ls _ _;unfold B5;rfl
  |cons x r ih=>
   intro ls hs hl;obtain⟨ls1,e1,L1,c,y,e2,rfl,q⟩:=k x (hs x fo) ls hl;have ih:=ih ls1 (λz hz=>hs z (fj _ hz)) (.inr ⟨_,L1⟩);rw[fq];unfold B5;rw[e1,bind_some,e2,bind_some];cases c with
   |true=>
    rw[fb rfl]at q;obtain⟨z,ez,e,y,e3,rfl,rfl⟩:=q;rw[fb rfl,e3,bind_some];dsimp only;rw[fb hg,ih,gD,ez];rfl
   |false=>
    rw[fe Bool.false_ne_true]at q;rw[fe Bool.false_ne_true];dsimp only;rw[fb hg,ih,gD,q]
 exact⟨_,_,go xs l0 (λ_ h=>h) (.inl rfl),q⟩
end
mutual
noncomputable def shD(k:Nat):D->D
 |.im i=>.im i
 |.mu n=>.mu (n+k)
 |.tm ds=>.tm (EA k ds)
 |.ro ns=>.ro ns
 |.op nm fs ds=>.op nm fs (EA k ds)
 |.fv m ds=>.fv m (EA k ds)
noncomputable def EA(k:Nat):List D->List D
 |[]=>[]
 |d::ds=>shD k d::EA k ds
end
noncomputable def Mj(k:Nat):List (Key×D)->List (Key×D)
 |[]=>[]
 |d::ds=>(d.1,shD k d.2)::Mj k ds
noncomputable def shO(k:Nat):MO->MO
 |.lst ds=>.lst (EA k ds)
 |.dic kvs=>.dic (Mj k kvs)
section
variable{K:Frag}
mutual
theorem RD.shift(ρ1:List Addr):∀{d:D} {v:V},RD K ρ H d v->RD K (ρ1++ρ) H (shD ρ1.length d) v
 |.im i,v,h=>by simp only[RD,shD]at h ⊢;exact h
 |.mu n,v,h=>by
  simp only[RD,shD]at h ⊢;obtain⟨a,e,q⟩:=h;exact⟨a,by rw[List.getElem?_append_right 59,Nat.add_sub_cancel];exact e,q⟩
 |.tm ds,v,h=>by
  simp only[RD,shD]at h ⊢;obtain⟨a,xs,e,q,z⟩:=h;exact⟨a,xs,e,q,RDs.shift ρ1 z⟩
 |.ro ns,v,h=>by simp only[RD,shD]at h ⊢;exact h
 |.op nm fs ds,v,h=>by
  simp only[RD,shD]at h ⊢;obtain⟨a,xs,e,q,z⟩:=h;exact⟨a,xs,e,q,RDs.shift ρ1 z⟩
 |.fv k ds,v,h=>by
  simp only[RD,shD]at h ⊢;obtain⟨a,xs,e,q,z⟩:=h;exact⟨a,xs,e,q,RDs.shift ρ1 z⟩
theorem RDs.shift(ρ1:List Addr):∀{d:List D} {v:List V},RDs K ρ H d v->RDs K (ρ1++ρ) H (EA ρ1.length d) v
 |[],v,h=>by simpa only[RDs,EA]using h
 |d::ds,v,h=>by
  simp only[RDs,EA]at h ⊢;obtain⟨x,r',e,q,z⟩:=h;exact⟨x,r',e,q.shift ρ1,RDs.shift ρ1 z⟩
end
theorem RKs.shift(ρ1:List Addr):∀{d:List (Key×D)} {v:List (Key×V)},RKs K ρ H d v->RKs K (ρ1++ρ) H (Mj ρ1.length d) v
 |[],v,h=>by simpa only[RKs,Mj]using h
 |d::ds,v,h=>by
  simp only[RKs,Mj]at h ⊢;obtain⟨x,r',e,q1,q,z⟩:=h;exact⟨x,r',e,q1,q.shift ρ1,RKs.shift ρ1 z⟩
theorem RC.shift(ρ1:List Addr)(h:RC K ρ H o ho):RC K (ρ1++ρ) H (shO ρ1.length o) ho:=by
 cases o with
 |lst ds=>obtain⟨xs,e,q⟩:=h;exact⟨xs,e,q.shift ρ1⟩
 |dic ds=>obtain⟨xs,e,q⟩:=h;exact⟨xs,e,q.shift ρ1⟩
def RH.join(R1:RH K ρ H h1)(x:Ext [] H ρ' H')(R2:RH K ρ' H' h2):RH K (ρ++ρ') H' (h1++h2.map (shO ρ.length))/\Ext ρ H (ρ++ρ') H':=by
 obtain⟨r,er,fr⟩:=x.pre;have er:ρ'=r:=by simpa using er
 subst er;have kp:∀b o,H b=some o->(∀ps,o≠.tbl ps)->H' b=some o:=λb o e t=>x.keep b o e 70 t;have gr:Grow H H':=⟨λb o s e=>kp b _ e (Md s)⟩
 refine⟨⟨by simp[R1.len,R2.len],?_,R2.tabs,λn o a e1 e2=>?_⟩,⟨⟨ρ',rfl,fr⟩,λb o e _ t=>kp b o e t,x.tab⟩⟩
 .rw[nodup_append];refine⟨R1.nd,R2.nd,λa ha b hb z=>?_⟩;subst z;exact R1.out (fr a hb) ha
 .by_cases hn:n<ρ.length
  .rw[List.getElem?_append_left hn]at e2;rw[List.getElem?_append_left (by rw[<- R1.len];exact hn)]at e1;obtain⟨ho,q1,q2⟩:=R1.ob n o a e1 e2;exact⟨ho,kp a ho q1 (λps z=>by rcases R1.mut (fQ e2)with⟨y,w⟩|⟨y,w⟩<;>(rw[q1,z]at w;cases w)),q2.mono gr ρ'⟩
  .have hn':ρ.length<=n:=not_lt.mp hn;rw[List.getElem?_append_right hn']at e2;rw[List.getElem?_append_right (by rw[<- R1.len];exact hn'),List.getElem?_map,<- R1.len]at e1;cases q:h2[n-ρ.length]? with
   |none=>rw[q]at e1;cases e1
   |some o2=>
    rw[q]at e1;cases e1;obtain⟨ho,q1,q2⟩:=R2.ob _ o2 a q e2;exact⟨ho,q1,q2.shift ρ⟩
noncomputable def E4(F:List D->Hd->Option 121)(ma:MA):ME:=λls hd=>(ma ls hd).bind λp=>if Ak 0 p.1=true then(F p.1 []).map λr=>(shD p.2.length r.1,p.2++r.2.map (shO p.2.length))else none
def U4{k:Nat}{F:List D->Hd->Option 121}(h:RA K t m)(hk:∀ds hd z,F ds hd=some z->83=k):RE K (C9 (spF K k F) [] E0 t) (E4 F m):=by
 and_intros;obtain⟨⟨d1,h1⟩,e1,hm⟩:=fJ hm;dsimp only at hm;split at hm
 .next c1=>
  obtain⟨⟨d2,h2⟩,e2,e3⟩:=fK hm;cases e3;refine h ρ σ H hd ls _ d1 h1 hR hL e1 λρ1 H1 v1 x1 R1 r1=>?_;rw[fY];have R0:RH K [] H1 []:=by simpa using R1.take 0 70
  have r0:RDs K [] H1 d1 v1:=by simpa using r1.take' 0 c1
  refine⟨by rw[r1.len];exact hk _ _ _ e2,[],[],d1,d2,h2,R0,r0,e2,λρ' H' v x2 R2 r2=>?_⟩;obtain⟨R3,x3⟩:=R1.join x2 R2;rw[R1.len]at R3;refine hQ (ρ1++ρ') H' v (x1.trans R1 x3) R3 ?_;have:=r2.shift ρ1;rw[R1.len]at this;exact this
 .cases hm
def UU(K:Frag){X:Cx}{j k:Nat}{n:Nat}{F:List D->Hd->Option 121}{st:Stmt}{p:Pos}(G:FnOk X.prog X.w X.K X.mg X.base CX0 j f fd ps (spF K n F))(hr:Room k X.A)(DA:DefAt X.K X.mg x st f fd ps)(ha:QA K X (e::es) t m)(hF:∀ds hd z,F ds hd=some z->83=n)
 (hjk:j<=k:=by decide) (hg:Gl X x:=by rfl) (hdb:126=false:=by decide) (he:starEach (e::es) X.env=88::starEach es X.env:=by rfl) (hpl:(backTo pos 130).any (·.1)=false:=by rfl):
 QE K X (.Call (.Name x p) (e::es) [] pos) (C9 (spF K n F) [] E0 t) (E4 F m):=⟨Pl G hr DA ha.p hjk hg hdb he hpl,U4 ha.r hF⟩
noncomputable def KW(neg:Bool)(ma:ME)(ml:MA):ME:=λls hd=>(ma ls hd).bind λp=>(ml ls p.2).bind λq=>match p.1 with
 |.im i=>(EM i).bind λx=>(Bu q.1).map λxs=>(.im (.bl (if neg then !inV x xs else inV x xs)),q.2)
 |_=>none
def ZM{neg:Bool}(ha:RE K ta ma)(hb:RN K tb ml):RE K (tOp (rIn K neg) ta tb) (KW neg ma ml):=by
 and_intros;obtain⟨⟨d1,h1⟩,e1,hm⟩:=fJ hm;obtain⟨⟨d2,h2⟩,e2,hm⟩:=fJ hm;dsimp only at hm;split at hm
 .obtain⟨x,e3,hm⟩:=fJ hm;obtain⟨xs,e4,e5⟩:=fK hm;cases e5;refine ha ρ σ H hd ls _ _ h1 hR hL e1 λρ1 H1 v1 x1 R1 r1=>?_;refine hb ρ1 σ H1 h1 ls _ d2 _ R1 122 e2 λρ2 H2 a ys x2 R2 na oa ea r2=>?_;have r1:=r1.ext R1 x2;simp only[RD]at r1;obtain⟨rfl,f1⟩:=Im e3 r1;obtain⟨rfl,f2⟩:=HI e4 r2;exact⟨a,ys,rfl,.inl (SqL.of ea),f1,f2,hQ ρ2 H2 _ 79 R2 135⟩
 .cases hm
def XC(K:Frag){neg:Bool}(ho:OpR X (compareOp op) (rIn K neg))(ha:QE K X a ta ma)(hb:QN K X b tb ml)(hm:behindInMarks op b=false:=by first|exact Gq _|rfl):QT K X (.Compare a [op] [b] pos) (F0 (tOp (rIn K neg) ta tb)) (A7 (KW neg ma ml)):=⟨Hg ho ha.p hb.p hm,DG (ZM ha.r hb.r)⟩
open Classical in
noncomputable def Gw(ml:MA)(mb:ME):MA:=λls hd=>(ml ls hd).bind λp=>(mb ls p.2).bind λq=>match q.1 with
 |.im (.int k)=>if(0<=k/\k<=1000)/\BY (p.1.length*k.toNat)then some ((104 k.toNat p.1).flatten,q.2)else none
 |_=>none
theorem RDs.rep(r:RDs K ρ H ds xs):∀n,RDs K ρ H (104 n ds).flatten (104 n xs).flatten
 |0=>by simp[RDs]
 |n+1=>by
  simp only[i6,flatten_cons];exact r.app (r.rep n)
def Z5(ha:RN K ta ml)(hb:RE K tb mb):RN K (tOp UA ta tb) (Gw ml mb):=by
 and_intros;obtain⟨⟨d1,h1⟩,e1,hm⟩:=fJ hm;obtain⟨⟨d2,h2⟩,e2,hm⟩:=fJ hm;dsimp only at hm;split at hm
 .next k=>
  split at hm
  .next c=>
   cases hm;refine ha ρ σ H hd ls _ d1 h1 hR hL e1 λρ1 H1 a xs x1 R1 na oa ea r1=>?_;refine hb ρ1 σ H1 h1 ls _ _ _ R1 122 e2 λρ2 H2 v2 x2 R2 r2=>?_;simp only[RD,RI]at r2;subst r2;have ea2:=x2.keep a _ ea oa nt;refine⟨a,k,xs,rfl,rfl,ea2,by omega,by omega,by rw[r1.len];exact c.2,λp hp=>?_⟩;obtain⟨R3,x3⟩:=R2.hid (ho:=.lst (104 k.toNat xs).flatten) hp;have x12:=x1.trans R1 x2;exact hQ ρ2 _ p _ (x12.trans R2 x3) R3 (x12.none hR hp R2) (R2.out hp) AF (((r1.ext R1 x2).rep k.toNat).ext R2 x3)
  .cases hm
 .cases hm
def Zi(K:Frag)(ha:QN K X a ta ml)(hb:QE K X b tb mb):QN K X (.BinOp a .Mult b pos) (tOp UA ta tb) (Gw ml mb):=⟨Pi af ha.p hb.p,Z5 ha.r hb.r⟩
end
section
variable{mb:ME}{QE:D->Hd->Prop}{QA:List D->Hd->Prop}
def MD{F:List D->Hd->Option 121}(h:WA m ls hd λds x=>Ak 0 ds=true/\WF F ds [] λd y=>QE (shD x.length d) (x++y.map (shO x.length))):WE (E4 F m) ls hd QE:=by
 obtain⟨ds,x,e,c,d,y,e2,q⟩:=h;exact⟨_,_,by simp only[E4,e,bind_some,c,fL,e2,fR],q⟩
def Yo{neg:Bool}(h:WE ma ls hd λd x=>WA ml ls x λds y=>∃i v vs,d=.im i/\EM i=some v/\Bu ds=some vs/\QE (.im (.bl (if neg then !inV v vs else inV v vs))) y):WE (KW neg ma ml) ls hd QE:=by
 obtain⟨d,x,e1,ds,y,e2,i,v,vs,rfl,e3,e4,q⟩:=h;exact⟨_,_,by simp only[KW,e1,bind_some,e2,e3,e4,fR],q⟩
end
end L2
namespace L2
open PySem PySem.Spec PyProof.Rows
noncomputable abbrev blD(bs:List Bool):List D:=bs.map λb=>D.im (.bl b)
inductive Ty where
 |int|bool|str|tuple|list
 deriving DecidableEq
noncomputable def Ty.nm:Ty->String
 |.int=>"int" | .bool=>"bool" | .str=>"str" | .tuple=>"tuple" | .list=>"list"
def IsT(K:Frag)(T:Ty)(H:Hp)(v:V)(b:Bool):Prop:=
 (v=.non/\b=false)∨(∃x,v=.bl x/\b=decide (T=.int∨T=.bool))∨(∃i,v=.int i/\b=decide (T=.int))∨(∃x,v=.str x/\b=decide (T=.str)) ∨
 (∃a xs,v=.ref a/\SqL K H a xs/\b=decide (T=.list))∨∃a xs,v=.ref a/\SqT K H a xs/\b=decide (T=.tuple)
section
variable{E:Value->Shared->Prop}{Q:Value->Shared->Prop}
def bF{T:Ty}{b:Bool}(I:Inv X pins σ H s)(r:RelV v u)(h:IsT X.K T H v b)(q:∀tk,Q (.bool b) { s with toks:=tk }):wpAny 68 A (call (.builtin "isinstance") [u,.type T.nm]) Q E s:=by
 have q0:=q s.toks;have q1:=q (s.toks+1);rcases h with⟨rfl,rfl⟩|⟨x,rfl,rfl⟩|⟨i,rfl,rfl⟩|⟨x,rfl,rfl⟩|⟨a,xs,rfl,hl,rfl⟩|⟨a,xs,rfl,ht,rfl⟩
 .cases(show u=Value.none from r);cases T
  .exact IsiPair.NoneType_int q1
  .exact IsiPair.NoneType_bool q1
  .exact IsiPair.NoneType_str q1
  .exact IsiPair.NoneType_tuple q1
  .exact IsiPair.NoneType_list q1
 .cases(show u=Value.bool x from r);cases T
  .first|exact IsiPair.bool_int q0|exact IsiPair.bool_int q1
  .first|exact IsiPair.bool_bool q0|exact IsiPair.bool_bool q1
  .exact IsiPair.bool_str q1
  .exact IsiPair.bool_tuple q1
  .exact IsiPair.bool_list q1
 .obtain⟨t,rfl⟩:=(show ∃t,u=Value.int i t from r)
  cases T
  .exact IsiPair.int_int q0
  .exact IsiPair.int_bool q1
  .exact IsiPair.int_str q1
  .exact IsiPair.int_tuple q1
  .exact IsiPair.int_list q1
 .obtain⟨t,rfl⟩:=(show ∃t,u=Value.str x t from r)
  cases T
  .exact IsiPair.str_int q1
  .exact IsiPair.str_bool q1
  .exact IsiPair.str_str q0
  .exact IsiPair.str_tuple q1
  .exact IsiPair.str_list q1
 .cases(show u=Value.ref a from r);obtain⟨its,_,⟨o,n,e,c,_,_⟩,_⟩:=I.list hl;cases T
  .exact IsiPair.list_int e c q1
  .exact IsiPair.list_bool e c q1
  .exact IsiPair.list_str e c q1
  .exact IsiPair.list_tuple e c q1
  .exact IsiPair.list_list e c q0
 .cases(show u=Value.ref a from r);obtain⟨its,_,⟨o,e,c,_⟩,_⟩:=I.tuple ht;cases T
  .exact IsiPair.tuple_int e c q1
  .exact IsiPair.tuple_bool e c q1
  .exact IsiPair.tuple_str e c q1
  .exact IsiPair.tuple_tuple e c q0
  .exact IsiPair.tuple_list e c q1
end
noncomputable def TR(K:Frag)(T:Ty)(te:TE):TE:=λσ H Q=>te σ H λv H1=>∃b,IsT K T H1 v b/\Q (.bl b) H1
def aW(K:Frag){X:Cx}(T:Ty)(hm:X.mg "isinstance"=none)(hmT:X.mg x=none)(hvT:bootBuiltins x=some (.type T.nm))(he:PE X e te)
 (hv:bootBuiltins "isinstance"=some (.builtin "isinstance")) (hK:X.K=K) (hg:Gl X "isinstance") (hgT:Gl X x) (hnT:x≠"__name__") (hdT:126=false)
 (hs:starEach [e,.Name x px] X.env=[88,(false,eval (.Name x px) X.env)]) (hs2:starEach [.Name x px] X.env=[(false,eval (.Name x px) X.env)]):PE X (.Call (.Name "isinstance" p) [e,.Name x px] [] pos) (TR K T te):=by
 subst hK;intro pins s σ H Q I h;refine gN (DO I hg hm hv ?_);have go:wpAny 68 X.A (spliced (backTo pos (starEach [e,.Name x px] X.env))) (λvs s₁=>wpAny 68 X.A (call (.builtin "isinstance") vs) (EP X pins σ Q) X.xe s₁) X.xe s:=by
  rw[hs];show wpAny _ _ (spliced (88::backTo pos [(false,eval (.Name x px) X.env)])) _ _ s;refine Calls.spliced_cons (thn (he pins s σ H _ I h) λu s1 ⟨v,H1,I1,r1,b,ib,q1⟩=>?_);show wpAny _ _ (spliced ((false,eval (.Name x px) X.env)::backTo pos [])) _ _ s1;refine Calls.spliced_cons (DO I1 hgT hmT hvT ?_ hnT hdT);refine Calls.spliced_nil ?_;exact bF I1 r1 ib λtk=>⟨.bl b,H1,I1.tok _,rfl,q1⟩
 exact PyProof.Rows.callWith_builtin1 go (by rw[hs,hs2]) (by rw[hs2];rfl)
section
variable{K:Frag}
noncomputable def isD(T:Ty)(hd:Hd):D->Option Bool
 |.im .non=>some false
 |.im (.bl _)=>some (decide (T=.int∨T=.bool))
 |.im (.int _)=>some (decide (T=.int))
 |.im (.str _)=>some (decide (T=.str))
 |.im (.tup _)=>some (decide (T=.tuple))
 |.tm _=>some (decide (T=.tuple))
 |.ro _=>some (decide (T=.list))
 |.op _ _ _=>none
 |.fv _ _=>none
 |.mu n=>match hd[n]? with
  |some (.lst _)=>some (decide (T=.list))
  |_=>none
def bG{T:Ty}{b:Bool}(hR:RH K ρ H hd)(h:RD K ρ H d v)(e:isD T hd d=some b):IsT K T H v b:=by
 cases d with
 |im i=>
  cases i with
  |non=>simp only[RD,RI]at h;subst h;simp only[isD,Option.some.injEq]at e;exact .inl ⟨rfl,e.symm⟩
  |bl c=>simp only[RD,RI]at h;subst h;simp only[isD,Option.some.injEq]at e;exact .inr (.inl ⟨c,rfl,e.symm⟩)
  |int c=>simp only[RD,RI]at h;subst h;simp only[isD,Option.some.injEq]at e;exact .inr (.inr (.inl ⟨c,rfl,e.symm⟩))
  |str c=>simp only[RD,RI]at h;subst h;simp only[isD,Option.some.injEq]at e;exact .inr (.inr (.inr (.inl ⟨c,rfl,e.symm⟩)))
  |tup is=>
   obtain⟨a,xs,rfl,q,r⟩:=h.tup (ds:=is.map .im) rfl;simp only[isD,Option.some.injEq]at e;exact .inr (.inr (.inr (.inr (.inr ⟨a,xs,rfl,q,e.symm⟩))))
 |tm ds=>
  obtain⟨a,xs,rfl,q,r⟩:=h.tup (ds:=ds) rfl;simp only[isD,Option.some.injEq]at e;exact .inr (.inr (.inr (.inr (.inr ⟨a,xs,rfl,q,e.symm⟩))))
 |ro ns=>
  obtain⟨a,xs,rfl,q,r⟩:=h.lst hR (hd:=hd) (ds:=ns.map λn=>.im (.int n)) rfl;simp only[isD,Option.some.injEq]at e;exact .inr (.inr (.inr (.inr (.inl ⟨a,xs,rfl,q,e.symm⟩))))
 |op _ _ _=>simp[isD]at e
 |fv _ _=>simp[isD]at e
 |mu n=>
  simp only[isD]at e;split at e
  .next q=>
   cases e;simp only[RD]at h;obtain⟨a,hn,rfl⟩:=h;obtain⟨xs,e1,e2⟩:=hR.lst hn q;exact .inr (.inr (.inr (.inr (.inl ⟨a,xs,rfl,SqL.of e1,rfl⟩))))
  .cases e
noncomputable def EC(T:Ty)(ma:ME):ME:=λls hd=>(ma ls hd).bind λp=>(isD T p.2 p.1).map λb=>(.im (.bl b),p.2)
def ZK{T:Ty}(h:RE K te me):RE K (TR K T te) (EC T me):=by
 and_intros;obtain⟨⟨d1,h1⟩,e1,hm⟩:=fJ hm;obtain⟨b,e2,e3⟩:=fK hm;cases e3;exact h ρ σ H hd ls _ d1 _ hR hL e1 λρ1 H1 v x1 R1 r1=>⟨b,bG R1 r1 e2,hQ ρ1 H1 _ x1 R1 135⟩
def K2:∀T:Ty,bootBuiltins T.nm=some (.type T.nm)
 |.int=>by decide +kernel
 |.bool=>by decide +kernel
 |.str=>by decide +kernel
 |.tuple=>by decide +kernel
 |.list=>by decide +kernel
def N2(K:Frag){X:Cx}(T:Ty){p px pos:Pos}(hm:X.mg "isinstance"=none)(hmT:X.mg x=none)(he:QE K X e te me)(hx:bootBuiltins x=some (.type T.nm):=by first|exact K2 .int|exact K2 .bool|exact K2 .str|exact K2 .tuple|exact K2 .list)(hK:X.K=K:=by rfl)(hg:Gl X "isinstance":=by rfl)(hgT:Gl X x:=by rfl)
 (hnT:x≠"__name__":=by decide) (hdT:126=false:=by decide)
 (hs:starEach [e,.Name x px] X.env=[88,(false,eval (.Name x px) X.env)]:=by rfl) (hs2:starEach [.Name x px] X.env=[(false,eval (.Name x px) X.env)]:=by rfl):QE K X (.Call (.Name "isinstance" p) [e,.Name x px] [] pos) (TR K T te) (EC T me):=
 ⟨aW K T hm hmT hx he.p Lr hK hg hgT hnT hdT hs hs2,ZK he.r⟩
noncomputable def G6(mo mi me:ME)(f:Int->Int->Int):MS:=λls hd=>(mo ls hd).bind λp=>(mi ls p.2).bind λq=>match p.1,q.1 with
 |.mu n,.im (.int i)=>match q.2[n]? with
  |some (.lst ds)=>(ixN 83 i).bind λj=>match ds[j]? with
   |some (.im (.int x))=>(me ls q.2).bind λr=>match r.1,r.2[n]? with
    |.im (.int y),some (.lst ds')=>if ds'.length=83 then some (.nx ls,r.2.set n (.lst (ds'.set j (.im (.int (f x y))))))else none
    |_,_=>none
   |_=>none
  |_=>none
 |_,_=>none
theorem RDs.ints:∀{ns:List Int} {xs:List V},RDs K ρ H (ns.map λx=>D.im (.int x)) xs->xs=ns.map V.int
 |[],xs,h=>by simpa only[RDs,gj]using h
 |n::ns,xs,h=>by
  simp only[fq,RDs,RD,RI]at h;obtain⟨x,r,rfl,rfl,t⟩:=h;rw[RDs.ints t];rfl
def Rq(K:Frag){X:Cx}(hK:X.K=K:=by rfl):bo X (IX K):=by
 subst hK;intro pins s σ H o i ov iv Q I ro ri h;obtain⟨p,xs,k,z,rfl,rfl,hq,he,q⟩:=h;cases ro;obtain⟨t,rfl⟩:=ri;obtain⟨its,r,pl,hz⟩:=I.list hq;obtain⟨j,h1,h2,h3,h4,h5⟩:=Kt he;obtain⟨w,ew,rw'⟩:=r.get h2;have hl:=r.length;have hn:=Fc;have fin:EP X pins σ Q w s:=⟨z,H,I,rw',q⟩
 by_cases h0:0<=k
 .have hj:k.toNat=j:=by
   rw[seqIndex_of h0 h5]at h1;exact 86 h1
  exact wpAny_getItem_list pl.isList h0 59 (by rw[hj];simpa using ew) fin
 .have hj:(k+(its.toArray.size:Int)).toNat=j:=by
   rw[seqIndex_neg 59 h4]at h1;rw[ft,<- hl];exact 86 h1
  exact wpAny_getItem_list_neg pl.isList 59 (by rw[ft]<;>omega) 59 (by rw[hj];simpa using ew) fin
def YY(x:Ext ρ H ρ' H'){n:Nat}(h:ρ[n]?=some a):ρ'[n]?=some a:=by
 obtain⟨r,rfl,_⟩:=x.pre;rw[List.getElem?_append_left (List.getElem?_eq_some_iff.mp h).1];exact h
def Wj{f:Int->Int->Int}(ho:RE K to mo)(hi:RE K ti mi)(he:RE K te me):RS K (P4 to ti te (IX K) (ipI f) JZ) (G6 mo mi me f):=by
 intro ρ σ H hd0 ls E fl hd' hR hL hm hQ;obtain⟨⟨d1,h1⟩,e1,hm⟩:=fJ hm;obtain⟨⟨d2,h2⟩,e2,hm⟩:=fJ hm;dsimp only at hm;split at hm
 .split at hm
  .next ds q=>
   obtain⟨j,e4,hm⟩:=fJ hm;split at hm
   .next x ex=>
    obtain⟨⟨d3,h3⟩,e3,hm⟩:=fJ hm;dsimp only at hm;split at hm
    .next y ds' q'=>
     split at hm
     .next el=>
      cases hm;refine ho ρ σ H hd0 ls _ _ h1 hR hL e1 λρ1 H1 v1 x1 R1 r1=>?_;refine hi ρ1 σ H1 h1 ls _ _ _ R1 122 e2 λρ2 H2 v2 x2 R2 r2=>?_;have r1':=r1.ext R1 x2;simp only[RD]at r1';obtain⟨a,hn,rfl⟩:=r1';simp only[RD,RI]at r2;subst r2;obtain⟨xs,l1,l2⟩:=R2.lst hn q;obtain⟨w,ew,rw'⟩:=l2.get ex;simp only[RD,RI]at rw';subst rw';refine⟨a,xs,_,.int x,rfl,rfl,SqL.of l1,?_,?_⟩
      .unfold atI;rw[l2.len];rw[e4];exact ew
      refine he ρ2 σ H2 h2 ls _ _ h3 R2 (hL.ext hR 79) e3 λρ3 H3 v3 x3 R3 r3=>?_;simp only[RD,RI]at r3;subst r3;refine⟨x,y,rfl,rfl,?_⟩;have hn3:=YY x3 hn;obtain⟨xs3,l3,l4⟩:=R3.lst hn3 q';obtain⟨R4,x4⟩:=R3.put hn3 (o:=.lst _) (ho:=.lst (xs3.set j (.int (f x y)))) ⟨_,rfl,l4.set j (d:=.im (.int (f x y))) 135⟩;have x13:=(79).trans R2 x3;exact⟨a,xs3,_,j,rfl,rfl,l3,by rw[l4.len,el];exact e4,hQ ρ3 _ (x13.trans R3 x4) R4 σ ((hL.ext hR x13).ext R3 x4)⟩
     .cases hm
    .cases hm
   .cases hm
  .cases hm
 .cases hm
def XI(K:Frag){f:Int->Int->Int}{tpos pos:Pos}(ho:QE K X o to mo)(hi:QE K X i ti mi)(he:QE K X e te me)(hp:PIp X op (ipI f))(hK:X.K=K:=by rfl)
 (ha:∀ov iv new,augStore i ov iv new=(do holding [new,ov,iv] (setItem ov iv new);release [new,ov,iv] [];pure .next):=by intros;rfl):QS K X (.AugAssign (.Subscript o i tpos) op e pos) (P4 to ti te (IX K) (ipI f) JZ) (G6 mo mi me f):=
 ⟨Xj ho.p hi.p (Rq K hK) he.p hp Mk ha,Wj ho.r hi.r he.r⟩
end
section
variable{mo mi me:ME}{QE:D->Hd->Prop}{QS:Fl->Hd->Prop}
def JG{T:Ty}(h:WE ma ls hd λd x=>∃b,isD T x d=some b/\QE (.im (.bl b)) x):WE (EC T ma) ls hd QE:=by
 obtain⟨d,x,e,b,e2,q⟩:=h;exact⟨_,_,by simp only[EC,e,bind_some,e2,fR],q⟩
end
section
variable{X:Cx}
def Yi{E:Value->Shared->Prop}{s:Shared}{vs ws:List Value}{Q:Value->Shared->Prop}(ht:IsTup s.heap t 76)(hb:IsTup s.heap b ws.toArray)(hv:vs=[])
 (h1:Q (.ref b) s):wpAny 89 A (binaryOp .Add (.ref t) (.ref b)) Q E s:=by
 obtain⟨⟨cls,dd,data,sl⟩,ho,hc,n,hd⟩:=id ht;obtain⟨⟨cls2,dd2,data2,sl2⟩,ho2,hc2,n2,hd2⟩:=id hb;simp only at hc hd hc2 hd2;subst hc hd hc2 hd2;exact concat_meets ⟨_,ho,rfl⟩ ⟨_,ho2,rfl⟩ noFill_tuple_add seq_tuple_add PySem.F.slot_tuple_add PySem.F.entry_tuple_add (PySem.F.args_tuple_add_2 _ _)
  (tuple_addW0 t b 76 ws.toArray n n2 dd dd2 sl sl2 (by simp[hv])) ⟨ho,ho2,h1⟩
noncomputable def Vk(K:Frag):R2:=λx y H Q=>∃a b ys,x=.ref a/\y=.ref b/\SqT K H a []/\SqT K H b ys/\Q (.ref b) H
def Y4(K:Frag)(hK:X.K=K:=by rfl):OpR X (binaryOp .Add) (Vk K):=by
 subst hK;intro pins s σ H x y v u Q I rx ry h;obtain⟨a,b,ys,rfl,rfl,ha,hb,q⟩:=h;cases rx;cases ry;obtain⟨its,r1,p1,_⟩:=I.tuple ha;obtain⟨its2,r2,p2,_⟩:=I.tuple hb;have:its=[]:=by cases r1;rfl
 exact Yi p1 p2 this ⟨.ref b,H,I,rfl,q⟩
noncomputable def Hv:D->D->Hd->Option 121:=λd e hd=>(AV d).bind λa=>(AV e).bind λb=>if a=[]then some (B0 b,hd)else none
def X8{K:Frag}:RB K (Vk K) Hv:=by
 intro ρ H hd d e v u Q z hd' hR h1 h2 hf hQ;unfold Hv at hf;obtain⟨a,e1,hf⟩:=fJ hf;obtain⟨b,e2,hf⟩:=fJ hf;split at hf
 .next c=>
  cases hf;subst c;obtain⟨p,xs,rfl,q1,r1⟩:=h1.tup e1;obtain⟨p2,ys,rfl,q2,r2⟩:=h2.tup e2;have:xs=[]:=by simpa [RDs]using r1
  subst this;exact⟨p,p2,ys,rfl,rfl,q1,q2,hQ ρ H _ .refl hR (Cd q2 r2)⟩
 .cases hf
end
section
variable{E:Value->Shared->Prop}{s:Shared}
def IF{vs:List Value}{Q:List Value->Shared->Prop}(hl:IsTup s.heap l 76)
 (h:Q vs { s with heap:=(s.heap.push (seqObj "list" #[] 0)).update s.heap.objs.size (Obj.mapSeq (·++vs.toArray)) }) (hsz:98<=sizeLine:=by size_fits):
 wpAny 89 A (collect (.ref l)) Q E s:=by
 obtain⟨o,ho,hc,n,hd⟩:=id hl;unfold collect;refine fc (wpAny_runValue (gF entry_proto_collect' ?_));show wpAny _ _ (do again (.builtin "list.__iadd__" ⟨[<- newList [],.ref l],[]⟩)) _ _ s;refine fc (i4 (fh ⟨Code.quiet_builtin _ (by decide +kernel),gF entry_list_iadd' ?_⟩));show wpAny _ _ (Builtin.List.listExtendWith (.ref 58) (.ref l) (.ref 58)) _ _ { s with heap:=s.heap.push (seqObj "list" #[] 0) };unfold Builtin.List.listExtendWith;have ho':(s.heap.push 127).get? l=some o:=66 _ ho;refine fc (wpAny_typeOf (T:="tuple") ⟨o,ho',hc⟩ ?_);have ht:(Value.type "tuple"==Value.type "tuple")=true:=by rfl
 rw[fb (by rw[ht];simp)];refine fc (listItems_at ho' hd ?_);refine fc (listItems_at (xs:=#[]) (n:=0) (78 _ rfl) rfl ?_);rw[fe 70];refine fc (i3 (xs:=#[]) (n:=0) (78 _ rfl) rfl ?_ (gn _) (by show(#[]++76).size<=sizeLine+1;simp only[Array.size_append,ft,gE];omega));refine fh ?_;show wpAny 89 A (do
  let o <- load 58
  match o.data with
  |.seq xs _=>pure xs.toList
  | _=>unsupported "internal:collect") Q E { s with heap:=(s.heap.push (seqObj "list" #[] 0)).update s.heap.objs.size (Obj.mapSeq (·++vs.toArray)) }
 refine fc (wpAny_load (hE (78 _ rfl) _) ?_);show wpAny _ _ (pure ((#[]:Array Value)++76).toList) Q E _;rw[show((#[]:Array Value)++76).toList=vs by simp];exact fh h
def Mf{vs:List Value}{Q:Value->Shared->Prop}(hl:IsTup s.heap l 76)(hI:IntsAre vs ns)(h64:98<64)
 (h:∀(out:Array Value) (ns':List Int),IntsAre out.toList ns'->ns'.Perm ns->ns'.Pairwise (·<=·)->Q (.ref (58+1)) { s with heap:=sortedAll s.heap vs out }):
 wpAny 89 A (call (.builtin "sorted") [.ref l]) Q E s:=by
 refine Calls.call_function_entry kind_sorted plain_sorted entry_sorted (args_sorted1 _) ?_;unfold Builtin.«sorted»;refine fc (m:=checkCount "sorted" 1 1 _) (fh ?_);refine fc (IF hl ?_);refine fc (i4 ?_);have hsz:((s.heap.push 127).update 58 (118 (·++76))).objs.size=58+1:=by
  rw[Heap.size_update,size_push']
 have hoL:(((s.heap.push 127).update 58 (118 (·++76))).push (seqObj "list" 76 0)).get? (58+1)=some (seqObj "list" 76 0):=by
  rw[<- hsz];exact 78 _ rfl
 show wpAny _ _ _ _ _ { s with heap:=((s.heap.push (seqObj "list" #[] 0)).update s.heap.objs.size (Obj.mapSeq (·++vs.toArray))).push (seqObj "list" vs.toArray 0) };rw[hsz];refine fc (fX (wpAny_call_entry slot_list_sort ⟨_,hoL,rfl⟩ entry_list_sort (list_sort_tree hoL hI h64 λout ns' a1 a2 a3=>⟨_,rfl,?_⟩) (args_list_sort _)));exact fh ⟨_,rfl,h out ns' a1 a2 a3⟩
end
section
variable(K:Frag){X:Cx}
def IV:List V->Hp->VK->Prop:=λxs H Q=>∃(a:Addr) (ns:List Int),xs=[.ref a]/\SqT K H a (ns.map V.int)/\ns.length<64/\∀(p:Addr) (ns':List Int),H p=none->ns'.Perm ns->ns'.Pairwise (·<=·)->Q (.ref p) (upd H p (.lst (ns'.map V.int)))
def NY(hK:X.K=K:=by rfl):CallR X (.builtin "sorted") (IV K):=by
 subst hK;intro pins s σ H xs us Q I r h;obtain⟨a,ns,rfl,hq,h64,q⟩:=h;obtain⟨u,rfl,ru⟩:=BJ r;cases ru;obtain⟨its,rv,p,hz⟩:=I.tuple hq;have hlen:=rv.length;rw[fN]at hlen;refine Mf p (DI rv) 59 λout ns' a1 a2 a3=>?_;obtain⟨e,he⟩:=sortedAll_at s.heap its out;have hl':ns'.length=ns.length:=a2.length_eq;refine⟨.ref (58+1),_,I.laid (a:=58+1) (o:=.lst (ns'.map V.int)) (t':=s.toks) (λb o hb=>sortedAll_old hb) (gL _) ⟨?_,out.toList,e,KA a1,he⟩,rfl,q _ _ (I.hok.fresh (gL _)) a2 a3⟩;rw[fN,hl'];exact gB (Gk 59)
end
section
variable{K:Frag}
def PN(h:RRw K true t m):RN K (tCB (IV K) (BK t BQ)) (Bn m):=by
 and_intros;obtain⟨⟨⟨d1,g1⟩,h1⟩,e1,hm⟩:=fJ hm;obtain⟨ns,e2,hm⟩:=fJ hm;split at hm
 .next c=>
  cases hm;refine h ρ σ H hd ls _ d1 g1 _ hR hL e1 λρ1 H1 a x1 R1 G1 S1=>?_;obtain⟨xs,q,r⟩:=S1 ρ1 H1 _ .refl R1 G1;have e3:d1=ns.map λi=>.im 134:=C0 e2;rw[e3]at r;have:=Dc r;subst this;refine⟨a,ns,rfl,q,c,λp ns' hp pm pw=>?_⟩;have:ns'=AX ns:=Cn (pm.trans (Br ns).symm) pw (Cc ns);subst this;obtain⟨R2,x2⟩:=R1.hid (ho:=.lst ((AX ns).map V.int)) hp;exact hQ ρ1 _ p _ 79 R2 (x1.none hR hp R1) (R1.out hp) AF Di
 .cases hm
def Pd(K:Frag){X:Cx}(hm:X.mg "sorted"=none)(ha:QR K true X e te mi)(hg:Gl X "sorted":=by rfl)(he:starEach [e] X.env=[88]:=by rfl)(hK:X.K=K:=by rfl):QN K X (.Call (.Name "sorted" p) [e] [] pos) (tCB (IV K) (BK te BQ)) (Bn mi):=
 ⟨Ei (NY K hK) hg hm FE (Bm ha.p CL he) 90 90 he rfl,PN ha.r⟩
end
end L2
namespace L2
noncomputable abbrev Q6:=GL Al Hv
end L2
namespace L2
open PySem PySem.Spec PyProof.Rows
section
variable{K:Frag}{ρ':List Addr}{H':Hp}
noncomputable def NM:List D->Hd->Option 121
 |[.im (.int i)],hd=>some (.im 134,hd)
 |[.im (.bl b)],hd=>some (.im (.int (if b then 1 else 0)),hd)
 |_,_=>none
def ZE:RF K (λxs H Q=>(∃i,xs=[.int i]/\Q 134 H)∨∃k,xs=[.bl k]/\Q (.int (if k then 1 else 0)) H) NM:=by
 intro ρ H hd ds vs Q z hd' hR h1 hf hQ;unfold NM at hf;split at hf
 .cases hf;simp only[RDs,RD,RI]at h1;obtain⟨x,r,rfl,rfl,rfl⟩:=h1;exact .inl ⟨_,rfl,hQ ρ H _ .refl hR 135⟩
 .cases hf;simp only[RDs,RD,RI]at h1;obtain⟨x,r,rfl,rfl,rfl⟩:=h1;exact .inr ⟨_,rfl,hQ ρ H _ .refl hR 135⟩
 .cases hf
end
end L2
namespace L2
open PySem PySem.Spec PyProof.Rows PySem.W
inductive KeysOk(h:Heap):List Value->List Int->Prop
 |kI {ks:List Value} {kz:List Int}:IntsAre ks kz->KeysOk h ks kz
 |kP {ks:List Value} {ps:List 115}:ks.length=112->(∀(i:Nat) (v:Value) (p:Int×Int),ks[i]?=some v->ps[i]?=some p->PairAt h v p)->(∀p∈ps,pok p)->KeysOk h ks (ps.map Ap)
def KeysOk.len(K:KeysOk h ks kz):kz.length=ks.length:=by
 cases K with
 |kI i=>have:=i.length;omega
 |kP hl _ _=>simp[hl]
theorem GE:∀{ks:List Value} {kz:List Int} {i:Nat},IntsAre ks kz->i<ks.length->∃t,ks.getD i .none=.int (kz.getD i 0) t
 |_,_,0,.cons ..,_=>⟨_,rfl⟩
 |_,_,i+1,.cons _ _ h,hi=>by
  obtain⟨t,e⟩:=GE (i:=i) h (by simpa using hi);exact⟨t,by simpa using e⟩
section
variable{E:Value->Shared->Prop}{s:Shared}
def V2(K:KeysOk s.heap ks kz)(h2:2<=ks.length){Q:SortKind->Shared->Prop}
 (h:∀κ,(∀(i j:Nat) (C:Bool->Shared->Prop),i<ks.length->j<ks.length->C (decide (kz.getD i 0<kz.getD j 0)) s->wpAny 89 A (keyLt' κ (ks.getD i .none) (ks.getD j .none)) C (λ_ _=>False) s)->Q κ s):
 wpAny 89 A (keyKind' ks.toArray) Q E s:=by
 cases K with
 |kI hk=>
  rw[ksk_kind (kz:=kz) (by simpa using hk) (by simpa using h2)];refine fh (h _ λi j C hi hj hC=>?_);obtain⟨t,e1⟩:=GE hk hi;obtain⟨u,e2⟩:=GE hk hj;rw[e1,e2];exact kat_lt_int hC
 |@kP ps hl hp hok=>
  obtain⟨fs,t1,t2,t3⟩:=KB hl hp;have tT:∀f∈fs,Looks 89 s.heap (typeOf f) (Value.type "int"):=λf hf=>by
   obtain⟨i,t,rfl⟩:=t3 f hf;exact .of_pure rfl
  refine kat_kind t1 59 tT rfl (h _ λi j C hi hj hC=>?_);have pi:ps[i]?=some (ps.getD i (0,0)):=by simp[show i<ps.length by omega]
  have pj:ps[j]?=some (ps.getD j (0,0)):=by simp[show j<ps.length by omega]
  have vi:ks[i]?=some (ks.getD i Value.none):=by simp[hi]
  have vj:ks[j]?=some (ks.getD j Value.none):=by simp[hj]
  have ei:(ps.map Ap).getD i 0=Ap (ps.getD i (0,0)):=by simp[show i<ps.length by omega]
  have ej:(ps.map Ap).getD j 0=Ap (ps.getD j (0,0)):=by simp[show j<ps.length by omega]
  rw[ei,ej]at hC;exact OX (hp i _ _ vi pi) (hp j _ _ vj pj) (hok _ (fQ pi)) (hok _ (fQ pj)) hC
def YK{vs:List Value}{kz:List Int}(hl:kz.length=98)(pa:PAr 98 p)(hs:STo (λi=>kz.getD i 0) p 98):KskOut false kz vs (p.toList.map λi=>vs.getD i Value.none):=by
 have sz:=pa.size;refine⟨p.toList.map λi=>(kz.getD i 0,vs.getD i Value.none),?_,by rw[fM];rfl,?_⟩
 .have e:kz.zip vs=(69 98).map λi=>(kz.getD i 0,vs.getD i Value.none):=by
   refine ext_getElem? λi=>?_;by_cases hi:i<98
   .have hi2:i<kz.length:=by omega
    rw[(List.getElem?_zip_eq_some (z:=(kz[i],vs[i]))).mpr ⟨by simp[hi2],by simp[hi]⟩];simp[hi,hi2]
   .rw[List.getElem?_eq_none 82,List.getElem?_eq_none 82]
  rw[e];have:=Array.perm_iff_toList_perm.mp pa;simpa using this.map _
 .rw[gY,List.pairwise_iff_getElem];intro i j hi hj hij;simp only[Array.length_toList]at hi hj;have:=hs i j 59 59;unfold kv at this;simpa [Array.getD,hi,hj]using this
def YL{e e1:Nat}{ks vs:List Value}{P:PySem.Fin->Shared->Prop}(nk:s.heap.get? kS=some (seqObj "list" ks.toArray e))(na:s.heap.get? a=some (seqObj "list" #[] e1))(hka:kS≠a)(K:KeysOk s.heap ks kz)(hl:ks.length=98)(h64:98<64)
 (h:∀out:List Value,KskOut false kz vs out->P (.done (.ret .none)) { s with heap:=(s.heap.update kS (Obj.mapSeq λ_=>#[])).update a (Obj.mapSeq λ_=>out.toArray) }):
 wpAny 89 A (ksk_end a false 76 e1 (.ref kS) ks.toArray) P E s:=by
 have hz:kz.length=vs.length:=by have:=K.len;omega
 have s1:=142 s.heap kS (118 λ_=>(#[]:Array Value));have na1:(s.heap.update kS (118 λ_=>(#[]:Array Value))).get? a=some (seqObj "list" #[] e1):=(s1.2 a hka.symm).trans na;have tail:∀(st:SortSt) (out:List Value),(arrOf st).map (·.2)=out.toArray->out.length=98->failedOf st=none->KskOut false kz vs out->wpAny 89 A (ksk_tail a false e1 (.ref kS) st) P E s:=by
  intro st out ho hlo hf so;unfold ksk_tail;dsimp only;refine fc (i3 nk rfl ?_ (by simp[gp];omega) (gn _));refine fc (hJ ?_);refine fc (seqEpoch_at na1 rfl ?_);simp only[Bool.false_eq_true,fT];rw[ho];refine fc (i3 na1 rfl ?_ (gn _) (by rw[ft,gp];omega));rw[hf];simp only[bne_self_eq_false,Bool.false_eq_true,fT];exact fh (h out so)
 unfold ksk_end;simp only[Bool.false_eq_true,fT];by_cases h2:vs.toArray.size<2
 .rw[fb h2,fb h2];refine fc (fh ?_);rw[StateT.run_pure];refine fc (fh ?_);dsimp only;refine tail _ vs ?_ rfl rfl ⟨kz.zip vs,.refl _,?_,?_⟩
  .show(ks.toArray.zip 76).map (·.2)=76;apply Array.toList_inj.mp;simp only[Array.toList_map,Array.toList_zip];exact map_snd_zip 59
  .exact(map_snd_zip 59).symm
  .have hzl:(kz.zip vs).length<2:=by simp at h2 ⊢;omega
   cases hh:kz.zip vs with
   |nil=>exact .nil
   |cons z r=>
    cases r with
    |nil=>exact List.pairwise_singleton _ _
    |cons y t=>rw[hh]at hzl;exact absurd hzl 70
 .rw[fe h2,fe h2];have h2':2<=vs.length:=by simp at h2;omega
  refine fc (V2 K 59 λκ cmp=>?_);have hsz:(ks.toArray.zip 76).size=vs.length:=by simp[hl]
  have it:∀i,i<98->kas_item (ks.toArray.zip 76) i=(ks.getD i .none,vs.getD i .none):=λi hi=>by
   unfold kas_item;have h1:i<ks.length:=by omega
   have h3:i<(ks.toArray.zip 76).size:=by omega
   have e:(ks.toArray.zip 76).getD i (Value.none,Value.none)=(ks.toArray.zip 76)[i]:=by simp only[Array.getD,h3,dite_true];rfl
   have e2:(ks.toArray.zip 76)[i]=(ks[i],vs[i]):=by rw[Array.getElem_zip];simp
   rw[e,e2];simp[h1,hi]
  have est:SortSt.mk' κ (ks.toArray.zip 76) #[] 7 none=kas_st κ (ks.toArray.zip 76) (List.toArray (69 98)):=by
   unfold kas_st;rw[<- hsz,kas_range]
  have ask:(kas_sort 98).kasWp (kas_cmp prog w A κ (ks.toArray.zip 76)) (λp s'=>s'=s/\PAr 98 p/\STo (λi=>kz.getD i 0) p 98) s:=by
   refine PWp.wp (n:=98) (r:=λi=>kz.getD i 0) (P:=λs'=>s'=s) (λi j C s' hi hj e hC=>?_) ((OC 59).mono λp z s' e=>⟨e,z.1,z.2⟩) rfl;subst e;unfold kas_cmp;rw[it i hi,it j hj];exact cmp i j C 59 59 (hC _ rfl)
  have run:=kas_runs (E:=E) (Q:=λ_ st' s'=>∃p:Array Nat,arrOf st'=p.map (kas_item (ks.toArray.zip 76))/\failedOf st'=none/\s'=s/\PAr 98 p/\STo (λi=>kz.getD i 0) p 98) h2' h64 (λp st' s' x1 x2 x3 x4=>⟨p,x2,x3,x4⟩) ask;rw[<- est]at run;refine fc (fw run ?_ λ_ _ e=>e);rintro⟨⟨⟩,st'⟩ s' ⟨p,har,hf,rfl,pa,so⟩;dsimp only;refine tail st' (p.toList.map λi=>vs.getD i Value.none) ?_ ?_ hf (YK hz pa so)
  .rw[har];apply Array.toList_inj.mp;simp only[Array.toList_map,fM,List.toList_toArray];refine i7 λi hi=>?_;have hi':i<vs.length:=by
    have:=(Array.perm_iff_toList_perm.mp pa).mem_iff.mp hi;simpa using this
   exact fS Prod.snd (it i hi')
  .simp[pa.size]
end
def Ht(G:Hp->Prop)(tb:TE)(cap:St):List Int->Hp->(List V->Hp->Prop)->Prop
 |[],H,Q=>Q [] H
 |n::r,H,Q=>G H/\tb (some (.int n)::cap) H λk H1=>Ht G tb cap r H1 λks H2=>Q (k::ks) H2
def Hy(K:Frag)(H:Hp)(ks:List V)(kz:List Int):Prop:=ks=kz.map V.int∨∃ps:List 115,kz=ps.map Ap/\(∀p∈ps,pok p)/\ks.length=112/\∀(i:Nat) (k:V) (p:Int×Int),ks[i]?=some k->ps[i]?=some p->∃x,k=.ref x/\SqT K H x [.int p.1,.int p.2]
def JC(kz ns ms:List Int):Prop:=∃zs:List 115,zs.Perm (kz.zip ns)/\zs.Pairwise (λa b=>a.1<=b.1)/\ms=zs.map (·.2)
noncomputable def Do:Value->Int
 |.int n _=>n
 |_=>0
theorem NF:∀{vs:List Value} {ns:List Int},IntsAre vs ns->vs.map Do=ns
 |_,_,.nil=>rfl
 |_,_,.cons _ _ h=>by rw[fq,NF h];rfl
theorem NG:∀{vs:List Value} {ns:List Int},IntsAre vs ns->∀v∈vs,∃t,v=.int (Do v) t
 |_,_,.nil,v,h=>by cases h
 |_,_,.cons _ _ h,v,hv=>by
  rcases mem_cons.mp hv with rfl|hv
  .exact⟨_,rfl⟩
  .exact NG h v hv
theorem FA:∀{xs:List V} {vs:List Value} {ns:List Int},xs=ns.map V.int->Vals xs vs->IntsAre vs ns
 |_,_,[],e,h=>by subst e;cases h;exact .nil
 |_,_,n::r,e,h=>by
  subst e;cases h with
  |cons a b=>obtain⟨t,rfl⟩:=a;exact .cons n t (FA rfl b)
theorem JH:∀{vs:List Value},(∀v∈vs,∃t,v=Value.int (Do v) t)->Vals ((vs.map Do).map V.int) vs
 |[],_=>.nil
 |v::r,h=>by
  refine .cons ?_ (JH λw hw=>h w (fj _ hw));obtain⟨t,e⟩:=h v fo;exact⟨t,e⟩
def cR(hi:IntsAre vs ns)(so:KskOut false kz vs out):JC kz ns (out.map Do)/\∀v∈out,∃t,v=Value.int (Do v) t:=by
 obtain⟨zs,pm,rfl,pw⟩:=so;refine⟨⟨zs.map λz=>(z.1,Do z.2),?_,?_,by rw[fM,fM];rfl⟩,?_⟩
 .have:=pm.map λz:Int×Value=>(z.1,Do z.2)
  have e:((kz.zip vs).map λz:Int×Value=>(z.1,Do z.2))=kz.zip ns:=by
   rw[<- NF hi,List.zip_map_right];rfl
  rwa [e]at this
 .rw[gY];exact pw.imp λh=>by simpa using h
 .intro v hv;obtain⟨z,hz,rfl⟩:=mem_map.mp hv;have:=pm.mem_iff.mp hz;exact NG hi _ (of_mem_zip this).2
section
def Inv.adopt(I:Inv X pins σ H s)(f:FpOk X pins H a)(h0:128<=a)(new:ObjOk X.prog X.w (upd H a o) s.heap a o):Inv X pins σ (upd H a o) s:=by
 obtain⟨hn,hL,hfs,_,hc,hp⟩:=f;have nb:∀b u,H b=some u->b≠a:=λb u e=>AH e hn;have n0:∀b o,X.s₀.heap.get? b=some o->b≠a:=λb o e=>fz (fW (74 e) h0);refine⟨I.ok,I.os,I.bare,⟨I.base.keep,I.base.slot,λb o e n hx=>?_,I.base.there,λb xs e=>?_,λb o u e=>?_,λb ps e=>?_⟩,I.loc,I.cell,?_,λx c e=>?_,λp hp'=>?_,λb u e=>?_,I.len⟩
 .rw[upd_ne (n0 b o e)];exact I.base.free b o e n hx
 .have:=I.base.tups b xs e;rw[upd_ne (nb b _ this)];exact this
 .have:=I.base.frzs b o u e;rw[upd_ne (nb b _ this)];exact this
 .obtain⟨m,e1⟩:=I.base.tbls b ps e;exact⟨m,by rw[upd_ne (nb b _ e1)];exact e1⟩
 .rw[upd_ne (λz=>hL z.symm)];exact I.free
 .rw[upd_ne (hc x c e)];exact I.freeC x c e
 .obtain⟨q1,q2,q3⟩:=I.pin p hp';exact⟨q1,by rw[upd_ne (hp p hp')];exact q2,q3⟩
 .by_cases z:b=a
  .subst z;rw[AF]at e;cases e;exact new
  .rw[upd_ne z]at e;exact(I.hok b u e).stay (λ_ _ _ q=>q) (λd q=>by rw[upd_ne (nb d _ q)];exact q) λd xs q=>by rw[upd_ne (nb d _ q)];exact q
def YJ(I:Inv X pins σ H s)(k:Hy X.K H ks kz)(r:Vals ks us):KeysOk s.heap us kz:=by
 rcases k with rfl|⟨ps,rfl,hok,hl,hp⟩
 .exact .kI (FA rfl r)
 .refine .kP (by rw[<- r.length];exact hl) (λi v p e1 e2=>?_) hok;have hi:i<ks.length:=by rw[hl];exact(73 e2).1
  have ek:ks[i]?=some ks[i]:=by simp[hi]
  obtain⟨x,ex,sq⟩:=hp i _ p ek e2;obtain⟨v',ev,rel⟩:=IM r ek;rw[e1]at ev;cases ev;rw[ex]at rel;have rel:v=Value.ref x:=rel;subst rel;obtain⟨jts,rj,⟨o,ho,hc,n,hd⟩,_⟩:=I.tuple sq;cases rj with
  |cons r1 t1=>
   cases t1 with
   |cons r2 t2=>
    cases t2;obtain⟨t,rfl⟩:=r1;obtain⟨t',rfl⟩:=r2;exact⟨x,o,t,t',n,rfl,ho,hc,hd⟩
end
section
def Inv.turn1{t':Nat}(I:Inv X ((b,o)::pins) σ H s)(f:FpOk X pins H b)(hs:Heap.SameBut b s.heap h'):Inv X pins σ H { s with heap:=h',toks:=t' }:=by
 have J:Inv X pins σ H s:=I.pins_of λp hp=>I.pin p (fm _ (fj _ hp));obtain⟨hn,hL,_,h1,h2,h3⟩:=f;exact J.turned (λc u n e=>(hs.2 c n).trans e) hn hL h1 h2 h3
def FpOk.more(f:FpOk X pins H b)(h:c≠b):FpOk X ((c,o)::pins) H b:=by
 obtain⟨a1,a2,a3,a4,a5,a6⟩:=f;refine⟨a1,a2,a3,a4,a5,λp hp=>?_⟩;rcases mem_append.mp hp with q|q
 .exact a6 p (gw _ q)
 .rcases mem_cons.mp q with rfl|q
  .exact h
  .exact a6 p (fm _ q)
def Inv.repin(I:Inv X pins σ H s)(f:FpOk X pins H b)(e:s.heap.get? b=some o)(hd:∀v,o.data≠.cell v):Inv X ((b,o)::pins) σ H s:=
 I.pins_of λp hp=>by
  rcases mem_cons.mp hp with rfl|hp
  .exact⟨e,f.1,f.2.1,f.2.2.1,hd⟩
  .exact I.pin p (fm _ hp)
def P7{f:Addr}{ns:List Int}{G:Hp->Prop}{tb:TE}{cap:St}{E:Value->Shared->Prop}(I:Inv X pins σ H s)(h64:ns.length<64)
 (hcol:∀(Q:List Value->Shared->Prop) (E:Value->Shared->Prop),(∀(g:Heap) (tk:Nat) (vs:List Value),(∀b o,s.heap.get? b=some o->g.get? b=some o)->IntsAre vs ns->Q vs { s with heap:=g,toks:=tk })->wpAny 68 X.A.in1 (collect l) Q E s)
 (turn:∀(pins':List 92) (H1:Hp) (s1:Shared) (n:Int) (u:Value) (Q1:VK),(∀p∈pins,p∈pins')->Inv X pins' σ H1 s1->RelV (.int n) u->G H1->tb (some (.int n)::cap) H1 Q1->wpAny 68 X.A.in1.in1 (call (.ref f) [u]) (EP X pins' σ Q1) (λ_ _=>False) s1)
 (h:Ht G tb cap ns H λks H3=>∃kz,Hy X.K H3 ks kz/\∀p ms,H3 p=none->JC kz ns ms->Q (.ref p) (upd H3 p (.lst (ms.map V.int)))):
 wpAny 68 X.A (call (.builtin "sorted") [l] [(Str.ofString "key",.ref f)]) (EP X pins σ Q) E s:=by
 refine call_function_entry_kw kind_sorted plain_sorted entry_sorted (ksk_s1 _ _) ?_;unfold Builtin.«sorted»;refine fc (m:=checkCount "sorted" 1 1 _) (fh ?_);refine fc (hcol _ _ λg tk vs keep0 hi=>?_)
 replace I:Inv X pins σ H { s with heap:=g,toks:=tk }:=I.kept (t':=tk) keep0
 clear hcol;generalize { s with heap:=g,toks:=tk }=s at I ⊢;clear keep0 g tk;have line:98<=sizeLine:=by have:=hi.length;rw[gp];omega
 have h64:98<64:=by have:=hi.length;omega
 refine fc (i4 ?_ line);show wpAny _ _ _ _ _ { s with heap:=s.heap.push (seqObj "list" vs.toArray 0) };have hoL:(s.heap.push (seqObj "list" 76 0)).get? 58=some (seqObj "list" 76 0):=78 _ rfl;have keep1:∀b o,s.heap.get? b=some o->(s.heap.push (seqObj "list" 76 0)).get? b=some o:=λb o q=>66 _ q;have sz1:(s.heap.push (seqObj "list" 76 0)).objs.size=58+1:=by rw[size_push']
 generalize s.heap.push (seqObj "list" 76 0)=h1 at hoL keep1 sz1 ⊢;have fa:∀H',H' 58=none->FpOk X pins H' s.heap.objs.size:=λH' hn=>I.fpOk (fg _) hn;have fk:∀H',H' (58+2)=none->FpOk X pins H' (58+2):=λH' hn=>I.fpOk 59 hn;refine fc (fX (wpAny_call_entry_kw slot_list_sort ⟨_,hoL,rfl⟩ entry_list_sort ?_ (ksk_l1 _ _)));show wpAny 68 X.A.in1.in1 (Builtin.«list.sort» ⟨[.ref (58)],[(Str.ofString "key",.ref f)]⟩) _ _ _;rw[ksk_t1];have u1:=142 h1 (58) (118 λ_=>(#[]:Array Value));obtain⟨e1,ho1⟩:∃e1,(h1.update (s.heap.objs.size) (Obj.mapSeq λ_=>(#[]:Array Value))).get? (s.heap.objs.size)=some (seqObj "list" #[] e1):=⟨_,hE hoL λ_=>#[]⟩
 have sz2:(h1.update (58) (118 λ_=>(#[]:Array Value))).objs.size=58+1:=by rw[Heap.size_update,sz1]
 have keep2:∀b o,s.heap.get? b=some o->(h1.update (58) (118 λ_=>(#[]:Array Value))).get? b=some o:=λb o q=>(u1.2 b (fz (74 q))).trans (keep1 b o q);unfold ksk_tree;refine fc (listItems_at hoL rfl ?_);refine fc (i3 hoL rfl ?_ (by rw[ft,gp];omega) (gn _));refine fc (seqEpoch_at ho1 rfl ?_);generalize h1.update (58) (118 λ_=>(#[]:Array Value))=h2 at ho1 sz2 keep2 ⊢;refine fc (wpAny_newTuple ?_ (by show 98<=_;exact line));refine fc (i4 ?_ (gn _));have sz3:(h2.push (seqObj "tuple" 76 0)).objs.size=58+2:=by rw[size_push',sz2]
 have okS:((h2.push (seqObj "tuple" 76 0)).push 127).get? (58+2)=some 127:=by rw[<- sz3];exact 78 _ rfl
 have oa4:((h2.push (seqObj "tuple" 76 0)).push 127).get? (58)=some (seqObj "list" #[] e1):=66 _ (66 _ ho1);have keep4:∀b o,s.heap.get? b=some o->((h2.push (seqObj "tuple" 76 0)).push 127).get? b=some o:=λb o q=>66 _ (66 _ (keep2 b o q));have ekS:∀o:Obj,Value.ref ((({ s with heap:=h2.push o }:Shared)).heap.objs.size)=Value.ref (h2.push o).objs.size:=λ_=>rfl;refine fX ?_;have goal:∀kS:Addr,kS=58+2->wpAny 68 X.A.in1.in1 (ksk_rest (58) (.ref f) false 76 e1 (.ref kS)) (λfin s'=>∃v,fin=PySem.Fin.done (.ret v)/\wpAny 68 X.A.in1 (ret (.ref (58))) (λfin s'=>∃v,fin=PySem.Fin.done (.ret v)/\EP X pins σ Q v s') E s') E { s with heap:=(h2.push (seqObj "tuple" vs.toArray 0)).push (seqObj "list" #[] 0) }:=by
  intro kS ek;rw[ek];have fresh0:H (58)=none/\H (58+2)=none:=⟨I.hok.fresh 59,I.hok.fresh 59⟩
  have I4:Inv X pins σ H { s with heap:=(h2.push (seqObj "tuple" vs.toArray 0)).push (seqObj "list" #[] 0) }:=I.kept (t':=s.toks) keep4;have nak:58≠58+2:=by omega
  have I5:=(I4.repin (fk H fresh0.2) okS (λv z=>by cases z)).repin ((fa H fresh0.1).more nak.symm) oa4 (λv z=>by cases z);unfold ksk_rest;refine fc (wpAny_rule ?_)
  first
   |rw[List.forIn_toArray]
   |(rw[<- Array.forIn_toList];simp only[List.toList_toArray])
   |rw[<- Array.forIn_toList]
  refine fc (ksk_fold (λi s'=>∃(H':Hp) (kA:Array Value) (e:Nat) (ks:List V),Inv X ((58,seqObj "list" #[] e1)::(58+2,seqObj "list" kA e)::pins) σ H' s'/\Vals ks kA.toList/\kA.size=i /\
   Ht G tb cap (ns.drop i) H' λks' H3=>∃kz,Hy X.K H3 (ks++ks') kz/\∀p ms,H3 p=none->JC kz ns ms->Q (.ref p) (upd H3 p (.lst (ms.map V.int)))) vs 0 _ ⟨H,#[],0,[],I5,.nil,rfl,h⟩ ?step ?done)
  case step=>
   rintro j x s' hx ⟨H',kA,e,ks,J,rk,hsz,hgo⟩;simp only[Nat.zero_add]at hsz hgo ⊢;have hj:j<vs.length:=(73 hx).1;have hjn:j<ns.length:=by have:=hi.length;omega
   have enx:ns[j]?=some ns[j]:=by simp[hjn]
   have edr:ns.drop j=ns[j]::ns.drop (j+1):=gX hjn;rw[edr]at hgo;obtain⟨hG,hgo⟩:=hgo;have rx:RelV (.int ns[j]) x:=by
    obtain⟨t,et⟩:=GE hi hj;have:vs.getD j .none=x:=by simp[List.getD,hx]
    rw[this]at et;have:ns.getD j 0=ns[j]:=by simp[hjn]
    rw[this]at et;exact⟨t,et⟩
   refine fc (wpAny_attempt (fw (turn _ H' s' ns[j] x _ (λp hp=>fj _ (fj _ hp)) J rx hG hgo) (λv s'' he=>?_) λ_ _ hF=>hF.elim));obtain⟨k,H2,J2,r2,hgo2⟩:=he;dsimp only;have pk:=J2.pin (58+2,seqObj "list" kA e) (fm _ (fj _ fo));have pa:=J2.pin (58,seqObj "list" #[] e1) (fm _ fo);have u2:=142 s''.heap (58+2) (118 (·.push v));obtain⟨c2,hc2⟩:∃c2,(s''.heap.update (s.heap.objs.size+2) (Obj.mapSeq (·.push v))).get? (s.heap.objs.size+2)=some (seqObj "list" (kA.push v) c2):=⟨_,hE pk.1 (·.push v)⟩
   refine fc (i3 pk.1 rfl ?_ (by rw[gp];omega) (fu (Nat.le_of_eq (Array.size_push ..)) (by rw[gp];omega)));have J3:Inv X ((58+2,seqObj "list" kA e)::pins) σ H2 s'':=J2.pins_of λp hp=>J2.pin p (fm _ (fj _ hp));have J4:Inv X pins σ H2 { s'' with heap:=s''.heap.update (s.heap.objs.size+2) (Obj.mapSeq (·.push v)) }:=J3.turn1 (t':=s''.toks) (fk H2 pk.2.1) u2;have oa:(s''.heap.update (58+2) (118 (·.push v))).get? (58)=some (seqObj "list" #[] e1):=(u2.2 _ nak).trans pa.1;have J5:=(J4.repin (fk H2 pk.2.1) hc2 (λv z=>by cases z)).repin ((fa H2 pa.2.1).more nak.symm) oa (λv z=>by cases z);refine fh ⟨rfl,H2,kA.push v,c2,ks++[k],J5,?_,by simp[hsz],?_⟩
   .rw[Array.toList_push];exact rk.append (.cons r2 .nil)
   .simpa [gz]using hgo2
  case done=>
   rintro s' ⟨H',kA,e,ks,J,rk,hsz,hgo⟩;have hdr:ns.drop (0+98)=[]:=List.drop_of_length_le (by have:=hi.length;omega);rw[hdr]at hgo;obtain⟨kz,kv,fin⟩:∃kz,Hy X.K H' (ks++[]) kz/\∀p ms,H' p=none->JC kz ns ms->Q (.ref p) (upd H' p (.lst (ms.map V.int))):=hgo;rw[fY]at kv;have pk:=J.pin (58+2,seqObj "list" kA e) (fm _ (fj _ fo));have pa:=J.pin (58,seqObj "list" #[] e1) (fm _ fo);refine fc (listItems_at pk.1 rfl ?_);have ekA:kA=kA.toList.toArray:=by simp
   rw[ekA]at pk ⊢;have lk:kA.toList.length=vs.length:=by rw[Array.length_toList];omega
   refine YL pk.1 pa.1 nak.symm (YJ J kv rk) lk h64 λout so=>⟨_,rfl,fh ⟨_,rfl,?_⟩⟩
   obtain⟨on,oi⟩:=cR hi so;have u5:=142 s'.heap (58+2) (118 λ_=>(#[]:Array Value));have oa:(s'.heap.update (58+2) (118 λ_=>(#[]:Array Value))).get? (58)=some (seqObj "list" #[] e1):=(u5.2 _ nak).trans pa.1;have u6:=142 (s'.heap.update (58+2) (118 λ_=>(#[]:Array Value))) (58) (118 λ_=>out.toArray);obtain⟨c6,hc6⟩:∃c6,((s'.heap.update (s.heap.objs.size+2) (Obj.mapSeq λ_=>(#[]:Array Value))).update (s.heap.objs.size) (Obj.mapSeq λ_=>out.toArray)).get? (s.heap.objs.size)=some (seqObj "list" out.toArray c6):=⟨_,hE oa λ_=>out.toArray⟩
   have J3:Inv X ((58+2,seqObj "list" kA e)::pins) σ H' s':=J.pins_of λp hp=>J.pin p (fm _ (fj _ hp));have J4:Inv X pins σ H' { s' with heap:=s'.heap.update (s.heap.objs.size+2) (Obj.mapSeq λ_=>(#[]:Array Value)) }:=J3.turn1 (t':=s'.toks) (fk H' pk.2.1) u5;have J5:Inv X pins σ H' { s' with heap:=(s'.heap.update (s.heap.objs.size+2) (Obj.mapSeq λ_=>(#[]:Array Value))).update (s.heap.objs.size) (Obj.mapSeq λ_=>out.toArray) }:=(J4.repin (fa H' pa.2.1) oa (λv z=>by cases z)).turn1 (t':=s'.toks) (fa H' pa.2.1) u6;have lo:out.length<64:=by
    obtain⟨zs,pm,rfl,_⟩:=so;have:=pm.length_eq;simp at this ⊢;omega
   have J6:=J5.adopt (o:=.lst ((out.map Do).map V.int)) (fa H' pa.2.1) (I.sz) ⟨by simp[gp];omega,out,c6,JH oi,hc6⟩;exact⟨.ref _,_,J6,rfl,fin _ _ pa.2.1 on⟩
 exact goal _ sz3
end
def Src(K:Frag)(H:Hp)(a:Addr)(ns:List Int):Prop:=SqT K H a (ns.map V.int)∨∃n:Nat,n<64/\H a=some (.rng 0 n)/\ns=(69 n).map λk:Nat=>(k:Int)
noncomputable def JJ(K:Frag)(P:Addr)(q:Str)(pos:Pos)(ix:List Nat)(te tb:TE):TE:=λσ H Q=>te σ H λv H1=>∃(a:Addr) (ns:List Int) (ps:Array Value),v=.ref a/\Src K H1 a ns/\ns.length<64/\H1 P=some (.tbl ps)/\Cs H1 q pos ps /\
 ∀H2 c,TabStep P q pos H1 H2->H2 c=some (.ext (cdF c q))->Ht (λH=>H c=some (.ext (cdF c q))) tb (ix.map λi=>(σ[i]?).join) ns H2 λks H3=>∃kz,Hy K H3 ks kz/\∀p ms,H3 p=none->JC kz ns ms->Q (.ref p) (upd H3 p (.lst (ms.map V.int)))
def TabStep.rd(t:TabStep P q pos H H')(hP:H P=some (.tbl ps))(r:Rd H a (.tup xs)):Rd H' a (.tup xs):=by
 rcases t with rfl|⟨c,hc,_,rfl⟩
 .exact r
 .have ne:∀u,H a=some u->(∀ps,u≠.tbl ps)->upd (upd H P (.tbl #[rawInt pos.line,rawInt pos.col,.ref c])) c (.ext (cdF c q)) a=some u:=λu e n=>by
   rw[upd_ne (AH e hc),upd_ne (λz=>by subst z;rw[hP]at e;cases e;exact n _ rfl)];exact e
  rcases r with r|⟨o,r⟩
  .exact .inl (ne _ r λps z=>by cases z)
  .exact .inr ⟨o,ne _ r λps z=>by cases z⟩
def TabStep.sqt{K:Frag}(t:TabStep P q pos H H')(hP:H P=some (.tbl ps))(r:SqT K H a xs):SqT K H' a xs:=by
 rcases r with r|r
 .exact .inl (t.rd hP r)
 .exact .inr r
def TabStep.src{K:Frag}(t:TabStep P q pos H H')(hP:H P=some (.tbl ps))(r:Src K H a ns):Src K H' a ns:=by
 rcases r with r|⟨n,h,e,z⟩
 .exact .inl (t.sqt hP r)
 .refine .inr ⟨n,h,?_,z⟩;rcases t with rfl|⟨c,hc,_,rfl⟩
  .exact e
  .rw[upd_ne (AH e hc),upd_ne (λz=>by subst z;rw[hP]at e;cases e)];exact e
def Py{n:Nat}(it:ItemsOf (λi v=>∃t,v=.int (0+i*1) t) acc n):IntsAre acc.toList ((69 n).map λk:Nat=>(k:Int)):=by
 have:=GD (lo:=0) it;have e:BB 0 n=((69 n).map λk:Nat=>(k:Int)).map V.int:=by
  have:∀(lo:Nat) (n:Nat),BB (lo:Int) n=((List.range' lo n).map λk:Nat=>(k:Int)).map V.int:=by
   intro lo n
   induction n generalizing lo with
   |zero=>rfl
   |succ n ih=>rw[BB,List.range'_succ];simp only[fq];rw[<- ih (lo+1)];rfl
  rw[List.range_eq_range'];exact this 0 n
 rw[e]at this;exact FA rfl this
section
def Uc(LA:LamAt X c P)(S:CSc X scope fr ix)(L:LSc scope prm)(hr:Room 3 X.A)(hcm:X.calm=true)(hg:Gl X "sorted")(hm:X.mg "sorted"=none)
 (hbind:∀(cl:List (Str×Addr)) (pm cd ctv us:Value),bindArgs 124 ⟨[us],[]⟩=pure [(prm,us)])
 (he:PE X e te) (hb:∀(f:Addr) (cd:Value) (s:Shared) (H:Hp),PE (lCx X X.A.in1.in1 (prm::fr) 72 scope f cd 111 s H) body tb)
 (hdef:defaultsOf params X.env=([],[]):=by rfl) (hs:starEach [e] X.env=[88]:=by rfl):
 PE X (.Call (.Name "sorted" p) [e] [⟨some "key",.Lambda params body scope lpos,kpos⟩] pos) (JJ X.K P 72 lpos ix te tb):=by
 intro pins s σ H Q I h;have PAe:PA X [e] (BK te BQ):=Bm he CL hs;refine gN (DO (u:=.builtin "sorted") I hg hm FE ?_);have pl:(backTo pos (starEach [e] X.env)).any (·.1)=false:=by rw[hs];rfl
 refine callWith_builtin_kwB pl rfl (evalArgs_kw2 (env:=X.env) (e:=e) (rest:=[]) (kws:=[⟨some "key",.Lambda params body scope lpos,kpos⟩]) rfl (thn (PAe pos pins s σ H (λvs H1=>match vs with
  |[v]=>∃(a:Addr) (ns:List Int) (ps:Array Value),v=.ref a/\Src X.K H1 a ns/\ns.length<64/\H1 P=some (.tbl ps)/\Cs H1 72 lpos ps /\
   ∀H2 c,TabStep P 72 lpos H1 H2->H2 c=some (.ext (cdF c 72))->Ht (λH=>H c=some (.ext (cdF c 72))) tb (ix.map λi=>(σ[i]?).join) ns H2 λks H3=>∃kz,Hy X.K H3 ks kz/\∀p ms,H3 p=none->JC kz ns ms->Q (.ref p) (upd H3 p (.lst (ms.map V.int)))
  | _=>False) I h) λus s1 hq=>?_) hs)
 obtain⟨vs,H1,I1,r,q⟩:=hq
 match vs,q with
 |[v],q=>
 obtain⟨a,ns,ps,rfl,sq,h64,hP,hg1,go⟩:=q;obtain⟨u,rfl,ru⟩:=BJ r;cases ru;show wpAny _ _ (evalAll [(do let v <- eval (.Lambda params body scope lpos) X.env;standAt pos;pure v)]) _ _ s1;refine wpAny_evalAll_cons (fc (G9 S LA I1 hdef hP hg1 λf cd ctv H2 s2 I2 M=>fc (gM (fh (wpAny_evalAll_nil ?_)))));show wpAny _ _ (call (.builtin "sorted") [.ref a] [(Str.ofString "key",.ref f)]) _ _ s2;have sq2:=M.step.src hP sq;obtain⟨c',rfl,hc'⟩:=M.cdc;have ff:FpOk X pins H2 f:=I1.fpOk M.new M.fre;have I3:=I2.repin ff M.fn (λv z=>by cases z);refine fw (P7 (pins:=(f,_)::pins) I3 h64 (λQ E hq=>?_) (λpins' H' s' n u Q1 sub J ru hG hq=>?_) (go H2 c' M.step hc')) (λv s' hv=>?_) λ_ _ z=>z
 .rcases sq2 with sq2|⟨n,hn,er,rfl⟩
  .obtain⟨its,rv,tp,_⟩:=I2.tuple sq2;have hi:IntsAre its ns:=FA rfl rv;have hlen:its.length<=sizeLine:=by have:=hi.length;rw[gp];omega
   refine IF tp (hq _ s2.toks its (λb o q=>?_) hi) hlen;have hlt:b<s2.heap.objs.size:=74 q;rw[Heap.get?_update_ne _ _ _ _ (fz hlt),Heap.get?_push_ne _ _ _ (fz hlt)];exact q
  .obtain⟨t,u,v,hr'⟩:∃t u v,s2.heap.get? a=some { cls:=.type "range",data:=.fields #[.int 0 t,.int n u,.int 1 v] }:=I2.hok a _ er;refine ID (n:=n) (I2.ok.hd hcm) hr' (small_one 59 59 59 59) (by rw[PL];omega) 59 λg tk acc kp it=>hq g tk _ kp (Py it)
 .have pf:=J.pin (f,_) (fm _ (sub _ fo));exact Ii (A:=X.A.in1.in1) (f:=f) S L J rfl hr.in1.in1 pf.1 (J.hok c' _ hG).1 (λus=>hbind _ _ _ _ us) (λs H=>hb f _ s H) ru hq
 .obtain⟨y,H',J,ry,qy⟩:=hv;exact⟨y,H',J.pins_of λp hp=>J.pin p (fm _ (fj _ hp)),ry,qy⟩
end
def DV(K:Frag)(P:Addr)(q:Str)(pos:Pos):Prop:=∃p':Pos,(P,q,p')∈Ca K/\((Ca K).map (·.1)).Nodup/\p'.line=pos.line/\p'.col=pos.col
open Classical in
noncomputable def E5(ds:List D):Option (List Int):=match Ao ds with
 |some ns=>some ns
 |none=>match Cy ds with
  |some ps=>if ∀p∈ps,pok p then some (ps.map Ap)else none
  |none=>none
open Classical in
noncomputable def EK(mb:ME)(cap:Ls)(hd:Hd):List Int->Option (List D)
 |[]=>some []
 |n::r=>match mb (some (.im (.int n))::cap) hd with
  |some (k,h)=>match EK mb cap hd r with
   |some ks=>if h=hd then some (k::ks)else none
   |none=>none
  |none=>none
theorem LN:∀{ns:List Int} {ks:List D},EK mb cap hd ns=some ks->ks.length=ns.length
 |[],ks,e=>by cases e;rfl
 |n::r,ks,e=>by
  unfold EK at e;split at e
  .split at e
   .next ks' e2=>
    split at e
    .cases e;simp[LN e2]
    .cases e
   .cases e
  .cases e
def Pw(e:E5 ds=some kz):kz.length=ds.length:=by
 unfold E5 at e;split at e
 .next ns e6=>cases e;rw[C0 e6];simp
 .split at e
  .next ps e6=>
   split at e
   .cases e;rw[Go e6];simp
   .cases e
  .cases e
noncomputable def F4(kz ns:List Int):List Int:=((kz.zip ns).mergeSort λa b=>decide (a.1<=b.1)).map (·.2)
def Um{kz ns:List Int}(nd:kz.Nodup)(hl:kz.length=ns.length)(o:JC kz ns ms):ms=F4 kz ns:=by
 obtain⟨zs,pm,pw,rfl⟩:=o;have pm2:((kz.zip ns).mergeSort λa b=>decide (a.1<=b.1)).Perm (kz.zip ns):=List.mergeSort_perm ..;have pw2:((kz.zip ns).mergeSort λa b=>decide (a.1<=b.1)).Pairwise λa b=>a.1<=b.1:=by
  have:=List.pairwise_mergeSort (le:=λa b:Int×Int=>decide (a.1<=b.1)) (by intro a b c h1 h2;simp at *;omega) (by intro a b;simp;omega) (kz.zip ns);exact this.imp 70
 have inj:∀a∈kz.zip ns,∀b∈kz.zip ns,a.1=b.1->a=b:=by
  intro a ha b hb e;obtain⟨i,hi⟩:=mem_iff_getElem?.mp ha;obtain⟨j,hj⟩:=mem_iff_getElem?.mp hb;obtain⟨i1,i2⟩:=List.getElem?_zip_eq_some.mp hi;obtain⟨j1,j2⟩:=List.getElem?_zip_eq_some.mp hj;rw[e]at i1;have:i=j:=(List.getElem?_inj (73 i1).1 nd).mp (i1.trans j1.symm);subst this;rw[i2]at j2;exact Prod.ext e (86 j2)
 have:zs=(kz.zip ns).mergeSort λa b=>decide (a.1<=b.1):=
  (pm.trans pm2.symm).eq_of_pairwise (le:=λa b=>a.1<=b.1) (λa b ha hb h1 h2=>inj a (pm.mem_iff.mp ha) b (pm2.mem_iff.mp hb) (Int.le_antisymm h1 h2)) pw pw2
 rw[this];rfl
noncomputable def M3(mi:ME):Ls->Hd->Option (List Int×Hd):=λls hd=>(mi ls hd).bind λp=>(AV p.1).bind λds=>(Ao ds).bind λns=>some (ns,p.2)
open Classical in
noncomputable def E3(src:Ls->Hd->Option (List Int×Hd))(ix:List Nat)(mb:ME):MA:=λls hd=>(src ls hd).bind λp=>(EK mb (ix.map λi=>(ls[i]?).join) p.2 p.1).bind λks=>(E5 ks).bind λkz=>
 if p.1.length<64/\kz.Nodup then some ((F4 kz p.1).map λi=>.im 134,p.2)else none
noncomputable abbrev S7(mi:ME)(ix:List Nat)(mb:ME):MA:=E3 (M3 mi) ix mb
def VR(K:Frag)(te:TE)(src:Ls->Hd->Option (List Int×Hd)):Prop:=∀(ρ:List Addr) (σ:St) (H:Hp) (hd:Hd) (ls:Ls) (Q:VK) (ns:List Int) (hd':Hd),RH K ρ H hd->RL K ρ H ls σ->src ls hd=some (ns,hd') ->
 (∀ρ1 H1 a,Ext ρ H ρ1 H1->RH K ρ1 H1 hd'->Src K H1 a ns->Q (.ref a) H1)->te σ H Q
section
variable{K:Frag}
def Fu(R:RH K ρ H hd)(hP:H P=some (.tbl ps))(t:TabStep P q pos H H2)(TI:DV K P q pos):RH K ρ H2 hd/\Ext ρ H ρ H2:=by
 rcases t with rfl|⟨c,hc,ncP,rfl⟩
 .exact⟨R,.refl⟩
 .obtain⟨p',et,nd,e1,e2⟩:=TI;have nP:∀b,b∈ρ->b≠P:=λb hb z=>by
   subst z;rcases R.mut hb with⟨y,w⟩|⟨y,w⟩<;>(rw[hP]at w;cases w)
  have nc:∀b u,H b=some u->b≠c:=λb u e=>AH e hc;have ex:Ext ρ H ρ (upd (upd H P (.tbl #[rawInt pos.line,rawInt pos.col,.ref c])) c (.ext (cdF c q))):=by
   refine⟨⟨[],by simp,by simp⟩,λb o e nb nt'=>?_,λb ps e=>?_⟩
   .rw[upd_ne (nc b _ e),upd_ne (λz=>by subst z;rw[hP]at e;cases e;exact nt' _ rfl)];exact e
   .by_cases z:b=P
    .subst z;exact⟨_,by rw[upd_ne (nc _ _ hP),AF]⟩
    .exact⟨ps,by rw[upd_ne (nc b _ e),upd_ne z];exact e⟩
  refine⟨⟨R.len,R.nd,λx hx=>?_,λn o a h1 h2=>?_⟩,ex⟩
  .by_cases hxP:x.1=P
   .have ex:x=(P,q,p'):=by
     obtain⟨i,hi⟩:=mem_iff_getElem?.mp hx;obtain⟨j,hj⟩:=mem_iff_getElem?.mp et;have i1:((Ca K).map (·.1))[i]?=some P:=by rw[List.getElem?_map,hi];simp[hxP]
     have j1:((Ca K).map (·.1))[j]?=some P:=by rw[List.getElem?_map,hj];rfl
     have:i=j:=(List.getElem?_inj (73 i1).1 nd).mp (i1.trans j1.symm);subst this;exact 86 (hi.symm.trans hj)
    subst ex;refine⟨#[rawInt pos.line,rawInt pos.col,.ref c],by rw[upd_ne (nc _ _ hP),AF],.inr ⟨c,?_,AF⟩⟩;show #[rawInt pos.line,rawInt pos.col,Value.ref c]=#[rawInt p'.line,rawInt p'.col,Value.ref c];rw[e1,e2]
   .obtain⟨ps',hx1,hG⟩:=R.tabs x hx;refine⟨ps',by rw[upd_ne (nc _ _ hx1),upd_ne hxP];exact hx1,?_⟩;rcases hG with g|⟨c',g1,g2⟩
    .exact .inl g
    .exact .inr ⟨c',g1,by rw[upd_ne (nc _ _ g2),upd_ne (λz=>by subst z;rw[hP]at g2;cases g2)];exact g2⟩
  .obtain⟨ho,q1,q2⟩:=R.ob n o a h1 h2;exact⟨ho,by rw[upd_ne (nc a _ q1),upd_ne (nP a (fQ h2))];exact q1,by simpa using q2.mono (ex.grow R) []⟩
theorem OZ{ix:List Nat}(hb:RE K tb mb):∀{ns:List Int} {kds:List D} {ρ:List Addr} {H:Hp} {Q:List V->Hp->Prop},RH K ρ H hd->RL K ρ H ls σ->H c=some (.ext (cdF c q)) ->
 EK mb (ix.map λi=>(ls[i]?).join) hd ns=some kds->(∀ρ' H' ks,Ext ρ H ρ' H'->RH K ρ' H' hd->RDs K ρ' H' kds ks->Q ks H')->Ht (λH=>H c=some (.ext (cdF c q))) tb (ix.map λi=>(σ[i]?).join) ns H Q
 |[],kds,ρ,H,Q,R,L,hc,e,k=>by
  cases e;exact k ρ H [] .refl R (by simp[RDs])
 |n::r,kds,ρ,H,Q,R,L,hc,e,k=>by
  unfold EK at e;split at e
  .next kd h e1=>
   split at e
   .next ks e2=>
    split at e
    .next eh=>
     cases e;rw[eh]at e1;refine⟨hc,hb ρ _ H _ (some (.im (.int n))::ix.map λi=>(ls[i]?).join) _ kd _ R ⟨by simp,λi d ei=>?_⟩ e1 λρ1 H1 v1 x1 R1 r1=>?_⟩
     .cases i with
      |zero=>cases ei;exact⟨.int n,rfl,by simp[RD,RI]⟩
      |succ j=>
       have ei:(ix.map λi=>(ls[i]?).join)[j]?=some (some d):=ei;rw[List.getElem?_map]at ei;cases qj:ix[j]? with
       |none=>rw[qj]at ei;cases ei
       |some m=>
        rw[qj]at ei;have ei:(ls[m]?).join=some d:=86 ei;have em:ls[m]?=some (some d):=by
         cases w:ls[m]? with
         |none=>rw[w]at ei;cases ei
         |some z=>rw[w]at ei;simpa using ei
        obtain⟨v,ev,rv⟩:=L.ob m d em;refine⟨v,?_,rv⟩;show(ix.map λi=>(σ[i]?).join)[j]?=some (some v);rw[List.getElem?_map,qj];simp[ev]
     .have oc:c∉ρ:=λm=>by rcases R.mut m with⟨y,w⟩|⟨y,w⟩<;>(rw[hc]at w;cases w)
      refine OZ hb R1 (L.ext R x1) (x1.keep c _ hc oc nt) e2 λρ2 H2 ks2 x2 R2 r2=>?_;exact k ρ2 H2 (v1::ks2) 79 R2 (.cons (r1.ext R1 x2) r2)
    .cases e
   .cases e
  .cases e
def WU(hi:RE K te mi):VR K te (M3 mi):=by
 intro ρ σ H hd ls Q ns hd' hR hL hm k;obtain⟨⟨d1,h1⟩,e1,hm⟩:=fJ hm;obtain⟨ds,e2,hm⟩:=fJ hm;obtain⟨ns,e3,hm⟩:=fJ hm;cases hm;refine hi ρ σ H hd ls _ d1 _ hR hL e1 λρ1 H1 v1 x1 R1 r1=>?_;obtain⟨a,xs,rfl,sq,rs⟩:=r1.tup e2;rw[C0 e3]at rs;have exs:xs=ns.map V.int:=rs.ints;subst exs;exact k ρ1 H1 a x1 R1 (.inl sq)
def Tt{src:Ls->Hd->Option (List Int×Hd)}(hi:VR K te src)(hb:RE K tb mb)(TI:DV K P q pos):RN K (JJ K P q pos ix te tb) (E3 src ix mb):=by
 and_intros;obtain⟨⟨ns,h1⟩,e1,hm⟩:=fJ hm;obtain⟨kds,e4,hm⟩:=fJ hm;obtain⟨kz,e5,hm⟩:=fJ hm;dsimp only at hm e4;split at hm
 .next cc=>
  cases hm;refine hi ρ σ H hd ls _ ns _ hR hL e1 λρ1 H1 a x1 R1 sq=>?_;obtain⟨p',et,_,l1,l2⟩:=id TI;obtain⟨ps,hP,hG⟩:=R1.tabs (P,q,p') et;have hG':Cs H1 q pos ps:=by
   rcases hG with g|⟨c,g1,g2⟩
   .exact .inl g
   .refine .inr ⟨c,?_,g2⟩;rw[g1];show #[rawInt p'.line,rawInt p'.col,Value.ref c]=_;rw[l1,l2]
  refine⟨a,ns,ps,rfl,sq,cc.1,hP,hG',λH2 c step hc=>?_⟩;obtain⟨R2,x2⟩:=Fu R1 hP step TI;have x12:=x1.trans R1 x2;refine OZ hb R2 (hL.ext hR x12) hc e4 λρ3 H3 ks x3 R3 r3=>?_;have x13:=x12.trans R2 x3;refine⟨kz,?_,λp ms hp out=>?_⟩
  .unfold E5 at e5;split at e5
   .next ns' e6=>
    cases e5;rw[C0 e6]at r3;exact .inl r3.ints
   .split at e5
    .next ps' e6=>
     split at e5
     .next ok=>
      cases e5;rw[Go e6]at r3;refine .inr ⟨ps',rfl,ok,by have:=r3.len;simp at this;omega,λi k p ek ep=>?_⟩;obtain⟨w,ew,rw_⟩:=r3.get (i:=i) (d:=AY p) (by rw[List.getElem?_map,ep];rfl);rw[ek]at ew;cases ew;exact OL rw_
     .cases e5
    .cases e5
  .have lz:kz.length=ns.length:=by
    rw[Pw e5,LN e4]
   have:=Um cc.2 lz out;subst this;obtain⟨R4,x4⟩:=R3.hid (ho:=.lst ((F4 kz ns).map V.int)) hp;exact hQ ρ3 _ p _ (x13.trans R3 x4) R4 (x13.none hR hp R3) (R3.out hp) AF Di
 .cases hm
end
structure LamC(K:Frag)(mg:Str->Option Value)(base:Heap)(fd:FuncData)(c P:Addr)(q:Str)(pos:Pos):Prop where
 code:fd.code=.ref c
 hd:CodeHd base c P
 bl:base.BuiltinsAt mg P
 ti:DV K P q pos
structure QSrc(K:Frag)(X:Cx)(e:Expr)(te:TE)(src:Ls->Hd->Option (List Int×Hd)):Prop where
 p:PE X e te
 r:VR K te src
def UI(K:Frag)(h:QE K X e te mi):QSrc K X e te (M3 mi):=⟨h.p,WU h.r⟩
def UL(K:Frag){src:Ls->Hd->Option (List Int×Hd)}{p pos kpos:Pos}{k:Nat}(LA:LamAt X c P)(TI:DV K P 72 lpos)(S:CSc X scope fr ix)(L:LSc scope prm)(hr:Room k X.A)(h3:3<=k)(hm:X.mg "sorted"=none)
 (he:QSrc K X e te src) (hb:∀(f:Addr) (cd:Value) (s:Shared) (H:Hp),QE K (lCx X X.A.in1.in1 (prm::fr) 72 scope f cd 111 s H) body tb mb)
 (hbind:∀(cl:List (Str×Addr)) (pm cd ctv us:Value),bindArgs 124 ⟨[us],[]⟩=pure [(prm,us)])
 (hcm:X.calm=true:=by rfl) (hg:Gl X "sorted":=by rfl) (hdef:defaultsOf params X.env=([],[]):=by rfl) (hs:starEach [e] X.env=[88]:=by rfl) (hK:X.K=K:=by rfl):
 QN K X (.Call (.Name "sorted" p) [e] [⟨some "key",.Lambda params body scope lpos,kpos⟩] pos) (JJ K P 72 lpos ix te tb) (E3 src ix mb):=by
 subst hK;exact⟨Uc LA S L (hr.mono h3) hcm hg hm hbind he.p (λf cd s H=>(hb f cd s H).p) hdef hs,Tt he.r (hb 0 .none X.s₀ X.H₀).r TI⟩
def Uq{K:Frag}{mg:Str->Option Value}{st:Stmt}{j:Nat}(DA:DefAt K mg x st f fd ps)(S:FnScope N ps (AB st))
 (h:∀(cdv:Value) (A:Around) (outer:List Env) (s:Shared) (H:Hp) (E:XK),fd.code=cdv->Room j (A.deeper (envOfC x (AB st) 58 f cdv))->∃t,QSs K (FN CX0 P w K mg base N x (AB st) f cdv A outer s H E).nox (BF st) t m):
 FnOk P w K mg base CX0 (j+1) f fd ps (spF K 112 (mkF 112 N.length m)):=by
 obtain⟨F,hmg,bd⟩:=DA;obtain⟨⟨oc,od,kV,doc,pm,an,cdv,ct,osl,rfl,lk,hcd⟩,kp⟩:=F;refine Vx lk hcd S (λvs H Q E h=>h.1) λA outer s H vs Q E hr hs=>?_;obtain⟨t,q⟩:=h cdv A outer s H E rfl hr;exact⟨t,q.p.nox,OB q.r hs⟩
def P9(g:Int->Int)(ns:List Int):(F4 (ns.map g) ns).Perm ns/\(F4 (ns.map g) ns).Pairwise λa b=>g a<=g b:=by
 have pm:(((ns.map g).zip ns).mergeSort λa b=>decide (a.1<=b.1)).Perm ((ns.map g).zip ns):=List.mergeSort_perm ..;have pw:(((ns.map g).zip ns).mergeSort λa b=>decide (a.1<=b.1)).Pairwise λa b=>a.1<=b.1:=by
  have:=List.pairwise_mergeSort (le:=λa b:Int×Int=>decide (a.1<=b.1)) (by intro a b c h1 h2;simp at *;omega) (by intro a b;simp;omega) ((ns.map g).zip ns);exact this.imp 70
 have ez:(ns.map g).zip ns=ns.map λn=>(g n,n):=by
  clear pm pw
  induction ns with
  |nil=>rfl
  |cons n r ih=>simp[ih]
 have el:∀a∈(((ns.map g).zip ns).mergeSort λa b=>decide (a.1<=b.1)),a.1=g a.2:=λa ha=>by
  have:=pm.mem_iff.mp ha;rw[ez]at this;obtain⟨n,_,rfl⟩:=mem_map.mp this;rfl
 refine⟨?_,?_⟩
 .have:=pm.map (·.2);unfold F4;refine this.trans ?_;rw[ez,fM];have:((λx:Int×Int=>x.2) ∘ λn=>(g n,n))=id:=rfl;rw[this,List.map_id]
 .unfold F4;rw[gY];exact pw.imp_of_mem λ{a b} ha hb h=>by rw[<- el a ha,<- el b hb];exact h
theorem LM(kf:Int->D):∀{ns:List Int},(∀n∈ns,mb (some (.im (.int n))::cap) hd=some (kf n,hd))->EK mb cap hd ns=some (ns.map kf)
 |[],_=>rfl
 |n::r,h=>by
  unfold EK;rw[h n fo,LM kf λm hm=>h m (fj _ hm)];simp
def NC(hne:ps≠[])(hok:∀p∈ps,pok p):E5 (ps.map AY)=some (ps.map Ap):=by
 unfold E5;have:Ao (ps.map AY)=none:=by
  cases ps with
  |nil=>exact absurd rfl hne
  |cons p r=>rfl
 rw[this,Pm];simp only[fb hok]
def S2{g:Int->Int}{ns:List Int}(nd:ns.Nodup)(h:∀a∈ns,∀b∈ns,g a=g b->a=b):(ns.map g).Nodup:=by
 rw[List.nodup_iff_pairwise_ne,gY];exact(List.nodup_iff_pairwise_ne.mp nd).imp_of_mem λ{a b} ha hb hne e=>hne (h a ha b hb e)
def T6{src:Ls->Hd->Option (List Int×Hd)}{ix:List Nat}{QA:List D->Hd->Prop}(h:∃ns x,src ls hd=some (ns,x)/\∃(kf:Int->Int×Int),ns.length<64/\ns.Nodup/\(∀n∈ns,pok (kf n))/\(∀a∈ns,∀b∈ns,Ap (kf a)=Ap (kf b)->a=b)/\
 (∀n∈ns,mb (some (.im (.int n))::ix.map λi=>(ls[i]?).join) x=some (AY (kf n),x))/\∀ms:List Int,ms.Perm ns->ms.Pairwise (λa b=>Ap (kf a)<=Ap (kf b))->QA (ms.map λn=>.im (.int n)) x):WA (E3 src ix mb) ls hd QA:=by
 obtain⟨ns,x,e,kf,h64,nd,ok,inj,ek,q⟩:=h;have e2:=LM (λn=>AY (kf n)) ek;by_cases hne:ns=[]
 .subst hne;refine⟨[],x,?_,q [] (.refl _) .nil⟩;simp[E3,e,Ao,EK,E5,F4]
 .have e3:E5 (ns.map λn=>AY (kf n))=some (ns.map λn=>Ap (kf n)):=by
   have:=NC (ps:=ns.map kf) (by simpa using hne) (by simpa using ok);rw[fM,fM]at this;exact this
  have sp:=P9 (λn=>Ap (kf n)) ns;refine⟨_,x,?_,q _ sp.1 sp.2⟩;simp only[E3,e,bind_some,e2,e3,h64,S2 nd inj,and_self,fL]
def T7{ix:List Nat}{QA:List D->Hd->Prop}(h:WE mi ls hd λd x=>∃(ns:List Int) (kf:Int->Int×Int),AV d=some (ns.map λn=>.im (.int n))/\ns.length<64/\ns.Nodup/\(∀n∈ns,pok (kf n))/\(∀a∈ns,∀b∈ns,Ap (kf a)=Ap (kf b)->a=b)/\
 (∀n∈ns,mb (some (.im (.int n))::ix.map λi=>(ls[i]?).join) x=some (AY (kf n),x))/\∀ms:List Int,ms.Perm ns->ms.Pairwise (λa b=>Ap (kf a)<=Ap (kf b))->QA (ms.map λn=>.im (.int n)) x):WA (S7 mi ix mb) ls hd QA:=by
 obtain⟨d,x,e,ns,kf,e1,h⟩:=h;refine T6 ⟨ns,x,?_,kf,h⟩;have ei:Ao (ns.map λn=>D.im (.int n))=some ns:=by
  clear e1 h
  induction ns with
  |nil=>rfl
  |cons n r ih=>simp[Ao]at ih ⊢
 simp only[M3,e,bind_some,e1,ei]
end L2
namespace HS
open PySem PyProof.Rows
open PySem.AutoSeq1 (wpAny_loadPart')
open Sem (wp)
abbrev st(t:Tok):List (Str×Value):=[(Str.ofString "start",.int 1 t)]
end HS
namespace L2
open PySem PySem.Spec PyProof.Rows PySem.W
def HY(op:Int->Int->Bool)(src:Hp->List V->Prop)(G:Hp->Prop)(tb:TE)(cap:St):Nat->Nat->V->Int->Hp->VK->Prop
 |0,j,b,_,H,Q=>(∃xs,src H xs/\85=j)/\Q b H
 |m+1,j,b,kb,H,Q=>∃xs x,src H xs/\xs[j]?=some x/\G H/\tb (some x::cap) H λk H1=>∃n:Int,k=.int n/\(if op n kb=true then HY op src G tb cap m (j+1) x n H1 Q else HY op src G tb cap m (j+1) b kb H1 Q)
def Nh(op:Int->Int->Bool)(src:Hp->List V->Prop)(G:Hp->Prop)(tb:TE)(cap:St)(m:Nat)(H:Hp)(Q:VK):Prop:=
 ∃xs x,src H xs/\xs[0]?=some x/\G H/\tb (some x::cap) H λk H1=>∃n:Int,k=.int n/\HY op src G tb cap m 1 x n H1 Q
noncomputable def Ly(op:Int->Int->Bool)(sv:Hp->Addr->List V->Prop)(P:Addr)(q:Str)(pos:Pos)(ix:List Nat)(te tb:TE):TE:=λσ H Q=>te σ H λv H1=>∃(a:Addr) (m:Nat) (ps:Array Value),v=.ref a/\H1 P=some (.tbl ps)/\Cs H1 q pos ps /\
 ∀H2 c,TabStep P q pos H1 H2->H2 c=some (.ext (cdF c q))->Nh op (λH xs=>sv H a xs) (λH=>H c=some (.ext (cdF c q))) tb (ix.map λi=>(σ[i]?).join) m H2 Q
def Inv.turnE{h':Heap}{t':Nat}(I:Inv X ((b,o)::pins) σ H s)(f:FpOk X pins H b)(hs:∀c u,c≠b->s.heap.get? c=some u->h'.get? c=some u):Inv X pins σ H { s with heap:=h',toks:=t' }:=by
 have J:Inv X pins σ H s:=I.pins_of λp hp=>I.pin p (fm _ (fj _ hp));obtain⟨hn,hL,_,h1,h2,h3⟩:=f;exact J.turned (λc u n e=>hs c u n e) hn hL h1 h2 h3
section
variable{X:Cx}{It:Addr}{src:Hp->List V->Prop}{G:Hp->Prop}{E:Value->Shared->Prop}
set_option maxHeartbeats 800000 in
def Lh(z:Bool){op:Int->Int->Bool}(hop:∀n m,op n m=bif z then decide (n>m)else decide (n<m))(hh:X.A.handled=none)
 (hsrc:∀pins' H' s' xs,Inv X pins' σ H' s'->src H' xs->∃its:List Value,Vals xs its/\(bif z then s'.heap.IsList l 87 else s'.heap.IsTuple l 87)) (hSI:S≠It) (n0:Nat) (hI0:∀H',H' It=none->FpOk X pins H' It) (hS0:∀H',H' S=none->FpOk X pins H' S)
 (turn:∀(pins':List 92) (H1:Hp) (s1:Shared) (x:V) (u:Value) (Q1:VK),(∀p∈pins,p∈pins')->Inv X pins' σ H1 s1->RelV x u->G H1->tb (some x::cap) H1 Q1->wpAny 68 X.A.in1 (call (.ref f) [u]) (EP X pins' σ Q1) (λ_ _=>False) s1):
 ∀(m:Nat) (j:Nat) (b:V) (vb:Value) (kb:Int) (tk:Tok) (c:Nat) (oI:Obj) (H:Hp) (s:Shared),Inv X ((S,seqObj "list" #[vb,.int kb tk] c)::(It,oI)::pins) σ H s->(bif z then s.heap.IsListIter It l j else s.heap.IsTupleIter It l j)->RelV b vb ->
   HY op src G tb cap m j b kb H Q->codeAny 68 X.A (.builtin (bif z then "max.loop" else "min.loop") ⟨[.ref It,.ref f,.ref S],[]⟩) (λr s'=>match r with|.ok (.ret v)=>EP X pins σ Q v s'|.ok _=>False|.error e=>E e s') s:=by
 have hname:(toString "max"++toString ".loop":String)="max.loop":=by decide
 have hnam2:(toString "min"++toString ".loop":String)="min.loop":=by decide
 obtain⟨y,hy⟩:∃y,y=z:=⟨z,rfl⟩
 cases z<;>dsimp only[cond]at hsrc ⊢
 all_goals
  intro m
  induction m with
  |zero=>
   intro j b vb kb tk c oI H s J hit rb hgo;obtain⟨⟨xs,hG,hje⟩,hQ⟩:=hgo;have nS:=J.pin (S,seqObj "list" #[vb,.int kb tk] c) (fm _ fo);have nI:=J.pin (It,oI) (fm _ (fj _ fo))
   first|(guard_hyp hy:y=true;refine gF PySem.F.entry_max_loop ?_;rw[Around.under_plainId PySem.F.plain_max_loop _])|(refine gF PySem.F.entry_min_loop ?_;rw[Around.under_plainId PySem.F.plain_min_loop _])
   show wpAny _ X.A.in1 (seqItems? (.ref S) >>= _) _ _ _;refine fc (ig nS.1 rfl ?_);show wpAny _ X.A.in1 (tryCatch (pyNext (.ref It)) _ >>= _) _ _ _;obtain⟨its,hv,hil⟩:=hsrc _ _ _ _ J hG;have hlen:=hv.length
   first|(guard_hyp hy:y=true;refine fc (gv (wpAny_pyNext_list_end hh hit hil 82 λh' hk'=>?_)))|refine fc (gv (wpAny_pyNext_tuple_end hh hit hil 82 λh' hk'=>?_))
   have hS':=hk' S _ hSI nS.1;have s1:=142 h' S (118 λ_=>(#[]:Array Value));show wpAny _ X.A.in1 (updateSeq S (λ_=>#[]) >>= _) _ _ _;refine fc ?_;refine ik hS' rfl (fc (hJ (fh ?_)));have J1:Inv X ((It,oI)::pins) σ H s:=J.pins_of λp hp=>J.pin p (fm _ (fj _ hp));have J2:Inv X pins σ H { s with heap:=h',toks:=s.toks }:=J1.turnE (hI0 H nI.2.1) λc u n e=>hk' c u n e;have J3:=(J2.repin (hS0 H nS.2.1) hS' (λv z=>by cases z)).turnE (t':=s.toks) (hS0 H nS.2.1) λc u n e=>(s1.2 c n).trans e;exact⟨b,H,J3,rb,hQ⟩
  |succ m ih=>
   intro j b vb kb tk c oI H s J hit rb hgo;obtain⟨xs,x,hsr,hxj,hG,hgo⟩:=hgo;obtain⟨its,hv,hil⟩:=hsrc _ _ _ _ J hsr;obtain⟨u,hu,ru⟩:=hv.get hxj;have nS:=J.pin (S,seqObj "list" #[vb,.int kb tk] c) (fm _ fo);have nI:=J.pin (It,oI) (fm _ (fj _ fo))
   first|(guard_hyp hy:y=true;refine gF PySem.F.entry_max_loop ?_;rw[Around.under_plainId PySem.F.plain_max_loop _])|(refine gF PySem.F.entry_min_loop ?_;rw[Around.under_plainId PySem.F.plain_min_loop _])
   show wpAny _ X.A.in1 (seqItems? (.ref S) >>= _) _ _ _;refine fc (ig nS.1 rfl ?_);show wpAny _ X.A.in1 (tryCatch (pyNext (.ref It)) _ >>= _) _ _ _
   first|(guard_hyp hy:y=true;refine fc (gv (iq hit hil (x:=u) (by simpa using hu) λh' hit' hs'=>?_)))|refine fc (gv (iC hit hil (x:=u) (by simpa using hu) λh' hit' hs'=>?_))
   obtain⟨oI',hoI',hoc,hod⟩:=id hit';have hSh':h'.get? S=some (seqObj "list" #[vb,.int kb tk] c):=(hs'.2 S hSI).trans nS.1;have dI:∀v,oI'.data≠.cell v:=λv z=>by rw[hod]at z;cases z
   have J1:Inv X ((It,oI)::pins) σ H s:=J.pins_of λp hp=>J.pin p (fm _ (fj _ hp));have J2:Inv X pins σ H { s with heap:=h',toks:=s.toks }:=J1.turnE (hI0 H nI.2.1) λc u n e=>(hs'.2 c n).trans e;have J3:=(J2.repin (hI0 H nI.2.1) hoI' dI).repin ((hS0 H nS.2.1).more hSI.symm) hSh' (λv z=>by cases z);show wpAny _ X.A.in1 (tryCatch (holding [u] (call (.ref f) [u])) _ >>= _) _ _ _;refine fc (gv (fX (fw (turn _ H _ x u _ (λp hp=>fj _ (fj _ hp)) J3 ru hG hgo) (λv s2 he=>?_) λ_ _ hF=>hF.elim)));obtain⟨k,H2,J4,rk,n,rfl,hgo2⟩:=he;obtain⟨t2,rfl⟩:=rk;have nS2:=J4.pin (S,seqObj "list" #[vb,.int kb tk] c) (fm _ fo);have nI2:=J4.pin (It,oI') (fm _ (fj _ fo));show wpAny _ X.A.in1 (tryCatch (holding [u,.int n t2] (richCompare _ (.int n t2) (.int kb tk) >>= _)) _ >>= _) _ _ _
   first|(guard_hyp hy:y=true;refine fc (gv (fX (fc (iA (op:=.Gt) (gO s2 _ t2) (gO s2 _ tk) F.slot_int_gt F.entry_int_gt (F.args_int_gt_2 _ _) (gives_int_gt _ _ t2 tk) (λx=>nomatch x) ?_)))))|refine fc (gv (fX (fc (iA (op:=.Lt) (gO s2 _ t2) (gO s2 _ tk) F.slot_int_lt F.entry_int_lt (F.args_int_lt_2 _ _) (gives_int_lt _ _ t2 tk) (λx=>nomatch x) ?_))))
   refine fc (fX (gU ?_));refine fc (hJ (fh ?_));have ho:=hop n kb;dsimp only[cond]at ho;rw[<- ho];cases hb':op n kb
   rotate_left
   .have s1:=142 s2.heap S (118 λ_=>#[u,.int n t2]);obtain⟨c2,hc2⟩:∃c2,(s2.heap.update S (Obj.mapSeq λ_=>#[u,.int n t2])).get? S=some (seqObj "list" #[u,.int n t2] c2):=⟨_,hE nS2.1 λ_=>#[u,.int n t2]⟩
    simp only[hb',fL]at hgo2 ⊢;refine fc ?_;refine ik nS2.1 rfl (fc (hJ ?_))
    first|(guard_hyp hy:y=true;rw[hname])|rw[hnam2]
    have J5:Inv X ((S,seqObj "list" #[vb,.int kb tk] c)::pins) σ H2 s2:=J4.pins_of λp hp=>by
     rcases mem_cons.mp hp with rfl|hp
     .exact nS2
     .exact J4.pin p (fm _ (fj _ (fj _ hp)))
    have J6:Inv X pins σ H2 { s2 with heap:=s2.heap.update S (Obj.mapSeq λ_=>#[u,.int n t2]),toks:=s2.toks }:=J5.turnE (hS0 H2 nS2.2.1) λc u n e=>(s1.2 c n).trans e;have gI:(s2.heap.update S (118 λ_=>#[u,.int n t2])).get? It=some oI':=(s1.2 It hSI.symm).trans nI2.1;have J7:=(J6.repin (hI0 H2 nI2.2.1) gI dI).repin ((hS0 H2 nS2.2.1).more hSI.symm) hc2 (λv z=>by cases z);exact fh ⟨(by first|(guard_hyp hy:y=true;exact gG PySem.F.plain_max_loop _)|exact gG PySem.F.plain_min_loop _),ih (j+1) x u n t2 c2 oI' H2 _ J7 ⟨oI',gI,hoc,hod⟩ ru hgo2⟩
   .simp only[hb',Bool.false_eq_true,fT]at hgo2 ⊢;refine fc (hJ ?_)
    first|(guard_hyp hy:y=true;rw[hname])|rw[hnam2]
    exact fh ⟨(by first|(guard_hyp hy:y=true;exact gG PySem.F.plain_max_loop _)|exact gG PySem.F.plain_min_loop _),ih (j+1) b vb kb tk c oI' H2 _ J4 ⟨oI',nI2.1,hoc,hod⟩ rb hgo2⟩
set_option maxHeartbeats 800000 in
def VP(z:Bool){op:Int->Int->Bool}(hop:∀n m,op n m=bif z then decide (n>m)else decide (n<m))(hh:X.A.handled=none)(I:Inv X pins σ H s)(hsrc:∀pins' H' s' xs,Inv X pins' σ H' s'->src H' xs->∃its:List Value,Vals xs its/\(bif z then s'.heap.IsList l 87 else s'.heap.IsTuple l 87))
 (turn:∀(pins':List 92) (H1:Hp) (s1:Shared) (x:V) (u:Value) (Q1:VK),(∀p∈pins,p∈pins')->Inv X pins' σ H1 s1->RelV x u->G H1->tb (some x::cap) H1 Q1->wpAny 68 X.A.in1 (call (.ref f) [u]) (EP X pins' σ Q1) (λ_ _=>False) s1)
 {m:Nat} (h:Nh op src G tb cap m H Q):wpAny 68 X.A (call (.builtin (bif z then "max" else "min")) [.ref l] [(Str.ofString "key",.ref f)]) (EP X pins σ Q) E s:=by
 have hname:(toString "max"++toString ".loop":String)="max.loop":=by decide
 have hnam2:(toString "min"++toString ".loop":String)="min.loop":=by decide
 obtain⟨y,hy⟩:∃y,y=z:=⟨z,rfl⟩
 cases z<;>dsimp only[cond]at hsrc ⊢
 all_goals
  obtain⟨xs,x,hsr,hx0,hG,hgo⟩:=h;obtain⟨_,_,hls⟩:=hsrc _ _ _ _ I hsr
  first|(guard_hyp hy:y=true;refine kmk_tree PySem.F.kind_max PySem.F.plain_max PySem.F.entry_max (kmk_max_key _ _) ?_;show wpAny _ X.A.in1 (Builtin.Builtins.bindParams "max" ["key","default"] 0 ⟨[],[(Str.ofString "key",.ref f)]⟩ >>= _) _ _ s;refine fc (wpAny_of_eq (show Builtin.Builtins.bindParams "max" ["key","default"] 0 ⟨[],[(Str.ofString "key",.ref f)]⟩=pure [some (.ref f),none]from rfl) ?_))|(refine kmk_tree PySem.F.kind_min PySem.F.plain_min PySem.F.entry_min (kmk_min_key _ _) ?_;show wpAny _ X.A.in1 (Builtin.Builtins.bindParams "min" ["key","default"] 0 ⟨[],[(Str.ofString "key",.ref f)]⟩ >>= _) _ _ s;refine fc (wpAny_of_eq (show Builtin.Builtins.bindParams "min" ["key","default"] 0 ⟨[],[(Str.ofString "key",.ref f)]⟩=pure [some (.ref f),none]from rfl) ?_))
  refine fc (fh ?_)
  first|(guard_hyp hy:y=true;refine fc (ir hls ?_))|refine fc (wpAny_pyIter_tuple hls ?_)
  refine fc (i4 ?_ (gn _))
  first|(guard_hyp hy:y=true;rw[hname])|rw[hnam2]
  generalize hIt:({ cls:=.type _,data:=.fields #[.ref l,.int 0 0] }:Obj)=oIt;have hS:(s.heap.push oIt).objs.size=58+1:=size_push' ..;rw[hS];have gI:((s.heap.push oIt).push 127).get? 58=some oIt:=
   66 _ (78 _ (by subst hIt;rfl))
  have gS:((s.heap.push oIt).push 127).get? (58+1)=some 127:=by rw[<- hS];exact 78 _ rfl
  have kp:∀b o,s.heap.get? b=some o->((s.heap.push oIt).push 127).get? b=some o:=λb o e=>66 _ (66 _ e);have I1:Inv X pins σ H { s with heap:=(s.heap.push oIt).push (seqObj "list" #[] 0),toks:=s.toks }:=I.kept (t':=s.toks) kp;have hSI:58+1≠s.heap.objs.size:=ne_of_gt (Nat.lt_succ_self _);have hI0:∀H',H' 58=none->FpOk X pins H' s.heap.objs.size:=λH' hn=>I.fpOk (fg _) hn;have hS0:∀H',H' (58+1)=none->FpOk X pins H' (58+1):=λH' hn=>I.fpOk (gL _) hn;have nI:H 58=none:=I.hok.fresh (fg _);have nS:H (58+1)=none:=I.hok.fresh (gL _);generalize (s.heap.push oIt).push 127=h1 at gI gS I1 ⊢;refine fh ⟨by first|(guard_hyp hy:y=true;exact gG PySem.F.plain_max_loop _)|exact gG PySem.F.plain_min_loop _,?_⟩
  first|(guard_hyp hy:y=true;refine gF PySem.F.entry_max_loop ?_;rw[Around.under_plainId PySem.F.plain_max_loop _])|(refine gF PySem.F.entry_min_loop ?_;rw[Around.under_plainId PySem.F.plain_min_loop _])
  show wpAny _ X.A.in1 (seqItems? (.ref (58+1)) >>= _) _ _ _;refine fc (ig gS rfl ?_);show wpAny _ X.A.in1 (tryCatch (pyNext (.ref 58)) _ >>= _) _ _ _;obtain⟨its,hv,hil⟩:=hsrc _ _ _ _ I1 hsr;obtain⟨u,hu,ru⟩:=hv.get hx0
  first|(guard_hyp hy:y=true;refine fc (gv (iq (i:=0) ⟨_,gI,by subst hIt;rfl,by subst hIt;rfl⟩ hil (x:=u) (by simpa using hu) λh' hit' hs'=>?_)))|refine fc (gv (iC (i:=0) ⟨_,gI,by subst hIt;rfl,by subst hIt;rfl⟩ hil (x:=u) (by simpa using hu) λh' hit' hs'=>?_))
  obtain⟨oI',hoI',hoc,hod⟩:=id hit';have dI:∀v,oI'.data≠.cell v:=λv z=>by rw[hod]at z;cases z
  have hSh':h'.get? (58+1)=some 127:=(hs'.2 _ hSI).trans gS;have J2:Inv X pins σ H { s with heap:=h',toks:=s.toks }:=(I1.repin (hI0 H nI) gI (λv z=>by subst hIt;cases z)).turnE (hI0 H nI) λc u n e=>(hs'.2 c n).trans e;have J3:=(J2.repin (hI0 H nI) hoI' dI).repin ((hS0 H nS).more hSI.symm) hSh' (λv z=>by cases z);show wpAny _ X.A.in1 (tryCatch (holding [u] (call (.ref f) [u])) _ >>= _) _ _ _;refine fc (gv (fX (fw (turn _ H _ x u _ (λp hp=>fj _ (fj _ hp)) J3 ru hG hgo) (λv s2 he=>?_) λ_ _ hF=>hF.elim)));obtain⟨k,H2,J4,rk,n,rfl,hgo2⟩:=he;obtain⟨t2,rfl⟩:=rk;have nS2:=J4.pin (58+1,seqObj "list" #[] 0) (fm _ fo);have nI2:=J4.pin (58,oI') (fm _ (fj _ fo));have s1:=142 s2.heap (58+1) (118 λ_=>#[u,.int n t2]);obtain⟨c2,hc2⟩:∃c2,(s2.heap.update (s.heap.objs.size+1) (Obj.mapSeq λ_=>#[u,.int n t2])).get? (s.heap.objs.size+1)=some (seqObj "list" #[u,.int n t2] c2):=⟨_,hE nS2.1 λ_=>#[u,.int n t2]⟩
  show wpAny _ X.A.in1 (updateSeq (58+1) (λ_=>#[u,.int n t2]) >>= _) _ _ _;refine fc ?_;refine ik nS2.1 rfl ?_
  first|(guard_hyp hy:y=true;rw[hname])|rw[hnam2]
  have J5:Inv X ((58+1,seqObj "list" #[] 0)::pins) σ H2 s2:=J4.pins_of λp hp=>by
   rcases mem_cons.mp hp with rfl|hp
   .exact nS2
   .exact J4.pin p (fm _ (fj _ (fj _ hp)))
  have J6:Inv X pins σ H2 { s2 with heap:=s2.heap.update (s.heap.objs.size+1) (Obj.mapSeq λ_=>#[u,.int n t2]),toks:=s2.toks }:=J5.turnE (hS0 H2 nS2.2.1) λc u n e=>(s1.2 c n).trans e;have gI2:(s2.heap.update (58+1) (118 λ_=>#[u,.int n t2])).get? 58=some oI':=(s1.2 _ hSI.symm).trans nI2.1;have J7:=(J6.repin (hI0 H2 nI2.2.1) gI2 dI).repin ((hS0 H2 nS2.2.1).more hSI.symm) hc2 (λv z=>by cases z)
  first|(guard_hyp hy:y=true;exact fh ⟨gG PySem.F.plain_max_loop _,Lh true hop hh hsrc hSI 0 hI0 hS0 turn m 1 x u n t2 c2 oI' H2 _ J7 ⟨oI',gI2,hoc,hod⟩ ru hgo2⟩)|exact fh ⟨gG PySem.F.plain_min_loop _,Lh false hop hh hsrc hSI 0 hI0 hS0 turn m 1 x u n t2 c2 oI' H2 _ J7 ⟨oI',gI2,hoc,hod⟩ ru hgo2⟩
end
noncomputable def Lx(K:Frag)(P:Addr)(q:Str)(pos:Pos)(ix:List Nat)(te tb:TE):TE:=Ly (λn m=>decide (n>m)) (SqL K) P q pos ix te tb
section
def OT(z:Bool)(LA:LamAt X c P)(S:CSc X scope fr ix)(L:LSc scope prm)(hr:Room 3 X.A)(hcm:X.calm=true)(hg:Gl X (bif z then "max" else "min"))(hm:X.mg (bif z then "max" else "min")=none)
 (hbind:∀(cl:List (Str×Addr)) (pm cd ctv us:Value),bindArgs 124 ⟨[us],[]⟩=pure [(prm,us)])
 (he:PE X e te) (hb:∀(f:Addr) (cd:Value) (s:Shared) (H:Hp),PE (lCx X X.A.in1 (prm::fr) 72 scope f cd 111 s H) body tb)
 (hdef:defaultsOf params X.env=([],[]):=by rfl) (hs:starEach [e] X.env=[88]:=by rfl):
 PE X (.Call (.Name (bif z then "max" else "min") p) [e] [⟨some "key",.Lambda params body scope lpos,kpos⟩] pos) (Ly (λn m=>bif z then decide (n>m)else decide (n<m)) (bif z then SqL X.K else SqT X.K) P 72 lpos ix te tb):=by
 obtain⟨op,eo⟩:∃op:Int->Int->Bool,op=λn m=>bif z then decide (n>m)else decide (n<m):=⟨_,rfl⟩
 obtain⟨sv,es⟩:∃sv:Hp->Addr->List V->Prop,sv=bif z then SqL X.K else SqT X.K:=⟨_,rfl⟩
 obtain⟨y,hy⟩:∃y,y=z:=⟨z,rfl⟩
 have hop:∀n m,op n m=bif y then decide (n>m)else decide (n<m):=λ_ _=>by rw[eo,hy]
 have hsv:∀{pins:List 92} {σ H s a xs},Inv X pins σ H s->sv H a xs->∃its:List Value,Vals xs its/\bif y then s.heap.IsList a 87 else s.heap.IsTuple a its.toArray:=by
  intro pins σ H s a xs J hG;rw[es]at hG;rw[hy];cases z
  .obtain⟨its,rv,pl2,hz⟩:=J.tuple hG;exact⟨its,rv,pl2⟩
  .obtain⟨its,rv,pl2,hz⟩:=J.list hG;exact⟨its,rv,pl2.isList⟩
 rw[<- eo,<- es];clear eo es;cases z<;>dsimp only[cond]at hg hm ⊢
 all_goals
  intro pins s σ H Q I h;have PAe:PA X [e] (BK te BQ):=Bm he CL hs
  first|(guard_hyp hy:y=true;refine gN (DO (u:=.builtin "max") I hg hm bt_max ?_))|refine gN (DO (u:=.builtin "min") I hg hm bt_min ?_)
  have pl:(backTo pos (starEach [e] X.env)).any (·.1)=false:=by rw[hs];rfl
  refine callWith_builtin_kwB pl rfl (evalArgs_kw2 (env:=X.env) (e:=e) (rest:=[]) (kws:=[⟨some "key",.Lambda params body scope lpos,kpos⟩]) rfl (thn (PAe pos pins s σ H (λvs H1=>match vs with
   |[v]=>∃(a:Addr) (m:Nat) (ps:Array Value),v=.ref a/\H1 P=some (.tbl ps)/\Cs H1 72 lpos ps /\
    ∀H2 c,TabStep P 72 lpos H1 H2->H2 c=some (.ext (cdF c 72))->Nh op (λH xs=>sv H a xs) (λH=>H c=some (.ext (cdF c 72))) tb (ix.map λi=>(σ[i]?).join) m H2 Q
   | _=>False) I h) λus s1 hq=>?_) hs)
  obtain⟨vs,H1,I1,r,q⟩:=hq
  match vs,q with
  |[v],q=>
  obtain⟨a,m,ps,rfl,hP,hg1,go⟩:=q;obtain⟨u,rfl,ru⟩:=BJ r;cases ru;show wpAny _ _ (evalAll [(do let v <- eval (.Lambda params body scope lpos) X.env;standAt pos;pure v)]) _ _ s1;refine wpAny_evalAll_cons (fc (G9 S LA I1 hdef hP hg1 λf cd ctv H2 s2 I2 M=>fc (gM (fh (wpAny_evalAll_nil ?_)))))
  first|(guard_hyp hy:y=true;show wpAny _ _ (call (.builtin "max") [.ref a] [(Str.ofString "key",.ref f)]) _ _ s2)|show wpAny _ _ (call (.builtin "min") [.ref a] [(Str.ofString "key",.ref f)]) _ _ s2
  obtain⟨c',rfl,hc'⟩:=M.cdc;have go':=go H2 c' M.step hc';have ff:FpOk X pins H2 f:=I1.fpOk M.new M.fre;have I3:=I2.repin ff M.fn (λv z=>by cases z);subst hy;refine fw (VP _ hop (pins:=(f,_)::pins) (I3.ok.hd hcm) I3 (λpins' H' s' xs J hG=>?_) (λpins' H' s' x u Q1 sub J ru hG hq=>?_) go') (λv s' hv=>?_) λ_ _ z=>z
  .exact hsv J hG
  .have pf:=J.pin (f,_) (fm _ (sub _ fo));exact Ii (A:=X.A.in1) (f:=f) S L J rfl (hr.in1.mono 90) pf.1 (J.hok c' _ hG).1 (λus=>hbind _ _ _ _ us) (λs H=>hb f _ s H) ru hq
  .obtain⟨y,H',J,ry,qy⟩:=hv;exact⟨y,H',J.pins_of λp hp=>J.pin p (fm _ (fj _ hp)),ry,qy⟩
def Xv(LA:LamAt X c P)(S:CSc X scope fr ix)(L:LSc scope prm)(hr:Room 3 X.A)(hcm:X.calm=true)(hg:Gl X "max")(hm:X.mg "max"=none)
 (hbind:∀(cl:List (Str×Addr)) (pm cd ctv us:Value),bindArgs 124 ⟨[us],[]⟩=pure [(prm,us)])
 (he:PE X e te) (hb:∀(f:Addr) (cd:Value) (s:Shared) (H:Hp),PE (lCx X X.A.in1 (prm::fr) 72 scope f cd 111 s H) body tb)
 (hdef:defaultsOf params X.env=([],[]):=by rfl) (hs:starEach [e] X.env=[88]:=by rfl):
 PE X (.Call (.Name "max" p) [e] [⟨some "key",.Lambda params body scope lpos,kpos⟩] pos) (Lx X.K P 72 lpos ix te tb):=OT true LA S L hr hcm hg hm hbind he hb hdef hs
end
open Classical in
noncomputable def GA(mb:ME)(cap:Ls)(hd:Hd):List D->Option (List Int)
 |[]=>some []
 |d::r=>match mb (some d::cap) hd with
  |some (.im (.int n),h)=>match GA mb cap hd r with
   |some ks=>if h=hd then some (n::ks)else none
   |none=>none
  |_=>none
noncomputable def Bv(op:Int->Int->Bool):List D->List Int->D->Int->D
 |x::r,n::ns,b,kb=>if op n kb=true then Bv op r ns x n else Bv op r ns b kb
 |_,_,b,_=>b
noncomputable def HD(vw:Hd->D->Option (List D))(op:Int->Int->Bool)(mi:ME)(ix:List Nat)(mb:ME):ME:=λls hd=>(mi ls hd).bind λp=>(vw p.2 p.1).bind λds=>(GA mb (ix.map λi=>(ls[i]?).join) p.2 ds).bind λkz=>match ds,kz with
 |d::r,n::ns=>some (Bv op r ns d n,p.2)
 |_,_=>none
noncomputable def Fb(op:Int->Int->Bool)(mi:ME)(ix:List Nat)(mb:ME):ME:=HD Ac op mi ix mb
section
variable{K:Frag}
def JU{ix:List Nat}(L:RL K ρ H ls σ)(r:RD K ρ H d v):RL K ρ H (some d::ix.map λi=>(ls[i]?).join) (some v::ix.map λi=>(σ[i]?).join):=by
 refine⟨by simp,λi d' ei=>?_⟩;cases i with
 |zero=>cases ei;exact⟨v,rfl,r⟩
 |succ j=>
  have ei:(ix.map λi=>(ls[i]?).join)[j]?=some (some d'):=ei;rw[List.getElem?_map]at ei;cases qj:ix[j]? with
  |none=>rw[qj]at ei;cases ei
  |some m=>
   rw[qj]at ei;have ei:(ls[m]?).join=some d':=86 ei;have em:ls[m]?=some (some d'):=by
    cases w:ls[m]? with
    |none=>rw[w]at ei;cases ei
    |some z=>rw[w]at ei;simpa using ei
   obtain⟨v,ev,rv⟩:=L.ob m d' em;refine⟨v,?_,rv⟩;show(ix.map λi=>(σ[i]?).join)[j]?=some (some v);rw[List.getElem?_map,qj];simp[ev]
theorem Kq{op:Int->Int->Bool}{ix:List Nat}(hb:RE K tb mb){sv:Hp->Addr->List V->Prop}(ev:∀ρ H,RH K ρ H hd->RD K ρ H d1 (.ref a)->∃xs,sv H a xs/\RDs K ρ H ds xs):∀(rs:List D) (ns:List Int) (j:Nat) (bd:D) (bv:V) (kb:Int) (ρ:List Addr) (H:Hp) (Q:VK),ds.drop j=rs->j<=83 ->
 GA mb (ix.map λi=>(ls[i]?).join) hd rs=some ns->RH K ρ H hd->RL K ρ H ls σ->H c=some (.ext (cdF c q))->RD K ρ H d1 (.ref a)->RD K ρ H bd bv ->
 (∀ρ' H' v,Ext ρ H ρ' H'->RH K ρ' H' hd->RD K ρ' H' (Bv op rs ns bd kb) v->Q v H') ->
 HY op (λH xs=>sv H a xs) (λH=>H c=some (.ext (cdF c q))) tb (ix.map λi=>(σ[i]?).join) rs.length j bv kb H Q
 |[],ns,j,bd,bv,kb,ρ,H,Q,hr,hj,e,R,L,hc,r1,rb,k=>by
  obtain⟨xs,sq,rs⟩:=ev ρ H R r1;have hl:=rs.len;have hd0:=fS List.length hr;simp at hd0;refine⟨⟨xs,sq,by omega⟩,k ρ H bv .refl R ?_⟩;cases e;exact rb
 |x::r,ns,j,bd,bv,kb,ρ,H,Q,hr,hj,e,R,L,hc,r1,rb,k=>by
  obtain⟨xs,sq,rs⟩:=ev ρ H R r1;have hjl:j<ds.length:=by
   have:=fS List.length hr;simp at this;omega
  have hxj:ds[j]?=some x:=by
   rw[gX hjl]at hr;rw[List.getElem?_eq_getElem hjl,(List.cons.inj hr).1]
  have hr':ds.drop (j+1)=r:=by
   rw[gX hjl]at hr;exact(133 hr).2
  obtain⟨v,hv,rv⟩:=rs.get hxj;unfold GA at e;split at e
  .next n h e1=>
   split at e
   .next ks e2=>
    split at e
    .next eh=>
     cases e;rw[eh]at e1;refine⟨xs,v,sq,hv,hc,hb ρ _ H _ _ _ (.im (.int n)) _ R (JU L rv) e1 λρ1 H1 v1 x1 R1 rk=>?_⟩;simp only[RD,RI]at rk;subst rk;have oc:c∉ρ:=λm=>by rcases R.mut m with⟨y,w⟩|⟨y,w⟩<;>(rw[hc]at w;cases w)
     refine⟨n,rfl,?_⟩;by_cases hop:op n kb=true
     .rw[fb hop];refine Kq hb ev r ks (j+1) x v n ρ1 H1 Q hr' hjl e2 R1 (L.ext R x1) (x1.keep c _ hc oc nt) (r1.ext R x1) (rv.ext R x1) λρ2 H2 w x2 R2 r2=>k ρ2 H2 w 79 R2 ?_;rw[Bv,fb hop];exact r2
     .rw[fe hop];refine Kq hb ev r ks (j+1) bd bv kb ρ1 H1 Q hr' hjl e2 R1 (L.ext R x1) (x1.keep c _ hc oc nt) (r1.ext R x1) (rb.ext R x1) λρ2 H2 w x2 R2 r2=>k ρ2 H2 w 79 R2 ?_;rw[Bv,fe hop];exact r2
    .cases e
   .cases e
  .cases e
def OK{vw:Hd->D->Option (List D)}{sv:Hp->Addr->List V->Prop}{op:Int->Int->Bool}(hvw:∀{ρ H hd d v ds},RH K ρ H hd->RD K ρ H d v->vw hd d=some ds->∃a xs,v=.ref a/\sv H a xs/\RDs K ρ H ds xs)(hi:RE K te mi)(hb:RE K tb mb)(TI:DV K P q pos):RE K (Ly op sv P q pos ix te tb) (HD vw op mi ix mb):=by
 and_intros;obtain⟨⟨d1,h1⟩,e1,hm⟩:=fJ hm;obtain⟨ds,e2,hm⟩:=fJ hm;obtain⟨kz,e3,hm⟩:=fJ hm;dsimp only at hm e2 e3;split at hm
 .next x r n ns _=>
  cases hm;refine hi ρ σ H hd ls _ d1 _ hR hL e1 λρ1 H1 v1 x1 R1 r1=>?_;obtain⟨a,xs,rfl,sq,rs⟩:=hvw R1 r1 e2;obtain⟨p',et,_,l1,l2⟩:=id TI;obtain⟨ps,hP,hG⟩:=R1.tabs (P,q,p') et;have hG':Cs H1 q pos ps:=by
   rcases hG with g|⟨c,g1,g2⟩
   .exact .inl g
   .refine .inr ⟨c,?_,g2⟩;rw[g1];show #[rawInt p'.line,rawInt p'.col,Value.ref c]=_;rw[l1,l2]
  refine⟨a,r.length,ps,rfl,hP,hG',λH2 c step hc=>?_⟩;obtain⟨R2,x2⟩:=Fu R1 hP step TI;have x12:=x1.trans R1 x2;have L2':=hL.ext hR x12;have r2:=r1.ext R1 x2;obtain⟨a',xs,ea,sq,rs⟩:=hvw R2 r2 e2;cases ea;obtain⟨v,hv,rv⟩:=rs.get (i:=0) (d:=x) rfl;unfold GA at e3;split at e3
  .next n' h e4=>
   split at e3
   .next ks e5=>
    split at e3
    .next eh=>
     cases e3;rw[eh]at e4;refine⟨xs,v,sq,hv,hc,hb ρ1 _ H2 _ _ _ (.im (.int n)) _ R2 (JU L2' rv) e4 λρ3 H3 v3 x3 R3 rk=>?_⟩;simp only[RD,RI]at rk;subst rk;have oc:c∉ρ1:=λm=>by rcases R2.mut m with⟨y,w⟩|⟨y,w⟩<;>(rw[hc]at w;cases w)
     refine⟨n,rfl,Kq hb (λρ H R r=>by obtain⟨a2,xs,ea,sq,rs⟩:=hvw R r e2;cases ea;exact⟨xs,sq,rs⟩) r ns 1 x v n ρ3 H3 Q rfl 70 e5 R3 (L2'.ext R2 x3) (x3.keep c _ hc oc nt) (r2.ext R2 x3) (rv.ext R2 x3) λρ4 H4 w x4 R4 r4=>hQ ρ4 H4 w ((x12.trans R2 x3).trans R3 x4) R4 r4⟩
    .cases e3
   .cases e3
  .cases e3
 .cases hm
def X0(hi:RE K te mi)(hb:RE K tb mb)(TI:DV K P q pos):RE K (Lx K P q pos ix te tb) (Fb (λn m=>decide (n>m)) mi ix mb):=OK (λR r e=>RD.lst R r e) hi hb TI
end
def XZ(K:Frag){p pos kpos:Pos}{k:Nat}(LA:LamAt X c P)(TI:DV K P 72 lpos)(S:CSc X scope fr ix)(L:LSc scope prm)(hr:Room k X.A)(h3:3<=k)(hm:X.mg "max"=none)
 (he:QE K X e te mi) (hb:∀(f:Addr) (cd:Value) (s:Shared) (H:Hp),QE K (lCx X X.A.in1 (prm::fr) 72 scope f cd 111 s H) body tb mb)
 (hbind:∀(cl:List (Str×Addr)) (pm cd ctv us:Value),bindArgs 124 ⟨[us],[]⟩=pure [(prm,us)])
 (hcm:X.calm=true:=by rfl) (hg:Gl X "max":=by rfl) (hdef:defaultsOf params X.env=([],[]):=by rfl) (hs:starEach [e] X.env=[88]:=by rfl) (hK:X.K=K:=by rfl):
 QE K X (.Call (.Name "max" p) [e] [⟨some "key",.Lambda params body scope lpos,kpos⟩] pos) (Lx K P 72 lpos ix te tb) (Fb (λn m=>decide (n>m)) mi ix mb):=by
 subst hK;exact⟨Xv LA S L (hr.mono h3) hcm hg hm hbind he.p (λf cd s H=>(hb f cd s H).p) hdef hs,X0 he.r (hb 0 .none X.s₀ X.H₀).r TI⟩
def MF{vw:Hd->D->Option (List D)}{op:Int->Int->Bool}{ix:List Nat}{QE:D->Hd->Prop}(h:WE mi ls hd λd x=>∃(e:D) (es:List D) (kf:D->Int),vw x d=some (e::es)/\(∀y∈e::es,mb (some y::ix.map λi=>(ls[i]?).join) x=some (.im (.int (kf y)),x))/\QE (Bv op es (es.map kf) e (kf e)) x):WE (HD vw op mi ix mb) ls hd QE:=by
 obtain⟨d,x,e1,e,es,kf,e2,ek,q⟩:=h;have go:∀ys:List D,(∀y∈ys,mb (some y::ix.map λi=>(ls[i]?).join) x=some (.im (.int (kf y)),x))->GA mb (ix.map λi=>(ls[i]?).join) x ys=some (ys.map kf):=by
  intro ys
  induction ys with
  |nil=>intro _;rfl
  |cons y r ih=>
   intro h;unfold GA;rw[h y fo,ih λz hz=>h z (fj _ hz)];simp
 refine⟨_,x,?_,q⟩;simp only[HD,e1,bind_some,e2,go _ ek,fq]
def T4{op:Int->Int->Bool}{ix:List Nat}{QE:D->Hd->Prop}(h:WE mi ls hd λd x=>∃(e:D) (es:List D) (kf:D->Int),Ac x d=some (e::es)/\(∀y∈e::es,mb (some y::ix.map λi=>(ls[i]?).join) x=some (.im (.int (kf y)),x))/\QE (Bv op es (es.map kf) e (kf e)) x):WE (Fb op mi ix mb) ls hd QE:=MF h
theorem J8(kf:D->Int):∀(es:List D) (b:D),Bv (λn m=>decide (n>m)) es (es.map kf) b (kf b)∈b::es/\∀y∈b::es,kf y<=kf (Bv (λn m=>decide (n>m)) es (es.map kf) b (kf b))
 |[],b=>⟨fo,λy hy=>by rw[fO]at hy;subst hy;exact 102 _⟩
 |e::es,b=>by
  rw[fq,Bv];by_cases h:kf e>kf b
  .rw[fb (by simpa using h)];obtain⟨h1,h2⟩:=J8 kf es e;refine⟨fj _ h1,λy hy=>?_⟩;rcases mem_cons.mp hy with rfl|hy
   .have:=h2 e fo;omega
   .exact h2 y hy
  .rw[fe (by simpa using h)];obtain⟨h1,h2⟩:=J8 kf es b;refine⟨?_,λy hy=>?_⟩
   .rcases mem_cons.mp h1 with q|q
    .rw[q];exact fo
    .exact fj _ (fj _ q)
   .rcases mem_cons.mp hy with rfl|hy
    .exact h2 y fo
    .rcases mem_cons.mp hy with rfl|hy
     .have:=h2 b fo;omega
     .exact h2 y (fj _ hy)
noncomputable def EO(op:Int->Int->Bool)(mi:ME)(ix:List Nat)(mb:ME):ME:=HD (λ_ d=>AV d) op mi ix mb
noncomputable def JK(K:Frag)(P:Addr)(q:Str)(pos:Pos)(ix:List Nat)(te tb:TE):TE:=Ly (λn m=>decide (n<m)) (SqT K) P q pos ix te tb
section
def Ue(LA:LamAt X c P)(S:CSc X scope fr ix)(L:LSc scope prm)(hr:Room 3 X.A)(hcm:X.calm=true)(hg:Gl X "min")(hm:X.mg "min"=none)
 (hbind:∀(cl:List (Str×Addr)) (pm cd ctv us:Value),bindArgs 124 ⟨[us],[]⟩=pure [(prm,us)])
 (he:PE X e te) (hb:∀(f:Addr) (cd:Value) (s:Shared) (H:Hp),PE (lCx X X.A.in1 (prm::fr) 72 scope f cd 111 s H) body tb)
 (hdef:defaultsOf params X.env=([],[]):=by rfl) (hs:starEach [e] X.env=[88]:=by rfl):
 PE X (.Call (.Name "min" p) [e] [⟨some "key",.Lambda params body scope lpos,kpos⟩] pos) (JK X.K P 72 lpos ix te tb):=OT false LA S L hr hcm hg hm hbind he hb hdef hs
end
section
variable{K:Frag}
def U1(hi:RE K te mi)(hb:RE K tb mb)(TI:DV K P q pos):RE K (JK K P q pos ix te tb) (EO (λn m=>decide (n<m)) mi ix mb):=OK (λ_ r e=>RD.tup r e) hi hb TI
end
def UP(K:Frag){p pos kpos:Pos}{k:Nat}(LA:LamAt X c P)(TI:DV K P 72 lpos)(S:CSc X scope fr ix)(L:LSc scope prm)(hr:Room k X.A)(h3:3<=k)(hm:X.mg "min"=none)
 (he:QE K X e te mi) (hb:∀(f:Addr) (cd:Value) (s:Shared) (H:Hp),QE K (lCx X X.A.in1 (prm::fr) 72 scope f cd 111 s H) body tb mb)
 (hbind:∀(cl:List (Str×Addr)) (pm cd ctv us:Value),bindArgs 124 ⟨[us],[]⟩=pure [(prm,us)])
 (hcm:X.calm=true:=by rfl) (hg:Gl X "min":=by rfl) (hdef:defaultsOf params X.env=([],[]):=by rfl) (hs:starEach [e] X.env=[88]:=by rfl) (hK:X.K=K:=by rfl):
 QE K X (.Call (.Name "min" p) [e] [⟨some "key",.Lambda params body scope lpos,kpos⟩] pos) (JK K P 72 lpos ix te tb) (EO (λn m=>decide (n<m)) mi ix mb):=by
 subst hK;exact⟨Ue LA S L (hr.mono h3) hcm hg hm hbind he.p (λf cd s H=>(hb f cd s H).p) hdef hs,U1 he.r (hb 0 .none X.s₀ X.H₀).r TI⟩
def Qi{op:Int->Int->Bool}{ix:List Nat}{QE:D->Hd->Prop}(h:WE mi ls hd λd x=>∃(e:D) (es:List D) (kf:D->Int),AV d=some (e::es)/\(∀y∈e::es,mb (some y::ix.map λi=>(ls[i]?).join) x=some (.im (.int (kf y)),x))/\QE (Bv op es (es.map kf) e (kf e)) x):WE (EO op mi ix mb) ls hd QE:=MF h
theorem J0(kf:D->Int):∀(es:List D) (b:D),Bv (λn m=>decide (n<m)) es (es.map kf) b (kf b)∈b::es/\∀y∈b::es,kf (Bv (λn m=>decide (n<m)) es (es.map kf) b (kf b))<=kf y
 |[],b=>by simp[Bv]
 |x::r,b=>by
  rw[fq,Bv];by_cases h:decide (kf x<kf b)=true
  .rw[fb h];have h:=gq h;obtain⟨h1,h2⟩:=J0 kf r x;refine⟨fj _ h1,λy hy=>?_⟩;rcases mem_cons.mp hy with rfl|hy
   .have:=h2 x fo;omega
   .exact h2 y hy
  .rw[fe h];have h:¬ kf x<kf b:=λz=>h (fZ z);obtain⟨h1,h2⟩:=J0 kf r b;refine⟨?_,λy hy=>?_⟩
   .rcases mem_cons.mp h1 with e|e
    .rw[e];exact fo
    .exact fj _ (fj _ e)
   .rcases mem_cons.mp hy with rfl|hy
    .exact h2 y fo
    .rcases mem_cons.mp hy with rfl|hy
     .have:=h2 b fo;omega
     .exact h2 y (fj _ hy)
end L2
namespace L2
open PySem PySem.Spec PyProof.Rows
def Lj:seqSlot? (.type "list") (dunderI "add")=pure (some (.builtin "list.__iadd__")):=PySem.seqSlot_of F.slot_list_iadd.lookup (by decide +kernel)
def Ss{E:Value->Shared->Prop}{s:Shared}{Q:Value->Shared->Prop}(ha:s.TypeIs a "list")(hb:s.TypeIs b "list")
 (hc:wpAny M A (call (.builtin "list.__iadd__") [a,b]) Q E s):wpAny M A (inplaceOp .Add a b) Q E s:=by
 unfold inplaceOp;refine fX ?_;have hfi:fillsInplaceSlot (.type "list") "add" (Operator.Add==.Add)=pure false:=by
  unfold fillsInplaceSlot;show(typeLookup (.type "list") (dunderI "add") >>= λfi=>pure (fi.isSome&&!isSeqSlot fi))=pure false;rw[F.slot_list_iadd.lookup,pure_bind];have:isSeqSlot (some (.builtin "list.__iadd__"))=true:=by decide +kernel
  rw[this];rfl
 refine fc (wpAny_typeOf ha (fc (wpAny_of_eq hfi ?_)));show wpAny M A (if false=true then _ else _) Q E s;rw[fe Bool.false_ne_true];refine fc (wpAny_binaryOp1_none (nm:="add") ha hb noFill_list_add ?_);refine fc (wpAny_of_eq Lj ?_);exact fc (wpAny_rule hc)
def ipL:TIp:=λx y H Q=>∃l b xs zs,x=.ref l/\y=.ref b/\H l=some 145/\H b=some (.lst zs)/\85+zs.length<=sizeLine/\Q (.ref l) (upd H l (.lst (xs++zs)))
def YO:PIp X .Add ipL:=by
 intro pins s σ H x y v u Q I rx ry h;obtain⟨l,b,xs,zs,rfl,rfl,hH,hB,hz,q⟩:=h;cases rx;cases ry;obtain⟨z,its,n,r,hl,e⟩:=I.lstM hH;obtain⟨z2,its2,n2,r2,hl2,e2⟩:=I.lstM hB;have hsz:141+its2.toArray.size<=sizeLine:=by rw[ft,ft];omega
 have hlong:¬ (!its.toArray.isEmpty&&Builtin.List.listTooLong (141+its2.toArray.size))=true:=by
  rw[Ie hsz,Bool.and_false];exact 94
 refine Ss ⟨_,e,rfl⟩ ⟨_,e2,rfl⟩ (ic F.slot_list_iadd ⟨_,e,rfl⟩ F.entry_list_iadd (F.args_list_iadd_2 _ _)
  (AutoSeq1.list___iadd___list_list_0 l 87 n b its2.toArray n2 hlong (by rw[ft];omega) 59) ⟨e,e2,?_⟩)
 refine⟨.ref l,_,I.lset (its':=its++its2) hH e 70 (r.append r2) ?_,rfl,q⟩;rw[fV];omega
section
variable{K:Frag}
open Classical in
noncomputable def eZ:D->List D->Hd->Option 121
 |.mu n,[d],hd=>match hd[n]?,AV d with
  |some (.lst ds),some es=>if BY (83+es.length)then some (.im .non,hd.set n (.lst (ds++es)))else none
  |_,_=>none
 |_,_,_=>none
open Classical in
noncomputable def F9(i:Nat)(m:ME):MS:=λls hd=>match ls[i]? with
 |some (some (.mu n))=>(m ls hd).bind λp=>match p.1 with
  |.mu k=>match p.2[n]?,p.2[k]? with
   |some (.lst ds),some (.lst es)=>if BY (83+es.length)then some (.nx (ls.set i (some (.mu n))),p.2.set n (.lst (ds++es)))else none
   |_,_=>none
  |_=>none
 |_=>none
def Wm{i:Nat}(h:RE K t m):RS K (TZ i t ipL) (F9 i m):=by
 intro ρ σ H hd0 ls E f hd' hR hL hm hQ;unfold F9 at hm;split at hm
 .next n e0=>
  obtain⟨⟨d1,h1⟩,e1,hm⟩:=fJ hm;dsimp only at hm;split at hm
  .next k=>
   split at hm
   .next ds es q1 q2=>
    split at hm
    .next c=>
     cases hm;obtain⟨v,v1,v2⟩:=hL.ob i _ e0;refine⟨_,v1,h ρ σ H hd0 ls _ _ _ hR hL e1 λρ1 H1 w x1 R1 r1=>?_⟩;have v3:=v2.ext hR x1;simp only[RD]at v3 r1;obtain⟨a,hn,rfl⟩:=v3;obtain⟨b,hm,rfl⟩:=r1;obtain⟨xs,f1,f2⟩:=R1.lst hn q1;obtain⟨ys,g1,g2⟩:=R1.lst hm q2;have l1:=f2.len;have l2:=g2.len;obtain⟨R2,x2⟩:=R1.put hn (o:=.lst (ds++es)) (ho:=.lst (xs++ys)) ⟨_,rfl,f2.app g2⟩;refine⟨a,b,xs,ys,rfl,rfl,f1,g1,by rw[l1,l2];exact c,hQ ρ1 _ 79 R2 _ ((hL.ext hR 79).set i ?_)⟩;simp only[RD];exact⟨a,hn,rfl⟩
    .cases hm
   .cases hm
  .cases hm
 .cases hm
def XN{X:Cx}{i:Nat}{pos pos':Pos}(hN:X.N.Nodup)(hi:X.N[i]?=some x)(hx:Loc X.env.scope x)(he:QE K X e te me)(hf:X.fn x=true∨X.env.scope.names.lookup x=some .local:=by first|exact .inl rfl|exact .inr rfl|assumption):
 QS K X (.AugAssign (.Name x pos') .Add e pos) (TZ i te ipL) (F9 i me):=⟨aJ hN hi hx he.p YO hf,Wm he.r⟩
noncomputable def Cz(f g:D->D->Hd->Option 121)(ma mb mc:ME):ME:=λls hd=>(ma ls hd).bind λp=>(mb ls p.2).bind λq=>(f p.1 q.1 q.2).bind λr=>match r.1 with
 |.im (.bl k)=>if k=true then(mc ls r.2).bind λu=>g q.1 u.1 u.2 else some (.im (.bl false),r.2)
 |_=>none
def U2{f g:D->D->Hd->Option 121}(hr:RB K r f)(hr':RB K r' g)(ha:RE K ta ma)(hb:RE K tb mb)(hc:RE K tc mc):RE K (MX r r' ta tb tc) (Cz f g ma mb mc):=by
 and_intros;obtain⟨⟨d1,h1⟩,e1,hm⟩:=fJ hm;obtain⟨⟨d2,h2⟩,e2,hm⟩:=fJ hm;obtain⟨⟨d3,h3⟩,e3,hm⟩:=fJ hm;dsimp only at hm;refine ha ρ σ H hd ls _ d1 h1 hR hL e1 λρ1 H1 v1 x1 R1 r1=>?_;refine hb ρ1 σ H1 h1 ls _ d2 h2 R1 122 e2 λρ2 H2 v2 x2 R2 r2=>?_;refine hr ρ2 H2 h2 d1 d2 v1 v2 _ d3 h3 R2 (r1.ext R1 x2) r2 e3 λρ3 H3 w x3 R3 r3=>?_;have X3:=(79).trans R2 x3;split at hm
 .next k=>
  simp only[RD,RI]at r3;refine⟨k,r3,?_⟩;cases k with
  |false=>
   simp only[Bool.false_eq_true,fT]at hm ⊢;cases hm;exact hQ ρ3 H3 _ X3 R3 135
  |true=>
   simp only[fL]at hm ⊢;obtain⟨⟨d4,h4⟩,e4,hm⟩:=fJ hm;refine hc ρ3 σ H3 h3 ls _ d4 h4 R3 (hL.ext hR X3) e4 λρ4 H4 v4 x4 R4 r4=>?_;exact hr' ρ4 H4 h4 d2 d4 v2 v4 Q d hd' R4 ((r2.ext R2 x3).ext R3 x4) r4 hm λρ' H' w x5 R5 r5=>hQ ρ' H' w ((X3.trans R3 x4).trans R4 x5) R5 r5
 .cases hm
def UG{f g:D->D->Hd->Option 121}(ho:OpR X (compareOp op) r)(hr:RB K r f)(ho':OpR X (compareOp op') r')(hr':RB K r' g)(ha:QE K X a ta ma)(hb:QE K X b tb mb)(hc:QE K X c tc mc)
 (hm:lastMarks [op,op'] [b,c]=false:=by with_unfolding_all rfl):QT K X (.Compare a [op,op'] [b,c] pos) (F0 (MX r r' ta tb tc)) (A7 (Cz f g ma mb mc)):=⟨UX ho ho' ha.p hb.p hc.p hm,DG (U2 hr hr' ha.r hb.r hc.r)⟩
def T2{f g:D->D->Hd->Option 121}{Q:D->Hd->Prop}(h:WE ma ls hd λd x=>WE mb ls x λe y=>WP (f d e y) λr z=>∃k,r=.im (.bl k)/\(k=true->WE mc ls z λu w=>WP (g e u w) Q)/\(k=false->Q (.im (.bl false)) z)):WE (Cz f g ma mb mc) ls hd Q:=by
 obtain⟨d,x,e1,e,y,e2,r,z,e3,k,rfl,h1,h2⟩:=h;cases k with
 |false=>exact⟨_,_,by simp only[Cz,e1,e2,e3,bind_some,Bool.false_eq_true,fT],h2 rfl⟩
 |true=>
  obtain⟨u,w,e4,v,t,e5,q⟩:=h1 rfl;exact⟨v,t,by simp only[Cz,e1,e2,e3,bind_some,fL,e4,e5],q⟩
def O6{i n:Nat}{Q:Fl->Hd->Prop}(e:ls[i]?=some (some (.mu n)))(h:WE m ls hd λd y=>∃k ds es,d=.mu k/\y[n]?=some (.lst ds)/\y[k]?=some (.lst es)/\BY (83+es.length)/\Q (.nx (ls.set i (some (.mu n)))) (y.set n (.lst (ds++es)))):WS (F9 i m) ls hd Q:=by
 obtain⟨d,y,e1,k,ds,es,rfl,q1,q2,c,q⟩:=h;exact⟨_,_,by unfold F9;rw[e];simp only[e1,bind_some,q1,q2,c,fL],q⟩
end
end L2
namespace L2
open PySem PySem.W
noncomputable def tg1:Expr->List Str
 |.Name x _=>[x]
 |_=>[]
def tg2:Expr->List Str
 |.Tuple es _ _=>es.flatMap tg1
 |e=>tg1 e
def tgN:Expr->List Str
 |.Tuple es _ _=>es.flatMap tg2
 |e=>tg1 e
noncomputable def frN(X:Cx)(ix:List Nat):List Str:=ix.filterMap λi=>X.N[i]?
noncomputable def ndB:List Str->Bool
 |[]=>true
 |x::xs=>!xs.elem x&&ndB xs
theorem FW:∀{l:List Str},ndB l=true->l.Nodup
 |[],_=>List.nodup_nil
 |x::xs,h=>by
  obtain⟨h1,h2⟩:=Bool.and_eq_true_iff.mp h;refine nodup_cons.mpr ⟨λhm=>?_,FW h2⟩;rw[List.elem_eq_true_of_mem hm]at h1;cases h1
section
variable{K:Frag}{X:Cx}{iter:Expr}{spos:Pos}{k i:Nat}
def qgA(hN:ndB X.N=true:=by kernel_rfl)(hi:X.N[i]?=some x:=by rfl)(hx:Loc X.env.scope x:=by first|exact Or.inl rfl|exact Or.inr rfl)(hf:X.fn x=true∨X.env.scope.names.lookup x=some .local:=by first|exact .inl rfl|exact .inr rfl):QG K X (.Name x pos) (Dq i) (AC i):=XX K (FW hN) hi hx hf
def qnA(hi:QI K X tg iter wi mi)(hg:∀s H ex,QG K (cCx X (tgN tg++frN X ix) scope s H ex) tg g n)(hf:∀s H ex,QF K (cCx X (tgN tg++frN X ix) scope s H ex) ifs tf mf)(he:∀s H ex,QE K (cCx X (tgN tg++frN X ix) scope s H ex) elt te me)
 (hc:X.calm=true:=by rfl) (S:CSc X scope (frN X ix) ix:=by exact⟨rfl,by decide +kernel,rfl,rfl,rfl,by decide +kernel⟩) (hs:∀x,foldedSetIterable iter X.env x=pure x:=by intro _;rfl) (hk:(tgN tg).length=k:=by rfl):
 QN K X 146 (Fv k ix wi g tf te) (Af k ix mi n mf me):=by
 subst hk;exact XT K hc S hi hg hf he hs
def dH(hi:QI K X tg iter wi mi)(hg:∀s H ex,QG K (cCx X (tgN tg++frN X ix) scope s H ex) tg g n)(hf:∀s H ex,QF K (cCx X (tgN tg++frN X ix) scope s H ex) ifs tf mf)(he:∀s H ex,QE K (cCx X (tgN tg++frN X ix) scope s H ex) elt te me)
 (hsw:swapsWith 146 (some (.Name y py)) spos.line X.env=pure true:=by rfl) (hN:ndB X.N=true:=by kernel_rfl) (hiN:X.N[i]?=some y:=by rfl) (hy:X.env.scope.names.lookup y=some .local:=by rfl)
 (hc:X.calm=true:=by rfl) (S:CSc X scope (frN X ix) ix:=by exact⟨rfl,by decide +kernel,rfl,rfl,rfl,by decide +kernel⟩) (hs:∀x,foldedSetIterable iter X.env x=pure x:=by intro _;rfl) (hk:(tgN tg).length=k:=by rfl):
 QS K X (.Assign [.Name y py] 146 spos) (Ec (Fv k ix wi g tf te) (Dq i)) (AE i (AU (Af k ix mi n mf me))):=by
 subst hk;exact XF K (FW hN) hiN hy hc S hi hg hf he hsw hs
def qdA(hi:QI K X tg iter wi mi)(hg:∀s H ex,QG K (cCx X (tgN tg++frN X ix) scope s H ex) tg g n)(hf:∀s H ex,QF K (cCx X (tgN tg++frN X ix) scope s H ex) ifs tf mf)(hkk:∀s H ex,QE K (cCx X (tgN tg++frN X ix) scope s H ex) k' tk mk)(hv:∀s H ex,QE K (cCx X (tgN tg++frN X ix) scope s H ex) v tv mv)
 (hc:X.calm=true:=by rfl) (S:CSc X scope (frN X ix) ix:=by exact⟨rfl,by decide +kernel,rfl,rfl,rfl,by decide +kernel⟩) (hs:∀x,foldedSetIterable iter X.env x=pure x:=by intro _;rfl) (hk:(tgN tg).length=k:=by rfl):
 QE K X (.DictComp k' v [⟨tg,iter,ifs,0⟩] scope pos) (Gj (.dK []) k ix wi g tf (Ji tk tv)) (Jk (HC k ix mi n mf [] (Hj mk mv))):=by
 subst hk;exact UR K hc S hi hg hf hkk hv hs
def qsA(he:QE K X e te me)(hs:swapsWith e (some (.Name x pos')) pos.line X.env=pure false:=by rfl)(hN:ndB X.N=true:=by kernel_rfl)(hi:X.N[i]?=some x:=by rfl)(hx:Loc X.env.scope x:=by first|exact Or.inl rfl|exact Or.inr rfl)(hf:X.fn x=true∨X.env.scope.names.lookup x=some .local:=by first|exact .inl rfl|exact .inr rfl):
 QS K X (.Assign [.Name x pos'] e pos) (Ec te (Dq i)) (AE i me):=Zc K (FW hN) hi hx he hs hf
end
end L2
namespace L2
open PySem PySem.Spec PyProof.Rows PySem.W
noncomputable abbrev Tb:=Addr×Str×Nat×Nat
noncomputable def YA(ts:List Tb):Obj:={ cls:=.str "tables" 0,data:=.fields (ts.flatMap λt=>[.ref t.1,.str t.2.1 0,.int t.2.2.1 0,.int t.2.2.2 0]).toArray }
noncomputable def BM(K:Frag)(ts:List Tb):Frag:=(K.filter λp=>!(ts.map (·.1)).contains p.1)++[(mainGlobals,YA ts)]
theorem Qm:∀ts:List Tb,Lv (ts.flatMap λt=>[Value.ref t.1,.str t.2.1 0,.int t.2.2.1 0,.int t.2.2.2 0])=ts.map λt=>(t.1,t.2.1,⟨t.2.2.1,t.2.2.2,0,0⟩)
 |[]=>rfl
 |t::r=>by
  rw[List.flatMap_cons,fq,<- Qm r];rfl
def Gi(K:Frag)(ts:List Tb):Ca (BM K ts)=ts.map λt=>(t.1,t.2.1,⟨t.2.2.1,t.2.2.2,0,0⟩):=by
 unfold Ca BM;rw[List.getLast?_concat];show Lv _=_;rw[<- Qm ts]
theorem FI{L:List Addr}{a:Addr}(ha:a∉L):∀K:Frag,(K.filter λp=>!L.contains p.1).lookup a=K.lookup a
 |[]=>rfl
 |(b,o)::r=>by
   have ih:=FI ha r;rw[gK];by_cases hb:b∈L
   .have h1:(!L.contains (b,o).1)=false:=by simp[hb]
    have h2:(a==b)=false:=beq_eq_false_iff_ne.mpr λz=>ha (z ▸ hb);rw[fe (by rw[h1];decide),fP,h2,ih]
   .have h1:(!L.contains (b,o).1)=true:=by simp[hb]
    rw[fb h1,fP,fP,ih]
theorem HF{L:List Addr}{P:Addr}(hP:P∈L):∀K:Frag,(K.filter λp=>!L.contains p.1).lookup P=none
 |[]=>rfl
 |(b,o)::r=>by
   have ih:=HF hP r;rw[gK];by_cases hb:b∈L
   .rw[fe (by simp[hb])];exact ih
   .have h2:(P==b)=false:=beq_eq_false_iff_ne.mpr λz=>hb (z ▸ hP);rw[fb (by simp[hb]),fP,h2];exact ih
section
variable{K:Frag}{ts:List Tb}
def Gs{a:Addr}{o:Obj}(ha:a∉ts.map (·.1))(e:K.lookup a=some o):(BM K ts).lookup a=some o:=by
 unfold BM;rw[gW,FI ha,e];rfl
def Y9{h:Heap}(X:K.In h){g:Obj}(hg:K.lookup mainGlobals=some g)(hP:mainGlobals∉ts.map (·.1)):(BM K ts).In h:=λa o e=>by
 unfold BM at e;rw[gW]at e;by_cases ha:a∈ts.map (·.1)
 .rw[HF ha,none_or]at e;have h2:(a==mainGlobals)=false:=beq_eq_false_iff_ne.mpr λz=>hP (z ▸ ha);rw[fP,h2]at e;cases e
 .rw[FI ha]at e;cases k:K.lookup a with
  |some o'=>rw[k]at e;cases e;exact X _ _ k
  |none=>
   rw[k,none_or,fP]at e;by_cases hm:a=mainGlobals
   .subst hm;rw[hg]at k;cases k
   .rw[beq_eq_false_iff_ne.mpr hm]at e;cases e
def Y8(hM:mainGlobals∉ts.map (·.1)){P:Addr}(hP:P∈ts.map (·.1)):(BM K ts).lookup P=none:=by
 unfold BM;have h2:(P==mainGlobals)=false:=beq_eq_false_iff_ne.mpr λz=>hM (z ▸ hP);rw[gW,HF hP,none_or,fP,h2];rfl
def Fun.mark{st:Stmt}(D:Fun K x qual st f fd)(X:K.In h)(hP:∀P∈ts.map (·.1),h.get? P=some (tabObj #[])):Fun (BM K ts) x qual st f fd:=by
 have neP:∀a o,K.lookup a=some o->o≠tabObj #[]->a∉ts.map (·.1):=λa o e n z=>by
  have:=X _ _ e;rw[hP a z]at this;exact n (86 this).symm
 obtain⟨⟨oc,od,kV,doc,pm,an,cdv,ct,osl,rfl,lk,hcd⟩,kp⟩:=D;have hf:f∉ts.map (·.1):=neP f _ lk (λz=>by cases z);refine⟨⟨oc,od,kV,doc,pm,an,cdv,ct,osl,rfl,Gs hf lk,?_⟩,?_⟩
 .unfold codeIn at hcd ⊢;split at hcd
  .next c0=>
   split at hcd
   .next vs sl k=>
    have hc:c0∉ts.map (·.1):=neP c0 _ k (λz=>by
     have:vs=#[]:=by injection z with _ _ z _;injection z
     rw[this]at hcd;cases hcd)
    simp only[Gs hc k];exact hcd
   .cases hcd
  .cases hcd
 .unfold keepIn;simp only[Gs hf lk]
end
def c9{K:Frag}(hS:SqL K H a xs)(hO:∀ys,H a≠some (.lst ys)):RoL K H a xs:=by
 rcases hS with(h|h)|h
 .exact absurd h (hO xs)
 .exact .inl h
 .exact .inr h
def SA{Pg:Program}{w:World}{K:Frag}{mg mb:Str->Option Value}{k:Nat}{fa:Addr}{fd:FuncData}{ts:List Tb}{s₁:Shared}{vs:List Value}{F:List D->Hd->Option 121}
 (KX:K.In s₁.heap) (hns:s₁.heap.Ns mainGlobals mg) (hb:s₁.heap.Ns builtinsNs mb) (hbb:∀x:Str,x≠"__name__"->mb x=bootBuiltins x) (hlim:s₁.heap.NoLimit) (hg:s₁.gens=#[])
 (ha:s₁.heap.get? a=some { cls:=.type "list",data:=.seq 76 }) (hi:IntsAre vs ns) (hl:ns.length<=sizeLine) (hr:Room k callerA)
 (hT:∀P∈ts.map (·.1),∃cc,s₁.heap.TableAt cc P #[]) (hPK:∀P∈ts.map (·.1),K.lookup P=none) (htab:Ca K=ts.map λt=>(t.1,t.2.1,⟨t.2.2.1,t.2.2.2,0,0⟩))
 (Fn:∀base:Heap,K.In base->base.Ns mainGlobals mg->(∀b o,b∉ts.map (·.1)->b≠a->s₁.heap.get? b=some o->base.get? b=some o)->FnOk Pg w K mg base CX0 k fa fd [x] (spF K 1 F)) (hbind:∀(s:Shared) (u:Value),BindsTo s fd ⟨[u],[]⟩ [(x,u)])
 (hF:∃hd',F [.ro ns] []=some (.im (.bl true),hd')):
 codeAny (model Pg w) callerA (.call (.ref fa) ⟨[.ref a],[]⟩) (λr s'=>r=.ok (.ret (.bool true))/\OldK s₁.heap s'.heap/\s'.os=s₁.os/\AllBare s'.gens) s₁:=by
 have rv:=Kw hi;have lenV:=hi.length;have hP:∀P∈ts.map (·.1),s₁.heap.get? P=some (tabObj #[]):=λP h=>let ⟨cc,t⟩:=hT P h;t.2
 have haP:a∉ts.map (·.1):=λz=>by rw[hP a z]at ha;cases ha
 have core:∀H:Hp,(∀b,b∉ts.map (·.1)->H b=none∨∃o xs,H b=some (.frz o 145))->(∀P∈ts.map (·.1),H P=some (.tbl #[]))->SqL K H a (ns.map V.int)->HOk Pg w H s₁.heap->(∀b,H b≠none->b=a∨b∈ts.map (·.1))->(H a≠none->K.lookup a=none) ->
  codeAny (model Pg w) callerA (.call (.ref fa) ⟨[.ref a],[]⟩) (λr s'=>r=.ok (.ret (.bool true))/\OldK s₁.heap s'.heap/\s'.os=s₁.os/\AllBare s'.gens) s₁:=by
  intro H hO hHP hS hok hA hK;have base_of:∀{b:Addr} {o:Obj},s₁.heap.get? b=some o->H b=none->(GG s₁.heap H).get? b=some o:=λe n=>V6 e n;have noA:∀{b:Addr} {o:Obj} {es:Array DictEntry} {ep:Nat},s₁.heap.get? b=some o->o.data=.dict es ep->H b=none:=λ{b o es ep} e d=>by
   cases q:H b with
   |none=>rfl
   |some u=>
    rcases hA b (by rw[q];simp)with e'|e'
    .subst e';rw[ha]at e;cases e;have d':Data.seq 76 _=Data.dict es ep:=d;cases d'
    .rw[hP b e']at e;cases e;cases d
  have nsK:∀{b:Addr} {m:Str->Option Value},s₁.heap.Ns b m->(GG s₁.heap H).Ns b m:=λ{b m} ⟨o,es,ep,e,d,r⟩=>⟨o,es,ep,base_of e (noA e d),d,r⟩
  have hKb:K.In (GG s₁.heap H):=λb o e=>base_of (KX b o e) (by
   cases q:H b with
   |none=>rfl
   |some u=>
    rcases hA b (by rw[q];simp)with e'|e'
    .subst e';rw[hK (by rw[q];simp)]at e;cases e
    .rw[hPK b e']at e;cases e)
  have hM:Mod K mg (GG s₁.heap H):=⟨hKb,nsK hns,⟨mb,nsK hb,hbb⟩,let ⟨mc,h1,h2⟩:=hlim;⟨mc,nsK h1,h2⟩⟩
  have e0:Env0 Pg w K mg (GG s₁.heap H) callerA [] s₁ H:=⟨rfl,hM,λb o e=>Y6 e,Nat.le_of_eq (SH _ _),trivial,λb hb=>absurd (show b∈([]:List Addr)from hb) 70,hok,.of_eq hg⟩
  have hsp:spF K 1 F [.ref a] H (λv _=>v=.bl true) λ_ _ _=>False:=by
   obtain⟨hd',e⟩:=hF;refine⟨rfl,[],[],[.ro ns],.im (.bl true),hd',⟨rfl,List.nodup_nil,λy hy=>?_,λn o a h=>by simp at h⟩,?_,e,λρ' H' v _ _ r=>?_⟩
   .rw[htab]at hy;obtain⟨t,ht,rfl⟩:=mem_map.mp hy;exact⟨#[],hHP t.1 (mem_map.mpr ⟨t,ht,rfl⟩),.inl rfl⟩
   .simp only[RDs,RD];refine⟨_,_,rfl,⟨a,rfl,c9 hS λys z=>?_⟩,rfl⟩;rcases hO a haP with q|⟨o,ys,q⟩<;>(rw[q]at z;cases z)
   .simpa only[RD,RI]using r
  refine i0 ((Fn _ hKb (nsK hns) λb o n1 n2 e=>base_of e (by
   cases q:H b with
   |none=>rfl
   |some u=>
    rcases hA b (by rw[q];simp)with e'|e'
    .exact absurd e' n2
    .exact absurd e' n1)).run callerA [] s₁ H ⟨[.ref a],[]⟩ [.ref a] [.ref a] _ _ hr e0 (hbind s₁ (.ref a)) (.cons rfl .nil) hsp) λr s' h=>?_
  cases r with
  |error e=>exact h.elim
  |ok fl=>
   cases fl with
   |next=>exact False.elim h
   |brk=>exact False.elim h
   |cont=>exact False.elim h
   |ret u=>
    obtain⟨v,H',os,bare,un,hok',r',q⟩:=h;have q':v=.bl true:=q;subst q';obtain rfl:u=Value.bool true:=r';have keep:∀b o,b∉ts.map (·.1)->s₁.heap.get? b=some o->s'.heap.get? b=some o:=λb o nb e=>by
     cases q:H b with
     |none=>exact un.keep b o e q (by intro z;exact absurd (show b∈([]:List Addr)from z) 70) 70
     |some u=>
      rcases hO b nb with z|⟨ob,xs,z⟩
      .rw[q]at z;cases z
      .have z2:=un.frzs b ob _ z;obtain⟨e1,_⟩:=hok b _ z;obtain⟨e2,_⟩:=hok' b _ z2;rw[e]at e1;cases e1;exact e2
    refine⟨rfl,⟨λb o e=>?_,λb o e=>?_⟩,os,bare⟩
    .by_cases nb:b∈ts.map (·.1)
     .obtain⟨cc,tb⟩:=hT b nb;obtain⟨more,hm⟩:=un.tbls b #[] (hHP b nb);have hb':s'.heap.get? b=some (tabObj (#[]++more)):=hok' b _ hm;rw[hP b nb]at e;cases e;exact .inr (.inl ⟨tb.isCodeTable,rfl,#[],more,rfl,hb'⟩)
     .exact .inl (keep b o nb e)
    .by_cases nb:b∈ts.map (·.1)
     .obtain⟨more,hm⟩:=un.tbls b #[] (hHP b nb);exact⟨_,hok' b _ hm⟩
     .exact⟨o,keep b o nb e⟩
 cases hk:K.lookup a with
 |some o=>
  have e:=KX a o hk;rw[ha]at e;cases e;refine core (λb=>if b∈ts.map (·.1)then some (.tbl #[])else none) (λb nb=>.inl (fe nb)) (λP hp=>fb hp) (.inr ⟨_,76,_,hk,rfl,rfl,rfl,by rw[ft,lenV];exact hl,by simpa using rv⟩) (λb u z=>?_) (λb z=>?_) λz=>absurd (fe haP) z
  .by_cases hb:b∈ts.map (·.1)
   .have z':=(fb hb).symm.trans z;cases z';exact hP b hb
   .have z':=(fe hb).symm.trans z;cases z'
  .by_cases hb:b∈ts.map (·.1)
   .exact .inr hb
   .exact absurd (fe hb) z
 |none=>
  refine core (λb=>if b∈ts.map (·.1)then some (.tbl #[])else if b=a then some (.frz { cls:=.type "list",data:=.seq 76 } (.lst (ns.map V.int)))else none) (λb nb=>?_) (λP hp=>fb hp) (.inl (.inr ⟨{ cls:=.type "list",data:=.seq 76 },(fe haP).trans (fb rfl)⟩)) (λb u z=>?_) (λb z=>?_) λ_=>hk
  .rw[fe nb];by_cases hb:b=a
   .exact .inr ⟨_,_,fb hb⟩
   .exact .inl (fe hb)
  .by_cases hp:b∈ts.map (·.1)
   .have z':=(fb hp).symm.trans z;cases z';exact hP b hp
   .have z:=(fe hp).symm.trans z;by_cases hb:b=a
    .have z':=(fb hb).symm.trans z;cases z';subst hb;exact⟨ha,by rw[fN];exact hl,vs,_,rv,ha⟩
    .have z':=(fe hb).symm.trans z;cases z'
  .by_cases hp:b∈ts.map (·.1)
   .exact .inr hp
   .by_cases hb:b=a
    .exact .inl hb
    .exact absurd ((fe hp).trans (fe hb)) z
def walkL{l:OpenLaw}{n k:Nat}{XP:(Str->Option Value)->Heap->Prop}{YP:World->Heap->Prop}{d:DefRec}{K:Params->Frag}{F:List D->Hd->Option 121}(xs:List (Str×Str×Nat×Nat))
 (hn:l.most=some n) (hn2:n<=sizeLine) (hdf:d.params.defaults=[]) (hr:Room k callerA) (hdr:∀x∈xs,∃dr,(recsOf q).find? (λe=>e.name==x.1)=some dr)
 (hF:∀ns:List Int,∃hd',F [.ro ns] []=some (.im (.bl true),hd'))
 (hY:∀(w:World) (h:Heap),YP w h->(K w.params).In h)
 (G:∀(w:World) (mg:Str->Option Value) (fa:Addr) (h:Heap) (c P:Str->Addr),(K w.params).In h->h.Ns mainGlobals mg->mg d.name=some (.ref fa) ->
  (∀x∈xs,h.get? (P x.1)=some (tabObj #[])/\CodeHd h (c x.1) (P x.1)/\∃a o fd,mg x.1=some (.ref a)/\h.get? a=some o/\o.data=.func fd/\fd.code=.ref (c x.1)) ->
  (∃g,(K w.params).lookup mainGlobals=some g)/\∃fd:FuncData,(∀(s:Shared) (u:Value),BindsTo s fd ⟨[u],[]⟩ [("_law_script",u)])/\
   ∀base:Heap,(BM (K w.params) (xs.map λx=>(P x.1,x.2))).In base->base.Ns mainGlobals mg->(∀x∈xs,CodeHd base (c x.1) (P x.1))->(∀x∈xs,base.BuiltinsAt mg (P x.1))->FnOk l.prog w (BM (K w.params) (xs.map λx=>(P x.1,x.2))) mg base CX0 k fa fd ["_law_script"] (spF (BM (K w.params) (xs.map λx=>(P x.1,x.2))) 1 F)):
 PySem.W.WalkO q loose XP YP l.row.toRowW d [] (λf vs=>PySem.call f vs):=by
 refine Att.attach_call hn hdf λw s₀ s₁ mg mb fa o pm cd doc a vs ns Gr Y ho hd hcd hmg hobj hints hlen hg=>?_;have KX:=hY w _ Y;have each:∀x:Str,∃cp:Addr×Addr,(∃y∈xs,y.1=x)->(∃cc,s₁.heap.TableAt cc cp.2 #[])/\CodeHd s₁.heap cp.1 cp.2/\∃a o fd,mg x=some (.ref a)/\s₁.heap.get? a=some o/\o.data=.func fd/\fd.code=.ref cp.1:=by
  intro x;by_cases hx:∃y∈xs,y.1=x
  .obtain⟨y,hy,rfl⟩:=hx;obtain⟨dr,hdr⟩:=hdr y hy;have hnm:dr.name=y.1:=beq_iff_eq.mp (List.find?_some (p:=λe:DefRec=>e.name==y.1) hdr);obtain⟨a',o',fd',c,P,h1,h2,h3,h4,h5,h6⟩:=Gr.T.tab dr (List.mem_of_find?_eq_some hdr);rw[hnm]at h1;exact⟨(c,P),λ_=>⟨⟨_,h6⟩,CodeHd.of h5 h6,a',o',fd',h1,h2,h3,h4⟩⟩
  .exact⟨(0,0),λh=>absurd h hx⟩
 obtain⟨cp,hcp⟩:=Classical.skolem.mp each;have hcp:∀x∈xs,(∃cc,s₁.heap.TableAt cc (cp x.1).2 #[])/\CodeHd s₁.heap (cp x.1).1 (cp x.1).2/\∃a o fd,mg x.1=some (.ref a)/\s₁.heap.get? a=some o/\o.data=.func fd/\fd.code=.ref (cp x.1).1:=λx hx=>hcp x.1 ⟨x,hx,rfl⟩;have hts:∀P∈(xs.map λx=>((cp x.1).2,x.2)).map (·.1),∃x∈xs,P=(cp x.1).2:=λP hP=>by
  obtain⟨t,ht,rfl⟩:=mem_map.mp hP;obtain⟨x,hx,rfl⟩:=mem_map.mp ht;exact⟨x,hx,rfl⟩
 have hP:∀x∈xs,s₁.heap.get? (cp x.1).2=some (tabObj #[]):=λx hx=>by
  obtain⟨⟨cc,t⟩,_⟩:=hcp x hx;exact t.2
 have hmP:mainGlobals∉(xs.map λx=>((cp x.1).2,x.2)).map (·.1):=λz=>by
  obtain⟨x,hx,ez⟩:=hts _ z;obtain⟨o,es,ep,e,dd,_⟩:=Gr.T.g;rw[ez,hP x hx]at e;cases e;cases dd
 obtain⟨⟨g,hgl⟩,fd,hb,hFn⟩:=G w mg fa _ (λx=>(cp x).1) (λx=>(cp x).2) KX Gr.T.g hmg λx hx=>⟨hP x hx,(hcp x hx).2⟩
 refine SA (ts:=xs.map λx=>((cp x.1).2,x.2)) (K:=BM (K w.params) (xs.map λx=>((cp x.1).2,x.2))) (Y9 KX hgl hmP) Gr.T.g Gr.T.b Gr.T.builtins Gr.T.nolimit hg hobj hints (fu hlen hn2) hr (λP hp=>by obtain⟨x,hx,rfl⟩:=hts P hp;exact(hcp x hx).1) (λP hp=>Y8 hmP hp) (Gi _ _) (λbase kb nb keep=>hFn base kb nb (λx hx=>?_) λx hx=>?_) hb (hF ns)
 .obtain⟨oc,vs',file,tf,flags,tg,inF,text,tt,e1,r1,r2,r3,r4,r5,r6,r7,r8,hne⟩:=(hcp x hx).2.1;have hn:(cp x.1).1∉(xs.map λx=>((cp x.1).2,x.2)).map (·.1):=λz=>by
   obtain⟨y,hy,ez⟩:=hts _ z;rw[ez,hP y hy]at e1;cases e1;cases r1
  exact⟨oc,vs',file,tf,flags,tg,inF,text,tt,keep (cp x.1).1 oc hn (λz=>by rw[z,hobj]at e1;cases e1;exact absurd (show Value.type "list"=Value.type "code" from r1) 90) e1,r1,r2,r3,r4,r5,r6,r7,r8,hne⟩
 .obtain⟨bm,ob,b1,b2,b3,b4,b5,b6⟩:=Gr.T.bmain;have nP:∀y∈xs,bm≠(cp y.1).2:=λy hy z=>by rw[z,hP y hy]at b3;cases b3;cases b4
  have hn:bm∉(xs.map λx=>((cp x.1).2,x.2)).map (·.1):=λz=>by
   obtain⟨y,hy,ez⟩:=hts _ z;exact nP y hy ez
  refine⟨bm,ob,b1,b2,λz=>?_,nP x hx,keep bm ob hn (λz=>by rw[z,hobj]at b3;cases b3;exact absurd (show Value.type "list"=Value.type "module" from b4) 90) b3,b4,b5,b6⟩;obtain⟨o,es,ep,e,dd,_⟩:=Gr.T.g;rw[<- z,b3]at e;cases e;rw[b6]at dd;cases dd
noncomputable def TF(o:Obj):Option Addr:=match o.data with
 | .fields vs=>(match (vs[11]?:Option Value)with
  |some (Value.ref P)=>some P
  | _=>none)
 |_=>none
def Yt{K:Frag}(X:K.In h)(hc:CodeHd h c P)(k:K.lookup c=some o)(e:TF o=some p):P=p:=by
 obtain⟨o',vs,file,tf,flags,tg,inF,text,tt,e1,e2,e3,e4,_⟩:=hc;have:=X _ _ k;rw[e1]at this;cases this;simp only[TF,e3,e4]at e;exact 86 e
end L2
namespace L2
open PySem PySem.W PyProof.Rows
noncomputable abbrev FD:=List D->Hd->Option 121
structure EnK where
 P:Program
 w:World
 K:Frag
 mg:Str->Option Value
 base:Heap
structure Df where
 x:Str
 st:Stmt
 ps:List Str
 k:Nat
 F:FD
def Dn(E:EnK)(e:Df):Prop:=∃f fd,DefAt E.K E.mg e.x e.st f fd e.ps
def Dl(E:EnK)(e:Df)(ps:Pos):Prop:=∃f fd c P,DefAt E.K E.mg e.x e.st f fd e.ps/\LamC E.K E.mg E.base fd c P ((e.x++".<locals>.")++"<lambda>") ps
def Kn(E:EnK)(e:Df):Prop:=∃f fd,DefAt E.K E.mg e.x e.st f fd e.ps/\FnOk E.P E.w E.K E.mg E.base CX0 e.k f fd e.ps (spF E.K e.ps.length e.F)/\∀ds hd z,e.F ds hd=some z->83=e.ps.length
def okK{st:Stmt}{j k:Nat}(D:Dn E ⟨x,st,ps,k,F⟩)(S:FnScope N ps (AB st))(hF:F=mkF 112 N.length m)(hk:k=j+1)
 (h:∀(f:Addr) (cdv:Value) (A:Around) (outer:List Env) (s:Shared) (H:Hp) (Ek:XK),Room j (A.deeper (envOfC x (AB st) 58 f cdv))->∃t,QSs E.K (FN CX0 E.P E.w E.K E.mg E.base N x (AB st) f cdv A outer s H Ek).nox (BF st) t m):Kn E ⟨x,st,ps,k,F⟩:=by
 obtain⟨f,fd,D⟩:=D;subst hF;subst hk;exact⟨f,fd,D,Y5 D S (h f),OW⟩
def okL{st:Stmt}{j k:Nat}(D:Dl E ⟨x,st,ps,k,F⟩ pos)(S:FnScope N ps (AB st))(hF:F=mkF 112 N.length m)(hk:k=j+1)
 (h:∀(f c P:Addr) (fd:FuncData) (LC:LamC E.K E.mg E.base fd c P ((x++".<locals>.")++"<lambda>") pos) (cdv:Value) (A:Around) (outer:List Env) (s:Shared) (H:Hp) (Ek:XK),fd.code=cdv->Room j (A.deeper (envOfC x (AB st) 58 f cdv))->∃t,QSs E.K (FN CX0 E.P E.w E.K E.mg E.base N x (AB st) f cdv A outer s H Ek).nox (BF st) t m):Kn E ⟨x,st,ps,k,F⟩:=by
 obtain⟨f,fd,c,P,D,LC⟩:=D;subst hF;subst hk;exact⟨f,fd,D,Uq D S (h f c P fd LC),OW⟩
def ok0{st:Stmt}{k k':Nat}(D:Dn E ⟨x,st,ps,k',F⟩):Kn E ⟨x,st,ps,k,λ_ _=>none⟩:=by
 obtain⟨f,fd,D⟩:=D;refine⟨f,fd,D,⟨λvs H Q E h=>h.1,λA outer s H args us vs Q E hr e0 hb hv h=>?_⟩,λ_ _ _ h=>nomatch h⟩;obtain⟨_,_,_,_,_,_,_,_,e,_⟩:=h;cases e
section
variable{K:Frag}{X:Cx}{j k:Nat}{st:Stmt}
def qcW(w:Nat)(G:Kn ⟨X.prog,X.w,X.K,X.mg,X.base⟩ ⟨x,st,ps,j,F⟩)(hr:Room k X.A)(ha:QA K X (e::es) t m)
 (hjk:j<=k:=by first|decide|omega) (hg:Gl X x:=by rfl) (hdb:126=false:=by decide) (he:starEach (e::es) X.env=88::starEach es X.env:=by rfl) (hpl:(backTo pos 130).any (·.1)=false:=by rfl) (hK:X.K=K:=by rfl):
 QE K X (.Call (.Name x p) (e::es) [] pos) (C9 (spF K 112 F) [] E0 t) (A9 w F m):=by
 subst hK;obtain⟨f,fd,D,G,l⟩:=G;exact US _ w G hr D ha l hjk hg hdb he hpl
def qcG(G:Kn ⟨X.prog,X.w,X.K,X.mg,X.base⟩ ⟨x,st,ps,j,F⟩)(hr:Room k X.A)(ha:QA K X (e::es) t m)
 (hjk:j<=k:=by first|decide|omega) (hg:Gl X x:=by rfl) (hdb:126=false:=by decide) (he:starEach (e::es) X.env=88::starEach es X.env:=by rfl) (hpl:(backTo pos 130).any (·.1)=false:=by rfl) (hK:X.K=K:=by rfl):
 QE K X (.Call (.Name x p) (e::es) [] pos) (C9 (spF K 112 F) [] E0 t) (Ba F m):=by
 subst hK;obtain⟨f,fd,D,G,l⟩:=G;exact UV _ G hr D ha l hjk hg hdb he hpl
def qcS(G:Kn ⟨X.prog,X.w,X.K,X.mg,X.base⟩ ⟨x,st,ps,j,F⟩)(hr:Room k X.A)(ha:QA K X (e::es) t m)
 (hjk:j<=k:=by first|decide|omega) (hg:Gl X x:=by rfl) (hdb:126=false:=by decide) (he:starEach (e::es) X.env=88::starEach es X.env:=by rfl) (hpl:(backTo pos 130).any (·.1)=false:=by rfl) (hK:X.K=K:=by rfl):
 QE K X (.Call (.Name x p) (e::es) [] pos) (C9 (spF K 112 F) [] E0 t) (E4 F m):=by
 subst hK;obtain⟨f,fd,D,G,l⟩:=G;exact UU _ G hr D ha l hjk hg hdb he hpl
def qc0(w:Nat)(G:Kn ⟨X.prog,X.w,X.K,X.mg,X.base⟩ ⟨x,st,ps,j,F⟩)(hr:Room k X.A)
 (hjk:j<=k:=by first|decide|omega) (hg:Gl X x:=by rfl) (hdb:126=false:=by decide) (hK:X.K=K:=by rfl) (h0:112=0:=by rfl):QE K X (.Call (.Name x p) [] [] pos) (C9 (spF K 112 F) [] E0 BQ) (A9 w F A3):=by
 subst hK;obtain⟨f,fd,D,G,l⟩:=G;exact Rj _ w G hr D l hjk hg hdb
noncomputable def C5(a:Arguments):Str:=match a.args with
 |x::_=>x.arg
 |[]=>""
def cH(LC:LamC X.K X.mg X.base fd c P q lpos)(hcd:fd.code=cdv)(hr:Room k X.A)(hm:X.mg "max"=none)(he:QE K X e te mi)
 (hb:∀(f:Addr) (cd:Value) (s:Shared) (H:Hp),QE K (lCx X X.A.in1 (C5 params::frN X ix) 72 scope f cd 111 s H) body tb mb)
 (hcv:X.env.code=cdv:=by rfl) (hq:q=X.env.qual++"<lambda>":=by rfl) (S:CSc X scope (frN X ix) ix:=by exact⟨rfl,by decide +kernel,rfl,rfl,rfl,by decide +kernel⟩) (L:LSc scope (C5 params):=by exact⟨rfl,rfl,rfl,rfl⟩) (h3:3<=k:=by decide)
 (hbind:∀(cl:List (Str×Addr)) (pm cd ctv us:Value),bindArgs 124 ⟨[us],[]⟩=pure [(C5 params,us)]:=by exact λ_ _ _ _ _=>rfl)
 (hcm:X.calm=true:=by rfl) (hg:Gl X "max":=by rfl) (hdef:defaultsOf params X.env=([],[]):=by rfl) (hs:starEach [e] X.env=[88]:=by rfl) (hK:X.K=K:=by rfl):
 QE K X (.Call (.Name "max" p) [e] [⟨some "key",.Lambda params body scope lpos,kpos⟩] pos) (Lx K P 72 lpos ix te tb) (Fb (λn m=>decide (n>m)) mi ix mb):=by
 subst hq;exact XZ K ⟨hcv.trans (hcd.symm.trans LC.code),LC.hd,LC.bl⟩ (hK ▸ LC.ti) S L hr h3 hm he hb hbind hcm hg hdef hs hK
def Zl(LC:LamC X.K X.mg X.base fd c P q lpos)(hcd:fd.code=cdv)(hr:Room k X.A)(hm:X.mg "min"=none)(he:QE K X e te mi)
 (hb:∀(f:Addr) (cd:Value) (s:Shared) (H:Hp),QE K (lCx X X.A.in1 (C5 params::frN X ix) 72 scope f cd 111 s H) body tb mb)
 (hcv:X.env.code=cdv:=by rfl) (hq:q=X.env.qual++"<lambda>":=by rfl) (S:CSc X scope (frN X ix) ix:=by exact⟨rfl,by decide +kernel,rfl,rfl,rfl,by decide +kernel⟩) (L:LSc scope (C5 params):=by exact⟨rfl,rfl,rfl,rfl⟩) (h3:3<=k:=by decide)
 (hbind:∀(cl:List (Str×Addr)) (pm cd ctv us:Value),bindArgs 124 ⟨[us],[]⟩=pure [(C5 params,us)]:=by exact λ_ _ _ _ _=>rfl)
 (hcm:X.calm=true:=by rfl) (hg:Gl X "min":=by rfl) (hdef:defaultsOf params X.env=([],[]):=by rfl) (hs:starEach [e] X.env=[88]:=by rfl) (hK:X.K=K:=by rfl):
 QE K X (.Call (.Name "min" p) [e] [⟨some "key",.Lambda params body scope lpos,kpos⟩] pos) (JK K P 72 lpos ix te tb) (EO (λn m=>decide (n<m)) mi ix mb):=by
 subst hq;exact UP K ⟨hcv.trans (hcd.symm.trans LC.code),LC.hd,LC.bl⟩ (hK ▸ LC.ti) S L hr h3 hm he hb hbind hcm hg hdef hs hK
def Zb{src:Ls->Hd->Option (List Int×Hd)}(LC:LamC X.K X.mg X.base fd c P q lpos)(hcd:fd.code=cdv)(hr:Room k X.A)(hm:X.mg "sorted"=none)(he:QSrc K X e te src)
 (hb:∀(f:Addr) (cd:Value) (s:Shared) (H:Hp),QE K (lCx X X.A.in1.in1 (C5 params::frN X ix) 72 scope f cd 111 s H) body tb mb)
 (hcv:X.env.code=cdv:=by rfl) (hq:q=X.env.qual++"<lambda>":=by rfl) (S:CSc X scope (frN X ix) ix:=by exact⟨rfl,by decide +kernel,rfl,rfl,rfl,by decide +kernel⟩) (L:LSc scope (C5 params):=by exact⟨rfl,rfl,rfl,rfl⟩) (h3:3<=k:=by decide)
 (hbind:∀(cl:List (Str×Addr)) (pm cd ctv us:Value),bindArgs 124 ⟨[us],[]⟩=pure [(C5 params,us)]:=by exact λ_ _ _ _ _=>rfl)
 (hcm:X.calm=true:=by rfl) (hg:Gl X "sorted":=by rfl) (hdef:defaultsOf params X.env=([],[]):=by rfl) (hs:starEach [e] X.env=[88]:=by rfl) (hK:X.K=K:=by rfl):
 QN K X (.Call (.Name "sorted" p) [e] [⟨some "key",.Lambda params body scope lpos,kpos⟩] pos) (JJ K P 72 lpos ix te tb) (E3 src ix mb):=by
 subst hq;exact UL K ⟨hcv.trans (hcd.symm.trans LC.code),LC.hd,LC.bl⟩ (hK ▸ LC.ti) S L hr h3 hm he hb hbind hcm hg hdef hs hK
end
def FnAt(K:Frag)(n:Str)(s:Stmt)(f:Addr)(cd:Value):Prop:=∃oc kV dc pm ct od an sl,PySem.W.nsIn K mainGlobals n=some (some (.ref f))/\K.lookup f=some ⟨oc,od,.func (fnOf n n (C8 s) (BF s) (AB s) .none kV dc pm an cd ct),sl⟩/\codeIn K cd n=true/\keepIn K (.ref f)=true
def Fe(K:Frag)(e:Df):Prop:=∃f cd,FnAt K e.x e.st f cd
def Fla(K:Frag)(e:Df)(p:Addr):Prop:=∃f ca ob,FnAt K e.x e.st f (.ref ca)/\K.lookup ca=some ob/\TF ob=some p
noncomputable abbrev Xs:=List (Str×Str×Nat×Nat)
def HX(xs:Xs)(mg:Str->Option Value)(h:Heap)(c P:Str->Addr):Prop:=∀x∈xs,h.get? (P x.1)=some (tabObj #[])/\CodeHd h (c x.1) (P x.1)/\∃a o fd,mg x.1=some (.ref a)/\h.get? a=some o/\o.data=.func fd/\fd.code=.ref (c x.1)
noncomputable abbrev tbs(xs:Xs)(P:Str->Addr):List Tb:=xs.map λx=>(P x.1,x.2)
abbrev enM(l:OpenLaw)(w:World)(K:Frag)(xs:Xs)(P:Str->Addr)(mg:Str->Option Value)(base:Heap):EnK:=⟨l.prog,w,BM K (tbs xs P),mg,base⟩
def Bd(e:Df):Prop:=∀(kV doc pm:Value) (an:Option Addr) (cdv ct:Value) (us:List Value),us.length=e.ps.length->bindArgs (fnOf e.x e.x (C8 e.st) (BF e.st) (AB e.st) .none kV doc pm an cdv ct) ⟨us,[]⟩=pure (e.ps.zip us)
section
variable{K:Frag}{mg:Str->Option Value}{c P:Str->Addr}(X:K.In h)(G:h.Ns mainGlobals mg)(hx:HX xs mg h c P)
include hx in
theorem dO:∀P'∈(tbs xs P).map (·.1),h.get? P'=some (tabObj #[]):=λP' hp=>by
 obtain⟨t,ht,rfl⟩:=mem_map.mp hp;obtain⟨x,hxx,rfl⟩:=mem_map.mp ht;exact(hx x hxx).1
include X G hx in
theorem FnAt.def{e:Df}(H:FnAt K e.x e.st f cd)(b:Bd e):∃fd,DefAt (BM K (tbs xs P)) mg e.x e.st f fd e.ps/\fd.code=cd:=by
 obtain⟨oc,kV,dc,pm,ct,od,an,sl,a,l,cc,k⟩:=H;have F:=Fun.mark (ts:=tbs xs P) (bK (st:=e.st) l cc k) X (dO hx);exact⟨_,⟨F,PySem.W.mg_of X G a,F.binds b⟩,rfl⟩
include X G hx in
theorem Fe.dn(H:Fe K e)(b:Bd e)(l:OpenLaw)(w:World)(base:Heap):Dn (enM l w K xs P mg base) e:=by
 obtain⟨f,cd,H⟩:=H;obtain⟨fd,D,_⟩:=H.def X G hx b;exact⟨f,fd,D⟩
include X G hx in
theorem Fla.code(H:Fla K e p){i j:Nat}(hm:(e.x,q,i,j)∈xs):P e.x=p/\∃f,FnAt K e.x e.st f (.ref (c e.x)):=by
 obtain⟨f,ca,ob,⟨oc,kV,dc,pm,ct,od,an,sl,a,l,cc,k⟩,t,v⟩:=H;obtain⟨_,hh,a',ob',fd,h1,h2,h3,h4⟩:=hx _ hm;have e1:=h1.symm.trans (PySem.W.mg_of X G a);cases e1;have e2:=h2.symm.trans (X _ _ l);cases e2;cases h3;have e3:Value.ref ca=.ref (c e.x):=h4;cases e3;exact⟨Yt X hh t v,f,⟨_,_,_,_,_,_,_,_,a,l,cc,k⟩⟩
include X G hx in
theorem Fla.dl(H:Fla K e p)(b:Bd e){i j:Nat}(hm:(e.x,q,i,j)∈xs){i' j':Nat}(l:OpenLaw)(w:World)(hd:∀x∈xs,CodeHd base (c x.1) (P x.1))(bl:∀x∈xs,base.BuiltinsAt mg (P x.1))(nd:((Ca (BM K (tbs xs P))).map (·.1)).Nodup)(hq:q=(e.x++".<locals>.")++"<lambda>"):
 Dl (enM l w K xs P mg base) e ⟨i,j,i',j'⟩:=by
 obtain⟨_,f,H⟩:=H.code X G hx hm;obtain⟨fd,D,e1⟩:=H.def X G hx b;subst hq;exact⟨f,fd,_,_,D,⟨e1,hd _ hm,bl _ hm,⟨i,j,0,0⟩,by rw[Gi];exact mem_map.mpr ⟨(P e.x,_,i,j),mem_map.mpr ⟨_,hm,rfl⟩,rfl⟩,nd,rfl,rfl⟩⟩
def cV(h:(xs.map λx=>P x.1)=ps)(n:ps.Nodup):((Ca (BM K (tbs xs P))).map (·.1)).Nodup:=by
 rw[Gi,fM,fM];subst h;exact n
end
def Zs(K:Frag):Prop:=∀n∈(["list","tuple","len","range","repr","sum","min","max","abs","all","any","sorted","zip","isinstance","int","bool","str","set","enumerate","reversed","dict"]:List Str),PySem.W.nsIn K mainGlobals n=some none
def Zs.blt{K:Frag}(Z:Zs K){mg:Str->Option Value}(X:K.In h)(G:h.Ns mainGlobals mg):BltA mg:=by
 constructor<;>exact PySem.W.mg_none_of X G (Z _ 70)
def bd0{e:Df}(hl:e.ps.length=0:=by rfl)(h:∀(kV doc pm:Value) (an:Option Addr) (cdv ct:Value),bindArgs (fnOf e.x e.x (C8 e.st) (BF e.st) (AB e.st) .none kV doc pm an cdv ct) ⟨[],[]⟩=pure (e.ps.zip []):=by intros;rfl):Bd e:=λ_ _ _ _ _ _ us hu=>match us,hu.trans hl with|[],_=>h ..
def bd1{e:Df}(hl:e.ps.length=1:=by rfl)(h:∀(kV doc pm:Value) (an:Option Addr) (cdv ct:Value) a,bindArgs (fnOf e.x e.x (C8 e.st) (BF e.st) (AB e.st) .none kV doc pm an cdv ct) ⟨[a],[]⟩=pure (e.ps.zip [a]):=by intros;rfl):Bd e:=λ_ _ _ _ _ _ us hu=>match us,hu.trans hl with|[_],_=>h ..
def bd2{e:Df}(hl:e.ps.length=2:=by rfl)(h:∀(kV doc pm:Value) (an:Option Addr) (cdv ct:Value) a b,bindArgs (fnOf e.x e.x (C8 e.st) (BF e.st) (AB e.st) .none kV doc pm an cdv ct) ⟨[a,b],[]⟩=pure (e.ps.zip [a,b]):=by intros;rfl):Bd e:=λ_ _ _ _ _ _ us hu=>match us,hu.trans hl with|[_,_],_=>h ..
def bd3{e:Df}(hl:e.ps.length=3:=by rfl)(h:∀(kV doc pm:Value) (an:Option Addr) (cdv ct:Value) a b c,bindArgs (fnOf e.x e.x (C8 e.st) (BF e.st) (AB e.st) .none kV doc pm an cdv ct) ⟨[a,b,c],[]⟩=pure (e.ps.zip [a,b,c]):=by intros;rfl):Bd e:=λ_ _ _ _ _ _ us hu=>match us,hu.trans hl with|[_,_,_],_=>h ..
def bd4{e:Df}(hl:e.ps.length=4:=by rfl)(h:∀(kV doc pm:Value) (an:Option Addr) (cdv ct:Value) a b c d,bindArgs (fnOf e.x e.x (C8 e.st) (BF e.st) (AB e.st) .none kV doc pm an cdv ct) ⟨[a,b,c,d],[]⟩=pure (e.ps.zip [a,b,c,d]):=by intros;rfl):Bd e:=λ_ _ _ _ _ _ us hu=>match us,hu.trans hl with|[_,_,_,_],_=>h ..
def B1{ps:List Str}{sc:Scope}(h:(decide (sc.kind=.function)&&!sc.isCoroutine&&!sc.isGenerator&&ndB N&&(N.take 112==ps)&&(ps.all λx=>sc.names.lookup x==some .local||sc.names.lookup x==some .cell)&&sc.names.all λy=>y.2 != .free)=true):FnScope N ps sc:=by
 simp only[Bool.and_eq_true,all_eq_true,Bool.or_eq_true,beq_iff_eq,i5,Bool.not_eq_true',bne_iff_ne]at h;obtain⟨⟨⟨⟨⟨⟨h1,h2⟩,h3⟩,h4⟩,h5⟩,h6⟩,h7⟩:=h;exact⟨h1,h2,h3,FW h4,h5,h6,h7⟩
abbrev HG(l:OpenLaw)(w:World)(K:Frag)(xs:Xs)(mg:Str->Option Value)(c P:Str->Addr)(fa:Addr)(e:Df):Prop:=(∃g,K.lookup mainGlobals=some g)/\∃fd:FuncData,(∀(s:Shared) (v:Value),BindsTo s fd ⟨[v],[]⟩ [("_law_script",v)])/\∀base:Heap,(BM K (tbs xs P)).In base->base.Ns mainGlobals mg->(∀x∈xs,CodeHd base (c x.1) (P x.1))->(∀x∈xs,base.BuiltinsAt mg (P x.1))->FnOk l.prog w (BM K (tbs xs P)) mg base CX0 e.k fa fd ["_law_script"] (spF (BM K (tbs xs P)) 1 e.F)
def V7{K:Frag}{mg:Str->Option Value}{c P:Str->Addr}{e:Df}(X:K.In h)(G:h.Ns mainGlobals mg)(hfa:mg e.x=some (.ref fa))(hx:HX xs mg h c P)(H:Fe K e)(b:Bd e)(hps:e.ps=(["_law_script"]:List Str))
 (ok:∀base:Heap,(∀x∈xs,CodeHd base (c x.1) (P x.1))->(∀x∈xs,base.BuiltinsAt mg (P x.1))->Kn (enM l w K xs P mg base) e):
 HG l w K xs mg c P fa e:=by
 obtain⟨f,cd,H⟩:=H;obtain⟨fd,D,_⟩:=H.def X G hx b;obtain⟨oc,kV,dc,pm,ct,od,an,sl,a,lk,cc,k⟩:=H;have hg:∃g,K.lookup mainGlobals=some g:=by
  cases e:K.lookup mainGlobals with
  |some g=>exact⟨g,rfl⟩
  |none=>unfold PySem.W.nsIn at a;rw[e]at a;cases a
 have e1:=hfa.symm.trans D.mg;cases e1;refine⟨hg,fd,λs v=>?_,λbase _ _ hd bl=>?_⟩
 .obtain⟨⟨oc',od',kV',dc',pm',an',cd',ct',sl',rfl,_,_⟩,_⟩:=D.fn;have:=b kV' dc' pm' an' cd' ct' [v] (by rw[hps];rfl);rw[hps]at this;exact .of_eq this
 .obtain⟨f',fd',D',F',_⟩:=ok base hd bl;have e2:=D.mg.symm.trans D'.mg;cases e2;obtain⟨⟨oc',od',kV',dc',pm',an',cd',ct',sl',h1,h2,_⟩,_⟩:=D.fn;obtain⟨⟨oc2,od2,kV2,dc2,pm2,an2,cd2,ct2,sl2,h3,h4,_⟩,_⟩:=D'.fn;have e3:=h2.symm.trans h4;cases e3;rw[hps]at F';exact F'
end L2
namespace L2
open PySem PySem.Spec PyProof.Rows PySem.W
noncomputable def ltZ(p q:Int×Int):Bool:=decide (p.1<q.1∨p.1=q.1/\p.2<q.2)
def TPair(h:Heap)(a:Addr)(p:Int×Int):Prop:=∃(o:Obj) (n:Nat) (t u:Tok),h.get? a=some o/\o.cls=.type "tuple"/\o.data=.seq #[.int p.1 t,.int p.2 u] n
section
variable{E:Value->Shared->Prop}{s:Shared}
def TPair.typeIs(h:TPair s.heap a p):s.TypeIs (.ref a) "tuple":=let ⟨o,_,_,_,h1,h2,_⟩:=h;⟨o,h1,h2⟩
def TC{P:PySem.Fin->Shared->Prop}(ha:TPair s.heap a p)(hb:TPair s.heap b q)(h:P (.done (.ret (.bool (ltZ p q)))) s):
 wpAny 89 A (Builtin.«tuple.__lt__» ⟨[.ref a,.ref b],[]⟩) P E s:=by
 have hTb:=hb.typeIs;obtain⟨oa,na,t1,t2,hoa,_,hda⟩:=ha;obtain⟨ob,nb,u1,u2,hob,_,hdb⟩:=hb;show wpAny _ _ (isInstance (.ref b) (.type "tuple") >>= _) _ _ s;refine fc (wpAny_isInstance hTb isSubtype_tuple_tuple ?_);simp only[Bool.not_true,Bool.false_eq_true,fT];refine fc (wpAny_tupleItemsOf hoa hda ?_);refine fc (wpAny_tupleItemsOf hob hdb ?_);refine fc ?_;have neq:∀(x y:Int) (t u:Tok),x≠y->P (.done (.ret (.bool (ltZ p q)))) s->decide (x<y)=ltZ p q->True:=λ_ _ _ _ _ _ _=>trivial;refine wpAny_forIn_list _
  (λrest r s'=>r.1=none/\s'=s/\(rest=[(.int p.1 t1,.int q.1 u1),(.int p.2 t2,.int q.2 u2)]∨rest=[(.int p.2 t2,.int q.2 u2)]/\p.1=q.1∨rest=[]/\p.1=q.1/\p.2=q.2))
  _ ?_ ?_ _ _ ⟨rfl,rfl,.inl rfl⟩
 .rintro⟨u,v⟩ rest r s' ⟨hr,rfl,hz⟩;rcases hz with hz|⟨hz,e1⟩|⟨hz,e1⟩
  .simp only[List.cons.injEq,Prod.mk.injEq]at hz;obtain⟨⟨rfl,rfl⟩,rfl⟩:=hz;refine fc (ip ?_);by_cases hk:p.1=q.1
   .rw[beq_iff_eq.mpr hk];simp only[Bool.not_true,Bool.false_eq_true,fT];exact fh ⟨rfl,rfl,.inr (.inl ⟨by trivial,hk⟩)⟩
   .rw[beq_eq_false_iff_ne.mpr hk];simp only[Bool.not_false,fL];have hf:ltZ p q=decide (p.1<q.1):=by unfold ltZ;simp[hk]
    rw[hf]at h;refine fc (fc (wpAny_rule (fh (fc (iA (op:=.Lt) (gO _ _ _) (gO _ _ _) F.slot_int_lt F.entry_int_lt (F.args_int_lt_2 _ _) (gives_int_lt _ _ _ _) (λx=>nomatch x) ?_)))));exact fh (fh h)
  .simp only[List.cons.injEq,Prod.mk.injEq]at hz;obtain⟨⟨rfl,rfl⟩,rfl⟩:=hz;refine fc (ip ?_);by_cases hk:p.2=q.2
   .rw[beq_iff_eq.mpr hk];simp only[Bool.not_true,Bool.false_eq_true,fT];exact fh ⟨rfl,rfl,.inr (.inr ⟨by trivial,e1,hk⟩)⟩
   .rw[beq_eq_false_iff_ne.mpr hk];simp only[Bool.not_false,fL];have hf:ltZ p q=decide (p.2<q.2):=by unfold ltZ;simp[e1]
    rw[hf]at h;refine fc (fc (wpAny_rule (fh (fc (iA (op:=.Lt) (gO _ _ _) (gO _ _ _) F.slot_int_lt F.entry_int_lt (F.args_int_lt_2 _ _) (gives_int_lt _ _ _ _) (λx=>nomatch x) ?_)))));exact fh (fh h)
  .cases hz
 .rintro⟨r1,r2⟩ s' ⟨hr,rfl,hz⟩;simp only at hr;subst hr;refine fh ?_;rcases hz with hz|⟨hz,e1⟩|⟨hz,e1,e2⟩
  .cases hz
  .cases hz
  .have hf:ltZ p q=false:=by unfold ltZ;simp[e1,e2]
   rw[hf]at h;exact h
def TD{Q:Value->Shared->Prop}(hu:A.units<cLine)(ha:TPair s.heap a p)(hb:TPair s.heap b q)(h:Q (.bool (ltZ p q)) s):wpAny 89 A (richCompare .Lt (.ref a) (.ref b)) Q E s:=
 wpAny_richCompare_same_room (op:=.Lt) ha.typeIs hb.typeIs F.slot_tuple_lt
  (wpAny_call_entry F.slot_tuple_lt ha.typeIs F.entry_tuple_lt (TC ha hb ⟨_,rfl,(λe=>nomatch e),h⟩) (F.args_tuple_lt_2 _ _)) hu
end
section
variable{E:Value->Shared->Prop}
def Nd{rest:List Expr}{Q:Value->Shared->Prop}
 (h:wpAny M A (spliced (backTo pos (starEach (e::rest) env))) (λvs s₁=>(∃(o:Obj) (fd:FuncData),s₁.heap.get? a=some o/\o.data=.func fd)/\wpAny M A (call (.ref a) vs) Q E s₁) E s)
 (he:starEach (e::rest) env=(false,eval e env)::starEach rest env:=by rfl):
 wpAny M A (callWith pos (.ref a) [] (backTo pos (starEach (e::rest) env)) []) Q E s:=by
 rw[he]at h ⊢;unfold callWith;refine fc (fX (fw (Calls.evalArgs_plain (Q:=λx s₁=>(∃(o:Obj) (fd:FuncData),s₁.heap.get? a=some o/\o.data=.func fd)/\wpAny M A (call (.ref a) ([]++x.pos) x.kw) Q E s₁) (fw h (λvs s₁ h₁=>h₁) λ_ _ x=>x)) (λx s₁ h₁=>fc (gM ?_)) λ_ _ x=>x));obtain⟨⟨o,fd,g1,g2⟩,g3⟩:=h₁;have tail:∀{t:Sem Value},wpAny M A t Q E s₁->wpAny M A (t >>= λr=>holding [r] point >>= λ_=>pure r) Q E s₁:=
  λht=>fc (fw ht (λr s₂ hr=>fc (fX (wpAny_point (fh hr)))) λ_ _ x=>x)
 cases hs:((backTo pos ((false,eval e env)::starEach rest env)).any (·.1)||([]:List (Option Str×Sem Value)).any (·.1.isNone))<;>refine fc (m:=keeperOf (.ref a)) ?_<;>unfold keeperOf<;>refine fc (wpAny_load g1 ?_)<;>rw[g2]<;>refine fh ?_
 .first|refine wpAny_ite ?_|skip
  split<;>first|exact tail g3|exact tail (by unfold callMarked;exact Calls.wpAny_keep g3)
 .first|exact tail (by unfold callMarked;exact Calls.wpAny_keep g3)|exact tail g3
end
noncomputable def MY(tf:TE)(ta:TA):TE:=λσ H Q=>tf σ H λv H1=>∃f,v=.ref f/\ta σ H1 λvs H2=>∃x y,vs=[x,y]/\((∃c q,H2 f=some (.ext (fnF f c q))/\H2 c=some (.ext (cdF c q))/\Q y H2) ∨
 ∃c q cl a0 o1 o2 xs j z,x=.int j/\H2 f=some (.ext (fnG f c q cl))/\H2 c=some (.ext (cdF c q))/\Jz o1 a0/\H2 cl=some (.frz o1 FO)/\H2 a0=some (.frz o2 145)/\atI xs j=some z/\Q z H2)
section
def Ui{pos:Pos}(hr:Room 1 X.A)(hf:PE X (.Name x p) tf)(ha:PA X (e::es) ta)(he:starEach (e::es) X.env=88::starEach es X.env:=by rfl):
 PE X (.Call (.Name x p) (e::es) [] pos) (MY tf ta):=by
 intro pins s σ H Q I h;refine gN (thn (hf pins s σ H _ I h) λu s1 hu=>?_);obtain⟨v,H1,I1,rv,q⟩:=hu;obtain⟨f,rfl,q⟩:=q;cases rv;refine Nd (thn (ha pos pins s1 σ H1 _ I1 q) λus s2 hus=>?_) he;obtain⟨vs,H2,I2,r,x,y,rfl,hQ⟩:=hus;obtain⟨u0,u1,rfl,r0,r1⟩:∃u0 u1,us=[u0,u1]/\RelV x u0/\RelV y u1:=by
  cases r with
  |cons a b=>cases b with
   |cons a2 b2=>cases b2;exact⟨_,_,rfl,a,a2⟩
 rcases hQ with⟨c,q,g1,g2,hQ⟩|⟨c,q,cl,a0,o1,o2,xs,j,z,rfl,g1,g2,g3,g4,g5,g6,hQ⟩
 .obtain⟨params,scope,p1,p2,pos',pm,ctv,ho',S⟩:=(I2.hok f _ g1).1;refine⟨⟨_,_,ho',rfl⟩,?_⟩;exact fw (Td I2 rfl hr g1 g2 r0 r1 hQ) (λ_ _ z=>z) λ_ _ z=>z.elim
 .obtain⟨params,scope,p1,p2,xn,px,pp,pos',pm,ctv,ho',S⟩:=(I2.hok f _ g1).1;refine⟨⟨_,_,ho',rfl⟩,?_⟩;exact fw (VN I2 rfl hr g1 g2 g3 g4 g5 r0 r1 g6 hQ) (λ_ _ z=>z) λ_ _ z=>z.elim
end
def M8(K:Frag)(H:Hp)(k:V)(n:Int×Int):Prop:=∃a,k=.ref a/\SqT K H a [.int n.1,.int n.2]
def Fp(K:Frag)(src:Hp->List V->Prop)(G:Hp->Prop)(tb:TE)(cap:St):Nat->Nat->V->V->Int×Int->Hp->VK->Prop
 |0,j,b,_,_,H,Q=>(∃xs,src H xs/\85=j)/\Q b H
 |m+1,j,b,kv,kb,H,Q=>∃xs x,src H xs/\xs[j]?=some x/\G H/\tb (some x::cap) H λk H1=>∃n:Int×Int,M8 K H1 k n/\M8 K H1 kv kb/\(if ltZ n kb=true then Fp K src G tb cap m (j+1) x k n H1 Q else Fp K src G tb cap m (j+1) b kv kb H1 Q)
def Kr(K:Frag)(src:Hp->List V->Prop)(G:Hp->Prop)(tb:TE)(cap:St)(m:Nat)(H:Hp)(Q:VK):Prop:=
 ∃xs x,src H xs/\xs[0]?=some x/\G H/\tb (some x::cap) H λk H1=>∃n:Int×Int,M8 K H1 k n/\Fp K src G tb cap m 1 x k n H1 Q
def OU{n:Int×Int}(I:Inv X pins σ H s)(h:SqT X.K H a [.int n.1,.int n.2]):TPair s.heap a n:=by
 obtain⟨jts,rj,⟨o,ho,hc,m,hd⟩,_⟩:=I.tuple h;cases rj with
 |cons a1 b1=>cases b1 with
  |cons a2 b2=>
   cases b2;obtain⟨t,rfl⟩:=a1;obtain⟨u,rfl⟩:=a2;exact⟨o,m,t,u,ho,hc,hd⟩
section
variable{X:Cx}{It:Addr}{src:Hp->List V->Prop}{G:Hp->Prop}{E:Value->Shared->Prop}
def S5(hu:X.A.in1.units<cLine)(hh:X.A.handled=none)
 (hsrc:∀pins' H' s' xs,Inv X pins' σ H' s'->src H' xs->∃its:List Value,Vals xs its/\s'.heap.IsList l 87) (hSI:S≠It) (n0:Nat) (hI0:∀H',H' It=none->FpOk X pins H' It) (hS0:∀H',H' S=none->FpOk X pins H' S)
 (turn:∀(pins':List 92) (H1:Hp) (s1:Shared) (x:V) (u:Value) (Q1:VK),(∀p∈pins,p∈pins')->Inv X pins' σ H1 s1->RelV x u->G H1->tb (some x::cap) H1 Q1->wpAny 68 X.A.in1 (call (.ref f) [u]) (EP X pins' σ Q1) (λ_ _=>False) s1):
 ∀(m:Nat) (j:Nat) (b:V) (vb:Value) (kv:V) (vk:Value) (kb:Int×Int) (c:Nat) (oI:Obj) (H:Hp) (s:Shared),Inv X ((S,seqObj "list" #[vb,vk] c)::(It,oI)::pins) σ H s->s.heap.IsListIter It l j->RelV b vb->RelV kv vk ->
   Fp X.K src G tb cap m j b kv kb H Q->codeAny 68 X.A (.builtin "min.loop" ⟨[.ref It,.ref f,.ref S],[]⟩) (λr s'=>match r with|.ok (.ret v)=>EP X pins σ Q v s'|.ok _=>False|.error e=>E e s') s:=by
 have hname:(toString "min"++toString ".loop":String)="min.loop":=by decide
 intro m
 induction m with
 |zero=>
  intro j b vb kv vk kb c oI H s J hit rb rk0 hgo;obtain⟨⟨xs,hG,hje⟩,hQ⟩:=hgo;have nS:=J.pin (S,seqObj "list" #[vb,vk] c) (fm _ fo);have nI:=J.pin (It,oI) (fm _ (fj _ fo));refine gF PySem.F.entry_min_loop ?_;rw[Around.under_plainId PySem.F.plain_min_loop _];show wpAny _ X.A.in1 (seqItems? (.ref S) >>= _) _ _ _;refine fc (ig nS.1 rfl ?_);show wpAny _ X.A.in1 (tryCatch (pyNext (.ref It)) _ >>= _) _ _ _;obtain⟨its,hv,hil⟩:=hsrc _ _ _ _ J hG;have hlen:=hv.length;refine fc (gv (wpAny_pyNext_list_end hh hit hil 82 λh' hk'=>?_));have hS':=hk' S _ hSI nS.1;have s1:=142 h' S (118 λ_=>(#[]:Array Value));show wpAny _ X.A.in1 (updateSeq S (λ_=>#[]) >>= _) _ _ _;refine fc ?_;refine ik hS' rfl (fc (hJ (fh ?_)));have J1:Inv X ((It,oI)::pins) σ H s:=J.pins_of λp hp=>J.pin p (fm _ (fj _ hp));have J2:Inv X pins σ H { s with heap:=h',toks:=s.toks }:=J1.turnE (hI0 H nI.2.1) λc u n e=>hk' c u n e;have J3:=(J2.repin (hS0 H nS.2.1) hS' (λv z=>by cases z)).turnE (t':=s.toks) (hS0 H nS.2.1) λc u n e=>(s1.2 c n).trans e;exact⟨b,H,J3,rb,hQ⟩
 |succ m ih=>
  intro j b vb kv vk kb c oI H s J hit rb rk0 hgo;obtain⟨xs,x,hsr,hxj,hG,hgo⟩:=hgo;obtain⟨its,hv,hil⟩:=hsrc _ _ _ _ J hsr;obtain⟨u,hu9,ru⟩:=hv.get hxj;have nS:=J.pin (S,seqObj "list" #[vb,vk] c) (fm _ fo);have nI:=J.pin (It,oI) (fm _ (fj _ fo));refine gF PySem.F.entry_min_loop ?_;rw[Around.under_plainId PySem.F.plain_min_loop _];show wpAny _ X.A.in1 (seqItems? (.ref S) >>= _) _ _ _;refine fc (ig nS.1 rfl ?_);show wpAny _ X.A.in1 (tryCatch (pyNext (.ref It)) _ >>= _) _ _ _;refine fc (gv (iq hit hil (x:=u) (by simpa using hu9) λh' hit' hs'=>?_));obtain⟨oI',hoI',hoc,hod⟩:=id hit';have hSh':h'.get? S=some (seqObj "list" #[vb,vk] c):=(hs'.2 S hSI).trans nS.1;have dI:∀v,oI'.data≠.cell v:=λv z=>by rw[hod]at z;cases z
  have J1:Inv X ((It,oI)::pins) σ H s:=J.pins_of λp hp=>J.pin p (fm _ (fj _ hp));have J2:Inv X pins σ H { s with heap:=h',toks:=s.toks }:=J1.turnE (hI0 H nI.2.1) λc u n e=>(hs'.2 c n).trans e;have J3:=(J2.repin (hI0 H nI.2.1) hoI' dI).repin ((hS0 H nS.2.1).more hSI.symm) hSh' (λv z=>by cases z);show wpAny _ X.A.in1 (tryCatch (holding [u] (call (.ref f) [u])) _ >>= _) _ _ _;refine fc (gv (fX (fw (turn _ H _ x u _ (λp hp=>fj _ (fj _ hp)) J3 ru hG hgo) (λv s2 he=>?_) λ_ _ hF=>hF.elim)));obtain⟨k,H2,J4,rk,n,hn1,hn2,hgo2⟩:=he;obtain⟨ka,rfl,sqa⟩:=id hn1;obtain⟨kb',rfl,sqb⟩:=id hn2;cases rk;cases rk0;have nS2:=J4.pin (S,seqObj "list" #[vb,.ref kb'] c) (fm _ fo);have nI2:=J4.pin (It,oI') (fm _ (fj _ fo));show wpAny _ X.A.in1 (tryCatch (holding [u,.ref ka] (richCompare .Lt (.ref ka) (.ref kb') >>= _)) _ >>= _) _ _ _;refine fc (gv (fX (fc (TD hu (OU J4 sqa) (OU J4 sqb) ?_))));refine fc (fX (gU ?_));refine fc (hJ (fh ?_));by_cases hb':ltZ n kb=true
  .have s1:=142 s2.heap S (118 λ_=>#[u,.ref ka]);obtain⟨c2,hc2⟩:∃c2,(s2.heap.update S (Obj.mapSeq λ_=>#[u,.ref ka])).get? S=some (seqObj "list" #[u,.ref ka] c2):=⟨_,hE nS2.1 λ_=>#[u,.ref ka]⟩
   simp only[hb',fL]at hgo2 ⊢;refine fc ?_;refine ik nS2.1 rfl (fc (hJ ?_));rw[hname];have J5:Inv X ((S,seqObj "list" #[vb,.ref kb'] c)::pins) σ H2 s2:=J4.pins_of λp hp=>by
    rcases mem_cons.mp hp with rfl|hp
    .exact nS2
    .exact J4.pin p (fm _ (fj _ (fj _ hp)))
   have J6:Inv X pins σ H2 { s2 with heap:=s2.heap.update S (Obj.mapSeq λ_=>#[u,.ref ka]),toks:=s2.toks }:=J5.turnE (hS0 H2 nS2.2.1) λc u n e=>(s1.2 c n).trans e;have gI:(s2.heap.update S (118 λ_=>#[u,.ref ka])).get? It=some oI':=(s1.2 It hSI.symm).trans nI2.1;have J7:=(J6.repin (hI0 H2 nI2.2.1) gI dI).repin ((hS0 H2 nS2.2.1).more hSI.symm) hc2 (λv z=>by cases z);exact fh ⟨gG PySem.F.plain_min_loop _,ih (j+1) x u (.ref ka) (.ref ka) n c2 oI' H2 _ J7 ⟨oI',gI,hoc,hod⟩ ru rfl hgo2⟩
  .simp only[hb',Bool.false_eq_true,fT]at hgo2 ⊢;refine fc (hJ ?_);rw[hname];exact fh ⟨gG PySem.F.plain_min_loop _,ih (j+1) b vb (.ref kb') (.ref kb') kb c oI' H2 _ J4 ⟨oI',nI2.1,hoc,hod⟩ rb rfl hgo2⟩
def Ut(hu:X.A.in1.units<cLine)(hh:X.A.handled=none)(I:Inv X pins σ H s)(hsrc:∀pins' H' s' xs,Inv X pins' σ H' s'->src H' xs->∃its:List Value,Vals xs its/\s'.heap.IsList l 87)
 (turn:∀(pins':List 92) (H1:Hp) (s1:Shared) (x:V) (u:Value) (Q1:VK),(∀p∈pins,p∈pins')->Inv X pins' σ H1 s1->RelV x u->G H1->tb (some x::cap) H1 Q1->wpAny 68 X.A.in1 (call (.ref f) [u]) (EP X pins' σ Q1) (λ_ _=>False) s1)
 {m:Nat} (h:Kr X.K src G tb cap m H Q):wpAny 68 X.A (call (.builtin "min") [.ref l] [(Str.ofString "key",.ref f)]) (EP X pins σ Q) E s:=by
 have hname:(toString "min"++toString ".loop":String)="min.loop":=by decide
 obtain⟨xs,x,hsr,hx0,hG,hgo⟩:=h;obtain⟨_,_,hls⟩:=hsrc _ _ _ _ I hsr;refine kmk_tree PySem.F.kind_min PySem.F.plain_min PySem.F.entry_min (kmk_min_key _ _) ?_;show wpAny _ X.A.in1 (Builtin.Builtins.bindParams "min" ["key","default"] 0 ⟨[],[(Str.ofString "key",.ref f)]⟩ >>= _) _ _ s;refine fc (wpAny_of_eq (show Builtin.Builtins.bindParams "min" ["key","default"] 0 ⟨[],[(Str.ofString "key",.ref f)]⟩=pure [some (.ref f),none]from rfl) ?_);refine fc (fh ?_);refine fc (ir hls ?_);refine fc (i4 ?_ (gn _));rw[hname];have hS:(s.heap.push { cls:=.type "list_iterator",data:=.fields #[.ref l,.int 0 0] }).objs.size=58+1:=size_push' ..;rw[hS];have gI:((s.heap.push { cls:=.type "list_iterator",data:=.fields #[.ref l,.int 0 0] }).push 127).get? 58=some { cls:=.type "list_iterator",data:=.fields #[.ref l,.int 0 0] }:=
  66 _ (78 _ rfl)
 have gS:((s.heap.push { cls:=.type "list_iterator",data:=.fields #[.ref l,.int 0 0] }).push 127).get? (58+1)=some 127:=by rw[<- hS];exact 78 _ rfl
 have kp:∀b o,s.heap.get? b=some o->((s.heap.push { cls:=.type "list_iterator",data:=.fields #[.ref l,.int 0 0] }).push 127).get? b=some o:=λb o e=>66 _ (66 _ e);have I1:Inv X pins σ H { s with heap:=(s.heap.push { cls:=.type "list_iterator",data:=.fields #[.ref l,.int 0 0] }).push (seqObj "list" #[] 0),toks:=s.toks }:=I.kept (t':=s.toks) kp;have hSI:58+1≠s.heap.objs.size:=ne_of_gt (Nat.lt_succ_self _);have hI0:∀H',H' 58=none->FpOk X pins H' s.heap.objs.size:=λH' hn=>I.fpOk (fg _) hn;have hS0:∀H',H' (58+1)=none->FpOk X pins H' (58+1):=λH' hn=>I.fpOk (gL _) hn;have nI:H 58=none:=I.hok.fresh (fg _);have nS:H (58+1)=none:=I.hok.fresh (gL _);generalize (s.heap.push { cls:=.type "list_iterator",data:=.fields #[.ref l,.int 0 0] }).push 127=h1 at gI gS I1 ⊢;refine fh ⟨gG PySem.F.plain_min_loop _,?_⟩;refine gF PySem.F.entry_min_loop ?_;rw[Around.under_plainId PySem.F.plain_min_loop _];show wpAny _ X.A.in1 (seqItems? (.ref (58+1)) >>= _) _ _ _;refine fc (ig gS rfl ?_);show wpAny _ X.A.in1 (tryCatch (pyNext (.ref 58)) _ >>= _) _ _ _;obtain⟨its,hv,hil⟩:=hsrc _ _ _ _ I1 hsr;obtain⟨u,hu9,ru⟩:=hv.get hx0;refine fc (gv (iq (i:=0) ⟨_,gI,rfl,rfl⟩ hil (x:=u) (by simpa using hu9) λh' hit' hs'=>?_));obtain⟨oI',hoI',hoc,hod⟩:=id hit';have dI:∀v,oI'.data≠.cell v:=λv z=>by rw[hod]at z;cases z
 have hSh':h'.get? (58+1)=some 127:=(hs'.2 _ hSI).trans gS;have J2:Inv X pins σ H { s with heap:=h',toks:=s.toks }:=(I1.repin (hI0 H nI) gI (λv z=>by cases z)).turnE (hI0 H nI) λc u n e=>(hs'.2 c n).trans e;have J3:=(J2.repin (hI0 H nI) hoI' dI).repin ((hS0 H nS).more hSI.symm) hSh' (λv z=>by cases z);show wpAny _ X.A.in1 (tryCatch (holding [u] (call (.ref f) [u])) _ >>= _) _ _ _;refine fc (gv (fX (fw (turn _ H _ x u _ (λp hp=>fj _ (fj _ hp)) J3 ru hG hgo) (λv s2 he=>?_) λ_ _ hF=>hF.elim)));obtain⟨k,H2,J4,rk,n,hn1,hgo2⟩:=he;obtain⟨ka,rfl,sqa⟩:=id hn1;cases rk;have nS2:=J4.pin (58+1,seqObj "list" #[] 0) (fm _ fo);have nI2:=J4.pin (58,oI') (fm _ (fj _ fo));have s1:=142 s2.heap (58+1) (118 λ_=>#[u,.ref ka]);obtain⟨c2,hc2⟩:∃c2,(s2.heap.update (s.heap.objs.size+1) (Obj.mapSeq λ_=>#[u,.ref ka])).get? (s.heap.objs.size+1)=some (seqObj "list" #[u,.ref ka] c2):=⟨_,hE nS2.1 λ_=>#[u,.ref ka]⟩
 show wpAny _ X.A.in1 (updateSeq (58+1) (λ_=>#[u,.ref ka]) >>= _) _ _ _;refine fc ?_;refine ik nS2.1 rfl ?_;rw[hname];have J5:Inv X ((58+1,seqObj "list" #[] 0)::pins) σ H2 s2:=J4.pins_of λp hp=>by
  rcases mem_cons.mp hp with rfl|hp
  .exact nS2
  .exact J4.pin p (fm _ (fj _ (fj _ hp)))
 have J6:Inv X pins σ H2 { s2 with heap:=s2.heap.update (s.heap.objs.size+1) (Obj.mapSeq λ_=>#[u,.ref ka]),toks:=s2.toks }:=J5.turnE (hS0 H2 nS2.2.1) λc u n e=>(s1.2 c n).trans e;have gI2:(s2.heap.update (58+1) (118 λ_=>#[u,.ref ka])).get? 58=some oI':=(s1.2 _ hSI.symm).trans nI2.1;have J7:=(J6.repin (hI0 H2 nI2.2.1) gI2 dI).repin ((hS0 H2 nS2.2.1).more hSI.symm) hc2 (λv z=>by cases z);exact fh ⟨gG PySem.F.plain_min_loop _,S5 hu hh hsrc hSI 0 hI0 hS0 turn m 1 x u (.ref ka) (.ref ka) n c2 oI' H2 _ J7 ⟨oI',gI2,hoc,hod⟩ ru rfl hgo2⟩
end
noncomputable def P1(K:Frag)(P:Addr)(q:Str)(pos:Pos)(ix:List Nat)(te tb:TE):TE:=λσ H Q=>te σ H λv H1=>∃(a:Addr) (m:Nat) (ps:Array Value),v=.ref a/\H1 P=some (.tbl ps)/\Cs H1 q pos ps /\
 ∀H2 c,TabStep P q pos H1 H2->H2 c=some (.ext (cdF c q))->Kr K (λH xs=>SqL K H a xs) (λH=>H c=some (.ext (cdF c q))) tb (ix.map λi=>(σ[i]?).join) m H2 Q
section
def Xu(LA:LamAt X c P)(S:CSc X scope fr ix)(L:LSc scope prm)(hr:Room 3 X.A)(hcm:X.calm=true)(hg:Gl X "min")(hm:X.mg "min"=none)
 (hbind:∀(cl:List (Str×Addr)) (pm cd ctv us:Value),bindArgs 124 ⟨[us],[]⟩=pure [(prm,us)])
 (he:PE X e te) (hb:∀(f:Addr) (cd:Value) (s:Shared) (H:Hp),PE (lCx X X.A.in1 (prm::fr) 72 scope f cd 111 s H) body tb)
 (hdef:defaultsOf params X.env=([],[]):=by rfl) (hs:starEach [e] X.env=[88]:=by rfl):
 PE X (.Call (.Name "min" p) [e] [⟨some "key",.Lambda params body scope lpos,kpos⟩] pos) (P1 X.K P 72 lpos ix te tb):=by
 intro pins s σ H Q I h;have PAe:PA X [e] (BK te BQ):=Bm he CL hs;refine gN (DO (u:=.builtin "min") I hg hm bt_min ?_);have pl:(backTo pos (starEach [e] X.env)).any (·.1)=false:=by rw[hs];rfl
 refine callWith_builtin_kwB pl rfl (evalArgs_kw2 (env:=X.env) (e:=e) (rest:=[]) (kws:=[⟨some "key",.Lambda params body scope lpos,kpos⟩]) rfl (thn (PAe pos pins s σ H (λvs H1=>match vs with
  |[v]=>∃(a:Addr) (m:Nat) (ps:Array Value),v=.ref a/\H1 P=some (.tbl ps)/\Cs H1 72 lpos ps /\
   ∀H2 c,TabStep P 72 lpos H1 H2->H2 c=some (.ext (cdF c 72))->Kr X.K (λH xs=>SqL X.K H a xs) (λH=>H c=some (.ext (cdF c 72))) tb (ix.map λi=>(σ[i]?).join) m H2 Q
  | _=>False) I h) λus s1 hq=>?_) hs)
 obtain⟨vs,H1,I1,r,q⟩:=hq
 match vs,q with
 |[v],q=>
 obtain⟨a,m,ps,rfl,hP,hg1,go⟩:=q;obtain⟨u,rfl,ru⟩:=BJ r;cases ru;show wpAny _ _ (evalAll [(do let v <- eval (.Lambda params body scope lpos) X.env;standAt pos;pure v)]) _ _ s1;refine wpAny_evalAll_cons (fc (G9 S LA I1 hdef hP hg1 λf cd ctv H2 s2 I2 M=>fc (gM (fh (wpAny_evalAll_nil ?_)))));show wpAny _ _ (call (.builtin "min") [.ref a] [(Str.ofString "key",.ref f)]) _ _ s2;obtain⟨c',rfl,hc'⟩:=M.cdc;have go':=go H2 c' M.step hc';have ff:FpOk X pins H2 f:=I1.fpOk M.new M.fre;have I3:=I2.repin ff M.fn (λv z=>by cases z);refine fw (Ut hr.in1.units0 (pins:=(f,_)::pins) (I3.ok.hd hcm) I3 (λpins' H' s' xs J hG=>?_) (λpins' H' s' x u Q1 sub J ru hG hq=>?_) go') (λv s' hv=>?_) λ_ _ z=>z
 .obtain⟨its,rv,pl2,hz⟩:=J.list hG;exact⟨its,rv,pl2.isList⟩
 .have pf:=J.pin (f,_) (fm _ (sub _ fo));exact Ii (A:=X.A.in1) (f:=f) S L J rfl (hr.in1.mono 90) pf.1 (J.hok c' _ hG).1 (λus=>hbind _ _ _ _ us) (λs H=>hb f _ s H) ru hq
 .obtain⟨y,H',J,ry,qy⟩:=hv;exact⟨y,H',J.pins_of λp hp=>J.pin p (fm _ (fj _ hp)),ry,qy⟩
end
noncomputable def DN(mf:ME)(ma:MA):ME:=λls hd=>(mf ls hd).bind λp=>match p.1 with
 |.fv 0 []=>(ma ls p.2).bind λr=>match r.1 with
  |[_,e]=>some (e,r.2)
  |_=>none
 |.fv 1 ds=>(ma ls p.2).bind λr=>match r.1 with
  |[.im (.int j),_]=>(atI ds j).map (·,r.2)
  |_=>none
 |_=>none
def U3{K:Frag}(hf:RE K tf mf)(ha:RA K ta ma):RE K (MY tf ta) (DN mf ma):=by
 and_intros;obtain⟨⟨d1,h1⟩,e1,hm⟩:=fJ hm;dsimp only at hm;split at hm
 .obtain⟨⟨ds,h2⟩,e2,hm⟩:=fJ hm;dsimp only at hm;split at hm
  .next d0 e=>
   cases hm;refine hf ρ σ H hd ls _ _ _ hR hL e1 λρ1 H1 v1 x1 R1 r1=>?_;simp only[RD,RDs]at r1;obtain⟨f,xs,rfl,⟨_,_,c,q,g1,g2⟩|⟨z,_⟩,_⟩:=r1
   .refine⟨f,rfl,ha ρ1 σ H1 _ ls _ _ _ R1 122 e2 λρ2 H2 vs x2 R2 r2=>?_⟩;simp only[RDs]at r2;obtain⟨x,r,rfl,q1,y,r',rfl,q2,rfl⟩:=r2;exact⟨x,y,rfl,.inl ⟨c,q,(x2.grow R1).keep _ _ trivial g1,(x2.grow R1).keep _ _ trivial g2,hQ ρ2 H2 y 79 R2 q2⟩⟩
   .cases z
  .cases hm
 .next es=>
  obtain⟨⟨ds,h2⟩,e2,hm⟩:=fJ hm;dsimp only at hm;split at hm
  .next l0 j d0=>
   obtain⟨w,ew,e3⟩:=fK hm;cases e3;refine hf ρ σ H hd ls _ _ _ hR hL e1 λρ1 H1 v1 x1 R1 r1=>?_;simp only[RD]at r1;obtain⟨f,xs,rfl,⟨z,_⟩|⟨_,c,q,cl,a0,o1,o2,g1,g2,g3,g4,g5⟩,rs⟩:=r1
   .cases z
   .refine⟨f,rfl,ha ρ1 σ H1 _ ls _ _ _ R1 122 e2 λρ2 H2 vs x2 R2 r2=>?_⟩;simp only[RDs]at r2;obtain⟨x,r,rfl,q1,y,r',rfl,q2,rfl⟩:=r2;simp only[RD,RI]at q1;subst q1;have rs2:=rs.ext R1 x2;have gr:=x2.grow R1;obtain⟨n,n1,n2⟩:=Ks rs2.len ew;obtain⟨z,ez,rz⟩:=rs2.get n1;exact⟨_,y,rfl,.inr ⟨c,q,cl,a0,o1,o2,xs,j,z,rfl,gr.keep _ _ trivial g1,gr.keep _ _ trivial g2,g3,gr.keep _ _ trivial g4,gr.keep _ _ trivial g5,n2 z ez,hQ ρ2 H2 z 79 R2 rz⟩⟩
  .cases hm
 .cases hm
def Ia{K:Frag}{a b:Int}(h:RD K ρ H (.im (.tup [.int a,.int b])) k):M8 K H k (a,b):=by
 simp only[RD,RI,RIs]at h;obtain⟨p,xs,rfl,sq,x,r,rfl,rfl,y,r',rfl,rfl,rfl⟩:=h;exact⟨p,rfl,sq⟩
open Classical in
noncomputable def GB(mb:ME)(cap:Ls)(hd:Hd):List D->Option (List 115)
 |[]=>some []
 |d::r=>match mb (some d::cap) hd with
  |some (.im (.tup [.int n,.int n2]),h)=>match GB mb cap hd r with
   |some ks=>if h=hd then some ((n,n2)::ks)else none
   |none=>none
  |_=>none
noncomputable def Ck:List D->List 115->D->Int×Int->D
 |x::r,n::ns,b,kb=>if ltZ n kb=true then Ck r ns x n else Ck r ns b kb
 |_,_,b,_=>b
noncomputable def Eo(mi:ME)(ix:List Nat)(mb:ME):ME:=λls hd=>(mi ls hd).bind λp=>(Ac p.2 p.1).bind λds=>(GB mb (ix.map λi=>(ls[i]?).join) p.2 ds).bind λkz=>match ds,kz with
 |d::r,n::ns=>some (Ck r ns d n,p.2)
 |_,_=>none
section
variable{K:Frag}
theorem J9{ix:List Nat}(hb:RE K tb mb)(ev:Ac hd d1=some ds):∀(rs:List D) (ns:List 115) (j:Nat) (bd:D) (bv kv:V) (kb:Int×Int) (ρ:List Addr) (H:Hp) (Q:VK),ds.drop j=rs->j<=83 ->
 GB mb (ix.map λi=>(ls[i]?).join) hd rs=some ns->RH K ρ H hd->RL K ρ H ls σ->H c=some (.ext (cdF c q))->RD K ρ H d1 (.ref a)->RD K ρ H bd bv->RD K ρ H (.im (.tup [.int kb.1,.int kb.2])) kv ->
 (∀ρ' H' v,Ext ρ H ρ' H'->RH K ρ' H' hd->RD K ρ' H' (Ck rs ns bd kb) v->Q v H') ->
 Fp K (λH xs=>SqL K H a xs) (λH=>H c=some (.ext (cdF c q))) tb (ix.map λi=>(σ[i]?).join) rs.length j bv kv kb H Q
 |[],ns,j,bd,bv,kv,kb,ρ,H,Q,hr,hj,e,R,L,hc,r1,rb,rkb,k=>by
  obtain⟨a',xs,ea,sq,rs⟩:=RD.lst R r1 ev;cases ea;have hl:=rs.len;have hd0:=fS List.length hr;simp at hd0;refine⟨⟨xs,sq,by omega⟩,k ρ H bv .refl R ?_⟩;cases e;exact rb
 |x::r,ns,j,bd,bv,kv,kb,ρ,H,Q,hr,hj,e,R,L,hc,r1,rb,rkb,k=>by
  obtain⟨a',xs,ea,sq,rs⟩:=RD.lst R r1 ev;cases ea;have hjl:j<ds.length:=by
   have:=fS List.length hr;simp at this;omega
  have hxj:ds[j]?=some x:=by
   rw[gX hjl]at hr;rw[List.getElem?_eq_getElem hjl,(List.cons.inj hr).1]
  have hr':ds.drop (j+1)=r:=by
   rw[gX hjl]at hr;exact(133 hr).2
  obtain⟨v,hv,rv⟩:=rs.get hxj;unfold GB at e;split at e
  .next n n2 h e1=>
   split at e
   .next ks e2=>
    split at e
    .next eh=>
     cases e;rw[eh]at e1;refine⟨xs,v,sq,hv,hc,hb ρ _ H _ _ _ (.im (.tup [.int n,.int n2])) _ R (JU L rv) e1 λρ1 H1 v1 x1 R1 rk=>?_⟩;have oc:c∉ρ:=λm=>by rcases R.mut m with⟨y,w⟩|⟨y,w⟩<;>(rw[hc]at w;cases w)
     have rkb1:=rkb.ext R x1;refine⟨(n,n2),Ia rk,Ia rkb1,?_⟩;by_cases hop:ltZ (n,n2) kb=true
     .rw[fb hop];refine J9 hb ev r ks (j+1) x v v1 (n,n2) ρ1 H1 Q hr' hjl e2 R1 (L.ext R x1) (x1.keep c _ hc oc nt) (r1.ext R x1) (rv.ext R x1) rk λρ2 H2 w x2 R2 r2=>k ρ2 H2 w 79 R2 ?_;rw[Ck,fb hop];exact r2
     .rw[fe hop];refine J9 hb ev r ks (j+1) bd bv kv kb ρ1 H1 Q hr' hjl e2 R1 (L.ext R x1) (x1.keep c _ hc oc nt) (r1.ext R x1) (rb.ext R x1) rkb1 λρ2 H2 w x2 R2 r2=>k ρ2 H2 w 79 R2 ?_;rw[Ck,fe hop];exact r2
    .cases e
   .cases e
  .cases e
def Wz(hi:RE K te mi)(hb:RE K tb mb)(TI:DV K P q pos):RE K (P1 K P q pos ix te tb) (Eo mi ix mb):=by
 and_intros;obtain⟨⟨d1,h1⟩,e1,hm⟩:=fJ hm;obtain⟨ds,e2,hm⟩:=fJ hm;obtain⟨kz,e3,hm⟩:=fJ hm;dsimp only at hm e2 e3;split at hm
 .next x r n ns _=>
  cases hm;refine hi ρ σ H hd ls _ d1 _ hR hL e1 λρ1 H1 v1 x1 R1 r1=>?_;obtain⟨a,xs,rfl,sq,rs⟩:=RD.lst R1 r1 e2;obtain⟨p',et,_,l1,l2⟩:=id TI;obtain⟨ps,hP,hG⟩:=R1.tabs (P,q,p') et;have hG':Cs H1 q pos ps:=by
   rcases hG with g|⟨c,g1,g2⟩
   .exact .inl g
   .refine .inr ⟨c,?_,g2⟩;rw[g1];show #[rawInt p'.line,rawInt p'.col,Value.ref c]=_;rw[l1,l2]
  refine⟨a,r.length,ps,rfl,hP,hG',λH2 c step hc=>?_⟩;obtain⟨R2,x2⟩:=Fu R1 hP step TI;have x12:=x1.trans R1 x2;have L2':=hL.ext hR x12;have r2:=r1.ext R1 x2;obtain⟨a',xs,ea,sq,rs⟩:=RD.lst R2 r2 e2;cases ea;obtain⟨v,hv,rv⟩:=rs.get (i:=0) (d:=x) rfl;unfold GB at e3;split at e3
  .next n' n2 h e4=>
   split at e3
   .next ks e5=>
    split at e3
    .next eh=>
     cases e3;rw[eh]at e4;refine⟨xs,v,sq,hv,hc,hb ρ1 _ H2 _ _ _ (.im (.tup [.int _,.int _])) _ R2 (JU L2' rv) e4 λρ3 H3 v3 x3 R3 rk=>?_⟩;have oc:c∉ρ1:=λm=>by rcases R2.mut m with⟨y,w⟩|⟨y,w⟩<;>(rw[hc]at w;cases w)
     refine⟨_,Ia rk,J9 hb e2 r ns 1 x v v3 _ ρ3 H3 Q rfl 70 e5 R3 (L2'.ext R2 x3) (x3.keep c _ hc oc nt) (r2.ext R2 x3) (rv.ext R2 x3) rk λρ4 H4 w x4 R4 r4=>hQ ρ4 H4 w ((x12.trans R2 x3).trans R3 x4) R4 r4⟩
    .cases e3
   .cases e3
  .cases e3
 .cases hm
end
def UT(K:Frag){X:Cx}{pos:Pos}{k:Nat}(hr:Room k X.A)(hf:QE K X (.Name x p) tf mf)(ha:QA K X (e::es) ta ma)(hk:1<=k:=by decide)(he:starEach (e::es) X.env=88::starEach es X.env:=by rfl):
 QE K X (.Call (.Name x p) (e::es) [] pos) (MY tf ta) (DN mf ma):=⟨Ui (hr.mono hk) hf.p ha.p he,U3 hf.r ha.r⟩
section
variable{K:Frag}{X:Cx}{k:Nat}
def Zm(LC:LamC X.K X.mg X.base fd c P q lpos)(hcd:fd.code=cdv)(hr:Room k X.A)(hm:X.mg "min"=none)(he:QE K X e te mi)
 (hb:∀(f:Addr) (cd:Value) (s:Shared) (H:Hp),QE K (lCx X X.A.in1 (C5 params::frN X ix) 72 scope f cd 111 s H) body tb mb)
 (hcv:X.env.code=cdv:=by rfl) (hq:q=X.env.qual++"<lambda>":=by rfl) (S:CSc X scope (frN X ix) ix:=by exact⟨rfl,by decide +kernel,rfl,rfl,rfl,by decide +kernel⟩) (L:LSc scope (C5 params):=by exact⟨rfl,rfl,rfl,rfl⟩) (h3:3<=k:=by decide)
 (hbind:∀(cl:List (Str×Addr)) (pm cd ctv us:Value),bindArgs 124 ⟨[us],[]⟩=pure [(C5 params,us)]:=by exact λ_ _ _ _ _=>rfl)
 (hcm:X.calm=true:=by rfl) (hg:Gl X "min":=by rfl) (hdef:defaultsOf params X.env=([],[]):=by rfl) (hs:starEach [e] X.env=[88]:=by rfl) (hK:X.K=K:=by rfl):
 QE K X (.Call (.Name "min" p) [e] [⟨some "key",.Lambda params body scope lpos,kpos⟩] pos) (P1 K P 72 lpos ix te tb) (Eo mi ix mb):=by
 subst hq;subst hK;exact⟨Xu ⟨hcv.trans (hcd.symm.trans LC.code),LC.hd,LC.bl⟩ S L (hr.mono h3) hcm hg hm hbind he.p (λf cd s H=>(hb f cd s H).p) hdef hs,Wz he.r (hb 0 .none X.s₀ X.H₀).r LC.ti⟩
end
section
variable{Q:D->Hd->Prop}
def Qg(h:WE mf ls hd λd x=>d=.fv 1 es/\WA ma ls x λds y=>∃(j:Int) (b c:D),ds=[.im (.int j),b]/\atI es j=some c/\Q c y):WE (DN mf ma) ls hd Q:=by
 obtain⟨d,x,e1,rfl,ds,y,e2,j,b,c,rfl,e3,q⟩:=h;refine⟨_,_,?_,q⟩;simp only[DN,e1,bind_some,e2,e3,fR]
def T3{ix:List Nat}(h:WE mi ls hd λd x=>∃(e:D) (es:List D) (kf:D->Int×Int),Ac x d=some (e::es)/\(∀y∈e::es,mb (some y::ix.map λi=>(ls[i]?).join) x=some (.im (.tup [.int (kf y).1,.int (kf y).2]),x))/\Q (Ck es (es.map kf) e (kf e)) x):WE (Eo mi ix mb) ls hd Q:=by
 obtain⟨d,x,e1,e,es,kf,e2,ek,q⟩:=h;have go:∀ys:List D,(∀y∈ys,mb (some y::ix.map λi=>(ls[i]?).join) x=some (.im (.tup [.int (kf y).1,.int (kf y).2]),x))->GB mb (ix.map λi=>(ls[i]?).join) x ys=some (ys.map kf):=by
  intro ys
  induction ys with
  |nil=>intro _;rfl
  |cons y r ih=>
   intro h;unfold GB;rw[h y fo,ih λz hz=>h z (fj _ hz)];simp
 refine⟨_,x,?_,q⟩;simp only[Eo,e1,bind_some,e2,go _ ek,fq]
def leP(p q:Int×Int):Prop:=ltZ q p=false
def V0(p:Int×Int):leP p p:=by unfold leP ltZ;simp
def LK(h:leP p q)(h':leP q r):leP p r:=by
 unfold leP ltZ at *;simp only[iB,not_or,not_and,Int.not_lt]at *;omega
theorem HW(kf:D->Int×Int):∀(es:List D) (b:D),Ck es (es.map kf) b (kf b)∈b::es/\∀y∈b::es,leP (kf (Ck es (es.map kf) b (kf b))) (kf y)
 |[],b=>⟨fo,λy hy=>by rw[fO]at hy;subst hy;exact V0 _⟩
 |e::es,b=>by
  rw[fq,Ck];by_cases h:ltZ (kf e) (kf b)=true
  .rw[fb h];obtain⟨h1,h2⟩:=HW kf es e;refine⟨fj _ h1,λy hy=>?_⟩;rcases mem_cons.mp hy with rfl|hy
   .refine LK (h2 e fo) ?_;unfold leP ltZ at *;simp only[i5,iB,not_or,not_and,Int.not_lt]at *;omega
   .exact h2 y hy
  .rw[fe h];obtain⟨h1,h2⟩:=HW kf es b;refine⟨?_,λy hy=>?_⟩
   .rcases mem_cons.mp h1 with q|q
    .rw[q];exact fo
    .exact fj _ (fj _ q)
   .rcases mem_cons.mp hy with rfl|hy
    .exact h2 y fo
    .rcases mem_cons.mp hy with rfl|hy
     .refine LK (h2 b fo) ?_;unfold leP;simpa using h
     .exact h2 y (fj _ hy)
end
theorem NE:∀{bs:List Int} {us:List Value} {i:Nat} {v:Value},Vals (bs.map V.int) us->us[i]?=some v->∃b t,bs[i]?=some b/\v=.int b t
 |[],_,_,_,.nil,e=>by simp at e
 |b::bs,_,0,_,.cons r _,e=>by
  simp at e;subst e;obtain⟨t,rfl⟩:=r;exact⟨b,t,rfl,rfl⟩
 |b::bs,_,i+1,_,.cons _ t,e=>by
  obtain⟨c,t,h1,h2⟩:=NE (i:=i) t (by simpa using e);exact⟨c,t,by simpa using h1,h2⟩
def Vl(K:Frag):List V->Hp->VK->Prop:=λxs H Q=>∃(a:Addr) (bs:List Int),xs=[.ref a]/\SqL K H a (bs.map V.int)/\Q (.bl (bs.any λn=>n != 0)) H
theorem any_map(bs:List Int):((69 bs.length).any λi=>((bs[i]?).getD 0) != 0)=bs.any λn=>n != 0:=by
 have:=LSm.range_any (bs.map λn=>n != 0);rw[fN,List.any_map]at this;rw[show(id ∘ λn:Int=>n != 0)=λn:Int=>n != 0 from rfl]at this;rw[<- this,Bool.eq_iff_iff,List.any_eq_true,List.any_eq_true];constructor
 .rintro⟨i,hi,h⟩;have hi':i<bs.length:=by simpa using hi
  exact⟨i,hi,by simpa [hi']using h⟩
 .rintro⟨i,hi,h⟩;have hi':i<bs.length:=by simpa using hi
  exact⟨i,hi,by simpa [hi']using h⟩
def QQ(K:Frag){X:Cx}(hc:X.calm=true)(hK:X.K=K:=by rfl):CallR X (.builtin "any") (Vl K):=by
 subst hK;intro pins s σ H xs us Q I r h;obtain⟨a,bs,rfl,hq,q⟩:=h;obtain⟨u,rfl,ru⟩:=BJ r;cases ru;obtain⟨its,rv,p,hz⟩:=I.list hq;have hl:=p.isList;have hlen:=rv.length;have hlt:a<s.heap.objs.size:=by obtain⟨_,e,_⟩:=hl;exact 74 e
 refine call_any_walk (ir hl ?_);refine⟨58,[58,a],[58],141,_,_,λi=>((bs[i]?).getD 0) != 0,rfl,Walks.list (A:=X.A.in1) (I.ok.hd hc) _ a (fz hlt) 87,
  ⟨⟨_,78 _ rfl,rfl,rfl⟩,hl.push _⟩,λi v s' Q' E' hP hQ=>?_,λh' tk hk=>?_⟩
 .obtain⟨b,t,e,rfl⟩:=NE rv (by simpa using hP);simp only[e,getD_some]at hQ;exact P.truthy_int hQ
 .have e:((69 141).any λi=>((bs[i]?).getD 0) != 0)=bs.any λn=>n != 0:=by
   rw[ft,<- hlen,fN];exact any_map bs
  rw[e];exact⟨.bl _,H,I.kept (LSm.kept_iter hk),rfl,q⟩
noncomputable def Jo(ds:List D):Option D:=(Ao ds).map λns=>.im (.bl (ns.any λn=>n != 0))
def Wt{K:Frag}:RG K false (Vl K) Jo:=by
 intro ρ H hd a xs ds Q z hR q r e hQ;obtain⟨ns,e1,rfl⟩:=fK e;rw[C0 e1]at r;have:=Dc r;subst this;rcases q with q|⟨q,_⟩
 .exact⟨a,ns,rfl,q,hQ H _ .refl hR 135⟩
 .cases q
def ice(H:Hp)(cl:Addr)(o1:Obj)(a0:Addr)(o2:Obj)(xs:List V):Hp:=upd (upd H cl (.frz o1 FO)) a0 (.frz o2 145)
def thaw(H:Hp)(cl a0:Addr)(xs:List V):Hp:=upd (del H cl) a0 145
noncomputable def MZ(sp:Sp)(P:Addr)(q:Str)(pos:Pos)(i:Nat)(t1 t2:TE):TE:=λσ H Q=>t1 σ H λx1 H1=>t2 σ H1 λx2 H2=>∃ps a0 xs,H2 P=some (.tbl ps)/\Cs H2 q pos ps/\σ[i]?=some (some (.ref a0))/\H2 a0=some 145/\
 ∀H3 c f cl o1 o2,TabStep P q pos H2 H3->H3 c=some (.ext (cdF c q))->H3 f=none->H3 cl=none->cl≠f->H3 a0=some 145->Jz o1 a0->sp [x1,x2,.ref f] (ice (upd H3 f (.ext (fnG f c q cl))) cl o1 a0 o2 xs) (λv H'=>Q v (thaw H' cl a0 xs)) E0
theorem TabStep.lst(t:TabStep P q pos H H')(hP:H P=some (.tbl ps))(h:H a=some 145):H' a=some 145:=by
 rcases t with rfl|⟨c,hc,_,rfl⟩
 .exact h
 .rw[upd_ne (AH h hc),upd_ne (λe=>by subst e;rw[hP]at h;cases h)];exact h
section
theorem HOk.ice(k:HOk P w H h)(h1:H cl=none)(h2:H a0=some 145)(g1:h.get? cl=some o1)(g2:h.get? a0=some o2):HOk P w (ice H cl o1 a0 o2 xs) h:=by
 have nac:a0≠cl:=AH h2 h1;have oth:∀b ho,H b=some ho->b≠a0->L2.ice H cl o1 a0 o2 xs b=some ho:=λb ho e n=>by
  unfold L2.ice;rw[upd_ne n,upd_ne (AH e h1)];exact e
 have st:∀b ho,ObjOk P w H h b ho->ObjOk P w (L2.ice H cl o1 a0 o2 xs) h b ho:=λb ho x=>x.stay (λ_ _ _ z=>z) (λb z=>oth b _ z λe=>by subst e;rw[h2]at z;cases z) λb ys z=>oth b _ z λe=>by subst e;rw[h2]at z;cases z
 intro b ho e;by_cases n:b=a0
 .subst n;unfold L2.ice at e;rw[AF]at e;cases e;exact⟨g2,st _ _ (k _ _ h2)⟩
 .by_cases m:b=cl
  .subst m;unfold L2.ice at e;rw[upd_ne n,AF]at e;cases e;exact⟨g1,trivial,⟨_,g1⟩,λ_ _ _ _=>trivial⟩
  .have e2:H b=some ho:=by
    unfold L2.ice at e;rw[upd_ne n,upd_ne m]at e;exact e
   exact st _ _ (k b ho e2)
theorem HOk.thaw(k:HOk P w H h)(h1:H cl=some (.frz o1 FO))(h2:H a0=some (.frz o2 145)):HOk P w (thaw H cl a0 xs) h:=by
 have d:=k.del h1;have nac:a0≠cl:=λe=>by subst e;rw[h1]at h2;cases h2
 have e0:L2.del H cl a0=some (.frz o2 145):=by rw[E7 nac];exact h2
 have st:∀b ho,ObjOk P w (L2.del H cl) h b ho->ObjOk P w (L2.thaw H cl a0 xs) h b ho:=λb ho x=>x.stay (λ_ _ _ z=>z) (λb z=>by unfold L2.thaw;rw[upd_ne λe=>by subst e;rw[e0]at z;cases z];exact z) λb ys z=>by unfold L2.thaw;rw[upd_ne λe=>by subst e;rw[e0]at z;cases z];exact z
 intro b ho e;by_cases n:b=a0
 .subst n;unfold L2.thaw at e;rw[AF]at e;cases e;exact st _ _ (d _ _ e0).2
 .unfold L2.thaw at e;rw[upd_ne n]at e;exact st _ _ (d b ho e)
theorem Un.thaw(u:Un fs [] (ice H cl o1 a0 o2 xs) H' h h')(h1:H cl=none)(h2:H a0=some 145)(g1:h.get? cl=some o1)(g1':h'.get? cl=some o1):Un fs [] H (thaw H' cl a0 xs) h h':=by
 have nac:a0≠cl:=AH h2 h1;have n0:∀b,H b=none->b≠cl->L2.ice H cl o1 a0 o2 xs b=none:=λb n m=>by
  unfold L2.ice;rw[upd_ne (AH h2 n).symm,upd_ne m];exact n
 have s0:∀b ho,H b=some ho->(∀ys,ho≠.lst ys)->L2.ice H cl o1 a0 o2 xs b=some ho:=λb ho e n=>by
  unfold L2.ice;rw[upd_ne (λz=>by subst z;rw[h2]at e;exact n xs (86 e).symm),upd_ne (AH e h1)];exact e
 have t0:∀b ho,H b≠none->H' b=some ho->b≠a0->L2.thaw H' cl a0 xs b=some ho:=λb ho e q n=>by
  unfold L2.thaw;rw[upd_ne n,E7 λz=>by subst z;exact e h1];exact q
 refine⟨λb o e n m1 m2=>?_,λb o e n m1 m2=>?_,λb o e n m=>?_,λb o e m=>u.there b o e m,λb ys e=>?_,λb o v e=>?_,λb ps e=>?_⟩
 .by_cases z:b=cl
  .subst z;rw[g1]at e;cases e;exact g1'
  .exact u.keep b o e (n0 b n z) m1 m2
 .by_cases z:b=cl
  .subst z;rw[g1]at e;cases e;exact⟨_,g1'⟩
  .exact u.slot b o e (n0 b n z) m1 m2
 .unfold L2.thaw;rw[upd_ne (AH h2 n).symm];by_cases z:b=cl
  .subst z;exact Ix
  .rw[E7 z];exact u.free b o e (n0 b n z) m
 .exact t0 b _ (by rw[e];simp) (u.tups b ys (s0 b _ e λ_ z=>by cases z)) λz=>by subst z;rw[h2]at e;cases e
 .exact t0 b _ (by rw[e];simp) (u.frzs b o v (s0 b _ e λ_ z=>by cases z)) λz=>by subst z;rw[h2]at e;cases e
 .obtain⟨more,q⟩:=u.tbls b ps (s0 b _ e λ_ z=>by cases z);exact⟨more,t0 b _ (by rw[e];simp) q λz=>by subst z;rw[h2]at e;cases e⟩
end
section
variable{X:Cx}{k:Nat}{i:Nat}{e1 e2:Expr}{t1:TE}
def Uj(F:FnOk X.prog X.w X.K X.mg X.base CX0 k fa fd ps sp)(hr:Room k X.A)(hg:Gl X x)(hm:X.mg x=some (.ref fa))(hk:keepIn X.K (.ref fa)=true)(hb:Binds X.K fd ps [])(h1:PE X e1 t1)(h2:PE X e2 t2)(hN:X.N[i]?=some nm)
 (LA:LamAt X c P) (S:CSc X scope fr ix) (L:CapOk 72 params scope (.Subscript (.Name nm px) (.Name p1 pp) spos) p1 p2 nm) (hkind:X.env.scope.names.lookup nm=some .cell) (hfn:X.fn nm=true)
 (hcl:AR X.env.cells 75 []=[(nm,(X.env.cells.lookup nm).getD 0)]:=by rfl) (hdef:defaultsOf params X.env=([],[]):=by rfl) (hdb:126=false:=by decide)
 (hs1:starEach [e1,e2,.Lambda params (.Subscript (.Name nm px) (.Name p1 pp) spos) scope lpos] X.env=(false,eval e1 X.env)::starEach [e2,.Lambda params (.Subscript (.Name nm px) (.Name p1 pp) spos) scope lpos] X.env:=by rfl)
 (hs2:starEach [e2,.Lambda params (.Subscript (.Name nm px) (.Name p1 pp) spos) scope lpos] X.env=[(false,eval e2 X.env),(false,eval (.Lambda params (.Subscript (.Name nm px) (.Name p1 pp) spos) scope lpos) X.env)]:=by rfl) (hpl:(backTo pos (starEach [e2,.Lambda params (.Subscript (.Name nm px) (.Name p1 pp) spos) scope lpos] X.env)).any (·.1)=false:=by rfl):
 PE X (.Call (.Name x p) [e1,e2,.Lambda params (.Subscript (.Name nm px) (.Name p1 pp) spos) scope lpos] [] pos) (MZ sp P 72 lpos i t1 t2):=by
 intro pins s σ H Q I h;refine gN (KZ I hg hm ?_ hdb);refine PySem.W.callWith_K (h₀:=X.base) I.ok.mod.kin hk ?_ hs1 hpl;rw[hs1,hs2];show wpAny _ _ (spliced ((false,eval e1 X.env)::backTo pos [(false,eval e2 X.env),(false,eval (.Lambda params (.Subscript (.Name nm px) (.Name p1 pp) spos) scope lpos) X.env)])) _ _ s;refine Calls.spliced_cons (thn (h1 pins s σ H _ I h) λu1 s1 ⟨x1,H1,I1,r1,q1⟩=>?_);refine Calls.spliced_cons (thn (h2 pins s1 σ H1 _ I1 q1) λu2 s2 ⟨x2,H2,I2,r2,q2⟩=>?_);obtain⟨psT,a0,xs,hP,hgd,hσ,hx,go⟩:=q2;refine Calls.spliced_cons (G9 S LA I2 hdef hP hgd λf cd ctv H3 s3 I3 M=>?_);refine Calls.spliced_nil ?_;obtain⟨c',rfl,hc'⟩:=M.cdc;have ho:=M.fn;rw[hcl]at ho;have hx3:=M.step.lst hP hx;have ff:FpOk X pins H3 f:=I2.fpOk M.new M.fre;obtain⟨m,hn,hlk⟩:=I3.loc;obtain⟨u0,ru,lk⟩:=hlk i nm (.ref a0) hN hσ (.inr (.inl hkind));cases ru;obtain⟨cl,ecl,o1,g1,ho1⟩:∃cl,X.env.cells.lookup nm=some cl/\∃o,s3.heap.get? cl=some o/\o.data=.cell (some (.ref a0)):=by
  rcases lk with⟨kk,_⟩|⟨_,c,ec,hc⟩
  .have kk:X.env.scope.names.lookup nm=some .local:=kk;rw[hkind]at kk;cases kk
  .exact⟨c,ec,hc⟩
 rw[ecl,getD_some]at ho;have J:=I3.adopt (o:=.ext (fnG f c' 72 cl)) ff (fu I2.sz M.new) ⟨⟨_,_,_,_,_,_,_,_,_,_,ho,L⟩,⟨_,ho⟩,λh1 h2 q k=>by
  obtain⟨b1,b2,b3,b4,b5,b6,b7,b8,b9,b10,g,z⟩:=q;exact⟨b1,b2,b3,b4,b5,b6,b7,b8,b9,b10,k _ g,z⟩⟩
 have cn:H3 cl=none:=I3.freeC nm cl ecl;have J1:=J.freeC nm cl ecl;have ncf:cl≠f:=λe=>by subst e;rw[AF]at J1;cases J1
 have nfa:a0≠f:=AH hx3 M.fre;have J2:upd H3 f (.ext (fnG f c' 72 cl)) a0=some 145:=by rw[upd_ne nfa];exact hx3
 obtain⟨o2,g2⟩:∃o2,s3.heap.get? a0=some o2:=by
  obtain⟨_,its,n,_,e⟩:=J.hok a0 _ J2;exact⟨_,e⟩
 have hsp:=go H3 c' f cl o1 o2 M.step hc' M.fre cn ncf hx3 ho1;have ok0:=J.hok.ice J1 J2 g1 g2;have cge:128<=cl:=J.ok.cab nm cl hfn ecl;have nice:∀b,upd H3 f (.ext (fnG f c' 72 cl)) b=none->b≠cl->ice (upd H3 f (.ext (fnG f c' 72 cl))) cl o1 a0 o2 xs b=none:=λb n z=>by
  unfold ice;rw[upd_ne (AH J2 n).symm,upd_ne z];exact n
 have nac:a0≠cl:=AH J2 J1;refine⟨J.kIn,wpAny_call (i0 (F.run X.A X.stack s3 _ ⟨[u1,u2,.ref f],[]⟩ ([u1,u2,.ref f]++[]) _ _ E0 hr ⟨J.ok.frames,J.ok.mod,λb o e=>⟨(J.bs b o e).1,nice b (J.bs b o e).2 λz=>?_⟩,fu J.ok.bsz J.sz,J.stack,λb hbb=>nice b (J.stkFree b hbb) λz=>?_,ok0,J.bare⟩ (hb s3 _ J.kIn (F.len _ _ _ _ hsp)) (.cons r1 (.cons r2 (.cons (show RelV (.ref f) (Value.ref f)from rfl) .nil))) hsp) λr s' hq=>?_)⟩
 .subst z;have l1:=74 e;have l2:=J.ok.bsz;exact gy _ (fW l1 (fu l2 cge))
 .subst z;rcases mem_cons.mp (J.stkSub b hbb)with e|hbb
  .obtain⟨od,es,ep,e1,e2,e3,_⟩:=hn;rw[<- e,g1]at e1;cases e1;rw[ho1]at e2;cases e2
  .obtain⟨_,o,e1,_⟩:=J.ok.funs.mem hbb;exact gy _ (fW (74 e1) cge)
 .cases r with
  |error e=>exact False.elim hq
  |ok fl=>
   cases fl with
   |ret u=>
    obtain⟨v,H',os,bare,un,hok,r,q⟩:=hq;have e1:H' cl=some (.frz o1 FO):=un.frzs cl o1 FO (by unfold ice;rw[upd_ne nac.symm,AF]);have e2:H' a0=some (.frz o2 145):=un.frzs a0 o2 _ (by unfold ice;rw[AF]);exact J.after ⟨v,thaw H' cl a0 xs,os,bare,un.thaw J1 J2 g1 (hok cl _ e1).1,hok.thaw e1 e2,r,q⟩
   |next=>exact False.elim hq
   |brk=>exact False.elim hq
   |cont=>exact False.elim hq
end
noncomputable def Fa(F:List D->Hd->Option 121)(i:Nat)(m1 m2:ME):ME:=λls hd=>(m1 ls hd).bind λp=>(m2 ls p.2).bind λr=>match (ls[i]?).join with
 | some (.mu n)=>(match r.2[n]? with
  | some (.lst es)=>if Ak 0 [p.1,r.1]=true/\Ak 0 es=true then(match F [p.1,r.1,.fv 1 es] []with
   |some (.im z,_)=>some (.im z,r.2)
   | _=>none)else none
  | _=>none)
 |_=>none
section
variable{K:Frag}(g:∀a xs,SqT K H a xs->SqT K H' a xs)
include g
mutual
theorem RI.sq:∀{i:I} {v:V},RI K H i v->RI K H' i v
 |.non,v,h=>by simpa only[RI]using h
 |.bl b,v,h=>by simpa only[RI]using h
 |.int b,v,h=>by simpa only[RI]using h
 |.str b,v,h=>by simpa only[RI]using h
 |.tup ds,v,h=>by
  simp only[RI]at h ⊢;obtain⟨a,xs,e,q,r⟩:=h;exact⟨a,xs,e,g _ _ q,RIs.sq r⟩
theorem RIs.sq:∀{i:List I} {v:List V},RIs K H i v->RIs K H' i v
 |[],v,h=>by simpa only[RIs]using h
 |d::ds,v,h=>by
  simp only[RIs]at h ⊢;obtain⟨x,r,e,q,z⟩:=h;exact⟨x,r,e,RI.sq q,RIs.sq z⟩
end
end
def U5{K:Frag}{i:Nat}{F:List D->Hd->Option 121}{t1:TE}{m1:ME}(TI:DV K P q pos)(h1:RE K t1 m1)(h2:RE K t2 m2):RE K (MZ (spF K 3 F) P q pos i t1 t2) (Fa F i m1 m2):=by
 and_intros;obtain⟨⟨d1,hd1⟩,e1,hm⟩:=fJ hm;obtain⟨⟨d2,hd2⟩,e2,hm⟩:=fJ hm;dsimp only at hm e2;split at hm
 .next n el=>
  split at hm
  .next es eh=>
   split at hm
   .next c0=>
    split at hm
    .next z hF ef=>
     cases hm;refine h1 ρ σ H hd ls _ d1 hd1 hR hL e1 λρ1 H1 v1 x1 R1 r1=>?_;refine h2 ρ1 σ H1 hd1 ls _ d2 hd' R1 122 e2 λρ2 H2 v2 x2 R2 r2=>?_;obtain⟨p',et,_,l1,l2⟩:=id TI;obtain⟨ps,hP,hG⟩:=R2.tabs (P,q,p') et;have hG':Cs H2 q pos ps:=by
      rcases hG with g|⟨c,g1,g2⟩
      .exact .inl g
      .refine .inr ⟨c,?_,g2⟩;rw[g1];show #[rawInt p'.line,rawInt p'.col,Value.ref c]=_;rw[l1,l2]
     have el':ls[i]?=some (some (.mu n)):=by
      cases w:ls[i]? with
      |none=>rw[w]at el;cases el
      |some y=>rw[w]at el;simpa using el
     obtain⟨v,ev,rv⟩:=(hL.ext hR 79).ob i (.mu n) el';simp only[RD]at rv;obtain⟨a0,ea,rfl⟩:=rv;obtain⟨xs,ex,rs⟩:=R2.lst ea eh;refine⟨ps,a0,xs,hP,hG',ev,ex,λH3 c f cl o1 o2 step hc hf hcl ncf hx3 ho1=>?_⟩;obtain⟨R3,x3⟩:=Fu R2 hP step TI;obtain⟨R4,x4⟩:=R3.hid hf (ho:=.ext (fnG f c q cl));have ncc:c≠f:=λz=>by subst z;rw[hf]at hc;cases hc
     have ffq:upd H3 f (.ext (fnG f c q cl)) f=some (.ext (fnG f c q cl)):=AF;have fcq:upd H3 f (.ext (fnG f c q cl)) c=some (.ext (cdF c q)):=by rw[upd_ne ncc];exact hc
     have J1:upd H3 f (.ext (fnG f c q cl)) cl=none:=by rw[upd_ne ncf];exact hcl
     have J2:upd H3 f (.ext (fnG f c q cl)) a0=some 145:=by rw[upd_ne (AH hx3 hf)];exact hx3
     have x04:=x3.trans R3 x4;generalize upd H3 f (.ext (fnG f c q cl))=H4 at *;have nac:a0≠cl:=AH J2 J1;have to5:∀b o,H4 b=some o->b≠a0->ice H4 cl o1 a0 o2 xs b=some o:=λb o e n=>by
      unfold ice;rw[upd_ne n,upd_ne (AH e J1)];exact e
     have st5:∀b o,Stb o->H4 b=some o->b≠a0:=λb o s e z=>by subst z;rw[J2]at e;cases e;exact s
     have g5:Grow H4 (ice H4 cl o1 a0 o2 xs):=⟨λb o s e=>to5 b o e (st5 b o s e)⟩
     have T5:TabsOk K (ice H4 cl o1 a0 o2 xs):=λy hy=>by
      obtain⟨ps,e,g⟩:=R4.tabs y hy;refine⟨ps,to5 _ _ e (λz=>by rw[z,J2]at e;cases e),?_⟩;rcases g with g|⟨c,g1,g2⟩
      .exact .inl g
      .exact .inr ⟨c,g1,g5.keep _ _ trivial g2⟩
     have R0:RH K [] (ice H4 cl o1 a0 o2 xs) []:=⟨rfl,.nil,T5,λn o a e=>by cases e⟩
     have i1:ice H4 cl o1 a0 o2 xs cl=some (.frz o1 FO):=by unfold ice;rw[upd_ne nac.symm,AF]
     have i2:ice H4 cl o1 a0 o2 xs a0=some (.frz o2 145):=by unfold ice;rw[AF]
     have rA:RDs K [] (ice H4 cl o1 a0 o2 xs) [d1,d2] [v1,v2]:=by
      have q1:RDs K ρ2 H4 [d1,d2] [v1,v2]:=.cons ((r1.ext R1 x2).ext R2 x04) (.cons (r2.ext R2 x04) .nil);simpa using (q1.take' 0 c0.1).mono g5 []
     have rE:RDs K [] (ice H4 cl o1 a0 o2 xs) es xs:=by
      have q1:=rs.ext R2 x04;simpa using (q1.take' 0 c0.2).mono g5 []
     have rV:RD K [] (ice H4 cl o1 a0 o2 xs) (.fv 1 es) (.ref f):=by
      simp only[RD];exact⟨f,xs,rfl,.inr ⟨rfl,c,q,cl,a0,o1,o2,g5.keep _ _ trivial ffq,g5.keep _ _ trivial fcq,ho1,i1,i2⟩,rE⟩
     refine⟨rfl,[],[],[d1,d2,.fv 1 es],.im z,_,R0,rA.app (.cons rV .nil),ef,λρ' H' v x5 R5 r5=>?_⟩;have k5:∀b o,ice H4 cl o1 a0 o2 xs b=some o->(∀ps,o≠.tbl ps)->H' b=some o:=λb o e t=>x5.keep b o e 70 t;have j1:=k5 _ _ i1 (nt);have j2:=k5 _ _ i2 (nt);have t6:∀b o,H' b=some o->b≠cl->b≠a0->thaw H' cl a0 xs b=some o:=λb o e n1 n2=>by
      unfold thaw;rw[upd_ne n2,E7 n1];exact e
     have a6:thaw H' cl a0 xs a0=some 145:=by unfold thaw;rw[AF]
     have s6:∀b o,H4 b=some o->b≠a0->(∀ps,o≠.tbl ps)->thaw H' cl a0 xs b=some o:=λb o e n t=>t6 b o (k5 b o (to5 b o e n) t) (AH e J1) n;have g6:Grow H4 (thaw H' cl a0 xs):=⟨λb o s e=>s6 b o e (st5 b o s e) (Md s)⟩
     have x6:Ext ρ2 H4 ρ2 (thaw H' cl a0 xs):=⟨⟨[],by simp,by simp⟩,λb o e n t=>s6 b o e (λz=>n (by rw[z];exact fQ ea)) t,λb ps e=>by
      have n:b≠a0:=λz=>by subst z;rw[J2]at e;cases e
      obtain⟨ps',e'⟩:=x5.tab b ps (to5 b _ e n);exact⟨ps',t6 b _ e' (AH e J1) n⟩⟩
     have R6:RH K ρ2 (thaw H' cl a0 xs) hd':=by
      refine⟨R4.len,R4.nd,λy hy=>?_,λm o a e1 e2=>?_⟩
      .obtain⟨ps,e,g⟩:=R5.tabs y hy;have n1:y.1≠cl:=λz=>by rw[z,j1]at e;cases e
       have n2:y.1≠a0:=λz=>by rw[z,j2]at e;cases e
       refine⟨ps,t6 _ _ e n1 n2,?_⟩;rcases g with g|⟨c,g1,g2⟩
       .exact .inl g
       .exact .inr ⟨c,g1,t6 _ _ g2 (λz=>by rw[z,j1]at g2;cases g2) (λz=>by rw[z,j2]at g2;cases g2)⟩
      .obtain⟨ho,q1,q2⟩:=R4.ob m o a e1 e2;have q3:=q2.mono g6 [];rw[fY]at q3;by_cases n:a=a0
       .subst n;rw[J2]at q1;cases q1;exact⟨_,a6,q3⟩
       .refine⟨ho,s6 a ho q1 n λps z=>?_,q3⟩;rcases R4.mut (fQ e2)with⟨y,w⟩|⟨y,w⟩<;>(rw[q1,z]at w;cases w)
     refine hQ ρ2 _ v ((79).trans R2 (x04.trans R4 x6)) R6 ?_;simp only[RD]at r5 ⊢;refine r5.sq λa ys sq=>?_;rcases sq with(sq|⟨o,sq⟩)|sq
     .exact .inl (.inl (t6 a _ sq (λz=>by rw[z,j1]at sq;cases sq) (λz=>by rw[z,j2]at sq;cases sq)))
     .exact .inl (.inr ⟨o,t6 a _ sq (λz=>by rw[z,j1]at sq;cases sq) (λz=>by rw[z,j2]at sq;cases sq)⟩)
     .exact .inr sq
    .cases hm
   .cases hm
  .cases hm
 .cases hm
end L2
namespace L2
open PySem PySem.W PyProof.Rows
noncomputable def dJ(a:Arguments):Str:=match a.args with
 |_::x::_=>x.arg
 |_=>""
section
variable{K:Frag}{X:Cx}{e1 e2:Expr}{t1:TE}{m1:ME}{i j k:Nat}{st:Stmt}
def qcL(LC:LamC X.K X.mg X.base fd c P q lpos)(hcd:fd.code=cdv)(G:Kn ⟨X.prog,X.w,X.K,X.mg,X.base⟩ ⟨x,st,ps,j,F⟩)(hr:Room k X.A)(h1:QE K X e1 t1 m1)(h2:QE K X e2 t2 m2)(i:Nat)
 (hN:X.N[i]?=some nm:=by rfl) (h3:112=3:=by rfl) (hkind:X.env.scope.names.lookup nm=some .cell:=by rfl) (hfn:X.fn nm=true:=by rfl)
 (hcv:X.env.code=cdv:=by rfl) (hq:q=X.env.qual++"<lambda>":=by rfl) (S:CSc X scope (frN X []) []:=by exact⟨rfl,by decide +kernel,rfl,rfl,rfl,by decide +kernel⟩)
 (L:CapOk q params scope (.Subscript (.Name nm px) (.Name (C5 params) pp) spos) (C5 params) (dJ params) nm:=by exact⟨by decide,by decide,by decide,⟨rfl,rfl,rfl,rfl⟩,⟨rfl,rfl,rfl,rfl⟩,rfl,rfl,rfl,by decide,by decide,by decide,by decide,λ_ _ _ _ _ _=>rfl⟩)
 (hcl:AR X.env.cells 75 []=[(nm,(X.env.cells.lookup nm).getD 0)]:=by rfl) (hdef:defaultsOf params X.env=([],[]):=by rfl)
 (hjk:j<=k:=by first|decide|omega) (hg:Gl X x:=by rfl) (hdb:126=false:=by decide)
 (hs1:starEach [e1,e2,.Lambda params (.Subscript (.Name nm px) (.Name (C5 params) pp) spos) scope lpos] X.env=(false,eval e1 X.env)::starEach [e2,.Lambda params (.Subscript (.Name nm px) (.Name (C5 params) pp) spos) scope lpos] X.env:=by rfl)
 (hs2:starEach [e2,.Lambda params (.Subscript (.Name nm px) (.Name (C5 params) pp) spos) scope lpos] X.env=[(false,eval e2 X.env),(false,eval (.Lambda params (.Subscript (.Name nm px) (.Name (C5 params) pp) spos) scope lpos) X.env)]:=by rfl)
 (hpl:(backTo pos (starEach [e2,.Lambda params (.Subscript (.Name nm px) (.Name (C5 params) pp) spos) scope lpos] X.env)).any (·.1)=false:=by rfl) (hK:X.K=K:=by rfl):
 QE K X (.Call (.Name x p) [e1,e2,.Lambda params (.Subscript (.Name nm px) (.Name (C5 params) pp) spos) scope lpos] [] pos) (MZ (spF K 3 F) P 72 lpos i t1 t2) (Fa F i m1 m2):=by
 subst hK;subst hq;obtain⟨f,fd',D,G,l⟩:=G;rw[h3]at G;exact⟨Uj (G.mono hjk) hr hg D.mg D.fn.kp D.bd h1.p h2.p hN ⟨hcv.trans (hcd.symm.trans LC.code),LC.hd,LC.bl⟩ S L hkind hfn hcl hdef hdb hs1 hs2 hpl,U5 LC.ti h1.r h2.r⟩
end
section
variable{Q:D->Hd->Prop}
def Qh{F:List D->Hd->Option 121}{i:Nat}{m1:ME}(h:WE m1 ls hd λd1 x=>WE m2 ls x λd2 y=>∃n es,ls[i]?=some (some (.mu n))/\y[n]?=some (.lst es)/\Ak 0 [d1,d2]=true/\Ak 0 es=true/\WF F [d1,d2,.fv 1 es] [] λd _=>∃z,d=.im z/\Q (.im z) y):WE (Fa F i m1 m2) ls hd Q:=by
 obtain⟨d1,x,e1,d2,y,e2,n,es,e3,e4,c1,c2,d,w,e5,z,rfl,q⟩:=h;refine⟨_,y,?_,q⟩;unfold Fa;rw[e1];dsimp only[bind_some];rw[e2];dsimp only[bind_some];rw[e3];show(match y[n]? with|some (.lst es)=>_|_=>none)=_;rw[e4];dsimp only;rw[fb ⟨c1,c2⟩,e5]
end
end L2
namespace Hds
open PySem L2 Bd
structure IsHead(S:Nat->Prop)(c l:Nat->Int)(W:List 119)(h:Nat->Int):Prop where
 lo:∀k,S k->c k<=h k
 up:∀p∈W,S p.2->h p.1+l p.1<=h p.2
 eq:∀k,S k->h k=c k∨∃p∈W,p.2=k/\h k=h p.1+l p.1
structure Rk(S:Nat->Prop)(W:List 119)(rk:Nat->Nat):Prop where
 ins:∀p∈W,S p.1/\S p.2
 lt:∀p∈W,rk p.1<rk p.2
def IsHead.bound{S:Nat->Prop}{c l:Nat->Int}{rk:Nat->Nat}(R:Rk S W rk){h:Nat->Int}(a:IsHead S c l W h){B m:Int}(hc:∀k,S k->c k<=B)(hl:∀k,S k->l k<=m)(hm:0<=m):∀n k,rk k=n->S k->h k<=B+m*n:=by
 intro n
 induction n using Nat.strongRecOn with
 |ind n ih=>
  intro k hk hS;have hn:0<=m*(n:Int):=Int.mul_nonneg hm 59;rcases a.eq k hS with e|⟨p,hp,e1,e2⟩
  .rw[e];have:=hc k hS;omega
  .have lt:=R.lt p hp;rw[e1,hk]at lt;have q:=ih (rk p.1) lt p.1 rfl (R.ins p hp).1;have:=hl p.1 (R.ins p hp).1;have g:m*(rk p.1:Int)+m<=m*(n:Int):=by
    have:m*((rk p.1:Int)+1)<=m*(n:Int):=Int.mul_le_mul_of_nonneg_left 59 hm;rw[Int.mul_add,Int.mul_one]at this;exact this
   omega
def VQ{seq:List Nat}{n:Nat}(pm:seq.Perm (69 n))(h:Along seq ps):∃W:List 119,ps=(W.map λp=>((p.1:Int),(p.2:Int)))/\Rk (λk=>k<n) W (λk=>seq.idxOf k)/\∀k,k<n->seq.idxOf k<n:=by
 have nd:seq.Nodup:=pm.nodup_iff.mpr gZ;have sl:seq.length=n:=by simpa using pm.length_eq
 have ix:∀{i a:Nat},seq[i]?=some a->seq.idxOf a=i:=λ{i a} e=>by
  obtain⟨hi,e⟩:=73 e;subst e;exact nd.idxOf_getElem i hi
 refine⟨ps.map λp=>(p.1.toNat,p.2.toNat),?_,⟨?_,?_⟩,?_⟩
 .rw[fM];refine(List.map_id' ps).symm.trans (i7 λp hp=>?_);obtain⟨i,j,a,b,_,_,_,rfl⟩:=h p hp;simp
 .intro q hq;obtain⟨p,hp,rfl⟩:=mem_map.mp hq;obtain⟨i,j,a,b,_,ea,eb,rfl⟩:=h p hp;exact⟨by simpa using pm.mem_iff.mp (fQ ea),by simpa using pm.mem_iff.mp (fQ eb)⟩
 .intro q hq;obtain⟨p,hp,rfl⟩:=mem_map.mp hq;obtain⟨i,j,a,b,hij,ea,eb,rfl⟩:=h p hp;show seq.idxOf (a:Int).toNat<seq.idxOf (b:Int).toNat
  simp only[gb];rw[ix ea,ix eb];exact hij
 .intro k hk;have:k∈seq:=pm.mem_iff.mpr (by simpa using hk);have:=List.idxOf_lt_length_iff.mpr this;omega
end Hds
namespace Bd
open PySem L2
inductive Rc(ps:List 115):Int->Int->Prop
 |one {x y:Int}:(x,y)∈ps->Rc ps x y
 |step {x y z:Int}:Rc ps x y->(y,z)∈ps->Rc ps x z
theorem LD:∀{l m:List Int},l.Nodup->(∀x∈l,x∈m)->l.length<=m.length
 |[],m,_,_=>by simp
 |x::r,m,nd,h=>by
  obtain⟨n1,n2⟩:=nodup_cons.mp nd;have hx:=h x fo;have:=LD (l:=r) (m:=m.erase x) n2 λy hy=>(List.mem_erase_of_ne (λe=>n1 (by rw[<- e];exact hy))).mpr (h y (fj _ hy));rw[List.length_erase_of_mem hx]at this;have:=List.length_pos_of_mem hx;simp only[fU];omega
structure Found(ps:List 115)(a:Int)(found fresh:List Int):Prop where
 nd:found.Nodup
 rc:∀x∈found,Rc ps a x
 fr:∀x∈fresh,x=a∨x∈found
 cl:∀x,(x=a∨x∈found)->x∈fresh∨∀y,(x,y)∈ps->y∈found
def Rc.snd{x y:Int}(h:Rc ps x y):y∈ps.map (·.2):=by
 cases h with
 |one h=>exact mem_map.mpr ⟨_,h,rfl⟩
 |step _ h=>exact mem_map.mpr ⟨_,h,rfl⟩
def Found.len{a:Int}{fresh:List Int}(h:Found ps a found fresh):found.length<=ps.length:=by
 have:=LD h.nd λx hx=>(h.rc x hx).snd;simpa using this
def Found.iff{a:Int}(h:Found ps a found [])(x:Int):x∈found↔Rc ps a x:=by
 refine⟨h.rc x,λr=>?_⟩
 induction r with
 |one e=>exact(h.cl a (.inl rfl)).elim (λz=>by cases z) λz=>z _ e
 |step _ e ih=>exact(h.cl _ (.inr ih)).elim (λz=>by cases z) λz=>z _ e
def V8(P:D)(hd:Hd)(g:Gd)(G:GOk hd g)(ps:List 115)(hp:112<=500)(a:Int)
 (hP:∀(z1 z2 z3 z4 z5 z6:Option D) (r:Hd),En 77 [some P,z1,z2,z3,z4,z5,z6] (hd++r)=some ((ps.map AY,g),hd++r)):∀(N:Nat) (found fresh:List Int) (z4 z5 z6:Option D),fresh.length+(112-found.length)<=N->fresh.length<=1+found.length->Found ps a found fresh->∃(k:Nat) (found':List Int) (y4 y5 y6:Option D),
 B3 (CB (A0 3)) NI k [some P,some (.im (.int a)),some (.mu 131),some (.mu (131+1)),z4,z5,z6] (hd++[.lst (intD found),.lst (intD fresh)]) =
  some (.nx [some P,some (.im (.int a)),some (.mu 131),some (.mu (131+1)),y4,y5,y6],hd++[.lst (intD found'),.lst []])/\Found ps a found' []:=by
 intro N
 induction N with
 |zero=>
  intro found fresh z4 z5 z6 hN _ F;have:fresh=[]:=List.length_eq_zero_iff.mp 59;subst this;refine⟨1,found,z4,z5,z6,?_,F⟩;simp only[B3,Js,DS,List.getElem?_cons_zero,List.getElem?_cons_succ,bind_some,By,g1,gj,List.isEmpty_nil,Bool.not_true,fR,Bool.false_eq_true,fT]
 |succ N ih=>
  intro found fresh z4 z5 z6 hN hfr F;rcases List.eq_nil_or_concat fresh with rfl|⟨fr,x,rfl⟩
  .refine⟨1,found,z4,z5,z6,?_,F⟩;simp only[B3,Js,DS,List.getElem?_cons_zero,List.getElem?_cons_succ,bind_some,By,g1,gj,List.isEmpty_nil,Bool.not_true,fR,Bool.false_eq_true,fT]
  .rw[List.concat_eq_append]at *;have fl:=F.len;simp only[fV,fU,gE]at hN hfr;obtain⟨new,y5,y6,q,l,nd,frh,al⟩:=Gm P hd g G a x ps found fr z5 z6 59 59;have F2:Found ps a (found++new) (fr++new):=by
    have rx:∀y∈new,Rc ps a y:=λy hy=>by
     rcases F.fr x 70 with rfl|h
     .exact .one (frh y hy).2
     .exact .step (F.rc x h) (frh y hy).2
    refine⟨nodup_append.mpr ⟨F.nd,nd,λu hu w hw e=>(frh w hw).1 (e ▸ hu)⟩,λy hy=>?_,λy hy=>?_,λw hw=>?_⟩
    .rcases mem_append.mp hy with h|h
     .exact F.rc y h
     .exact rx y h
    .rcases mem_append.mp hy with h|h
     .rcases F.fr y (by simp[h])with h|h
      .exact .inl h
      .exact .inr (gw _ h)
     .exact .inr (fm _ h)
    .by_cases hn:w∈new
     .exact .inl (fm _ hn)
     .have hw':w=a∨w∈found:=by
       rcases hw with h|h
       .exact .inl h
       .rcases mem_append.mp h with h|h
        .exact .inr h
        .exact absurd h hn
      rcases F.cl w hw' with h|h
      .rcases mem_append.mp h with h|h
       .exact .inl (gw _ h)
       .have:w=x:=by simpa using h
        subst this;exact .inr al
      .exact .inr λy hy=>gw _ (h y hy)
   have fl2:=F2.len;simp only[fV]at fl2;obtain⟨k,found',y4,w5,w6,e,F3⟩:=ih (found++new) (fr++new) (some (.im (.int x))) y5 y6 (by simp only[fV];omega) (by simp only[fV];omega) F2;refine⟨k+1,found',y4,w5,w6,?_,F3⟩;have pop:HK (.mu (131+1)) [] (hd++[.lst (intD found),.lst (intD (fr++[x]))])=some (.im (.int x),hd++[.lst (intD found),.lst (intD fr)]):=by
    simp only[HK,g1,gA,fq,gj,fV,fU,gE,fN];simp
   have ne:(intD (fr++[x])).isEmpty=false:=by simp
   unfold B3;simp only[Js,DS,List.getElem?_cons_zero,List.getElem?_cons_succ,bind_some,By,g1,ne,Bool.not_false,fR,fL,NI,Jt,Jv,Q8,Ho,Ju,pop,Kg,set_cons_succ,set_cons_zero,bX,hP,q,e]
def PR(P:D)(hd:Hd)(g:Gd)(G:GOk hd g)(ps:List 115)(hp:112<64)(a:Int)
 (hP:∀(z1 z2 z3 z4 z5 z6:Option D) (r:Hd),En 77 [some P,z1,z2,z3,z4,z5,z6] (hd++r)=some ((ps.map AY,g),hd++r)):∃(found:List Int) (r:Hd),F_reached [P,.im (.int a)] hd=some (.im (.tup ((AX found).map I.int)),hd++r)/\found.Nodup/\(∀x,x∈found↔Rc ps a x)/\found.length<=ps.length:=by
 obtain⟨k,found,y4,y5,y6,e,F⟩:=V8 P hd g G ps 59 a hP (1+112) [] [a] none none none 70 70 ⟨.nil,(λx h=>by cases h),(λx h=>Or.inl (by simpa using h)),(λx h=>Or.inl (by simpa using h))⟩;have e:=LI e;have fl:=F.len;refine⟨found,[.lst (intD found),.lst []],?_,F.nd,F.iff,fl⟩;have mk:B0 ((AX found).map λi=>D.im 134)=.im (.tup ((AX found).map I.int)):=by
  have:((AX found).map λi=>D.im 134)=((AX found).map I.int).map D.im:=by rw[fM];rfl
  rw[this,BX]
 simp only[gj,fq]at e;have lt:found.length<64:=by omega
 simp only[F_reached,mkF,Le,Jt,Jv,bP,bR,Ki,Ju,DS,fq,gj,fU,gE,gJ,gQ,List.replicate,Nat.reduceAdd,Nat.reduceSub,fL,List.getElem?_cons_zero,List.getElem?_cons_succ,bind_some,E6,DQ,Kg,fR,set_cons_succ,set_cons_zero,fV,gz,e,SU,SW,SS,SV,g0,SG,lt,Bb,mk]
end Bd
namespace Rw
open PySem L2 Bd
@[reducible] noncomputable def Le:MS:=(A5 (AE 2 (AU (Ab A3)))
 (A5 (AE 3 (AU (Ab (A1 139 A3))))
 (A5 (Ch (CB (A0 3))
  (A5 (AE 4 (mMt HK (A0 3) A3))
 (BA (En 77) (Bj 2 (AZ (AC 5) (AZ (AC 6) Bl)))
  (Ag (CP (A7 (mOp gEq (A0 5) (A0 4))) (A7 (mOp (gIn true) (A0 6) 144)))
  (A5 (Aq (mMt Ad 144 (A1 (A0 6) A3)))
 (Aq (mMt Ad (A0 3) (A1 (A0 6) A3))))
  Aa))))
 (AN (B9 Bb (Bn (BI 144)))))))
noncomputable def F_reached:List D->Hd->Option 121:=mkF 2 7 Le
@[reducible] noncomputable def ab:MS:=(AN (A9 0 F_reached (A1 139 (A1 144 A3))))
noncomputable def F_behind:List D->Hd->Option 121:=mkF 3 3 ab
def Ul(ps:List 115):(ps.map FV).map D.im=ps.map AY:=by rw[fM];rfl
noncomputable abbrev wI(ps:List 115):I:=.tup (ps.map FV)
def SR:F_reached=Bd.F_reached:=rfl
def behind_eq{ps:List 115}(hp:112<64)(n a:Int):∃(found:List Int) (g:Hd),F_behind [.im (.int n),.im (wI ps),.im (.int a)] []=some (.im (.tup ((AX found).map I.int)),g)/\found.Nodup/\∀x,x∈found↔Rc ps a x:=by
 obtain⟨found,r,e,nd,mem,_⟩:=PR (.im (wI ps)) [] [] (AJ _) ps hp a λz1 z2 z3 z4 z5 z6 r=>by
  have:=YN (m:=A0 0) (ls:=[some (.im (wI ps)),z1,z2,z3,z4,z5,z6]) (hd:=[]++r) (hd':=[]++r) (is:=ps.map FV) rfl;rw[this,Ul]
 refine⟨found,[],?_,nd,mem⟩;have c:=HV (m:=A1 139 (A1 144 A3)) (F:=Bd.F_reached) (ls:=[some (.im (.int n)),some (.im (wI ps)),some (.im (.int a))]) (hd:=[]) (ds:=[.im (wI ps),.im (.int a)]) (hd1:=[]) 70 70 e;simp only[F_behind,mkF,ab,SR,SU,fq,gj,fU,gE,gJ,gQ,List.replicate,Nat.reduceAdd,Nat.reduceSub,fL,c,bind_some]
end Rw
namespace Sx
open L2
noncomputable def S(l:Nat->Int)(C:List Nat):Int:=(C.map l).sum
noncomputable def cst(C:List Nat):List Int:=C.map λk:Nat=>(k:Int)
noncomputable abbrev Blk:=Int×Int×List Int
noncomputable def Aj(h l:Nat->Int)(e:Int):List Nat->List Nat×List Nat
 |[]=>([],[])
 |m::r=>if e<=h m then([],m::r)else(m::(Aj h l (e+l m) r).1,(Aj h l (e+l m) r).2)
def spl(h l:Nat->Int)(b e:Int)(C:List Nat):List Nat->List Blk
 |[]=>[(b,e,AX (cst C))]
 |m::r=>if e<=h m then(b,e,AX (cst C))::spl h l (h m) (h m+l m) [m] r else spl h l b (e+l m) (C++[m]) r
noncomputable def Fw(h l:Nat->Int):List Nat->List Blk
 |[]=>[]
 |m::r=>spl h l (h m) (h m+l m) [m] r
def W5(l:Nat->Int)(C D:List Nat):S l (C++D)=S l C+S l D:=by simp[S]
def BH(l:Nat->Int)(m:Nat)(D:List Nat):S l (m::D)=l m+S l D:=by simp[S]
def Nm{l:Nat->Int}{C D:List Nat}(p:C.Perm D):S l C=S l D:=by
 induction p with
 |nil=>rfl
 |cons x _ ih=>rw[BH,BH,ih]
 |swap x y r=>simp only[BH];omega
 |trans _ _ a b=>exact a.trans b
theorem L0{h l:Nat->Int}:∀(r:List Nat) (b e:Int) (C:List Nat),spl h l b e C r=(b,e+S l (Aj h l e r).1,AX (cst (C++(Aj h l e r).1)))::Fw h l (Aj h l e r).2
 |[],b,e,C=>by simp[spl,Aj,Fw,S]
 |m::r,b,e,C=>by
  unfold spl Aj;by_cases q:e<=h m
  .rw[fb q,fb q];simp[Fw,S]
  .rw[fe q,fe q,L0 r b (e+l m) (C++[m])];simp only[BH,gz,gJ,gQ];rw[show e+l m+S l (Aj h l (e+l m) r).1=e+(l m+S l (Aj h l (e+l m) r).1) by omega]
structure ChOk(h l:Nat->Int)(b:Int)(C R:List Nat):Prop where
 fst:∃c C',C=c::C'/\h c=b
 lo:∀x∈C,b<=h x
 step:∀(D:List Nat) (x:Nat) (E:List Nat),C=D++x::E->D≠[]->h x<b+S l D
 rest:∀x∈R,b+S l C<=h x
theorem HU{h l:Nat->Int}:∀(r:List Nat) (e:Int),(Aj h l e r).1++(Aj h l e r).2=r
 |[],e=>rfl
 |m::r,e=>by
  unfold Aj;split
  .rfl
  .simp[HU r (e+l m)]
theorem Jx{h l:Nat->Int}:∀(r:List Nat) (e:Int) (D:List Nat) (x:Nat) (E:List Nat),(Aj h l e r).1=D++x::E->h x<e+S l D
 |[],e,D,x,E,q=>by simp[Aj]at q
 |m::r,e,D,x,E,q=>by
  unfold Aj at q;split at q
  .simp at q
  .next c=>
   cases D with
   |nil=>
    simp at q;obtain⟨rfl,_⟩:=q;simp[S];omega
   |cons d D=>
    simp at q;obtain⟨rfl,q⟩:=q;have:=Jx r (e+l m) D x E q;rw[BH];omega
theorem Jy{h l:Nat->Int}:∀(r:List Nat) (e:Int),r.Pairwise (λa b=>h a<=h b)->∀x∈(Aj h l e r).2,e+S l (Aj h l e r).1<=h x
 |[],e,_,x,hx=>by simp[Aj]at hx
 |m::r,e,pw,x,hx=>by
  rw[ie]at pw;unfold Aj at hx ⊢;split at hx
  .next c=>
   rw[fb c];simp only[S,gj,List.sum_nil,Int.add_zero];rcases mem_cons.mp hx with rfl|hx
   .exact c
   .have:=pw.1 x hx;omega
  .next c=>
   rw[fe c];have:=Jy r (e+l m) pw.2 x hx;simp only[BH];omega
def VM{h l:Nat->Int}{m:Nat}(pw:(m::r).Pairwise λa b=>h a<=h b):ChOk h l (h m) (m::(Aj h l (h m+l m) r).1) (Aj h l (h m+l m) r).2:=by
 rw[ie]at pw;refine⟨⟨m,_,rfl,rfl⟩,λx hx=>?_,λD x E e ne=>?_,λx hx=>?_⟩
 .rcases mem_cons.mp hx with rfl|hx
  .exact 102 _
  .exact pw.1 x (by rw[<- HU r (h m+l m)];exact gw _ hx)
 .cases D with
  |nil=>exact absurd rfl ne
  |cons d D=>
   simp at e;obtain⟨rfl,e⟩:=e;have:=Jx r (h m+l m) D x E e;rw[BH];omega
 .have:=Jy r (h m+l m) pw.2 x hx;rw[BH];omega
theorem K4{l:Nat->Int}(hl:∀k,0<=l k):∀{C T:List Nat},C.Nodup->(∀x∈C,x∈T)->S l C<=S l T
 |[],T,_,_=>by
  have:∀T:List Nat,0<=S l T:=λT=>by
   induction T with
   |nil=>simp[S]
   |cons x r ih=>rw[BH];have:=hl x;omega
  simpa [S]using this T
 |c::C,T,nd,hs=>by
  rw[nodup_cons]at nd;have hc:c∈T:=hs c 70;have:=K4 hl (C:=C) (T:=T.erase c) nd.2 λx hx=>(List.mem_erase_of_ne (λz=>nd.1 (by rw[<- z];exact hx))).mpr (hs x (by simp[hx]));rw[BH,Nm (List.perm_cons_erase hc),BH];omega
inductive Rows(h l:Nat->Int):List Nat->List Blk->Prop
 |nil:Rows h l [] []
 |cons {left C R:List Nat} {b:Int} {bs:List Blk}:left.Perm (C++R)->ChOk h l b C R->Rows h l (left.filter λk=>!decide (k∈C)) bs->Rows h l left ((b,b+S l C,cst (left.filter λk=>decide (k∈C)))::bs)
def SF{left:List Nat}(hs:left.Pairwise (·<·))(pf:(left.filter λk=>decide (k∈C)).Perm C):AX (cst C)=cst (left.filter λk=>decide (k∈C)):=by
 refine Cn ((Br _).trans (pf.symm.map _)) (Cc _) ?_;unfold cst;rw[gY];exact(hs.sublist gu).imp λq=>by omega
def rows_stret{h l:Nat->Int}(hl:∀k,1<=l k):∀(n:Nat) (ms left:List Nat),ms.length=n->left.Pairwise (·<·)->ms.Perm left->ms.Pairwise (λa b=>h a<=h b)->Rows h l left (Fw h l ms):=by
 intro n
 induction n using Nat.strongRecOn with
 |_ n ih=>
  intro ms left hn hs pm pw;cases ms with
  |nil=>
   have:left=[]:=by simpa using pm.symm
   subst this;exact .nil
  |cons m r=>
   have ca:=HU (h:=h) (l:=l) r (h m+l m);have K:=VM (h:=h) (l:=l) pw;have nd:left.Nodup:=hs.imp λq=>by omega
   have ep:left.Perm ((m::(Aj h l (h m+l m) r).1)++(Aj h l (h m+l m) r).2):=by
    have:(m::(Aj h l (h m+l m) r).1)++(Aj h l (h m+l m) r).2=m::r:=by rw[gJ,ca]
    rw[this];exact pm.symm
   have ndC:=ep.nodup_iff.mp nd;have pf:(left.filter λk=>decide (k∈m::(Aj h l (h m+l m) r).1)).Perm (m::(Aj h l (h m+l m) r).1):=by
    refine(List.perm_ext_iff_of_nodup (nd.sublist gu) (ndC.sublist (List.sublist_append_left _ _))).mpr λx=>?_;rw[mem_filter];constructor
    .intro q;simpa using q.2
    .intro q;exact⟨ep.mem_iff.mpr (gw _ q),by simpa using q⟩
   have pr:(Aj h l (h m+l m) r).2.Perm (left.filter λk=>!decide (k∈m::(Aj h l (h m+l m) r).1)):=by
    refine(List.perm_ext_iff_of_nodup (ndC.sublist (List.sublist_append_right _ _)) (nd.sublist gu)).mpr λx=>?_;rw[mem_filter];constructor
    .intro q;refine⟨ep.mem_iff.mpr (fm _ q),?_⟩;have:x∉m::(Aj h l (h m+l m) r).1:=λz=>(nodup_append.mp ndC).2.2 x z x q rfl;simpa using this
    .intro q;rcases mem_append.mp (ep.mem_iff.mp q.1)with z|z
     .have:=q.2;simp at this z;exact absurd z (by simpa using this)
     .exact z
   have lt:(Aj h l (h m+l m) r).2.length<n:=by
    have:=fS List.length ca;simp at this hn;omega
   have pw2:(Aj h l (h m+l m) r).2.Pairwise λa b=>h a<=h b:=by
    rw[ie]at pw;have:=pw.2;rw[<- ca]at this;exact this.sublist (List.sublist_append_right _ _)
   have R:=ih _ lt _ _ rfl (hs.sublist gu) pr pw2;show Rows h l left (spl h l (h m) (h m+l m) [m] r);rw[L0,gJ,gQ,SF hs pf,show h m+l m+S l (Aj h l (h m+l m) r).1=h m+S l (m::(Aj h l (h m+l m) r).1) by rw[BH];omega];exact .cons ep K R
end Sx
namespace Bk
open L2 Sx
noncomputable def upd(f:Nat->Int)(k:Nat)(v:Int):Nat->Int:=λj=>if j=k then v else f j
def upd_self(f:Nat->Int)(k:Nat)(v:Int):upd f k v k=v:=by simp[upd]
def upd_ne{f:Nat->Int}{k j:Nat}{v:Int}(h:j≠k):upd f k v j=f j:=by simp[upd,h]
structure Hs(n:Nat)(c l:Nat->Int)(W:List 119)(h:Nat->Int):Prop where
 pos:∀k,k<n->1<=l k
 ins:∀p∈W,p.1<n/\p.2<n
 lo:∀k,k<n->c k<=h k
 st:∀p∈W,h p.1+l p.1<=h p.2
 eq:∀k,k<n->h k=c k∨∃p∈W,p.2=k/\h k=h p.1+l p.1
noncomputable def dn(l left:Nat->Int)(ks:List Nat):Int:=(ks.map λk=>l k-left k).sum
structure Inv(n:Nat)(l h:Nat->Int)(W:List 119)(left en:Nat->Int)(t:Int):Prop where
 lo:∀k,k<n->0<=left k/\left k<=l k
 et:∀k,k<n->left k<l k->en k<=t
 bd:∀ks:List Nat,ks.Nodup->(∀k∈ks,k<n)->∀b:Int,(∀k∈ks,b<=h k)->(∀k∈ks,left k=l k)∨∃u∈ks,left u<l u/\b+dn l left ks<=en u
 wi:∀p∈W,left p.2<l p.2->left p.1=0/\en p.1<en p.2
def Inv.start{n:Nat}{l h:Nat->Int}(ins:∀p∈W,p.1<n/\p.2<n){left en:Nat->Int}{t:Int}(pos:∀k,k<n->1<=l k)(hl:∀k,k<n->left k=l k):Inv n l h W left en t where
 lo k hk:=by have:=pos k hk;rw[hl k hk];omega
 et k hk q:=by rw[hl k hk]at q;omega
 bd ks _ hk b _:=.inl λk hk'=>hl k (hk k hk')
 wi p hp q:=by rw[hl p.2 (ins p hp).2]at q;omega
theorem NT{l left:Nat->Int}{k:Nat}{v:Int}:∀{ks:List Nat},ks.Nodup->dn l (upd left k v) ks=dn l left ks+if k∈ks then left k-v else 0
 |[],_=>by simp[dn]
 |x::r,nd=>by
  obtain⟨h1,h2⟩:=nodup_cons.mp nd;have ih:=NT (l:=l) (left:=left) (k:=k) (v:=v) h2;unfold dn at ih ⊢;simp only[fq,sum_cons,ih];by_cases e:x=k
  .subst e;rw[upd_self,fe h1,fb 70];omega
  .rw[upd_ne e];by_cases q:k∈r
   .rw[fb q,fb (by simp[q])];omega
   .rw[fe q,fe (by simp[q];exact λz=>e z.symm)];omega
theorem Km{l left:Nat->Int}:∀{ks:List Nat},(∀k∈ks,left k=l k)->dn l left ks=0
 |[],_=>rfl
 |x::r,h=>by
  have ih:=Km (l:=l) (left:=left) (ks:=r) λk hk=>h k (by simp[hk]);have h0:=h x 70;unfold dn at ih ⊢;simp only[fq,sum_cons,ih];omega
def Inv.head{n:Nat}{c l h:Nat->Int}(H:Hs n c l W h){left en:Nat->Int}{t:Int}(I:Inv n l h W left en t){k:Nat}(hk:k<n){x:Int}(tx:t<=x)(cx:c k<=x)(hf:∀p∈W,p.2=k->left p.1=0):h k<=x:=by
 rcases H.eq k hk with e|⟨p,hp,e1,e2⟩
 .omega
 .have l0:=hf p hp e1;have pn:=(H.ins p hp).1;have lp:=H.pos p.1 pn;rcases I.bd [p.1] 70 (by simpa using pn) (h p.1) 70 with q|⟨u,hu,_,q⟩
  .have:=q p.1 70;omega
  .rw[fO]at hu;subst hu;have:=I.et p.1 pn 59;simp[dn]at q;omega
def Inv.step{n:Nat}{c l h:Nat->Int}(H:Hs n c l W h){left en:Nat->Int}{t:Int}(I:Inv n l h W left en t){k:Nat}(hk:k<n){x m:Int}(tx:t<=x)(cx:c k<=x)(hf:∀p∈W,p.2=k->left p.1=0)(m1:1<=m)(m2:m<=left k):
 Inv n l h W (upd left k (left k-m)) (upd en k (x+m)) (x+m):=by
 have hx:=I.head H hk tx cx hf;have lk:=I.lo k hk;refine⟨λj hj=>?_,λj hj q=>?_,λks nd hn b hb=>?_,λp hp q=>?_⟩
 .by_cases e:j=k
  .subst e;rw[upd_self];omega
  .rw[upd_ne e];exact I.lo j hj
 .by_cases e:j=k
  .subst e;rw[upd_self];exact 102 _
  .rw[upd_ne e]at q ⊢;have:=I.et j hj q;omega
 .rw[NT nd];have ob:=I.bd ks nd hn b hb;by_cases e:k∈ks
  .refine .inr ⟨k,e,by rw[upd_self];omega,?_⟩;rw[upd_self,fb e];have bk:=hb k e;rcases ob with q|⟨u,hu,q1,q2⟩
   .rw[Km q];omega
   .have:=I.et u (hn u hu) q1;omega
  .rw[fe e];rcases ob with q|⟨u,hu,q1,q2⟩
   .refine .inl λj hj=>?_;rw[upd_ne (λz:j=k=>e (z ▸ hj))];exact q j hj
   .have ne:u≠k:=λz=>e (z ▸ hu);exact .inr ⟨u,hu,by rw[upd_ne ne];exact q1,by rw[upd_ne ne];omega⟩
 .by_cases e:p.2=k
  .have l0:=hf p hp e;have ne:p.1≠k:=λz=>by rw[z]at l0;omega
   rw[upd_ne ne,upd_ne ne,e,upd_self];refine⟨l0,?_⟩;have pn:=(H.ins p hp).1;have:=H.pos p.1 pn;have:=I.et p.1 pn 59;omega
  .rw[upd_ne e]at q;obtain⟨q1,q2⟩:=I.wi p hp q;have ne:p.1≠k:=λz=>by rw[z]at q1;omega
   rw[upd_ne ne,upd_ne ne,upd_ne e];exact⟨q1,q2⟩
theorem Og{l left:Nat->Int}:∀{ks:List Nat},(∀k∈ks,left k=0)->dn l left ks=S l ks
 |[],_=>rfl
 |x::r,h=>by
  have ih:=Og (l:=l) (left:=left) (ks:=r) λk hk=>h k (by simp[hk]);have h0:=h x 70;rw[BH];unfold dn at ih ⊢;simp only[fq,sum_cons,ih];omega
def arg_maxI(f:Nat->Int):∀ks:List Nat,ks≠[]->∃u∈ks,∀v∈ks,f v<=f u:=by
 intro ks
 induction ks with
 |nil=>intro h;exact absurd rfl h
 |cons x r ih=>
  intro _;by_cases hr:r=[]
  .subst hr;exact⟨x,by simp,by simp⟩
  .obtain⟨u,hu,hm⟩:=ih hr;by_cases q:f u<=f x
   .refine⟨x,by simp,λv hv=>?_⟩;rcases mem_cons.mp hv with rfl|hv
    .exact 102 _
    .exact Int.le_trans (hm v hv) q
   .refine⟨u,by simp[hu],λv hv=>?_⟩;rcases mem_cons.mp hv with rfl|hv
    .omega
    .exact hm v hv
def Inv.low{n:Nat}{c l h:Nat->Int}(H:Hs n c l W h){left en:Nat->Int}{t:Int}(I:Inv n l h W left en t)(h0:∀k,k<n->left k=0)(hne:ks≠[])(nd:ks.Nodup)(hn:∀k∈ks,k<n){b:Int}(hb:∀k∈ks,b<=h k):
 ∃u∈ks,b+S l ks<=en u/\∀v∈ks,en v<=en u:=by
 obtain⟨u,hu,hm⟩:=arg_maxI en ks hne;refine⟨u,hu,?_,hm⟩;rcases I.bd ks nd hn b hb with q|⟨v,hv,_,q⟩
 .have:=q u hu;have:=h0 u (hn u hu);have:=H.pos u (hn u hu);omega
 .rw[Og λk hk=>h0 k (hn k hk)]at q;exact Int.le_trans q (hm v hv)
noncomputable abbrev Pc:=Nat×Int×Int
noncomputable def tot(k:Nat):List Pc->Int
 |[]=>0
 |p::r=>(if p.1=k then p.2.2-p.2.1 else 0)+tot k r
noncomputable def Dg:List Pc->Int
 |[]=>0
 |p::r=>(p.2.2-p.2.1)+Dg r
noncomputable def gf(u:Nat)(at_ e:Int):List Pc->List Pc
 |[]=>[(u,at_,e)]
 |q::r=>(if at_<q.2.1 then [(u,at_,q.2.1)]else [])++q::gf u q.2.2 e r
theorem tot_app(k:Nat):∀a b:List Pc,tot k (a++b)=tot k a+tot k b
 |[],b=>by simp[tot]
 |p::r,b=>by simp only[gJ,tot,tot_app k r b];omega
theorem tot_none{k:Nat}:∀{a:List Pc},(∀p∈a,p.1≠k)->tot k a=0
 |[],_=>rfl
 |p::r,h=>by
  rw[tot,fe (h p 70),tot_none λq hq=>h q (by simp[hq])];rfl
theorem tot_nn{k:Nat}:∀{a:List Pc},(∀p∈a,p.2.1<p.2.2)->0<=tot k a
 |[],_=>102 _
 |p::r,h=>by
  have h1:=h p 70;have h2:=tot_nn (k:=k) (a:=r) λq hq=>h q (by simp[hq]);rw[tot];split<;>omega
def Row(b:Int):List Pc->Prop
 |[]=>True
 |p::r=>b<=p.2.1/\p.2.1<p.2.2/\Row p.2.2 r
def Row.mono{b b':Int}(h:b'<=b):∀{ps:List Pc},Row b ps->Row b' ps
 |[],_=>trivial
 |p::r,q=>⟨by have:=q.1;omega,q.2.1,q.2.2⟩
theorem Row.ge{b:Int}:∀{ps:List Pc},Row b ps->∀p∈ps,b<=p.2.1/\p.2.1<p.2.2
 |[],_,p,hp=>by cases hp
 |q::r,h,p,hp=>by
  rcases mem_cons.mp hp with rfl|hp
  .exact⟨h.1,h.2.1⟩
  .have:=h.2.2.ge p hp;have:=h.1;have:=h.2.1;exact⟨by omega,by omega⟩
theorem Row.app{e:Int}:∀{ps qs:List Pc} {b:Int},Row b ps->b<=e->(∀p∈ps,p.2.2<=e)->Row e qs->Row b (ps++qs)
 |[],qs,b,_,h1,_,h=>h.mono h1
 |p::r,qs,b,h,h1,h2,h3=>⟨h.1,h.2.1,Row.app h.2.2 (h2 p 70) (λq hq=>h2 q (by simp[hq])) h3⟩
theorem IS{P:Pc->Prop}[DecidablePred P]{g:Int}:∀{ps:List Pc} {b:Int},Row b ps->b<=g->(∀p∈ps,P p->p.2.2<=g)->Dg (ps.filter λp=>decide (P p))<=g-b
 |[],b,_,h,_=>by simp[Dg];omega
 |p::r,b,h,hb,hp=>by
  have h1:=h.1;have h2:=h.2.1;by_cases q:P p
  .have e:=hp p 70 q;have ih:=IS (P:=P) h.2.2 e λx hx=>hp x (by simp[hx]);rw[hZ (by simpa using q),Dg];omega
  .rw[i8 (by simpa using q)];exact IS (P:=P) (h.2.2.mono 59) hb λx hx=>hp x (by simp[hx])
theorem LH{d:Nat}{D:List Nat}(hd:d∉D):∀ps:List Pc,Dg (ps.filter λp=>decide (p.1∈d::D))=tot d ps+Dg (ps.filter λp=>decide (p.1∈D))
 |[]=>rfl
 |p::r=>by
  have ih:=LH hd r;rw[tot];by_cases e:p.1=d
  .rw[hZ (by simp[e]),i8 (by simpa [e]using hd),Dg,ih,fb e];omega
  .by_cases q:p.1∈D
   .rw[hZ (by simp[q]),hZ (by simp[q]),Dg,Dg,ih,fe e];omega
   .rw[i8 (by simp[q,e]),i8 (by simp[q]),ih,fe e];omega
theorem N9{l:Nat->Int}:∀{D:List Nat},D.Nodup->(∀d∈D,tot d ps=l d)->Dg (ps.filter λp=>decide (p.1∈D))=S l D
 |[],_,_=>by
  have:(ps.filter λp=>decide (p.1∈([]:List Nat)))=[]:=by simp
  rw[this];rfl
 |d::D,nd,h=>by
  obtain⟨h1,h2⟩:=nodup_cons.mp nd;rw[LH h1,N9 h2 λx hx=>h x (by simp[hx]),BH,h d 70]
def Uu{ps:List Pc}{D:List Nat}(h:∀p∈ps,p.1∈D):(ps.filter λp=>decide (p.1∈D))=ps:=
 List.filter_eq_self.mpr λp hp=>by simpa using h p hp
theorem SK{u:Nat}{e:Int}:∀{qs:List Pc} {a:Int},Row a qs->(∀q∈qs,q.2.2<e)->a<e->∀p∈gf u a e qs,p∈qs∨(p.1=u/\a<=p.2.1/\p.2.1<p.2.2/\p.2.2<=e/\∀q∈qs,q.2.2<=p.2.1∨p.2.2<=q.2.1)
 |[],a,_,_,h,p,hp=>by
  rw[gf,fO]at hp;subst hp;exact .inr ⟨rfl,102 _,h,102 _,by simp⟩
 |q::r,a,hr,he,h,p,hp=>by
  have h1:=hr.1;have h2:=hr.2.1;have he1:=he q 70;have rg:=hr.2.2.ge;rw[gf]at hp;rcases mem_append.mp hp with hp|hp
  .by_cases c:a<q.2.1
   .rw[fb c,fO]at hp;subst hp;refine .inr ⟨rfl,102 _,c,by show q.2.1<=e;omega,λx hx=>.inr ?_⟩;show q.2.1<=x.2.1;rcases mem_cons.mp hx with rfl|hx
    .exact 102 _
    .have:=rg x hx;omega
   .rw[fe c]at hp;cases hp
  .rcases mem_cons.mp hp with rfl|hp
   .exact .inl 70
   .rcases SK hr.2.2 (λx hx=>he x (by simp[hx])) he1 p hp with z|⟨z1,z2,z3,z4,z5⟩
    .exact .inl (by simp[z])
    .refine .inr ⟨z1,by omega,z3,z4,λx hx=>?_⟩;rcases mem_cons.mp hx with rfl|hx
     .exact .inl z2
     .exact z5 x hx
theorem SJ{u:Nat}{e:Int}:∀{qs:List Pc} {a:Int},Row a qs->(∀q∈qs,q.2.2<e)->a<e->Row a (gf u a e qs)
 |[],a,_,_,h=>⟨102 _,h,trivial⟩
 |q::r,a,hr,he,h=>by
  have ih:=SJ (u:=u) hr.2.2 (λx hx=>he x (by simp[hx])) (he q 70);rw[gf];by_cases c:a<q.2.1
  .rw[fb c];exact⟨102 _,c,102 _,hr.2.1,ih⟩
  .rw[fe c];exact⟨hr.1,hr.2.1,ih⟩
theorem NK{u:Nat}{e:Int}:∀{qs:List Pc} {a:Int},Row a qs->(∀q∈qs,q.2.2<e)->∀y,a<=y->y<e->∃p∈gf u a e qs,p.2.1<=y/\y<p.2.2
 |[],a,_,_,y,h1,h2=>⟨(u,a,e),by simp[gf],h1,h2⟩
 |q::r,a,hr,he,y,h1,h2=>by
  rw[gf];by_cases c:y<q.2.1
  .exact⟨(u,a,q.2.1),gw _ (by rw[fb 59];simp),h1,c⟩
  .by_cases c2:y<q.2.2
   .exact⟨q,by simp,by omega,c2⟩
   .obtain⟨p,hp,z⟩:=NK (u:=u) hr.2.2 (λx hx=>he x (by simp[hx])) y 59 h2;exact⟨p,fm _ (fj _ hp),z⟩
theorem SI{u:Nat}{e:Int}:∀{qs:List Pc} {a:Int},Row a qs->(∀q∈qs,q.1≠u)->tot u (gf u a e qs)=e-a-Dg qs
 |[],a,_,_=>by simp[gf,tot,Dg]
 |q::r,a,hr,hu=>by
  have ih:=SI (e:=e) hr.2.2 λx hx=>hu x (by simp[hx]);have h1:=hr.1;rw[gf,tot_app,tot,fe (hu q 70),ih,Dg];by_cases c:a<q.2.1
  .rw[fb c];simp[tot];omega
  .rw[fe c];simp[tot];omega
theorem LP{u k:Nat}(h:k≠u){e:Int}:∀{qs:List Pc} {a:Int},tot k (gf u a e qs)=tot k qs
 |[],a=>by simp only[gf,tot];rw[fe λz:u=k=>h z.symm];rfl
 |q::r,a=>by
  have ih:=LP h (e:=e) (qs:=r) (a:=q.2.2);rw[gf,tot_app,tot,tot,ih];by_cases c:a<q.2.1
  .rw[fb c];simp only[tot];rw[fe λz:u=k=>h z.symm];omega
  .rw[fe c];simp[tot]
theorem FH{P:Nat->Prop}[DecidablePred P]:∀{C:List Nat},(∃c∈C,¬ P c)->∃D x E,C=D++x::E/\(∀d∈D,P d)/\¬ P x
 |[],h=>by obtain⟨c,hc,_⟩:=h;cases hc
 |c::r,h=>by
  by_cases q:P c
  .obtain⟨D,x,E,e,h1,h2⟩:=FH (C:=r) (P:=P) (by
    obtain⟨d,hd,z⟩:=h;rcases mem_cons.mp hd with rfl|hd
    .exact absurd q z
    .exact⟨d,hd,z⟩)
   refine⟨c::D,x,E,by rw[e];rfl,λd hd=>?_,h2⟩;rcases mem_cons.mp hd with rfl|hd
   .exact q
   .exact h1 d hd
  .exact⟨[],c,r,rfl,by simp,q⟩
def Wd(h l:Nat->Int)(M:List Nat)(e:Int):Prop:=(∃c∈M,e=h c+S l M)/\∀c∈M,e<=h c+S l M
inductive Brk(h l:Nat->Int)(ch:List Nat->Int->Nat->Prop):List Nat->List Pc->List (List Nat)->Prop
 |nil:Brk h l ch [] [] []
 |cons {left C R:List Nat} {b:Int} {u:Nat} {qs ps:List Pc} {ts ss:List (List Nat)} (pm:left.Perm (C++R)) (K:ChOk h l b C R) (hc:ch (left.filter λk=>decide (k∈C)) (b+S l C) u) (hu:u∈C) (inn:Brk h l ch ((left.filter λk=>decide (k∈C)).filter λk=>decide (k≠u)) qs ts) (rst:Brk h l ch (left.filter λk=>!decide (k∈C)) ps ss):
  Brk h l ch left (gf u b (b+S l C) qs++ps) (((left.filter λk=>decide (k∈C))::ts)++ss)
structure Ok(h l:Nat->Int)(W:List 119)(ch:List Nat->Int->Nat->Prop)(left:List Nat)(ps:List Pc)(ss:List (List Nat)):Prop where
 mem:∀p∈ps,p.1∈left/\h p.1<=p.2.1
 row:∀b,(∀k∈left,b<=h k)->Row b ps
 tot:∀k∈left,tot k ps=l k
 wis:∀w∈W,w.1∈left->w.2∈left->∀q∈ps,∀r∈ps,q.1=w.1->r.1=w.2->q.2.2<=r.2.1
 fre:∀x,(∀q∈ps,q.2.2<=x∨x<q.2.1)->∀q∈ps,h q.1<=x->q.2.2<=x
 blk:∀q∈ps,∃(b':Int) (D:List Nat),D.Nodup/\(∀d∈D,d∈left)/\(∀d∈D,b'<=h d)/\(∃d∈D,h d=b')/\q.2.2<=b'+S l D
 cst:∀k∈left,∃M∈ss,∃e,ch M e k/\Wd h l M e/\∀q∈ps,q.1=k->q.2.2<=e
 set:∀M∈ss,M≠[]/\M.Sublist left
def cy{h l:Nat->Int}(hl:∀k,1<=l k){b:Int}(K:ChOk h l b C R){x:Nat}(hx:x∈C):h x<b+S l C:=by
 obtain⟨D,E,e⟩:=List.append_of_mem hx;have h0:0<=S l E:=by have:=K4 (l:=l) (λk=>by have:=hl k;omega) (C:=[]) (T:=E) .nil 70;simpa [S]using this
 have hx1:=hl x;rw[e,W5,BH];by_cases q:D=[]
 .subst q;obtain⟨c,C',e1,e2⟩:=K.fst;rw[e]at e1;have:x=c:=(133 e1).1;subst this;simp[S]at *;omega
 .have:=K.step D x E e q;omega
def Brk.ok{h l:Nat->Int}(hl:∀k,1<=l k)(hW:∀w∈W,h w.1+l w.1<=h w.2){ch:List Nat->Int->Nat->Prop}(hch:∀M e u,ch M e u->∀w∈W,w.1=u->w.2∉M){left:List Nat}(B:Brk h l ch left ps ss):left.Nodup->Ok h l W ch left ps ss:=by
 have hl0:∀k,0<=l k:=λk=>by have:=hl k;omega
 induction B with
 |nil=>intro _;exact⟨by simp,λ_ _=>trivial,by simp,by simp,by simp,by simp,by simp,by simp⟩
 |@cons left C R b u qs ps ts ss pm K hc hu inn rst ihI ihR=>
  intro nd;have ndC:(C++R).Nodup:=pm.nodup_iff.mp nd;have nC:C.Nodup:=ndC.sublist (List.sublist_append_left _ _);have cl:∀k∈C,k∈left:=λk hk=>pm.mem_iff.mpr (gw _ hk);have mM:∀k,k∈left.filter (λk=>decide (k∈C))↔k∈C:=λk=>by
   rw[mem_filter];exact⟨λz=>by simpa using z.2,λz=>⟨cl k z,by simpa using z⟩⟩
  have mN:∀k,k∈(left.filter λk=>decide (k∈C)).filter (λk=>decide (k≠u))↔k∈C/\k≠u:=λk=>by
   rw[mem_filter,mM];simp
  have mR:∀k,k∈left.filter (λk=>!decide (k∈C))->k∈left/\k∉C/\b+S l C<=h k:=λk z=>by
   obtain⟨z1,z2⟩:=mem_filter.mp z;have z2:k∉C:=by simpa using z2
   refine⟨z1,z2,K.rest k ?_⟩;rcases mem_append.mp (pm.mem_iff.mp z1)with q|q
   .exact absurd q z2
   .exact q
  have inR:∀k,k∈left->k∉C->k∈left.filter (λk=>!decide (k∈C)):=λk z1 z2=>mem_filter.mpr ⟨z1,by simpa using z2⟩;have ndM:(left.filter λk=>decide (k∈C)).Nodup:=nd.sublist gu;have ndN:=ndM.sublist (gu (p:=λk=>decide (k≠u)));have I:=ihI ndN;have Rt:=ihR (nd.sublist gu);clear ihI ihR;have sM:S l (left.filter λk=>decide (k∈C))=S l C:=Nm ((List.perm_ext_iff_of_nodup ndM nC).mpr mM);have sN:S l ((left.filter λk=>decide (k∈C)).filter λk=>decide (k≠u))+l u=S l C:=by
   have:(u::(left.filter λk=>decide (k∈C)).filter λk=>decide (k≠u)).Perm C:=by
    refine(List.perm_ext_iff_of_nodup (nodup_cons.mpr ⟨λz=>((mN u).mp z).2 rfl,ndN⟩) nC).mpr λk=>?_;rw[mem_cons,mN];constructor
    .rintro(rfl|z)
     .exact hu
     .exact z.1
    .intro z;by_cases q:k=u
     .exact .inl q
     .exact .inr ⟨z,q⟩
   rw[<- Nm this,BH];omega
  have lu:=hl u;have rq:Row b qs:=I.row b λk hk=>K.lo k ((mN k).mp hk).1;have frst:∀{D:List Nat} {x:Nat} {E:List Nat},C=D++x::E->b<h x->D≠[]:=by
   intro D x E e q z;subst z;obtain⟨c,C',e1,e2⟩:=K.fst;rw[e]at e1;have:x=c:=(133 e1).1;subst this;omega
  have g2:∀q∈qs,q.2.2<b+S l C:=by
   intro q hq;obtain⟨b',D,ndD,subD,loD,⟨d0,hd0,e0⟩,hqe⟩:=I.blk q hq;have dC:∀d∈D,d∈C:=λd hd=>((mN d).mp (subD d hd)).1;have bb:b<=b':=by rw[<- e0];exact K.lo d0 (dC d0 hd0)
   by_cases eb:b'=b
   .have:=K4 hl0 ndD subD;omega
   .obtain⟨D0,x,E,e,h1,h2⟩:=FH (P:=λc=>h c<b') (C:=C) ⟨d0,dC d0 hd0,by omega⟩;have st:=K.step D0 x E e (frst e 59);have nd0:D0.Nodup:=nC.sublist (by rw[e];exact List.sublist_append_left _ _);have:=K4 hl0 (C:=D0++D) (T:=C) (nodup_append.mpr ⟨nd0,ndD,λa ha c hc z=>by
     subst z;have:=h1 a ha;have:=loD a hc;omega⟩) λy hy=>by
     rcases mem_append.mp hy with q|q
     .rw[e];simp[q]
     .exact dC y q
    rw[W5]at this;omega
  have snn:0<=S l ((left.filter λk=>decide (k∈C)).filter λk=>decide (k≠u)):=by
   have:=K4 hl0 (C:=[]) (T:=(left.filter λk=>decide (k∈C)).filter λk=>decide (k≠u)) .nil 70;simpa [S]using this
  have be:b<b+S l C:=by omega
  have gm:=SK (u:=u) rq g2 be;have nq:∀q∈qs,q.1∈C/\q.1≠u:=λq hq=>(mN _).mp (I.mem q hq).1;have gC:∀p∈gf u b (b+S l C) qs,p.1∈C/\p.2.2<=b+S l C:=λp hp=>by
   rcases gm p hp with z|z
   .exact⟨(nq p z).1,Int.le_of_lt (g2 p z)⟩
   .exact⟨z.1 ▸ hu,z.2.2.2.1⟩
  have pR:∀p∈ps,p.1∈left/\p.1∉C/\b+S l C<=h p.1:=λp hp=>mR _ (Rt.mem p hp).1;have g3:∀p∈gf u b (b+S l C) qs,p.1=u->h u<=p.2.1/\∀q∈qs,q.2.2<=p.2.1∨p.2.1<q.2.1:=by
   intro p hp eu;rcases gm p hp with z|⟨_,z2,z3,z4,z5⟩
   .exact absurd eu (nq p z).2
   have free:∀q∈qs,q.2.2<=p.2.1∨p.2.1<q.2.1:=λq hq=>by
    rcases z5 q hq with y|y
    .exact .inl y
    .exact .inr 59
   refine⟨Classical.byContradiction λhn=>?_,free⟩;obtain⟨D0,x,E,e,h1,h2⟩:=FH (P:=λc=>h c<=p.2.1) (C:=C) ⟨u,hu,hn⟩;have st:=K.step D0 x E e (frst e 59);have nd0:D0.Nodup:=nC.sublist (by rw[e];exact List.sublist_append_left _ _);have d0N:∀d∈D0,d∈(left.filter λk=>decide (k∈C)).filter (λk=>decide (k≠u)):=λd hd=>
    (mN d).mpr ⟨by rw[e];simp[hd],λy=>by subst y;exact hn (h1 d hd)⟩
   have m1:=IS (P:=λq:Pc=>q.1∈D0) (g:=p.2.1) rq z2 λq hq hqD=>I.fre _ free q hq (h1 _ hqD);rw[N9 nd0 λd hd=>I.tot d (d0N d hd)]at m1;omega
  refine⟨λp hp=>?_,λb0 hb0=>?_,λk hk=>?_,λw hw h1 h2 q hq r hr eq er=>?_,λx hx q hq hqx=>?_,λq hq=>?_,λk hk=>?_,λM hM=>?_⟩
  .rcases mem_append.mp hp with z|z
   .refine⟨cl _ (gC p z).1,?_⟩;rcases gm p z with y|y
    .exact(I.mem p y).2
    .rw[y.1];exact(g3 p z y.1).1
   .exact⟨(pR p z).1,(Rt.mem p z).2⟩
  .obtain⟨c,C',e1,e2⟩:=K.fst;have bl:b0<=b:=by rw[<- e2];exact hb0 c (cl c (by rw[e1];simp))
   exact Row.app ((SJ (u:=u) rq g2 be).mono bl) 59 (λp hp=>(gC p hp).2) (Rt.row _ λk hk=>(mR k hk).2.2)
  .rw[tot_app];by_cases q:k∈C
   .rw[tot_none λp hp z=>(pR p hp).2.1 (z ▸ q),Int.add_zero];by_cases eu:k=u
    .subst eu;rw[SI rq λx hx=>(nq x hx).2];have m1:=N9 (l:=l) ndN I.tot;rw[Uu λp hp=>(I.mem p hp).1]at m1;omega
    .rw[LP eu];exact I.tot k ((mN k).mpr ⟨q,eu⟩)
   .rw[tot_none λp hp (z:p.1=k)=>q (z ▸ (gC p hp).1),Int.zero_add];exact Rt.tot k (inR k hk q)
  .have hw':=hW w hw;have l1:=hl w.1;rcases mem_append.mp hq with zq|zq
   .have qC:=gC q zq;rcases mem_append.mp hr with zr|zr
    .have rC:=gC r zr;have nu:w.1≠u:=λz=>hch _ _ _ hc w hw z ((mM _).mpr (er ▸ rC.1));have qin:q∈qs:=by
      rcases gm q zq with y|y
      .exact y
      .exact absurd (eq ▸ y.1) nu
     rcases gm r zr with y|y
     .exact I.wis w hw (eq ▸ (I.mem q qin).1) (er ▸ (I.mem r y).1) q qin r y eq er
     .obtain⟨y1,y2⟩:=g3 r zr y.1;refine I.fre _ y2 q qin ?_;rw[eq];rw[<- er,y.1]at hw';omega
    .have:=(pR r zr).2.2;have:=(Rt.mem r zr).2;have:=qC.2;omega
   .have pq:=pR q zq;rcases mem_append.mp hr with zr|zr
    .have:=cy hl K (gC r zr).1;rw[er]at this;have p2:=pq.2.2;rw[eq]at p2;omega
    .exact Rt.wis w hw (eq ▸ (Rt.mem q zq).1) (er ▸ (Rt.mem r zr).1) q zq r zr eq er
  .rcases mem_append.mp hq with z|z
   .have qC:=gC q z;have lo:=K.lo _ qC.1;by_cases c:x<b+S l C
    .obtain⟨p,hp,y1,y2⟩:=NK (u:=u) rq g2 x 59 c;rcases hx p (gw _ hp)with y|y<;>omega
    .have:=qC.2;omega
   .exact Rt.fre x (λy hy=>hx y (fm _ hy)) q z hqx
  .rcases mem_append.mp hq with z|z
   .obtain⟨c,C',e1,e2⟩:=K.fst;exact⟨b,C,nC,cl,K.lo,⟨c,by rw[e1];simp,e2⟩,(gC q z).2⟩
   .obtain⟨b',D,y1,y2,y3⟩:=Rt.blk q z;exact⟨b',D,y1,λd hd=>(mR d (y2 d hd)).1,y3⟩
  .by_cases q:k∈C
   .by_cases eu:k=u
    .subst eu;refine⟨_,by simp,_,hc,⟨?_,λc hc'=>?_⟩,λp hp e=>?_⟩
     .obtain⟨c,C',e1,e2⟩:=K.fst;exact⟨c,(mM c).mpr (by rw[e1];simp),by rw[e2,sM]⟩
     .rw[sM];have:=K.lo c ((mM c).mp hc');omega
     .rcases mem_append.mp hp with z|z
      .exact(gC p z).2
      .exact absurd (e ▸ q) (pR p z).2.1
    .obtain⟨M,hM,e,y1,y2,y3⟩:=I.cst k ((mN k).mpr ⟨q,eu⟩);refine⟨M,by simp[hM],e,y1,y2,λp hp z=>?_⟩;rcases mem_append.mp hp with y|y
     .rcases gm p y with x|x
      .exact y3 p x z
      .exact absurd (z ▸ x.1) eu
     .exact absurd (z ▸ q) (pR p y).2.1
   .obtain⟨M,hM,e,y1,y2,y3⟩:=Rt.cst k (inR k hk q);refine⟨M,by simp[hM],e,y1,y2,λp hp z=>?_⟩;rcases mem_append.mp hp with y|y
    .exact absurd (z ▸ (gC p y).1) q
    .exact y3 p y z
  .rcases mem_append.mp hM with z|z
   .rcases mem_cons.mp z with rfl|z
    .exact⟨gR ((mM u).mpr hu),gu⟩
    .exact⟨(I.set M z).1,(I.set M z).2.trans (filter_sublist.trans gu)⟩
   .exact⟨(Rt.set M z).1,(Rt.set M z).2.trans gu⟩
end Bk
namespace Du
open Bk
open Sx (S BH)
noncomputable def addP(P:List Pc)(k:Nat)(b e:Int):List Pc:=match P.getLast? with
 |some p=>if p.1=k/\p.2.2=b then P.dropLast++[(k,p.2.1,e)]else P++[(k,b,e)]
 |none=>P++[(k,b,e)]
def nil_or(P:List Pc):P=[]∨∃P' p,P=P'++[p]:=by
 rcases List.eq_nil_or_concat P with h|⟨P',p,h⟩
 .exact .inl h
 .exact .inr ⟨P',p,by rw[h,List.concat_eq_append]⟩
def addP_snoc(P:List Pc)(p:Pc)(k:Nat)(b e:Int):addP (P++[p]) k b e=if p.1=k/\p.2.2=b then P++[(k,p.2.1,e)]else P++[p]++[(k,b,e)]:=by
 unfold addP;rw[List.getLast?_concat,List.dropLast_concat]
def QY(P:List Pc)(k:Nat)(b e:Int):∃I b0,addP P k b e=I++[(k,b0,e)]/\(I=P/\b0=b∨P=I++[(k,b0,b)]):=by
 rcases nil_or P with rfl|⟨P',p,rfl⟩
 .exact⟨[],b,rfl,.inl ⟨rfl,rfl⟩⟩
 .rw[addP_snoc];by_cases c:p.1=k/\p.2.2=b
  .rw[fb c];exact⟨P',p.2.1,rfl,.inr (by obtain⟨p1,p2,p3⟩:=p;obtain⟨rfl,rfl⟩:=c;rfl)⟩
  .rw[fe c];exact⟨P'++[p],b,rfl,.inl ⟨rfl,rfl⟩⟩
theorem nd_len:∀{l L:List Nat},l.Nodup->(∀x∈l,x∈L)->l.length<=L.length
 |[],_,_,_=>by simp
 |x::r,L,nd,h=>by
  have hx:=h x 70;obtain⟨n1,n2⟩:=nodup_cons.mp nd;have ih:=nd_len (L:=L.erase x) n2 λy hy=>(List.mem_erase_of_ne λe=>by subst e;exact n1 hy).mpr (h y (by simp[hy]));have e:=List.length_erase_of_mem hx;have:0<L.length:=List.length_pos_of_mem hx;simp only[fU];omega
noncomputable def sel(n:Nat)(h dd:Nat->Int)(D t0:Int):List Nat:=(69 n).filter λk=>decide (dd k<=D)&&decide (t0<=h k)
def sel_mem{n:Nat}{h dd:Nat->Int}{D t0:Int}{k:Nat}:k∈sel n h dd D t0↔k<n/\dd k<=D/\t0<=h k:=by simp[sel]
def Qq(n:Nat)(h dd:Nat->Int)(D t0:Int):(sel n h dd D t0).Nodup:=nodup_range.sublist gu
theorem QD{l lf:Nat->Int}:∀{ks:List Nat},(∀k∈ks,lf k<=l k)->0<=dn l lf ks
 |[],_=>by simp[dn]
 |x::r,h=>by
  have ih:=QD (l:=l) (lf:=lf) (ks:=r) λk hk=>h k (by simp[hk]);have h0:=h x 70;unfold dn at ih ⊢;simp only[fq,sum_cons];omega
theorem ba{l lf:Nat->Int}:∀{ks:List Nat},(∀k∈ks,0<=lf k)->dn l lf ks<=S l ks
 |[],_=>by simp[dn,S]
 |x::r,h=>by
  have ih:=ba (l:=l) (lf:=lf) (ks:=r) λk hk=>h k (by simp[hk]);have h0:=h x 70;rw[BH];unfold dn at ih ⊢;simp only[fq,sum_cons];omega
structure St(n:Nat)(h l dd:Nat->Int)(W:List 119)(lf:Nat->Int)(P:List Pc)(t:Int):Prop where
 lo:∀k,k<n->0<=lf k/\lf k<=l k
 mem:∀p∈P,p.1<n/\h p.1<=p.2.1/\p.2.1<p.2.2/\p.2.2<=t
 pw:P.Pairwise λp q=>p.2.2<=q.2.1
 has:∀p∈P,lf p.1<l p.1
 tt:∀j,j<n->tot j P=l j-lf j
 wis:∀w∈W,∀p∈P,∀q∈P,p.1=w.1->q.1=w.2->p.2.2<=q.2.1
 beg:∀w∈W,lf w.2<l w.2->lf w.1=0
 th:∀D,∃t0,t0<=t/\(∀k,k<n->0<lf k->dd k<=D->t0<=h k)/\t-t0<=dn l lf (sel n h dd D t0)
 fin:∀j,j<n->lf j=0->∃t0 e,(∀p∈P,p.1=j->p.2.2<=e)/\t0<e/\e-t0<=S l (sel n h dd (dd j) t0)
structure Tn(n:Nat)(h dd lf:Nat->Int)(t t':Int)(k:Nat)(s:Int):Prop where
 tt:t<=t'
 idle:t<t'->∀j,j<n->0<lf j->t'<=h j
 kn:k<n
 k0:0<lf k
 kc:h k<=t'
 km:∀j,j<n->0<lf j->h j<=t'->dd k<dd j∨dd k=dd j/\k<=j
 s0:t'<s
 s1:s<=t'+lf k
 s2:∀j,j<n->0<lf j->t'<h j->s<=h j
 s3:s=t'+lf k∨∃j,j<n/\0<lf j/\t'<h j/\s=h j
noncomputable def mu(n:Nat)(h lf:Nat->Int)(t:Int):Nat:=(69 n).countP (λj=>decide (0<lf j))+(69 n).countP (λj=>decide (0<lf j/\t<h j))
def mu_le(n:Nat)(h lf:Nat->Int)(t:Int):mu n h lf t<=2*n:=by
 unfold mu;have h1:=List.countP_le_length (p:=λj=>decide (0<lf j)) (l:=69 n);have h2:=List.countP_le_length (p:=λj=>decide (0<lf j/\t<h j)) (l:=69 n);simp only[length_range]at h1 h2;omega
theorem NV{p q:Nat->Bool}:∀{L:List Nat},(∀i∈L,p i=true->q i=true)->(∃i∈L,q i=true/\p i=false)->L.countP p<L.countP q
 |[],_,h=>by obtain⟨_,h,_⟩:=h;cases h
 |x::r,h,⟨i,hi,h1,h2⟩=>by
  rw[List.countP_cons,List.countP_cons];rcases mem_cons.mp hi with rfl|hi
  .have:=List.countP_mono_left (l:=r) λj hj=>h j (by simp[hj]);rw[h1,h2];simp;omega
  .have ih:=NV (p:=p) (q:=q) (L:=r) (λj hj=>h j (by simp[hj])) ⟨i,hi,h1,h2⟩;have hx:=h x 70;by_cases px:p x=true
   .rw[px,hx px];simp;omega
   .have px:p x=false:=by simpa using px
    rw[px];simp;split<;>omega
section
variable{n:Nat}{h l dd:Nat->Int}{lf:Nat->Int}{t:Int}
def St.start(pos:∀k,k<n->1<=l k)(h0:∀k,k<n->0<=h k)(ins:∀w∈W,w.1<n/\w.2<n):St n h l dd W l [] 0 where
 lo k hk:=by have:=pos k hk;omega
 mem:=by simp
 pw:=.nil
 has:=by simp
 tt j _:=by simp[tot]
 wis:=by simp
 beg w _ q:=by omega
 th D:=⟨0,102 _,λk hk _ _=>h0 k hk,by rw[Km λ_ _=>rfl];omega⟩
 fin j hj q:=by have:=pos j hj;omega
theorem Tn.mu(X:Tn n h dd lf t t' k s):mu n h (upd lf k (lf k-(s-t'))) s<mu n h lf t:=by
 have tt:=X.tt;have s0:=X.s0;have s1:=X.s1;have k0:=X.k0;have up:∀i,0<upd lf k (lf k-(s-t')) i->0<lf i:=λi q=>by
  unfold upd at q;split at q
  .next e=>rw[e];exact k0
  .exact q
 unfold Du.mu;have le1:(69 n).countP (λj=>decide (0<upd lf k (lf k-(s-t')) j))<=(69 n).countP (λj=>decide (0<lf j)):=List.countP_mono_left λi _ q=>by
  simp only[i5]at q ⊢;exact up i q
 have le2:(69 n).countP (λj=>decide (0<upd lf k (lf k-(s-t')) j/\s<h j))<=(69 n).countP (λj=>decide (0<lf j/\t<h j)):=List.countP_mono_left λi _ q=>by
  simp only[i5]at q ⊢;exact⟨up i q.1,by omega⟩
 rcases X.s3 with e|⟨j,jn,j0,jc,e⟩
 .have:(69 n).countP (λj=>decide (0<upd lf k (lf k-(s-t')) j))<(69 n).countP (λj=>decide (0<lf j)):=by
   refine NV (λi _ q=>by simp only[i5]at q ⊢;exact up i q) ⟨k,by simpa using X.kn,by simpa using k0,?_⟩;simp only[iB,upd_self];omega
  omega
 .have:(69 n).countP (λj=>decide (0<upd lf k (lf k-(s-t')) j/\s<h j))<(69 n).countP (λj=>decide (0<lf j/\t<h j)):=by
   refine NV (λi _ q=>?_) ⟨j,by simpa using jn,by simp only[i5];omega,?_⟩
   .simp only[i5]at q ⊢;exact⟨up i q.1,by omega⟩
   .simp only[iB];omega
  omega
def St.turn(pos:∀k,k<n->1<=l k)(hs:∀w∈W,w.1<n/\w.2<n/\h w.1+l w.1<=h w.2)(hd:∀w∈W,dd w.1<=dd w.2-l w.2)(T:St n h l dd W lf P t)(X:Tn n h dd lf t t' k s):St n h l dd W (upd lf k (lf k-(s-t'))) (addP P k t' s) s/\(addP P k t' s).length<=P.length+1:=by
 have tt:=X.tt;have s0:=X.s0;have s1:=X.s1;have k0:=X.k0;have kn:=X.kn;have kc:=X.kc;have lk:=T.lo k kn;obtain⟨I,b0,eA,cA⟩:=QY P k t' s;have sub:∀p∈I,p∈P:=λp hp=>by
  rcases cA with⟨rfl,_⟩|e
  .exact hp
  .rw[e];simp[hp]
 have bb:h k<=b0/\b0<=t':=by
  rcases cA with⟨_,rfl⟩|e
  .exact⟨kc,102 _⟩
  .have:=T.mem (k,b0,t') (by rw[e];simp);exact⟨this.2.1,Int.le_of_lt this.2.2.1⟩
 have bef:∀p∈I,p.2.2<=b0:=λp hp=>by
  rcases cA with⟨_,rfl⟩|e
  .have:=(T.mem p (sub p hp)).2.2.2;omega
  .have pw:=T.pw;rw[e,List.pairwise_append]at pw;exact pw.2.2 p hp (k,b0,t') 70
 have key:∀D,∃t0,t0<=s/\(∀j,j<n->0<upd lf k (lf k-(s-t')) j->dd j<=D->t0<=h j)/\s-t0<=dn l (upd lf k (lf k-(s-t'))) (sel n h dd D t0)/\(dd k<=D->t0<=t'):=λD=>by
  have up:∀i,0<upd lf k (lf k-(s-t')) i->0<lf i:=λi q=>by
   unfold upd at q;split at q
   .next e=>rw[e];exact k0
   .exact q
  by_cases c:dd k<=D
  .obtain⟨t0,a1,a2,a3⟩:∃t0,t0<=t'/\(∀j,j<n->0<lf j->dd j<=D->t0<=h j)/\t'-t0<=dn l lf (sel n h dd D t0):=by
    by_cases q:t<t'
    .exact⟨t',102 _,λj hj j0 _=>X.idle q j hj j0,by have:=QD (l:=l) (lf:=lf) (ks:=sel n h dd D t') (λk hk=>(T.lo k (sel_mem.mp hk).1).2);omega⟩
    .obtain⟨t0,a1,a2,a3⟩:=T.th D;exact⟨t0,by omega,a2,by omega⟩
   refine⟨t0,by omega,λj hj q1 q2=>a2 j hj (up j q1) q2,?_,λ_=>a1⟩;rw[NT (Qq _ _ _ _ _),fb (sel_mem.mpr ⟨kn,c,a2 k kn k0 c⟩)];omega
  .refine⟨s,102 _,λj hj q1 q2=>?_,?_,λq=>absurd q c⟩
   .have j0:=up j q1;by_cases q:h j<=t'
    .have:=X.km j hj j0 q;omega
    .exact X.s2 j hj j0 59
   .have:=QD (l:=l) (lf:=upd lf k (lf k-(s-t'))) (ks:=sel n h dd D s) λi hi=>by
     have:=T.lo i (sel_mem.mp hi).1;unfold upd;split
     .next e=>subst e;omega
     .exact this.2
    omega
 have lo':∀i,i<n->0<=upd lf k (lf k-(s-t')) i/\upd lf k (lf k-(s-t')) i<=l i:=λi hi=>by
  have:=T.lo i hi;unfold upd;split
  .next e=>subst e;omega
  .exact this
 rw[eA];refine⟨⟨lo',λp hp=>?_,?_,λp hp=>?_,λj hj=>?_,λw hw p hp q hq e1 e2=>?_,λw hw q=>?_,λD=>?_,λj hj q=>?_⟩,?_⟩
 .rcases mem_append.mp hp with q|q
  .have:=T.mem p (sub p q);exact⟨this.1,this.2.1,this.2.2.1,by omega⟩
  .rw[fO]at q;subst q;exact⟨kn,bb.1,by show b0<s;omega,102 _⟩
 .rw[List.pairwise_append];refine⟨?_,List.pairwise_singleton _ _,λp hp q hq=>?_⟩
  .have pw:=T.pw;rcases cA with⟨rfl,_⟩|e
   .exact pw
   .rw[e,List.pairwise_append]at pw;exact pw.1
  .rw[fO]at hq;subst hq;exact bef p hp
 .rcases mem_append.mp hp with q|q
  .have:=T.has p (sub p q);unfold upd;split
   .next e=>rw[e]at this ⊢;omega
   .exact this
  .rw[fO]at q;subst q;show upd lf k _ k<l k;rw[upd_self];omega
 .have h1:=T.tt j hj;rw[tot_app];have e2:tot j I+(if k=j then t'-b0 else 0)=tot j P:=by
   rcases cA with⟨rfl,rfl⟩|e
   .split<;>omega
   .rw[e,tot_app];simp[tot]
  show tot j I+((if k=j then s-b0 else 0)+0)=_;by_cases q:j=k
  .subst q;rw[upd_self,fb rfl];rw[fb rfl]at e2;omega
  .rw[upd_ne q,fe λz=>q z.symm];rw[fe λz=>q z.symm]at e2;omega
 .rcases mem_append.mp hp with a|a
  .rcases mem_append.mp hq with b|b
   .exact T.wis w hw p (sub p a) q (sub q b) e1 e2
   .rw[fO]at b;subst b;exact bef p a
  .rw[fO]at a;subst a;have ek:k=w.1:=e1;rcases mem_append.mp hq with b|b
   .have:=T.has q (sub q b);rw[e2]at this;have:=T.beg w hw this;rw[<- ek]at this;omega
   .rw[fO]at b;subst b;have e2:k=w.2:=e2;have:=hs w hw;rw[<- ek,<- e2]at this;have:=pos k kn;omega
 .have:=hs w hw;have p1:=pos w.1 this.1;by_cases c:w.2=k
  .have ne:w.1≠k:=λz=>by rw[z,c]at this;rw[z]at p1;omega
   rw[upd_ne ne];refine Classical.byContradiction λz=>?_;have lo1:=T.lo w.1 this.1;have h1:=X.km w.1 this.1 59 (by rw[c]at this;omega);have h2:=hd w hw;have h3:=pos w.2 this.2.1;rw[c]at h2 h3;omega
  .rw[upd_ne c]at q;have b:=T.beg w hw q;rw[upd_ne λz=>by rw[z]at b;omega];exact b
 .obtain⟨t0,a1,a2,a3,_⟩:=key D;exact⟨t0,a1,a2,a3⟩
 .by_cases c:j=k
  .subst c;obtain⟨t0,a1,a2,a3,a4⟩:=key (dd j);refine⟨t0,s,λp hp e=>?_,by have:=a4 (102 _);omega,Int.le_trans a3 (ba λi hi=>(lo' i (sel_mem.mp hi).1).1)⟩;rcases mem_append.mp hp with q|q
   .have:=bef p q;omega
   .rw[fO]at q;subst q;exact 102 _
  .rw[upd_ne c]at q;obtain⟨t0,e,a1,a2,a3⟩:=T.fin j hj q;refine⟨t0,e,λp hp ej=>?_,a2,a3⟩;rcases mem_append.mp hp with q|q
   .exact a1 p (sub p q) ej
   .rw[fO]at q;subst q;exact absurd ej.symm c
 .rcases cA with⟨rfl,_⟩|e
  .simp
  .rw[e];simp
theorem RJ{t:Int}:∀{P:List Pc} {b:Int},(∀p∈P,b<=p.2.1/\p.2.1<p.2.2)->P.Pairwise (λp q=>p.2.2<=q.2.1)->Row b P
 |[],_,_,_=>trivial
 |p::r,b,h1,h2=>by
  rw[ie]at h2;have:=h1 p 70;exact⟨this.1,this.2,RJ (t:=t) (λq hq=>⟨h2.1 q hq,(h1 q (by simp[hq])).2⟩) h2.2⟩
structure Pk(n:Nat)(h l:Nat->Int)(W:List 119)(P:List Pc):Prop where
 mem:∀p∈P,p.1<n/\h p.1<=p.2.1
 row:Row 0 P
 tot:∀j,j<n->tot j P=l j
 wis:∀w∈W,∀p∈P,∀q∈P,p.1=w.1->q.1=w.2->p.2.2<=q.2.1
def St.pk(T:St n h l dd W lf P t)(h0:∀k,k<n->0<=h k)(z:∀j,j<n->lf j=0):Pk n h l W P where
 mem p hp:=⟨(T.mem p hp).1,(T.mem p hp).2.1⟩
 row:=RJ (t:=t) (λp hp=>by have:=T.mem p hp;have:=h0 _ this.1;exact⟨by omega,by omega⟩) T.pw
 tot j hj:=by rw[T.tt j hj,z j hj];omega
 wis:=T.wis
structure Tu(n:Nat)(l d:Nat->Int)(W:List 119)(rk:Nat->Nat)(v:Nat->Int)(t:Nat):Prop where
 le:∀k,k<n->v k<=d k
 wt:∀en:Nat->Int,(∀w∈W,en w.1+l w.2<=en w.2)->∀a,a<n->∃m,m<n/\en a-v a<=en m-d m
 sd:∀w∈W,n<=rk w.1+1+t->v w.1<=v w.2-l w.2
def Tu.start{d:Nat->Int}{rk:Nat->Nat}(hr:∀w∈W,rk w.1<rk w.2/\rk w.2<n):Tu n l d W rk d 0:=
 ⟨λ_ _=>102 _,λen _ a ha=>⟨a,ha,102 _⟩,λw hw q=>by have:=hr w hw;omega⟩
structure Ti(n:Nat)(l d:Nat->Int)(W:List 119)(rk:Nat->Nat)(v:Nat->Int)(t:Nat)(A:List 119):Prop where
 T:Tu n l d W rk v t
 nw:∀w∈A,n<=rk w.1+1+(t+1)->v w.1<=v w.2-l w.2
def Ti.step{d v:Nat->Int}{rk:Nat->Nat}{t:Nat}(hr:∀w∈W,(w.1<n/\w.2<n)/\rk w.1<rk w.2)(I:Ti n l d W rk v t A)(sub:∀w∈A,w∈W)(hq:q∈W):Ti n l d W rk (upd v q.1 (min (v q.1) (v q.2-l q.2))) t (A++[q]):=by
 have rq:=hr q hq;have mono:∀k,upd v q.1 (min (v q.1) (v q.2-l q.2)) k<=v k:=λk=>by
  unfold upd;split
  .next e=>subst e;omega
  .exact 102 _
 -- an edge whose far end is settled keeps
 have keep:∀w∈W,n<=rk w.1+1+(t+1)->v w.1<=v w.2-l w.2->upd v q.1 (min (v q.1) (v q.2-l q.2)) w.1<=upd v q.1 (min (v q.1) (v q.2-l q.2)) w.2-l w.2:=λw hw hn hv=>by
  have m1:=mono w.1;have rw_:=hr w hw;by_cases e:w.2=q.1
  .have:=I.T.sd q hq (by rw[<- e];omega);have e2:upd v q.1 (min (v q.1) (v q.2-l q.2)) w.2=v w.2:=by
    rw[e,upd_self];omega
   rw[e2];omega
  .rw[upd_ne e];omega
 refine⟨⟨λk hk=>Int.le_trans (mono k) (I.T.le k hk),λen he a ha=>?_,λw hw hn=>keep w hw 59 (I.T.sd w hw hn)⟩,λw hw hn=>?_⟩
 .by_cases e:a=q.1
  .subst e;rw[upd_self];by_cases c:v q.1<=v q.2-l q.2
   .rw[show min (v q.1) (v q.2-l q.2)=v q.1 by omega];exact I.T.wt en he q.1 ha
   .rw[show min (v q.1) (v q.2-l q.2)=v q.2-l q.2 by omega];obtain⟨m,hm,q1⟩:=I.T.wt en he q.2 rq.1.2;have:=he q hq;exact⟨m,hm,by omega⟩
  .rw[upd_ne e];exact I.T.wt en he a ha
 .rcases mem_append.mp hw with a|a
  .exact keep w (sub w a) hn (I.nw w a hn)
  .rw[fO]at a;subst a;have ne:w.2≠w.1:=λz=>by have:=rq.2;rw[z]at this;omega
   rw[upd_self,upd_ne ne];omega
def Ti.next{d v:Nat->Int}{rk:Nat->Nat}{t:Nat}(I:Ti n l d W rk v t W):Tu n l d W rk v (t+1):=⟨I.T.le,I.T.wt,λw hw hn=>I.nw w hw hn⟩
def Tu.done{d v:Nat->Int}{rk:Nat->Nat}(T:Tu n l d W rk v n):∀w∈W,v w.1<=v w.2-l w.2:=λw hw=>T.sd w hw 59
structure Wr(n:Nat)(l h:Nat->Int)(W:List 119)(left en:Nat->Int)(t:Int):Prop where
 I:Inv n l h W left en t
 wh:∀k,k<n->left k=l k∨left k=0
 wd:∀w∈W,left w.2<l w.2->en w.1+l w.2<=en w.2
theorem Wr.step{c:Nat->Int}(H:Hs n c l W h){left en:Nat->Int}(R:Wr n l h W left en t){k:Nat}(hk:k<n){x:Int}(tx:t<=x)(cx:c k<=x)(hl:left k=l k)(hf:∀p∈W,p.2=k->left p.1=0):Wr n l h W (upd left k 0) (upd en k (x+l k)) (x+l k):=by
 have pk:=H.pos k hk;have st:=R.I.step H hk tx cx hf (m:=l k) pk 59;rw[show left k-l k=0 by omega]at st;refine⟨st,λj hj=>?_,λw hw q=>?_⟩
 .unfold upd;split
  .exact .inr rfl
  .exact R.wh j hj
 .have wn:=H.ins w hw;have p1:=H.pos w.1 wn.1;by_cases e:w.2=k
  .have l0:=hf w hw e;have ne:w.1≠k:=λz=>by rw[z]at l0;omega
   have:=R.I.et w.1 wn.1 59;rw[upd_ne ne,e,upd_self];omega
  .rw[upd_ne e]at q;have:=(R.I.wi w hw q).1;have ne:w.1≠k:=λz=>by rw[z]at this;omega
   rw[upd_ne ne,upd_ne e];exact R.wd w hw q
def beat{c:Nat->Int}(H:Hs n c l W h){left en:Nat->Int}{τ:Int}(R:Wr n l h W left en τ)(z:∀k,k<n->left k=0){d:Nat->Int}{rk:Nat->Nat}(U:Tu n l d W rk dd n)(T:St n h l dd W lf P t){j:Nat}(hj:j<n)(lj:lf j=0){e:Int}(he:∃p∈P,p.1=j/\e=p.2.2):∃m,m<n/\e-d j<=en m-d m:=by
 obtain⟨t0,e',a1,a2,a3⟩:=T.fin j hj lj;obtain⟨p,hp,pj,rfl⟩:=he;have pe:=a1 p hp pj;have ne:sel n h dd (dd j) t0≠[]:=λq=>by rw[q]at a3;simp[S]at a3;omega
 obtain⟨u,hu,b1,_⟩:=R.I.low H z ne (Qq _ _ _ _ _) (λk hk=>(sel_mem.mp hk).1) (λk hk=>(sel_mem.mp hk).2.2);have su:=sel_mem.mp hu;obtain⟨m,hm,b2⟩:=U.wt en (λw hw=>R.wd w hw (by have:=H.pos w.2 (H.ins w hw).2;have:=z w.2 (H.ins w hw).2;omega)) u su.1;have:=U.le j hj;exact⟨m,hm,by omega⟩
end
end Du
namespace L2
open PySem PySem.W PyProof.Rows
def feE{K:Frag}{e:Df}(h:Ea.Fe K n s)(hn:e.x=n:=by rfl)(hs:e.st=s:=by rfl):Fe K e:=by subst hn;subst hs;exact h
def flE{K:Frag}{e:Df}(h:Ea.Fl K n s p)(hn:e.x=n:=by rfl)(hs:e.st=s:=by rfl):Fla K e p:=by subst hn;subst hs;exact h
def zsE{K:Frag}(h:Ea.Zs K):Zs K:=h
end L2
namespace T29
open PySem L2
noncomputable abbrev Mq:Stmt:=top 1
def Qt:FnScope ["works","wishes","some","t","told","within","turn","a","b"] ["works","wishes","some","t"] (AB Mq):=B1 101
@[reducible] noncomputable def Uw:MS:=(A5 (AE 4 (Jk (HC 1 [0,3] (Au 144) (AC 0) C6 [] (Hj 77 (mCB D6 (A1 (mOp gIx (mOp gIx 139 77) 123) (A1 144 A3)))))))
 (A5 (AE 5 (AU (Af 2 [4] (Au 139) (Bj 2 (AZ (AC 0) (AZ (AC 1) Bl))) (CP (A7 (mOp (HH false) 77 144)) (A7 (mOp (HH false) 139 144))) (Ay (A1 77 (A1 139 A3))))))
 (A5 (BA (Au 144) (AC 6)
  (BA (BI (A0 5)) (Bj 2 (AZ (AC 7) (AZ (AC 8) Bl)))
  (Hm (A0 4) (A0 8) (mCB D6 (A1 (mOp EL (A0 4) (A0 8)) (A1 (mOp Al (mOp EL (A0 4) (A0 7)) (mOp gIx (mOp gIx 77 (A0 7)) 103)) A3))))))
 (AN (B9 Bb (Af 1 [4] (Au 144) (AC 0) C6 (mOp EL 139 77)))))))
noncomputable def GW:FD:=mkF 4 9 Uw
noncomputable abbrev Ip:Df:=⟨"raised",Mq,["works","wishes","some","t"],1,GW⟩
noncomputable abbrev OF:Stmt:=top 2
def Th:FnScope ["works","wishes"] ["works","wishes"] (AB OF):=B1 101
@[reducible] noncomputable def YD:MS:=(AN (A9 0 GW (A1 77 (A1 139 (A1 (Jg (A1 (mCB (f1 true BS) (A1 77 A3)) A3)) (A1 103 A3))))))
noncomputable def EU:FD:=mkF 2 2 YD
noncomputable abbrev Fk:Df:=⟨"heads",OF,["works","wishes"],2,EU⟩
noncomputable abbrev FT:Stmt:=top 4
def JN:FnScope ["works","wishes","some","begins","told","work","begin","end","members"] ["works","wishes","some"] (AB FT):=B1 101
@[reducible] noncomputable def KR:MS:=(A5 (AE 3 (A9 0 EU (A1 77 (A1 139 A3))))
 (A5 (AE 4 (AU (Ab A3)))
 (A5 (BA (KU (S7 144 [3] (Ay (A1 (mOp gIx 139 77) (A1 77 A3))))) (AC 5)
  (Ag (mOr (A7 (CS false (A0 4) (Ab A3))) (A7 (mOp gGe (mOp gIx (A0 3) (A0 5)) (mOp gIx (mOp gIx (A0 4) (EB 123)) 123))))
  (Aq (mMt Ad (A0 4) (A1 (Ay (A1 (mOp gIx (A0 3) (A0 5)) (A1 (mOp Al (mOp gIx (A0 3) (A0 5)) (mOp gIx (mOp gIx 77 (A0 5)) 103)) (A1 (Ay (A1 (A0 5) A3)) A3)))) A3)))
  (A5 (G8 (mOp gIx (A0 4) (EB 123)) (Bj 3 (AZ (AC 6) (AZ (AC 7) (AZ (AC 8) Bl)))))
 (CQ (A0 4) (EB 123) (Ay (A1 (A0 6) (A1 (mOp Al (A0 7) (mOp gIx (mOp gIx 77 (A0 5)) 103)) (A1 (B9 Bb (Bn (Au (mOp Al (A0 8) (Ay (A1 (A0 5) A3)))))) A3))))))))
 (AN (A0 4)))))
noncomputable def Ct:FD:=mkF 3 9 KR
noncomputable abbrev Cp:Df:=⟨"stretches_of",FT,["works","wishes","some"],4,Ct⟩
noncomputable abbrev JP:Stmt:=top 9
def Nq:FnScope ["rows","t","told","begin","amount"] ["rows","t"] (AB JP):=B1 101
@[reducible] noncomputable def Tp:MS:=(A5 (AE 2 103)
 (A5 (BA (Au 77) (Bj 2 (AZ (AC 3) (AZ (AC 4) Bl)))
  (A5 (Ag (A7 (mOp gGt (A0 3) 139))
  (AN 144)
  Aa)
 (AE 2 (A0 4))))
 (AN 144)))
noncomputable def HR:FD:=mkF 2 5 Tp
noncomputable abbrev GM:Df:=⟨"steps_at",JP,["rows","t"],1,HR⟩
noncomputable abbrev L9:Stmt:=top 10
def PJ:FnScope ["cost","t","word","above"] ["cost","t"] (AB L9):=B1 101
@[reducible] def fG:MS:=(A5 (AE 2 (mOp gIx 77 103))
 (A5 (Ag (A7 (mOp gEq 144 (mC (.str "steps"))))
  (AN (A9 0 HR (A1 (mOp gIx 77 123) (A1 139 A3))))
  Aa)
 (A5 (Ag (A7 (mOp gEq 144 (mC (.str "ends"))))
  (AN (mOp Bc (mOp gIx 77 123) 139))
  Aa)
 (A5 (AE 3 (mOp CD 139 (mOp gIx 77 123)))
 (A5 (Ag (A7 (mOp gEq 144 (mC (.str "late"))))
  (AN (A0 3))
  Aa)
 (A5 (Ag (A7 (mOp gLe (A0 3) 103))
  (AN 103)
  Aa)
 (A5 (Ag (A7 (mOp gEq 144 (mC (.str "tardy"))))
  (AN (mOp Bc (mOp gIx 77 (mC (.int 2))) (A0 3)))
  Aa)
 (AN (mOp gIx 77 (mC (.int 2)))))))))))
noncomputable def F_cost_at:FD:=mkF 2 4 fG
noncomputable abbrev FC:Df:=⟨"cost_at",L9,["cost","t"],2,F_cost_at⟩
noncomputable abbrev L8:Stmt:=top 12
def PH:FnScope ["pairs","a","found","fresh","at","one","other"] ["pairs","a"] (AB L8):=B1 101
@[reducible] noncomputable def Le:MS:=(A5 (AE 2 (AU (Ab A3)))
 (A5 (AE 3 (AU (Ab (A1 139 A3))))
 (A5 (Ch (CB (A0 3))
  (A5 (AE 4 (mMt HK (A0 3) A3))
 (BA (En 77) (Bj 2 (AZ (AC 5) (AZ (AC 6) Bl)))
  (Ag (CP (A7 (mOp gEq (A0 5) (A0 4))) (A7 (mOp (gIn true) (A0 6) 144)))
  (A5 (Aq (mMt Ad 144 (A1 (A0 6) A3)))
 (Aq (mMt Ad (A0 3) (A1 (A0 6) A3))))
  Aa))))
 (AN (B9 Bb (Bn (BI 144)))))))
noncomputable def F_reached:FD:=mkF 2 7 Le
noncomputable abbrev HN:Df:=⟨"reached",L8,["pairs","a"],1,F_reached⟩
noncomputable abbrev Mu:Stmt:=top 13
def Qw:FnScope ["many","wishes","a"] ["many","wishes","a"] (AB Mu):=B1 101
@[reducible] noncomputable def ab:MS:=(AN (A9 0 F_reached (A1 139 (A1 144 A3))))
noncomputable def F_behind:FD:=mkF 3 3 ab
noncomputable abbrev Iu:Df:=⟨"behind",Mu,["many","wishes","a"],2,F_behind⟩
noncomputable abbrev IB:Stmt:=top 14
def Mn:FnScope ["many","wishes","some","told","u","later"] ["many","wishes","some"] (AB IB):=B1 101
@[reducible] noncomputable def Nz:MS:=(A5 (AE 3 (AU (Ab A3)))
 (A5 (BA (Au 144) (AC 4)
  (A5 (AE 5 (A9 0 F_behind (A1 77 (A1 139 (A1 (A0 4) A3)))))
 (Ag (Gx (CB (B9 Ik (Af 1 [5] (Au 144) (AC 0) C6 (mOp (gIn false) 77 139)))))
  (Aq (mMt Ad (A0 3) (A1 (A0 4) A3)))
  Aa)))
 (AN (mCB (f1 true Bb) (A1 (A0 3) A3)))))
noncomputable def D4:FD:=mkF 3 6 Nz
noncomputable abbrev Dt:Df:=⟨"last_ones",IB,["many","wishes","some"],3,D4⟩
noncomputable abbrev IA:Stmt:=top 16
def Mm:FnScope ["works","some"] ["works","some"] (AB IA):=B1 101
@[reducible] noncomputable def Ny:MS:=(AN (B9 Ij (Af 1 [0] (Au 139) (AC 0) C6 (mOp gIx (mOp gIx 139 77) 103))))
noncomputable def Dw:FD:=mkF 2 2 Ny
noncomputable abbrev FL:Df:=⟨"length_of",IA,["works","some"],1,Dw⟩
noncomputable abbrev DM:Stmt:=top 17
def FS:FnScope ["works","word"] ["works","word"] (AB DM):=B1 101
@[reducible] noncomputable def G5:MS:=(Ag (CB (B9 Ik (Af 1 [1] (Au 77) (AC 0) C6 (mOp gNe (mOp gIx (mOp gIx 77 (mC (.int 2))) 103) 139))))
 Gy
 Aa)
noncomputable def Be:FD:=mkF 2 2 G5
noncomputable abbrev CF:Df:=⟨"refuse_other_costs",DM,["works","word"],1,Be⟩
noncomputable abbrev JT:Stmt:=top 19
def Nv:FnScope ["works","wishes","some","begins","end"] ["works","wishes","some"] (AB JT):=B1 101
@[reducible] noncomputable def Pv:MS:=(A5 (AE 3 (A9 0 EU (A1 77 (A1 139 A3))))
 (A5 (AE 4 (mOp Al (B9 ED (Af 1 [3] (Au 144) (AC 0) C6 (mOp gIx 139 77))) (A9 0 Dw (A1 77 (A1 144 A3)))))
 (AN (B9 ED (Af 1 [0,4] (Au (A9 0 D4 (A1 (mCB (f1 true BS) (A1 77 A3)) (A1 139 (A1 144 A3))))) (AC 0) C6 (A9 0 F_cost_at (A1 (mOp gIx (mOp gIx 139 77) (mC (.int 2))) (A1 144 A3))))))))
noncomputable def Cu:FD:=mkF 3 5 Pv
noncomputable abbrev GP:Df:=⟨"bound_of",JT,["works","wishes","some"],4,Cu⟩
noncomputable abbrev F6:Stmt:=top 21
def IR:FnScope ["works","wishes","some","end"] ["works","wishes","some","end"] (AB F6):=B1 101
@[reducible] noncomputable def Jf:MS:=(AN (EO (λn m=>decide (n<m)) (A9 0 D4 (A1 (mCB (f1 true BS) (A1 77 A3)) (A1 139 (A1 144 A3)))) [3,0] (A9 0 F_cost_at (A1 (mOp gIx (mOp gIx 144 77) (mC (.int 2))) (A1 139 A3)))))
noncomputable def CV:FD:=mkF 4 4 Jf
noncomputable abbrev CT:Df:=⟨"cheapest_last",F6,["works","wishes","some","end"],6,CV⟩
noncomputable abbrev L7:Stmt:=top 22
def PD:FnScope ["some","u"] ["some","u"] (AB L7):=B1 101
@[reducible] noncomputable def S6:MS:=(AN (B9 Bb (Af 1 [1] (Au 77) (AC 0) (A7 (mOp gNe 77 139)) 77)))
noncomputable def FF:FD:=mkF 2 2 S6
noncomputable abbrev HM:Df:=⟨"without",L7,["some","u"],1,FF⟩
noncomputable abbrev Gb:Stmt:=top 23
def KI:FnScope ["u","begin","end","pieces","told","at","piece"] ["u","begin","end","pieces"] (AB Gb):=B1 101
@[reducible] noncomputable def Ln:MS:=(A5 (AE 4 (AU (Ab A3)))
 (A5 (AE 5 139)
 (A5 (BA (BI (A0 3)) (AC 6)
  (A5 (Ag (A7 (mOp gLt (A0 5) (mOp gIx (A0 6) 123)))
  (Aq (mMt Ad (A0 4) (A1 (Ay (A1 77 (A1 (A0 5) (A1 (mOp gIx (A0 6) 123) A3)))) A3)))
  Aa)
 (A5 (Aq (mMt Ad (A0 4) (A1 (A0 6) A3)))
 (AE 5 (mOp gIx (A0 6) (mC (.int 2)))))))
 (A5 (Aq (mMt Ad (A0 4) (A1 (Ay (A1 77 (A1 (A0 5) (A1 144 A3)))) A3)))
 (AN (A0 4))))))
noncomputable def DC:FD:=mkF 4 7 Ln
noncomputable abbrev EF:Df:=⟨"gaps_filled",Gb,["u","begin","end","pieces"],1,DC⟩
noncomputable abbrev Ef:Stmt:=top 24
def Lk:FnScope ["works","wishes","some","pieces","sets","begin","end","members","u","inner_pieces","inner_sets"] ["works","wishes","some"] (AB Ef):=B1 101
@[reducible] noncomputable def Gu(DY:FD):MS:=(A5 (AE 3 (AU (Ab A3)))
 (A5 (AE 4 (AU (Ab A3)))
 (A5 (BA (BI (A9 0 Ct (A1 77 (A1 139 (A1 144 A3))))) (Bj 3 (AZ (AC 5) (AZ (AC 6) (AZ (AC 7) Bl))))
  (A5 (AE 8 (A9 0 CV (A1 77 (A1 139 (A1 (A0 7) (A1 (A0 6) A3))))))
 (A5 (G8 (E4 DY (A1 77 (A1 139 (A1 (A9 0 FF (A1 (A0 7) (A1 (A0 8) A3))) A3)))) (Bj 2 (AZ (AC 9) (AZ (AC 10) Bl))))
 (A5 (F9 3 (Ba DC (A1 (A0 8) (A1 (A0 5) (A1 (A0 6) (A1 (A0 9) A3))))))
 (F9 4 (AU (G7 (AU (Ab (A1 (A0 7) A3))) (A0 10))))))))
 (AN (Ay (A1 (A0 3) (A1 (A0 4) A3)))))))
noncomputable def Cl:Nat->FD
 |0=>λ_ _=>none
 |n+1=>mkF 3 11 (Gu (Cl n))
noncomputable abbrev DY:FD:=Cl 10
noncomputable abbrev Er:Df:=⟨"broken_off",Ef,["works","wishes","some"],16,DY⟩
noncomputable abbrev Ee:Stmt:=top 25
def I0:FnScope ["works","wishes","sets"] ["works","wishes","sets"] (AB Ee):=B1 101
@[reducible] noncomputable def Ih:MS:=(AN (Fb (λn m=>decide (n>m)) 144 [0,1] (A9 0 Cu (A1 139 (A1 144 (A1 77 A3))))))
noncomputable def CJ:FD:=mkF 3 3 Ih
noncomputable abbrev CG:Df:=⟨"greatest_bound",Ee,["works","wishes","sets"],7,CJ⟩
noncomputable abbrev F5:Stmt:=top 26
def IQ:FnScope ["works","wishes","pieces","sets"] ["works","wishes"] (AB F5):=B1 101
@[reducible] noncomputable def Je:MS:=(A5 (G8 (E4 DY (A1 77 (A1 139 (A1 (Jg (A1 (mCB (f1 true BS) (A1 77 A3)) A3)) A3)))) (Bj 2 (AZ (AC 2) (AZ (AC 3) Bl))))
 (AN (Ay (A1 (mCB (f1 true Bb) (A1 144 A3)) (A1 (Ba CJ (A1 77 (A1 139 (A1 (A0 3) A3)))) A3)))))
noncomputable def Bw:FD:=mkF 2 4 Je
noncomputable abbrev DT:Df:=⟨"greatest_plan",F5,["works","wishes"],17,Bw⟩
noncomputable abbrev GZ:Stmt:=top 27
def KG:FnScope ["works","wishes","dues","turn","a","b"] ["works","wishes"] (AB GZ):=B1 101
@[reducible] noncomputable def Ll:MS:=(A5 (AE 2 (AU (Af 1 [] (Au 77) (AC 0) C6 (mOp gIx (mOp gIx 77 (mC (.int 2))) 123))))
 (A5 (BA (Au 77) (AC 3)
  (BA (Au 139) (Bj 2 (AZ (AC 4) (AZ (AC 5) Bl)))
  (CQ 144 (A0 4) (mCB GK (A1 (mOp gIx 144 (A0 4)) (A1 (mOp CD (mOp gIx 144 (A0 5)) (mOp gIx (mOp gIx 77 (A0 5)) 103)) A3))))))
 (AN 144)))
noncomputable def D9:FD:=mkF 2 6 Ll
noncomputable abbrev EE:Df:=⟨"turned_dues",GZ,["works","wishes"],1,D9⟩
noncomputable abbrev IC:Stmt:=top 28
def Mo:FnScope ["pieces","work","begin","end"] ["pieces","work","begin","end"] (AB IC):=B1 101
@[reducible] noncomputable def O0:MS:=(Ag (CP (CB 77) (CP (A7 (mOp gEq (mOp gIx (mOp gIx 77 (EB 123)) 103) 139)) (A7 (mOp gEq (mOp gIx (mOp gIx 77 (EB 123)) (mC (.int 2))) 144))))
 (CQ 77 (EB 123) (Ay (A1 139 (A1 (mOp gIx (mOp gIx 77 (EB 123)) 123) (A1 (A0 3) A3)))))
 (Aq (mMt Ad 77 (A1 (Ay (A1 139 (A1 144 (A1 (A0 3) A3)))) A3))))
noncomputable def D5:FD:=mkF 4 4 O0
noncomputable abbrev FM:Df:=⟨"add_piece",IC,["pieces","work","begin","end"],1,D5⟩
noncomputable abbrev Ga:Stmt:=top 29
def KH:FnScope ["works","begins","rank","left","pieces","t","undone","work","stop"] ["works","begins","rank"] (AB Ga):=B1 101
@[reducible] noncomputable def Lm:MS:=(A5 (AE 3 (AU (Af 1 [] (Au 77) (AC 0) C6 (mOp gIx 77 103))))
 (A5 (AE 4 (AU (Ab A3)))
 (A5 (AE 5 103)
 (A5 (Ch (CB (mCB (f1 false Jo) (A1 (A0 3) A3)))
  (A5 (AE 6 (AU (Af 1 [3] (DE (A1 (mCB (f1 true BS) (A1 77 A3)) A3)) (AC 0) (A7 (mOp gGt (mOp gIx 139 77) 103)) 77)))
 (A5 (AE 5 (mCB D6 (A1 (A0 5) (A1 (B9 ED (Af 1 [1] (BI (A0 6)) (AC 0) C6 (mOp gIx 139 77))) A3))))
 (A5 (AE 7 (Eo (AU (Af 1 [1,5] (BI (A0 6)) (AC 0) (A7 (mOp gLe (mOp gIx 139 77) 144)) 77)) [2,3] (Ay (A1 (DN 139 (A1 77 (A1 (mOp gIx 144 77) A3))) (A1 77 A3)))))
 (A5 (AE 8 (B9 ED (G7 (AU (Ab (A1 (mOp Al (A0 5) (mOp gIx (A0 3) (A0 7))) A3))) (AU (Af 1 [1,5] (BI (A0 6)) (AC 0) (A7 (mOp gGt (mOp gIx 139 77) 144)) (mOp gIx 139 77))))))
 (A5 (Aq (Ba D5 (A1 (A0 4) (A1 (A0 7) (A1 (A0 5) (A1 (A0 8) A3))))))
 (A5 (G6 (A0 3) (A0 7) (mOp CD (A0 8) (A0 5)) (λi j=>i-j))
 (AE 5 (A0 8)))))))))
 (AN (mCB (f1 true Bb) (A1 (A0 4) A3)))))))
noncomputable def DB:FD:=mkF 3 9 Lm
noncomputable abbrev D7:Df:=⟨"ranked_plan",Ga,["works","begins","rank"],4,DB⟩
noncomputable abbrev JS:Stmt:=top 30
def Nu:FnScope ["works","wishes","dues"] ["works","wishes"] (AB JS):=B1 101
@[reducible] noncomputable def Pu:MS:=(A5 (Aq (A9 0 Be (A1 77 (A1 (mC (.str "late")) A3))))
 (A5 (AE 2 (A9 0 D9 (A1 77 (A1 139 A3))))
 (AN (Fa DB 2 77 (A9 0 EU (A1 77 (A1 139 A3)))))))
noncomputable def DX:FD:=mkF 2 3 Pu
noncomputable abbrev EN:Df:=⟨"due_plan",JS,["works","wishes"],5,DX⟩
noncomputable abbrev Qy:Stmt:=top 32
def Wa:FnScope ["_law_script"] ["_law_script"] (AB Qy):=B1 101
@[reducible] def av:MS:=(AN (AU (Ab (A1 (AU (Gz (KS 77 FZ (Jj (mC (.int 63)))))) (A1 103 (A1 103 A3))))))
noncomputable def K6:FD:=mkF 1 1 av
noncomputable abbrev NQ:Df:=⟨"_law_feed",Qy,["_law_script"],1,K6⟩
noncomputable abbrev Qx:Stmt:=top 33
def WZ:FnScope ["_law_feed_here","_law_many","_law_digit","_law_at","_law_cell","_law_first"] ["_law_feed_here","_law_many"] (AB Qx):=B1 101
@[reducible] def au:MS:=(A5 (Ag (A7 (mOp gGt (mOp gIx 77 (mC (.int 2))) 103))
 (A5 (AE 2 (mOp Cv (mOp gIx 77 (mC (.int 2))) 139))
 (A5 (CQ 77 (mC (.int 2)) (mOp GI (mOp gIx 77 (mC (.int 2))) 139))
 (AN 144)))
  Aa)
 (A5 (AE 3 (mOp gIx 77 123))
 (A5 (CQ 77 123 (mOp Al (A0 3) 123))
 (A5 (AE 4 (mIf (A7 (CS true (mOp gIx 77 103) (Ab A3))) (mOp gIx (mOp gIx 77 103) (mOp Cv (A0 3) (mCB (f1 true BS) (A1 (mOp gIx 77 103) A3)))) 103))
 (A5 (Ag (CP (A7 (mOp gGe (A0 4) (mOp Q4 (mC (.int 10)) (mC (.int 18))))) (A7 (mOp gLt (A0 3) (mCB (f1 true BS) (A1 (mOp gIx 77 103) A3)))))
  (A5 (CQ 77 (mC (.int 2)) (mOp GI (A0 4) 139))
 (AN (mOp Cv (A0 4) 139)))
  Aa)
 (A5 (AE 5 (mOp Cv (mOp Bc (mOp Al (mOp Al (mOp Al (mOp Cv (A0 4) (mC (.int 1000003))) (mOp Bc (mOp Bc (mC (.int 37)) (A0 3)) (A0 3))) (mOp Bc (mC (.int 13)) (A0 3))) (mC (.int 5))) (mC (.int 48271))) (mC (.int 999983))))
 (AN (mOp Cv (mOp GI (mOp Cv (mOp Bc (mOp Cv (mOp Al (mOp Al (mOp Bc (A0 5) (A0 5)) (mOp Bc (mC (.int 7919)) (A0 3))) (mC (.int 11))) (mC (.int 2097143))) (mC (.int 69621))) (mC (.int 2147483629))) (mC (.int 7))) 139))))))))
noncomputable def Am:FD:=mkF 2 6 au
noncomputable abbrev Fj:Df:=⟨"_law_next",Qx,["_law_feed_here","_law_many"],1,Am⟩
noncomputable abbrev OE:Stmt:=top 34
def Tg:FnScope [] [] (AB OE):=B1 101
@[reducible] noncomputable def YC:MS:=(AN (AU (Ab (A1 (mC (.str "late")) (A1 (mC (.str "tardy")) (A1 (mC (.str "miss")) (A1 (mC (.str "ends")) (A1 (mC (.str "steps")) A3))))))))
noncomputable def ET:FD:=mkF 0 0 YC
noncomputable abbrev Kk:Df:=⟨"_law_words",OE,[],1,ET⟩
noncomputable abbrev R8:Stmt:=top 35
def Wc:FnScope ["_law_feed_here","_law_words_here","_law_word","_law_dues","_law_due","_law_weight","_law_rows","_law_start","_law_height","_law_k"] ["_law_feed_here","_law_words_here"] (AB R8):=B1 101
@[reducible] def ax:MS:=(A5 (AE 2 (mOp gIx 139 (A9 2 Am (A1 77 (A1 (mCB (f1 true BS) (A1 139 A3)) A3)))))
 (A5 (AE 3 (AU (Ab (A1 (A9 2 Am (A1 77 (A1 (mC (.int 40)) A3))) (A1 (A9 2 Am (A1 77 (A1 (mC (.int 160)) A3))) (A1 (mOp CD (A9 2 Am (A1 77 (A1 (mC (.int 500)) A3))) (mC (.int 99))) A3))))))
 (A5 (AE 4 (mOp gIx (A0 3) (A9 2 Am (A1 77 (A1 (mC (.int 3)) A3)))))
 (A5 (AE 5 (A9 2 Am (A1 77 (A1 (mC (.int 10)) A3))))
 (A5 (Ag (A7 (mOp gEq 144 (mC (.str "late"))))
  (AN (Ay (A1 144 (A1 (A0 4) A3))))
  Aa)
 (A5 (Ag (A7 (mOp gEq 144 (mC (.str "ends"))))
  (AN (Ay (A1 144 (A1 (A0 5) A3))))
  Aa)
 (A5 (Ag (A7 (mOp gNe 144 (mC (.str "steps"))))
  (AN (Ay (A1 144 (A1 (A0 4) (A1 (A0 5) A3)))))
  Aa)
 (A5 (AE 6 (AU (Ab A3)))
 (A5 (AE 7 (mOp CD (A9 2 Am (A1 77 (A1 (mC (.int 140)) A3))) (mC (.int 100))))
 (A5 (AE 8 103)
 (A5 (BA (DE (A1 (mOp Al 123 (A9 2 Am (A1 77 (A1 (mC (.int 5)) A3)))) A3)) (AC 9)
  (A5 (AE 7 (mOp Al (mOp Al (A0 7) 123) (A9 2 Am (A1 77 (A1 (mC (.int 60)) A3)))))
 (A5 (AE 8 (mCB GK (A1 (mC (.int 99)) (A1 (mOp Al (A0 8) (A9 2 Am (A1 77 (A1 (mC (.int 30)) A3)))) A3))))
 (Aq (mMt Ad (A0 6) (A1 (Ay (A1 (A0 7) (A1 (A0 8) A3))) A3))))))
 (AN (Ay (A1 144 (A1 (mCB (f1 true Bb) (A1 (A0 6) A3)) A3)))))))))))))))
noncomputable def K7:FD:=mkF 2 10 ax
noncomputable abbrev NS:Df:=⟨"_law_cost",R8,["_law_feed_here","_law_words_here"],2,K7⟩
noncomputable abbrev OD:Stmt:=top 36
def Tf:FnScope ["_law_feed_here","_law_most","_law_words_here","_law_ways","_law_many","_law_longest","_law_way","_law_first","_law_works_here","_law_k","_law_comings"] ["_law_feed_here","_law_most","_law_words_here","_law_ways"] (AB OD):=B1 101
@[reducible] noncomputable def YB:MS:=(A5 (AE 4 (mOp Al 123 (A9 2 Am (A1 77 (A1 139 A3)))))
 (A5 (AE 5 (HA (Ab (A1 (mC (.int 3)) (A1 (mC (.int 20)) A3))) (A9 2 Am (A1 77 (A1 (mC (.int 2)) A3)))))
 (A5 (AE 6 (mOp gIx (A0 3) (A9 2 Am (A1 77 (A1 (mCB (f1 true BS) (A1 (A0 3) A3)) A3)))))
 (A5 (AE 7 (A9 2 Am (A1 77 (A1 (mC (.int 61)) A3))))
 (A5 (AE 8 (AU (Ab A3)))
 (A5 (BA (DE (A1 (A0 4) A3)) (AC 9)
  (El (A5 (AE 10 (AU (Ab (A1 (A0 7) (A1 (A9 2 Am (A1 77 (A1 (mC (.int 8)) A3))) (A1 (A9 2 Am (A1 77 (A1 (mC (.int 25)) A3))) (A1 (A9 2 Am (A1 77 (A1 (mC (.int 61)) A3))) A3)))))))
 (Aq (mMt Ad (A0 8) (A1 (Ay (A1 (mOp Al 123 (A9 2 Am (A1 77 (A1 (A0 5) A3)))) (A1 (mOp gIx (A0 10) (A0 6)) (A1 (A9 3 K7 (A1 77 (A1 144 A3))) A3)))) A3))))))
 (AN (mCB (f1 true Bb) (A1 (A0 8) A3)))))))))
noncomputable def Hz:FD:=mkF 4 11 YB
noncomputable abbrev Kj:Df:=⟨"_law_works",OD,["_law_feed_here","_law_most","_law_words_here","_law_ways"],3,Hz⟩
noncomputable abbrev Mp:Stmt:=top 37
def Qs:FnScope ["_law_feed_here","_law_many","_law_left","_law_seq","_law_way","_law_found","_law_k","_law_j"] ["_law_feed_here","_law_many"] (AB Mp):=B1 101
@[reducible] noncomputable def Uv:MS:=(A5 (AE 2 (AU (Gv (A1 139 A3))))
 (A5 (AE 3 (AU (Ab A3)))
 (A5 (Ch (A7 (CS true 144 (Ab A3)))
  (Aq (mMt Ad (A0 3) (A1 (mMt Fi 144 (A1 (A9 2 Am (A1 77 (A1 (mCB (f1 true BS) (A1 144 A3)) A3))) A3)) A3))))
 (A5 (AE 4 (A9 2 Am (A1 77 (A1 (mC (.int 4)) A3))))
 (A5 (AE 5 (AU (Ab A3)))
 (A5 (BA (DE (A1 139 A3)) (AC 6)
  (BA (DE (A1 (A0 6) A3)) (AC 7)
  (Ag (mOr (CP (A7 (mOp gEq (A0 4) (mC (.int 3)))) (A7 (mOp gEq (A0 7) (mOp CD (A0 6) 123)))) (CP (A7 (mOp (gIn false) (A0 4) (Ay (A1 123 (A1 (mC (.int 2)) A3))))) (A7 (mOp gEq (A9 2 Am (A1 77 (A1 (HA (Ab (A1 123 (A1 (mC (.int 4)) (A1 (mC (.int 2)) A3)))) (A0 4)) A3))) 103))))
  (Aq (mMt Ad (A0 5) (A1 (Ay (A1 (mOp gIx (A0 3) (A0 7)) (A1 (mOp gIx (A0 3) (A0 6)) A3))) A3)))
  Aa)))
 (AN (B9 Bb (KS (AU (Em (BI (A0 5)))) FZ (Jj (mC (.int 16))))))))))))
noncomputable def GV:FD:=mkF 2 8 Uv
noncomputable abbrev Io:Df:=⟨"_law_wishes",Mp,["_law_feed_here","_law_many"],2,GV⟩
noncomputable abbrev OG:Stmt:=top 38
def Tj:FnScope ["_law_cost_here","_law_t"] ["_law_cost_here","_law_t"] (AB OG):=B1 101
@[reducible] noncomputable def YE:MS:=(A5 (Ag (A7 (mOp gEq (mOp gIx 77 103) (mC (.str "late"))))
 (AN (mOp CD 139 (mOp gIx 77 123)))
 Aa)
 (A5 (Ag (A7 (mOp gEq (mOp gIx 77 103) (mC (.str "tardy"))))
  (AN (mOp Bc (mOp gIx 77 (mC (.int 2))) (mCB D6 (A1 103 (A1 (mOp CD 139 (mOp gIx 77 123)) A3)))))
  Aa)
 (A5 (Ag (A7 (mOp gEq (mOp gIx 77 103) (mC (.str "miss"))))
  (AN (mOp Bc (mOp gIx 77 (mC (.int 2))) (mCB NM (A1 (mOp gGt 139 (mOp gIx 77 123)) A3))))
  Aa)
 (A5 (Ag (A7 (mOp gEq (mOp gIx 77 103) (mC (.str "ends"))))
  (AN (mOp Bc (mOp gIx 77 123) 139))
  Aa)
 (AN (B9 GC (G7 (AU (Ab (A1 103 A3))) (AU (Af 2 [1] (Au (mOp gIx 77 123)) (Bj 2 (AZ (AC 0) (AZ (AC 1) Bl))) (A7 (mOp gLe 77 144)) 139)))))))))
noncomputable def DK:FD:=mkF 2 2 YE
noncomputable abbrev Kl:Df:=⟨"_law_costs",OG,["_law_cost_here","_law_t"],1,DK⟩
noncomputable abbrev Ms:Stmt:=top 39
def Qv:FnScope ["_law_thing"] ["_law_thing"] (AB Ms):=B1 101
@[reducible] noncomputable def Uy:MS:=(AN (Hn (EC .int 77) (Hk (EC .bool 77))))
noncomputable def GY:FD:=mkF 1 1 Uy
noncomputable abbrev Ir:Df:=⟨"_law_is_int",Ms,["_law_thing"],1,GY⟩
noncomputable abbrev Qz:Stmt:=top 40
def Wb:FnScope ["_law_works_here","_law_wishes_here","_law_plan","_law_left","_law_ends_here","_law_at","_law_piece","_law_k","_law_begin","_law_end"] ["_law_works_here","_law_wishes_here","_law_plan"] (AB Qz):=B1 101
@[reducible] def aw:MS:=(A5 (Ag (Gx (CB (EC .tuple 144)))
 (AN (mC .non))
 Aa)
 (A5 (AE 3 (AU (Af 1 [] (Au 77) (AC 0) C6 (mOp gIx 77 103))))
 (A5 (AE 4 (AU (Gw (Ab (A1 103 A3)) (mCB (f1 true BS) (A1 77 A3)))))
 (A5 (AE 5 103)
 (A5 (BA (Au 144) (AC 6)
  (A5 (Ag (mOr (Gx (CB (EC .tuple (A0 6)))) (mOr (A7 (mOp gNe (mCB (f1 true BS) (A1 (A0 6) A3)) (mC (.int 3)))) (A7 (KW false (mC (.bl false)) (Af 1 [] (Au (A0 6)) (AC 0) C6 (A9 0 GY (A1 77 A3)))))))
  (AN (mC .non))
  Aa)
 (A5 (G8 (A0 6) (Bj 3 (AZ (AC 7) (AZ (AC 8) (AZ (AC 9) Bl)))))
 (A5 (Ag (mOr (Gx (A7 (Cz gLe gLt 103 (A0 7) (mCB (f1 true BS) (A1 77 A3))))) (mOr (A7 (mOp gLt (A0 8) (A0 5))) (mOr (A7 (mOp gLe (A0 9) (A0 8))) (A7 (mOp gLt (A0 8) (mOp gIx (mOp gIx 77 (A0 7)) 123))))))
  (AN (mC .non))
  Aa)
 (A5 (Ag (A7 (Dm true (Af 2 [7,3,4,8] (Au 139) (Bj 2 (AZ (AC 0) (AZ (AC 1) Bl))) (CP (A7 (mOp gEq 139 144)) (mOr (A7 (mOp gGt (mOp gIx (A0 3) 77) 103)) (A7 (mOp gGt (mOp gIx (A0 4) 77) (A0 5))))) 77) (Ab A3)))
  (AN (mC .non))
  Aa)
 (A5 (CQ (A0 3) (A0 7) (mOp CD (mOp gIx (A0 3) (A0 7)) (mOp CD (A0 9) (A0 8))))
 (A5 (CQ (A0 4) (A0 7) (A0 9))
 (AE 5 (A0 9)))))))))
 (AN (mIf (A7 (CS false (A0 3) (Gw (Ab (A1 103 A3)) (mCB (f1 true BS) (A1 77 A3))))) (A0 4) (mC .non))))))))
noncomputable def Fr:FD:=mkF 3 10 aw
noncomputable abbrev NR:Df:=⟨"_law_ends",Qz,["_law_works_here","_law_wishes_here","_law_plan"],2,Fr⟩
noncomputable abbrev JR:Stmt:=top 41
def Nt:FnScope ["_law_works_here","_law_ends_here"] ["_law_works_here","_law_ends_here"] (AB JR):=B1 101
@[reducible] noncomputable def Pt:MS:=(AN (B9 GC (Af 1 [0,1] (DE (A1 (mCB (f1 true BS) (A1 77 A3)) A3)) (AC 0) C6 (A9 0 DK (A1 (mOp gIx (mOp gIx 139 77) (mC (.int 2))) (A1 (mOp gIx 144 77) A3))))))
noncomputable def Bx:FD:=mkF 2 2 Pt
noncomputable abbrev GO:Df:=⟨"_law_greatest",JR,["_law_works_here","_law_ends_here"],2,Bx⟩
noncomputable abbrev Mr:Stmt:=top 42
def Qu:FnScope ["_law_many","_law_wishes_here","_law_found","_law_turn","_law_longer","_law_row","_law_k","_law_firsts"] ["_law_many","_law_wishes_here"] (AB Mr):=B1 101
@[reducible] noncomputable def Ux:MS:=(A5 (AE 2 (AU (Ab (A1 (Ay A3) A3))))
 (A5 (BA (DE (A1 77 A3)) (AC 3)
  (A5 (AE 4 (AU (Ab A3)))
 (A5 (BA (BI 144) (AC 5)
  (BA (DE (A1 77 A3)) (AC 6)
  (El (A5 (AE 7 (AU (Af 2 [6,5] (Au 139) (Bj 2 (AZ (AC 0) (AZ (AC 1) Bl))) (CP (A7 (mOp gEq 139 144)) (A7 (mOp (gIn true) 77 (A0 3)))) 77)))
 (Ag (CP (A7 (mOp (gIn true) (A0 6) (A0 5))) (A7 (CS false (A0 7) (Ab A3))))
  (Aq (mMt Ad (A0 4) (A1 (mOp Q6 (A0 5) (Ay (A1 (A0 6) A3))) A3)))
  Aa)))))
 (AE 2 (A0 4)))))
 (AN 144)))
noncomputable def GX:FD:=mkF 2 8 Ux
noncomputable abbrev Iq:Df:=⟨"_law_orders",Mr,["_law_many","_law_wishes_here"],1,GX⟩
noncomputable abbrev JQ:Stmt:=top 43
def Nr:FnScope ["_law_works_here","_law_order","_law_ends_here","_law_t","_law_k"] ["_law_works_here","_law_order"] (AB JQ):=B1 101
@[reducible] noncomputable def Pr:MS:=(A5 (AE 2 (AU (Gw (Ab (A1 103 A3)) (mCB (f1 true BS) (A1 77 A3)))))
 (A5 (AE 3 103)
 (A5 (BA (Au 139) (AC 4)
  (A5 (AE 3 (mOp Al (mCB D6 (A1 (A0 3) (A1 (mOp gIx (mOp gIx 77 (A0 4)) 123) A3))) (mOp gIx (mOp gIx 77 (A0 4)) 103)))
 (CQ 144 (A0 4) (A0 3))))
 (AN 144))))
noncomputable def DW:FD:=mkF 2 5 Pr
noncomputable abbrev GN:Df:=⟨"_law_run_ends",JQ,["_law_works_here","_law_order"],1,DW⟩
noncomputable abbrev VZ:Stmt:=top 44
def Yu:FnScope ["_law_script","_law_feed_here","_law_turn","_law_late","_law_works_here","_law_wishes_here","_law_every","_law_least","_law_plans","_law_plan","_law_ends_here"] ["_law_script"] (AB VZ):=B1 101
@[reducible] def cY:MS:=(A5 (AE 1 (Ba K6 (A1 77 A3)))
 (A5 (BA (DE (A1 (mC (.int 2)) A3)) (AC 2)
  (El (A5 (AE 3 (mOp gEq (A9 2 Am (A1 139 (A1 (mC (.int 2)) A3))) 103))
 (A5 (AE 4 (A9 4 Hz (A1 139 (A1 (mC (.int 5)) (A1 (mIf (CB (A0 3)) (AU (Ab (A1 (mC (.str "late")) A3))) (A9 0 ET A3)) (A1 (AU (Ab (A1 123 (A1 (mC (.int 2)) (A1 (mC (.int 3)) (A1 103 A3)))))) A3))))))
 (A5 (AE 5 (A9 2 GV (A1 139 (A1 (mCB (f1 true BS) (A1 (A0 4) A3)) A3))))
 (A5 (AE 6 (A9 0 GX (A1 (mCB (f1 true BS) (A1 (A0 4) A3)) (A1 (A0 5) A3))))
 (A5 (AE 7 (B9 ED (Af 1 [4] (BI (A0 6)) (AC 0) C6 (Ba Bx (A1 139 (A1 (A9 0 DW (A1 139 (A1 77 A3))) A3))))))
 (A5 (AE 8 (AU (Ab (A1 (mOp gIx (A9 0 Bw (A1 (A0 4) (A1 (A0 5) A3))) 103) A3))))
 (A5 (Ag (A7 (Dm false (Af 1 [] (Au (A0 4)) (AC 0) (A7 (mOp gNe (mOp gIx (mOp gIx 77 (mC (.int 2))) 103) (mC (.str "late")))) 77) (Ab A3)))
  (Aq (mMt Ad (A0 8) (A1 (A9 0 DX (A1 (A0 4) (A1 (A0 5) A3))) A3)))
  Aa)
 (BA (BI (A0 8)) (AC 9)
  (A5 (AE 10 (A9 0 Fr (A1 (A0 4) (A1 (A0 5) (A1 (A0 9) A3)))))
 (Ag (mOr (A7 (HB false (A0 10))) (A7 (mOp gGt (Ba Bx (A1 (A0 4) (A1 (A0 10) A3))) (A0 7))))
  (AN (mC (.bl false)))
  Aa))))))))))))
 (AN (mC (.bl true)))))
def fH:FD:=mkF 1 11 cY
noncomputable abbrev QC:Df:=⟨"law",VZ,["_law_script"],18,fH⟩
set_option maxHeartbeats 0 in
def oks{E:EnK}(B:BltA E.mg):(Dn E Ip->Kn E Ip)/\
 (Dn E Fk->Kn E Ip->Kn E Fk)/\
 (Dl E Cp ⟨15,33,15,57⟩->Kn E Fk->Kn E Cp)/\
 (Dn E GM->Kn E GM)/\
 (Dn E FC->Kn E GM->Kn E FC)/\
 (Dn E HN->Kn E HN)/\
 (Dn E Iu->Kn E HN->Kn E Iu)/\
 (Dn E Dt->Kn E Iu->Kn E Dt)/\
 (Dn E FL->Kn E FL)/\
 (Dn E CF->Kn E CF)/\
 (Dn E GP->Kn E Fk->Kn E FC->Kn E Dt->Kn E FL->Kn E GP)/\
 (Dl E CT ⟨84,56,84,91⟩->Kn E FC->Kn E Dt->Kn E CT)/\
 (Dn E HM->Kn E HM)/\
 (Dn E EF->Kn E EF)/\
 (Dn E Er->Kn E Cp->Kn E CT->Kn E HM->Kn E EF->Kn E Er)/\
 (Dl E CG ⟨107,25,107,67⟩->Kn E GP->Kn E CG)/\
 (Dn E DT->Kn E Er->Kn E CG->Kn E DT)/\
 (Dn E EE->Kn E EE)/\
 (Dn E FM->Kn E FM)/\
 (Dl E D7 ⟨129,62,129,93⟩->Kn E FM->Kn E D7)/\
 (Dl E EN ⟨138,52,138,81⟩->Kn E Fk->Kn E CF->Kn E EE->Kn E D7->Kn E EN)/\
 (Dn E NQ->Kn E NQ)/\
 (Dn E Fj->Kn E Fj)/\
 (Dn E Kk->Kn E Kk)/\
 (Dn E NS->Kn E Fj->Kn E NS)/\
 (Dn E Kj->Kn E Fj->Kn E NS->Kn E Kj)/\
 (Dn E Io->Kn E Fj->Kn E Io)/\
 (Dn E Kl->Kn E Kl)/\
 (Dn E Ir->Kn E Ir)/\
 (Dn E NR->Kn E Ir->Kn E NR)/\
 (Dn E GO->Kn E Kl->Kn E GO)/\
 (Dn E Iq->Kn E Iq)/\
 (Dn E GN->Kn E GN)/\
 (Dn E QC->Kn E DT->Kn E EN->Kn E NQ->Kn E Fj->Kn E Kk->Kn E Kj->Kn E Io->Kn E NR->Kn E GO->Kn E Iq->Kn E GN->Kn E QC):=by
 refine⟨λD=>okK D Qt rfl rfl λ_ _ _ _ _ _ _ hr=>?_,
  λD _=>okK D Th rfl rfl λ_ _ _ _ _ _ _ hr=>?_,
  λD _=>okL D JN rfl rfl λ_ _ _ _ LC _ _ _ _ _ _ hcd hr=>?_,
  λD=>okK D Nq rfl rfl λ_ _ _ _ _ _ _ hr=>?_,
  λD _=>okK D PJ rfl rfl λ_ _ _ _ _ _ _ hr=>?_,
  λD=>okK D PH rfl rfl λ_ _ _ _ _ _ _ hr=>?_,
  λD _=>okK D Qw rfl rfl λ_ _ _ _ _ _ _ hr=>?_,
  λD _=>okK D Mn rfl rfl λ_ _ _ _ _ _ _ hr=>?_,
  λD=>okK D Mm rfl rfl λ_ _ _ _ _ _ _ hr=>?_,
  λD=>okK D FS rfl rfl λ_ _ _ _ _ _ _ hr=>?_,
  λD _ _ _ _=>okK D Nv rfl rfl λ_ _ _ _ _ _ _ hr=>?_,
  λD _ _=>okL D IR rfl rfl λ_ _ _ _ LC _ _ _ _ _ _ hcd hr=>?_,
  λD=>okK D PD rfl rfl λ_ _ _ _ _ _ _ hr=>?_,
  λD=>okK D KI rfl rfl λ_ _ _ _ _ _ _ hr=>?_,
  λD _ _ _ _=>Nat.rec (motive:=λn=>Kn E ⟨"broken_off",Ef,["works","wishes","some"],n+6,Cl n⟩) (ok0 D) (λn ih=>okK (j:=n+6) D Lk rfl 59 λ_ _ _ _ _ _ _ hr=>?_) 10,
  λD _=>okL D I0 rfl rfl λ_ _ _ _ LC _ _ _ _ _ _ hcd hr=>?_,
  λD _ _=>okK D IQ rfl rfl λ_ _ _ _ _ _ _ hr=>?_,
  λD=>okK D KG rfl rfl λ_ _ _ _ _ _ _ hr=>?_,
  λD=>okK D Mo rfl rfl λ_ _ _ _ _ _ _ hr=>?_,
  λD _=>okL D KH rfl rfl λ_ _ _ _ LC _ _ _ _ _ _ hcd hr=>?_,
  λD _ _ _ _=>okL D Nu rfl rfl λ_ _ _ _ LC _ _ _ _ _ _ hcd hr=>?_,
  λD=>okK D Wa rfl rfl λ_ _ _ _ _ _ _ hr=>?_,
  λD=>okK D WZ rfl rfl λ_ _ _ _ _ _ _ hr=>?_,
  λD=>okK D Tg rfl rfl λ_ _ _ _ _ _ _ hr=>?_,
  λD _=>okK D Wc rfl rfl λ_ _ _ _ _ _ _ hr=>?_,
  λD _ _=>okK D Tf rfl rfl λ_ _ _ _ _ _ _ hr=>?_,
  λD _=>okK D Qs rfl rfl λ_ _ _ _ _ _ _ hr=>?_,
  λD=>okK D Tj rfl rfl λ_ _ _ _ _ _ _ hr=>?_,
  λD=>okK D Qv rfl rfl λ_ _ _ _ _ _ _ hr=>?_,
  λD _=>okK D Wb rfl rfl λ_ _ _ _ _ _ _ hr=>?_,
  λD _=>okK D Nt rfl rfl λ_ _ _ _ _ _ _ hr=>?_,
  λD=>okK D Qu rfl rfl λ_ _ _ _ _ _ _ hr=>?_,
  λD=>okK D Nr rfl rfl λ_ _ _ _ _ _ _ hr=>?_,
  λD _ _ _ _ _ _ _ _ _ _ _=>okK D Yu rfl rfl λ_ _ _ _ _ _ _ hr=>?_⟩
 all_goals (refine' ⟨_,_⟩;rotate_left;repeat' (first
  |((with_reducible show QE _ _ _ _ _);first|exact qv _ _|(first|exact aA _|exact Zv _|exact cK _|exact Zy _)|((with_reducible show QE _ _ _ _ (mOp _ _ _));first|((with_reducible show QE _ _ _ _ (mOp gIx _ _));refine' cI _ _ _)|((with_reducible show QE _ _ _ _ (mOp EL _ _));refine' Xa _ (Q0 hr) _ _)|((with_reducible show QE _ _ _ _ (mOp Al _ _));refine' G4 _ ((Ry).or (N7 _)) (Dd Rf OM) _ _)|((with_reducible show QE _ _ _ _ (mOp CD _ _));refine' G4 _ ae ZP _ _)|((with_reducible show QE _ _ _ _ (mOp Bc _ _));refine' G4 _ ai ZR _ _)|((with_reducible show QE _ _ _ _ (mOp Cv _ _));refine' G4 _ aj ZS _ _)|((with_reducible show QE _ _ _ _ (mOp GI _ _));refine' G4 _ Y0 X7 _ _)|((with_reducible show QE _ _ _ _ (mOp Q4 _ _));refine' G4 _ ag ZQ _ _)|((with_reducible show QE _ _ _ _ (mOp Q6 _ _));refine' G4 _ (((Ry).or (N7 _)).or (Y4 _)) (Dd (Dd Rf OM) X8) _ _)|((with_reducible show QE _ _ _ _ (mOp gGt _ _));refine' Jb _ Vq Ve _ _)|((with_reducible show QE _ _ _ _ (mOp gEq _ _));refine' Jb _ ((Vr).or (KP _ hr.units)) (Dd Rb Re) _ _)|((with_reducible show QE _ _ _ _ (mOp gNe _ _));refine' Jb _ ((Vp).or (KO _ hr.units)) (Dd RZ Ra) _ _)|((with_reducible show QE _ _ _ _ (mOp (gIn false) _ _));refine' Jb _ (N6 _) PY _ _))|refine' Zu _ _|((with_reducible show QE _ _ _ _ (AU _));refine' Zz _ _)|refine' a7 _ _|((with_reducible show QE _ _ _ _ (A9 _ _ _));first|refine' qcW _ (by assumption) hr _|exact qc0 _ (by assumption) hr|refine' qcW _ (by assumption) (hr.in1.deeper _) _)|((with_reducible show QE _ _ _ _ (Ba _ _));refine' qcG (by assumption) hr _)|((with_reducible show QE _ _ _ _ (E4 _ _));refine' qcS (by assumption) hr _)|((with_reducible show QE _ _ _ _ (Fb _ _ _ _));refine' cH LC hcd hr B.max _ (λ_ _ _ _=>_))|((with_reducible show QE _ _ _ _ (EO _ _ _ _));refine' Zl LC hcd hr B.min _ (λ_ _ _ _=>_))|((with_reducible show QE _ _ _ _ (Fa _ _ _ _));refine' qcL LC hcd (by assumption) hr _ _ _)|((with_reducible show QE _ _ _ _ (DN _ _));refine' UT _ (hr.in1.deeper _) _ _)|((with_reducible show QE _ _ _ _ (Eo _ _ _));refine' Zm LC hcd hr B.min _ (λ_ _ _ _=>_))|((with_reducible show QE _ _ _ _ (B9 _ _));first|((with_reducible show QE _ _ _ _ (B9 Ik _));refine' M1 _ (LZ _ rfl) RV B.any L2.bt_any _)|((with_reducible show QE _ _ _ _ (B9 Ij _));refine' M1 _ ((LV _ rfl).or (K0 _ rfl)) RP B.sum L2.bt_sum _)|((with_reducible show QE _ _ _ _ (B9 ED _));refine' M1 _ (LX _ rfl) RQ B.min L2.bt_min _)|((with_reducible show QE _ _ _ _ (B9 GC _));refine' M1 _ ((LY _ rfl).or (K1 _ rfl)) RU B.max L2.bt_max _)|((with_reducible show QE _ _ _ _ (B9 Bb _));refine' cJ _ (IH _) Mx B.tuple L2.bt_tuple _))|((with_reducible show QE _ _ _ _ (mCB _ _));first|((with_reducible show QE _ _ _ _ (mCB (f1 _ Ik) _));refine' F7 _ (LZ _ rfl) (IU RV) B.any L2.bt_any _)|((with_reducible show QE _ _ _ _ (mCB (f1 _ Ij) _));refine' F7 _ ((LV _ rfl).or (K0 _ rfl)) (IU RP) B.sum L2.bt_sum _)|((with_reducible show QE _ _ _ _ (mCB (f1 _ BS) _));refine' F7 _ (Sj _) (IU ZD) B.len L2.bt_len _)|((with_reducible show QE _ _ _ _ (mCB (f1 _ ED) _));refine' F7 _ (LX _ rfl) (IU RQ) B.min L2.bt_min _)|((with_reducible show QE _ _ _ _ (mCB (f1 _ GC) _));refine' F7 _ ((LY _ rfl).or (K1 _ rfl)) (IU RU) B.max L2.bt_max _)|((with_reducible show QE _ _ _ _ (mCB (f1 _ Jo) _));refine' F7 _ (QQ _ rfl) (IU Wt) B.any L2.bt_any _)|((with_reducible show QE _ _ _ _ (mCB D6 _));refine' F7 _ (Si rfl) Wv B.max L2.bt_max _)|((with_reducible show QE _ _ _ _ (mCB GK _));refine' F7 _ (Sh rfl) Wu B.min L2.bt_min _)|((with_reducible show QE _ _ _ _ (mCB (f1 _ Bb) _));refine' Vn _ (IH _) (IU Mx) B.tuple L2.bt_tuple _)|((with_reducible show QE _ _ _ _ (mCB NM _));refine' Vn _ Sk ZE B.int L2.bt_int _))|refine' XY _ B.tuple B.range _|((with_reducible show QE _ _ _ _ (HA _ _));refine' a9 _ _ _)|((with_reducible show QE _ _ _ _ (Cz _ _ _ _ _));first|((with_reducible show QE _ _ _ _ (Cz gLe gLt _ _ _));refine' qe_chain Po PX Pn PV _ _ _))|refine' UQ _ _ _ _|((with_reducible show QE _ _ _ _ (mMt _ _ _));first|((with_reducible show QE _ _ _ _ (mMt Ad _ _));refine' Vm _ PySem.F.slot_list_append PySem.F.type_list_append LG RK _ _)|((with_reducible show QE _ _ _ _ (mMt HK _ _));refine' a8 _ PySem.F.slot_list_pop PySem.F.type_list_pop ar Z9 _)|((with_reducible show QE _ _ _ _ (mMt Fi _ _));refine' Vm _ PySem.F.slot_list_pop PySem.F.type_list_pop Us Tx _ _))|refine' qdA _ (λ_ _ _=>_) (λ_ _ _=>_) (λ_ _ _=>_) (λ_ _ _=>_)|((with_reducible show QE _ _ _ _ (EC _ _));first|((with_reducible show QE _ _ _ _ (EC .int _));refine' N2 _ .int B.isinstance B.int _)|((with_reducible show QE _ _ _ _ (EC .bool _));refine' N2 _ .bool B.isinstance B.bool _)|((with_reducible show QE _ _ _ _ (EC .tuple _));refine' N2 _ .tuple B.isinstance B.tuple _))|((with_reducible show QE _ _ _ _ (Hn _ _));refine' aB _ _ _)|((with_reducible show QE _ _ _ _ (Hk _));refine' Zx _ _)|refine' Zw _ _)
  |refine' Xb _ _ _|exact aC _
  |((with_reducible show QT _ _ _ _ _);first|((with_reducible show QT _ _ _ _ (A7 (mOp _ _ _)));first|((with_reducible show QT _ _ _ _ (A7 (mOp gLt _ _)));refine' E2 _ Pn PV _ _)|((with_reducible show QT _ _ _ _ (A7 (mOp gLe _ _)));refine' E2 _ Po PX _ _)|((with_reducible show QT _ _ _ _ (A7 (mOp gGt _ _)));refine' E2 _ Vq Ve _ _)|((with_reducible show QT _ _ _ _ (A7 (mOp gGe _ _)));refine' E2 _ cS cE _ _)|((with_reducible show QT _ _ _ _ (A7 (mOp gEq _ _)));refine' E2 _ ((Vr).or (KP _ hr.units)) (Dd Rb Re) _ _)|((with_reducible show QT _ _ _ _ (A7 (mOp gNe _ _)));refine' E2 _ ((Vp).or (KO _ hr.units)) (Dd RZ Ra) _ _)|((with_reducible show QT _ _ _ _ (A7 (mOp (gIn false) _ _)));refine' E2 _ (N6 _) PY _ _)|((with_reducible show QT _ _ _ _ (A7 (mOp (gIn true) _ _)));refine' E2 _ (Rs _) PY _ _)|((with_reducible show QT _ _ _ _ (A7 (mOp (HH false) _ _)));refine' Za _ (Q0 hr) _ _))|refine' ZY _ _|((with_reducible show QT _ _ _ _ (CB _));refine' UF _ _)|((with_reducible show QT _ _ _ _ (CP _ _));refine' QW.toT _)|((with_reducible show QT _ _ _ _ (mOr _ _));refine' QW.toT _)|((with_reducible show QT _ _ _ _ (A7 (HB _ _)));refine' ZZ _ _)|((with_reducible show QT _ _ _ _ (A7 (CS _ _ _)));first|refine' OR _ (Rx _ hr.units) _ _|refine' OR _ (Ru _ hr.units) _ _)|((with_reducible show QT _ _ _ _ (A7 (Dm _ _ _)));first|refine' OQ _ (Rx _ hr.units) _ _|refine' OQ _ (Ru _ hr.units) _ _)|((with_reducible show QT _ _ _ _ (A7 (KW _ _ _)));refine' XC _ (N6 _) _ _)|((with_reducible show QT _ _ _ _ (A7 (Cz _ _ _ _ _)));first|((with_reducible show QT _ _ _ _ (A7 (Cz gLe gLt _ _ _)));refine' UG Po PX Pn PV _ _ _)))
  |refine' XB _ _|refine' ZW _ _|refine' ZX _ _ _|refine' cF _ _ _
  |((with_reducible show QN _ _ _ _ _);first|((with_reducible show QN _ _ _ _ (E3 _ _ _));refine' Zb LC hcd hr B.sorted _ (λ_ _ _ _=>_))|refine' Zj _ _|((with_reducible show QN _ _ _ _ (Af _ _ _ _ _ _));refine' qnA _ (λ_ _ _=>_) (λ_ _ _=>_) (λ_ _ _=>_))|((with_reducible show QN _ _ _ _ (Gw _ _));refine' Zi _ _ _)|((with_reducible show QN _ _ _ _ (G7 _ _));refine' Zk _ _ _)|((with_reducible show QN _ _ _ _ (KS _ _ _));refine' Zh _ _ _ _)|((with_reducible show QN _ _ _ _ (Em _));refine' Pe _ B.sorted _)|((with_reducible show QN _ _ _ _ (Bn _));first|(refine' Pd _ B.sorted _;rotate_left;refine' Ri _ _)|refine' Pf _ B.sorted _)|((with_reducible show QN _ _ _ _ (Gv _));refine' UM _ B.list B.range _)|((with_reducible show QN _ _ _ _ (Gz _));refine' UN _ B.list _))
  |((with_reducible show QI _ _ _ _ _ _);first|((with_reducible show QI _ _ _ _ _ (DE _));refine' XU _ B.range _)|((with_reducible show QI _ _ _ _ _ (Au _));refine' Zn _ _)|((with_reducible show QI _ _ _ _ _ (BI _));refine' XV _ _)|((with_reducible show QI _ _ _ _ _ (KU _));refine' Zp _ _)|((with_reducible show QI _ _ _ _ _ (En _));refine' Zo _ _))
  |refine' UI _ _
  |((with_reducible show QR _ _ _ _ _ _);first|((with_reducible show QR _ _ _ _ _ (BI _));refine' XQ _ _)|((with_reducible show QR _ _ _ _ _ (Au _));refine' Ri _ _))
  |exact qgA
  |refine' Zq _ rfl _
  |exact XW _|refine' UO _ _ _
  |exact Zt _|refine' Zr _ _
  |exact XS _|refine' XR _ _
  |((with_reducible show QSs _ _ _ _ _);first|((with_reducible show QSs _ _ _ _ (A5 _ _));refine' UH _ _ _)|((with_reducible show QSs _ _ _ _ (El _));refine' Rh _ _)|(first|exact XE _|refine' XD _ _))
  |((with_reducible show QS _ _ _ _ _);first|((with_reducible show QS _ _ _ _ (AE _ (AU (Af _ _ _ _ _ _))));first|refine' dH _ (λ_ _ _=>_) (λ_ _ _=>_) (λ_ _ _=>_)|refine' qsA _)|((with_reducible show QS _ _ _ _ (AE _ _));refine' qsA _)|refine' cG _ _ _ _|refine' Zd _ _|refine' Ze _ rfl _ _ _|refine' XJ _ _|((with_reducible show QS _ _ _ _ (Hm _ _ _));refine' XM _ (Q0 hr) _ _ _)|((with_reducible show QS _ _ _ _ (CQ _ _ _));refine' XH _ _ _ _)|refine' Zf _ _ _|refine' UJ _ _ _|exact XG _|((with_reducible show QS _ _ _ _ Gy);exact UK _)|((with_reducible show QS _ _ _ _ (F9 _ _));refine' XN (FW 101) rfl (by first|exact Or.inl rfl|exact Or.inr rfl) _)|((with_reducible show QS _ _ _ _ (G6 _ _ _ _));refine' XI _ _ _ _ bH))))
open Bd
def Z3{n:Nat}(h:n<=8):Fz (n:Int):=Cm 59 59
def IL{neg:Bool}{QE:D->Hd->Prop}(h:WE ma ls hd λd x=>∃ns:List Int,pyD x d=some (.list (ns.map PyData.int))/\QE (.im (.bl (if neg then !decide (ns=[])else decide (ns=[])))) x):WE (CS neg ma (Ab A3)) ls hd QE:=by
 obtain⟨d,x,e,ns,e2,q⟩:=h;refine⟨_,x,?_,q⟩;unfold CS;rw[e];simp[e2,I.pys,Ol]
def Sq{QE:D->Hd->Prop}(q:QE (.im (.int 1000000000000000000)) hd):WP (Q4 (.im (.int 10)) (.im (.int 18)) hd) QE:=⟨_,_,by simp[po1],q⟩
local macro_rules | `(tactic| nofun) => `(tactic| repeat (first | (with_reducible refine A6 ?_; try dsimp only [set_cons_zero, set_cons_succ, fq, gj, gJ, gQ, List.replicate, Nat.reduceSub, Int.reduceToNat]) | (with_reducible first | refine MR ?_ | refine AD ?_ | refine AS ?_ | refine B6 ?_ | refine C2 ?_ | refine Az ?_ | refine BP ?_ | refine ws_par ?_ | refine DF ?_ | refine Bp ?_ | refine A2 (d := _) rfl ?_ | refine AW ?_ | refine AA ?_ | refine Bg ?_ | refine Av ?_ | refine C4 ?_ | refine Qd ?_ | refine Bi ?_ | refine EG ?_ | refine CY ?_ | refine we_dnew ?_ | refine AQ ?_ | refine Gf ?_ | refine EV ?_ | refine Dj ?_ | refine C1 ?_ | refine A8 ?_ | refine A4 ?_ | refine BZ ?_ | refine Ar ?_ | refine IK ?_ | refine wi_R2 ?_ | refine C3 ?_ | refine Sz ?_ | refine FG ?_ | refine EY ?_ | refine FQ ?_ | refine Ha ?_ | refine Hb ?_ | refine Ft ?_ | refine Ou ?_ | refine EX ?_ | refine JF ?_ | refine FR ?_ | refine JE ?_ | refine HZ ?_ | refine K8 ?_ | refine ⟨_, rfl, ?_⟩) | refine AG rfl (Cw _ _) ?_ | refine AG rfl (Ew _ _ _) ?_ | refine AG rfl (Eu _ _ _ _) ?_ | refine ⟨_, _, _, _, rfl, rfl, rfl, rfl, ?_⟩ | refine ⟨⟨_, rfl⟩, ?_⟩ | refine ⟨Fh, ?_⟩ | refine ⟨DP, ?_⟩ | refine ⟨SN, ?_⟩ | refine ⟨SM, ?_⟩ | refine ⟨E6, ?_⟩ | refine ⟨DQ, ?_⟩ | (with_reducible first | refine IL ?_)))
def T(k:Nat)(a b:MO):Prop:=∃(cs:List Int) (nx lf:Int),0<=nx/\nx+k<=1000000000/\a=.lst (cs.map λi=>.im 134)/\b=.lst [.mu 0,.im (.int nx),.im (.int lf)]
def ap(k:Nat)(cs:List Int)(nx lf many:Int)(n0:0<=nx)(n1:nx+(k+1)<=1000000000)(h0:0<many)(h1:many<1073741824):WF Am [.mu 1,.im (.int many)] [.lst (cs.map λi=>.im 134),.lst [.mu 0,.im (.int nx),.im (.int lf)]] λd x=>∃r a' b',0<=r/\r<many/\d=.im (.int r)/\x=[a',b']/\T k a' b':=by
 have hm:EI many:=h0;have hv:M7 many:=⟨h0,h1⟩
 unfold Am;refine Ax rfl ?_
 nofun
 refine⟨λhc=>?_,λhc=>?_⟩
 .nofun
  refine Dy hm ?_
  nofun
  refine K9 hv ?_
  nofun
  exact⟨_,_,_,(F8 many h0).1,(F8 many h0).2,rfl,rfl,cs,nx,lf/many,n0,by omega,rfl,rfl⟩
 .nofun
  refine WP.mono (Q:=λd x=>x=[.lst (cs.map λi=>.im 134),.lst [.mu 0,.im (.int (nx+1)),.im (.int lf)]]/\∃cell,d=.im (.int cell)) (Qe ?_) ?_
  .nofun
   refine⟨cs,by simp[pyD,Cr,DD],_,rfl,λhb=>?_,λhb=>?_⟩
   .nofun
    refine Bh rfl rfl ?_;have hc:cs≠[]:=by simpa using hb
    have hl:=Fd hc;obtain⟨c,e⟩:=cz hc nx;refine Dy (show EI _ by unfold EI;simp;omega) ?_;refine AG rfl (by simpa using e) ?_;exact⟨rfl,c,rfl⟩
   .nofun
    exact⟨rfl,_,rfl⟩
  .rintro d x ⟨rfl,cell,rfl⟩;have fin:∀ls,ls=[some (.mu 1),some (.im (.int many)),none,some (.im (.int nx)),some (.im (.int cell)),none]->WS (A5 (AE 5 (mOp Cv (mOp Bc (mOp Al (mOp Al (mOp Al (mOp Cv (A0 4) (mC (.int 1000003))) (mOp Bc (mOp Bc (mC (.int 37)) (A0 3)) (A0 3))) (mOp Bc (mC (.int 13)) (A0 3))) (mC (.int 5))) (mC (.int 48271))) (mC (.int 999983))))
    (AN (mOp Cv (mOp GI (mOp Cv (mOp Bc (mOp Cv (mOp Al (mOp Al (mOp Bc (A0 5) (A0 5)) (mOp Bc (mC (.int 7919)) (A0 3))) (mC (.int 11))) (mC (.int 2097143))) (mC (.int 69621))) (mC (.int 2147483629))) (mC (.int 7))) 139))) ls [.lst (cs.map λi=>.im (.int i)),.lst [.mu 0,.im (.int (nx+1)),.im (.int lf)]]
    (λf x=>match f with
     |.rt d=>∃r a' b',0<=r/\r<many/\d=.im (.int r)/\x=[a',b']/\T k a' b'
     |.nx _=>∃r a' b',0<=r/\r<many/\D.im .non=.im (.int r)/\x=[a',b']/\T k a' b'
     | _=>False):=by
    rintro ls rfl
    nofun
    refine Dy (by unfold EI;decide) ?_
    nofun
    refine EW (DH 90 90) ?_
    nofun
    refine EW (Hi 59 59) ?_
    nofun
    refine EW (DH 90 90) ?_
    nofun
    refine EW (Hi 90 90) ?_
    nofun
    refine Dy (by unfold EI;decide) ?_
    nofun
    generalize hx:(((cell%1000003+37*nx*nx+13*nx+5)*48271)%999983:Int)=x;have b1:=F8 (x:=(cell%1000003+37*nx*nx+13*nx+5)*48271) 999983 90;rw[hx]at b1;refine EW (Hi 59 59) ?_
    nofun
    refine EW (DH 90 90) ?_
    nofun
    refine Dy (by unfold EI;decide) ?_
    nofun
    refine EW (Hi 90 90) ?_
    nofun
    refine Dy (by unfold EI;decide) ?_
    nofun
    refine K9 (by unfold M7;decide) ?_
    nofun
    refine Dy hm ?_;exact⟨_,_,_,(F8 many h0).1,(F8 many h0).2,rfl,rfl,cs,nx+1,lf,by omega,by omega,rfl,rfl⟩
   nofun
   refine Sq ?_
   nofun
   split
   .nofun
    refine Bh rfl rfl ?_
    nofun
    refine⟨λhb=>?_,λhb=>?_⟩
    .nofun
     refine K9 hv ?_
     nofun
     refine Dy hm ?_;exact⟨_,_,_,(F8 many h0).1,(F8 many h0).2,rfl,rfl,cs,nx+1,cell/many,by omega,by omega,rfl,rfl⟩
    .refine Az (A6 ?_);exact fin _ rfl
   .refine⟨λhb=>by simp at hb,λhb=>Az (A6 (fin _ rfl))⟩
def tap:Tap T Am where
 cl:=by
  rintro k a b ⟨cs,nx,lf,_,_,rfl,rfl⟩;simp[clO,E9]
 le:=by
  rintro j k a b ⟨cs,nx,lf,h1,h2,e1,e2⟩ h;exact⟨cs,nx,lf,h1,by omega,e1,e2⟩
 pick:=by
  rintro k a b many ⟨cs,nx,lf,n0,n1,rfl,rfl⟩ h0 h1;obtain⟨d,x,e,r,a',b',p1,p2,rfl,rfl,hT⟩:=ap k cs nx lf many n0 (by push_cast at n1;omega) h0 h1;exact⟨r,a',b',p1,p2,e,hT⟩
def bL(ns:List Int):WF K6 [.ro ns] [] λd x=>d=.mu 1/\∃a b,T 100000 a b/\x=[a,b]:=by
 obtain⟨cs,e⟩:=VJ ns none (some 63);exact⟨.mu 1,_,by simp[K6,mkF,e],rfl,_,_,⟨cs,0,0,by decide,by decide,rfl,rfl⟩,rfl⟩
def Ku(bot:Int):List 115->Prop
 |[]=>True
 |(_,h)::r=>bot<=h/\Ku h r
def Asc:List 115->Prop
 |[]=>True
 |(b,_)::r=>(∀q∈r,b<q.1)/\Asc r
theorem Kz(t:Int):∀{rows:List 115} {bot:Int},Ku bot rows->Asc rows->Cg (bot::((rows.filter λq=>decide (q.1<=t)).map (·.2)))=BE t rows bot
 |[],bot,_,_=>by simp[BE,Cg]
 |(b,h)::r,bot,H,A=>by
   rw[BE];by_cases hb:t<b
   .rw[fb hb];have:((b,h)::r).filter (λq=>decide (q.1<=t))=[]:=by
     refine List.filter_eq_nil_iff.mpr λq hq=>?_;rcases mem_cons.mp hq with rfl|hq
     .simp;omega
     .have:=A.1 q hq;simp;omega
    rw[this];rfl
   .rw[fe hb,gK,fb 82,fq];have ih:=Kz t H.2 A.2;rw[<- ih];show Cg (bot::h::(r.filter λq=>decide (q.1<=t)).map (·.2))=_;have h1:=BR (xs:=bot::h::(r.filter λq=>decide (q.1<=t)).map (·.2)) 70;have h2:=BR (xs:=h::(r.filter λq=>decide (q.1<=t)).map (·.2)) 70;have hbot:=H.1;have a1:=h1.2 _ (fj _ h2.1);rcases mem_cons.mp h1.1 with e|e
    .have:=h2.2 h 70;omega
    .have:=h2.2 _ e;omega
def Et:Cost->Prop
 |.tardy _ w=>0<=w/\w<=1000000
 |.miss _ w=>0<=w/\w<=1000000
 |.ends w=>0<=w/\w<=1000000
 |.steps rows=>rows.length<=5/\Ku 0 rows/\Asc rows
 |_=>True
def Up2(rows:List 115):Prop:=rows.Pairwise λp q=>p.1<q.1/\p.2<=q.2
theorem O9:∀{rows:List 115} {bot:Int},Up2 rows->(∀q∈rows,bot<=q.2)->Ku bot rows/\Asc rows
 |[],_,_,_=>⟨trivial,trivial⟩
 |(b,h)::r,bot,U,hb=>by
   unfold Up2 at U;rw[ie]at U;have ih:=O9 (rows:=r) (bot:=h) U.2 λq hq=>(U.1 q hq).2;exact⟨⟨hb (b,h) 70,ih.1⟩,λq hq=>(U.1 q hq).1,ih.2⟩
def WO{b h:Int}(U:Up2 rows)(hq:∀q∈rows,q.1<b/\q.2<=h):Up2 (rows++[(b,h)]):=by
 unfold Up2 at *;rw[List.pairwise_append];refine⟨U,by simp,λp hp q hq'=>?_⟩;rw[fO]at hq';subst hq';exact hq p hp
def D2(m:Int):Cost->Prop
 |.late d=>-m<=d/\d<=m
 |.tardy d w=>(-m<=d/\d<=m)/\0<=w/\w<=9
 |.miss d w=>(-m<=d/\d<=m)/\0<=w/\w<=9
 |.ends w=>0<=w/\w<=9
 |.steps rows=>∀q∈rows,(-m<=q.1/\q.1<=m)/\0<=q.2/\q.2<=99
noncomputable abbrev Wo(xs:List Str):MO:=.lst (xs.map λx=>D.im (.str x))
noncomputable abbrev X5:List Str:=["late","tardy","miss","ends","steps"]
def Fg(x:Str):Prop:=x="late"∨x="tardy"∨x="miss"∨x="ends"∨x="steps"
def atW{xs:List Str}{r:Int}(h0:0<=r)(h1:r<(xs.length:Int))(hx:∀x∈xs,Fg x):∃x:Str,Fg x/\atI (xs.map λx=>D.im (.str x)) r=some (.im (.str x)):=by
 obtain⟨j,rfl⟩:∃j:Nat,r=j:=⟨r.toNat,by omega⟩
 have hj:j<xs.length:=by omega
 exact⟨xs[j],hx _ (List.getElem_mem hj),JA rfl (by simp[hj])⟩
def at3{r:Int}(h0:0<=r)(h1:r<3)(x y z:D):∃d,(d=x∨d=y∨d=z)/\atI [x,y,z] r=some d:=by
 have:r=0∨r=1∨r=2:=by omega
 rcases this with rfl|rfl|rfl
 .exact⟨x,.inl rfl,Bf (j:=0) rfl⟩
 .exact⟨y,.inr (.inl rfl),Bf (j:=1) rfl⟩
 .exact⟨z,.inr (.inr rfl),Bf (j:=2) rfl⟩
def at2{r:Int}(h0:0<=r)(h1:r<2)(x y:D):∃d,(d=x∨d=y)/\atI [x,y] r=some d:=by
 have:r=0∨r=1:=by omega
 rcases this with rfl|rfl
 .exact⟨x,.inl rfl,Bf (j:=0) rfl⟩
 .exact⟨y,.inr rfl,Bf (j:=1) rfl⟩
def at4{r:Int}(h0:0<=r)(h1:r<4)(x y z w:D):∃d,(d=x∨d=y∨d=z∨d=w)/\atI [x,y,z,w] r=some d:=by
 have:r=0∨r=1∨r=2∨r=3:=by omega
 rcases this with rfl|rfl|rfl|rfl
 .exact⟨x,.inl rfl,Bf (j:=0) rfl⟩
 .exact⟨y,.inr (.inl rfl),Bf (j:=1) rfl⟩
 .exact⟨z,.inr (.inr (.inl rfl)),Bf (j:=2) rfl⟩
 .exact⟨w,.inr (.inr (.inr rfl)),Bf (j:=3) rfl⟩
def okC(i:I):Prop:=∃c,i=Ai c/\Et c/\D2 1000 c
def bc(hX0:xs≠[])(h5:85<=5)(hX:∀x∈xs,Fg x)(k:Nat)(a b:MO)(hT:T (k+30) a b):WF K7 [.mu 1,.mu 2] [a,b,Wo xs] λd x=>∃i a' b' g,d=.im i/\okC i/\T k a' b'/\x=a'::b'::([Wo xs]++g):=by
 unfold K7;refine Ax rfl ?_;have lx:0<xs.length:=List.length_pos_iff.mpr hX0
 nofun
 refine tap.draw hT rfl 82 82 λr1 a b hT pr1 qr1=>?_;rw[fN]at qr1;obtain⟨x,hx,ex⟩:=atW pr1 qr1 hX;refine AG rfl ex ?_
 nofun
 refine tap.draw hT rfl (by first|decide|omega) (by first|decide|omega) λr2 a b hT pr2 qr2=>?_
 nofun
 refine tap.draw hT rfl (by first|decide|omega) (by first|decide|omega) λr3 a b hT pr3 qr3=>?_
 nofun
 refine tap.draw hT rfl (by first|decide|omega) (by first|decide|omega) λr4 a b hT pr4 qr4=>?_
 nofun
 refine tap.draw hT rfl (by first|decide|omega) (by first|decide|omega) λr5 a b hT pr5 qr5=>?_;obtain⟨d,hd,ed⟩:=at3 pr5 qr5 (.im (.int r2)) (.im (.int r3)) (.im (.int (r4-99)));refine AG rfl ed ?_;obtain⟨due,rfl,hdue'⟩:∃due,d=.im (.int due)/\(-1000<=due/\due<=1000):=by
  rcases hd with rfl|rfl|rfl
  .exact⟨_,rfl,by omega,by omega⟩
  .exact⟨_,rfl,by omega,by omega⟩
  .exact⟨_,rfl,by omega,by omega⟩
 have hdue:-1000000<=due/\due<=1000000:=by omega
 nofun
 refine tap.draw hT rfl (by first|decide|omega) (by first|decide|omega) λr6 a b hT pr6 qr6=>?_;have w6:(0<=r6/\r6<=1000000)/\(0<=r6/\r6<=9)/\(-1000000<=r6/\r6<=1000000):=by omega
 clear pr1 qr1 pr2 qr2 pr3 qr3 pr4 qr4 pr5 qr5 pr6 qr6
 nofun
 refine⟨λhA=>?_,λhA=>?_⟩
 .nofun
  exact⟨_,a,b,_,FY _ _,⟨.late due,by rw[gq hA];rfl,trivial,hdue'⟩,tap.le hT 59,rfl⟩
 nofun
 refine⟨λhB=>?_,λhB=>?_⟩
 .nofun
  exact⟨_,a,b,_,FY _ _,⟨.ends r6,by rw[gq hB];rfl,w6.1,w6.2.1⟩,tap.le hT 59,rfl⟩
 nofun
 refine⟨λhC=>?_,λhC=>?_⟩
 .nofun
  have hcs:x="tardy"∨x="miss":=by
   have nA:=il hA;have nB:=il hB;have nC:¬ x="steps":=by simpa using hC
   rcases hx with h|h|h|h|h
   .exact absurd h nA
   .exact .inl h
   .exact .inr h
   .exact absurd h nB
   .exact absurd h nC
  refine⟨_,a,b,_,FX _ _ _,?_,tap.le hT 59,rfl⟩;rcases hcs with e|e
  .exact⟨.tardy due r6,by rw[e];rfl,w6.1,hdue',w6.2.1⟩
  .exact⟨.miss due r6,by rw[e];rfl,w6.1,hdue',w6.2.1⟩
 have xst:x="steps":=by simpa using hC
 nofun
 refine tap.draw hT rfl (by first|decide|omega) (by first|decide|omega) λr7 a b hT pr7 qr7=>?_
 nofun
 refine tap.draw hT rfl (by first|decide|omega) (by first|decide|omega) λr8 a b hT pr8 qr8=>?_
 nofun
 refine⟨Cm 59 59,?_⟩;refine B7 (λr ls hd=>∃(rows:List 115) (s h:Int) (a b:MO) (z:Option D),ls=[some (.mu 1),some (.mu 2),some (.im (.str x)),some (.mu 3),some (.im (.int due)),some (.im (.int r6)),some (.mu 4),some (.im (.int s)),some (.im (.int h)),z]/\hd=[a,b,Wo xs,.lst [.im (.int r2),.im (.int r3),.im (.int (r4-99))],.lst (rows.map λr=>.im (.tup [.int r.1,.int r.2]))]/\T (k+2*r.length) a b/\(Up2 rows/\∀r∈rows,(-1000<=r.1/\r.1<=s)/\0<=r.2/\r.2<=h)/\rows.length+r.length<=5/\(-100<=s/\s+60*r.length<=1000)/\0<=h/\h<=99) ?_ ?_ ?_
 .exact⟨[],_,_,a,b,none,rfl,rfl,tap.le hT 82,⟨List.Pairwise.nil,by simp⟩,by simp;omega,⟨by omega,by simp;omega⟩,by decide,by decide⟩
 .rintro d r ls hd ⟨rows,s,h,a,b,z,rfl,rfl,hT,ho,hl,hs,h0,h9⟩;simp only[fU]at hT hl hs;refine⟨_,rfl,?_⟩;dsimp only[set_cons_zero,set_cons_succ];have hT:T (k+2*r.length+2) a b:=hT
  nofun
  refine tap.draw hT rfl (by first|decide|omega) (by first|decide|omega) λr9 a b hT pr9 qr9=>?_
  nofun
  refine tap.draw hT rfl (by first|decide|omega) (by first|decide|omega) λr10 a b hT pr10 qr10=>?_
  nofun
  refine CK rfl (B4 82) ?_;refine⟨AJ _,rows++[(s+1+r9,min 99 (h+r10))],_,_,a,b,_,rfl,by simp,hT,?_,by simp;omega,⟨by omega,by omega⟩,by omega,by omega⟩;refine⟨WO ho.1 λq hq=>?_,λq hq=>?_⟩
  .have:=ho.2 q hq;omega
  rcases mem_append.mp hq with hq|hq
  .have:=ho.2 q hq;omega
  .simp at hq;subst hq;exact⟨⟨by show -1000<=s+1+r9;omega,by show s+1+r9<=s+1+r9;omega⟩,by show 0<=min 99 (h+r10);omega,by show min 99 (h+r10)<=min 99 (h+r10);omega⟩
 .rintro ls hd ⟨rows,s,h,a,b,z,rfl,rfl,hT,ho,hl,hs,h0,h9⟩
  nofun
  refine Bh rfl rfl ?_
  nofun
  have e:(rows.map λr:Int×Int=>D.im (.tup [.int r.1,.int r.2]))=(rows.map λr:Int×Int=>I.tup [.int r.1,.int r.2]).map D.im:=by rw[fM];rfl
  have hl5:rows.length<=5:=by simp at hl;omega
  have hs':s<=1000:=by simp at hs;omega
  obtain⟨u1,u2⟩:=O9 (bot:=0) ho.1 λq hq=>(ho.2 q hq).2.1;refine⟨_,a,b,_,by rw[e,BX];exact FY _ _,⟨.steps rows,by rw[xst];rfl,⟨hl5,u1,u2⟩,λq hq=>?_⟩,tap.le hT 70,rfl⟩;have:=ho.2 q hq;exact⟨⟨by omega,by omega⟩,by omega,by omega⟩
structure Wg where
 len:Int
 com:Int
 co:I
noncomputable def wgI(w:Wg):I:=.tup [.int w.len,.int w.com,w.co]
def Wg.ok(w:Wg):Prop:=(1<=w.len/\w.len<=20)/\(0<=w.com/\w.com<=60)/\okC w.co
def dL(ws:List Wg):Prop:=1<=65/\65<=8/\∀w∈ws,w.ok
noncomputable abbrev AT(ws:List Wg):I:=.tup (ws.map wgI)
noncomputable abbrev V4:MO:=.lst [.im (.int 1),.im (.int 2),.im (.int 3),.im (.int 0)]
def BU(ws:List Wg):(ws.map λw=>D.im (wgI w))=(ws.map wgI).map D.im:=by rw[fM];rfl
def Kp(n:Nat)(ds:List D):clO n (.lst ds)=Ak n ds:=rfl
def Fo{α:Type}(n:Nat)(f:α->I)(l:List α):Ak n (l.map λx=>D.im (f x))=true:=by induction l<;>simp_all
def WD(hX0:xs≠[])(h5:85<=5)(hX:∀x∈xs,Fg x)(k:Nat)(a b:MO)(hT:T (k+300) a b):WF Hz [.mu 1,.im (.int 5),.mu 2,.mu 3] [a,b,Wo xs,V4] λd x=>∃i a' b' g,d=.im i/\(∃ws,i=AT ws/\dL ws/\65<=5)/\T k a' b'/\x=a'::b'::([Wo xs,V4]++g):=by
 unfold Hz;refine Ax rfl ?_
 nofun
 refine tap.draw hT rfl (by first|decide|omega) (by first|decide|omega) λr1 a b hT pr1 qr1=>?_
 nofun
 refine tap.draw hT rfl (by first|decide|omega) (by first|decide|omega) λr2 a b hT pr2 qr2=>?_
 nofun
 obtain⟨d,hd,ed⟩:=at2 pr2 qr2 (.im (.int 3)) (.im (.int 20));refine⟨_,_,rfl,ed,?_⟩;obtain⟨lo,rfl,hlo⟩:∃lo,d=.im (.int lo)/\3<=lo/\lo<=20:=by
  rcases hd with rfl|rfl
  .exact⟨_,rfl,by omega,by omega⟩
  .exact⟨_,rfl,by omega,by omega⟩
 nofun
 refine tap.draw hT rfl (by first|decide|omega) (by first|decide|omega) λr3 a b hT pr3 qr3=>?_;obtain⟨d,hd,ed⟩:=at4 pr3 qr3 (.im (.int 1)) (.im (.int 2)) (.im (.int 3)) (.im (.int 0));refine AG rfl ed ?_;obtain⟨way,rfl,hway⟩:∃way,d=.im (.int way)/\0<=way/\way<4:=by
  rcases hd with rfl|rfl|rfl|rfl<;>exact⟨_,rfl,by omega,by omega⟩
 nofun
 refine tap.draw hT rfl (by first|decide|omega) (by first|decide|omega) λr4 a b hT pr4 qr4=>?_
 nofun
 refine⟨Cm 59 59,?_⟩;refine B7 (λr ls hd=>∃(ws:List Wg) (a b:MO) (z y:Option D),ls=[some (.mu 1),some (.im (.int 5)),some (.mu 2),some (.mu 3),some (.im (.int (1+r1))),some (.im (.int lo)),some (.im (.int way)),some (.im (.int r4)),some (.mu 4),z,y]/\hd=[a,b,Wo xs,V4,.lst (ws.map λw=>.im (wgI w))]/\T (k+34*r.length) a b/\(∀w∈ws,w.ok)/\65+r.length=(1+r1).toNat) ?_ ?_ ?_
 .exact⟨[],a,b,none,none,rfl,rfl,tap.le hT 82,70,by simp⟩
 .rintro d r ls hd ⟨ws,a,b,z,y,rfl,rfl,hT,ho,hl⟩;simp only[fU]at hT hl;have hT:T (k+34*r.length+34) a b:=hT;refine⟨_,rfl,?_⟩;dsimp only[set_cons_zero,set_cons_succ];refine II ?_
  nofun
  refine tap.draw hT rfl (by first|decide|omega) (by first|decide|omega) λr5 a b hT pr5 qr5=>?_
  nofun
  refine tap.draw hT rfl (by first|decide|omega) (by first|decide|omega) λr6 a b hT pr6 qr6=>?_
  nofun
  refine tap.draw hT rfl (by first|decide|omega) (by first|decide|omega) λr7 a b hT pr7 qr7=>?_
  nofun
  refine tap.draw hT rfl (by first|decide|omega) (by first|decide|omega) λr8 a b hT pr8 qr8=>?_
  nofun
  obtain⟨d,hd,ed⟩:=at4 hway.1 hway.2 (.im (.int r4)) (.im (.int r5)) (.im (.int r6)) (.im (.int r7));refine AG rfl ed ?_;obtain⟨com,rfl,hcom⟩:∃com,d=.im (.int com)/\0<=com/\com<=60:=by
   rcases hd with rfl|rfl|rfl|rfl<;>exact⟨_,rfl,by omega,by omega⟩
  nofun
  refine tap.callX (n:=k+34*r.length) (c:=30) hT [Wo xs] (R:=okC) rfl rfl rfl (by simp[Kp,Fo]) (bc hX0 h5 hX _) λi a b hT hi=>?_
  nofun
  refine CK rfl (B4 82) ?_;have ca:=Iz (w:=5) 59 (tap.cl hT).1;have cb:=Iz (w:=5) 59 (tap.cl hT).2;refine⟨?_,_,rfl,AJ _,ws++[⟨1+r8,com,i⟩],a,b,_,_,rfl,?_,hT,?_,?_⟩
  .simp[Kp,ca,cb,Fo]
  .simp[wgI]
  .intro w hw;rcases mem_append.mp hw with h|h
   .exact ho w h
   .simp at h;subst h;exact⟨⟨by show 1<=1+r8;omega,by show 1+r8<=20;omega⟩,hcom,hi⟩
  .simp;omega
 .rintro ls hd ⟨ws,a,b,z,y,rfl,rfl,hT,ho,hl⟩
  nofun
  refine Bh rfl rfl ?_;simp at hl;refine⟨_,a,b,_,by rw[BU,BX],⟨ws,rfl,⟨by omega,by omega,ho⟩,by omega⟩,tap.le hT 70,rfl⟩
def Sy(k:Nat)(n:Nat)(hn:n<=8)(a b:MO)(hT:T (k+100) a b):WF GV [.mu 1,.im (.int (n:Int))] [a,b] λd x=>∃i a' b' g,d=.im i/\(∃(seq:List Nat) (ps:List 115),i=.tup (ps.map M2)/\seq.Perm (69 n)/\Along seq ps/\112<=16)/\T k a' b'/\x=a'::b'::g:=by
 unfold GV;refine Ax rfl ?_
 nofun
 refine WN rfl (IT 59 59) ?_
 nofun
 refine M9 (λm ls hd=>∃(left seq:List Nat) (a b:MO),ls=[some (.mu 1),some (.im (.int (n:Int))),some (.mu 2),some (.mu 3),none,none,none,none]/\hd=[a,b,.lst (AK left),.lst (AK seq)]/\m=left.length/\T (k+80+m) a b/\(seq++left).Perm (69 n)) (n:=n) ?_ ?_
 .refine⟨69 n,[],a,b,rfl,?_,by simp,tap.le hT 59,by simp⟩;rw[gb,CA];rfl
 .rintro m ls hd ⟨left,seq,a,b,rfl,rfl,rfl,hT,pm⟩;have sl:seq.length+left.length=n:=by simpa using pm.length_eq
  nofun
  have en:AK left=(left.map λk:Nat=>(k:Int)).map λi=>.im 134:=by simp[AK]
  refine⟨left.map λk:Nat=>(k:Int),?_,?_⟩
  .show((B2 (AK left)).map λis=>PyData.list (I.pys is))=_;rw[en,Cr,fR,DD]
  nofun
  by_cases hl:left=[]
  .subst hl;rw[fe 70];simp only[fY]at pm;have sl:seq.length=n:=by simpa using sl
   simp only[gE]at hT
   nofun
   refine tap.draw hT rfl (by first|decide|omega) (by first|decide|omega) λr1 a b hT pr1 qr1=>?_
   nofun
   refine⟨Z3 59,?_⟩;refine B7 (λr ls hd=>∃(ps:List 115) (i:Nat) (a b:MO) (z y:Option D),r=Aw (i:Int) (n-i)/\i<=n/\ls=[some (.mu 1),some (.im (.int (n:Int))),some (.mu 2),some (.mu 3),some (.im (.int r1)),some (.mu 4),z,y]/\hd=[a,b,.lst [],.lst (AK seq),.lst (ps.map AY)]/\T (k+8*(n-i)) a b/\112<=7*i/\Along seq ps) ?_ ?_ ?_
   .exact⟨[],0,a,b,none,none,by simp,by omega,rfl,rfl,tap.le hT 59,by simp,(by intro p hp;cases hp)⟩
   .rintro d r ls hd ⟨ps,i,a,b,z,y,er,hi,rfl,rfl,hT,hl,ho⟩;obtain⟨m,hm⟩:∃m,n-i=m+1:=by
     cases q:n-i with
     |zero=>rw[q]at er;cases er
     |succ m=>exact⟨m,rfl⟩
    rw[hm,Aw]at er;obtain⟨rfl,rfl⟩:=133 er;rw[hm]at hT;refine⟨_,rfl,?_⟩;dsimp only[set_cons_zero,set_cons_succ]
    nofun
    refine⟨Z3 59,?_⟩;refine B7 (λr ls hd=>∃(ps:List 115) (j:Nat) (a b:MO) (y:Option D),r=Aw (j:Int) (i-j)/\j<=i/\ls=[some (.mu 1),some (.im (.int (n:Int))),some (.mu 2),some (.mu 3),some (.im (.int r1)),some (.mu 4),some (.im (.int (i:Int))),y]/\hd=[a,b,.lst [],.lst (AK seq),.lst (ps.map AY)]/\T (k+8*m+(8-j)) a b/\112<=7*i+j/\Along seq ps) ?_ ?_ ?_
    .exact⟨ps,0,a,b,y,by simp,by omega,rfl,rfl,hT,by omega,ho⟩
    .rintro d r ls hd ⟨ps,j,a,b,y,er,hj,rfl,rfl,hT,hl,ho⟩;obtain⟨m2,hm2⟩:∃m2,i-j=m2+1:=by
      cases q:i-j with
      |zero=>rw[q]at er;cases er
      |succ m=>exact⟨m,rfl⟩
     rw[hm2,Aw]at er;obtain⟨rfl,rfl⟩:=133 er;have ej:((j:Int)+1)=((j+1:Nat):Int):=by omega
     have em:m2=i-(j+1):=by omega
     have hT:T (k+8*m+(8-(j+1))+1) a b:=tap.le hT 59;refine⟨_,rfl,?_⟩;dsimp only[set_cons_zero,set_cons_succ];refine VU ?_;refine WP.mono (Q:=λc x=>∃a b,T (k+8*m+(8-(j+1))) a b/\x=[a,b,.lst [],.lst (AK seq),.lst (ps.map AY)]) ?_ ?_
     .have tail:WT (CP (A7 (mOp (gIn false) (A0 4) (Ay (A1 123 (A1 (mC (.int 2)) A3))))) (A7 (mOp gEq (A9 2 Am (A1 77 (A1 (HA (Ab (A1 123 (A1 (mC (.int 4)) (A1 (mC (.int 2)) A3)))) (A0 4)) A3))) 103))) [some (.mu 1),some (.im (.int (n:Int))),some (.mu 2),some (.mu 3),some (.im (.int r1)),some (.mu 4),some (.im (.int (i:Int))),some (.im (.int (j:Int)))] [a,b,.lst [],.lst (AK seq),.lst (ps.map AY)] (λc x=>∃a b,T (k+8*m+(8-(j+1))) a b/\x=[a,b,.lst [],.lst (AK seq),.lst (ps.map AY)]):=by
       nofun
       refine WP.eq (in_ints (xs:=[1,2]) r1 false 70) ?_
       nofun
       by_cases h12:r1=1∨r1=2
       .rw[fb (by simpa using h12)]
        nofun
        have hx:∃x:Int,(0<x/\x<=4)/\atI [D.im (.int 1),.im (.int 4),.im (.int 2)] r1=some (.im (.int x)):=by
         rcases h12 with rfl|rfl
         .exact⟨4,by omega,Ew _ _ _⟩
         .exact⟨2,by omega,Eu _ _ _ _⟩
        obtain⟨x,hx1,hx2⟩:=hx;refine tap.draw (many:=x) (rest:=[.lst [],.lst (AK seq),.lst (ps.map AY)]) hT (by simp[hx2]) 59 59 λr a b hT pr qr=>?_
        nofun
        exact⟨a,b,hT,rfl⟩
       .rw[fe (by simpa using h12)];exact⟨a,b,tap.le hT 59,rfl⟩
      nofun
      split
      .nofun
       split
       .exact⟨a,b,tap.le hT 59,rfl⟩
       .exact tail
      .rw[fe Bool.false_ne_true];exact tail
     .rintro c x ⟨a,b,hT,rfl⟩;cases c with
      |false=>
       rw[fe Bool.false_ne_true]
       nofun
       exact⟨AJ _,ps,j+1,a,b,_,by rw[ej,em],by omega,rfl,rfl,hT,by omega,ho⟩
      |true=>
       rw[fb rfl];have hj1:j<seq.length:=by omega
       have hi1:i<seq.length:=by omega
       have sj:seq[j]?=some seq[j]:=by simp[hj1]
       have si:seq[i]?=some seq[i]:=by simp[hi1]
       nofun
       refine AG rfl (S4 sj) ?_
       nofun
       refine AG rfl (S4 si) ?_
       nofun
       refine CK rfl (B4 82) ?_;refine⟨AJ _,ps++[((seq[j]:Int),(seq[i]:Int))],j+1,a,b,_,by rw[ej,em],by omega,rfl,by simp[AY],hT,by simp;omega,?_⟩;intro p hp;rcases mem_append.mp hp with hp|hp
       .exact ho p hp
       .simp at hp;exact⟨j,i,_,_,by omega,sj,si,hp⟩
    .rintro ls hd ⟨ps,j,a,b,y,er,hj,rfl,rfl,hT,hl,ho⟩;have:i-j=0:=by
      cases q:i-j with
      |zero=>rfl
      |succ m=>rw[q]at er;cases er
     exact⟨AJ _,ps,i+1,a,b,_,_,by rw[show n-(i+1)=m by omega];rfl,by omega,rfl,rfl,tap.le hT 59,by omega,ho⟩
   .rintro ls hd ⟨ps,i,a,b,z,y,er,hi,rfl,rfl,hT,hl,ho⟩;have pk:=ho.pok pm 59;have c64:112<64/\∀q∈ps,pok q:=⟨by omega,pk⟩
    nofun
    have sub:((Bq ps).take 16).Sublist (Bq ps):=List.take_sublist _ _;have cut:GQ ((Bq ps).map AY) none (some 16)=((Bq ps).map AY).take 16:=VI ((Bq ps).map AY) 16;have mk:B0 (((Bq ps).map AY).take 16)=.im (.tup (((Bq ps).take 16).map M2)):=by
     have:((Bq ps).map AY).take 16=(((Bq ps).take 16).map M2).map D.im:=by rw[<- map_take,fM];rfl
     rw[this,BX]
    refine WP.eq (z:=((Bq ps).take 16).map AY) (h:=[a,b,.lst [],.lst (AK seq),.lst (ps.map AY),.lst ((Bq ps).map AY)]) ?_ ?_
    .simp;rw[fb c64];simp[cut]
    .refine⟨_,rfl,_,a,b,_,?_,⟨seq,(Bq ps).take 16,rfl,pm,λp h=>ho p ((Fx ps).mem_iff.mp (sub.subset h)),by simp;omega⟩,tap.le hT 59,rfl⟩;rw[map_take];exact mk
  .rw[fb (by simpa using hl)];have h1:0<left.length:=List.length_pos_iff.mpr hl;obtain⟨l,hl2⟩:∃l,left.length=l+1:=⟨left.length-1,by omega⟩
   rw[hl2]at hT
   nofun
   refine tap.draw (many:=(left.length:Int)) (rest:=[.lst (AK left),.lst (AK seq)]) hT (by simp[BS]) 59 59 λr a b hT pr qr=>?_
   nofun
   have hr:r.toNat<left.length:=by omega
   have e1:left[r.toNat]?=some left[r.toNat]:=by simp[hr]
   refine Sr rfl (Cm 59 59) (YM (n:=(AK left).length) pr 82) (by simp[e1];rfl) ?_
   nofun
   refine CK rfl (B4 82) ?_;refine⟨l,by omega,left.eraseIdx r.toNat,seq++[left[r.toNat]],a,b,rfl,?_,by rw[List.length_eraseIdx,fb hr];omega,hT,(Rr e1).trans pm⟩;have er:(AK left).eraseIdx r.toNat=AK (left.eraseIdx r.toNat):=LS _ _ _;simp[er]
open Hds
noncomputable def AM(p:Nat×Nat):I:=.tup [.int p.1,.int p.2]
def DJ(ns:List Int):Ao (intD ns)=some ns:=by
 induction ns with
 |nil=>rfl
 |cons n r ih=>simp[intD]at ih ⊢
def T1{neg:Bool}{QE:D->Hd->Prop}(h:WA ml ls hd λds x=>∃ns:List Int,ds=intD ns/\QE (.im (.bl (if neg then !decide (ns=[])else decide (ns=[])))) x):WE (Dm neg ml (Ab A3)) ls hd QE:=by
 obtain⟨ds,x,e,ns,rfl,q⟩:=h;refine⟨_,x,?_,q⟩;unfold Dm;rw[e];simp[Cr,DD,I.pys,Ol]
def MK{QA:List D->Hd->Prop}(h:WE ma ls hd λd x=>WE mb ls x λe y=>∃i j xs ys,d=.mu i/\e=.mu j/\y[i]?=some 145/\y[j]?=some (.lst ys)/\BY (85+ys.length)/\QA (xs++ys) y):WA (G7 ma mb) ls hd QA:=by
 obtain⟨d,x,e1,e,y,e2,i,j,xs,ys,rfl,rfl,e3,e4,c,q⟩:=h;exact⟨_,_,by simp only[G7,e1,bind_some,e2,e3,e4,c,fL],q⟩
noncomputable def BD(ws:List Wg)(k:Nat):Int:=((ws[k]?).map Wg.com).getD 0
noncomputable def BC(ws:List Wg)(k:Nat):Int:=((ws[k]?).map Wg.len).getD 0
def DL{ws:List Wg}{k:Nat}(hk:k<65):atI (ws.map λw=>D.im (wgI w)) (k:Int)=some (.im (wgI ws[k])):=JA rfl (by simp[hk])
noncomputable abbrev prD(W:List 119):List D:=W.map λp=>D.im (AM p)
noncomputable def JI(w:Nat)(o:Option D):Option D:=match o with
 |some d=>if clD w d=true then some d else none
 |none=>none
def TB(w:Nat)(ls:Ls):Ey w ls=ls.map (JI w):=rfl
def Db{w:Nat}(h:clD w d=true):JI w (some d)=some d:=by simp[JI,h]
def hg0(H0:Hd)(x:MO)(r:Hd):(H0++x::r)[H0.length]?=some x:=by simp
def hg1(H0:Hd)(x y:MO)(r:Hd):(H0++x::y::r)[H0.length+1]?=some y:=by
 rw[List.getElem?_append_right 59];simp
def hg2(H0:Hd)(x y z:MO)(r:Hd):(H0++x::y::z::r)[H0.length+2]?=some z:=by
 rw[List.getElem?_append_right 59];simp
noncomputable abbrev CW(W:List 119)(some_:List Nat):List 119:=W.filter λp=>decide (p.1∈some_)&&decide (p.2∈some_)
def Qc(W:List 119)(some_:List Nat):(W.filterMap λp=>if p.1∈some_/\p.2∈some_ then some (D.im (AM p))else none)=prD (CW W some_):=by
 induction W with
 |nil=>rfl
 |cons p r ih=>
  rw[gD];by_cases h1:p.1∈some_<;>by_cases h2:p.2∈some_<;>simp[h1,h2,CW,prD]at ih ⊢<;>exact ih
structure Up(some_:List Nat)(W:List 119)(rk:Nat->Nat)(b l h:Nat->Int)(t:Nat)(rest:List 119)(v:Nat->Int):Prop where
 lo:∀k∈some_,b k<=v k
 hi:∀k∈some_,v k<=h k
 old:∀k∈some_,rk k<t->v k=h k
 new:∀k∈some_,rk k=t->v k=h k∨∃p∈rest,p.2=k/\h k=h p.1+l p.1
def Up.begin{some_:List Nat}{W:List 119}{rk:Nat->Nat}{b l h v:Nat->Int}{t:Nat}(H:IsHead (λk=>k∈some_) b l W h)(lo:∀k∈some_,b k<=v k)(hi:∀k∈some_,v k<=h k)(old:∀k∈some_,rk k<t->v k=h k):Up some_ W rk b l h t W v:=
 ⟨lo,hi,old,λk hk e=>by
  rcases H.eq k hk with e|⟨p,hp,e1,e2⟩
  .have:=lo k hk;have:=hi k hk;exact .inl 59
  .exact .inr ⟨p,hp,e1,e2⟩⟩
def Up.step{some_:List Nat}{W:List 119}{rk:Nat->Nat}{b l h v:Nat->Int}{t:Nat}{q:Nat×Nat}{r:List 119}(R:Rk (λk=>k∈some_) W rk)(H:IsHead (λk=>k∈some_) b l W h)(hq:q∈W)(U:Up some_ W rk b l h t (q::r) v):
 Up some_ W rk b l h t r (λk=>if k=q.2 then max (v q.2) (v q.1+l q.1)else v k):=by
 have hq1:=(R.ins q hq).1;have hq2:=(R.ins q hq).2;have u1:=H.up q hq hq2;have u2:=U.hi q.1 hq1;have u3:=U.hi q.2 hq2;refine⟨λk hk=>?_,λk hk=>?_,λk hk hr=>?_,λk hk hr=>?_⟩
 .by_cases e:k=q.2
  .subst e;simp only[fL];have:=U.lo q.2 hk;omega
  .simp only[e,fT];exact U.lo k hk
 .by_cases e:k=q.2
  .subst e;simp only[fL];omega
  .simp only[e,fT];exact U.hi k hk
 .by_cases e:k=q.2
  .subst e;simp only[fL];have:=U.old q.2 hk hr;omega
  .simp only[e,fT];exact U.old k hk hr
 .by_cases e:k=q.2
  .subst e;simp only[fL];rcases U.new q.2 hk hr with e1|⟨p,hp,e1,e2⟩
   .exact .inl 59
   .rcases mem_cons.mp hp with rfl|hp
    .have lt:=R.lt p hq;have:=U.old p.1 hq1 59;exact .inl 59
    .exact .inr ⟨p,hp,e1,e2⟩
  .simp only[e,fT];rcases U.new k hk hr with e1|⟨p,hp,e1,e2⟩
   .exact .inl e1
   .rcases mem_cons.mp hp with rfl|hp
    .exact absurd e1.symm e
    .exact .inr ⟨p,hp,e1,e2⟩
noncomputable abbrev onS(some_:List Nat)(v:Nat->Int):Nat->Option Int:=λk=>if k∈some_ then some (v k)else none
def U9{ws:List Wg}{W:List 119}{some_:List Nat}{t:Int}{rk:Nat->Nat}{h:Nat->Int}(hn:65<=8)(hW:W.length<=16)(hs:∀k∈some_,k<65)(hl:some_.length<=8)
 (R:Rk (λk=>k∈some_) (CW W some_) rk) (hrk:∀k∈some_,rk k<some_.length) (H:IsHead (λk=>k∈some_) (λk=>max (BD ws k) t) (BC ws) (CW W some_) h):
 WF GW [.im (AT ws),.im 110,.im (Ae some_),.im (.int t)] [] λd x=>d=.im (.tup (some_.map λk=>.int (h k))):=by
 unfold GW;refine Ax rfl ?_
 nofun
 refine WK (Su ?_)
 nofun
 have nat_im:(Ae some_)=.tup (some_.map λk:Nat=>I.int (k:Int)):=rfl;have tn:(some_.map λk:Nat=>I.int (k:Int)).map D.im=AK some_:=by simp[AK]
 rw[tn];refine MC (λr acc ls hd=>∃(done rest:List Nat) (z:Option D),some_=done++rest/\r=AK rest/\ls=[z,some 125,some (.im (.int t))]/\hd=[]/\acc.length<=done.length/\DicI acc (onS done λk=>max (BD ws k) t)) ?_ ?_ ?_
 .exact⟨[],some_,none,rfl,rfl,rfl,rfl,by simp,λk=>by simp[BG]⟩
 .rintro d r acc ls hd ⟨dn,rest,z,es,er,rfl,rfl,la,hd⟩;cases rest with
  |nil=>cases er
  |cons k rest=>
   obtain⟨rfl,rfl⟩:=133 er;have hk:k<ws.length:=hs k (by rw[es];simp);refine⟨_,rfl,?_⟩
   nofun
   rw[fb rfl];refine Yn ?_
   nofun
   refine AG rfl (by rw[<- BU];exact DL hk) ?_
   nofun
   refine⟨B4 (by have:=fS List.length es;simp at this;omega),AJ _,dn++[k],rest,_,by rw[es];simp,rfl,rfl,rfl,by have:=N3 acc (.inl (k:Int)) (.im (.int (max ws[k].com t)));simp;omega,?_⟩;have e:ws[k].com=BD ws k:=by simp[BD,hk]
   rw[e];intro j;rw[hd.put k _ j];by_cases ej:j=k
   .subst ej;simp
   .simp[ej]
 rintro acc ls hd ⟨dn,rest,z,es,er,rfl,rfl,la,hdic⟩;have:rest=[]:=by cases rest with
  |nil=>rfl
  |cons _ _=>cases er
 subst this;simp only[fY]at es;subst es
 nofun
 refine⟨AL 82,?_⟩;have tw:(W.map AM).map D.im=W.map λp=>D.im (AM p):=by rw[fM];rfl
 rw[tw];refine B8 (λp:Nat×Nat=>D.im (AM p)) (λp=>if p.1∈some_/\p.2∈some_ then some (.im (AM p))else none) (λ_ ls=>∃x y,ls=[some x,some y,some (.mu 0)]) _ (AJ _) ?_ ?_
 .rintro p hp ls hls;refine⟨[some (.im (.int (p.1:Int))),some (.im (.int (p.2:Int))),some (.mu 0)],by rcases hls with rfl|⟨_,x,y,rfl⟩<;>rfl,⟨_,_,rfl⟩,?_⟩
  nofun
  refine O7 (kvs:=acc) rfl hdic ?_
  nofun
  by_cases h1:p.1∈some_
  .rw[fb (by simp[h1])]
   nofun
   refine O7 (kvs:=acc) rfl hdic ?_
   nofun
   refine⟨rfl,?_⟩;by_cases h2:p.2∈some_
   .rw[fb (by simp[h2])];refine⟨_,fb ⟨h1,h2⟩,?_⟩
    nofun
    exact⟨rfl,FY _ _⟩
   .rw[fe (by simp[h2])];exact fe λz=>h2 z.2
  .rw[fe (by simp[h1])];refine⟨rfl,?_⟩;rw[fe Bool.false_ne_true];exact fe λz=>h1 z.1
 rw[Qc];have wl:(CW W some_).length<=16:=fu (gT _ _) hW
 nofun
 rw[tn];refine B7 (λr ls hd=>∃(n:Nat) (kvs:List (Key×D)) (v:Nat->Int) (z6 z7 z8:Option D),ls=[some 125,some (.im 110),some (.im (Ae some_)),some (.im (.int t)),some (.mu 0),some (.mu 1),z6,z7,z8]/\hd=[.dic kvs,.lst (prD (CW W some_))]/\n+r.length=some_.length/\kvs.length<=8+16*n/\DicI kvs (onS some_ v)/\(∀k∈some_,max (BD ws k) t<=v k)/\(∀k∈some_,v k<=h k)/\∀k∈some_,rk k<n->v k=h k) ?_ ?_ ?_
 .exact⟨0,acc,λk=>max (BD ws k) t,none,none,none,rfl,rfl,by simp,by omega,hdic,λk _=>102 _,λk hk=>H.lo k hk,λk _ hr=>by omega⟩
 .rintro d r ls hd ⟨n,kvs,v,z6,z7,z8,rfl,rfl,hl2,lk,hdic,lo,hi,old⟩;simp only[fU]at hl2;refine⟨_,rfl,?_⟩;dsimp only[set_cons_zero,set_cons_succ]
  nofun
  refine⟨_,_,rfl,rfl,?_⟩;refine B7 (λr ls hd=>∃(rest:List 119) (kvs:List (Key×D)) (v:Nat->Int) (z6 z7 z8:Option D),r=prD rest/\(∀p∈rest,p∈CW W some_)/\ls=[some 125,some (.im 110),some (.im (Ae some_)),some (.im (.int t)),some (.mu 0),some (.mu 1),z6,z7,z8]/\hd=[.dic kvs,.lst (prD (CW W some_))]/\kvs.length+rest.length<=8+16*n+16/\DicI kvs (onS some_ v)/\Up some_ (CW W some_) rk (λk=>max (BD ws k) t) (BC ws) h n rest v) ?_ ?_ ?_
  .exact⟨CW W some_,kvs,v,_,_,_,rfl,λp hp=>hp,rfl,rfl,by omega,hdic,Up.begin H lo hi old⟩
  .rintro d r ls hd ⟨rest,kvs,v,z6,z7,z8,er,hsub,rfl,rfl,lk,hdic,U⟩;cases rest with
   |nil=>cases er
   |cons q rest=>
    obtain⟨rfl,rfl⟩:=133 er;have hq:=hsub q fo;have hq1:=(R.ins q hq).1;have hq2:=(R.ins q hq).2;refine⟨_,rfl,?_⟩;dsimp only[set_cons_zero,set_cons_succ];refine W9 (w:=0) ?_
    nofun
    refine IJ (kvs:=kvs) rfl hdic (fb hq2) ?_
    nofun
    refine IJ (kvs:=kvs) rfl hdic (fb hq1) ?_
    nofun
    refine AG rfl (by rw[<- BU];exact DL (hs _ hq1)) ?_
    nofun
    simp only[fU]at lk;refine⟨_,_,_,rfl,rfl,rfl,B4 59,?_⟩;have hq1n:q.1<ws.length:=hs _ hq1;have el:ws[q.1].len=BC ws q.1:=by simp[BC,hs _ hq1]
    rw[el];refine⟨by intro p hp;simp at hp;subst hp;rfl,rest,_,_,_,_,_,rfl,λp hp=>hsub p (fj _ hp),rfl,rfl,by have:=N3 kvs (.inl (q.2:Int)) (.im (.int (max (v q.2) (v q.1+BC ws q.1))));omega,?_,Up.step R H hq U⟩;intro j;rw[hdic.put q.2 _ j];by_cases ej:j=q.2
    .subst ej;simp[hq2]
    .simp[ej]
  .rintro ls hd ⟨rest,kvs,v,z6,z7,z8,er,hsub,rfl,rfl,lk,hdic,U⟩;have:rest=[]:=by cases rest with
    |nil=>rfl
    |cons _ _=>cases er
   subst this;refine⟨AJ _,n+1,kvs,v,_,_,_,rfl,rfl,by omega,by simp at lk;omega,hdic,U.lo,U.hi,λk hk hr=>?_⟩;by_cases e:rk k=n
   .rcases U.new k hk e with e|⟨p,hp,_⟩
    .exact e
    .cases hp
   .exact U.old k hk 59
 .rintro ls hd ⟨n,kvs,v,z6,z7,z8,rfl,rfl,hl2,lk,hdic,lo,hi,old⟩;simp only[gE,Nat.add_zero]at hl2;subst hl2
  nofun
  rw[tn];refine⟨AL 82,?_⟩;refine B8 (λk:Nat=>D.im 120) (λk=>some (.im (.int (h k)))) (λ_ ls=>∃x,ls=[some x,some (.mu 0)]) _ (AJ _) ?_ ?_
  .rintro k hk ls hls;refine⟨[some (.im 120),some (.mu 0)],by rcases hls with rfl|⟨_,x,rfl⟩<;>rfl,⟨_,rfl⟩,?_⟩
   nofun
   refine⟨rfl,?_⟩;rw[fb rfl];refine⟨_,rfl,?_⟩
   nofun
   exact IJ (kvs:=kvs) rfl hdic (fb hk) ⟨rfl,by rw[old k hk (hrk k hk)]⟩
  .refine⟨_,rfl,?_⟩;have:(some_.filterMap λk=>some (D.im (.int (h k))))=(some_.map λk=>I.int (h k)).map D.im:=by simp
   rw[this];exact BX _
def m1:¬ (("miss":Str)="ends"):=by decide +kernel
def s1:¬ (("steps":Str)="late"):=by decide +kernel
def s2:¬ (("steps":Str)="tardy"):=by decide +kernel
def s3:¬ (("steps":Str)="miss"):=by decide +kernel
def s4:¬ (("steps":Str)="ends"):=by decide +kernel
def e1:¬ (("ends":Str)="late"):=by decide +kernel
def e2:¬ (("ends":Str)="tardy"):=by decide +kernel
def e3:¬ (("ends":Str)="miss"):=by decide +kernel
def Yh(h:Et c)(t:Int):WF DK [.im (Ai c),.im (.int t)] [] λd x=>d=.im (.int (c.at t)):=by
 cases c with
 |late d=>exact WP.eq (z:=.im (.int (t-d))) (h:=[]) (by simp[DK,mkF,Ai]) rfl
 |tardy d w=>
  have b1:∀j,EH w j:=λj=>DH (by have:=h.1;omega) (by have:=h.2;omega);refine WP.eq (z:=.im (.int (w*if d<t then t-d else 0))) (h:=[]) (by simp[DK,mkF,Ai,n8,b1,D6]) ?_;simp only[Cost.at];by_cases q:t-d<=0
  .rw[fe 59,fb q,Int.mul_zero]
  .rw[fb 59,fe q]
 |miss d w=>
  have b1:∀j,EH w j:=λj=>DH (by have:=h.1;omega) (by have:=h.2;omega);refine WP.eq (z:=.im (.int (w*if d<t then 1 else 0))) (h:=[]) (by simp[DK,mkF,Ai,n9,n10,b1,NM]) ?_;simp only[Cost.at];by_cases q:t-d<=0
  .rw[fe 59,fb q,Int.mul_zero]
  .rw[fb 59,fe q,Int.mul_one]
 |ends w=>
  have b1:∀j,EH w j:=λj=>DH (by have:=h.1;omega) (by have:=h.2;omega);exact WP.eq (z:=.im (.int (w*t))) (h:=[]) (by simp[DK,mkF,Ai,e1,e2,e3,b1]) rfl
 |steps rows=>
  obtain⟨hl,hr,ha⟩:=h;unfold DK;refine Ax rfl ?_;refine AD (BP (AQ (AA (AA (A2 rfl (AW (AG rfl (Cw _ _) (AW (FR ⟨_,rfl,(λq=>absurd (gq q) s1),λ_=>Az (A6 ?_)⟩)))))))));refine AD (BP (AQ (AA (AA (A2 rfl (AW (AG rfl (Cw _ _) (AW (FR ⟨_,rfl,(λq=>absurd (gq q) s2),λ_=>Az (A6 ?_)⟩)))))))));refine AD (BP (AQ (AA (AA (A2 rfl (AW (AG rfl (Cw _ _) (AW (FR ⟨_,rfl,(λq=>absurd (gq q) s3),λ_=>Az (A6 ?_)⟩)))))))));refine AD (BP (AQ (AA (AA (A2 rfl (AW (AG rfl (Cw _ _) (AW (FR ⟨_,rfl,(λq=>absurd (gq q) s4),λ_=>Az (A6 ?_)⟩)))))))));refine B6 (C4 (MK (Av (BZ (A4 (AW (A8 ⟨DQ,?_⟩)))))));refine Av (Ar (C3 (AA (A2 rfl (AW (AG rfl (Ew _ _ _) ⟨_,rfl,?_⟩))))));rw[show(rows.map Fy).map D.im=rows.map AY by simp[Fy,AY]];refine⟨AL 82,?_⟩;refine B8 AY (λq=>if q.1<=t then some (.im (.int q.2))else none) (λ_ ls=>∃x y,ls=[some x,some y,some (.im (.int t))]) _ (AJ _) ?_ ?_
  .rintro q hq ls hls;refine⟨[some (.im (.int q.1)),some (.im (.int q.2)),some (.im (.int t))],by rcases hls with rfl|⟨_,x,y,rfl⟩<;>rfl,⟨_,_,rfl⟩,AQ (AA (A2 rfl (A2 rfl (Hb ⟨_,rfl,rfl,?_⟩))))⟩;by_cases hb:q.1<=t
   .rw[fb (by simpa using hb)];exact⟨_,fb hb,A2 rfl ⟨rfl,rfl⟩⟩
   .rw[fe (by simpa using hb)];exact fe hb
  have ef:(rows.filterMap λq=>if q.1<=t then some (D.im (.int q.2))else none)=intD ((rows.filter λq=>decide (q.1<=t)).map (·.2)):=by
   clear hl hr ha
   induction rows with
   |nil=>rfl
   |cons q r ih=>
    rw[gD,gK];by_cases hb:q.1<=t
    .simp[hb,ih,intD]
    .simp[hb,ih]
  rw[ef];have fl:=gT (λq:Int×Int=>decide (q.1<=t)) rows;refine⟨0,1,_,_,rfl,rfl,rfl,rfl,AL 82,?_⟩;refine⟨.im (.int (BE t rows 0)),?_,rfl⟩;rw[<- Kz t hr ha];show GC (intD (0::(rows.filter λq=>decide (q.1<=t)).map (·.2)))=_;unfold GC;rw[DJ];simp
def Ig(ks:List Nat):B0 (AK ks)=.im (Ae ks):=by
 have:AK ks=(ks.map λk:Nat=>I.int (k:Int)).map D.im:=by simp[AK]
 rw[this,BX]
def Q7(p:Nat->Prop)[DecidablePred p](L:List Nat):(L.filterMap λa=>if p a then some (D.im (.int (a:Int)))else none)=AK (L.filter λa=>decide (p a)):=by
 induction L with
 |nil=>rfl
 |cons x r ih=>
  rw[gD,gK];by_cases h:p x
  .simp[h,ih,AK]
  .simp[h,ih,AK]
noncomputable abbrev AI(ks:List Nat):D:=.im (Ae ks)
def Rn{n:Nat}(hn:n<=8):2^n<=256:=by
 have:2^n<=2^8:=Nat.pow_le_pow_right 59 hn;omega
def VD:F_behind=Rw.F_behind:=rfl
noncomputable abbrev wI(ps:List 115):I:=.tup (ps.map FV)
structure Wsh(n:Nat)(ps:List 115):Prop where
 len:112<=16
 nod:∀p∈ps,∃a b:Nat,a<n/\b<n/\p=((a:Int),(b:Int))
def Mt(n:Nat)(ps:List 115)(M:Nat->Nat->Bool):Prop:=∀i j,i<n->j<n->(M i j=true↔Rc ps i j)
def Co(ks:List Nat):(ks.map λk:Nat=>I.int (k:Int)).map D.im=AK ks:=by simp[AK]
def Y7(ks:List Nat):B0 (AK ks)=.im (Ae ks):=by rw[<- Co,BX]
noncomputable abbrev CC(M:Nat->Nat->Bool)(ks:List Nat):List Nat:=ks.filter λa=>!(ks.any λb=>M a b)
def Tc(found:List Int)(x:Int):x∈AX found↔x∈found:=(Br found).mem_iff
def SB{n:Nat}{M:Nat->Nat->Bool}(h:Wsh n ps)(hM:Mt n ps M)(hk:∀k∈ks,k<n)(hl:ks.length<=8):
 WF D4 [.im (.int (n:Int)),.im (wI ps),.im (Ae ks)] [] λd x=>d=.im (Ae (CC M ks)):=by
 unfold D4;refine Ax rfl ?_
 nofun
 rw[Co];refine B7 (λr ls hd=>∃(dn rest:List Nat) (z4 z5:Option D),ks=dn++rest/\r=AK rest/\ls=[some (.im (.int (n:Int))),some (.im (wI ps)),some (.im (Ae ks)),some (.mu 0),z4,z5]/\hd=[.lst (AK (dn.filter λa=>!(ks.any λb=>M a b)))]) ?_ ?_ ?_
 .exact⟨[],ks,none,none,rfl,rfl,rfl,rfl⟩
 .rintro d r ls hd ⟨dn,rest,z4,z5,ek,er,rfl,rfl⟩;cases rest with
  |nil=>cases er
  |cons u rest=>
   obtain⟨rfl,rfl⟩:=133 er;have hu:u<n:=hk u (by rw[ek];simp);refine⟨_,rfl,?_⟩;dsimp only[set_cons_zero,set_cons_succ]
   nofun
   refine As ?_
   nofun
   refine⟨by simp,?_⟩;rw[VD];obtain⟨found,g,e,nd,mem⟩:=Rw.behind_eq (ps:=ps) (by have:=h.len;omega) (n:Int) (u:Int);refine WP.eq e ⟨_,rfl,?_⟩
   nofun
   refine FP ?_
   nofun
   rw[Co];refine⟨AL 82,?_⟩;refine B8 (λk:Nat=>D.im 120) (λk=>some (.im (.bl (M u k)))) (λ_ ls=>∃x,ls=[some x,some (.im (.tup ((AX found).map I.int)))]) _ (AJ _) ?_ ?_
   .rintro k hk' ls hls;refine⟨[some (.im 120),some (.im (.tup ((AX found).map I.int)))],by rcases hls with rfl|⟨_,x,rfl⟩<;>rfl,⟨_,rfl⟩,?_⟩
    nofun
    refine⟨rfl,?_⟩;rw[fb rfl];refine⟨_,rfl,?_⟩
    nofun
    refine MB (xs:=AX found) (by simp[intD]) ⟨rfl,?_⟩;have:decide ((k:Int)∈AX found)=M u k:=by
     have a:=hM u k hu (hk k hk');rw[<- mem,<- Tc]at a;cases q:M u k with
     |true=>rw[q]at a;simpa using a
     |false=>rw[q]at a;simpa using a
    rw[<- this];rfl
   have e1:(ks.filterMap λk=>some (D.im (.bl (M u k))))=blD (ks.map λk=>M u k):=by simp[blD]
   rw[e1];refine⟨_,by rw[Ik,Ng];rfl,?_⟩;refine⟨_,rfl,?_⟩;have e2:((ks.map λk=>M u k).any id)=ks.any λb=>M u b:=by simp[List.any_map]
   rw[e2];have ek':ks=(dn++[u])++rest:=by rw[ek];simp
   refine⟨λhb=>?_,λhb=>?_⟩
   .nofun
    refine CK rfl (B4 (by have:=gT (λa=>!(ks.any λb=>M a b)) dn;have:=fS List.length ek;simp at this ⊢;omega)) ?_;refine⟨AJ _,dn++[u],rest,_,_,ek',rfl,rfl,?_⟩;have hb:(!(ks.any λb=>M u b))=true:=hb;simp only[filter_append,gK,hb,fL,List.filter_nil,set_cons_zero,AK,gA,fq,gj]
   .refine Az ⟨AJ _,dn++[u],rest,_,_,ek',rfl,rfl,?_⟩;have hb:(!(ks.any λb=>M u b))=false:=hb;simp only[filter_append,gK,hb,fT,Bool.false_eq_true,List.filter_nil,fY]
 .rintro ls hd ⟨dn,rest,z4,z5,ek,er,rfl,rfl⟩;have:rest=[]:=by cases rest with
   |nil=>rfl
   |cons _ _=>cases er
  subst this;simp only[fY]at ek
  nofun
  refine Bh rfl rfl ?_;rw[<- ek];exact Y7 _
def Way(ps:List 115):Nat->Nat->Nat->Prop
 |0,_,_=>False
 |m+1,x,y=>((x:Int),(y:Int))∈ps∨∃b:Nat,((x:Int),(b:Int))∈ps/\Way ps m b y
theorem Way.mono:∀{m m' x y:Nat},Way ps m x y->m<=m'->Way ps m' x y
 |0,_,_,_,h,_=>h.elim
 |m+1,0,_,_,_,h=>by omega
 |m+1,m'+1,x,y,h,hm=>by
  rcases h with h|⟨b,h1,h2⟩
  .exact .inl h
  .exact .inr ⟨b,h1,h2.mono 59⟩
theorem Way.snoc:∀{m x y z:Nat},Way ps m x y->((y:Int),(z:Int))∈ps->Way ps (m+1) x z
 |0,_,_,_,h,_=>h.elim
 |m+1,x,y,z,h,e=>by
  rcases h with h|⟨b,h1,h2⟩
  .exact .inr ⟨y,h,.inl e⟩
  .exact .inr ⟨b,h1,h2.snoc e⟩
noncomputable abbrev CU(W:List 119):List 115:=W.map λp=>((p.1:Int),(p.2:Int))
def ZO{n:Nat}{rk:Nat->Nat}(R:Rk (λk=>k<n) W rk){x y:Int}(r:Rc (CU W) x y):∀i:Nat,x=i->i<n/\∃j:Nat,y=j/\j<n/\rk i<rk j/\Way (CU W) (rk j-rk i) i j:=by
 induction r with
 |one h=>
  rintro i rfl;obtain⟨⟨a,b⟩,hp,e⟩:=mem_map.mp h;simp only[Prod.mk.injEq]at e;obtain⟨e1,rfl⟩:=e;have:a=i:=by omega
  subst this;have l:=R.lt _ hp;have ins:=R.ins _ hp;refine⟨ins.1,b,rfl,ins.2,l,Way.mono (m:=1) (.inl h) ?_⟩;have l:rk a<rk b:=l;omega
 |step _ h ih=>
  intro i hi;obtain⟨hn,m,rfl,hm,lm,w⟩:=ih i hi;obtain⟨⟨a,b⟩,hp,e⟩:=mem_map.mp h;simp only[Prod.mk.injEq]at e;obtain⟨e1,rfl⟩:=e;have:a=m:=by omega
  subst this;have l:rk a<rk b:=R.lt _ hp;refine⟨hn,b,rfl,(R.ins _ hp).2,by omega,Way.mono (w.snoc h) 59⟩
def bI(ks:List Nat):AK ks=intD (ks.map λk:Nat=>(k:Int)):=by simp[intD,AK]
open PySem L2 Bd Hds
def Wf(w:Wg):Prop:=(1<=w.len/\w.len<=20)/\(0<=w.com/\w.com<=60)/\∃c,w.co=Ai c/\Et c/\D2 2000 c
def Gp(ws:List Wg):Prop:=1<=65/\65<=8/\∀w∈ws,Wf w
def Yk(h:D2 1000 c):D2 2000 c:=by
 cases c with
 |late d=>simp only[D2]at *;omega
 |tardy d w=>simp only[D2]at *;omega
 |miss d w=>simp only[D2]at *;omega
 |ends w=>simp only[D2]at *;omega
 |steps rows=>intro q hq;have:=h q hq;omega
def cT{w:Wg}(h:w.ok):Wf w:=by
 obtain⟨h1,h2,c,e,k1,k2⟩:=h;exact⟨h1,h2,c,e,k1,Yk k2⟩
def Kc{ws:List Wg}{W:List 119}{rk:Nat->Nat}{h:Nat->Int}(hn:65<=8)(hc:∀k,k<65->0<=BD ws k)(hW:W.length<=16)(R:Rk (λk=>k<65) W rk)(hrk:∀k,k<65->rk k<65)(H:IsHead (λk=>k<65) (BD ws) (BC ws) W h):
 WF EU [.im (AT ws),.im 110] [] λd x=>d=.im (.tup ((69 65).map λk=>.int (h k))):=by
 have we:CW W (69 65)=W:=by
  refine List.filter_eq_self.mpr λp hp=>?_;have:=R.ins p hp;simp[this.1,this.2]
 unfold EU;refine Ax rfl ?_
 nofun
 refine As ?_
 nofun
 have rn:B0 (Aw 0 65)=.im (Ae (69 65)):=by rw[CA,Ig]
 have rgl:He (ws.length:Int):=IT 59 59;refine WP.eq (z:=.im (Ae (69 65))) (h:=[]) (by simp[BS,rgl,rn]) ?_
 nofun
 refine⟨by simp,?_⟩;refine(U9 (h:=h) (rk:=rk) hn hW 70 (by simpa using hn) ?_ (by simpa using hrk) ?_).mono ?_
 .rw[we];exact⟨λp hp=>by simpa using R.ins p hp,R.lt⟩
 .rw[we];refine⟨λk hk=>?_,λp hp hk=>H.up p hp (by simpa using hk),λk hk=>?_⟩
  .have hk:k<ws.length:=by simpa using hk
   have:=hc k hk;have:=H.lo k hk;omega
  .have hk:k<ws.length:=by simpa using hk
   have:=hc k hk;rcases H.eq k hk with e|e
   .refine .inl ?_;omega
   .exact .inr e
 .rintro d x rfl;exact⟨_,rfl,rfl⟩
def LR:F_cost_at=Bd.F_cost_at:=rfl
def Rz(h:Et c):c.wok:=by
 cases c<;>first|trivial|exact h
def Qa(ws:List Wg)(cs:Nat->Cost):Prop:=∀k,k<65->(ws[k]?).map Wg.co=some (Ai (cs k))/\Et (cs k)/\D2 2000 (cs k)
def cq(h:Gp ws):∃cs,Qa ws cs:=by
 refine Classical.skolem (p:=λk c=>k<65->(ws[k]?).map Wg.co=some (Ai c)/\Et c/\D2 2000 c) |>.mp λk=>?_;by_cases hk:k<65
 .obtain⟨_,_,c,e,k1,k2⟩:=h.2.2 ws[k] (List.getElem_mem hk);exact⟨c,λ_=>⟨by simp[hk,e],k1,k2⟩⟩
 .exact⟨.late 0,λh=>absurd h hk⟩
noncomputable def FB(ws:List Wg)(h:Nat->Int)(ks:List Nat):Int:=CO (ks.map h)+(ks.map (BC ws)).sum
def bnd(ws:List Wg)(cs:Nat->Cost)(h:Nat->Int)(M:Nat->Nat->Bool)(ks:List Nat):Int:=CO ((CC M ks).map λk=>(cs k).at (FB ws h ks))
def EQ(ks:List Nat)(g:Nat->Int):(ks.filterMap λk=>some (D.im (.int (g k))))=intD (ks.map g):=by simp[intD]
def Ff(h:ns≠[]):ED (intD ns)=some (.im (.int (CO ns))):=by unfold ED;rw[DJ];simp[h]
def YH(ns:List Int):Ij (intD ns)=some (.im (.int ns.sum)):=by unfold Ij;rw[DJ];rfl
def Gg{ws:List Wg}{k:Nat}(hk:k<65):(ws[k]).len=BC ws k:=by simp[BC,hk]
def Hc{cs:Nat->Cost}(hc:Qa ws cs){k:Nat}(hk:k<65):(ws[k]).co=Ai (cs k):=by
 have:=(hc k hk).1;simpa [hk]using this
def az{ws:List Wg}(hk:∀k∈ks,k<65)(hl:ks.length<=8){i j:Nat}(e0:ls[i]?=some (some 125))(e1:ls[j]?=some (some (.im (Ae ks)))){QE:D->Hd->Prop}(q:QE (.im (.int (ks.map (BC ws)).sum)) hd):
 WE (B9 Ij (Af 1 [i] (Au (A0 j)) (AC 0) C6 (mOp gIx (mOp gIx 139 77) 103))) ls hd QE:=by
 refine C4 (Ar (C3 (A2 e1 ⟨_,rfl,?_⟩)));rw[Co];refine⟨AL 82,?_⟩;have ec:Dv 1 [i] ls=[none,some 125]:=by simp[Dv,e0]
 rw[ec];refine B8 (λk:Nat=>D.im 120) (λk=>some (.im (.int (BC ws k)))) (λ_ ls=>∃x,ls=[some x,some 125]) _ (AJ _) ?_ ?_
 .rintro k hk' ls hls;have hkn:=hk k hk';refine⟨[some (.im 120),some 125],by rcases hls with rfl|⟨_,x,rfl⟩<;>rfl,⟨_,rfl⟩,C1 ⟨rfl,?_⟩⟩;rw[fb rfl];refine⟨_,rfl,AA (AA (A2 rfl (A2 rfl (AG (by rw[Cb,<- BU]) (DL hkn) (AW (AG rfl (Cw _ _) ⟨rfl,?_⟩))))))⟩;rw[Gg hkn]
 rw[EQ];exact⟨_,YH _,q⟩
def Ex{i:Nat}(h:H[i]?=some o)(g:Hd):(H++g)[i]?=some o:=by
 rw[List.getElem?_append_left (List.getElem?_eq_some_iff.mp h).1];exact h
def QX{ws:List Wg}{W:List 119}{rk:Nat->Nat}{cs:Nat->Cost}{M:Nat->Nat->Bool}{h:Nat->Int}(hn:65<=8)(hcm:∀k,k<65->0<=BD ws k)(hW:W.length<=16)(R:Rk (λk=>k<65) W rk)(hrk:∀k,k<65->rk k<65)
 (Hh:IsHead (λk=>k<65) (BD ws) (BC ws) W h) (hM:Mt 65 (CU W) M) (hc:Qa ws cs) (hne:ks≠[]) (hk:∀k∈ks,k<65) (hl:ks.length<=8) (hlast:CC M ks≠[]):
 WF Cu [.im (AT ws),.im 110,.im (Ae ks)] [] λd x=>d=.im (.int (bnd ws cs h M ks)):=by
 unfold Cu;refine Ax rfl ?_;refine AD (AS (As (A4 (A2 rfl (A4 (A2 rfl (A8 ⟨by simp,(Kc hn hcm hW R hrk Hh).mono ?_⟩)))))));rintro r x rfl;refine⟨_,rfl,A6 ?_⟩;change WS _ [some 125,some (.im 110),some (.im (Ae ks)),some (.im (.tup ((69 65).map λk=>.int (h k)))),none] [] _;refine AD (AS (AA (C4 (Ar (C3 (A2 rfl ⟨_,rfl,?_⟩))))));rw[Co];refine⟨AL 82,?_⟩;refine B8 (λk:Nat=>D.im 120) (λk=>some (.im (.int (h k)))) (λ_ ls=>∃x,ls=[some x,some (.im (.tup ((69 65).map λk=>.int (h k))))]) _ (AJ _) ?_ ?_
 .rintro k hk' ls hls;have hkn:=hk k hk';refine⟨[some (.im 120),some (.im (.tup ((69 65).map λk=>.int (h k))))],by rcases hls with rfl|⟨_,x,rfl⟩<;>rfl,⟨_,rfl⟩,C1 ⟨rfl,?_⟩⟩;rw[fb rfl];refine⟨_,rfl,AA (A2 rfl (A2 rfl (AG rfl (JA (k:=k) (x:=.im (.int (h k))) rfl ?_) ⟨rfl,rfl⟩)))⟩;simp[hkn]
 rw[EQ];refine⟨_,Ff (by simpa using hne),?_⟩;refine As (A4 (A2 rfl (A4 (A2 rfl (A8 ⟨by simp,?_⟩)))));have lw:WF Dw [.im (AT ws),.im (Ae ks)] [] λd x=>d=.im (.int (ks.map (BC ws)).sum):=by
  unfold Dw;refine Ax rfl ?_;exact B6 (az hk hl rfl rfl rfl)
 refine lw.mono ?_;rintro r x rfl;refine⟨_,rfl,EY (A6 ?_)⟩;change WS _ [some 125,some (.im 110),some (.im (Ae ks)),some (.im (.tup ((69 65).map λk=>.int (h k)))),some (.im (.int (FB ws h ks)))] [] _;have ew:W.map AM=(CU W).map FV:=by rw[fM];rfl
 have hW':Wsh 65 (CU W):=⟨by simpa using hW,λp hp=>by
  obtain⟨q,hq,rfl⟩:=mem_map.mp hp;have:=R.ins q hq;exact⟨q.1,q.2,this.1,this.2,rfl⟩⟩
 refine B6 (C4 (Ar (C3 (As (A4 (Bi (A4 (A2 rfl (A8 (Bh rfl rfl ?_)))))))))) ;refine A4 (A2 rfl (A4 (A2 rfl (A8 ⟨by simp,?_⟩))));rw[ew];have eln:(((ws.map wgI).map D.im).length:Int)=(ws.length:Int):=by simp
 rw[eln];refine(SB hW' hM hk hl).mono ?_;rintro r x rfl;refine⟨_,rfl,_,rfl,?_⟩;rw[Co];have hll:(CC M ks).length<=8:=fu (gT _ _) hl;refine⟨AL (by simp only[AK,fN];omega),?_⟩;refine B8 (λk:Nat=>D.im 120) (λk=>some (.im (.int ((cs k).at (FB ws h ks))))) (λ_ ls=>∃x,ls=[some x,some 125,some (.im (.int (FB ws h ks)))]) _ (AJ _) ?_ ?_
 .rintro k hk' ls hls;have hkn:=hk k (mem_filter.mp hk').1;refine⟨[some (.im 120),some 125,some (.im (.int (FB ws h ks)))],by rcases hls with rfl|⟨_,x,rfl⟩<;>rfl,⟨_,rfl⟩,C1 ⟨rfl,?_⟩⟩;rw[fb rfl];refine⟨_,rfl,As (A4 (AA (AA (A2 rfl (A2 rfl (AG (by rw[Cb,<- BU]) (DL hkn) (AW (AG rfl (Eu _ _ _ _) ?_))))))))⟩;rw[Hc hc hkn];refine A4 (A2 rfl (A8 ⟨by simp,?_⟩));rw[LR];exact WP.eq (Jw _ _ (Rz (hc k hkn).2.1)) ⟨_,rfl,rfl,rfl⟩
 rw[EQ];exact⟨_,Ff (by simpa using hlast),rfl⟩
def Yl(rk:Nat->Nat):∀ks:List Nat,ks≠[]->∃u∈ks,∀v∈ks,rk v<=rk u:=by
 intro ks
 induction ks with
 |nil=>intro h;exact absurd rfl h
 |cons x r ih=>
  intro _;by_cases hr:r=[]
  .subst hr;exact⟨x,by simp,by simp⟩
  .obtain⟨u,hu,hm⟩:=ih hr;by_cases q:rk u<=rk x
   .refine⟨x,by simp,λv hv=>?_⟩;rcases mem_cons.mp hv with rfl|hv
    .exact fg _
    .exact fu (hm v hv) q
   .refine⟨u,by simp[hu],λv hv=>?_⟩;rcases mem_cons.mp hv with rfl|hv
    .omega
    .exact hm v hv
def YG{M:Nat->Nat->Bool}{rk:Nat->Nat}(hne:ks≠[])(h:∀u∈ks,∀v∈ks,M u v=true->rk u<rk v):CC M ks≠[]:=by
 obtain⟨u,hu,hm⟩:=Yl rk ks hne;have:u∈CC M ks:=by
  refine mem_filter.mpr ⟨hu,?_⟩;rw[Bool.not_eq_true',List.any_eq_false];intro v hv q;have:=h u hu v hv q;have:=hm v hv;omega
 intro e;rw[e]at this;simp at this
theorem Mb(t:Int):∀{rows:List 115} {x:Int},Ku x rows->x<=BE t rows x
 |[],x,_=>102 _
 |(b,a)::r,x,h=>by
   unfold BE;have:=Mb t h.2;have:=h.1;split<;>omega
theorem JL{t t':Int}(ht:t<=t'):∀{rows:List 115} {x:Int},Ku x rows->BE t rows x<=BE t' rows x
 |[],x,_=>102 _
 |(b,a)::r,x,h=>by
   unfold BE;have h1:=JL ht h.2;have h2:=Mb t' h.2;have:=h.1;by_cases c1:t<b
   .rw[fb c1];split<;>omega
   .rw[fe c1,fe 59];exact h1
def Oq(h:Et c){t t':Int}(ht:t<=t'):c.at t<=c.at t':=by
 cases c with
 |late d=>show t-d<=t'-d;omega
 |tardy d w=>
  obtain⟨h0,_⟩:=h;show(if t-d<=0 then 0 else w*(t-d))<=(if t'-d<=0 then 0 else w*(t'-d));have h2:w*(t-d)<=w*(t'-d):=Int.mul_le_mul_of_nonneg_left 59 h0;by_cases c1:t-d<=0
  .rw[fb c1];split
   .exact 102 _
   .exact Int.mul_nonneg h0 59
  .rw[fe c1,fe 59];exact h2
 |miss d w=>
  obtain⟨h0,_⟩:=h;show(if t-d<=0 then 0 else w)<=(if t'-d<=0 then 0 else w);split<;>split<;>omega
 |ends w=>exact Int.mul_le_mul_of_nonneg_left ht h.1
 |steps rows=>exact JL ht h.2.1
noncomputable def hdN(c l:Nat->Int)(W:List 119):Nat->Nat->Int
 |0,k=>c k
 |t+1,k=>Cg (c k::(W.filter λp=>decide (p.2=k)).map λp=>hdN c l W t p.1+l p.1)
theorem GH{S:Nat->Prop}{rk:Nat->Nat}(R:Rk S W rk)(c l:Nat->Int):∀t k,rk k<=t->hdN c l W (t+1) k=hdN c l W t k
 |0,k,h=>by
  have e:(W.filter λp=>decide (p.2=k))=[]:=by
   rw[List.filter_eq_nil_iff];intro p hp q;have:=R.lt p hp;have q:p.2=k:=by simpa using q
   rw[q]at this;omega
  show Cg (c k::(W.filter λp=>decide (p.2=k)).map _)=c k;rw[e];have:=(BR (xs:=[c k]) 70).1;simpa using this
 |t+1,k,h=>by
  show Cg (c k::(W.filter λp=>decide (p.2=k)).map λp=>hdN c l W (t+1) p.1+l p.1)=Cg (c k::(W.filter λp=>decide (p.2=k)).map λp=>hdN c l W t p.1+l p.1)
  congr 2
  refine i7 λp hp=>?_;obtain⟨h1,h2⟩:=mem_filter.mp hp;have h2:p.2=k:=by simpa using h2
  have:=R.lt p h1;rw[GH R c l t p.1 (by rw[h2]at this;omega)]
def YU{n:Nat}{rk:Nat->Nat}(R:Rk (λk=>k<n) W rk)(hrk:∀k,k<n->rk k<n)(c l:Nat->Int):∃h,IsHead (λk=>k<n) c l W h:=by
 refine⟨hdN c l W n,λk hk=>?_,λp hp hk=>?_,λk hk=>?_⟩
 .rw[<- GH R c l n k (by have:=hrk k hk;omega)];exact(BR (xs:=c k::(W.filter λp=>decide (p.2=k)).map λp=>hdN c l W n p.1+l p.1) 70).2 _ fo
 .rw[<- GH R c l n p.2 (by have:=hrk p.2 hk;omega)];refine(BR (xs:=c p.2::(W.filter λq=>decide (q.2=p.2)).map λq=>hdN c l W n q.1+l q.1) 70).2 _ (fj _ (mem_map.mpr ⟨p,mem_filter.mpr ⟨hp,by simp⟩,rfl⟩))
 .have e:=GH R c l n k (by have:=hrk k hk;omega);have ms:=(BR (xs:=c k::(W.filter λp=>decide (p.2=k)).map λp=>hdN c l W n p.1+l p.1) 70).1;rw[<- e];rcases mem_cons.mp ms with q|q
  .exact .inl q
  .obtain⟨p,hp,eq⟩:=mem_map.mp q;obtain⟨h1,h2⟩:=mem_filter.mp hp;refine .inr ⟨p,h1,by simpa using h2,?_⟩;exact eq.symm
open Classical in
noncomputable def Mc(W:List 119):Nat->Nat->Bool:=λi j=>decide (Rc (CU W) i j)
def cX(n:Nat)(W:List 119):Mt n (CU W) (Mc W):=λi j _ _=>by simp[Mc]
def cW{n:Nat}{rk:Nat->Nat}(R:Rk (λk=>k<n) W rk){u v:Nat}(h:Mc W u v=true):rk u<rk v:=by
 have h:Rc (CU W) u v:=by simpa [Mc]using h
 obtain⟨_,j,ej,_,hlt,_⟩:=ZO R h u rfl;have:v=j:=by omega
 rw[this];exact hlt
open Sx (Blk spl Fw)
noncomputable def GT(B:Blk):I:=.tup [.int B.1,.int B.2.1,.tup (B.2.2.map I.int)]
noncomputable abbrev CI(B:Blk):D:=.im (GT B)
def bg(bs:List Blk):bs.map CI=(bs.map GT).map D.im:=by rw[fM];rfl
theorem allIm_map:∀is:List I,B2 (is.map D.im)=some is
 |[]=>rfl
 |i::r=>by simp[B2,allIm_map r]
def Xc{n:Nat}{bs:List Blk}(e:hd[n]?=some (.lst (bs.map CI))):pyD hd (.mu n)=some (.list (I.pys (bs.map GT))):=by
 simp only[pyD,e,bg,allIm_map,fR]
theorem Vu:∀ns:List Int,PyData.canLayAll0 (I.pys (ns.map I.int))=true
 |[]=>by simp[I.pys,PyData.canLayAll0]
 |n::r=>by simp[I.pys,I.py,PyData.canLayAll0,PyData.canLay0,Vu r]
theorem Vv:∀bs:List Blk,PyData.canLayAll0 (I.pys (bs.map GT))=true
 |[]=>by simp[I.pys,PyData.canLayAll0]
 |b::r=>by simp[I.pys,I.py,GT,PyData.canLayAll0,PyData.canLay0,Vv r,Vu]
def cr(bs:List Blk)(hd:Hd)(neg:Bool):Ep neg (.list (I.pys (bs.map GT))) (.list (I.pys [])) hd=some (.im (.bl (if neg then !decide (bs=[])else decide (bs=[]))),hd):=by
 unfold Ep;rw[fb]
 .cases bs with
  |nil=>simp[I.pys,PyData.eqv,PyData.eqvAll]
  |cons b r=>simp[I.pys,PyData.eqv,PyData.eqvAll]
 .refine⟨by simp[PyData.canLay0,Vv],by simp[I.pys,PyData.canLay0,PyData.canLayAll0],?_⟩;have:(PyData.list (I.pys [])).depth<=60:=by simp[I.pys,PyData.depth,PyData.depthAll]
  omega
def WJ{neg:Bool}{QE:D->Hd->Prop}(h:WE ma ls hd λd x=>∃bs:List Blk,pyD x d=some (.list (I.pys (bs.map GT)))/\QE (.im (.bl (if neg then !decide (bs=[])else decide (bs=[])))) x):WE (CS neg ma (Ab A3)) ls hd QE:=by
 obtain⟨d,x,e,bs,e2,q⟩:=h;refine⟨_,x,?_,q⟩;unfold CS;rw[e];simp[e2,B2,cr]
def Qj{QA:List D->Hd->Prop}(h:WI mi ls hd λp x=>∃ns:List Int,p.1=intD ns/\ns.length<64/\QA (intD (AX ns)) x):WA (Bn mi) ls hd QA:=by
 obtain⟨p,x,e,ns,e1,hl,q⟩:=h;refine⟨_,_,?_,q⟩;simp only[Bn,e,bind_some,e1,DJ,hl,fL]
def O8{js:List I}{QE:D->Hd->Prop}(h0:is≠[])(h1:is.length+js.length<=100)(q:QE (.im (.tup (is++js))) hd):WP (Al (.im (.tup is)) (.im (.tup js)) hd) QE:=by
 have cat:W0 (is.map D.im) (js.map D.im):=⟨by simpa using h0,AL 82⟩
 refine WP.eq (z:=.im (.tup (is++js))) (h:=hd) ?_ q;show(match Ke (.im (.tup is)) (.im (.tup js)) hd with|some z=>some z|none=>GJ (.im (.tup is)) (.im (.tup js)) hd)=_;rw[show Ke (.im (.tup is)) (.im (.tup js)) hd=none from rfl];unfold GJ;rw[show AV (.im (.tup is))=some (is.map D.im)from rfl,show AV (.im (.tup js))=some (js.map D.im)from rfl,bind_some,bind_some,fb cat,<- gA,BX]
noncomputable def AO(ws:List Wg)(k:Nat):Int:=max 1 (BC ws k)
def Bz(ws:List Wg)(k:Nat):1<=AO ws k:=by unfold AO;omega
def S9(h:Gp ws){k:Nat}(hk:k<65):1<=BC ws k/\BC ws k<=20:=by
 have:=(h.2.2 ws[k] (List.getElem_mem hk)).1;simpa [BC,hk]using this
def HQ(h:Gp ws){k:Nat}(hk:k<65):0<=BD ws k/\BD ws k<=60:=by
 have:=(h.2.2 ws[k] (List.getElem_mem hk)).2.1;simpa [BD,hk]using this
def Dh(h:Gp ws){k:Nat}(hk:k<65):AO ws k=BC ws k:=by
 have:=S9 h hk;unfold AO;omega
def Mg(m:Nat):AX (Sx.cst [m])=[(m:Int)]:=by simp[AX,Sx.cst]
def Qo(C:List Nat)(m:Nat):AX (AX (Sx.cst C)++[(m:Int)])=AX (Sx.cst (C++[m])):=by
 refine Cn ((Br _).trans (((Br _).append_right _).trans ?_)) (Cc _) (Cc _);have:Sx.cst C++[(m:Int)]=Sx.cst (C++[m]):=by simp[Sx.cst]
 rw[this];exact(Br _).symm
theorem NU:∀{ms:List Int},(∀x∈ms,0<=x)->Sx.cst (ms.map Int.toNat)=ms
 |[],_=>rfl
 |x::r,h=>by
  have h0:=h x 70;have ih:=NU (ms:=r) λy hy=>h y (by simp[hy]);unfold Sx.cst at ih ⊢;rw[fq,fq,ih,show((x.toNat:Nat):Int)=x by omega]
def WV{h l:Nat->Int}{b e:Int}{m:Nat}(q:e<=h m):spl h l b e C (m::r)=(b,e,AX (Sx.cst C))::spl h l (h m) (h m+l m) [m] r:=by rw[spl,fb q]
def WW{h l:Nat->Int}{b e:Int}{m:Nat}(q:¬ e<=h m):spl h l b e C (m::r)=spl h l b (e+l m) (C++[m]) r:=by rw[spl,fe q]
noncomputable abbrev Lb(d0 d1 d2:D)(hs:List I)(z5 z6 z7 z8:Option D):Ls:=[some d0,some d1,some d2,some (.im (.tup hs)),some (.mu 0),z5,z6,z7,z8]
def ER{n k:Nat}(h:Nat->Int)(hk:k<n):atI (((69 n).map λk=>I.int (h k)).map D.im) (k:Int)=some (.im (.int (h k))):=JA rfl (by simp[hk])
def bz{W:List 119}{rk:Nat->Nat}{h:Nat->Int}{ks:List Nat}(hok:Gp ws)(hW:W.length<=16)(R:Rk (λk=>k<65) W rk)(hrk:∀k,k<65->rk k<65)(H:IsHead (λk=>k<65) (BD ws) (BC ws) W h)
 (hb:∀k,k<65->0<=h k/\h k<=1000000) (hs:ks.Pairwise (·<·)) (hk:∀k∈ks,k<65) (hl:ks.length<=8):
 WF Ct [.im (AT ws),.im 110,.im (Ae ks)] [] λd x=>∃bs:List Blk,d=.mu 0/\x=[.lst (bs.map CI)]/\Sx.Rows h (AO ws) ks bs:=by
 have hn:=hok.2.1;unfold Ct;refine Ax rfl ?_;refine AD (AS (As (A4 (A2 rfl (A4 (A2 rfl (A8 ⟨by simp,(Kc hn (λk hk=>(HQ hok hk).1) hW R hrk H).mono ?_⟩)))))));rintro r x rfl;refine⟨_,rfl,A6 ?_⟩;refine AD (AS (Av (BZ (A8 ⟨E6,A6 ?_⟩))));change WS _ (Lb 125 (.im 110) (.im (Ae ks)) ((69 65).map λk=>I.int (h k)) none none none none) [.lst []] _;have pokk:∀k,k<65->pok (h k,(k:Int)):=λk hk=>by have:=hb k hk;unfold pok;dsimp only;omega
 have nd:ks.Nodup:=hs.imp λq=>by omega
 refine AD (Bp (Sz (T7 (A2 rfl ⟨Sx.cst ks,λn=>(h n.toNat,n),?_,?_,?_,?_,?_,?_,λms pm pw=>?_⟩))))
 .show AV (.im (Ae ks))=_;simp[Sx.cst]
 .simp[Sx.cst];omega
 .unfold Sx.cst;rw[List.nodup_iff_pairwise_ne,gY];exact hs.imp λq=>by omega
 .intro n hn';obtain⟨k,hk',rfl⟩:=mem_map.mp hn';dsimp only;rw[gb];exact pokk k (hk k hk')
 .intro a ha b hb' e;obtain⟨k,hk1,rfl⟩:=mem_map.mp ha;obtain⟨j,hk2,rfl⟩:=mem_map.mp hb';dsimp only at e;rw[gb,gb]at e;have:=N4 (pokk k (hk k hk1)) (pokk j (hk j hk2)) e;exact fS Prod.snd this
 .intro n hn';obtain⟨k,hk',rfl⟩:=mem_map.mp hn';have hkn:=hk k hk';dsimp only;rw[gb];have:=ER h hkn;simp only[bN,Ki,M4,DS,List.getElem?_cons_zero,List.getElem?_cons_succ,fq,gj,Option.join_some,bind_some,Vy,Cb,this,fR,Ju,fU,gE,Nat.reduceAdd,Fh,fL,FY,AY]
 obtain⟨msN,rfl,pmN⟩:∃msN:List Nat,ms=Sx.cst msN/\msN.Perm ks:=by
  refine⟨ms.map Int.toNat,?_,?_⟩
  .refine(NU λx hx=>?_).symm;obtain⟨k,_,rfl⟩:=mem_map.mp (pm.mem_iff.mp hx);omega
  .have:=pm.map Int.toNat
   have e:(Sx.cst ks).map Int.toNat=ks:=by simp[Sx.cst,Function.comp_def]
   rwa [e]at this
 have pwN:msN.Pairwise λa b=>h a<=h b:=by
  unfold Sx.cst at pw;rw[gY]at pw;refine pw.imp_of_mem λ{a b} ha hb' q=>?_
  have h1:=hb a (hk a (pmN.mem_iff.mp ha));have h2:=hb b (hk b (pmN.mem_iff.mp hb'));have l1:=hk a (pmN.mem_iff.mp ha);have l2:=hk b (pmN.mem_iff.mp hb');unfold Ap at q;dsimp only at q;rw[gb,gb]at q;omega
 have hkN:∀k∈msN,k<ws.length:=λk hk'=>hk k (pmN.mem_iff.mp hk');have hlN:msN.length<=8:=by rw[pmN.length_eq];exact hl
 have rows:=Sx.rows_stret (h:=h) (Bz ws) msN.length msN ks rfl hs pmN pwN;have ec:((Sx.cst msN).map λn=>D.im (.int n))=AK msN:=by simp[Sx.cst,AK]
 rw[ec];refine B7 (λr ls hd=>∃(rest:List Nat) (tl:List Blk) (z5 z6 z7 z8:Option D),r=AK rest/\ls=Lb 125 (.im 110) (.im (Ae ks)) ((69 65).map λk=>I.int (h k)) z5 z6 z7 z8/\hd=[.lst (tl.map CI)]/\(∀k∈rest,k<65)/\tl.length+rest.length<=8 /\
  ((tl=[]/\rest=msN)∨∃done b e C,tl=done++[(b,e,AX (Sx.cst C))]/\C≠[]/\C.length+rest.length<=8/\done++spl h (AO ws) b e C rest=Fw h (AO ws) msN)) ⟨msN,[],none,none,none,none,rfl,rfl,rfl,hkN,by simpa using hlN,.inl ⟨rfl,rfl⟩⟩ ?_ ?_
 .rintro d r ls hd ⟨rest,tl,z5,z6,z7,z8,er,rfl,rfl,hkr,hlen,cs⟩;cases rest with
  |nil=>cases er
  |cons m rest=>
   obtain⟨rfl,rfl⟩:=133 er;have hm:m<ws.length:=hkr m 70;have hkr':∀k∈rest,k<ws.length:=λk hk'=>hkr k (by simp[hk']);have hm':=ER h hm;have e1:=Dh hok hm;refine⟨Lb 125 (.im 110) (.im (Ae ks)) ((69 65).map λk=>I.int (h k)) (some (.im (.int (m:Int)))) z6 z7 z8,rfl,?_⟩;have lenx:∀{ls:Ls} {hd:Hd} {QE:D->Hd->Prop},ls[0]?=some (some 125)->ls[5]?=some (some (.im (.int (m:Int))))->QE (.im (.int (BC ws m))) hd->WE (mOp gIx (mOp gIx 77 (A0 5)) 103) ls hd QE:=λa b q=>
    AA (AA (A2 a (A2 b (AG (by rw[Cb,<- BU]) (DL hm) (AW (AG rfl (Cw _ _) (by rw[Gg hm];exact q)))))))
   have app:∀(Q:Fl->Hd->Prop),Q (.nx (Lb 125 (.im 110) (.im (Ae ks)) ((69 65).map λk=>I.int (h k)) (some (.im (.int (m:Int)))) z6 z7 z8)) [.lst ((tl++[(h m,h m+AO ws m,[(m:Int)])]).map CI)] ->
    WS (Aq (mMt Ad (A0 4) (A1 (Ay (A1 (mOp gIx (A0 3) (A0 5)) (A1 (mOp Al (mOp gIx (A0 3) (A0 5)) (mOp gIx (mOp gIx 77 (A0 5)) 103)) (A1 (Ay (A1 (A0 5) A3)) A3)))) A3))) (Lb 125 (.im 110) (.im (Ae ks)) ((69 65).map λk=>I.int (h k)) (some (.im (.int (m:Int)))) z6 z7 z8) [.lst (tl.map CI)] Q:=by
    intro Q q;refine C2 (EG (A2 rfl ⟨⟨_,rfl⟩,A4 (Bg (A4 (AA (A2 rfl (A2 rfl (AG rfl hm' ?_)))))) ⟩));refine A4 (AA (AA (A2 rfl (A2 rfl (AG rfl hm' (lenx rfl rfl (EY ?_)))))));refine A4 (Bg (A4 (A2 rfl (A8 ⟨DQ,A8 ⟨DP,A8 (CK rfl (B4 (by simp at hlen ⊢;omega)) ?_)⟩⟩))));rw[OV,FX,<- e1];rw[gA]at q;exact q
   refine BP (Dj (AQ (WJ (A2 rfl ⟨tl,Xc rfl,_,rfl,?_⟩))));rcases cs with⟨rfl,rfl⟩|⟨done,b,e,C,rfl,hC,hCl,es⟩
   .rw[fb 70];refine⟨λ_=>app _ ?_,λq=>by cases q⟩;refine⟨AJ _,rest,_,_,_,_,_,rfl,rfl,rfl,hkr',by simp at hlen ⊢;omega,.inr ⟨[],h m,h m+AO ws m,[m],by rw[Mg],by simp,by simp at hlN ⊢;omega,rfl⟩⟩
   .rw[fe 70];have el:An [MO.lst ((done++[(b,e,AX (Sx.cst C))]).map CI)] (.mu 0)=some (done.map CI++[CI (b,e,AX (Sx.cst C))]):=by
     rw[VX,Ho];simp
    refine AQ (AA (AA (A2 rfl (A2 rfl (AG rfl hm' ?_)))));refine AA (AA (A2 rfl (Gh (AW ⟨_,rfl,AG el (JB _ _) (AW (AG rfl (Ew _ _ _) (Ou ⟨_,rfl,λq=>?_,λq=>?_⟩)))⟩))))
    .have q:e<=h m:=gq q;refine app _ ⟨AJ _,rest,_,_,_,_,_,rfl,rfl,rfl,hkr',by simp at hlen ⊢;omega,.inr ⟨done++[(b,e,AX (Sx.cst C))],h m,h m+AO ws m,[m],by rw[Mg],by simp,by simp at hCl ⊢;omega,?_⟩⟩;rw[<- es];rw[WV q];simp
    .have q:¬ e<=h m:=il q;refine AD (JD (AA (A2 rfl (Gh (AW ⟨_,rfl,AG el (JB _ _) ⟨_,rfl,A6 ?_⟩⟩)))));change WS _ (Lb 125 (.im 110) (.im (Ae ks)) ((69 65).map λk=>I.int (h k)) (some (.im (.int (m:Int)))) (some (.im (.int b))) (some (.im (.int e))) (some (.im (.tup ((AX (Sx.cst C)).map I.int))))) _ _;have sl:(AX (Sx.cst C)).length=C.length:=by rw[(Br _).length_eq];simp[Sx.cst]
     refine DF (Bg (A4 (A2 rfl (A4 (AA (A2 rfl (lenx rfl rfl (EY ?_))))))));refine A4 (C4 (Qj (C3 (AA (A2 rfl (Bg (A4 (A2 rfl (A8 ⟨DQ,?_⟩)))))))));rw[OV];refine O8 (by intro z;have:=fS List.length z;simp[sl]at this;exact hC this) (by simp[sl];simp at hCl;omega) ⟨_,rfl,AX (Sx.cst C)++[(m:Int)],by simp[intD],by simp[sl];simp at hCl;omega,?_⟩;refine⟨_,rfl,A8 ⟨DP,?_⟩⟩;rw[Qo];have em:B0 (intD (AX (Sx.cst (C++[m]))))=.im (.tup ((AX (Sx.cst (C++[m]))).map I.int)):=by
      have:intD (AX (Sx.cst (C++[m])))=((AX (Sx.cst (C++[m]))).map I.int).map D.im:=by simp[intD]
      rw[this,BX]
     rw[em,FX,<- e1];refine A2 rfl (Gh (AW ⟨_,rfl,0,-1,done.length,(done++[(b,e,AX (Sx.cst C))]).map CI,rfl,rfl,rfl,?_,?_⟩))
     .simp[ixN];omega
     refine⟨AJ _,rest,done++[(b,e+AO ws m,AX (Sx.cst (C++[m])))],_,_,_,_,rfl,rfl,?_,hkr',by simp at hlen ⊢;omega,.inr ⟨done,b,e+AO ws m,C++[m],rfl,by simp,by simp at hCl ⊢;omega,?_⟩⟩
     .simp[GT]
     .rw[<- es];rw[WW q]
 .rintro ls hd ⟨rest,tl,z5,z6,z7,z8,er,rfl,rfl,hkr,hlen,cs⟩;have:rest=[]:=by cases rest with
   |nil=>rfl
   |cons _ _=>cases er
  subst this;refine A6 (B6 (A2 rfl ⟨tl,rfl,rfl,?_⟩));rcases cs with⟨rfl,e⟩|⟨done,b,e,C,rfl,hC,hCl,es⟩
  .rw[<- e]at rows;exact rows
  .have:Fw h (AO ws) msN=done++[(b,e,AX (Sx.cst C))]:=by rw[<- es];rfl
   rw[this]at rows;exact rows
structure Ev(ws:List Wg)(cs:Nat->Cost)(W:List 119)(rk:Nat->Nat)(h:Nat->Int):Prop where
 ok:Gp ws
 hcs:Qa ws cs
 hW:W.length<=16
 R:Rk (λk=>k<65) W rk
 hrk:∀k,k<65->rk k<65
 H:IsHead (λk=>k<65) (BD ws) (BC ws) W h
 hb:∀k,k<65->0<=h k/\h k<=1000000
section
variable{cs:Nat->Cost}{rk:Nat->Nat}{h:Nat->Int}
def Ev.hM(E:Ev ws cs W rk h):Mt 65 (CU W) (Mc W):=cX _ _
def Ev.lne(E:Ev ws cs W rk h)(hne:ks≠[]):CC (Mc W) ks≠[]:=YG (rk:=rk) hne λu _ v _ q=>cW E.R q
def Ev.sh(E:Ev ws cs W rk h):Wsh 65 (CU W):=⟨by simpa using E.hW,λp hp=>by
 obtain⟨q,hq,rfl⟩:=mem_map.mp hp;have:=E.R.ins q hq;exact⟨q.1,q.2,this.1,this.2,rfl⟩⟩
structure St(ws:List Wg)(ks:List Nat):Prop where
 ne:ks≠[]
 lt:∀k∈ks,k<65
 l8:ks.length<=8
def Yj(E:Ev ws cs W rk h)(S:St ws ks):WF Cu [.im (AT ws),.im 110,.im (Ae ks)] [] λd x=>d=.im (.int (bnd ws cs h (Mc W) ks)):=
 QX E.ok.2.1 (λk hk=>(HQ E.ok hk).1) E.hW E.R E.hrk E.H E.hM E.hcs S.ne S.lt S.l8 (E.lne S.ne)
noncomputable def kfC(cs:Nat->Cost)(t:Int):D->Int|.im (.int i)=>(cs i.toNat).at t|_=>0
def QL(E:Ev ws cs W rk h)(S:St ws ks)(t:Int):WF CV [.im (AT ws),.im 110,.im (Ae ks),.im (.int t)] [] λd x=>∃u:Nat,d=.im (.int (u:Int))/\u∈CC (Mc W) ks/\(cs u).at t=CO ((CC (Mc W) ks).map λk=>(cs k).at t):=by
 unfold CV;refine Ax rfl ?_;refine B6 (Qi (As (A4 (Bi (A4 (A2 rfl (A8 (Bh rfl rfl ?_))))))));refine A4 (A2 rfl (A4 (A2 rfl (A8 ⟨by simp,?_⟩))));have ew:W.map AM=(CU W).map FV:=by rw[fM];rfl
 have eln:(((ws.map wgI).map D.im).length:Int)=(ws.length:Int):=by simp
 rw[eln,ew];refine(SB E.sh E.hM S.lt S.l8).mono ?_;rintro r x rfl;refine⟨_,rfl,?_⟩;have hne:=E.lne S.ne;have hlt:∀k∈CC (Mc W) ks,k<ws.length:=λk hk=>S.lt k (mem_filter.mp hk).1;generalize CC (Mc W) ks=L at hne hlt;cases L with
 |nil=>exact absurd rfl hne
 |cons b r=>
  have bm:=J0 (kfC cs t) (AK r) (.im (.int (b:Int)));refine⟨.im (.int (b:Int)),AK r,kfC cs t,?_,λy hy=>?_,?_⟩
  .show some (((b::r).map λk:Nat=>I.int (k:Int)).map D.im)=_;simp[AK]
  .obtain⟨k,hk,rfl⟩:=mem_map.mp (show y∈AK (b::r)from hy);have hkn:=hlt k hk;have w:WE (A9 0 F_cost_at (A1 (mOp gIx (mOp gIx 144 77) (mC (.int 2))) (A1 139 A3))) [some (.im 120),some (.im (.int t)),some 125] [] λd x=>d=.im (.int ((cs k).at t))/\x=[]:=by
    refine As (A4 (AA (AA (A2 rfl (A2 rfl (AG (by rw[Cb,<- BU]) (DL hkn) (AW (AG rfl (Eu _ _ _ _) ?_))))))));rw[Hc E.hcs hkn];refine A4 (A2 rfl (A8 ⟨by simp,?_⟩));rw[LR];exact WP.eq (Jw _ _ (Rz (E.hcs k hkn).2.1)) ⟨_,rfl,rfl,rfl⟩
   obtain⟨d,x,e,rfl,rfl⟩:=w;exact e
  .obtain⟨h1,h2⟩:=bm;obtain⟨u,hu,eu⟩:=mem_map.mp (show Bv (λn m=>decide (n<m)) (AK r) ((AK r).map (kfC cs t)) (.im (.int (b:Int))) (kfC cs t (.im (.int (b:Int))))∈AK (b::r)from h1);rw[<- eu]at h2 ⊢;refine⟨u,rfl,hu,?_⟩;have h3:∀k∈b::r,(cs u).at t<=(cs k).at t:=λk hk=>by
    have:=h2 (.im 120) (show _∈AK (b::r)from mem_map.mpr ⟨k,hk,rfl⟩);simpa [kfC]using this
   have ms:=Bs (xs:=(b::r).map λk=>(cs k).at t) 70;have g1:=ms.2 _ (mem_map.mpr ⟨u,hu,rfl⟩);obtain⟨v,hv,ev⟩:=mem_map.mp ms.1;have g2:=h3 v hv
   try dsimp only at ev g1
   omega
def Qb(ks:List Nat)(u:Nat)(hl:ks.length<=8):WF FF [.im (Ae ks),.im (.int (u:Int))] [] λd x=>d=.im (Ae (ks.filter λk=>decide (k≠u))):=by
 unfold FF;refine Ax rfl ?_;refine B6 (C4 (Ar (C3 (A2 rfl ⟨_,rfl,?_⟩))));rw[Co];refine⟨AL (by simp[AK];omega),?_⟩;refine B8 (λk:Nat=>D.im 120) (λk=>if k≠u then some (.im 120)else none) (λ_ ls=>∃x,ls=[some x,some (.im (.int (u:Int)))]) _ (AJ _) ?_ ?_
 .rintro k hk ls hls;refine⟨[some (.im 120),some (.im (.int (u:Int)))],by rcases hls with rfl|⟨_,x,rfl⟩<;>rfl,⟨_,rfl⟩,AQ (AA (A2 rfl (A2 rfl (JF ⟨_,rfl,rfl,?_⟩))))⟩;by_cases h:k=u
  .subst h;simp
  .have h1:¬ ((k:Int)=(u:Int)):=by omega
   simp only[h1,iw,Bool.not_false,fL];exact⟨_,by simp[h],A2 rfl ⟨rfl,rfl⟩⟩
 rw[Q7];exact⟨_,rfl,Ig _⟩
def L3{ss:List (List Nat)}(h:d∈ss.map AI):∃s∈ss,d=AI s:=by
 obtain⟨s,h1,h2⟩:=mem_map.mp h;exact⟨s,h1,h2.symm⟩
noncomputable def QH:I->Nat|.int i=>i.toNat|_=>0
noncomputable def kfB(ws:List Wg)(cs:Nat->Cost)(h:Nat->Int)(W:List 119):D->Int|.im (.tup is)=>bnd ws cs h (Mc W) (is.map QH)|_=>0
def Ka(s:List Nat):kfB ws cs h W (AI s)=bnd ws cs h (Mc W) s:=by
 show bnd ws cs h (Mc W) ((s.map λk:Nat=>I.int (k:Int)).map QH)=_;rw[fM]
 congr 1
 have:(QH ∘ λk:Nat=>I.int (k:Int))=id:=by funext k;simp[QH]
 rw[this,List.map_id]
def YV(E:Ev ws cs W rk h){k:Nat}{ss:List (List Nat)}(e:hd[k]?=some (.lst (ss.map AI)))(hne:ss≠[])(hs:∀s∈ss,St ws s):WF CJ [.im (AT ws),.im 110,.mu k] hd λd x=>∃s∈ss,d=AI s/\∀s'∈ss,bnd ws cs h (Mc W) s'<=bnd ws cs h (Mc W) s:=by
 unfold CJ;refine Ax rfl ?_;cases ss with
 |nil=>exact absurd rfl hne
 |cons b r=>
  have bm:=J8 (kfB ws cs h W) (r.map AI) (AI b);refine B6 (T4 (A2 rfl ⟨AI b,r.map AI,kfB ws cs h W,?_,λy hy=>?_,?_⟩))
  .simp only[Ac,e];rfl
  .obtain⟨s,hs',rfl⟩:=L3 (ss:=b::r) hy;have w:WE (A9 0 Cu (A1 139 (A1 144 (A1 77 A3)))) [some (AI s),some 125,some (.im 110)] hd λd x=>d=.im (.int (bnd ws cs h (Mc W) s))/\x=hd:=by
    refine As (A4 (A2 rfl (A4 (A2 rfl (A4 (A2 rfl (A8 ⟨by simp,(Yj E (hs s hs')).mono ?_⟩)))))));rintro d x rfl;exact⟨_,rfl,rfl,rfl⟩
   obtain⟨d,x,e,rfl,rfl⟩:=w;rw[Ka];exact e
  .obtain⟨h1,h2⟩:=bm;obtain⟨s,hs',es⟩:=L3 (ss:=b::r) h1;rw[es]at h2 ⊢;refine⟨s,hs',rfl,λs' h'=>?_⟩;have:=h2 (AI s') (show _∈(b::r).map AI from mem_map.mpr ⟨s',h',rfl⟩);rw[Ka,Ka]at this;exact this
end
open Sx (Blk)
open Bk (Pc gf Brk)
noncomputable def pcI(p:Pc):I:=.tup [.int (p.1:Int),.int p.2.1,.int p.2.2]
abbrev pcD(p:Pc):D:=.im (pcI p)
theorem NJ{u:Nat}{e:Int}:∀{qs:List Pc} {a:Int},(gf u a e qs).length<=2*qs.length+1
 |[],a=>by simp[gf]
 |q::r,a=>by
  have ih:=NJ (u:=u) (e:=e) (qs:=r) (a:=q.2.2);rw[gf];simp only[fV,fU];split<;>simp<;>omega
inductive I_gap(u:Nat)(b e:Int)(k:Nat)(qs:List Pc)(hd0:Hd)(r:List D)(ls:Ls)(hd:Hd):Prop
 |mk (rest told:List Pc) (at_:Int) (z6:Option D) (h0:r=rest.map pcD) (h1:ls=[some (.im (.int (u:Int))),some (.im (.int b)),some (.im (.int e)),some (.mu k),some (.mu hd0.length),some (.im (.int at_)),z6]) (h2:hd=hd0++[.lst (told.map pcD)]) (h3:told++gf u at_ e rest=gf u b e qs):I_gap u b e k qs hd0 r ls hd
def IP(H:Hd)(x y:MO):(H++[x]).set H.length y=H++[y]:=by simp
def Cj(H:Hd)(x:MO):(H++[x])[H.length]?=some x:=by simp
def KY(H:Hd)(ds:List D):Ac (H++[.lst ds]) (.mu H.length)=some ds:=by rw[Ho,Cj]
def cg{u:Nat}{b e:Int}{k:Nat}{qs:List Pc}(ek:hd[k]?=some (.lst (qs.map pcD)))(hl:qs.length<=1000):WF DC [.im (.int (u:Int)),.im (.int b),.im (.int e),.mu k] hd λd x=>d=.mu 131/\x=hd++[.lst ((gf u b e qs).map pcD)]:=by
 have gl:=NJ (u:=u) (e:=e) (qs:=qs) (a:=b);unfold DC;refine Ax rfl ?_;refine AD (AS (Av (BZ (A8 ⟨E6,A6 ?_⟩))));refine AD (AS (A2 rfl (A6 ?_)));refine AD (Bp (FG (A2 rfl ⟨k,_,rfl,Ex ek _,?_⟩)));refine B7 (I_gap u b e k qs hd) ⟨qs,[],b,none,rfl,rfl,rfl,rfl⟩ ?_ ?_
 .rintro d r ls hd' ⟨rest,told,at_,z6,er,rfl,rfl,h3⟩;cases rest with
  |nil=>cases er
  |cons q rest=>
   obtain⟨rfl,rfl⟩:=133 er;have tl:told.length+2<=3000:=by
    have:=fS List.length h3;rw[gf]at this;simp only[fV,fU]at this;omega
   refine⟨_,rfl,?_⟩;dsimp only[set_cons_zero,set_cons_succ];have fin:∀(tl2:List Pc),tl2.length<=3000->tl2++q::gf u q.2.2 e rest=gf u b e qs->WS (A5 (Aq (mMt Ad (A0 4) (A1 (A0 6) A3))) (AE 5 (mOp gIx (A0 6) (mC (.int 2))))) [some (.im (.int (u:Int))),some (.im (.int b)),some (.im (.int e)),some (.mu k),some (.mu 131),some (.im (.int at_)),some (pcD q)] (hd++[.lst (tl2.map pcD)]) (VV [(k,qs.map pcD)] (I_gap u b e k qs hd (rest.map pcD)) (Lu (A5 (Aq (mMt Ad (A0 4) (A1 (Ay (A1 77 (A1 (A0 5) (A1 144 A3)))) A3))) (AN (A0 4))) λf x=>match f with
    |.rt d=>d=.mu 131/\x=hd++[.lst ((gf u b e qs).map pcD)]
    |.nx _=>D.im .non=.mu 131/\x=hd++[.lst ((gf u b e qs).map pcD)]
    | _=>False)):=by
    intro tl2 l2 e2;refine AD (C2 (EG (A2 rfl ⟨⟨_,KY _ _⟩,A4 (A2 rfl (A8 (CK (Cj _ _) (B4 82) (A6 ?_))))⟩)));rw[IP];refine AS (AA (A2 rfl (AW (AG rfl (Eu _ _ _ _) ?_))));refine⟨λp hp=>?_,rest,tl2++[q],q.2.2,some (pcD q),rfl,rfl,by simp,by simpa using e2⟩;rw[fO]at hp;subst hp;exact Ex ek _
   rw[gf]at h3;refine AD (BP (AQ (AA (A2 rfl (AA (A2 rfl (AW (AG rfl (Ew _ _ _) (Ha ⟨_,rfl,λc=>?_,λc=>Az (A6 ?_)⟩)))))))))
   .have c:at_<q.2.1:=gq c;rw[fb c]at h3;refine C2 (EG (A2 rfl ⟨⟨_,KY _ _⟩,A4 (Bg (A4 (A2 rfl (A4 (A2 rfl (A4 (AA (A2 rfl (AW (AG rfl (Ew _ _ _) (A8 ⟨DP,?_⟩)))))))))))⟩));refine A8 (CK (Cj _ _) (B4 82) (A6 ?_));rw[IP,FX];have e2:told.map pcD++[D.im (.tup [.int (u:Int),.int at_,.int q.2.1])]=(told++[(u,at_,q.2.1)]).map pcD:=by rw[gA];rfl
    rw[e2];exact fin _ 82 (by simpa using h3)
   .have c:¬ at_<q.2.1:=il c;rw[fe c]at h3;exact fin told 59 h3
 .rintro ls hd' ⟨rest,told,at_,z6,er,rfl,rfl,h3⟩;have:rest=[]:=by cases rest with
   |nil=>rfl
   |cons t r=>cases er
  subst this;refine A6 ?_;have tl:told.length<=3000:=by
   have:=fS List.length h3;simp only[fV]at this;omega
  refine AD (C2 (EG (A2 rfl ⟨⟨_,KY _ _⟩,A4 (Bg (A4 (A2 rfl (A4 (A2 rfl (A4 (A2 rfl (A8 ⟨DP,?_⟩))))))))⟩)));refine A8 (CK (Cj _ _) (B4 82) (A6 ?_));rw[IP,FX];refine B6 (A2 rfl ⟨rfl,?_⟩);rw[<- h3,gf,gA];rfl
open Sx (Blk)
open Bk (Pc gf Brk)
def Dz{F:List D->Hd->Option 121}{QE:D->Hd->Prop}(h:WA m ls hd λds rest=>Ak 0 ds=true/\WF F ds [] λd x=>∃k es,d=.mu k/\x[k]?=some (.lst es)/\Ak 0 es=true/\QE (.mu rest.length) (rest++[.lst es])):WE (A9 0 F m) ls hd QE:=by
 obtain⟨ds,rest,e,hc,d,x,e2,k,es,rfl,e3,c3,q⟩:=h;refine⟨_,_,?_,q⟩;have t3:¬ k<0:=by omega
 simp only[A9,e,bind_some,List.take_zero,hc,e2,fin,fe t3,e3,c3,fL];simp
def Tr{h l:Nat->Int}{left:List Nat}(r:Sx.Rows h l left (B::bs)):∃C R b,B=(b,b+Sx.S l C,Sx.cst (left.filter λk=>decide (k∈C)))/\left.Perm (C++R)/\Sx.ChOk h l b C R/\Sx.Rows h l (left.filter λk=>!decide (k∈C)) bs:=by
 cases r with
 |cons pm K r=>exact⟨_,_,_,rfl,pm,K,r⟩
def Tq{h l:Nat->Int}{left:List Nat}(r:Sx.Rows h l left []):left=[]:=by cases r;rfl
def aq{x y:Nat}(hx:1<=x)(hy:1<=y):x+y<=x*y+1:=by
 obtain⟨a,rfl⟩:∃a,x=a+1:=⟨x-1,by omega⟩
 obtain⟨b,rfl⟩:∃b,y=b+1:=⟨y-1,by omega⟩
 rw[Nat.add_mul,Nat.mul_add];omega
def bM(m a:Nat):2^m+2^a<=2^(m+a)+1:=by
 rw[Nat.pow_add];exact aq (Nat.pos_of_ne_zero 70) (Nat.pos_of_ne_zero 70)
theorem NL(p:Nat->Bool):∀L:List Nat,(L.filter p).length+(L.filter λx=>!p x).length=L.length
 |[]=>rfl
 |x::r=>by
  have ih:=NL p r;by_cases h:p x=true
  .rw[hZ h,i8 (by simp[h])];simp only[fU];omega
  .rw[i8 h,hZ (by simpa using h)];simp only[fU];omega
def SQ{u:Nat}{L:List Nat}(h:u∈L):(L.filter λk=>decide (k≠u)).length<L.length:=by
 induction L with
 |nil=>cases h
 |cons x r ih=>
  by_cases e:x=u
  .subst e;have:=gT (λk=>decide (k≠x)) r;simp;simpa using Nat.lt_succ_of_le this
  .have h:u∈r:=by rcases mem_cons.mp h with q|q;exact absurd q.symm e;exact q
   have:=ih h;rw[hZ (by simpa using e)];simp only[fU];omega
theorem PB(k:Nat){α:Type}(f:α->I):∀L:List α,EA k (L.map λx=>D.im (f x))=L.map λx=>D.im (f x)
 |[]=>rfl
 |x::r=>by simp only[fq,EA,shD,PB k f r]
def VY(k:Nat)(L:List Pc):EA k (L.map pcD)=L.map pcD:=PB k pcI L
def Qp(k:Nat)(L:List (List Nat)):EA k (L.map AI)=L.map AI:=PB k Ae L
abbrev chz(cs:Nat->Cost)(W:List 119):List Nat->Int->Nat->Prop:=λM e u=>u∈CC (Mc W) M/\(cs u).at e=CO ((CC (Mc W) M).map λk=>(cs k).at e)
inductive I_brk(ws:List Wg)(cs:Nat->Cost)(W:List 119)(h:Nat->Int)(ks:List Nat)(bs:List Blk)(r:List D)(ls:Ls)(hd:Hd):Prop
 |mk (left:List Nat) (bs':List Blk) (ps:List Pc) (ss:List (List Nat)) (g:Hd) (z5 z6 z7 z8 z9 z10:Option D) (h0:r=bs'.map CI) (h1:ls=[some 125,some (.im 110),some (.im (Ae ks)),some (.mu 0),some (.mu 1),z5,z6,z7,z8,z9,z10]) (h2:hd=.lst (ps.map pcD)::.lst (ss.map AI)::.lst (bs.map CI)::g)
  (h3:Sx.Rows h (AO ws) left bs') (h4:left.Sublist ks) (h5:∀pR sR,Brk h (AO ws) (chz cs W) left pR sR->Brk h (AO ws) (chz cs W) ks (ps++pR) (ss++sR)) (h6:112+2^left.length<=2^ks.length) (h7:ss.length+left.length<=ks.length):I_brk ws cs W h ks bs r ls hd
section
variable{ws:List Wg}{cs:Nat->Cost}{W:List 119}{rk:Nat->Nat}{h:Nat->Int}
set_option maxHeartbeats 1000000 in
theorem W1(E:Ev ws cs W rk h):∀(n:Nat) {ks:List Nat},ks.length<n->ks.Pairwise (·<·)->(∀k∈ks,k<65)->ks.length<=8->WF (Cl n) [.im (AT ws),.im 110,.im (Ae ks)] [] λd x=>∃(ps:List Pc) (ss:List (List Nat)) (g:Hd),d=.tm [.mu 0,.mu 1]/\x=.lst (ps.map pcD)::.lst (ss.map AI)::g/\Brk h (AO ws) (chz cs W) ks ps ss/\112+1<=2^ks.length/\ss.length<=ks.length
 |0,ks,h0,_,_,_=>by omega
 |n+1,ks,hn,hs,hk,hl=>by
  have ih:=λ{ks}=>W1 E n (ks:=ks)
  show WF (mkF 3 11 (Gu (Cl n))) _ _ _;refine Ax rfl ?_;refine AD (AS (Av (BZ (A8 ⟨E6,A6 ?_⟩))));refine AD (AS (Av (BZ (A8 ⟨E6,A6 ?_⟩))));refine AD (Bp (FG (Dz (A4 (A2 rfl (A4 (A2 rfl (A4 (A2 rfl (A8 ⟨by simp,(bz E.ok E.hW E.R E.hrk E.H E.hb hs hk hl).mono ?_⟩))))))))));rintro d x ⟨bs,rfl,rfl,rows⟩;refine⟨0,_,rfl,rfl,Fo 0 GT bs,2,_,rfl,rfl,?_⟩;have e8:2^ks.length<=256:=Rn hl;refine B7 (I_brk ws cs W h ks bs) ⟨ks,bs,[],[],[],none,none,none,none,none,none,rfl,rfl,rfl,rows,List.Sublist.refl _,λpR sR B=>B,by simp,by simp⟩ ?_ ?_
  .rintro d r ls hd ⟨left,bs',ps,ss,g,z5,z6,z7,z8,z9,z10,er,rfl,rfl,rows',sub,clo,lp,ls'⟩;cases bs' with
   |nil=>cases er
   |cons B bs'=>
    obtain⟨rfl,rfl⟩:=133 er;obtain⟨C,R,b,rfl,pm,K,rows2⟩:=Tr rows';have nd:left.Nodup:=(hs.sublist sub).imp λq=>by omega
    have mM:∀k,k∈left.filter (λk=>decide (k∈C))↔k∈C:=λk=>by
     rw[mem_filter];exact⟨λz=>by simpa using z.2,λz=>⟨pm.mem_iff.mpr (gw _ z),by simpa using z⟩⟩
    have ne:left.filter (λk=>decide (k∈C))≠[]:=by
     obtain⟨c,C',e1,_⟩:=K.fst;exact gR ((mM c).mpr (by rw[e1];simp))
    have subM:(left.filter λk=>decide (k∈C)).Sublist ks:=filter_sublist.trans sub;have lM:(left.filter λk=>decide (k∈C)).length<=8:=fu subM.length_le hl;have S:St ws (left.filter λk=>decide (k∈C)):=⟨ne,λk hk'=>hk k (subM.subset hk'),lM⟩
    have fl:=NL (λk=>decide (k∈C)) left;refine⟨_,rfl,?_⟩;have eM:((Sx.cst (left.filter λk=>decide (k∈C))).map I.int)=(left.filter λk=>decide (k∈C)).map λk:Nat=>I.int (k:Int):=by simp[Sx.cst]
    dsimp only[set_cons_zero,set_cons_succ];rw[eM];refine AD (AS (As (A4 (A2 rfl (A4 (A2 rfl (A4 (A2 rfl (A4 (A2 rfl (A8 ⟨by simp,(QL E S _).mono ?_⟩)))))))))));rintro d x ⟨u,rfl,hu,ec⟩;refine⟨_,rfl,A6 ?_⟩;have uM:=(mem_filter.mp hu).1;have flt:=SQ uM;have subN:((left.filter λk=>decide (k∈C)).filter λk=>decide (k≠u)).Sublist ks:=filter_sublist.trans subM;refine AD (JD (MD (A4 (A2 rfl (A4 (A2 rfl (A4 (As (A4 (A2 rfl (A4 (A2 rfl (A8 ⟨by simp,(Qb _ u lM).mono ?_⟩)))))))))))));rintro d x rfl;refine⟨_,rfl,A8 ⟨by simp,(ih (by have:=subM.length_le;omega) (hs.sublist subN) (λk hk'=>hk k (subN.subset hk')) 59).mono ?_⟩⟩;rintro d x ⟨qs,ts,g',rfl,rfl,BN,l1,l2⟩;refine⟨_,rfl,A6 ?_⟩;generalize eH:(MO.lst (ps.map pcD)::MO.lst (ss.map AI)::MO.lst (bs.map CI)::g)=H;have eh:((MO.lst (qs.map pcD)::MO.lst (ts.map AI)::g').map (shO H.length))=MO.lst (qs.map pcD)::MO.lst (ts.map AI)::g'.map (shO H.length):=by
     simp only[fq,shO,VY,Qp]
    rw[eh];generalize g'.map (shO H.length)=g2;have p1:2^((left.filter λk=>decide (k∈C)).filter λk=>decide (k≠u)).length*2<=2^(left.filter λk=>decide (k∈C)).length:=by
     rw[<- Nat.pow_succ];exact Nat.pow_le_pow_right 59 59
    have p2:=bM (left.filter λk=>decide (k∈C)).length (left.filter λk=>!decide (k∈C)).length;rw[fl]at p2;have p3:0<2^(left.filter λk=>!decide (k∈C)).length:=Nat.pos_of_ne_zero 70;have gl:=NJ (u:=u) (e:=b+Sx.S (AO ws) C) (qs:=qs) (a:=b);have h00:(H++MO.lst (qs.map pcD)::MO.lst (ts.map AI)::g2)[0+H.length]?=some (.lst (qs.map pcD)):=by rw[Nat.zero_add];exact hg0 _ _ _
    have h01:(H++MO.lst (qs.map pcD)::MO.lst (ts.map AI)::g2)[1+H.length]?=some (.lst (ts.map AI)):=by rw[Nat.add_comm];exact hg1 _ _ _ _
    refine AD (O6 rfl (CY (A4 (A2 rfl (A4 (A2 rfl (A4 (A2 rfl (A4 (A2 rfl (A8 ((cg (u:=u) h00 59).mono ?_))))))))))));rintro d x ⟨rfl,rfl⟩;subst eH;refine⟨_,ps.map pcD,_,rfl,rfl,Cj _ _,AL 82,A6 ?_⟩;generalize eg:(g++MO.lst (qs.map pcD)::MO.lst (ts.map AI)::g2)++[MO.lst ((gf u b (b+Sx.S (AO ws) C) qs).map pcD)]=g3;have h02:(MO.lst (ps.map pcD++(gf u b (b+Sx.S (AO ws) C) qs).map pcD)::MO.lst (ss.map AI)::MO.lst (bs.map CI)::g3)[1+(MO.lst (ps.map pcD)::MO.lst (ss.map AI)::MO.lst (bs.map CI)::g).length]?=some (.lst (ts.map AI)):=by
     rw[<- eg];show([MO.lst (ps.map pcD++(gf u b (b+Sx.S (AO ws) C) qs).map pcD),MO.lst (ss.map AI),MO.lst (bs.map CI)]++((g++MO.lst (qs.map pcD)::MO.lst (ts.map AI)::g2)++[MO.lst ((gf u b (b+Sx.S (AO ws) C) qs).map pcD)]))[1+(g.length+1+1+1)]?=_;rw[List.getElem?_append_right 82,List.getElem?_append_left 82];have:=hg1 g (MO.lst (qs.map pcD)) (MO.lst (ts.map AI)) g2;rw[<- this];congr 1;simp;omega
    change WS _ _ (MO.lst (ps.map pcD++(gf u b (b+Sx.S (AO ws) C) qs).map pcD)::MO.lst (ss.map AI)::MO.lst (bs.map CI)::(g++MO.lst (qs.map pcD)::MO.lst (ts.map AI)::g2)++[MO.lst ((gf u b (b+Sx.S (AO ws) C) qs).map pcD)]) _;rw[show(MO.lst (ps.map pcD++(gf u b (b+Sx.S (AO ws) C) qs).map pcD)::MO.lst (ss.map AI)::MO.lst (bs.map CI)::(g++MO.lst (qs.map pcD)::MO.lst (ts.map AI)::g2)++[MO.lst ((gf u b (b+Sx.S (AO ws) C) qs).map pcD)])=MO.lst (ps.map pcD++(gf u b (b+Sx.S (AO ws) C) qs).map pcD)::MO.lst (ss.map AI)::MO.lst (bs.map CI)::g3 by rw[<- eg];rfl];refine O6 rfl (Av (MK (Av (BZ (A4 (A2 rfl (A8 ⟨DQ,A2 rfl ⟨_,_,_,_,rfl,rfl,Cj _ _,Ex h02 _,AL 82,?_⟩⟩)))))));refine⟨_,ss.map AI,_,rfl,rfl,Cj _ _,AL 82,?_⟩;refine⟨λp hp=>?_,left.filter (λk=>!decide (k∈C)),bs',ps++gf u b (b+Sx.S (AO ws) C) qs,ss++((left.filter λk=>decide (k∈C))::ts),(g3++[MO.lst [AI (left.filter λk=>decide (k∈C))]]++[MO.lst ([AI (left.filter λk=>decide (k∈C))]++ts.map AI)]),_,_,_,_,_,_,rfl,rfl,?_,rows2,filter_sublist.trans sub,λpR sR B=>?_,?_,?_⟩
    .rw[fO]at hp;subst hp;rfl
    .rw[gA,gA];rfl
    .have:=clo _ _ (.cons pm K ⟨hu,ec⟩ ((mM u).mp uM) BN B);rw[gz,gz];exact this
    .simp only[fV];omega
    .simp only[fV,fU];omega
  .rintro ls hd ⟨left,bs',ps,ss,g,z5,z6,z7,z8,z9,z10,er,rfl,rfl,rows',sub,clo,lp,ls'⟩;have:bs'=[]:=by cases bs' with
    |nil=>rfl
    |cons t r=>cases er
   subst this;have:=Tq rows';subst this;refine A6 (B6 (Bg (A4 (A2 rfl (A4 (A2 rfl (A8 ⟨Fh,?_⟩)))))));have B:=clo [] [] .nil;rw[fY,fY]at B;exact⟨ps,ss,_,rfl,rfl,B,by simpa using lp,by simpa using ls'⟩
end
open Sx (Blk)
open Bk (Pc gf Brk)
def gr(ws:List Wg)(cs:Nat->Cost)(en:Nat->Int):Int:=Cg ((69 65).map λk=>(cs k).at (en k))
def cC{en:Nat->Int}(hw:∀p∈W,en p.1<en p.2){x y:Int}(r:Rc (CU W) x y):∀i:Nat,x=i->∃j:Nat,y=j/\en i<en j:=by
 induction r with
 |one h=>
  rintro i rfl;obtain⟨⟨a,b⟩,hp,e⟩:=mem_map.mp h;simp only[Prod.mk.injEq]at e;obtain⟨e1,rfl⟩:=e;have:a=i:=by omega
  subst this;exact⟨b,rfl,hw _ hp⟩
 |step _ h ih=>
  intro i hi;obtain⟨m,rfl,lm⟩:=ih i hi;obtain⟨⟨a,b⟩,hp,e⟩:=mem_map.mp h;simp only[Prod.mk.injEq]at e;obtain⟨e1,rfl⟩:=e;have:a=m:=by omega
  subst this;have l:=hw _ hp;exact⟨b,rfl,Int.lt_trans lm l⟩
section
variable{cs:Nat->Cost}{rk:Nat->Nat}{h:Nat->Int}
def Ev.hs(E:Ev ws cs W rk h):Bk.Hs 65 (BD ws) (AO ws) W h where
 pos k _:=Bz ws k
 ins p hp:=E.R.ins p hp
 lo k hk:=E.H.lo k hk
 st p hp:=by have:=E.H.up p hp (E.R.ins p hp).2;rw[Dh E.ok (E.R.ins p hp).1];exact this
 eq k hk:=by
  rcases E.H.eq k hk with e|⟨p,hp,e1,e2⟩
  .exact .inl e
  .exact .inr ⟨p,hp,e1,by rw[Dh E.ok (E.R.ins p hp).1];exact e2⟩
def Ev.hch(E:Ev ws cs W rk h):∀M e u,chz cs W M e u->∀w∈W,w.1=u->w.2∉M:=by
 rintro M e u ⟨hu,_⟩ w hw rfl hM;have h3:=(mem_filter.mp hu).2;rw[Bool.not_eq_true',List.any_eq_false]at h3;refine h3 w.2 hM ?_;have:Rc (CU W) (w.1:Int) (w.2:Int):=.one (mem_map.mpr ⟨w,hw,rfl⟩);simp[Mc,this]
def Ev.bok(E:Ev ws cs W rk h)(B:Brk h (AO ws) (chz cs W) ks ps ss)(nd:ks.Nodup):Bk.Ok h (AO ws) W (chz cs W) ks ps ss:=B.ok (Bz ws) E.hs.st E.hch nd
def W4(E:Ev ws cs W rk h)(hk:∀k∈ks,k<65):Sx.S (AO ws) ks=(ks.map (BC ws)).sum:=by
 unfold Sx.S
 congr 1
 exact i7 λk hk'=>Dh E.ok (hk k hk')
def Yp(E:Ev ws cs W rk h){e:Int}(hM:∀k∈M,k<65)(w:Bk.Wd h (AO ws) M e):e=FB ws h M:=by
 obtain⟨⟨c,hc,e1⟩,e2⟩:=w;have ms:=Bs (xs:=M.map h) (gR (mem_map.mpr ⟨c,hc,rfl⟩));have g1:=ms.2 _ (mem_map.mpr ⟨c,hc,rfl⟩);obtain⟨v,hv,ev⟩:=mem_map.mp ms.1;have g2:=e2 v hv;unfold FB;rw[W4 E hM]at e1 g2;omega
def Vw{en:Nat->Int}{k:Nat}(hk:k<65):(cs k).at (en k)<=gr ws cs en:=
 (BR (xs:=(69 65).map λk=>(cs k).at (en k)) (gR (mem_map.mpr ⟨k,by simpa using hk,rfl⟩))).2 _ (mem_map.mpr ⟨k,by simpa using hk,rfl⟩)
theorem low(E:Ev ws cs W rk h){left en:Nat->Int}{t:Int}(I:Bk.Inv 65 (AO ws) h W left en t)(h0:∀k,k<65->left k=0)(S:St ws ks)(nd:ks.Nodup):bnd ws cs h (Mc W) ks<=gr ws cs en:=by
 have ms:=Bs (xs:=ks.map h) (by simpa using S.ne);obtain⟨u,hu,h1,h2⟩:=I.low E.hs h0 S.ne nd S.lt (b:=CO (ks.map h)) λk hk=>ms.2 _ (mem_map.mpr ⟨k,hk,rfl⟩);rw[W4 E S.lt]at h1;have hw:∀p∈W,en p.1<en p.2:=λp hp=>(I.wi p hp (by
  have:=h0 p.2 (E.R.ins p hp).2;have:=Bz ws p.2;omega)).2
 have hlast:u∈CC (Mc W) ks:=by
  refine mem_filter.mpr ⟨hu,?_⟩;rw[Bool.not_eq_true',List.any_eq_false];intro b hb q;have q:Rc (CU W) u b:=by simpa [Mc]using q
  obtain⟨j,ej,lt⟩:=cC hw q u rfl;have:b=j:=by omega
  subst this;have:=h2 b hb;omega
 have g1:=(Bs (xs:=(CC (Mc W) ks).map λk=>(cs k).at (FB ws h ks)) (gR (mem_map.mpr ⟨u,hlast,rfl⟩))).2 _ (mem_map.mpr ⟨u,hlast,rfl⟩);refine Int.le_trans g1 (Int.le_trans (Oq (E.hcs u (S.lt u hu)).2.1 ?_) (Vw (S.lt u hu)));exact h1
def P6(E:Ev ws cs W rk h)(B:Brk h (AO ws) (chz cs W) (69 65) ps ss):∀s∈ss,St ws s/\s.Nodup:=λs hs=>by
 have O:=E.bok B gZ;obtain⟨h1,h2⟩:=O.set s hs;refine⟨⟨h1,λk hk=>by simpa using h2.subset hk,?_⟩,nodup_range.sublist h2⟩;have:=h2.length_le;have:=E.ok.2.1;simp at *;omega
def up(E:Ev ws cs W rk h){en:Nat->Int}(B:Brk h (AO ws) (chz cs W) (69 65) ps ss)(hb:∀s'∈ss,bnd ws cs h (Mc W) s'<=bnd ws cs h (Mc W) s)(he:∀k,k<65->∃q∈ps,q.1=k/\en k=q.2.2):gr ws cs en<=bnd ws cs h (Mc W) s:=by
 have O:=E.bok B gZ;have h0:=E.ok.1;have ms:=(BR (xs:=(69 65).map λk=>(cs k).at (en k)) (gR (mem_map.mpr ⟨0,mem_range.mpr 59,rfl⟩))).1;obtain⟨k,hk,ek⟩:=mem_map.mp ms;have hkn:k<ws.length:=by simpa using hk
 obtain⟨M,hM,e,⟨_,hc⟩,hw,hq⟩:=O.cst k hk;have hM':=(P6 E B M hM).1;have ee:=Yp E hM'.lt hw;obtain⟨q,hq1,hq2,hq3⟩:=he k hkn;have h1:=Oq (E.hcs k hkn).2.1 (hq q hq1 hq2);rw[<- hq3,hc]at h1;unfold gr;rw[<- ek];refine Int.le_trans h1 (Int.le_trans ?_ (hb M hM));unfold bnd;rw[ee];exact 102 _
def aK(E:Ev ws cs W rk h):WF Bw [.im (AT ws),.im 110] [] λd x=>∃(ps:List Pc) (ss:List (List Nat)) (s:List Nat),d=.im (.tup [.tup (ps.map pcI),Ae s])/\Brk h (AO ws) (chz cs W) (69 65) ps ss/\s∈ss/\(∀s'∈ss,bnd ws cs h (Mc W) s'<=bnd ws cs h (Mc W) s)/\112<=256:=by
 have hn:=E.ok.2.1;have h0:=E.ok.1;unfold Bw;refine Ax rfl ?_;have rn:B0 (Aw 0 65)=.im (Ae (69 65)):=by rw[CA,Ig]
 have rgl:He (ws.length:Int):=IT 59 59;refine AD (JD (MD (A4 (A2 rfl (A4 (A2 rfl (A4 (WP.eq (z:=.im (Ae (69 65))) (h:=[]) (by simp[BS,rgl,rn]) (A8 ⟨by simp,(W1 E 10 82 List.pairwise_lt_range 70 (by simpa using hn)).mono ?_⟩)))))))));rintro d x ⟨ps,ss,g,rfl,rfl,B,l1,l2⟩;refine⟨_,rfl,A6 ?_⟩;rw[gQ];have eh:((MO.lst (ps.map pcD)::MO.lst (ss.map AI)::g).map (shO ([]:Hd).length))=MO.lst (ps.map pcD)::MO.lst (ss.map AI)::g.map (shO ([]:Hd).length):=by
  simp only[fq,shO,VY,Qp]
 rw[eh];have O:=E.bok B gZ;have sst:=P6 E B;obtain⟨M,hM,_⟩:=O.cst 0 (mem_range.mpr h0);rw[length_range]at l1;have p8:=Rn hn;refine B6 (Bg (A4 (Bi (A4 (A2 rfl (A8 (Bh rfl rfl ?_)))))));refine A4 (CY (A4 (A2 rfl (A4 (A2 rfl (A4 (A2 rfl (A8 ((YV E (ss:=ss) rfl (gR hM) (λs hs=>(sst s hs).1)).mono ?_)))))))));rintro d x ⟨s,hs,rfl,hb⟩;refine A8 ⟨Fh,ps,ss,s,?_,B,hs,hb,by omega⟩;rw[show ps.map pcD=(ps.map pcI).map D.im by simp,BX];rfl
end
open PySem L2 Bd Hds
open Bk (Pc Brk upd)
abbrev fl(n:Nat)(f:Nat->Int):List D:=intD ((69 n).map f)
def Ds{n k:Nat}(f:Nat->Int)(hk:k<n):atI (fl n f) (k:Int)=some (.im (.int (f k))):=JA rfl (by simp[intD,hk])
def Jr{n k:Nat}(f:Nat->Int)(hk:k<n):ixN (fl n f).length (k:Int)=some k:=by unfold ixN;simp[intD,hk]
def HJ{n k:Nat}(f:Nat->Int)(v:Int):(fl n f).set k (.im (.int v))=fl n (upd f k v):=by
 refine ext_getElem? λi=>?_;rw[List.getElem?_set];by_cases hi:k=i
 .subst hi;by_cases hk:k<n
  .simp[intD,hk,Bk.upd_self]
  .simp[intD,hk]
 .simp only[hi,fT,intD,List.getElem?_map,fM];by_cases hi2:i<n
  .simp[hi2,Bk.upd_ne (f:=f) (v:=v) (λz:i=k=>hi z.symm)]
  .simp[hi2]
def VB{n:Nat}{f g:Nat->Int}(h:∀k,k<n->f k=g k):fl n f=fl n g:=by
 unfold fl
 congr 1
 exact i7 λk hk=>h k (by simpa using hk)
def Od(ok:Gp ws):(ws.filterMap λw=>some (D.im (.int w.len)))=fl 65 (AO ws):=by
 rw[List.filterMap_eq_map'];unfold fl intD;rw[fM];refine List.ext_getElem 70 λi h1 h2=>?_;have hi:i<ws.length:=by simpa using h1
 simp only[List.getElem_map,Function.comp,List.getElem_range];rw[Dh ok hi,<- Gg hi]
def Kf(n:Nat):(104 n [D.im (.int 0)]).flatten=fl n λ_=>0:=by
 simp only[intD,fM,Function.comp_def];rw[show(λ_:Nat=>D.im (.int 0))=Function.const Nat (D.im (.int 0))from rfl,List.map_const,length_range];simp
def MJ{QA:List D->Hd->Prop}(h:WA ml ls hd λds x=>WE mb ls x λe y=>∃k,e=.im (.int k)/\(0<=k/\k<=1000)/\BY (83*k.toNat)/\QA (104 k.toNat ds).flatten y):WA (Gw ml mb) ls hd QA:=by
 obtain⟨ds,x,e1,d,y,e2,k,rfl,h1,h2,q⟩:=h;exact⟨_,_,by simp only[Gw,e1,bind_some,e2,h1,h2,and_self,fL],q⟩
def lay_ints(ns:List Int):PyData.canLayAll0 (ns.map PyData.int)=true:=by
 induction ns with
 |nil=>rfl
 |cons x r ih=>simp[PyData.canLayAll0,PyData.canLay0]at ih ⊢;try exact ih
def VH(ns:List Int):PyData.depthAll (ns.map PyData.int)<=1:=by
 induction ns with
 |nil=>simp[PyData.depthAll]
 |cons x r ih=>simp[PyData.depthAll,PyData.depth]at ih ⊢;try omega
def cL{n:Nat}(e:hd[n]?=some (.lst (intD ns))):pyD hd (.mu n)=some (.list (ns.map PyData.int)):=by simp only[pyD,e,intD,Cr,fR,DD]
def Qf{QE:D->Hd->Prop}(h:WE ma ls hd λd x=>WA ml ls x λds y=>∃ns:List Int,ds=intD ns/\pyD y d=some (.list (ns.map PyData.int))/\QE (.im (.bl true)) y):WE (CS false ma ml) ls hd QE:=by
 obtain⟨d,x,e1,ds,y,e2,ns,rfl,e3,q⟩:=h;refine⟨_,_,?_,q⟩;have c1:(PyData.list (ns.map PyData.int)).canLay0=true:=by rw[PyData.canLay0,lay_ints]
 have c2:min (PyData.list (ns.map PyData.int)).depth (PyData.list (ns.map PyData.int)).depth<=60:=by
  have:=VH ns;rw[PyData.depth];omega
 simp only[CS,e1,bind_some,e2,e3];rw[show intD ns=ns.map λi=>D.im 134 from rfl,Cr,bind_some,DD];unfold Ep;rw[fb ⟨c1,c1,c2⟩,PySem.SeqAt.eqv_refl _ c1];rfl
def V3(i:Int):WF GY [.im 134] [] λd x=>d=.im (.bl true):=by
 unfold GY;refine Ax rfl ?_;refine B6 (WM (AQ (JG (A2 rfl ⟨true,rfl,_,rfl,?_⟩))));rw[fb rfl];exact WG (AQ (JG (A2 rfl ⟨false,rfl,_,rfl,rfl⟩)))
inductive I_ends(ws:List Wg)(W:List 119)(h:Nat->Int)(ps:List Pc)(r:List D)(ls:Ls)(hd:Hd):Prop
 |mk (pre rest:List Pc) (left en:Nat->Int) (at_:Int) (z6 z7 z8 z9:Option D) (h0:r=rest.map pcD) (h1:ls=[some 125,some (.im 110),some (.im (.tup (ps.map pcI))),some (.mu 0),some (.mu 1),some (.im (.int at_)),z6,z7,z8,z9]) (h2:hd=[.lst (fl 65 left),.lst (fl 65 en)])
  (h3:ps=pre++rest) (h4:Bk.Inv 65 (AO ws) h W left en at_) (h5:∀k,k<65->left k=AO ws k-Bk.tot k pre) (h6:∀k,k<65->(∃q∈pre,q.1=k/\en k=q.2.2)∨∀q∈pre,q.1≠k) (h7:Bk.Row at_ rest):I_ends ws W h ps r ls hd
section
variable{cs:Nat->Cost}{rk:Nat->Nat}{h:Nat->Int}
def bf(E:Ev ws cs W rk h)(B:Brk h (AO ws) (chz cs W) (69 65) ps ss):Du.Pk 65 h (AO ws) W ps:=by
 have O:=E.bok B gZ;exact⟨λp hp=>by simpa using O.mem p hp,O.row 0 (λk hk=>(E.hb k (by simpa using hk)).1),λj hj=>O.tot j (by simpa using hj),λw hw p hp q hq e1 e2=>O.wis w hw (by simpa using (E.R.ins w hw).1) (by simpa using (E.R.ins w hw).2) p hp q hq e1 e2⟩
set_option maxHeartbeats 1000000 in
def bZ(E:Ev ws cs W rk h)(O:Du.Pk 65 h (AO ws) W ps):WF Fr [.im (AT ws),.im 110,.im (.tup (ps.map pcI))] [] λd x=>∃(left en:Nat->Int) (t:Int),d=.mu 1/\x=[.lst (fl 65 left),.lst (fl 65 en)]/\Bk.Inv 65 (AO ws) h W left en t/\(∀k,k<65->left k=0)/\∀k,k<65->∃q∈ps,q.1=k/\en k=q.2.2:=by
 have hn:=E.ok.2.1;have eln:(((ws.map wgI).map D.im).length:Int)=(ws.length:Int):=by simp
 unfold Fr;refine Ax rfl ?_;refine AD (BP (Gf (FP (JG (A2 rfl ⟨true,rfl,_,rfl,(λz=>by cases z),λ_=>Az (A6 ?_)⟩)))));refine AD (AS (Av (Ar (C3 (A2 rfl ⟨_,rfl,?_⟩)))));rw[<- BU];refine⟨AL 82,?_⟩;refine B8 (λw=>D.im (wgI w)) (λw=>some (.im (.int w.len))) (λ_ ls=>∃x,ls=[some x]) _ (AJ _) ?_ ?_
 .rintro w hw ls hls;refine⟨[some (.im (wgI w))],by rcases hls with rfl|⟨_,x,rfl⟩<;>rfl,⟨_,rfl⟩,C1 ⟨rfl,?_⟩⟩;rw[fb rfl];exact⟨_,rfl,AA (A2 rfl (AW (AG rfl (Cw _ _) ⟨rfl,rfl⟩)))⟩
 rw[Od E.ok];refine A6 ?_;refine AD (AS (Av (MJ (BZ (A4 (AW (A8 ⟨AL 70,?_⟩)))))));refine Bi (A4 (A2 rfl (A8 (Bh rfl rfl ⟨_,rfl,by simp;omega,AL 82,A6 ?_⟩))));rw[eln,gb,Kf];refine AD (AS (AW (A6 ?_)));refine AD (Bp (C3 (A2 rfl ⟨_,rfl,?_⟩)));rw[show(ps.map pcI).map D.im=ps.map pcD by simp];refine B7 (I_ends ws W h ps) ⟨[],ps,AO ws,λ_=>0,0,none,none,none,none,rfl,rfl,rfl,rfl,Bk.Inv.start (λp hp=>E.R.ins p hp) (λk _=>Bz ws k) (λk _=>rfl),λk _=>by simp[Bk.tot],λk _=>.inr 70,O.row⟩ ?_ ?_
 .rintro d r ls hd ⟨pre,rest,left,en,at_,z6,z7,z8,z9,er,rfl,rfl,eps,I,hleft,hen,row⟩;cases rest with
  |nil=>cases er
  |cons p rest=>
   obtain⟨rfl,rfl⟩:=133 er;obtain⟨k,b,e⟩:=p;have hp:(k,b,e)∈ps:=by rw[eps];simp
   have hk:k<ws.length:=(O.mem _ hp).1;have hkb:h k<=b:=(O.mem _ hp).2;have r1:at_<=b:=row.1;have r2:b<e:=row.2.1;have r3:Bk.Row e rest:=row.2.2;have rge:=r3.ge;have hcom:BD ws k<=b:=Int.le_trans (E.H.lo k hk) hkb;have tots:∀j,j<65->Bk.tot j pre+((if k=j then e-b else 0)+Bk.tot j rest)=AO ws j:=λj hj=>by
    have:=O.tot j hj;rw[eps,Bk.tot_app,Bk.tot]at this;exact this
   have fst0:∀w∈W,w.2=k->left w.1=0:=λw hw ew=>by
    have wn:=(E.R.ins w hw).1;have hq:∀q∈ps,q.1=w.1->q.2.2<=b:=λq hq eq=>O.wis w hw q hq _ hp eq ew.symm;have t1:=tots w.1 wn;rw[Bk.tot_none (a:=rest) λq hq' eq=>by
     have:=hq q (by rw[eps];simp[hq']) eq;have:=rge q hq';omega]at t1
    rw[fe λz:k=w.1=>by
     have:=hq _ hp z;have:e<=b:=this;omega]at t1
    rw[hleft w.1 wn];omega
   have mk:e-b<=left k:=by
    have t1:=tots k hk;rw[fb rfl]at t1;have:=Bk.tot_nn (k:=k) (a:=rest) λq hq=>(rge q hq).2;rw[hleft k hk];omega
   have st:=I.step E.hs hk r1 hcom fst0 (m:=e-b) 59 mk;rw[show b+(e-b)=e by omega]at st;refine⟨_,rfl,?_⟩;dsimp only[set_cons_zero,set_cons_succ];refine AD (BP (Dj (Gf (FP (JG (A2 rfl ⟨true,rfl,_,rfl,?_⟩))))));rw[fe 70];refine Dj (AQ (AA (Bi (A4 (A2 rfl (A8 (Bh rfl rfl (AW (JF ⟨_,rfl,?_⟩)))))))));rw[fe 70];refine AQ (Yo (AW (Ar (C3 (A2 rfl ⟨_,rfl,?_⟩)))));refine⟨DP,?_⟩;refine B8 (xs:=[(k:Int),b,e]) (λi:Int=>D.im 134) (λ_=>some (.im (.bl true))) (λ_ ls=>∃x,ls=[some x]) _ (AJ _) ?_ ?_
   .rintro i _ ls hls;refine⟨[some (.im 134)],by rcases hls with rfl|⟨_,x,rfl⟩<;>rfl,⟨_,rfl⟩,C1 ⟨rfl,?_⟩⟩;rw[fb rfl];refine⟨_,rfl,As (A4 (A2 rfl (A8 ⟨by simp,(V3 i).mono ?_⟩)))⟩;rintro d x rfl;exact⟨_,rfl,rfl,rfl⟩
   refine⟨_,.bl false,[.bl true,.bl true,.bl true],rfl,rfl,rfl,_,rfl,(λz=>by cases z),λ_=>Az (A6 ?_)⟩;refine AD (JD (A2 rfl ⟨_,rfl,A6 ?_⟩));refine AD (BP (Dj (Gf (AQ (T2 (AW (A2 rfl (Hb ⟨_,rfl,λ_=>?_,λz=>?_⟩))))))))
   rotate_left
   .exact absurd (il z) 59
   refine Bi (A4 (A2 rfl (A8 (Bh rfl rfl (Ha ⟨_,rfl,?_⟩)))));rw[eln,fe (by simp;exact hk)];refine Dj (AQ (AA (A2 rfl (A2 rfl (Ha ⟨_,rfl,?_⟩)))));rw[fe (by simp;exact r1)];refine Dj (AQ (AA (A2 rfl (A2 rfl (Hb ⟨_,rfl,?_⟩)))));rw[fe (by simp;exact r2)];refine AQ (AA (A2 rfl (AA (AA (A2 rfl (A2 rfl (AG (by rw[Cb,<- BU]) (DL hk) (AW (AG rfl (Ew _ _ _) (Ha ⟨_,rfl,(λz=>?_),λ_=>Az (A6 ?_)⟩))))))))))
   .have z:=gq z;simp[BD,hk]at hcom;dsimp only at z;omega
   refine AD (BP (AQ (T1 (Ar (C3 (A2 rfl ⟨_,rfl,?_⟩))))));rw[show(W.map AM).map D.im=W.map λp=>D.im (AM p) by simp];have hW:=E.hW;refine⟨AL 82,?_⟩;refine B8 (λp=>D.im (AM p)) (λ_=>none) (λ_ ls=>∃x y,ls=[some x,some y,some (.im 120),some (.mu 0),some (.mu 1),some (.im (.int b))]) _ (AJ _) ?_ ?_
   .rintro w hw ls hls;have wn:=(E.R.ins w hw).1;refine⟨[some (.im (.int (w.1:Int))),some (.im (.int (w.2:Int))),some (.im 120),some (.mu 0),some (.mu 1),some (.im (.int b))],by rcases hls with rfl|⟨_,x,y,rfl⟩<;>rfl,⟨_,_,rfl⟩,EV (AQ (AA (A2 rfl (A2 rfl (EX ⟨_,rfl,?_⟩)))))⟩;by_cases ew:w.2=k
    .rw[fb (by simp[ew])];have f0:=fst0 w hw ew;have lp:=Bz ws w.1;have et:=I.et w.1 wn 59;refine Dj (AQ (AA (AA (A2 rfl (A2 rfl (AG rfl (Ds left wn) (AW (Ft ⟨_,rfl,?_⟩))))))));rw[fe (by rw[f0];simp)];refine AQ (AA (AA (A2 rfl (A2 rfl (AG rfl (Ds en wn) (A2 rfl (Ft ⟨_,rfl,rfl,?_⟩)))))));rw[fe 82]
    .rw[fe 82];exact⟨rfl,by rw[fe 70]⟩
   have en0:(W.filterMap λ_=>(none:Option D))=intD []:=by simp[intD]
   rw[en0];refine⟨[],rfl,_,rfl,(λz=>by simp at z),λ_=>Az (A6 ?_)⟩;refine AD (DF (AA (AA (A2 rfl (A2 rfl (AG rfl (Ds left hk) (AA (A2 rfl (A2 rfl (FQ (FQ (A2 rfl (A2 rfl ⟨0,_,k,_,rfl,rfl,rfl,Jr left hk,A6 ?_⟩)))))))))))));rw[HJ];refine AD (DF (A2 rfl (A2 rfl (A2 rfl ⟨1,_,k,_,rfl,rfl,rfl,Jr en hk,A6 ?_⟩))));rw[HJ];refine AS (A2 rfl ⟨AJ _,pre++[(k,b,e)],rest,_,_,e,_,_,_,_,rfl,rfl,rfl,by rw[eps];simp,st,λj hj=>?_,λj hj=>?_,r3⟩)
   .rw[Bk.tot_app];have:=hleft j hj;by_cases ej:j=k
    .subst ej;rw[Bk.upd_self];simp[Bk.tot];omega
    .rw[Bk.upd_ne ej,this];simp only[Bk.tot];rw[fe λz:k=j=>ej z.symm];omega
   .by_cases ej:j=k
    .subst ej;rw[Bk.upd_self];exact .inl ⟨(j,b,e),by simp,rfl,rfl⟩
    .rw[Bk.upd_ne ej];rcases hen j hj with⟨q,hq,z⟩|z
     .exact .inl ⟨q,by simp[hq],z⟩
     .refine .inr λq hq=>?_;rcases mem_append.mp hq with y|y
      .exact z q y
      .rw[fO]at y;subst y;exact λz=>ej z.symm
 .rintro ls hd ⟨pre,rest,left,en,at_,z6,z7,z8,z9,er,rfl,rfl,eps,I,hleft,hen,row⟩;have:rest=[]:=by cases rest with
   |nil=>rfl
   |cons t r=>cases er
  subst this;rw[fY]at eps;subst eps;have l0:∀k,k<65->left k=0:=λk hk=>by
   rw[hleft k hk,O.tot k hk];omega
  refine A6 (B6 (Qe (AQ (Qf (A2 rfl (MJ (BZ (A4 (AW (A8 ⟨AL 70,?_⟩))))))))));refine Bi (A4 (A2 rfl (A8 (Bh rfl rfl ⟨_,rfl,by simp;omega,AL 82,?_⟩))));rw[eln,gb,Kf];refine⟨_,rfl,?_,_,rfl,λ_=>A2 rfl ⟨left,en,at_,rfl,rfl,I,l0,λk hk=>?_⟩,(λz=>by cases z)⟩
  .rw[VB l0];exact cL rfl
  .rcases hen k hk with z|z
   .exact z
   .have:=O.tot k hk;rw[Bk.tot_none z]at this;have:=Bz ws k;omega
end
def YI(h:ns≠[]):GC (intD ns)=some (.im (.int (Cg ns))):=by unfold GC;rw[DJ];simp[h]
section
variable{cs:Nat->Cost}{rk:Nat->Nat}{h:Nat->Int}
def bJ(E:Ev ws cs W rk h){en:Nat->Int}{j:Nat}(e:hd[j]?=some (.lst (fl 65 en))):WF Bx [.im (AT ws),.mu j] hd λd x=>d=.im (.int (gr ws cs en))/\x=hd:=by
 have hn:=E.ok.2.1;have h0:=E.ok.1;unfold Bx;refine Ax rfl ?_;have eln:(((ws.map wgI).map D.im).length:Int)=(ws.length:Int):=by simp
 refine B6 (C4 (Ar (IK (A4 (Bi (A4 (A2 rfl (A8 (Bh rfl rfl ?_)))))))));rw[eln];refine A8 ⟨_,rfl,Cm 59 59,?_⟩;rw[gb,CA];refine⟨AL (by simp[AK];omega),?_⟩;refine B8 (λk:Nat=>D.im 120) (λk=>some (.im (.int ((cs k).at (en k))))) (λ_ ls=>∃x,ls=[some x,some 125,some (.mu j)]) _ (AJ _) ?_ ?_
 .rintro k hk' ls hls;have hkn:k<ws.length:=by simpa using hk'
  refine⟨[some (.im 120),some 125,some (.mu j)],by rcases hls with rfl|⟨_,x,rfl⟩<;>rfl,⟨_,rfl⟩,C1 ⟨rfl,?_⟩⟩;rw[fb rfl];refine⟨_,rfl,As (A4 (AA (AA (A2 rfl (A2 rfl (AG (by rw[Cb,<- BU]) (DL hkn) (AW (AG rfl (Eu _ _ _ _) ?_))))))))⟩;rw[Hc E.hcs hkn];refine A4 (AA (A2 rfl (A2 rfl (AG (ds:=fl 65 en) (by simp[An,e]) (Ds en hkn) (A8 ⟨by simp,(Yh (E.hcs k hkn).2.1 _).mono ?_⟩)))));rintro d x rfl;exact⟨_,rfl,rfl,rfl⟩
 rw[EQ];refine⟨_,YI ?_,rfl,rfl⟩;intro z;have:=fS List.length z;rw[fN,length_range]at this;simp only[gE]at this;omega
end
open Bk (Pc upd)
def O5{i:Nat}{P:List Pc}(eh:hd[i]?=some (.lst (P.map pcD)))(hl:P.length<=100)(k:Nat)(b e:Int):WF D5 [.mu i,.im 120,.im (.int b),.im (.int e)] hd λd x=>d=.im .non/\x=hd.set i (.lst ((Du.addP P k b e).map pcD)):=by
 have tr:By hd (.mu i)=some (!(P.map pcD).isEmpty):=by simp only[By,eh]
 have sv:An hd (.mu i)=some (P.map pcD):=by simp[An,AV,Ac,eh]
 unfold D5;refine Ax rfl ?_;refine BP (EV (FP (A2 rfl ⟨_,tr,?_⟩)));have app:∀{Q:Fl->Hd->Prop},Q (.nx [some (.mu i),some (.im 120),some (.im (.int b)),some (.im (.int e))]) (hd.set i (.lst ((P++[(k,b,e)]).map pcD)))->WS (Aq (mMt Ad 77 (A1 (Ay (A1 139 (A1 144 (A1 (A0 3) A3)))) A3))) [some (.mu i),some (.im 120),some (.im (.int b)),some (.im (.int e))] hd Q:=λ{Q} q=>by
  refine C2 (EG (A2 rfl ⟨⟨_,by rw[Ho,eh]⟩,A4 (Bg (A4 (A2 rfl (A4 (A2 rfl (A4 (A2 rfl (A8 ⟨DP,A8 ?_⟩))))))))⟩));refine CK eh (B4 82) ?_;rw[show(P++[(k,b,e)]).map pcD=P.map pcD++[B0 [.im 120,.im (.int b),.im (.int e)]] by rw[gA];rfl]at q;exact q
 rcases Du.nil_or P with rfl|⟨P',p,rfl⟩
 .rw[fe 70];exact⟨(λh=>by cases h),λ_=>app ⟨rfl,rfl⟩⟩
 .rw[fb 70];rw[Du.addP_snoc];have la:atI ((P'++[p]).map pcD) (-1)=some (pcD p):=by rw[gA];exact JB _ _
  have gl:∀{j:Int} {v:D} {QE:D->Hd->Prop},atI [D.im (.int (p.1:Int)),.im (.int p.2.1),.im (.int p.2.2)] j=some v->QE v hd->WE (mOp gIx (mOp gIx 77 (EB 123)) (mC (.int j))) [some (.mu i),some (.im 120),some (.im (.int b)),some (.im (.int e))] hd QE:=λ{j v QE} ea q=>
   AA (AA (A2 rfl (Gh (AW ⟨_,rfl,AG (ds:=(P'++[p]).map pcD) sv la (AW (AG (ds:=[D.im (.int (p.1:Int)),.im (.int p.2.1),.im (.int p.2.2)]) rfl ea q))⟩))))
  refine EV (AQ (AA (gl (Cw _ _) (A2 rfl (EX ⟨_,rfl,?_⟩)))));by_cases h1:p.1=k
  .rw[fb (by simp[h1])];refine AQ (AA (gl (Eu _ _ _ _) (A2 rfl (EX ⟨_,rfl,λh2=>?_,λh2=>?_⟩))))
   .have h2:p.2.2=b:=by simpa using h2
    rw[fb ⟨h1,h2⟩];refine DF (Bg (A4 (A2 rfl (A4 (gl (Ew _ _ _) (A4 (A2 rfl (A8 ⟨DP,A2 rfl (Gh (AW ⟨_,rfl,?_⟩))⟩))))))));refine⟨i,-1,P'.length,(P'++[p]).map pcD,rfl,rfl,eh,?_,?_⟩
    .unfold ixN;rw[fe 90,fb 82]
     congr 1
     simp;omega
    .refine⟨rfl,?_⟩;rw[gA,gA];simp[B0,B2];rfl
   .have h2:¬ p.2.2=b:=by simpa using h2
    rw[fe (λh=>h2 h.2)];exact app ⟨rfl,rfl⟩
  .rw[fe 82,fe (λh=>h1 h.1)];exact⟨(λh=>by cases h),λ_=>app ⟨rfl,rfl⟩⟩
def W8{f:Int->Int->Int}{QS:Fl->Hd->Prop}(h:WE mo ls hd λd x=>WE mi ls x λi y=>∃n k ds j v,d=.mu n/\i=.im (.int k)/\y[n]?=some (.lst ds)/\ixN 83 k=some j/\ds[j]?=some (.im (.int v))/\WE me ls y λr z=>∃u ds',r=.im (.int u)/\z[n]?=some (.lst ds')/\ds'.length=83/\QS (.nx ls) (z.set n (.lst (ds'.set j (.im (.int (f v u))))))):WS (G6 mo mi me f) ls hd QS:=by
 obtain⟨d,x,e1,i,y,e2,n,k,ds,j,v,rfl,rfl,e3,e4,e5,r,z,e6,u,ds',rfl,e7,e8,q⟩:=h;refine⟨_,_,?_,q⟩;unfold G6;simp only[e1,bind_some,e2,e3,e4,e5,e6,e7,e8,fL]
def dP(p:Nat->Prop)[DecidablePred p](g:Nat->Int)(L:List Nat):(L.filterMap λk=>if p k then some (D.im (.int (g k)))else none)=intD ((L.filter λk=>decide (p k)).map g):=by
 induction L with
 |nil=>rfl
 |cons x r ih=>
  rw[gD,gK];by_cases h:p x
  .rw[fb h,fZ h,fb rfl,ih];rfl
  .rw[fe h,gh h,fe 70,ih]
noncomputable abbrev Lq(ws:List Wg)(h dd:Nat->Int)(t:Int)(z6 z7 z8:Option D):Ls:=[some 125,some (.im (.tup ((69 65).map λk=>.int (h k)))),some (.fv 1 (fl 65 dd)),some (.mu 0),some (.mu 1),some (.im (.int t)),z6,z7,z8]
noncomputable abbrev Hq(n:Nat)(lf:Nat->Int)(P:List Pc)(g:Hd):Hd:=.lst (fl n lf)::.lst (P.map pcD)::g
def hnG:(a::b::(g++[x]))[(a::b::g).length]?=some x:=by simp
def lvG:Ac (a::b::(g++[.lst ds])) (.mu (a::b::g).length)=some ds:=by simp[Ac]
noncomputable def kfD(dd:Nat->Int):D->Int×Int
 |.im (.int k)=>(dd k.toNat,k)
 |_=>(0,0)
def cf{n:Nat}{dd:Nat->Int}{k:Nat}{v:Int}(hk:k<n)(e0:∀QE:D->Hd->Prop,QE (.im (.int v)) hd->WP (gIx (.mu 0) (.im 120) hd) QE):(Ay (A1 (DN 139 (A1 77 (A1 (mOp gIx 144 77) A3))) (A1 77 A3))) [some (.im 120),some (.fv 1 (fl n dd)),some (.mu 0)] hd=some (.im (.tup [.int (dd k),.int (k:Int)]),hd):=by
 have w:WE (Ay (A1 (DN 139 (A1 77 (A1 (mOp gIx 144 77) A3))) (A1 77 A3))) [some (.im 120),some (.fv 1 (fl n dd)),some (.mu 0)] hd λd x=>d=.im (.tup [.int (dd k),.int (k:Int)])/\x=hd:=by
  refine Bg (A4 (Qg (A2 rfl ⟨rfl,A4 (A2 rfl (A4 (AA (A2 rfl (A2 rfl (e0 _ (A8 ⟨_,_,_,rfl,Ds dd hk,A4 (A2 rfl (A8 ⟨Fh,rfl,rfl⟩))⟩)))))))⟩)))
 obtain⟨d,x,e,rfl,rfl⟩:=w;exact e
open PySem L2 Bd Hds
open Bk (Pc upd)
abbrev cZ:MS:=(A5 (AE 6 (AU (Af 1 [3] (DE (A1 (mCB (f1 true BS) (A1 77 A3)) A3)) (AC 0) (A7 (mOp gGt (mOp gIx 139 77) 103)) 77)))
 (A5 (AE 5 (mCB D6 (A1 (A0 5) (A1 (B9 ED (Af 1 [1] (BI (A0 6)) (AC 0) C6 (mOp gIx 139 77))) A3))))
 (A5 (AE 7 (Eo (AU (Af 1 [1,5] (BI (A0 6)) (AC 0) (A7 (mOp gLe (mOp gIx 139 77) 144)) 77)) [2,3] (Ay (A1 (DN 139 (A1 77 (A1 (mOp gIx 144 77) A3))) (A1 77 A3)))))
 (A5 (AE 8 (B9 ED (G7 (AU (Ab (A1 (mOp Al (A0 5) (mOp gIx (A0 3) (A0 7))) A3))) (AU (Af 1 [1,5] (BI (A0 6)) (AC 0) (A7 (mOp gGt (mOp gIx 139 77) 144)) (mOp gIx 139 77))))))
 (A5 (Aq (Ba D5 (A1 (A0 4) (A1 (A0 7) (A1 (A0 5) (A1 (A0 8) A3))))))
 (A5 (G6 (A0 3) (A0 7) (mOp CD (A0 8) (A0 5)) (λi j=>i-j))
 (AE 5 (A0 8))))))))
set_option maxHeartbeats 2000000 in
def Yr{ws:List Wg}{h dd:Nat->Int}{lf:Nat->Int}{P:List Pc}{t:Int}(n8:65<=8)(pl:P.length<=16)(some1:∃j,j<65/\0<lf j){Q:Fl->Hd->Prop}
 (hQ:∀t' k s g z6 z7 z8,Du.Tn 65 h dd lf t t' k s->Q (.nx (Lq ws h dd s z6 z7 z8)) (Hq 65 (upd lf k (lf k-(s-t'))) (Du.addP P k t' s) g)):WS cZ (Lq ws h dd t z6 z7 z8) (Hq 65 lf P g) Q:=by
 obtain⟨j0,j0n,j00⟩:=some1
 -- undone
 refine AD (AS (Av (Ar (IK (A4 (Bi (A4 (A2 rfl (A8 (Bh (ds:=(ws.map wgI).map D.im) (z:=.im (.int (ws.length:Int))) rfl (by simp[BS]) (A8 ⟨_,rfl,Cm 59 59,?_⟩)))))))))));rw[gb,CA];refine⟨AL (by simp[AK];omega),?_⟩;refine B8 (xs:=69 65) (λk:Nat=>D.im 120) (λk=>if 0<lf k then some (.im 120)else none) (λ_ ls=>∃x,ls=[some x,some (.mu 0)]) _ (AJ _) ?_ ?_
 .rintro k hk ls hls;have hk:k<ws.length:=by simpa using hk
  refine⟨[some (.im 120),some (.mu 0)],by rcases hls with rfl|⟨_,x,rfl⟩<;>rfl,⟨_,rfl⟩,?_⟩;refine AQ (AA (AA (A2 rfl (A2 rfl (AG (ds:=fl 65 lf) rfl (Ds lf hk) (AW (Ft ⟨_,rfl,rfl,?_⟩)))))));by_cases h:0<lf k
  .rw[fb (by simpa using h),fb h];exact⟨_,rfl,A2 rfl ⟨rfl,rfl⟩⟩
  .rw[fe (by simpa using h),fe h]
 rw[Q7];refine A6 ?_;have hU:∀k,k∈(69 65).filter (λk=>decide (0<lf k))↔k<65/\0<lf k:=λk=>by simp
 have lU:((69 65).filter λk=>decide (0<lf k)).length<=8:=by
  have:((69 65).filter λk=>decide (0<lf k)).length<=(69 65).length:=gT _ _;simp at this;omega
 generalize (69 65).filter (λk=>decide (0<lf k))=U at hU lU;have jU:j0∈U:=(hU j0).mpr ⟨j0n,j00⟩;have neU:U≠[]:=λh=>by rw[h]at jU;cases jU
 change WS _ (Lq ws h dd t (some (.mu (Hq 65 lf P g).length)) z7 z8) (Hq 65 lf P (g++[.lst (AK U)])) _;have sh:∀y:Hd,An y (.im (.tup ((69 65).map λk=>.int (h k))))=some (((69 65).map λk=>I.int (h k)).map D.im):=λ_=>rfl
 -- t
 have ne1:U.map h≠[]:=by simpa using neU
 obtain⟨m1,m2⟩:=Bs ne1;refine AD (AS (Bi (A4 (A2 rfl (A4 (C4 (Ar (FG (A2 rfl ⟨_,AK U,rfl,hnG,AL (by simp[AK];omega),?_⟩)))))))));refine B8 (xs:=U) (λk:Nat=>D.im 120) (λk=>some (.im (.int (h k)))) (λ_ ls=>∃x,ls=[some x,some (.im (.tup ((69 65).map λk=>.int (h k))))]) _ (by intro p hp;rw[fO]at hp;subst hp;exact hnG) ?_ ?_
 .rintro k hk ls hls;refine⟨[some (.im 120),some (.im (.tup ((69 65).map λk=>.int (h k))))],by rcases hls with rfl|⟨_,x,rfl⟩<;>rfl,⟨_,rfl⟩,C1 ⟨rfl,?_⟩⟩;rw[fb rfl];exact⟨_,rfl,AA (A2 rfl (A2 rfl (AG (sh _) (ER h ((hU k).mp hk).1) ⟨rfl,rfl⟩)))⟩
 rw[EQ];refine⟨_,Ff ne1,A8 (HZ (A6 ?_))⟩;generalize CO (U.map h)=m at m1 m2;obtain⟨t',ht'⟩:∃t',t'=max t m:=⟨_,rfl⟩
 rw[<- ht'];have mU:∃j,j<65/\0<lf j/\h j=m:=by
  obtain⟨j,hj,e⟩:=mem_map.mp m1;exact⟨j,((hU j).mp hj).1,((hU j).mp hj).2,e⟩
 have mle:∀j,j<65->0<lf j->m<=h j:=λj h1 h2=>m2 _ (mem_map.mpr ⟨j,(hU j).mpr ⟨h1,h2⟩,rfl⟩);generalize ea6:(Hq 65 lf P g).length=a6;have ea6:a6=2+g.length:=by rw[<- ea6];simp;omega
 change WS _ (Lq ws h dd t' (some (.mu a6)) z7 z8) _ _;have h6:∀(lf':Nat->Int) (P':List Pc) (g':Hd),(Hq 65 lf' P' (g++.lst (AK U)::g'))[a6]?=some (.lst (AK U)):=λlf' P' g'=>by rw[ea6,show 2+g.length=g.length+2 by omega];simp
 -- the work
 refine AD (AS (T3 (Av (Ar (FG (A2 rfl ⟨_,AK U,rfl,h6 lf P [],AL (by simp[AK];omega),?_⟩))))));refine B8 (xs:=U) (λk:Nat=>D.im 120) (λk=>if h k<=t' then some (.im 120)else none) (λ_ ls=>∃x,ls=[some x,some (.im (.tup ((69 65).map λk=>.int (h k)))),some (.im (.int t'))]) _ (by intro p hp;rw[fO]at hp;subst hp;exact h6 lf P []) ?_ ?_
 .rintro k hk ls hls;refine⟨[some (.im 120),some (.im (.tup ((69 65).map λk=>.int (h k)))),some (.im (.int t'))],by rcases hls with rfl|⟨_,x,rfl⟩<;>rfl,⟨_,rfl⟩,?_⟩;refine AQ (AA (AA (A2 rfl (A2 rfl (AG (sh _) (ER h ((hU k).mp hk).1) (A2 rfl (Hb ⟨_,rfl,rfl,?_⟩)))))));by_cases c:h k<=t'
  .rw[fb (by simpa using c),fb c];exact⟨_,rfl,A2 rfl ⟨rfl,rfl⟩⟩
  .rw[fe (by simpa using c),fe c]
 rw[Q7];have hV:∀k,k∈U.filter (λk=>decide (h k<=t'))↔(k<65/\0<lf k)/\h k<=t':=λk=>by rw[mem_filter,hU];simp
 have neV:U.filter (λk=>decide (h k<=t'))≠[]:=λc=>by
  obtain⟨j,h1,h2,h3⟩:=mU;have:=(hV j).mpr ⟨⟨h1,h2⟩,by omega⟩;rw[c]at this;cases this
 generalize U.filter (λk=>decide (h k<=t'))=V at hV neV;cases V with
 |nil=>exact absurd rfl neV
 |cons v0 vs=>
 obtain⟨g2,eg2⟩:∃g2,g2=g++[.lst (AK U)]:=⟨_,rfl⟩
 rw[<- eg2];have h6':∀(lf':Nat->Int) (P':List Pc) (g':Hd),(Hq 65 lf' P' (g2++g'))[a6]?=some (.lst (AK U)):=λlf' P' g'=>by rw[eg2,gz];exact h6 lf' P' g'
 refine⟨D.im (.int (v0:Int)),AK vs,kfD dd,lvG,λy hy=>?_,?_⟩
 .have hy:y∈AK (v0::vs):=hy;obtain⟨k,hk,rfl⟩:=mem_map.mp hy;have hk:=((hV k).mp hk).1.1;simp only[kfD,gb];exact cf (v:=lf k) hk λQE q=>AG (ds:=fl 65 lf) rfl (Ds lf hk) q
 have bm:=HW (kfD dd) (AK vs) (D.im (.int (v0:Int)));generalize Ck (AK vs) ((AK vs).map (kfD dd)) (D.im (.int (v0:Int))) (kfD dd (D.im (.int (v0:Int))))=db at bm ⊢;obtain⟨b1,b2⟩:=bm;obtain⟨k,hk,rfl⟩:=mem_map.mp (show db∈AK (v0::vs)from b1);have km:∀j∈v0::vs,dd k<dd j∨dd k=dd j/\k<=j:=λj hj=>by
  have:=b2 (D.im (.int (j:Int))) (show _∈AK (v0::vs)from mem_map.mpr ⟨j,hj,rfl⟩);unfold leP ltZ at this;have:=il this;simp only[kfD,gb]at this;omega
 obtain⟨⟨kn,k0⟩,kc⟩:=(hV k).mp hk;refine A6 ?_;change WS _ (Lq ws h dd t' (some (.mu a6)) (some (.im 120)) z8) (Hq 65 lf P (g2++[.lst (AK (v0::vs))])) _;generalize AK (v0::vs)=vD;obtain⟨g3,eg3⟩:∃g3,g3=g2++[.lst vD]:=⟨_,rfl⟩
 rw[<- eg3];have h6a:∀(lf':Nat->Int) (P':List Pc) (g':Hd),(Hq 65 lf' P' (g3++g'))[a6]?=some (.lst (AK U)):=λlf' P' g'=>by rw[eg3,gz];exact h6' lf' P' _
 -- the stop
 refine AD (AS (C4 (MK (Av (BZ (A4 (AA (A2 rfl (AA (A2 rfl (A2 rfl (AG (ds:=fl 65 lf) rfl (Ds lf kn) (EY (A8 ⟨DQ,?_⟩))))))))))))));refine Av (Ar (FG (A2 rfl ⟨_,AK U,rfl,h6a lf P _,AL (by simp[AK];omega),?_⟩)));refine B8 (xs:=U) (λk:Nat=>D.im 120) (λk=>if t'<h k then some (.im (.int (h k)))else none) (λ_ ls=>∃x,ls=[some x,some (.im (.tup ((69 65).map λk=>.int (h k)))),some (.im (.int t'))]) _ (by intro p hp;rw[fO]at hp;subst hp;exact h6a lf P _) ?_ ?_
 .rintro j hj ls hls;refine⟨[some (.im (.int (j:Int))),some (.im (.tup ((69 65).map λk=>.int (h k)))),some (.im (.int t'))],by rcases hls with rfl|⟨_,x,rfl⟩<;>rfl,⟨_,rfl⟩,?_⟩;refine AQ (AA (AA (A2 rfl (A2 rfl (AG (sh _) (ER h ((hU j).mp hj).1) (A2 rfl (Ft ⟨_,rfl,rfl,?_⟩)))))));by_cases c:t'<h j
  .rw[fb (by simpa using c),fb c];exact⟨_,rfl,AA (A2 rfl (A2 rfl (AG (sh _) (ER h ((hU j).mp hj).1) ⟨rfl,rfl⟩)))⟩
  .rw[fe (by simpa using c),fe c]
 rw[dP];have hB:∀x,x∈(U.filter λk=>decide (t'<h k)).map h↔∃j,j<65/\0<lf j/\t'<h j/\h j=x:=λx=>by
  rw[mem_map];constructor
  .rintro⟨j,hj,e⟩;obtain⟨h1,h2⟩:=mem_filter.mp hj;exact⟨j,((hU j).mp h1).1,((hU j).mp h1).2,by simpa using h2,e⟩
  .rintro⟨j,h1,h2,h3,e⟩;exact⟨j,mem_filter.mpr ⟨(hU j).mpr ⟨h1,h2⟩,by simpa using h3⟩,e⟩
 have lB:((U.filter λk=>decide (t'<h k)).map h).length<=8:=by
  rw[fN];exact fu (gT _ _) lU
 generalize (U.filter λk=>decide (t'<h k)).map h=B at hB lB;have ne2:(t'+lf k)::B≠[]:=by simp
 obtain⟨s1,s2⟩:=Bs ne2;have lenB:(intD B).length<=8:=by simpa [intD]using lB
 refine⟨_,_,[.im (.int (t'+lf k))],intD B,rfl,rfl,(by rw[List.getElem?_append_left 70];simp),70,AL (by simp[intD];omega),?_⟩;refine⟨_,Ff ne2,A6 ?_⟩;generalize CO ((t'+lf k)::B)=s at s1 s2;have X:Du.Tn 65 h dd lf t t' k s:=by
  refine⟨by omega,λc j h1 h2=>by have:=mle j h1 h2;omega,kn,k0,kc,λj h1 h2 h3=>km j ((hV j).mpr ⟨⟨h1,h2⟩,h3⟩),?_,s2 _ 70,λj h1 h2 h3=>s2 _ (fj _ ((hB _).mpr ⟨j,h1,h2,h3,rfl⟩)),?_⟩
  .rcases mem_cons.mp s1 with e|e
   .omega
   .obtain⟨j,_,_,h3,e⟩:=(hB s).mp e;omega
  .rcases mem_cons.mp s1 with e|e
   .exact .inl e
   .obtain⟨j,h1,h2,h3,e⟩:=(hB s).mp e;exact .inr ⟨j,h1,h2,h3,e.symm⟩
 obtain⟨g4,eg4⟩:∃g4,g4=g3++[MO.lst [.im (.int (t'+lf k))],.lst (intD B)]:=⟨_,rfl⟩
 have eh:(Hq 65 lf P g3++[MO.lst [.im (.int (t'+lf k))]])++[MO.lst (intD B)]=Hq 65 lf P g4:=by rw[eg4];simp
 rw[eh];clear eh eg4;change WS _ (Lq ws h dd t' (some (.mu a6)) (some (.im 120)) (some (.im (.int s)))) (Hq 65 lf P g4) _;refine AD (C2 (CY (A4 (A2 rfl (A4 (A2 rfl (A4 (A2 rfl (A4 (A2 rfl (A8 ((O5 (P:=P) (i:=1) rfl 59 k t' s).mono ?_))))))))))));rintro d x ⟨rfl,rfl⟩;refine A6 ?_;change WS _ _ (Hq 65 lf (Du.addP P k t' s) g4) _;refine AD (W8 (A2 rfl (A2 rfl ⟨0,(k:Int),fl 65 lf,k,lf k,rfl,rfl,rfl,Jr lf kn,?_,AA (A2 rfl (A2 rfl (FQ ⟨_,fl 65 lf,rfl,rfl,rfl,A6 (AS (A2 rfl ?_))⟩)))⟩)))
 .simp[intD,kn]
 .rw[HJ];exact hQ t' k s g4 _ _ _ X
open PySem L2 Bd Hds
open Bk (Pc upd)
section
variable{cs:Nat->Cost}{rk:Nat->Nat}{h dd d:Nat->Int}
inductive I_rk(ws:List Wg)(h dd:Nat->Int)(W:List 119)(m:Nat)(ls:Ls)(hd:Hd):Prop
 |mk (lf:Nat->Int) (P:List Pc) (t:Int) (g:Hd) (z6 z7 z8:Option D) (em:m=Du.mu 65 h lf t) (el:ls=Lq ws h dd t z6 z7 z8) (eh:hd=Hq 65 lf P g) (S:Du.St 65 h (AO ws) dd W lf P t) (pl:P.length+m<=16):I_rk ws h dd W m ls hd
def Ev.wso(E:Ev ws cs W rk h):∀w∈W,w.1<65/\w.2<65/\h w.1+AO ws w.1<=h w.2:=λw hw=>⟨(E.R.ins w hw).1,(E.R.ins w hw).2,E.hs.st w hw⟩
def bj(n:Nat)(lf:Nat->Int)(h0:∀k,k<n->0<=lf k):Jo (fl n lf)=some (.im (.bl (decide (∃j,j<n/\0<lf j)))):=by
 unfold Jo;rw[DJ,fR]
 congr 3
 rw[Bool.eq_iff_iff];simp only[List.any_map,List.any_eq_true,mem_range,i5,Function.comp,bne_iff_ne];constructor
 .rintro⟨j,h1,h2⟩;exact⟨j,h1,by have:=h0 j h1;omega⟩
 .rintro⟨j,h1,h2⟩;exact⟨j,h1,by omega⟩
structure Dp(ws:List Wg)(h dd:Nat->Int)(W:List 119)(P:List Pc):Prop where
 ex:∃lf t,Du.St 65 h (AO ws) dd W lf P t/\∀j,j<65->lf j=0
 pk:Du.Pk 65 h (AO ws) W P
def U7(E:Ev ws cs W rk h)(hd:∀w∈W,dd w.1<=dd w.2-AO ws w.2):WF DB [.im (AT ws),.im (.tup ((69 65).map λk=>.int (h k))),.fv 1 (fl 65 dd)] [] λd _=>∃P:List Pc,d=.im (.tup (P.map pcI))/\Dp ws h dd W P:=by
 have n8:=E.ok.2.1;have hb:=E.hb;unfold DB;refine Ax rfl ?_;refine AD (AS (Av (Ar (C3 (A2 rfl ⟨_,rfl,?_⟩)))));rw[<- BU];refine⟨AL 82,?_⟩;refine B8 (λw=>D.im (wgI w)) (λw=>some (.im (.int w.len))) (λ_ ls=>∃x,ls=[some x]) _ (AJ _) ?_ ?_
 .rintro z hz ls hls;refine⟨[some (.im (wgI z))],by rcases hls with rfl|⟨_,x,rfl⟩<;>rfl,⟨_,rfl⟩,C1 ⟨rfl,?_⟩⟩;rw[fb rfl];exact⟨_,rfl,AA (A2 rfl (AW (AG rfl (Cw _ _) ⟨rfl,rfl⟩)))⟩
 rw[Od E.ok];refine A6 (AD (AS (Av (BZ (A8 ⟨E6,A6 ?_⟩)))));refine AD (AS (AW (A6 ?_)));change WS _ (Lq ws h dd 0 none none none) (Hq 65 (AO ws) [] []) _;have m0:=Du.mu_le 65 h (AO ws) 0;refine AD (M9 (I_rk ws h dd W) (n:=Du.mu 65 h (AO ws) 0) ⟨_,_,_,_,_,_,_,rfl,rfl,rfl,Du.St.start (λk _=>Bz ws k) (λk hk=>(hb k hk).1) (λw hw=>E.R.ins w hw),by simp;omega⟩ ?_);rintro m ls hdd ⟨lf,P,t,g,z6,z7,z8,em,rfl,rfl,S,pl⟩;refine FP (Bi (A4 (A2 rfl (A8 (Bh (ds:=fl 65 lf) rfl (bj 65 lf λk hk=>(S.lo k hk).1) ⟨_,rfl,?_⟩)))));by_cases c:∃j,j<65/\0<lf j
 .rw[fb (by simpa using c)];refine Yr n8 59 c λt' k s g z6 z7 z8 X=>?_;have m':=X.mu;obtain⟨S',l'⟩:=S.turn (λk _=>Bz ws k) E.wso hd X;exact⟨_,by rw[em];exact m',_,_,_,g,_,_,_,rfl,rfl,rfl,S',by omega⟩
 .rw[fe (by simpa using c)];have z:∀j,j<65->lf j=0:=λj hj=>by
   have:=(S.lo j hj).1;refine Classical.byContradiction λq=>c ⟨j,hj,by omega⟩
  refine A6 (B6 (Bi (A4 (A2 rfl (A8 (Bh (ds:=P.map pcD) (z:=.im (.tup (P.map pcI))) rfl ?_ ?_))))))
  .show some (B0 (P.map pcD))=_;rw[show P.map pcD=(P.map pcI).map D.im by simp,BX]
  .exact⟨P,rfl,⟨lf,t,S,z⟩,S.pk (λk hk=>(hb k hk).1) z⟩
def Fs(ws:List Wg)(cs:Nat->Cost)(d:Nat->Int):Prop:=∀k,k<65->cs k=.late (d k)
inductive I_to(ws:List Wg)(W:List 119)(rk:Nat->Nat)(d:Nat->Int)(r:List D)(ls:Ls)(hd:Hd):Prop
 |mk (v:Nat->Int) (t:Nat) (z3 z4 z5:Option D) (h0:t+r.length=65) (h1:ls=[some 125,some (.im 110),some (.mu 0),z3,z4,z5]) (h2:hd=[.lst (fl 65 v)]) (T:Du.Tu 65 (AO ws) d W rk v t):I_to ws W rk d r ls hd
inductive I_ti(ws:List Wg)(W:List 119)(rk:Nat->Nat)(d:Nat->Int)(t:Nat)(r:List D)(ls:Ls)(hd:Hd):Prop
 |mk (v:Nat->Int) (A R:List (Nat×Nat)) (z3 z4 z5:Option D) (h0:W=A++R) (h00:r=R.map λp=>D.im (AM p)) (h1:ls=[some 125,some (.im 110),some (.mu 0),z3,z4,z5]) (h2:hd=[.lst (fl 65 v)]) (T:Du.Ti 65 (AO ws) d W rk v t A):I_ti ws W rk d t r ls hd
def T9(E:Ev ws cs W rk h)(hl:Fs ws cs d):WF D9 [.im (AT ws),.im 110] [] λr x=>r=.mu 0/\∃v,x=[.lst (fl 65 v)]/\Du.Tu 65 (AO ws) d W rk v ws.length:=by
 have n8:=E.ok.2.1;have hW:=E.hW;unfold D9;refine Ax rfl ?_;refine AD (AS (Av (Ar (C3 (A2 rfl ⟨_,rfl,?_⟩)))));have e0:(ws.map wgI).map D.im=(69 65).map λk=>D.im (wgI (ws.getD k ⟨0,0,.non⟩)):=by
  refine List.ext_getElem 70 λi h1 h2=>?_;have hi:i<ws.length:=by simpa using h1
  simp[List.getD,hi]
 rw[e0];refine⟨AL 82,?_⟩;refine B8 (xs:=69 65) (λk=>D.im (wgI (ws.getD k ⟨0,0,.non⟩))) (λk=>some (.im (.int (d k)))) (λ_ ls=>∃x,ls=[some x]) _ (AJ _) ?_ ?_
 .rintro k hk ls hls;have hk:k<ws.length:=by simpa using hk
  refine⟨[some (.im (wgI (ws.getD k ⟨0,0,.non⟩)))],by rcases hls with rfl|⟨_,x,rfl⟩<;>rfl,⟨_,rfl⟩,C1 ⟨rfl,?_⟩⟩;rw[fb rfl];have e1:ws.getD k ⟨0,0,.non⟩=ws[k]:=by simp[List.getD,hk]
  have e2:(ws[k]).co=.tup [.str "late",.int (d k)]:=by rw[Hc E.hcs hk,hl k hk];rfl
  rw[e1];refine⟨_,rfl,AA (AA (A2 rfl (AW (AG rfl (Eu _ _ _ _) ?_))))⟩;rw[e2];exact AW (AG rfl (Ew _ _ _) ⟨rfl,rfl⟩)
 rw[EQ];refine A6 ?_;refine AD (Bp (C3 (A2 rfl ⟨_,rfl,?_⟩)));refine B7 (I_to ws W rk d) ⟨d,0,none,none,none,by simp,rfl,rfl,Du.Tu.start λw hw=>⟨E.R.lt w hw,E.hrk w.2 (E.R.ins w hw).2⟩⟩ ?_ ?_
 .rintro x r ls hd ⟨v,t,z3,z4,z5,ht,rfl,rfl,T⟩;simp only[fU]at ht;refine⟨_,rfl,?_⟩;dsimp only[set_cons_zero,set_cons_succ];refine Bp (C3 (A2 rfl ⟨_,rfl,?_⟩));rw[show(W.map AM).map D.im=W.map λp=>D.im (AM p) by rw[fM];rfl];refine B7 (I_ti ws W rk d t) ⟨v,[],W,_,_,_,rfl,rfl,rfl,rfl,T,by simp⟩ ?_ ?_
  .rintro y r2 ls hd ⟨v,A,R,z3,z4,z5,eW,er,rfl,rfl,I⟩;cases R with
   |nil=>cases er
   |cons q R=>
    obtain⟨rfl,rfl⟩:=133 er;have hq:q∈W:=by rw[eW];simp
    have qn:=E.R.ins q hq;have st:=I.step (λw hw=>⟨E.R.ins w hw,E.R.lt w hw⟩) (λw hw=>by rw[eW];simp[hw]) hq;refine⟨[some 125,some (.im 110),some (.mu 0),z3,some (.im (.int (q.1:Int))),some (.im (.int (q.2:Int)))],rfl,?_⟩;refine DF (Bi (A4 (AA (A2 rfl (A2 rfl (AG (ds:=fl 65 v) rfl (Ds v qn.1) (A4 (AA (AA (A2 rfl (A2 rfl (AG (ds:=fl 65 v) rfl (Ds v qn.2) ?_))))))))))));refine AA (AA (A2 rfl (A2 rfl (AG (by rw[Cb,<- BU]) (DL qn.2) (AW (AG rfl (Cw _ _) (FQ (A8 (K8 ?_)))))))));refine A2 rfl (A2 rfl ⟨0,_,q.1,_,rfl,rfl,rfl,Jr v qn.1,?_⟩);rw[HJ,Gg qn.2,<- Dh E.ok qn.2];exact⟨AJ _,_,A++[q],R,_,_,_,by rw[eW];simp,rfl,rfl,rfl,st⟩
  .rintro ls hd ⟨v,A,R,z3,z4,z5,eW,er,rfl,rfl,I⟩;have:R=[]:=by cases R with
    |nil=>rfl
    |cons t r=>cases er
   subst this;rw[fY]at eW;subst eW;exact⟨AJ _,v,t+1,_,_,_,by omega,rfl,rfl,I.next⟩
 .rintro ls hd ⟨v,t,z3,z4,z5,ht,rfl,rfl,T⟩;simp only[gE,Nat.add_zero]at ht;subst ht;exact A6 (B6 (A2 rfl ⟨rfl,v,rfl,T⟩))
end
open PySem L2 Bd Hds
def WC{is js:List I}{QE:D->Hd->Prop}(h1:is.length+js.length<=100)(q:QE (.im (.tup (is++js))) hd):WP (Q6 (.im (.tup is)) (.im (.tup js)) hd) QE:=by
 by_cases h0:is=[]
 .subst h0;refine WP.eq (z:=.im (.tup js)) (h:=hd) ?_ q;show(match Al (.im (.tup [])) (.im (.tup js)) hd with|some z=>some z|none=>Hv (.im (.tup [])) (.im (.tup js)) hd)=_;have e:Al (.im (.tup [])) (.im (.tup js)) hd=none:=by
   show(match Ke (.im (.tup [])) (.im (.tup js)) hd with|some z=>some z|none=>GJ (.im (.tup [])) (.im (.tup js)) hd)=_;rw[show Ke (.im (.tup [])) (.im (.tup js)) hd=none from rfl];unfold GJ;rw[show AV (.im (.tup []))=some []from rfl,show AV (.im (.tup js))=some (js.map D.im)from rfl,bind_some,bind_some,fe (λz=>z.1 rfl)]
  rw[e];unfold Hv;rw[show AV (.im (.tup []))=some []from rfl,show AV (.im (.tup js))=some (js.map D.im)from rfl,bind_some,bind_some,fb rfl,BX]
 .obtain⟨d,x,e,q⟩:=O8 (QE:=QE) h0 h1 q;refine⟨d,x,?_,q⟩;show(match Al (.im (.tup is)) (.im (.tup js)) hd with|some z=>some z|none=>Hv (.im (.tup is)) (.im (.tup js)) hd)=_;rw[e]
noncomputable def okK(W:List 119)(row:List Nat)(k:Nat):Bool:=decide (k∉row)&&decide (∀p∈W,p.2=k->p.1∈row)
noncomputable def HL(n:Nat)(W:List 119)(row:List Nat):List (List Nat):=((69 n).filter (okK W row)).map λk=>row++[k]
noncomputable def Sn(n:Nat)(W:List 119):Nat->List (List Nat)
 |0=>[[]]
 |t+1=>(Sn n W t).flatMap (HL n W)
section
variable{n:Nat}{W:List 119}
def Oe(L:List (List Nat)):(L.flatMap (HL n W)).length<=L.length*n:=by
 induction L with
 |nil=>simp
 |cons x r ih=>
  rw[List.flatMap_cons,fV,fU,Nat.succ_mul];have:(HL n W x).length<=n:=by
   unfold HL;rw[fN];exact fu (gT _ _) 70
  omega
theorem So(h5:n<=5):∀t,(Sn n W t).length<=5^t
 |0=>by simp[Sn]
 |t+1=>by
  have h1:=Oe (n:=n) (W:=W) (Sn n W t);have h2:=So h5 t;have h3:=Nat.mul_le_mul h2 h5;rw[Nat.pow_succ];exact fu h1 h3
def W3(h5:n<=5){t:Nat}(ht:t<=5):(Sn n W t).length<=3125:=fu (So h5 t) (fu (Nat.pow_le_pow_right 90 ht) 90)
theorem K3:∀t row,row∈Sn n W t->row.length=t/\row.Nodup/\(∀k∈row,k<n)/\∀a k r,row=a++k::r->∀p∈W,p.2=k->p.1∈a
 |0,row,h=>by
  have:row=[]:=by simpa [Sn]using h
  subst this;simp
 |t+1,row,h=>by
  obtain⟨r,hr,h⟩:=List.mem_flatMap.mp h;obtain⟨k,hk,rfl⟩:=mem_map.mp h;obtain⟨hk1,hk2⟩:=mem_filter.mp hk;obtain⟨g1,g2,g3,g4⟩:=K3 t r hr;unfold okK at hk2;rw[Bool.and_eq_true]at hk2;have c1:k∉r:=gq hk2.1;have c2:∀p∈W,p.2=k->p.1∈r:=gq hk2.2;refine⟨by simp[g1],?_,?_,λa x y e=>?_⟩
  .rw[nodup_append];exact⟨g2,by simp,λa ha b hb=>by rw[fO]at hb;subst hb;exact λz=>c1 (z ▸ ha)⟩
  .intro x hx;rcases mem_append.mp hx with q|q
   .exact g3 x q
   .rw[fO]at q;subst q;simpa using hk1
  .rcases List.eq_nil_or_concat y with rfl|⟨y',z,rfl⟩
   .obtain⟨rfl,e2⟩:=List.append_inj' e rfl;cases e2;exact c2
   .rw[List.concat_eq_append,<- gJ,<- gz]at e;obtain⟨rfl,_⟩:=List.append_inj' e rfl;exact g4 a x y' rfl
def S3{n:Nat}{o:List Nat}(nd:o.Nodup)(lt:∀k∈o,k<n)(hl:o.length=n):∀k,k<n->k∈o:=λk hk=>Classical.byContradiction λz=>by
 have:=Du.nd_len (l:=k::o) (L:=69 n) (nodup_cons.mpr ⟨z,nd⟩) λx hx=>by
  rcases mem_cons.mp hx with rfl|q
  .simpa using hk
  .simpa using lt x q
 simp at this;omega
theorem W2{rk:Nat->Nat}(R:Rk (λk=>k<n) W rk):∀t,t<=n->Sn n W t≠[]
 |0,_=>by simp[Sn]
 |t+1,ht=>by
  have ih:=W2 R t 59;obtain⟨r,hr⟩:=List.exists_mem_of_ne_nil _ ih;obtain⟨g1,g2,g3,g4⟩:=K3 t r hr;have ne:((69 n).filter λk=>decide (k∉r))≠[]:=λz=>by
   have:=Du.nd_len (l:=69 n) (L:=r) gZ λx hx=>Classical.byContradiction λq=>by
    have:x∈(69 n).filter λk=>decide (k∉r):=mem_filter.mpr ⟨hx,fZ q⟩;rw[z]at this;cases this
   simp at this;omega
  obtain⟨u,hu,hm⟩:=Bk.arg_maxI (λk=>-(rk k:Int)) _ ne;obtain⟨u1,u2⟩:=mem_filter.mp hu;have u2:u∉r:=gq u2;have ok:okK W r u=true:=by
   unfold okK;rw[Bool.and_eq_true];refine⟨fZ u2,fZ λp hp e=>Classical.byContradiction λq=>?_⟩;have h1:=hm p.1 (mem_filter.mpr ⟨by simpa using (R.ins p hp).1,fZ q⟩);have h2:=R.lt p hp;rw[e]at h2
   try dsimp only at h1
   omega
  exact gR (List.mem_flatMap.mpr ⟨r,hr,mem_map.mpr ⟨u,mem_filter.mpr ⟨u1,ok⟩,rfl⟩⟩)
def SO(row:List Nat)(k:Nat):(W.filterMap λp:Nat×Nat=>if p.2=k/\p.1∉row then some (D.im (.int (p.1:Int)))else none)=intD ((W.filter λp=>decide (p.2=k/\p.1∉row)).map λp:Nat×Nat=>(p.1:Int)):=by
 induction W with
 |nil=>rfl
 |cons p r ih=>
  by_cases h:p.2=k/\p.1∉row
  .rw[gD,fb h,ih,gK,fb (fZ h)];rfl
  .rw[gD,fe h,ih,gK,fe (by simpa using h)]
def VC(row:List Nat)(k:Nat):(((W.filter λp=>decide (p.2=k/\p.1∉row)).map λp:Nat×Nat=>(p.1:Int))=[])↔∀p∈W,p.2=k->p.1∈row:=by
 rw[List.map_eq_nil_iff,List.filter_eq_nil_iff];constructor
 .intro h p hp e;refine Classical.byContradiction λz=>h p hp (fZ ⟨e,z⟩)
 .intro h p hp z;have z:=gq z;exact z.2 (h p hp z.1)
end
open PySem L2 Bd Hds
section
variable{n:Nat}
abbrev lsO(n:Nat)(W:List 119)(t:Nat)(z3 z4 z5 z6 z7:Option D):Ls:=[some (.im (.int (n:Int))),some (.im 110),some (.mu t),z3,z4,z5,z6,z7]
inductive I_in(n:Nat)(W:List 119)(t:Nat)(pre:Hd)(acc:List (List Nat))(row:List Nat)(r:List D)(ls:Ls)(hd:Hd):Prop
 |mk (dn rest:List Nat) (z3 z6 z7:Option D) (h0:List.range n=dn++rest) (h1:r=AK rest) (h2:ls=lsO n W t z3 (some (.mu (t+1))) (some (AI row)) z6 z7) (h3:hd=pre++[.lst ((acc++(dn.filter (okK W row)).map λk=>row++[k]).map AI)]):I_in n W t pre acc row r ls hd
inductive I_mid(n:Nat)(W:List 119)(t:Nat)(pre:Hd)(S:List (List Nat))(r:List D)(ls:Ls)(hd:Hd):Prop
 |mk (dn rest:List (List Nat)) (z3 z5 z6 z7:Option D) (h0:S=dn++rest) (h1:r=rest.map AI) (h2:ls=lsO n W t z3 (some (.mu (t+1))) z5 z6 z7) (h3:hd=pre++[.lst ((dn.flatMap (HL n W)).map AI)]):I_mid n W t pre S r ls hd
inductive I_out(n:Nat)(W:List 119)(r:List D)(ls:Ls)(hd:Hd):Prop
 |mk (t:Nat) (pre:Hd) (z3 z4 z5 z6 z7:Option D) (h0:t+r.length=n) (h2:ls=lsO n W t z3 z4 z5 z6 z7) (h3:hd=pre++[.lst ((Sn n W t).map AI)]) (h4:pre.length=t) (h5:∀w,pre.all (clO w)=true):I_out n W r ls hd
def Om(w:Nat)(S:List (List Nat)):clO w (.lst (S.map AI))=true:=Fo w Ae S
def WY{pr:Hd}{j:Nat}(h:pr.length=j):(pr++[a]++[b]).set j x=pr++[x]++[b]:=by
 subst h
 induction pr with
 |nil=>rfl
 |cons y r ih=>exact fS (y::·) ih
def KC{t:Nat}{pr:Hd}{k:Nat}{lon:List (List Nat)}{Q:Fl->Hd->Prop}(hl1:pr.length=t+1)(hpc1:∀w,pr.all (clO w)=true)(q:Q (.nx (lsO n W t (JI (t+2) z3) (some (.mu (t+1))) (some (AI row)) (some (.im 120)) (JI (t+2) z7))) (pr++[.lst (lon.map AI)])):
 ((pr++[MO.lst (lon.map AI)]++g).take (t+2)).all (clO (t+2))=true/\∃f',Ez (t+2) (.nx (lsO n W t z3 (some (.mu (t+1))) (some (AI row)) (some (.im 120)) z7))=some f'/\Q f' ((pr++[MO.lst (lon.map AI)]++g).take (t+2)):=by
 have hlen:(pr++[MO.lst (lon.map AI)]).length=t+2:=by simp[hl1]
 rw[List.take_left' hlen];refine⟨?_,_,?_,q⟩
 .rw[List.all_append,hpc1];simp only[all_cons,List.all_nil,Om,Bool.and_self]
 .show some (Fl.nx (Ey _ _))=_;rw[TB];simp only[fq,gj];have m1:clD (t+2) (.mu t)=true:=by simp[clD]
  have m2:clD (t+2) (.mu (t+1))=true:=by simp[clD]
  rw[Db (d:=.im (.int (n:Int))) rfl,Db (d:=.im 110) rfl,Db m1,Db m2,Db (d:=AI row) rfl,Db (d:=.im 120) rfl]
def Uo(h5:n<=5)(hW:W.length<=16):WF GX [.im (.int (n:Int)),.im 110] [] λd x=>d=.mu n/\x[n]?=some (.lst ((Sn n W n).map AI)):=by
 unfold GX;refine Ax rfl ?_;refine AD (AS (Av (BZ (A4 (Bg (A8 ⟨AL 70,A8 ⟨AL 70,A6 ?_⟩⟩))))));refine AD (Bp (IK (A4 (A2 rfl (A8 ⟨_,rfl,Cm 59 59,?_⟩)))));rw[gb,CA];refine B7 (I_out n W) ⟨0,[],none,none,none,none,none,by simp[AK],rfl,rfl,rfl,λ_=>rfl⟩ ?_ ?_
 .rintro d r ls hd ⟨t,pre,z3,z4,z5,z6,z7,ht,rfl,rfl,hpl,hpc⟩;simp only[fU]at ht;have hSl:=W3 (W:=W) h5 (t:=t) 59;have hmem:=K3 (n:=n) (W:=W) t;generalize hS:Sn n W t=S at hSl hmem;refine⟨lsO n W t (some d) z4 z5 z6 z7,rfl,?_⟩;refine AD (AS (Av (BZ (A8 ⟨AL 70,A6 ?_⟩))));have hl1:(pre++[MO.lst (S.map AI)]).length=t+1:=by simp[hpl]
  rw[hl1];change WS _ (lsO n W t (some d) (some (.mu (t+1))) z5 z6 z7) _ _;have hg:(pre++[MO.lst (S.map AI)])[t]?=some (.lst (S.map AI)):=by
   rw[List.getElem?_append_right 59,hpl,sub_self];rfl
  have hpc1:∀w,(pre++[MO.lst (S.map AI)]).all (clO w)=true:=λw=>by
   rw[List.all_append,hpc w];simp only[all_cons,List.all_nil,Om,Bool.and_self]
  generalize hq:pre++[MO.lst (S.map AI)]=pr at hl1 hg hpc1;have gk:∀g,GOk (pr++g) [(t,S.map AI)]:=λg q hq=>by
   rw[fO]at hq;subst hq;exact Ex hg g
  refine AD (Bp (FG (A2 rfl ⟨t,S.map AI,rfl,Ex hg _,?_⟩)));refine B7 (I_mid n W t pr S) ⟨[],S,some d,z5,z6,z7,rfl,rfl,rfl,rfl⟩ ?_ ?_
  .rintro d2 r2 ls hd ⟨dn,rest,z3,z5,z6,z7,e1,er,rfl,rfl⟩;cases rest with
   |nil=>cases er
   |cons row rest=>
    obtain⟨rfl,rfl⟩:=133 er;obtain⟨rl,_,rlt,_⟩:=hmem row (by rw[e1];simp);have hacc:=Oe (n:=n) (W:=W) dn;have hdn:dn.length<=3125:=by have:=fS List.length e1;simp at this;omega
    have hacc:(dn.flatMap (HL n W)).length<=15625:=fu hacc (fu (Nat.mul_le_mul hdn h5) 90);generalize hA:dn.flatMap (HL n W)=acc at hacc;refine⟨lsO n W t z3 (some (.mu (t+1))) (some (AI row)) z6 z7,rfl,?_⟩;refine Bp (IK (A4 (A2 rfl (A8 ⟨_,rfl,Cm 59 59,?_⟩))));rw[gb,CA];refine B7 (I_in n W t pr acc row) ⟨[],69 n,z3,z6,z7,rfl,rfl,rfl,by simp⟩ ?_ ?_
    .rintro d3 r3 ls hd ⟨dk,rk,z3,z6,z7,f1,fr,rfl,rfl⟩;cases rk with
     |nil=>cases fr
     |cons k rk=>
      obtain⟨rfl,rfl⟩:=133 fr;have hdk:dk.length<=5:=by have:=fS List.length f1;simp at this;omega
      have hlon:(acc++(dk.filter (okK W row)).map λk=>row++[k]).length<=15630:=by
       rw[fV,fN];have:=gT (okK W row) dk;omega
      generalize hL:(acc++(dk.filter (okK W row)).map λk=>row++[k])=lon at hlon;refine⟨lsO n W t z3 (some (.mu (t+1))) (some (AI row)) (some (.im 120)) z7,rfl,?_⟩;have hlen:(pr++[MO.lst (lon.map AI)]).length=t+2:=by simp[hl1]
      have e7:(pr++[MO.lst (lon.map AI)])[t+1]?=some (.lst (lon.map AI)):=by
       rw[List.getElem?_append_right 59,hl1,sub_self];rfl
      have ein:∀x:Hd,An x (AI row)=some (intD (row.map λk:Nat=>(k:Int))):=λx=>by
       rw[Cb,Co,bI]
      have mi:∀j:Nat,(j:Int)∈row.map (λk:Nat=>(k:Int))↔j∈row:=λj=>by
       constructor
       .intro h;obtain⟨i,hi,e⟩:=mem_map.mp h;have:i=j:=by omega
        exact this ▸ hi
       .intro h;exact mem_map.mpr ⟨j,h,rfl⟩
      refine II ?_;rw[hlen];refine AD (AS (Av (Ar (C3 (A2 rfl ⟨_,rfl,?_⟩)))));rw[show(W.map AM).map D.im=W.map (λp=>D.im (AM p)) by rw[fM];rfl];refine⟨AL 82,?_⟩;refine B8 (λp:Nat×Nat=>D.im (AM p)) (λp=>if p.2=k/\p.1∉row then some (.im (.int (p.1:Int)))else none) (λ_ ls=>∃x y,ls=[some x,some y,some (.im 120),some (AI row)]) _ (AJ _) ?_ ?_
      .rintro p hp ls hls;refine⟨[some (.im (.int (p.1:Int))),some (.im (.int (p.2:Int))),some (.im 120),some (AI row)],by rcases hls with rfl|⟨_,x,y,rfl⟩<;>rfl,⟨_,_,rfl⟩,EV (AQ (AA (A2 rfl (A2 rfl (EX ⟨_,rfl,?_⟩)))))⟩;by_cases h:p.2=k
       .rw[fb (by simp[h])];refine AQ (AA (A2 rfl (A2 rfl (MB (ein _) ⟨_,rfl,rfl,?_⟩))));by_cases h2:p.1∈row
        .rw[fe (by rw[fb rfl,fZ ((mi _).mpr h2)];decide)];simp[h2]
        .rw[fb (by rw[fb rfl,Bool.not_eq_true'];exact gh (λz=>h2 ((mi _).mp z)))];exact⟨_,fb ⟨h,h2⟩,A2 rfl ⟨rfl,rfl⟩⟩
       .rw[fe 82];refine⟨rfl,?_⟩;rw[fe Bool.false_ne_true];simp[h]
      rw[SO,hlen];refine A6 ?_;have fok:=VC (W:=W) row k;generalize ((W.filter λp=>decide (p.2=k/\p.1∉row)).map λp:Nat×Nat=>(p.1:Int))=es at fok;change WS _ (lsO n W t z3 (some (.mu (t+1))) (some (AI row)) (some (.im 120)) (some (.mu (t+2)))) _ _;have e8:(pr++[MO.lst (lon.map AI)]++[MO.lst (intD es)])[t+2]?=some (.lst (intD es)):=by
       rw[List.getElem?_append_right 59,hlen,sub_self];rfl
      have e9:pyD (pr++[MO.lst (lon.map AI)]++[MO.lst (intD es)]) (.mu (t+2))=some (.list (es.map PyData.int)):=by
       simp only[pyD,e8];simp[intD,Cr,DD]
      have no:okK W row k=false->(acc++((dk++[k]).filter (okK W row)).map λk=>row++[k])=lon:=λh=>by
       rw[<- hL,filter_append];simp[h]
      have yes:okK W row k=true->(acc++((dk++[k]).filter (okK W row)).map λk=>row++[k])=lon++[row++[k]]:=λh=>by
       rw[<- hL,filter_append];simp[h]
      have f1':69 n=(dk++[k])++rk:=by rw[f1];simp
      refine BP (EV (AQ (AA (A2 rfl (A2 rfl (MB (ein _) ⟨_,rfl,?_⟩))))));by_cases h1:k∈row
      .rw[fe (by rw[fb rfl,fZ ((mi _).mpr h1)];decide)];refine⟨λh=>(by cases h),λ_=>Az (KC hl1 hpc1 ?_)⟩;refine⟨AJ _,dk++[k],rk,_,_,_,f1',rfl,rfl,?_⟩;rw[no (by simp[okK,h1])]
      .rw[fb (by rw[fb rfl,Bool.not_eq_true'];exact gh (λz=>h1 ((mi _).mp z)))];refine AQ (IL (A2 rfl ⟨es,e9,_,rfl,λh=>?_,λh=>?_⟩))
       .have h:es=[]:=by simpa using h
        have hk:okK W row k=true:=by
         unfold okK;rw[Bool.and_eq_true];exact⟨fZ h1,fZ (fok.mp h)⟩
        refine C2 (EG (A2 rfl ⟨⟨lon.map AI,by simp only[Ac,Ex e7]⟩,A4 (AA (A2 rfl (Bg (A4 (A2 rfl (A8 ⟨AL 70,?_⟩))))))⟩));refine WC (is:=row.map λk:Nat=>I.int (k:Int)) (js:=[.int (k:Int)]) 82 (A8 (CK (Ex e7 _) (B4 82) ?_));have eset:(pr++[MO.lst (lon.map AI)]++[MO.lst (intD es)]).set (t+1) (.lst (lon.map AI++[.im (.tup ((row.map λk:Nat=>I.int (k:Int))++[.int (k:Int)]))]))=pr++[MO.lst ((lon++[row++[k]]).map AI)]++[MO.lst (intD es)]:=by
         rw[WY hl1];simp
        rw[eset];refine KC hl1 hpc1 ?_;refine⟨AJ _,dk++[k],rk,_,_,_,f1',rfl,rfl,?_⟩;rw[yes hk]
       .have h:es≠[]:=by simpa using h
        refine Az (KC hl1 hpc1 ?_);refine⟨AJ _,dk++[k],rk,_,_,_,f1',rfl,rfl,?_⟩;rw[no ?_];unfold okK;rw[Bool.and_eq_false_iff];exact .inr (gh λz=>h (fok.mpr z))
    .rintro ls hd ⟨dk,rk,z3,z6,z7,f1,fr,rfl,rfl⟩;have:rk=[]:=by cases rk with
      |nil=>rfl
      |cons t r=>cases fr
     subst this;rw[fY]at f1;subst f1;refine⟨gk _,dn++[row],rest,_,_,_,_,by rw[e1];simp,rfl,rfl,?_⟩;rw[List.flatMap_append,hA];simp[HL]
  .rintro ls hd ⟨dn,rest,z3,z5,z6,z7,e1,er,rfl,rfl⟩;have:rest=[]:=by cases rest with
    |nil=>rfl
    |cons t r=>cases er
   subst this;rw[fY]at e1;subst e1;refine A6 (AS (A2 rfl ⟨AJ _,t+1,pr,_,_,_,_,_,by omega,rfl,?_,hl1,hpc1⟩));rw[Sn,hS]
 .rintro ls hd ⟨t,pre,z3,z4,z5,z6,z7,ht,rfl,rfl,hpl,hpc⟩;simp only[gE,Nat.add_zero]at ht;subst ht;refine A6 (B6 (A2 rfl ⟨rfl,?_⟩));rw[List.getElem?_append_right 59,hpl,sub_self];rfl
end
open PySem L2 Bd Hds
open Bk (Pc upd)
section
variable{cs:Nat->Cost}{rk:Nat->Nat}{h dd d:Nat->Int}
structure Run(ws:List Wg)(W:List 119)(h en:Nat->Int):Prop where
 ex:∃left t,Du.Wr 65 (AO ws) h W left en t/\∀k,k<65->left k=0
inductive I_rn(ws:List Wg)(W:List 119)(h:Nat->Int)(o:List Nat)(r:List D)(ls:Ls)(hd:Hd):Prop
 |mk (pre rest:List Nat) (left en:Nat->Int) (t:Int) (z4:Option D) (h0:o=pre++rest) (h1:r=AK rest) (h2:ls=[some 125,some (AI o),some (.mu 0),some (.im (.int t)),z4]) (h3:hd=[.lst (fl 65 en)]) (h4:Du.Wr 65 (AO ws) h W left en t) (h5:∀k,k<65->left k=if k∈pre then 0 else AO ws k):I_rn ws W h o r ls hd
def c5(E:Ev ws cs W rk h)(ho:o∈Sn 65 W 65):WF DW [.im (AT ws),AI o] [] λd x=>d=.mu 0/\∃en,x=[.lst (fl 65 en)]/\Run ws W h en:=by
 have hn:=E.ok.2.1;obtain⟨ol,nd,lt,fr⟩:=K3 _ _ ho;have all:=S3 nd lt ol;have eln:(((ws.map wgI).map D.im).length:Int)=(ws.length:Int):=by simp
 unfold DW;refine Ax rfl ?_;refine AD (AS (Av (MJ (BZ (A4 (AW (A8 ⟨AL 70,?_⟩)))))));refine Bi (A4 (A2 rfl (A8 (Bh rfl rfl ⟨_,rfl,by simp;omega,AL 82,A6 ?_⟩))));rw[eln,gb,Kf];refine AD (AS (AW (A6 ?_)));refine AD (Bp (C3 (A2 rfl ⟨_,rfl,?_⟩)));rw[show(o.map λk:Nat=>I.int (k:Int)).map D.im=AK o from Co o];refine B7 (I_rn ws W h o) ⟨[],o,AO ws,λ_=>0,0,none,rfl,rfl,rfl,rfl,⟨Bk.Inv.start (λp hp=>E.R.ins p hp) (λk _=>Bz ws k) λ_ _=>rfl,λk _=>.inl rfl,λw _ q=>by omega⟩,λk _=>by simp⟩ ?_ ?_
 .rintro x r ls hd ⟨pre,rest,left,en,t,z4,eo,er,rfl,rfl,R,hl⟩;cases rest with
  |nil=>cases er
  |cons k rest=>
   obtain⟨rfl,rfl⟩:=133 er;have hk:k<ws.length:=lt k (by rw[eo];simp);have kp:k∉pre:=λq=>by
    rw[eo,nodup_append]at nd;exact nd.2.2 k q k 70 rfl
   have lk:left k=AO ws k:=by rw[hl k hk,fe kp]
   have fk:∀p∈W,p.2=k->left p.1=0:=λp hp e=>by
    rw[hl p.1 (E.R.ins p hp).1,fb (fr pre k rest eo p hp e)]
   have st:=R.step E.hs hk (x:=max t (BD ws k)) 59 59 lk fk;refine⟨_,rfl,?_⟩;dsimp only[set_cons_zero,set_cons_succ];refine AD (AS (AA (Bi (A4 (A2 rfl (A4 (AA (AA (A2 rfl (A2 rfl (AG (by rw[Cb,<- BU]) (DL hk) (AW (AG rfl (Ew _ _ _) (A8 (HZ ?_)))))))))))))));refine AA (AA (A2 rfl (A2 rfl (AG (by rw[Cb,<- BU]) (DL hk) (AW (AG rfl (Cw _ _) (EY (A6 ?_))))))));have ec:ws[k].com=BD ws k:=by simp[BD,hk]
   dsimp only[set_cons_zero,set_cons_succ];rw[ec,Gg hk,<- Dh E.ok hk];refine DF (A2 rfl (A2 rfl (A2 rfl ⟨0,_,k,_,rfl,rfl,rfl,Jr en hk,?_⟩)));rw[HJ];refine⟨AJ _,pre++[k],rest,_,_,_,_,by rw[eo];simp,rfl,rfl,rfl,st,λj hj=>?_⟩;by_cases e:j=k
   .subst e;rw[Bk.upd_self,fb 70]
   .rw[Bk.upd_ne e,hl j hj];by_cases q:j∈pre
    .rw[fb q,fb (by simp[q])]
    .rw[fe q,fe (by simp[q,e])]
 .rintro ls hd ⟨pre,rest,left,en,t,z4,eo,er,rfl,rfl,R,hl⟩;have:rest=[]:=by cases rest with
   |nil=>rfl
   |cons t r=>cases er
  subst this;rw[fY]at eo;subst eo;exact A6 (B6 (A2 rfl ⟨rfl,en,rfl,⟨left,t,R,λk hk=>by rw[hl k hk,fb (all k hk)]⟩⟩))
def U0(E:Ev ws cs W rk h)(hl:Fs ws cs d):WF Be [.im (AT ws),.im (.str "late")] [] λd x=>d=.im .non:=by
 have n8:=E.ok.2.1;unfold Be;refine Ax rfl ?_;refine BP (FP (C4 (Ar (C3 (A2 rfl ⟨_,rfl,?_⟩)))));rw[<- BU];refine⟨AL 82,?_⟩;refine B8 (λw=>D.im (wgI w)) (λ_=>some (.im (.bl false))) (λ_ ls=>∃x,ls=[some x,some (.im (.str "late"))]) _ (AJ _) ?_ ?_
 .rintro z hz ls hls;refine⟨[some (.im (wgI z)),some (.im (.str "late"))],by rcases hls with rfl|⟨_,x,rfl⟩<;>rfl,⟨_,rfl⟩,C1 ⟨rfl,?_⟩⟩;rw[fb rfl];obtain⟨k,hk,rfl⟩:=List.getElem_of_mem hz;refine⟨_,rfl,AA (AA (AA (A2 rfl (AW (AG rfl (Eu _ _ _ _) ?_)))))⟩;rw[Hc E.hcs hk,hl k hk];refine AW (AG (ds:=[.im (.str "late"),.im (.int (d k))]) rfl (Cw _ _) (A2 rfl (JE ⟨rfl,?_⟩)));simp
 have e:(ws.filterMap λ_=>some (D.im (.bl false)))=blD (ws.map λ_=>false):=by simp[blD]
 rw[e];refine⟨_,by rw[Ik,Ng];rfl,_,rfl,?_⟩;exact⟨(λh=>by simp at h),λ_=>Az rfl⟩
def ck(E:Ev ws cs W rk h)(hl:Fs ws cs d):WF DX [.im (AT ws),.im 110] [] λr x=>∃(P:List Pc) (dd:Nat->Int),r=.im (.tup (P.map pcI))/\Dp ws h dd W P/\Du.Tu 65 (AO ws) d W rk dd ws.length:=by
 unfold DX;refine Ax rfl ?_;refine AD (C2 (As (A4 (A2 rfl (A4 (AW (A8 ⟨by simp,(U0 E hl).mono ?_⟩)))))));rintro _ _ rfl;refine⟨_,rfl,A6 ?_⟩;refine AD (AS (Dz (A4 (A2 rfl (A4 (A2 rfl (A8 ⟨by simp,(T9 E hl).mono ?_⟩)))))));rintro _ _ ⟨rfl,v,rfl,U⟩;refine⟨0,_,rfl,rfl,E9 _ _,A6 ?_⟩;refine B6 (Qh (A2 rfl (As (A4 (A2 rfl (A4 (A2 rfl (A8 ⟨by simp,(Kc E.ok.2.1 (λk hk=>(HQ E.ok hk).1) E.hW E.R E.hrk E.H).mono ?_⟩))))))));rintro _ _ rfl;refine⟨_,rfl,0,fl 65 v,rfl,rfl,by simp[Ak,clD],E9 _ _,(U7 E U.done).mono ?_⟩;rintro _ _ ⟨P,rfl,D⟩;exact⟨_,rfl,P,v,rfl,D,U⟩
noncomputable def EJ:I->Bool
 |.tup (.str x::_)=>decide (x="late")
 |_=>false
theorem Vt:∀rows:List 115,PyData.canLayAll0 (I.pys (rows.map λq=>I.tup [.int q.1,.int q.2]))=true
 |[]=>by simp[I.pys,PyData.canLayAll0]
 |n::r=>by simp[I.pys,I.py,PyData.canLayAll0,PyData.canLay0,Vt r]
theorem Vs:∀ws:List Wg,(∀w∈ws,∃c,w.co=Ai c)->PyData.canLayAll0 (I.pys (ws.map wgI))=true
 |[],_=>by simp[I.pys,PyData.canLayAll0]
 |w::r,hw=>by
  obtain⟨c,e⟩:=hw w 70;have ih:=Vs r λx hx=>hw x (by simp[hx]);have hc:(I.py (Ai c)).canLay0=true:=by
   cases c with
   |late d=>simp[Ai,I.py,I.pys,PyData.canLayAll0,PyData.canLay0];decide +kernel
   |tardy d w=>simp[Ai,I.py,I.pys,PyData.canLayAll0,PyData.canLay0];decide +kernel
   |miss d w=>simp[Ai,I.py,I.pys,PyData.canLayAll0,PyData.canLay0];decide +kernel
   |ends w=>simp[Ai,I.py,I.pys,PyData.canLayAll0,PyData.canLay0];decide +kernel
   |steps rows=>
    simp only[Ai,I.py,I.pys,PyData.canLayAll0,PyData.canLay0,Bool.and_true,Bool.and_eq_true];exact⟨by decide +kernel,Vt rows⟩
  simp[I.pys,I.py,wgI,PyData.canLayAll0,PyData.canLay0,ih,e,hc]
def cu(us:List Wg)(hu:∀w∈us,∃c,w.co=Ai c)(hd:Hd):Ep false (.list (I.pys (us.map wgI))) (.list (I.pys [])) hd=some (.im (.bl (decide (us=[]))),hd):=by
 unfold Ep;rw[fb]
 .cases us with
  |nil=>simp[I.pys,PyData.eqv,PyData.eqvAll]
  |cons b r=>simp[I.pys,PyData.eqv,PyData.eqvAll]
 .refine⟨by simp[PyData.canLay0,Vs us hu],by simp[I.pys,PyData.canLay0,PyData.canLayAll0],?_⟩;have:(PyData.list (I.pys [])).depth<=60:=by simp[I.pys,PyData.depth,PyData.depthAll]
  omega
def WH{QE:D->Hd->Prop}(q:WA ml ls hd λds x=>∃us:List Wg,ds=us.map (λw=>D.im (wgI w))/\(∀w∈us,∃c,w.co=Ai c)/\QE (.im (.bl (decide (us=[])))) x):WE (Dm false ml (Ab A3)) ls hd QE:=by
 obtain⟨ds,x,e,us,rfl,hu,q⟩:=q;refine⟨_,x,?_,q⟩;unfold Dm;rw[e,BU];have e1:B2 ((us.map wgI).map D.im)=some (us.map wgI):=allIm_map _;have e2:=cu us hu x;simp only[bind_some,e1];rw[show Ab A3 ls x=some ([],x) by simp[Ab,A3]];exact e2
def V1(E:Ev ws cs W rk h)(q:ws.filter (λw=>!EJ w.co)=[]):∃d,Fs ws cs d:=by
 refine⟨λk=>match cs k with|.late d=>d|_=>0,λk hk=>?_⟩;have h1:=List.filter_eq_nil_iff.mp q ws[k] (List.getElem_mem hk);rw[Hc E.hcs hk]at h1;have n1:¬ (("tardy":Str)="late"):=by decide +kernel
 have n2:¬ (("miss":Str)="late"):=by decide +kernel
 have n3:¬ (("ends":Str)="late"):=by decide +kernel
 have n4:¬ (("steps":Str)="late"):=by decide +kernel
 cases c:cs k with
 |late d=>simp only[c]
 |tardy d w=>rw[c]at h1;simp[Ai,EJ,n1]at h1
 |miss d w=>rw[c]at h1;simp[Ai,EJ,n2]at h1
 |ends w=>rw[c]at h1;simp[Ai,EJ,n3]at h1
 |steps rows=>rw[c]at h1;simp[Ai,EJ,n4]at h1
def VF(E:Ev ws cs W rk h)(hl:Fs ws cs d)(D:Dp ws h dd W P)(U:Du.Tu 65 (AO ws) d W rk dd 65){en':Nat->Int}(he:∀k,k<65->∃q∈P,q.1=k/\en' k=q.2.2){en:Nat->Int}(R:Run ws W h en):gr ws cs en'<=gr ws cs en:=by
 have h0:=E.ok.1;have ms:=(BR (xs:=(69 65).map λk=>(cs k).at (en' k)) (gR (mem_map.mpr ⟨0,mem_range.mpr 59,rfl⟩))).1;obtain⟨k,hk,ek⟩:=mem_map.mp ms;have hk:k<ws.length:=by simpa using hk
 obtain⟨left,t,Wr,z⟩:=R.ex;obtain⟨lf,t2,S,z2⟩:=D.ex;obtain⟨m,hm,q⟩:=Du.beat E.hs Wr z U S hk (z2 k hk) (by obtain⟨p,h1,h2,h3⟩:=he k hk;exact⟨p,h1,h2,h3⟩:∃p∈P,p.1=k/\en' k=p.2.2);have g:=Vw (ws:=ws) (cs:=cs) (en:=en) hm;have:gr ws cs en'=(cs k).at (en' k):=by unfold gr;exact ek.symm
 rw[this,hl k hk];rw[hl m hm]at g;exact Int.le_trans (show en' k-d k<=en m-d m from q) g
end
open PySem L2 Bd Hds
open Bk (Pc upd)
def Sw:ET [] []=some (.mu 0,[Wo X5]):=by simp[ET,mkF,X5]
def Sv:∀x∈X5,Fg x:=by
 intro x hx;simp[X5]at hx;exact hx
section
variable{cs:Nat->Cost}{rk:Nat->Nat}{h:Nat->Int}
def No(ws:List Wg)(cs:Nat->Cost)(W:List 119)(h:Nat->Int)(m:Int):Prop:=∃en,Run ws W h en/\m=gr ws cs en
inductive I_lst(ws:List Wg)(cs:Nat->Cost)(W:List 119)(h:Nat->Int)(S:List (List Nat))(H:Hd)(r es:List D)(ls:Ls)(hd:Hd):Prop
 |mk (dn rest:List (List Nat)) (ms:List Int) (g:Hd) (z:Option D) (h0:S=dn++rest) (h1:r=rest.map AI) (h2:es=intD ms) (h3:ls=[z,some 125]) (h4:hd=H++g) (h5:ms.length=dn.length) (h6:∀m∈ms,No ws cs W h m):I_lst ws cs W h S H r es ls hd
def grR(E:Ev ws cs W rk h)(ho:o∈Sn 65 W 65){i j:Nat}(e1:ls[i]?=some (some 125))(e2:ls[j]?=some (some (AI o))){QE:D->Hd->Prop}(q:∀m g,No ws cs W h m->QE (.im (.int m)) (hd++g)):
 WE (Ba Bx (A1 (A0 i) (A1 (A9 0 DW (A1 (A0 i) (A1 (A0 j) A3))) A3))) ls hd QE:=by
 refine CY (A4 (A2 e1 (A4 (Dz (A4 (A2 e1 (A4 (A2 e2 (A8 ⟨by simp,(c5 E ho).mono ?_⟩)))))))));rintro d x ⟨rfl,en,rfl,R⟩;refine⟨0,_,rfl,rfl,E9 _ _,A8 ((bJ E (en:=en) ?_).mono ?_)⟩
 .rw[List.getElem?_append_right (fg _),sub_self];rfl
 .rintro d x ⟨rfl,rfl⟩;exact q _ _ ⟨en,R,rfl⟩
structure Fin(ws:List Wg)(cs:Nat->Cost)(W:List 119)(h:Nat->Int)(L:Int)(P:List Pc):Prop where
 pk:Du.Pk 65 h (AO ws) W P
 le:∀en:Nat->Int,(∀k,k<65->∃q∈P,q.1=k/\en k=q.2.2)->gr ws cs en<=L
def T0(E:Ev ws cs W rk h)(B:Bk.Brk h (AO ws) (chz cs W) (69 65) ps ss)(hs:s∈ss)(hb:∀s'∈ss,bnd ws cs h (Mc W) s'<=bnd ws cs h (Mc W) s){L:Int}(b:No ws cs W h L):Fin ws cs W h L ps:=by
 obtain⟨en,⟨left,t,R,z⟩,rfl⟩:=b;have S:=P6 E B s hs;exact⟨bf E B,λen' he=>Int.le_trans (up E B hb he) (low E R.I z S.1 S.2)⟩
end
inductive I_pl(ns:List Int)(ws:List Wg)(cs:Nat->Cost)(W:List 119)(h:Nat->Int)(L:Int)(d d3 d6:D)(k:Nat)(H:Hd)(r:List D)(ls:Ls)(hd:Hd):Prop
 |mk (rest:List (List Pc)) (g:Hd) (z9 z10:Option D) (h1:r=rest.map λP=>D.im (.tup (P.map pcI))) (h2:ls=[some (.ro ns),some (.mu 1),some d,some d3,some 125,some (.im 110),some d6,some (.im (.int L)),some (.mu k),z9,z10]) (h3:hd=H++g) (h4:∀P∈rest,Fin ws cs W h L P):I_pl ns ws cs W h L d d3 d6 k H r ls hd
def S8{ns:List Int}{ws:List Wg}{cs:Nat->Cost}{W:List 119}{rk:Nat->Nat}{h:Nat->Int}(E:Ev ws cs W rk h){L:Int}{d d3 d6:D}{hd0:Hd}{Q:Fl->Hd->Prop}(hQ:∀z8 z9 z10 g,Q (.nx [some (.ro ns),some (.mu 1),some d,some d3,some 125,some (.im 110),some d6,some (.im (.int L)),z8,z9,z10]) (hd0++g)){Ps:List (List Pc)}(hP:∀P∈Ps,Fin ws cs W h L P){z9 z10:Option D}:WS (BA (BI (A0 8)) (AC 9)
 (A5 (AE 10 (A9 0 Fr (A1 (A0 4) (A1 (A0 5) (A1 (A0 9) A3)))))
 (Ag (mOr (A7 (HB false (A0 10))) (A7 (mOp gGt (Ba Bx (A1 (A0 4) (A1 (A0 10) A3))) (A0 7))))
  (AN (mC (.bl false)))
  Aa))) [some (.ro ns),some (.mu 1),some d,some d3,some (.im (AT ws)),some (.im (.tup (W.map AM))),some d6,some (.im (.int L)),some (.mu hd0.length),z9,z10] (hd0++[.lst (Ps.map λP=>D.im (.tup (P.map pcI)))]) Q:=by
 have gl:∀g:Hd,(hd0++[.lst (Ps.map λP=>D.im (.tup (P.map pcI)))]++g)[hd0.length]?=some (.lst (Ps.map λP=>D.im (.tup (P.map pcI)))):=λg=>by simp
 refine Bp (FG (A2 rfl ⟨hd0.length,Ps.map λP=>D.im (.tup (P.map pcI)),rfl,by simp,?_⟩));refine B7 (I_pl ns ws cs W h L d d3 d6 hd0.length (hd0++[.lst (Ps.map λP=>D.im (.tup (P.map pcI)))])) ⟨Ps,[],_,_,rfl,rfl,by simp,hP⟩ ?_ ?_
 .rintro x r ls hd ⟨rest,g,z9,z10,er,rfl,rfl,hF⟩;cases rest with
  |nil=>cases er
  |cons P rest=>
   obtain⟨rfl,rfl⟩:=133 er;have F:=hF P 70;refine⟨_,rfl,?_⟩;dsimp only[set_cons_zero,set_cons_succ];refine AD (AS (Dz (A4 (A2 rfl (A4 (A2 rfl (A4 (A2 rfl (A8 ⟨by simp,(bZ E F.pk).mono ?_⟩)))))))));rintro _ _ ⟨left,en,t,rfl,rfl,I,l0,hen⟩;refine⟨1,_,rfl,rfl,E9 _ _,A6 ?_⟩;dsimp only[set_cons_zero,set_cons_succ];have le:=F.le en hen;refine BP (Dj (AQ (WP.eq (z:=.im (.bl false)) (h:=hd0++[.lst (Ps.map λP=>D.im (.tup (P.map pcI)))]++g++[.lst (fl 65 en)]) (by simp[HB]) ⟨_,rfl,?_⟩)));rw[fe 70];refine AQ (AA (CY (A4 (A2 rfl (A4 (A2 rfl (A8 ((bJ E (en:=en) (Cj _ _)).mono ?_))))))));rintro _ _ ⟨rfl,rfl⟩;refine A2 rfl (Ft ⟨_,rfl,(λz=>by have z:=gq z;omega),λ_=>Az ?_⟩);refine⟨?_,rest,g++[.lst (fl 65 en)],_,_,rfl,rfl,by simp,λP hP=>hF P (by simp[hP])⟩;intro q hq;rw[fO]at hq;subst hq;simp
 .rintro ls hd ⟨rest,g,z9,z10,er,rfl,rfl,hF⟩;rw[gz];exact hQ _ _ _ _
def Xn{ns:List Int}{ws:List Wg}{cs:Nat->Cost}{W:List 119}{rk:Nat->Nat}{h:Nat->Int}(E:Ev ws cs W rk h){L:Int}(BL:No ws cs W h L){d d3 d6:D}{hd0:Hd}{Q:Fl->Hd->Prop}(hQ:∀z8 z9 z10 g,Q (.nx [some (.ro ns),some (.mu 1),some d,some d3,some 125,some (.im 110),some d6,some (.im (.int L)),z8,z9,z10]) (hd0++g)){z8 z9 z10:Option D}:WS (A5 (AE 8 (AU (Ab (A1 (mOp gIx (A9 0 Bw (A1 (A0 4) (A1 (A0 5) A3))) 103) A3))))
 (A5 (Ag (A7 (Dm false (Af 1 [] (Au (A0 4)) (AC 0) (A7 (mOp gNe (mOp gIx (mOp gIx 77 (mC (.int 2))) 103) (mC (.str "late")))) 77) (Ab A3)))
  (Aq (mMt Ad (A0 8) (A1 (A9 0 DX (A1 (A0 4) (A1 (A0 5) A3))) A3)))
  Aa)
 (BA (BI (A0 8)) (AC 9)
  (A5 (AE 10 (A9 0 Fr (A1 (A0 4) (A1 (A0 5) (A1 (A0 9) A3)))))
 (Ag (mOr (A7 (HB false (A0 10))) (A7 (mOp gGt (Ba Bx (A1 (A0 4) (A1 (A0 10) A3))) (A0 7))))
  (AN (mC (.bl false)))
  Aa))))) [some (.ro ns),some (.mu 1),some d,some d3,some (.im (AT ws)),some (.im (.tup (W.map AM))),some d6,some (.im (.int L)),z8,z9,z10] hd0 Q:=by
 have n8:=E.ok.2.1;refine AD (AS (Av (BZ (A4 (AA (As (A4 (A2 rfl (A4 (A2 rfl (A8 ⟨by simp,(aK E).mono ?_⟩)))))))))));rintro _ _ ⟨ps,ss,s,rfl,B,hs,hb,_⟩;refine⟨_,rfl,AW (AG rfl (Cw _ _) (A8 ⟨DQ,A6 ?_⟩))⟩;have F1:=T0 E B hs hb BL;change WS _ [some (.ro ns),some (.mu 1),some d,some d3,some 125,some (.im 110),some d6,some (.im (.int L)),some (.mu hd0.length),z9,z10] (hd0++[.lst [.im (.tup (ps.map pcI))]]) _;refine AD (BP (AQ (WH (Ar (C3 (A2 rfl ⟨_,rfl,?_⟩))))));rw[<- BU];refine⟨AL 82,?_⟩;refine B8 (λw=>D.im (wgI w)) (λw=>if EJ w.co=true then none else some (D.im (wgI w))) (λ_ ls=>∃x,ls=[some x]) _ (AJ _) ?_ ?_
 .rintro w hw ls hls;refine⟨[some (.im (wgI w))],by rcases hls with rfl|⟨_,x,rfl⟩<;>rfl,⟨_,rfl⟩,AQ (AA (AA (AA (A2 rfl (AW (AG rfl (Eu _ _ _ _) ?_))))))⟩;obtain⟨_,_,c,ec,_⟩:=E.ok.2.2 w hw;rw[ec];have wf:∃x is,Ai c=.tup (.str x::is):=by cases c<;>exact⟨_,_,rfl⟩
  obtain⟨x,is,e⟩:=wf;rw[e];refine AW (AG (ds:=.im (.str x)::is.map D.im) rfl (Cw _ _) (AW (JE ⟨_,rfl,rfl,?_⟩)));by_cases hx:x="late"
  .rw[fZ hx];rw[fe 70];exact fb (fZ hx)
  .rw[gh hx];rw[fb 70];exact⟨_,fe (by show ¬ decide (x="late")=true;simp[hx]),A2 rfl ⟨rfl,rfl⟩⟩
 have ef:(ws.filterMap λw=>if EJ w.co=true then none else some (D.im (wgI w)))=(ws.filter λw=>!EJ w.co).map λw=>D.im (wgI w):=by
  generalize ws=us
  induction us with
  |nil=>rfl
  |cons w r ih=>
   rw[gD,gK];cases e:EJ w.co with
   |true=>simp[ih]
   |false=>simp[ih]
 rw[ef];refine⟨_,rfl,λw hw=>?_,_,rfl,λq=>?_,λq=>?_⟩
 .obtain⟨_,_,c,ec,_⟩:=E.ok.2.2 w (mem_filter.mp hw).1;exact⟨c,ec⟩
 .obtain⟨dl,al⟩:=V1 E (gq q);refine C2 (EG (A2 rfl ⟨⟨[.im (.tup (ps.map pcI))],by simp[Ac]⟩,A4 (As (A4 (A2 rfl (A4 (A2 rfl (A8 ⟨by simp,(ck E al).mono ?_⟩))))))⟩));rintro _ _ ⟨P,dd,rfl,Dx,U⟩;refine⟨_,rfl,A8 (CK (ds:=[.im (.tup (ps.map pcI))]) 70 (B4 70) (A6 ?_))⟩;have F2:Fin ws cs W h L P:=⟨Dx.pk,λen he=>by
   obtain⟨en',R,rfl⟩:=BL;exact VF E al Dx U he R⟩
  rw[show(hd0++[MO.lst [D.im (.tup (ps.map pcI))]]).set hd0.length (.lst ([.im (.tup (ps.map pcI))]++[.im (.tup (P.map pcI))]))=hd0++[.lst ([ps,P].map λP=>D.im (.tup (P.map pcI)))] by simp];exact S8 E hQ (λx hx=>by
   simp at hx;rcases hx with rfl|rfl
   .exact F1
   .exact F2)
 .refine Az (A6 ?_);exact S8 E hQ (Ps:=[ps]) λx hx=>by
   simp at hx;subst hx;exact F1
inductive I_law(ns:List Int)(r:List D)(ls:Ls)(hd:Hd):Prop
 |mk (a b:MO) (z2 z3 z4 z5 z6 z7 z8 z9 z10:Option D) (h0:ls=[some (.ro ns),some (.mu 1),z2,z3,z4,z5,z6,z7,z8,z9,z10]) (h1:hd=[a,b]) (h2:T (500*r.length) a b):I_law ns r ls hd
set_option maxHeartbeats 4000000 in
def ce(ns:List Int):WF fH [.ro ns] [] λd x=>d=.im (.bl true):=by
 unfold fH;refine Ax rfl ?_;refine AD (AS (CY (A4 (A2 rfl (A8 ((bL ns).mono ?_))))));rintro d x ⟨rfl,a,b,hT,rfl⟩;refine A6 ?_;refine AD (Bp (IK (A4 (AW (A8 ⟨_,rfl,Cm 90 90,?_⟩)))));refine B7 (I_law ns) ⟨a,b,none,none,none,none,none,none,none,none,none,rfl,rfl,tap.le hT 70⟩ ?_ ?_
 .rintro d r ls hd ⟨a,b,z2,z3,z4,z5,z6,z7,z8,z9,z10,rfl,rfl,hT⟩;simp only[fU]at hT;have hT:T (500*r.length+400+2) a b:=tap.le hT 59;refine⟨_,rfl,?_⟩;dsimp only[set_cons_zero,set_cons_succ];refine II ?_;refine AD (AS (AA ?_));refine tap.draw hT rfl 90 90 λr0 a b hT p0 q0=>?_;refine AW (EX (A6 ?_));generalize decide (r0=0)=bb;have hT:T (500*r.length+100+300) a b:=tap.le hT 59;change WS _ [some (.ro ns),some (.mu 1),some d,some (.im (.bl bb)),z4,z5,z6,z7,z8,z9,z10] [a,b] _;have ew:∀ls:Ls,A9 0 ET A3 ls [a,b]=some (.mu 2,[a,b,Wo X5]):=λls=>QU (ds:=[]) (hd1:=[a,b]) rfl rfl Sw rfl rfl;obtain⟨xs,x0,x5,xw,ex⟩:∃xs:List Str,xs≠[]/\xs.length<=5/\(∀x∈xs,Fg x)/\(A1 (A0 1) (A1 (mC (.int 5)) (A1 (mIf (CB (A0 3)) (AU (Ab (A1 (mC (.str "late")) A3))) (A9 0 ET A3)) (A1 (AU (Ab (A1 (mC (.int 1)) (A1 (mC (.int 2)) (A1 (mC (.int 3)) (A1 (mC (.int 0)) A3)))))) A3)))) [some (.ro ns),some (.mu 1),some d,some (.im (.bl bb)),z4,z5,z6,z7,z8,z9,z10] [a,b]=some ([.mu 1,.im (.int 5),.mu 2,.mu 3],[a,b,Wo xs,V4]):=by
   cases bb with
   |true=>exact⟨["late"],by simp,by simp,λx hx=>by simp at hx;exact .inl hx,by simp[mIf,CB,By]⟩
   |false=>exact⟨X5,by simp[X5],by simp[X5],Sv,by simp[mIf,CB,By,ew]⟩
  refine AD (AS ?_);refine tap.callX (n:=500*r.length+100) (c:=300) hT [Wo xs,V4] (rest:=[]) (as:=[.im (.int 5),.mu 2,.mu 3]) ex rfl rfl (by simp[Kp,Fo]) (WD x0 x5 xw _) ?_;rintro i a b hT ⟨ws,rfl,hok0,hl5⟩;refine A6 ?_;change WS _ [some (.ro ns),some (.mu 1),some d,some (.im (.bl bb)),some 125,z5,z6,z7,z8,z9,z10] [a,b,Wo xs,V4] _;refine AD (AS ?_);have hT:T (500*r.length+100) a b:=hT;refine tap.call (n:=500*r.length) (c:=100) hT (as:=[.im (.int (ws.length:Int))]) (rest:=[Wo xs,V4]) (by simp[BS]) rfl (Sy _ 65 hok0.2.1) ?_;rintro i a b hT ⟨seq,ps,rfl,pm,al,hW⟩;obtain⟨W,rfl,R,hrk⟩:=VQ pm al;simp only[fN]at hW;have eW:(W.map λp:Nat×Nat=>((p.1:Int),(p.2:Int))).map M2=W.map AM:=by rw[fM];rfl
  rw[eW];have hok:Gp ws:=⟨hok0.1,hok0.2.1,λw hw=>cT (hok0.2.2 w hw)⟩
  obtain⟨cs,hcs⟩:=cq hok;obtain⟨h,H2⟩:=YU R hrk (BD ws) (BC ws);have hb:∀k,k<65->0<=h k/\h k<=1000000:=λk hk=>by
   have h1:=H2.lo k hk;have h2:=HQ hok hk;have h3:=H2.bound R (B:=60) (m:=20) (λk hk=>(HQ hok hk).2) (λk hk=>(S9 hok hk).2) 59 _ k rfl hk;have h4:=hrk k hk;have h6:(20:Int)*((seq.idxOf k:Nat):Int)<=20*8:=by have:=hok.2.1;omega
   try dsimp only at h1 h3 ⊢
   omega
  have E:Ev ws cs W (λk=>seq.idxOf k) h:=⟨hok,hcs,hW,R,hrk,H2,hb⟩
  have Sne:=W2 R 65 (fg _);have ca:=tap.cl hT;clear pm al eW hok0 hrk hb H2 ex x0 x5 xw ew;refine A6 ?_;generalize D.im (.bl bb)=d3;change WS _ [some (.ro ns),some (.mu 1),some d,some d3,some 125,some (.im 110),z6,z7,z8,z9,z10] [a,b,Wo xs,V4] _;refine AD (AS (Dz (A4 (Bi (A4 (A2 rfl (A8 (Bh rfl rfl ?_))))))));have eln:(((ws.map wgI).map D.im).length:Int)=(ws.length:Int):=by simp
  rw[eln];refine A4 (A2 rfl (A8 ⟨by simp,(Uo hl5 hW).mono ?_⟩));rintro d3' x3 ⟨rfl,e3⟩;have hSl:=W3 (W:=W) hl5 (t:=65) hl5;have hin:∀o∈Sn 65 W 65,o∈Sn 65 W ws.length:=λ_ q=>q;generalize eS:Sn 65 W 65=S at e3 hSl Sne;rw[eS]at hin;refine⟨_,_,rfl,e3,Fo _ Ae S,A6 ?_⟩;change WS _ [some (.ro ns),some (.mu 1),some d,some d3,some 125,some (.im 110),some (.mu 4),z7,z8,z9,z10] [a,b,Wo xs,V4,.lst (S.map AI)] _;refine AD (AS (C4 (Ar (FG (A2 rfl ⟨4,S.map AI,rfl,rfl,AL 82,?_⟩)))));refine bu (I_lst ws cs W h S [a,b,Wo xs,V4,.lst (S.map AI)]) ⟨[],S,[],[],none,rfl,rfl,rfl,rfl,rfl,rfl,by simp⟩ ?_ ?_
  .rintro d4 r4 es ls hd ⟨dn,rest,ms,g,z,e1,er,rfl,rfl,rfl,hlen,hB⟩;cases rest with
   |nil=>cases er
   |cons o' rest=>
    obtain⟨rfl,rfl⟩:=133 er;refine⟨[some (AI o'),some 125],rfl,C1 ?_⟩;rw[fb rfl];refine grR E (by rw[eS,e1];simp) rfl rfl λm g' B=>⟨?_,dn++[o'],rest,ms++[m],g++g',_,by rw[e1];simp,rfl,by simp[intD],rfl,by simp,by simp[hlen],λq hq=>?_⟩
    .intro q hq;rw[fO]at hq;subst hq;rfl
    .rcases mem_append.mp hq with y|y
     .exact hB q y
     .rw[fO]at y;subst y;exact B
  rintro es ls hd ⟨dn,rest,ms,g,z,e1,er,rfl,rfl,rfl,hlen,hB⟩;have:rest=[]:=by cases rest with
   |nil=>rfl
   |cons t r=>cases er
  subst this;rw[fY]at e1;subst e1;have msne:ms≠[]:=λq=>by
   rw[q]at hlen;exact Sne (List.eq_nil_of_length_eq_zero hlen.symm)
  refine⟨_,Ff msne,A6 ?_⟩;have BL:No ws cs W h (CO ms):=hB _ (Bs msne).1;generalize CO ms=L at BL;clear hB hlen msne Sne hSl e3 hin eS;change WS _ [some (.ro ns),some (.mu 1),some d,some d3,some 125,some (.im 110),some (.mu 4),some (.im (.int L)),z8,z9,z10] _ _;refine Xn E BL λz8 z9 z10 g'=>?_;exact⟨by simp[ca.1,ca.2],_,rfl,AJ _,a,b,_,_,_,_,_,_,_,_,_,rfl,rfl,tap.le hT 59⟩
 .rintro ls hd ⟨a,b,z2,z3,z4,z5,z6,z7,z8,z9,z10,rfl,rfl,hT⟩;exact A6 (B6 (AW rfl))
def law_eq(ns:List Int):∃hd,fH [.ro ns] []=some (.im (.bl true),hd):=by
 obtain⟨d,x,e,rfl⟩:=ce ns;exact⟨x,e⟩
open PySem L2 PySem.W PyProof.Rows
noncomputable abbrev xS:Xs:=[("stretches_of",((("stretches_of":Str)++".<locals>.")++"<lambda>"),15,33),("cheapest_last",((("cheapest_last":Str)++".<locals>.")++"<lambda>"),84,56),("greatest_bound",((("greatest_bound":Str)++".<locals>.")++"<lambda>"),107,25),("ranked_plan",((("ranked_plan":Str)++".<locals>.")++"<lambda>"),129,62),("due_plan",((("due_plan":Str)++".<locals>.")++"<lambda>"),138,52)]
def all_mk{l:OpenLaw}{w:World}{K:Frag}{h:Heap}{mg:Str->Option Value}{fa:Addr}{c P:Str->Addr}(X:K.In h)(G:h.Ns mainGlobals mg)(hfa:mg "law"=some (.ref fa))(hx:HX xS mg h c P)(F:QZ K):HG l w K xS mg c P fa QC:=by
 obtain⟨Z,h0,h1,h2,h4,h5,h6,h7,h8,h10,h11,h12,h13,h14,h16,h17,h18,h19,h22,h23,h24,h25,h26,h27,h28,h29,h30,h31,h32,h33,p3,p9,p15,p20,p21,h3,h9,h15,h20,h21,tn⟩:=F;have B:=(zsE Z).blt X G;have nd:((Ca (BM K (tbs xS P))).map (·.1)).Nodup:=cV (ps:=[p3,p9,p15,p20,p21]) (by show [P "stretches_of",P "cheapest_last",P "greatest_bound",P "ranked_plan",P "due_plan"]=_;rw[((flE (e:=Cp) h3).code X G hx (.head _)).1,((flE (e:=CT) h9).code X G hx (.tail _ (.head _))).1,((flE (e:=CG) h15).code X G hx (.tail _ (.tail _ (.head _)))).1,((flE (e:=D7) h20).code X G hx (.tail _ (.tail _ (.tail _ (.head _))))).1,((flE (e:=EN) h21).code X G hx (.tail _ (.tail _ (.tail _ (.tail _ (.head _)))))).1]) tn;refine V7 X G hfa hx (feE h0) bd1 rfl λbase hd bl=>?_;obtain⟨o_raised,o_heads,o_stretches_of,o_steps_at,o_cost_at,o_reached,o_behind,o_last_ones,o_length_of,o_refuse_other_costs,o_bound_of,o_cheapest_last,o_without,o_gaps_filled,o_broken_off,o_greatest_bound,o_greatest_plan,o_turned_dues,o_add_piece,o_ranked_plan,o_due_plan,o_feed,o_next,o_words,o_cost,o_works,o_wishes,o_costs,o_is_int,o_ends,o_greatest,o_orders,o_run_ends,o_law⟩:=oks (E:=enM l w K xS P mg base) B;have g1:=o_raised ((feE h1).dn X G hx bd4 l w base);have g2:=o_heads ((feE h2).dn X G hx bd2 l w base) g1;have g3:=o_stretches_of ((flE h3).dl X G hx bd3 (.head _) l w hd bl nd rfl) g2;have g4:=o_steps_at ((feE h4).dn X G hx bd2 l w base)
 have g5:=o_cost_at ((feE h5).dn X G hx bd2 l w base) g4;have g6:=o_reached ((feE h6).dn X G hx bd2 l w base);have g7:=o_behind ((feE h7).dn X G hx bd3 l w base) g6;have g8:=o_last_ones ((feE h8).dn X G hx bd3 l w base) g7;have g9:=o_cheapest_last ((flE h9).dl X G hx bd4 (.tail _ (.head _)) l w hd bl nd rfl) g5 g8;have g10:=o_without ((feE h10).dn X G hx bd2 l w base);have g11:=o_gaps_filled ((feE h11).dn X G hx bd4 l w base);have g12:=o_broken_off ((feE h12).dn X G hx bd3 l w base) g3 g9 g10 g11;have g13:=o_length_of ((feE h13).dn X G hx bd2 l w base);have g14:=o_bound_of ((feE h14).dn X G hx bd3 l w base) g2 g5 g8 g13;have g15:=o_greatest_bound ((flE h15).dl X G hx bd3 (.tail _ (.tail _ (.head _))) l w hd bl nd rfl) g14;have g16:=o_greatest_plan ((feE h16).dn X G hx bd2 l w base) g12 g15;have g17:=o_refuse_other_costs ((feE h17).dn X G hx bd2 l w base);have g18:=o_turned_dues ((feE h18).dn X G hx bd2 l w base);have g19:=o_add_piece ((feE h19).dn X G hx bd4 l w base);have g20:=o_ranked_plan ((flE h20).dl X G hx bd3 (.tail _ (.tail _ (.tail _ (.head _)))) l w hd bl nd rfl) g19;have g21:=o_due_plan ((flE h21).dl X G hx bd2 (.tail _ (.tail _ (.tail _ (.tail _ (.head _))))) l w hd bl nd rfl) g2 g17 g18 g20;have g22:=o_feed ((feE h22).dn X G hx bd1 l w base);have g23:=o_next ((feE h23).dn X G hx bd2 l w base);have g24:=o_words ((feE h24).dn X G hx bd0 l w base);have g25:=o_cost ((feE h25).dn X G hx bd2 l w base) g23;have g26:=o_works ((feE h26).dn X G hx bd4 l w base) g23 g25;have g27:=o_wishes ((feE h27).dn X G hx bd2 l w base) g23;have g28:=o_is_int ((feE h28).dn X G hx bd1 l w base);have g29:=o_ends ((feE h29).dn X G hx bd3 l w base) g28;have g30:=o_costs ((feE h30).dn X G hx bd2 l w base);have g31:=o_greatest ((feE h31).dn X G hx bd2 l w base) g30;have g32:=o_orders ((feE h32).dn X G hx bd2 l w base);have g33:=o_run_ends ((feE h33).dn X G hx bd2 l w base);exact o_law ((feE h0).dn X G hx bd1 l w base) g16 g21 g22 g23 g24 g26 g27 g29 g31 g32 g33
end T29
theorem PySem.Challenge.cw_benchdays_k29_whole_broken_off_no_worse_holds : PySem.Challenge.rw_benchdays_k29_whole_broken_off_no_worse.Holds := by
 refine T29.early λK F d hd hdf=>L2.walkL T29.xS (l:=PySem.Challenge.rw_benchdays_k29_whole_broken_off_no_worse) (n:=63) (k:=18) (F:=T29.fH) rfl 90 hdf ⟨rfl,by decide,by decide,rfl⟩ (by intro x hx;simp only[T29.xS,mem_cons,List.not_mem_nil,or_false]at hx;rcases hx with rfl|rfl|rfl|rfl|rfl<;>exact⟨_,rfl⟩) T29.law_eq (λw h Y=>Y) λw mg fa h c P X G hmg hx=>?_;rw[hd]at hmg;exact T29.all_mk X G hmg hx (F w)
