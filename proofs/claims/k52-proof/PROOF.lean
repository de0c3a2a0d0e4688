import PyProof.Rows.All
import Wide.All
import OpenK.AllK
import Wide.FinOn
import Lean
import PyProof.EqAt
import PyProof.EqKinds
import PyProof.TupleCall
import KE.KSortKey
import PyProof.ListMulRoad
import PyProof.Draws
import PyProof.EnumMake
import PyProof.ListNew
import KE.KRevIter
import KE.KMinKey
import PyProof.TupleKey
import PySem.Challenge.RW_benchdays_k52_whole_moved_and_renumbered
set_option Elab.async false
set_option linter.all false
set_option maxRecDepth 100000
noncomputable section
open PySem.W(Frag fnOf OpenLaw keepIn codeIn)
set_option hygiene false in
local macro_rules | `(tactic| and_intros) => `(tactic| intro ρ σ H hd ls Q d hd' hR hL hm hQ)
open List(mem_cons mem_filter mem_append nodup_cons of_mem_zip length_drop any_cons map_nil length_nil mem_map all_eq_true mem_singleton mem_iff_getElem? cons_append nodup_append pairwise_map map_id nodup_range pairwise_cons sum_append pairwise_append filter_append range_succ ext_getElem take_length)
open Option(isSome_iff_exists none_or getD_some map_eq_some_iff)
open Nat(lt_trans le_of_eq)
open Int(le_antisymm)
def c5{α β:Type _}{o:Option α}{f:α->Option β}{b:β}(h:o.bind f=some b):∃a,o=some a/\f a=some b:=Option.bind_eq_some_iff.mp h
def c7{α β:Type _}{o:Option α}{f:α->β}{b:β}(h:o.map f=some b):∃a,o=some a/\f a=b:=Option.map_eq_some_iff.mp h
def gh:=@PySem.wpAny_bind
def gi:=@if_pos
def gj:=@if_neg
def gm:=@Nat.le_refl
def gn:=@PySem.wpAny_pure
def gp:=@List.mem_cons_of_mem
def gq:=@List.map_cons
def gu:=@List.mem_cons
def gv:=@List.mem_append_right
def gw:=@Option.bind_some
def gy:=@List.mem_cons_self
def gz:=@List.size_toArray
def gV:=@Nat.ne_of_lt
def hJ:=@List.sum_cons
def hX:=@List.length_map
def hZ:=@PySem.wpAny_mono
def i3:=@if_true
def i4:=@List.mem_singleton
def i5:=@List.map_map
def i6:=@decide_eq_false
def i7:=@List.lookup_cons
def i8:=@Option.map_some
def i9:=@decide_eq_true
def ia:=@Nat.le_trans
def ic:=@List.filter_cons
def ie:=@Nat.lt_of_lt_of_le
def ig:=@List.mem_of_getElem?
def ik:=@Int.toNat_natCast
def il:=@PySem.wpAny_holding
def ip:=@if_false
def iq:=@eq_iff_iff
def ir:=@or_false
def iu:=@List.not_mem_nil
def iw:=@congrArg
def iA:=@PySem.sizeLine_eq
def iB:=@Nat.zero_le
def iC:=@Nat.ne_of_gt
def iD:=@PySem.wpAny_field
def iE:=@List.mem_append_left
def iF:=@List.append_nil
def iG:=@List.length_take
def iH:=@List.length_cons
def iI:=@List.pairwise_map
def iJ:=@Nat.lt_irrefl
def iK:=@PySem.wpAny_seqItems
def iL:=@List.map_append
def iM:=@List.length_append
def iN:=@List.drop_eq_getElem_cons
def iO:=@PySem.wpAny_letGo
def iP:=@PySem.wpAny_tryCatch
def iQ:=@List.replicate_succ
def iR:=@List.find?_cons
def iS:=@Nat.le_of_lt
def iT:=@PySem.codeAny_builtin
def iU:=@decide_eq_true_eq
def iV:=@Nat.le_succ
def iW:=@PySem.wpAny_truthy_bool
def iX:=@PySem.wpAny_newObj_type
def iY:=@of_decide_eq_true
def iZ:=@List.filterMap_cons
def j3:=@List.lookup_append
def j4:=@List.take_append_drop
def j5:=@PySem.wpAny_standAt
def j6:=@PySem.wpAny_Call_Name_kw
def j7:=@PySem.typeIs_int
def j8:=@PySem.plainId_quiet
def j9:=@List.append_assoc
def ja:=@List.zipIdx_cons
def jb:=@PySem.codeAny_mono
def jd:=@PySem.wpAny_call_entry
def je:=@PyProof.Rows.get?_update_seq
def jf:=@List.flatten_cons
def jg:=@List.mergeSort_perm
def jh:=@List.ext_getElem?
def ji:=@List.map_congr_left
def jj:=@List.countP_eq_length_filter
def jk:=@Nat.lt_succ_self
def jl:=@Nat.le_add_right
def jm:=@PySem.wpAny_passesOwn
def jo:=@PySem.wpAny_rule
def jq:=@List.pairwise_mergeSort
def jr:=@Nat.lt_succ_of_lt
def jt:=@PySem.wpAny_callSpecial?_slot
def ju:=@PySem.wpAny_setField_rec
def jv:=@PySem.wpAny_newList
def jw:=@PySem.wpAny_updateSeq
def jx:=@PySem.wpAny_eqBool_int
def jy:=@PySem.wpAny_execs_nil
def jA:=@PySem.wpAny_pyNext_list_item
def jB:=@PySem.nums_intItems
def jC:=@PySem.wpAny_evalAll_cons
def jD:=@PySem.wpAny_evalAll_nil
def jE:=@PySem.wpAny_pyIter_enum
def jF:=@decide_eq_false_iff_not
set_option compiler.extract_closed false
local macro_rules | `(tactic| omega) => `(tactic| first | lia | omega (config := {}))
namespace Ea
open PySem PySem.W
def dA(s:Stmt):Arguments:=match s with
 |.FunctionDef _ a _ _ _ _ _ _ _ _=>a
 |_=>{ posonlyargs:=[],args:=[],vararg:=none,kwonlyargs:=[],kw_defaults:=[],kwarg:=none,defaults:=[] }
def dB(s:Stmt):List Stmt:=match s with
 |.FunctionDef _ _ b _ _ _ _ _ _ _=>b
 |_=>[]
def dS(s:Stmt):Scope:=match s with
 |.FunctionDef _ _ _ _ _ _ sc _ _ _=>sc
 |_=>{ kind:=.function,names:=[],isGenerator:=false,isCoroutine:=false }
def tO(o:Obj):Option Addr:=match o.data with
 | .fields vs=>(match (vs[11]?:Option Value)with
  |some (Value.ref P)=>some P
  | _=>none)
 |_=>none
def At(K:Frag)(n:Str)(s:Stmt)(f:Addr)(cd:Value):Prop:=∃oc kV dc pm ct od an sl,nsIn K mainGlobals n=some (some (.ref f))/\K.lookup f=some ⟨oc,od,.func (fnOf n n (dA s) (dB s) (dS s) .none kV dc pm an cd ct),sl⟩/\codeIn K cd n=true/\keepIn K (.ref f)=true
def Fe(K:Frag)(n:Str)(s:Stmt):Prop:=∃f cd,At K n s f cd
def Fl(K:Frag)(n:Str)(s:Stmt)(p:Addr):Prop:=∃f ca ob,At K n s f (.ref ca)/\K.lookup ca=some ob/\tO ob=some p
section
variable{K:Frag}{n:Str}{s:Stmt}{f ca p:Addr}{oc kV dc pm cd ct:Value}{od an:Option Addr}{sl:Array (Option Value)}{ob:Obj}
def feI(a:nsIn K mainGlobals n=some (some (.ref f)))(l:K.lookup f=some ⟨oc,od,.func (fnOf n n (dA s) (dB s) (dS s) .none kV dc pm an cd ct),sl⟩)(c:codeIn K cd n=true)(k:keepIn K (.ref f)=true):Fe K n s:=⟨f,cd,_,_,_,_,_,_,_,_,a,l,c,k⟩
def flI(a:nsIn K mainGlobals n=some (some (.ref f)))(l:K.lookup f=some ⟨oc,od,.func (fnOf n n (dA s) (dB s) (dS s) .none kV dc pm an cd ct),sl⟩)(c:codeIn K cd n=true)(k:keepIn K (.ref f)=true)(u:cd=.ref ca)(t:K.lookup ca=some ob)(v:tO ob=some p):Fl K n s p:=by
 subst u;exact⟨f,ca,ob,⟨_,_,_,_,_,_,_,_,a,l,c,k⟩,t,v⟩
end
abbrev bN:List Str:=["list","tuple","len","range","repr","sum","min","max","abs","all","any","sorted","zip","isinstance","int","bool","str","set","enumerate","reversed","dict"]
def Zs(K:Frag):Prop:=∀n∈bN,nsIn K mainGlobals n=some none
def Zg(K:Frag)(l:List Str):Prop:=∀n∈l,nsIn K mainGlobals n=some none
def zs0{K:Frag}:Zg K []:=λ_ h=>nomatch h
def zs1{K:Frag}{n:Str}{l:List Str}(h:nsIn K mainGlobals n=some none)(r:Zg K l):Zg K (n::l):=λm hm=>by
 rcases mem_cons.mp hm with rfl|hm
 .exact h
 .exact r m hm
end Ea
namespace L2
open PySem
def cy(nm:Str)(p:Addr×Obj):Bool:=match p.2.data with
 |.cls cd=>cd.name==nm
 |_=>false
def cz(K:Frag)(nm:Str):Option Addr:=(K.find? (cy nm)).map (·.1)
end L2
namespace Ea
open PySem PySem.W
section
variable{K:Frag}{nm:Str}{s:Stmt}{fs:List Str}{C fI N:Addr}{nm' q:Str}{bs bm sub:List Value}{sn:List Str}{ab:Bool}{col:Option Bool}{dd od an:Option Addr}{k0 k1 k2 k3 k5:Option Value}{oc kV dc pm cd ct:Value}{sl:Array (Option Value)}
def na1{f:Str}(h:findIn K (.ref C) f=some none)(r:∀f∈fs,findIn K (.ref C) f=some none):∀g∈f::fs,findIn K (.ref C) g=some none:=λg hg=>by
 rcases mem_cons.mp hg with rfl|hg
 .exact h
 .exact r g hg
end
end Ea
namespace Hl
open PySem PySem.W PyProof.Rows
def PM(p:Program)(w:World)(m:Nat)(ann:Option Value):Nat->SharedT->Thread->Option SharedT
 |0,_,_=>none
 |n+1,s,t=>match through t with
  |true=>some s
  |false=>match stepOk m ann t with
   |false=>none
   |true=>match stepT (denote treeTable) p w s t with
    |some (s',t')=>PM p w m ann n s' t'
    |none=>none
theorem ON{p:Program}{w:World}{m:Nat}{ann:Option Value}:∀{n:Nat} {s s':SharedT} {t:Thread},PM p w m ann n s t=some s'->topRun treeTable p w m ann n s.abs t=some s'.abs
 |0,_,_,_,h=>by cases h
 |n+1,s,s',t,h=>by
  rw[PM]at h;rw[topRun];cases h1:through t with
  |true=>rw[h1]at h;cases h;rfl
  |false=>
   rw[h1]at h;cases h2:stepOk m ann t with
   |false=>rw[h2]at h;cases h
   |true=>
    rw[h2]at h;cases h3:stepT (denote treeTable) p w s t with
    |none=>rw[h3]at h;cases h
    |some r=>obtain⟨s2,t2⟩:=r;rw[h3]at h;rw[stepT_spec h3];exact ON h
def VC:Nat->List Obj->BT->BT
 |_,[],t=>t
 |n,o::r,t=>VC (n+1) r (t.ins n o)
def bT(P:Params):BT:=VC 0 (boot_heap P).objs.toList .nil
def bM(P:Params):absHeap (bT P) 11 (boot_heap P).life=boot_heap P:=by kernel_rfl
def eB(P:Params):((boot_heap P).isNs mainGlobals,(boot_heap P).nsMap mainGlobals "__annotations__")=(true,some (.ref 6)):=by kernel_rfl
variable{p q:Program}{loose:List Str}{Xt:Shared->Bool}{α:Type}{Yf:Shared->α}{Ya:World->α}{N M:Nat}
def af(p q:Program)(loose:List Str)(Xt:Shared->Bool)(Yf:Shared->α)(M:Nat)(w:World)(os:OsState):=
 match PM p w 11 (some (.ref 6)) M ⟨bT w.params,11,(boot_heap w.params).life,Array.mk [],boot_drawn,boot_toks,os⟩ (topStub p)with
 | some s=>(match staticsOk (importedModules p.main.body) (boot_heap w.params) s.abs.heap&&namesBound p s.abs.heap&&gensDone s.abs&&laidKept (boot_heap w.params) s.abs.heap with
  |true=>some (openSeen q loose (importedModules p.main.body) Xt true s.abs,Yf s.abs)
  | false=>none)
 |none=>none
def left(e:opening p=plainProg p.main.scope.names)(f:∀s,fenceModules? p s=some s)(hN:Nat.ble 600 N=true)(hM:Nat.ble M N=true)(h:∀w os,af p q loose Xt Yf M w os=some (openGood q loose,Ya w)):LeftO p q loose Xt Yf Ya N:=λw=>by
 obtain⟨⟨hp,gs,d,k,os⟩,e1,e2⟩:=c7 (boot_open e hN f w);simp only[Prod.mk.injEq]at e2;obtain⟨rfl,rfl,rfl,rfl⟩:=e2;have hl:=h w os;unfold af at hl;split at hl
 .next s hs=>
  have r:=topRun_mono (N-M) _ _ _ _ (ON hs);rw[show M+(N-M)=N by have:=Nat.le_of_ble_eq_true hM;omega]at r;have ea:(SharedT.mk (bT w.params) 11 (boot_heap w.params).life (Array.mk []) boot_drawn boot_toks os).abs=⟨boot_heap w.params,Array.mk [],boot_drawn,boot_toks,os⟩:=by
   show Shared.mk (absHeap (bT w.params) 11 (boot_heap w.params).life) _ _ _ _=_;rw[bM]
  rw[ea]at r;obtain⟨z1,z2⟩:=Prod.mk.inj (eB w.params);have z3:(boot_heap w.params).objs.size=11:=rfl;split at hl
  .next c=>
   show((fencedOpening treeTable p w N).bind (topFrom treeTable p w N)).map _=_;rw[e1,gw];have t:topFrom treeTable p w N ⟨boot_heap w.params,Array.mk [],boot_drawn,boot_toks,os⟩=some s.abs:=by
    unfold topFrom;dsimp only;rw[z1,z2,z3,r];show(match staticsOk (importedModules p.main.body) (boot_heap w.params) s.abs.heap&&namesBound p s.abs.heap&&gensDone s.abs&&laidKept (boot_heap w.params) s.abs.heap with|true=>some s.abs|false=>none)=_;rw[c]
   rw[t];exact hl
  .cases hl
 .cases hl
end Hl
namespace T52
open PySem PySem.W PyProof.Rows Ea
def top(i:Nat):Stmt:=PySem.Challenge.pw_benchdays_k52_whole_moved_and_renumbered.main.body.getD i (.Pass ⟨0,0,0,0⟩)
def vw:PySem.Program:={ PySem.Challenge.pw_benchdays_k52_whole_moved_and_renumbered with main:={ PySem.Challenge.pw_benchdays_k52_whole_moved_and_renumbered.main with body:=[1,2,3,5,6,8,9,11,12,13,14,15,16,18,19,20,21,22,23,24,25,26,27,29,30,32,33,35,37,39,40,41,42,43,45,46,47,49,50,51,52,53,54,55,56,57,58].map top } }
def Qm(K:Frag):Prop:=Zs K/\Fe K "law" (top 58)/\Fe K "length_of" (top 11)/\Fe K "weight_of" (top 15)/\Fe K "one_weight" (top 16)/\Fe K "same_coming" (top 12)/\Fe K "one_coming" (top 13)/\Fe K "refuse_other_costs" (top 14)/\Fe K "late_coming" (top 18)/\Fe K "turned" (top 39)/\Fe K "done_by" (top 40)/\Fe K "_law_source" (top 49)/\Fe K "_law_pick" (top 50)/\Fe K "_law_end_works" (top 52)/\Fe K "_law_line" (top 54)/\Fe K "ends_of" (top 37)/\Fe K "add_piece" (top 32)/\Fe K "end_weight" (top 41)/\Fe K "_law_sorted_ends" (top 55)/\Fe K "later_due" (top 8)/\Fe K "moved_cost" (top 9)/\Fe K "full_weight" (top 20)/\Fe K "greatest_weight" (top 23)/\Fe K "is_number" (top 5)/\Fe K "is_tuple_of" (top 6)/\Fe K "look_at_shape" (top 24)/\Fe K "no_more" (top 21)/\Fe K "put_behind" (top 22)/\Fe K "look_at_row" (top 25)/\Fe K "look_at_places" (top 26)/\Fe K "lets_table" (top 27)/\Fe K "next_row" (top 29)/\Fe K "table_of" (top 30)/\Fe K "_law_late_works" (top 51)/\Fe K "_law_alike" (top 53)/\Fe K "_law_late_stays" (top 56)/\Fe K "ends_paper" (top 43)/\Fe K "look_at_entry_shape" (top 45)/\Fe K "look_at_entry" (top 46)/\Fe K "lets_ends" (top 47)/\Fe K "_law_shown" (top 57)/\∃p8 p9 p18 p20,Fl K "by_dues" (top 19) p8/\Fl K "put_out" (top 35) p9/\Fl K "ranked_plan" (top 33) p18/\Fl K "left_plan" (top 42) p20/\([p8,p9,p18,p20]:List Addr).Nodup
def dg{K:Frag}{p8 p9 p18 p20:Addr}(z:Zs K)(h0:Fe K "law" (top 58))(h1:Fe K "length_of" (top 11))(h2:Fe K "weight_of" (top 15))(h3:Fe K "one_weight" (top 16))(h4:Fe K "same_coming" (top 12))(h5:Fe K "one_coming" (top 13))(h6:Fe K "refuse_other_costs" (top 14))(h7:Fe K "late_coming" (top 18))(h10:Fe K "turned" (top 39))(h11:Fe K "done_by" (top 40))(h12:Fe K "_law_source" (top 49))(h13:Fe K "_law_pick" (top 50))(h14:Fe K "_law_end_works" (top 52))(h15:Fe K "_law_line" (top 54))(h16:Fe K "ends_of" (top 37))(h17:Fe K "add_piece" (top 32))(h19:Fe K "end_weight" (top 41))(h21:Fe K "_law_sorted_ends" (top 55))(h22:Fe K "later_due" (top 8))(h23:Fe K "moved_cost" (top 9))(h24:Fe K "full_weight" (top 20))(h25:Fe K "greatest_weight" (top 23))(h26:Fe K "is_number" (top 5))(h27:Fe K "is_tuple_of" (top 6))(h28:Fe K "look_at_shape" (top 24))(h29:Fe K "no_more" (top 21))(h30:Fe K "put_behind" (top 22))(h31:Fe K "look_at_row" (top 25))(h32:Fe K "look_at_places" (top 26))(h33:Fe K "lets_table" (top 27))(h34:Fe K "next_row" (top 29))(h35:Fe K "table_of" (top 30))(h36:Fe K "_law_late_works" (top 51))(h37:Fe K "_law_alike" (top 53))(h38:Fe K "_law_late_stays" (top 56))(h39:Fe K "ends_paper" (top 43))(h40:Fe K "look_at_entry_shape" (top 45))(h41:Fe K "look_at_entry" (top 46))(h42:Fe K "lets_ends" (top 47))(h43:Fe K "_law_shown" (top 57))(h8:Fl K "by_dues" (top 19) p8)(h9:Fl K "put_out" (top 35) p9)(h18:Fl K "ranked_plan" (top 33) p18)(h20:Fl K "left_plan" (top 42) p20)(tn:([p8,p9,p18,p20]:List Addr).Nodup):Qm K:=⟨z,h0,h1,h2,h3,h4,h5,h6,h7,h10,h11,h12,h13,h14,h15,h16,h17,h19,h21,h22,h23,h24,h25,h26,h27,h28,h29,h30,h31,h32,h33,h34,h35,h36,h37,h38,h39,h40,h41,h42,h43,_,_,_,_,h8,h9,h18,h20,tn⟩
local macro_rules | `(tactic| o_head $H) => `(tactic| (refine holds_open (r := PySem.Challenge.rw_benchdays_k52_whole_moved_and_renumbered.row) (q := T52.vw) (loose := []) (Xt := λ s => xlAt T52.vw [] s && recOk (RowW.records (OpenRow.toRowW PySem.Challenge.rw_benchdays_k52_whole_moved_and_renumbered.row)) s) (XP := XL T52.vw []) (Yf := Hook.obs $H) (Ya := Hook.val $H) (YP := Hook.says $H) (N := 100000) ?hl (Hook.of $H) (Hook.keeps $H) (λ s e => xl_of s (Bool.and_eq_true_iff.mp e).1) XL.keeps (by rfl) (by rfl) (by rfl) (λ s e => recFacts_of (Bool.and_eq_true_iff.mp e).2) (by rfl) (by first | assumption | decide +kernel) (by decide +kernel) ⟨rfl, rfl, rfl, rfl, rfl, by decide +kernel⟩ ?hw ?hc; (case hl => exact Hl.left (M := 10000) (by rfl) (λ s => by rfl) (by decide) (by decide) λ w os => by kernel_rfl)))
set_option maxRecDepth 100000 in
set_option maxHeartbeats 0 in
def early(hG:∀(K:Params->Frag),(∀w:World,Qm (K w.params))->∀d:DefRec,d.name="law"->d.params.defaults=[]->WalkO T52.vw [] (XL T52.vw []) (λw h=>(K w.params).In h) PySem.Challenge.rw_benchdays_k52_whole_moved_and_renumbered.row.toRowW d [] (λf vs=>PySem.call f vs)):PySem.Challenge.rw_benchdays_k52_whole_moved_and_renumbered.Holds:=by
 w_on;o_law;k_head;(case hw=>w_witness2)
 k_fill
 refine λw s₀ s₁ mg mb G Y=>hG _ ?F _ rfl rfl w s₀ s₁ mg mb G (km_in_of Y)
 case F=>
  intro w;refine' dg ?z ?h0 ?h1 ?h2 ?h3 ?h4 ?h5 ?h6 ?h7 ?h10 ?h11 ?h12 ?h13 ?h14 ?h15 ?h16 ?h17 ?h19 ?h21 ?h22 ?h23 ?h24 ?h25 ?h26 ?h27 ?h28 ?h29 ?h30 ?h31 ?h32 ?h33 ?h34 ?h35 ?h36 ?h37 ?h38 ?h39 ?h40 ?h41 ?h42 ?h43 ?h8 ?h9 ?h18 ?h20 ?tn
  case z=>(refine' zs1 _ (zs1 _ (zs1 _ (zs1 _ (zs1 _ (zs1 _ (zs1 _ (zs1 _ (zs1 _ (zs1 _ (zs1 _ (zs1 _ (zs1 _ (zs1 _ (zs1 _ (zs1 _ (zs1 _ (zs1 _ (zs1 _ (zs1 _ (zs1 _ (zs0)))))))))))))))))))))<;>k_is)
  case h0|h1|h2|h3|h4|h5|h6|h7|h10|h11|h12|h13|h14|h15|h16|h17|h19|h21|h22|h23|h24|h25|h26|h27|h28|h29|h30|h31|h32|h33|h34|h35|h36|h37|h38|h39|h40|h41|h42|h43=>(refine' feI ?a ?l ?c ?k;case a|l|c|k=>k_is)
  case h8|h9|h18|h20=>(refine' flI ?a ?l ?c ?k ?u ?t ?v;(case a|l|c|k=>k_is);(case u=>rfl);(case t=>k_is);(case v=>rfl))
  case tn=>decide
end T52
set_option hygiene false in
local macro_rules|`(66)=>`(s.heap.objs.size)|`(67)=>`(by omega)|`(68)=>`(ws.length)|`(69)=>`(model X.prog X.w)|`(71)=>`(List.range)|`(73)=>`(X.env.qual++"<lambda>")|`(74)=>`(Heap.get?_push_of_some)|`(75)=>`(by simp)|`(76)=>`(s.heap.push { cls:=.type "list_iterator",data:=.fields #[.ref l,.int 0 0] })|`(77)=>`(by decide)|`(78)=>`(Addr×Obj)|`(79)=>`(by simp;omega)|`(80)=>`(k==NameKind.free&&env.scope.kind==.function&&env.kindOf n==some .cell)|`(81)=>`(A1 0)|`(83)=>`(x1.trans R1 x2)|`(84)=>`(List.getElem?_eq_some_iff.mp)|`(85)=>`(upd H2 s2.heap.objs.size (.lst []))|`(86)=>`(AV X.env.cells scope.names [])|`(87)=>`(Heap.get?_push_size)|`(88)=>`((false,eval e X.env))|`(89)=>`(by kernel_rfl)|`(90)=>`(Heap.lt_size)|`(91)=>`(.ListComp elt [⟨tg,iter,ifs,0⟩] scope pos)|`(92)=>`(model prog w)|`(94)=>`(mC (.int 1))|`(95)=>`(.int (k:Int))|`(96)=>`(xs.length)|`(97)=>`(cCx X (loc++fr) scope s H ex)|`(98)=>`(Ad (BG (A0 rfl ⟨_,rfl,?_⟩)))|`(101)=>`(by simp[RD,RI])|`(102)=>`(List.replicate)|`(103)=>`(ds.length)|`(104)=>`(D×Hd)|`(105)=>`((71 68).map (Pl.E P))|`(106)=>`(.int i)|`(107)=>`(mC (.int 0))|`(108)=>`(A1 1)|`(109)=>`(its.toArray)|`(110)=>`(Tb.ordI (tw T ws))|`(111)=>`(items.size)
set_option hygiene false in
local macro_rules|`(112)=>`(kla_fn "<lambda>" 73 params body scope cl pm cd ctv)|`(113)=>`(.Call (.Name x p) (e::es) [] pos)|`(114)=>`(Option.some.inj)|`(118)=>`(vs.toArray)|`(119)=>`(seqObj "list" #[] 0)
namespace L2
open PySem PySem.Spec PyProof.Rows
abbrev Key:=Sum Int Str
def IK:Key->Value->Bool
 |.inl k,v=>Value.isInt k v
 |.inr x,v=>Value.isStrOf x v
def de(w:World):Key->Int
 |.inl k=>hashInt k
 |.inr x=>hashStr w x
def BS:∀{k:Key} {v:Value},IK k v=true->(∃i t,k=Sum.inl i/\v=Value.int i t)∨(∃x t,k=Sum.inr x/\v=Value.str x t)
 |.inl i,v,h=>by
  obtain⟨t,e⟩:=Value.isInt_shape (k:=i) (v:=v) h;exact .inl ⟨i,t,rfl,e⟩
 |.inr x,v,h=>by
  obtain⟨t,e⟩:=Value.isStrOf_shape (x:=x) (v:=v) h;exact .inr ⟨x,t,rfl,e⟩
def SK(i:Int)(t:Tok):IK (.inl i) (.int i t)=true:=by simp[IK,Value.isInt]
def SJ(x:Str)(t:Tok):IK (.inr x) (.str x t)=true:=by simp[IK,Value.isStrOf]
def ap(a b:Int):decide ((Sum.inl a:Key)=Sum.inl b)=(a==b):=by
 by_cases e:a=b
 .subst e;simp
 .have h:¬ (Sum.inl a:Key)=Sum.inl b:=λq=>e (Sum.inl.inj q);rw[i6 h];exact(beq_eq_false_iff_ne.mpr e).symm
def al(a b:Str):decide ((Sum.inr a:Key)=Sum.inr b)=decide (a=b):=by
 by_cases e:a=b
 .subst e;simp
 .have h:¬ (Sum.inr a:Key)=Sum.inr b:=λq=>e (Sum.inr.inj q);rw[i6 h,i6 e]
def ao(a:Int)(b:Str):decide ((Sum.inl a:Key)=Sum.inr b)=false:=i6 (λq=>nomatch q)
def am(a:Str)(b:Int):decide ((Sum.inr a:Key)=Sum.inl b)=false:=i6 (λq=>nomatch q)
def BF(prog:Program)(w:World):PySem.KeyKind prog w Key where
 is:=IK
 hash:=de w
 inj:=λv a b ha hb=>by
  rcases BS ha with⟨i,t,rfl,rfl⟩|⟨x,t,rfl,rfl⟩
  .rcases BS hb with⟨j,u,rfl,e⟩|⟨y,u,rfl,e⟩
   .injection e with e1 _;rw[e1]
   .exact nomatch e
  .rcases BS hb with⟨j,u,rfl,e⟩|⟨y,u,rfl,e⟩
   .exact nomatch e
   .injection e with e1 _;rw[e1]
 byValue:=λk v h=>by
  rcases BS h with⟨i,t,rfl,rfl⟩|⟨x,t,rfl,rfl⟩<;>rfl
 pyHash:=λhv h=>by
  rcases BS hv with⟨i,t,rfl,rfl⟩|⟨x,t,rfl,rfl⟩
  .exact wpAny_pyHash_int h
  .exact wpAny_pyHash_str h
 eqBool:=λhu hv h=>by
  rcases BS hu with⟨i,t,rfl,rfl⟩|⟨x,t,rfl,rfl⟩
  .rcases BS hv with⟨j,u,rfl,rfl⟩|⟨y,u,rfl,rfl⟩
   .rw[ap]at h;exact jx h
   .rw[ao]at h;exact SeqAt.EqAt.int_str i t y u _ _ _ _ h
  .rcases BS hv with⟨j,u,rfl,rfl⟩|⟨y,u,rfl,rfl⟩
   .rw[am]at h;exact SeqAt.EqAt.str_int x t j u _ _ _ _ h
   .rw[al]at h;exact wpAny_eqBool_str h
 «strs»:=λk x t v h=>by
  rcases BS h with⟨i,u,rfl,e⟩|⟨y,u,rfl,e⟩
  .exact nomatch e
  .injection e with e1 _
   subst e1;cases v<;>rfl
def Nz(prog:Program)(w:World)(i:Int)(t:Tok):(BF prog w).is (.inl i) (.int i t)=true:=SK i t
def Ny(prog:Program)(w:World)(x:Str)(t:Tok):(BF prog w).is (.inr x) (.str x t)=true:=SJ x t
inductive V where
 |non|bl (b:Bool)|int (i:Int)|str (x:Str)|byt (b:Array UInt8)|flt (b:UInt64)|ref (a:Addr)|ty (n:String)
 deriving DecidableEq
def RelV:V->Value->Prop
 |.non,u=>u=Value.none
 |.bl b,u=>u=Value.bool b
 |.int i,u=>∃t,u=Value.int i t
 |.str x,u=>∃t,u=Value.str x t
 |.byt b,u=>∃t,u=Value.bytes b t
 |.flt b,u=>∃t,u=Value.float b t
 |.ref a,u=>u=Value.ref a
 |.ty n,u=>u=Value.type n
abbrev Vals:List V->List Value->Prop:=Paired RelV
theorem Vals.length{xs:List V}{us:List Value}(r:Vals xs us):96=us.length:=Paired.length r
theorem Vals.get:∀{xs:List V} {us:List Value} {i:Nat} {x:V},Vals xs us->xs[i]?=some x->∃u,us[i]?=some u/\RelV x u
 |_,_,_,_,.nil,e=>by simp at e
 |_,_,0,_,.cons r _,e=>by simp at e;subst e;exact⟨_,rfl,r⟩
 |_,_,i+1,x,.cons _ t,e=>by
  obtain⟨u,h1,h2⟩:=Vals.get (i:=i) (x:=x) t (by simpa using e);exact⟨u,by simpa using h1,h2⟩
theorem Vals.set{x:V}{u:Value}(r:RelV x u):∀{xs:List V} {us:List Value} (i:Nat),Vals xs us->Vals (xs.set i x) (us.set i u)
 |_,_,_,.nil=>.nil
 |_,_,0,.cons _ t=>.cons r t
 |_,_,i+1,.cons q t=>.cons q (Vals.set r i t)
theorem Vals.append:∀{xs ys:List V} {us ws:List Value},Vals xs us->Vals ys ws->Vals (xs++ys) (us++ws)
 |_,_,_,_,.nil,s=>s
 |_,_,_,_,.cons r t,s=>.cons r (Vals.append t s)
theorem Vals.take:∀{xs:List V} {us:List Value} (n:Nat),Vals xs us->Vals (xs.take n) (us.take n)
 |_,_,0,_=>.nil
 |_,_,_+1,.nil=>.nil
 |_,_,n+1,.cons r t=>.cons r (Vals.take n t)
theorem Vals.drop:∀{xs:List V} {us:List Value} (n:Nat),Vals xs us->Vals (xs.drop n) (us.drop n)
 |_,_,0,r=>r
 |_,_,_+1,.nil=>.nil
 |_,_,n+1,.cons _ t=>Vals.drop n t
def RelO:Option V->Option Value->Prop
 |some v,some u=>RelV v u
 |none,none=>True
 |_,_=>False
def KV{κ:Type}:List (κ×V)->List (κ×Value)->Prop:=Paired λ(p:κ×V) (q:κ×Value)=>p.1=q.1/\RelV p.2 q.2
def kV:Key->V
 |.inl i=>.int i
 |.inr x=>.str x
inductive HO where
 /-- a list -/
 |lst (xs:List V)
 /-- a tuple (never changes) -/
 |tup (xs:List V)
 /-- a dict whose keys are ints and texts;one whose keys are tuples of ints and texts (the empty one is both) -/
 |dK (kvs:List (Key×V))|dT (kvs:List (List Key×V))
 /-- a set of ints: its members,its size -/
 |set (S:Int->Bool) (n:Nat)
 /-- an instance of the class at C,its dict at dx,its attributes -/
 |ins (C dx:Addr) (fs:List (Str×V))
 /-- the dict of the instance at x -/
 |own (x:Addr)
 /-- the dict of an exception -/
 |xd (fs:List (Str×V))
 /-- a bound method,f of x -/
 |met (f x:Addr)
 /-- a range object lo,lo+1,.. below hi -/
 |rng (lo hi:Int)
 /-- a thing that is known to the object (the script;a dict while a loop walks it): read,never written while it is so -/
 |frz (o:Obj) (u:HO)
 /-- a code object's table -/
 |tbl (ps:Array Value)
 /-- any other thing,by what is true of its one object (a def of one's own: SetO a S n:=HO.ext λh=>..) -/
 |ext (φ:Heap->Prop)
abbrev Hp:=Addr->Option HO
def upd(H:Hp)(a:Addr)(o:HO):Hp:=λb=>if b=a then some o else H b
def AN{H:Hp}{a:Addr}{o:HO}:upd H a o a=some o:=by unfold upd;rw[gi rfl]
def AD{H:Hp}{a b:Addr}{o:HO}(h:b≠a):upd H a o b=H b:=by unfold upd;rw[gj h]
def cR{H:Hp}{a b:Addr}{o u:HO}(h:H a=some o)(h':H b=some u)(d:o≠u):a≠b:=by
 intro e;subst e;rw[h]at h';exact d (114 h')
def AU{H:Hp}{a b:Addr}{o:HO}(h:H a=some o)(h':H b=none):a≠b:=by
 intro e;subst e;rw[h]at h';cases h'
def IsTupD(h:Heap)(a:Addr)(items:Array Value):Prop:=∃o,h.get? a=some o/\o.cls=.type "tuple"/\(∃n,o.data=.seq items n)/\o.dict=none
def IsTupD.t{h:Heap}{a:Addr}{items:Array Value}(x:IsTupD h a items):IsTup h a items:=let ⟨o,e,c,d,_⟩:=x;⟨o,e,c,d⟩
def IsTupD.new(h:Heap)(items:Array Value):IsTupD (h.push { cls:=.type "tuple",data:=.seq items }) h.objs.size items:=⟨_,87 _ rfl,rfl,⟨_,rfl⟩,rfl⟩
section
variable(P:Program)(w:World)
def ObjOk(H:Hp)(h:Heap)(a:Addr):HO->Prop
 |.lst xs=>96<=sizeLine/\∃(its:List Value) (n:Nat),Vals xs its/\h.get? a=some { cls:=.type "list",data:=.seq 109 n }
 |.tup xs=>96<=sizeLine/\∃its:List Value,Vals xs its/\IsTupD h a 109
 |.dK kvs=>kvs.length<=sizeLine/\(a==sysModules)=false/\∃vs,KV kvs vs/\h.DictOf (BF P w) a vs
 |.dT kvs=>kvs.length<=sizeLine/\(a==sysModules)=false/\∃xs:List (List Key×Addr×Value),
  Paired (λ(p:List Key×V) (q:List Key×Addr×Value)=>p.1=q.1/\H q.2.1=some (.tup (p.1.map kV))/\RelV p.2 q.2.2) kvs xs /\
  ∃o es ep,h.get? a=some o/\o.ExactDict/\o.data=.dict es ep/\es.toList=xs.map (entryOfKey (tupleKind (BF P w)))/\(xs.map (·.1)).Nodup
 |.set S n=>h.SetOf (intKind P w) a S n
 |.ins C dx fs=>H dx=some (.own a)/\fs.length<=1000/\dx≠a/\h.get? a=some (PySem.W.instObj C dx)/\
  ∃mA,h.Ns1 dx mA/\(∀f,RelO (fs.lookup f) (mA f))/\PySem.Within mA (fs.map (·.1))
 |.own _=>∃o,h.get? a=some o
 |.xd fs=>∃mA,h.Ns1 a mA/\∀f,RelO (fs.lookup f) (mA f)
 |.rng lo hi=>∃t u v,h.get? a=some { cls:=.type "range",data:=.fields #[.int lo t,.int hi u,.int 1 v] }
 |.frz o u=>h.get? a=some o/\ObjOk H h a u
 |.tbl ps=>h.get? a=some { cls:=.none,data:=.fields ps }
 |.met f x=>h.get? a=some (PySem.W.methodObj (.ref f) (.ref x))
 |.ext φ=>φ h/\(∃o,h.get? a=some o)/\∀h1 h2:Heap,φ h1->(∀o,h1.get? a=some o->h2.get? a=some o)->φ h2
def HOk(H:Hp)(h:Heap):Prop:=∀a o,H a=some o->ObjOk P w H h a o
end
section
variable{P:Program}{w:World}{H H':Hp}{h h':Heap}{a:Addr}{o:HO}
def ObjOk.lt(x:ObjOk P w H h a o):a<h.objs.size:=by
 cases o with
 |lst xs=>obtain⟨_,_,_,_,e⟩:=x;exact 90 e
 |tup xs=>obtain⟨_,_,_,o,e,_⟩:=x;exact 90 e
 |dK kvs=>obtain⟨_,_,_,_,o,_,_,e,_⟩:=x;exact 90 e
 |dT kvs=>obtain⟨_,_,_,_,o,_,_,e,_⟩:=x;exact 90 e
 |set S n=>obtain⟨o,_,_,_,e,_⟩:=x;exact 90 e
 |ins C dx fs=>obtain⟨_,_,_,e,_⟩:=x;exact 90 e
 |own y=>obtain⟨_,e⟩:=x;exact 90 e
 |xd fs=>obtain⟨_,⟨_,_,_,e,_⟩,_⟩:=x;exact 90 e
 |rng lo hi=>obtain⟨_,_,_,e⟩:=x;exact 90 e
 |frz ob u=>obtain⟨e,_⟩:=x;exact 90 e
 |tbl ps=>exact 90 (show h.get? a=some _ from x)
 |met f y=>exact 90 (show h.get? a=some _ from x)
 |ext φ=>obtain⟨_,⟨_,e⟩,_⟩:=x;exact 90 e
theorem Paired.mapP{α β:Type}{F G:α->β->Prop}:∀{l₁:List α} {l₂:List β},Paired F l₁ l₂->(∀a b,F a b->G a b)->Paired G l₁ l₂
 |_,_,.nil,_=>.nil
 |_,_,.cons r t,f=>.cons (f _ _ r) (Paired.mapP t f)
def ObjOk.stay(x:ObjOk P w H h a o)(k:∀b u,(b=a∨H b=some (.own a))->h.get? b=some u->h'.get? b=some u)
 (ho:∀b,H b=some (.own a)->H' b=some (.own a)) (ht:∀b xs,H b=some (.tup xs)->H' b=some (.tup xs)):ObjOk P w H' h' a o:=by
 induction o with
 |lst xs=>obtain⟨z,its,n,r,e⟩:=x;exact⟨z,its,n,r,k _ _ (.inl rfl) e⟩
 |tup xs=>obtain⟨z,its,r,ob,e,c⟩:=x;exact⟨z,its,r,ob,k _ _ (.inl rfl) e,c⟩
 |dK kvs=>obtain⟨z,y,vs,r,ob,es,ep,e,c⟩:=x;exact⟨z,y,vs,r,ob,es,ep,k _ _ (.inl rfl) e,c⟩
 |dT kvs=>
  obtain⟨z,y,xs,r,ob,es,ep,e,c⟩:=x;exact⟨z,y,xs,Paired.mapP r λp q z=>⟨z.1,ht _ _ z.2.1,z.2.2⟩,ob,es,ep,k _ _ (.inl rfl) e,c⟩
 |set S n=>obtain⟨ob,es,ep,t,e,c⟩:=x;exact⟨ob,es,ep,t,k _ _ (.inl rfl) e,c⟩
 |ins C dx fs=>
  obtain⟨d,z,ne,e,mA,⟨od,es,ep,e2,c⟩,r⟩:=x;exact⟨ho _ d,z,ne,k _ _ (.inl rfl) e,mA,⟨od,es,ep,k _ _ (.inr d) e2,c⟩,r⟩
 |own y=>obtain⟨ob,e⟩:=x;exact⟨ob,k _ _ (.inl rfl) e⟩
 |xd fs=>obtain⟨mA,⟨od,es,ep,e,c⟩,r⟩:=x;exact⟨mA,⟨od,es,ep,k _ _ (.inl rfl) e,c⟩,r⟩
 |rng lo hi=>obtain⟨t,u,v,e⟩:=x;exact⟨t,u,v,k _ _ (.inl rfl) e⟩
 |frz ob u ih=>obtain⟨e,q⟩:=x;exact⟨k _ _ (.inl rfl) e,ih q⟩
 |tbl ps=>
  have e:h.get? a=some { cls:=.none,data:=.fields ps }:=x;show h'.get? a=some { cls:=.none,data:=.fields ps };exact k a _ (.inl rfl) e
 |met f y=>
  have e:h.get? a=some (PySem.W.methodObj (.ref f) (.ref y)):=x;show h'.get? a=some (PySem.W.methodObj (.ref f) (.ref y));exact k a _ (.inl rfl) e
 |ext φ=>obtain⟨p,⟨o,e⟩,st⟩:=x;exact⟨st _ _ p λo q=>k _ _ (.inl rfl) q,⟨o,k _ _ (.inl rfl) e⟩,st⟩
theorem HOk.lt(x:HOk P w H h)(e:H a=some o):a<h.objs.size:=(x a o e).lt
def HOk.fresh(x:HOk P w H h)(e:h.objs.size<=a):H a=none:=by
 cases q:H a with
 |none=>rfl
 |some u=>exact absurd (ie (x.lt q) e) (iJ _)
def HOk.kept(x:HOk P w H h)(k:∀b u,h.get? b=some u->h'.get? b=some u):HOk P w H h':=λa o e=>
 (x a o e).stay (λb u _ q=>k b u q) (λ_ q=>q) λ_ _ q=>q
def HOk.laid(x:HOk P w H h)(k:∀b u,h.get? b=some u->h'.get? b=some u)(hp:h.objs.size<=a)(new:ObjOk P w (upd H a o) h' a o):HOk P w (upd H a o) h':=λb u e=>by
 have hn:=x.fresh hp;by_cases hb:b=a
 .subst hb;rw[AN]at e;cases e;exact new
 .rw[AD hb]at e;exact(x b u e).stay (λc v _ q=>k c v q) (λc q=>by rw[AD (AU q hn)];exact q) λc xs q=>by rw[AD (AU q hn)];exact q
end
def Rd(H:Hp)(a:Addr)(u:HO):Prop:=H a=some u∨∃o,H a=some (.frz o u)
def Rd.ok{P:Program}{w:World}{H:Hp}{h:Heap}{a:Addr}{u:HO}(r:Rd H a u)(x:HOk P w H h):ObjOk P w H h a u:=by
 rcases r with r|⟨o,r⟩
 .exact x a u r
 .obtain⟨_,q⟩:=x a _ r;exact q
def Mut:Option HO->Prop
 |some (.lst _)=>True
 |some (.dK _)=>True
 |some (.dT _)=>True
 |some (.set _ _)=>True
 |some (.ins _ _ _)=>True
 |some (.ext _)=>True
 |_=>False
section
variable{P:Program}{w:World}{H:Hp}{h h':Heap}{x e:Addr}{o':HO}
def HOk.write(ok:HOk P w H h)(mu:Mut (H x))(he:e=x∨H e=some (.own x))(k:∀b u,b≠e->h.get? b=some u->h'.get? b=some u)(heo:∃u,h'.get? e=some u)
 (new:ObjOk P w (upd H x o') h' x o'):HOk P w (upd H x o') h':=λb u q=>by
 have nown:∀c y,H c=some (.own y)->c≠x:=λc y r z=>by subst z;rw[r]at mu;exact mu
 have ntup:∀c xs,H c=some (.tup xs)->c≠x:=λc xs r z=>by subst z;rw[r]at mu;exact mu
 by_cases hb:b=x
 .subst hb;rw[AN]at q;cases q;exact new
 .rw[AD hb]at q;by_cases hbe:b=e
  .have q':H b=some (.own x):=by
    rcases he with z|z
    .exact absurd (hbe.trans z) hb
    .rw[hbe];exact z
   rw[q]at q';cases q';obtain⟨v,hv⟩:=heo;exact⟨v,by rw[hbe];exact hv⟩
  .refine(ok b u q).stay (λc v hc r=>k c v ?_ r) (λc r=>by rw[AD (nown c b r)];exact r) λc xs r=>by rw[AD (ntup c xs r)];exact r
   rcases hc with rfl|hc
   .exact hbe
   .rintro rfl;rcases he with z|z
    .exact nown c b hc z
    .rw[hc]at z;cases z;exact hb rfl
end
structure Un(fs ex:List Addr)(H H':Hp)(h h':Heap):Prop where
 keep:∀b o,h.get? b=some o->H b=none->b∉fs->b∉ex->h'.get? b=some o
 slot:∀b o,h.get? b=some o->H b=none->b∈fs->b∉ex->∃sl,h'.get? b=some { o with slots:=sl }
 free:∀b o,h.get? b=some o->H b=none->b∉ex->H' b=none
 there:∀b o,h.get? b=some o->b∉ex->∃o',h'.get? b=some o'
 tups:∀b xs,H b=some (.tup xs)->H' b=some (.tup xs)
 frzs:∀b o u,H b=some (.frz o u)->H' b=some (.frz o u)
 tbls:∀b ps,H b=some (.tbl ps)->∃more,H' b=some (.tbl (ps++more))
section
variable{fs fs' ex ex':List Addr}{H H1 H2:Hp}{h h1 h2 h':Heap}{a x e:Addr}{o:HO}
def Un.any(u:Un fs ex H H1 h h1){b:Addr}{ob:Obj}(q:h.get? b=some ob)(n:H b=none)(hx:b∉ex):∃sl,h1.get? b=some { ob with slots:=sl }:=by
 by_cases hb:b∈fs
 .exact u.slot b ob q n hb hx
 .exact⟨ob.slots,u.keep b ob q n hb hx⟩
def Un.kept(k:∀b u,h.get? b=some u->h'.get? b=some u):Un fs ex H H h h':=
 ⟨λb ob q _ _ _=>k b ob q,λb ob q _ _ _=>⟨ob.slots,k b ob q⟩,λ_ _ _ n _=>n,λb ob q _=>⟨ob,k b ob q⟩,λ_ _ q=>q,λ_ _ _ q=>q,λ_ ps q=>⟨#[],by rw[q];simp⟩⟩
def Un.refl:Un fs ex H H h h:=Un.kept λ_ _ q=>q
def Un.laid(k:∀b u,h.get? b=some u->h'.get? b=some u)(hp:h.objs.size<=a)(hn:H a=none):Un fs ex H (upd H a o) h h' where
 keep:=λb u q _ _ _=>k b u q
 slot:=λb u q _ _ _=>⟨u.slots,k b u q⟩
 free:=λb u q n _=>by rw[AD (gV (ie (Heap.lt_size q) hp))];exact n
 there:=λb u q _=>⟨u,k b u q⟩
 tups:=λb xs q=>by rw[AD (AU q hn)];exact q
 frzs:=λb u xs q=>by rw[AD (AU q hn)];exact q
 tbls:=λb ps q=>⟨#[],by rw[AD (AU q hn),q];simp⟩
def Un.write(mu:Mut (H x))(he:e=x∨H e=some (.own x))(k:∀b u,b≠e->h.get? b=some u->h'.get? b=some u)(heo:∃u,h'.get? e=some u):Un fs ex H (upd H x o) h h':=by
 have hx:∀b,H b=none->b≠x:=λb n z=>by subst z;rw[n]at mu;exact mu
 have hb:∀b,H b=none->b≠e:=λb n z=>by
  subst z;rcases he with r|r
  .exact hx b n r
  .rw[n]at r;cases r
 have hm:∀b u,H b=some u->¬ Mut (some u)->b≠x:=λb u q nm z=>by subst z;rw[q]at mu;exact nm mu
 refine⟨λb u q n _ _=>k b u (hb b n) q,λb u q n _ _=>⟨u.slots,k b u (hb b n) q⟩,λb u q n _=>by rw[AD (hx b n)];exact n,λb u q _=>?_,
  λb xs q=>by rw[AD (hm b _ q λz=>z)];exact q,λb u xs q=>by rw[AD (hm b _ q λz=>z)];exact q,λb ps q=>⟨#[],by rw[AD (hm b _ q λz=>z),q];simp⟩⟩
 by_cases hbe:b=e
 .subst hbe;exact heo
 .exact⟨u,k b u hbe q⟩
end
def trk(h:Heap)(H:Hp):List Addr:=(71 h.objs.size).filter λa=>(H a).isSome
def Gi(h:Heap)(H:Hp):Heap:=PySem.W.hideAll h (trk h H)
def SM(h:Heap)(H:Hp):(Gi h H).objs.size=h.objs.size:=PySem.W.hideAll_size _ _
def Uq{h:Heap}{H:Hp}{b:Addr}{o:Obj}(e:h.get? b=some o)(n:H b=none):(Gi h H).get? b=some o:=
 PySem.W.hideAll_get _ e λhm=>by
  have q:(H b).isSome=true:=(mem_filter.mp hm).2;rw[n]at q;simp at q
def Xk{h:Heap}{H:Hp}{b:Addr}{o:Obj}(e:(Gi h H).get? b=some o):h.get? b=some o/\H b=none:=by
 have e':h.get? b=some o:=PySem.W.of_hideAll (trk h H) e;refine⟨e',?_⟩;cases q:H b with
 |none=>rfl
 |some x=>
  have hm:b∈trk h H:=mem_filter.mpr ⟨List.mem_range.mpr (90 e'),by simp[q]⟩;have z:(Gi h H).get? b=none:=PySem.W.hideAll_none (trk h H) hm;rw[z]at e;cases e
def YO(g h:Heap)(L:Addr):List 78:=(71 h.objs.size).filterMap λa=>if a=L∨(g.get? a).isSome=true then none else(h.get? a).map λo=>(a,o)
def rest(g h:Heap)(L d:Addr):List 78:=(YO g h L).filter λp=>decide (p.1≠d)
structure Mod(K:Frag)(mg:Str->Option Value)(base:Heap):Prop where
 kin:K.In base
 glob:base.Ns mainGlobals mg
 blt:∃mb,base.Ns builtinsNs mb/\∀x:Str,x≠"__name__"->mb x=bootBuiltins x
 nolimit:base.NoLimit
structure Cx where
 prog:Program
 w:World
 K:Frag
 mg:Str->Option Value
 base:Heap
 A:Around
 N:List Str
 s₀:Shared
 H₀:Hp
 env:Env
 outer:List Env
 stack:List Env
 ex:List Addr
 fn:Str->Bool
 calm:Bool
 pn:List 78
 xe:Value->Shared->Prop
def frs(l:List Env):List Addr:=l.filterMap (·.frame)
abbrev Cx.fs(X:Cx):List Addr:=frs X.outer
def Vis(sc:Scope)(x:Str):Prop:=sc.names.lookup x=some .local∨sc.names.lookup x=some .cell∨sc.names.lookup x=some .free
def Loc(sc:Scope)(x:Str):Prop:=sc.names.lookup x=some .local∨sc.names.lookup x=some .cell
def eE(env:Env)(h:Heap)(m:Str->Option Value)(x:Str)(u:Value):Prop:=
 (env.kindOf x=some .local/\m x=some u)∨((env.kindOf x=some .cell∨env.kindOf x=some .free)/\∃c,env.cells.lookup x=some c/\h.IsCell c (some u))
structure Cx.Ok(X:Cx):Prop where
 mod:Mod X.K X.mg X.base
 kind:X.env.scope.kind=.function
 glob:X.env.globals=mainGlobals
 blt:X.env.builtins=builtinsNs
 above:X.s₀.heap.objs.size<=X.env.locals
 inj:∀x y c,X.env.cells.lookup x=some c->X.env.cells.lookup y=some c->x=y
 has:∀x,(X.env.kindOf x=some .cell∨X.env.kindOf x=some .free)->∃c,X.env.cells.lookup x=some c
 cab:∀x c,X.fn x=true->X.env.cells.lookup x=some c->X.s₀.heap.objs.size<=c
 hd:X.calm=true->X.A.handled=none
 frames:X.A.frames=some X.stack
 stk:X.stack=X.outer∨(X.stack=X.env::X.outer/\X.env.frame=some X.env.locals)
 exf:∀b∈X.ex,b≠X.env.locals/\∀x c,X.env.cells.lookup x=some c->c≠b
 bs:∀b o,X.base.get? b=some o->X.s₀.heap.get? b=some o/\X.H₀ b=none
 bsz:X.base.objs.size<=X.s₀.heap.objs.size
 noex:∀b o,X.base.get? b=some o->b∉X.ex
 exfs:∀b∈X.ex,b∉X.fs
 funs:X.s₀.heap.FunFrames X.base X.outer
 frf:∀b∈X.fs,X.H₀ b=none
structure Inv(X:Cx)(pins:List 78)(σ:List (Option V))(H:Hp)(s:Shared):Prop where
 ok:X.Ok
 os:s.os=X.s₀.os
 bare:AllBare s.gens
 base:Un X.fs X.ex X.H₀ H X.s₀.heap s.heap
 loc:∃m,s.heap.Ns X.env.locals m/\∀(i:Nat) (x:Str) (v:V),X.N[i]?=some x->σ[i]?=some (some v)->Vis X.env.scope x->∃u,RelV v u/\eE X.env s.heap m x u
 cell:∀x c,X.env.cells.lookup x=some c->∃v,s.heap.IsCell c v
 free:H X.env.locals=none
 freeC:∀x c,X.env.cells.lookup x=some c->H c=none
 pin:∀p∈X.pn++pins,s.heap.get? p.1=some p.2/\H p.1=none/\p.1≠X.env.locals/\p.1∉X.fs/\∀v,p.2.data≠.cell v
 hok:HOk X.prog X.w H s.heap
 len:σ.length=X.N.length
section
variable{X:Cx}{pins:List 78}{σ:List (Option V)}{H H':Hp}{s:Shared}{h':Heap}
def Cx.Ok.nofr(ok:X.Ok){b:Addr}{o:Obj}(e:X.base.get? b=some o):b∉X.fs:=λhb=>by
 have:=(ok.funs.mem hb).1;rw[e]at this;cases this
theorem Inv.bs(I:Inv X pins σ H s):∀b o,X.base.get? b=some o->s.heap.get? b=some o/\H b=none:=λb o e=>
 ⟨I.base.keep b o (I.ok.bs b o e).1 (I.ok.bs b o e).2 (I.ok.nofr e) (I.ok.noex b o e),I.base.free b o (I.ok.bs b o e).1 (I.ok.bs b o e).2 (I.ok.noex b o e)⟩
def Inv.bk(I:Inv X pins σ H s):∀b o,X.base.get? b=some o->s.heap.get? b=some o:=λb o e=>(I.bs b o e).1
theorem Inv.mod(I:Inv X pins σ H s):Mod X.K X.mg X.base:=I.ok.mod
def Inv.kIn(I:Inv X pins σ H s):X.K.In s.heap:=I.ok.mod.kin.keeps I.bk
theorem Inv.nolimit(I:Inv X pins σ H s):s.heap.NoLimit:=I.ok.mod.nolimit.keeps I.bk
theorem Inv.lt(I:Inv X pins σ H s):X.env.locals<s.heap.objs.size:=let ⟨_,hn,_⟩:=I.loc;hn.lt
def Inv.sz(I:Inv X pins σ H s):X.s₀.heap.objs.size<=s.heap.objs.size:=ia I.ok.above (iS I.lt)
def Inv.nofs(I:Inv X pins σ H s){a:Addr}(h:66<=a):a∉X.fs:=λhb=>by
 obtain⟨_,o,ho,_⟩:=I.ok.funs.mem hb;exact absurd (ie (90 ho) (ia I.sz h)) (iJ _)
def Inv.cne(I:Inv X pins σ H s):∀x c,X.env.cells.lookup x=some c->c≠X.env.locals:=λx c e z=>by
 obtain⟨v,o,ho,hd⟩:=I.cell x c e;obtain⟨m,⟨o',es,ep,ho',hd',_⟩,_⟩:=I.loc;rw[z,ho']at ho;cases ho;rw[hd']at hd;cases hd
theorem Inv.funs(I:Inv X pins σ H s):s.heap.FunFrames X.base X.outer:=by
 have all:∀(l:List Env),(∀b∈frs l,b∈X.fs)->X.s₀.heap.FunFrames X.base l->s.heap.FunFrames X.base l:=by
  intro l
  induction l with
  |nil=>intro _ _;trivial
  |cons env r ih=>
   intro hs hl;obtain⟨hk,⟨L,o,hf,hn,ho,hd⟩,hr⟩:=hl;have hL:L∈X.fs:=hs L (by unfold frs;rw[iZ,hf];exact gy);obtain⟨sl,e⟩:=I.base.slot L o ho (I.ok.frf L hL) hL λz=>I.ok.exfs L z hL;exact⟨hk,⟨L,_,hf,hn,e,hd⟩,ih (λb hb=>hs b (by unfold frs;rw[iZ,hf];exact gp _ hb)) hr⟩
 exact all X.outer (λ_ hb=>hb) I.ok.funs
theorem Inv.stack(I:Inv X pins σ H s):s.heap.FunFrames X.base X.stack:=by
 rcases I.ok.stk with e|⟨e,hf⟩
 .rw[e];exact I.funs
 .rw[e];obtain⟨m,hn,_⟩:=I.loc;refine .cons (by rw[I.ok.kind];decide) hf hn ?_ I.funs;exact Heap.get?_none_of_le (ia I.ok.bsz I.ok.above)
def Inv.stkSub(I:Inv X pins σ H s):∀b∈frs X.stack,b∈X.env.locals::X.fs:=λb hb=>by
 rcases I.ok.stk with e|⟨e,hf⟩
 .rw[e]at hb;exact gp _ hb
 .rw[e]at hb;unfold frs at hb;rw[iZ,hf]at hb;exact hb
def Inv.stkFree(I:Inv X pins σ H s):∀b∈frs X.stack,H b=none:=λb hb=>by
 rcases mem_cons.mp (I.stkSub b hb)with e|hb
 .rw[e];exact I.free
 .obtain⟨_,o,ho,_⟩:=I.ok.funs.mem hb;exact I.base.free b o ho (I.ok.frf b hb) λz=>I.ok.exfs b z hb
def Inv.step{g':Array GenState}{t':Nat}{d':Drawn}{ch:List Addr}(I:Inv X pins σ H s)
 (hch:∀b∈ch,(b∈X.ex∨X.s₀.heap.objs.size<=b)/\b≠X.env.locals/\(∀x c,X.env.cells.lookup x=some c->c≠b)/\∀p∈X.pn++pins,p.1≠b)
 (keep:∀b o,b≠X.env.locals->b∉X.fs->b∉ch->s.heap.get? b=some o->H b=none->h'.get? b=some o)
 (slot:∀b o,b≠X.env.locals->b∈X.fs->b∉ch->s.heap.get? b=some o->H b=none->∃sl,h'.get? b=some { o with slots:=sl }) (free:∀b o,b∉ch->s.heap.get? b=some o->H b=none->H' b=none)
 (there:∀b o,b∉ch->s.heap.get? b=some o->∃o',h'.get? b=some o')
 (tups:∀b xs,H b=some (.tup xs)->H' b=some (.tup xs)) (frzs:∀b o u,H b=some (.frz o u)->H' b=some (.frz o u)) (tbls:∀b ps,H b=some (.tbl ps)->∃more,H' b=some (.tbl (ps++more)))
 (ns:∀m,s.heap.Ns X.env.locals m->h'.Ns X.env.locals m) (hok:HOk X.prog X.w H' h') (hg:AllBare g'):
 Inv X pins σ H' { s with heap:=h',gens:=g',drawn:=d',toks:=t' }:=by
 have neL:∀b o,X.s₀.heap.get? b=some o->b≠X.env.locals:=λb o e=>gV (ie (90 e) I.ok.above);have neC:∀b o,X.s₀.heap.get? b=some o->b∉X.ex->b∉ch:=λb o e hx hb=>by
  rcases(hch b hb).1 with z|z
  .exact hx z
  .exact absurd (ie (90 e) z) (iJ _)
 have cellK:∀x c,X.env.cells.lookup x=some c->∀v,s.heap.IsCell c v->h'.IsCell c v:=λx c e v ⟨o,ho,hd⟩=>by
  have nch:c∉ch:=λz=>(hch c z).2.2.1 x c e rfl;by_cases hc:c∈X.fs
  .obtain⟨sl,q⟩:=slot c o (I.cne x c e) hc nch ho (I.freeC x c e);exact⟨_,q,hd⟩
  .exact⟨o,keep c o (I.cne x c e) hc nch ho (I.freeC x c e),hd⟩
 refine⟨I.ok,I.os,hg,⟨λb o e n hb hx=>?_,λb o e n hb hx=>?_,λb o e n hx=>?_,λb o e hx=>?_,λb xs e=>tups b xs (I.base.tups b xs e),λb o xs e=>frzs b o xs (I.base.frzs b o xs e),λb ps e=>?_⟩,?_,λx c e=>?_,?_,λx c e=>?_,λp hp=>?_,hok,I.len⟩
 .exact keep b o (neL b o e) hb (neC b o e hx) (I.base.keep b o e n hb hx) (I.base.free b o e n hx)
 .obtain⟨sl,e1⟩:=I.base.slot b o e n hb hx;obtain⟨sl',e2⟩:=slot b _ (neL b o e) hb (neC b o e hx) e1 (I.base.free b o e n hx);exact⟨sl',e2⟩
 .obtain⟨o',e1⟩:=I.base.there b o e hx;exact free b o' (neC b o e hx) e1 (I.base.free b o e n hx)
 .obtain⟨o',e1⟩:=I.base.there b o e hx;exact there b o' (neC b o e hx) e1
 .obtain⟨m1,e1⟩:=I.base.tbls b ps e;obtain⟨m2,e2⟩:=tbls b _ e1;exact⟨m1++m2,by rw[e2,Array.append_assoc]⟩
 .obtain⟨m,hn,hl⟩:=I.loc;refine⟨m,ns m hn,λi x v e1 e2 e3=>?_⟩;obtain⟨u,r,l⟩:=hl i x v e1 e2 e3;refine⟨u,r,?_⟩;rcases l with l|⟨k,c,e,z⟩
  .exact .inl l
  .exact .inr ⟨k,c,e,cellK x c e _ z⟩
 .obtain⟨v,z⟩:=I.cell x c e;exact⟨v,cellK x c e v z⟩
 .obtain⟨m,⟨o,_,_,ho,_⟩,_⟩:=I.loc;exact free _ o (λz=>(hch _ z).2.1 rfl) ho I.free
 .obtain⟨v,o,ho,hd⟩:=I.cell x c e;exact free c o (λz=>(hch c z).2.2.1 x c e rfl) ho (I.freeC x c e)
 .obtain⟨e,n,ne,nf,d⟩:=I.pin p hp;have nch:p.1∉ch:=λz=>(hch p.1 z).2.2.2 p hp rfl;exact⟨keep p.1 p.2 ne nf nch e n,free p.1 p.2 nch e n,ne,nf,d⟩
def Inv.un{t':Nat}(I:Inv X pins σ H s)(u:Un X.fs [] H H' s.heap h')(hok:HOk X.prog X.w H' h'):Inv X pins σ H' { s with heap:=h',toks:=t' }:=by
 obtain⟨m,⟨o,es,ep,ho,r⟩,_⟩:=id I.loc;obtain⟨sl,hL⟩:=u.any ho I.free 75;exact I.step (g':=s.gens) (d':=s.drawn) (ch:=[]) (λ_ z=>nomatch z) (λb o _ hb _ e n=>u.keep b o e n hb 75) (λb o _ hb _ e n=>u.slot b o e n hb 75) (λb o _ e n=>u.free b o e n 75) (λb o _ e=>u.there b o e 75) u.tups u.frzs u.tbls (λm' hm=>by
  obtain⟨o',es',ep',ho',r'⟩:=hm;rw[ho]at ho';cases ho';exact⟨_,es',ep',hL,r'⟩) hok I.bare
def Inv.call{g':Array GenState}{t':Nat}{d':Drawn}{ch:List Addr}(I:Inv X pins σ H s)(u:Un (frs X.stack) ch H H' s.heap h')(hok:HOk X.prog X.w H' h')(hg:AllBare g')
 (hch:∀b∈ch,(b∈X.ex∨X.s₀.heap.objs.size<=b)/\b≠X.env.locals/\(∀x c,X.env.cells.lookup x=some c->c≠b)/\∀p∈X.pn++pins,p.1≠b):
 Inv X pins σ H' { s with heap:=h',gens:=g',drawn:=d',toks:=t' }:=by
 obtain⟨m,⟨o,es,ep,ho,r⟩,_⟩:=id I.loc;obtain⟨sl,hL⟩:=u.any ho I.free λz=>(hch _ z).2.1 rfl;exact I.step (ch:=ch) hch (λb o hL hb hc e n=>u.keep b o e n (λz=>(mem_cons.mp (I.stkSub b z)).elim hL hb) hc) (λb o _ _ hc e n=>u.any e n hc) (λb o hc e n=>u.free b o e n hc) (λb o hc e=>u.there b o e hc) u.tups u.frzs u.tbls (λm' hm=>by
  obtain⟨o',es',ep',ho',r'⟩:=hm;rw[ho]at ho';cases ho';exact⟨_,es',ep',hL,r'⟩) hok hg
def Inv.turned{t':Nat}{it:Addr}(I:Inv X pins σ H s)(k:∀b o,b≠it->s.heap.get? b=some o->h'.get? b=some o)(hn:H it=none)(hL:it≠X.env.locals)
 (h1:it∈X.ex∨X.s₀.heap.objs.size<=it) (h2:∀x c,X.env.cells.lookup x=some c->c≠it) (h3:∀p∈X.pn++pins,p.1≠it):Inv X pins σ H { s with heap:=h',toks:=t' }:=by
 have nit:∀b u,H b=some u->b≠it:=λb u e z=>by rw[z,hn]at e;cases e
 refine I.step (g':=s.gens) (d':=s.drawn) (ch:=[it]) (λb hb=>?_) (λb o _ _ hc e _=>k b o (λz=>hc (by simp[z])) e) (λb o _ _ hc e _=>⟨o.slots,k b o (λz=>hc (by simp[z])) e⟩) (λ_ _ _ _ n=>n)
  (λb o hc e=>⟨o,k b o (λz=>hc (by simp[z])) e⟩) (λ_ _ e=>e) (λ_ _ _ e=>e) (λb ps e=>⟨#[],by rw[e];simp⟩) (λm hm=>?_) (λb u e=>?_) I.bare
 .have e:b=it:=by simpa using hb
  subst e;exact⟨h1,hL,h2,h3⟩
 .obtain⟨o,es,ep,ho,r⟩:=hm;exact⟨o,es,ep,k _ o (Ne.symm hL) ho,r⟩
 .refine(I.hok b u e).stay (λc v hc q=>k c v ?_ q) (λ_ q=>q) λ_ _ q=>q;rcases hc with z|z
  .rw[z];exact nit b u e
  .exact nit c _ z
def Inv.tok(I:Inv X pins σ H s)(t:Nat):Inv X pins σ H { s with toks:=t }:=I.un (h':=s.heap) (t':=t) Un.refl I.hok
theorem Inv.kept{t':Nat}(I:Inv X pins σ H s)(k:∀b u,s.heap.get? b=some u->h'.get? b=some u):Inv X pins σ H { s with heap:=h',toks:=t' }:=I.un (Un.kept k) (I.hok.kept k)
theorem Inv.laid{a:Addr}{o:HO}{t':Nat}(I:Inv X pins σ H s)(k:∀b u,s.heap.get? b=some u->h'.get? b=some u)(hp:66<=a)(new:ObjOk X.prog X.w (upd H a o) h' a o):
 Inv X pins σ (upd H a o) { s with heap:=h',toks:=t' }:=I.un (Un.laid k hp (I.hok.fresh hp)) (I.hok.laid k hp new)
theorem Inv.write{x e:Addr}{o:HO}{t':Nat}(I:Inv X pins σ H s)(mu:Mut (H x))(he:e=x∨H e=some (.own x))(k:∀b u,b≠e->s.heap.get? b=some u->h'.get? b=some u)(heo:∃u,h'.get? e=some u)
 (new:ObjOk X.prog X.w (upd H x o) h' x o):Inv X pins σ (upd H x o) { s with heap:=h',toks:=t' }:=I.un (Un.write mu he k heo) (I.hok.write mu he k heo new)
def Inv.pins_of{pins':List 78}(I:Inv X pins σ H s)(h:∀p∈pins',s.heap.get? p.1=some p.2/\H p.1=none/\p.1≠X.env.locals/\p.1∉X.fs/\∀v,p.2.data≠.cell v):Inv X pins' σ H s:=
 ⟨I.ok,I.os,I.bare,I.base,I.loc,I.cell,I.free,I.freeC,λp hp=>(mem_append.mp hp).elim (λz=>I.pin p (iE _ z)) (h p),I.hok,I.len⟩
def N3{N:List Str}(hN:N.Nodup){i j:Nat}{x:Str}(a:N[i]?=some x)(b:N[j]?=some x):i=j:=by
 obtain⟨h1,e1⟩:=84 a;obtain⟨h2,e2⟩:=84 b;exact(List.getElem_inj hN).mp (e1.trans e2.symm)
def Kl{M:Model}{A:Around}{E:Value->Shared->Prop}{i:Nat}{x:Str}{v:V}{u:Value}{Q:Unit->Shared->Prop}(I:Inv X pins σ H s)(hN:X.N.Nodup)(hi:X.N[i]?=some x)(hx:Loc X.env.scope x)(r:RelV v u)
 (h:∀s',Inv X pins (σ.set i (some v)) H s'->(∃a,Heap.SameBut a s.heap s'.heap/\(a=X.env.locals∨X.env.cells.lookup x=some a))->Q () s') (hf:X.fn x=true∨X.env.scope.names.lookup x=some .local:=by first|exact .inl rfl|exact .inr rfl|assumption):wpAny M A (storeName X.env x u) Q E s:=by
 obtain⟨m,hn,hl⟩:=id I.loc;have hcls:(X.env.scope.kind==.class||(X.env.scope.kind==.module&&X.env.locals != X.env.globals))=false:=by rw[I.ok.kind];rfl
 have hiσ:i<σ.length:=by rw[I.len];exact(84 hi).1
 have cne:=I.cne;have tracked:∀{a:Addr} {h':Heap},(∃o,s.heap.get? a=some o/\H a=none)->Heap.SameBut a s.heap h'->HOk X.prog X.w H h':=λ{a h'} ha hs b ob e=>by
  obtain⟨_,_,hfree⟩:=ha;refine(I.hok b ob e).stay (λc w' hc q=>(hs.2 c ?_).trans q) (λ_ q=>q) λ_ _ q=>q;rintro rfl;rcases hc with rfl|hc
  .rw[hfree]at e;cases e
  .rw[hfree]at hc;cases hc
 rcases hx with hk|hk
 .refine wpAny_storeName_local hk hn (λh' hn' hs=>?_) hcls;obtain⟨oL,_,_,hoL,_⟩:=id hn;refine h _ ⟨I.ok,I.os,I.bare,⟨λb o e n hb hx=>?_,λb o e n hb hx=>?_,I.base.free,λb o e hx=>?_,I.base.tups,I.base.frzs,I.base.tbls⟩,⟨_,hn',λj y v' e1 e2 e3=>?_⟩,λy c e=>?_,I.free,I.freeC,λp hp=>?_,tracked ⟨oL,hoL,I.free⟩ hs,by simpa using I.len⟩ ⟨_,hs,.inl rfl⟩
  .exact(hs.2 b (gV (ie (90 e) I.ok.above))).trans (I.base.keep b o e n hb hx)
  .obtain⟨sl,e1⟩:=I.base.slot b o e n hb hx;exact⟨sl,(hs.2 b (gV (ie (90 e) I.ok.above))).trans e1⟩
  .obtain⟨o',e1⟩:=I.base.there b o e hx;exact⟨o',(hs.2 b (gV (ie (90 e) I.ok.above))).trans e1⟩
  .by_cases hj:j=i
   .subst hj;rw[hi]at e1;cases e1;rw[List.getElem?_set_self hiσ]at e2;cases e2;exact⟨u,r,.inl ⟨hk,by simp⟩⟩
   .rw[List.getElem?_set_ne (Ne.symm hj)]at e2;obtain⟨u',r',q⟩:=hl j y v' e1 e2 e3;refine⟨u',r',?_⟩;rcases q with⟨k,e⟩|⟨k,c,e,z⟩
    .refine .inl ⟨k,?_⟩;have:y≠x:=λe=>hj (N3 hN e1 (e ▸ hi));simp[this,e]
    .exact .inr ⟨k,c,e,z.sameBut hs (cne y c e)⟩
  .obtain⟨w',z⟩:=I.cell y c e;exact⟨w',z.sameBut hs (cne y c e)⟩
  .obtain⟨e,n,ne,nf,d⟩:=I.pin p hp;exact⟨(hs.2 p.1 ne).trans e,n,ne,nf,d⟩
 .have hfn:X.fn x=true:=by
   rcases hf with z|z
   .exact z
   .rw[z]at hk;cases hk
  obtain⟨c,hc⟩:=I.ok.has x (.inl hk);obtain⟨w',z⟩:=I.cell x c hc;refine wpAny_storeName_cell I.ok.kind hk hc z (λh' hc' hs=>?_);obtain⟨oc,hoc,hocd⟩:=id z;refine h { s with heap:=h' } ⟨I.ok,I.os,I.bare,⟨λb o e n hb hx=>?_,λb o e n hb hx=>?_,I.base.free,λb o e hx=>?_,I.base.tups,I.base.frzs,I.base.tbls⟩,⟨m,hn.sameBut hs (Ne.symm (cne x c hc)),λj y v' e1 e2 e3=>?_⟩,λy c' e=>?_,I.free,I.freeC,λp hp=>?_,tracked ⟨oc,hoc,I.freeC x c hc⟩ hs,by simpa using I.len⟩ ⟨c,hs,.inr hc⟩
  .exact(hs.2 b (gV (ie (90 e) (I.ok.cab x c hfn hc)))).trans (I.base.keep b o e n hb hx)
  .obtain⟨sl,e1⟩:=I.base.slot b o e n hb hx;exact⟨sl,(hs.2 b (gV (ie (90 e) (I.ok.cab x c hfn hc)))).trans e1⟩
  .obtain⟨o',e1⟩:=I.base.there b o e hx;exact⟨o',(hs.2 b (gV (ie (90 e) (I.ok.cab x c hfn hc)))).trans e1⟩
  .by_cases hj:j=i
   .subst hj;rw[hi]at e1;cases e1;rw[List.getElem?_set_self hiσ]at e2;cases e2;exact⟨u,r,.inr ⟨.inl hk,c,hc,hc'⟩⟩
   .rw[List.getElem?_set_ne (Ne.symm hj)]at e2;obtain⟨u',r',q⟩:=hl j y v' e1 e2 e3;refine⟨u',r',?_⟩;rcases q with q|⟨k,c',e,z'⟩
    .exact .inl q
    .refine .inr ⟨k,c',e,z'.sameBut hs ?_⟩;rintro rfl;exact hj (N3 hN e1 (I.ok.inj _ _ _ e hc ▸ hi))
  .by_cases hcc:c'=c
   .subst hcc;exact⟨_,hc'⟩
   .obtain⟨w2,z2⟩:=I.cell y c' e;exact⟨w2,z2.sameBut hs hcc⟩
  .obtain⟨e,n,ne,nf,d⟩:=I.pin p hp;refine⟨(hs.2 p.1 ?_).trans e,n,ne,nf,d⟩;intro q;rw[q,hoc]at e;have q':oc=p.2:=114 e;exact d w' (by rw[<- q'];exact hocd)
def MU{M:Model}{A:Around}{E:Value->Shared->Prop}{i:Nat}{x:Str}{v:V}{u:Value}{Q:Unit->Shared->Prop}(I:Inv X pins σ H s)(hN:X.N.Nodup)(hi:X.N[i]?=some x)(hx:Loc X.env.scope x)(r:RelV v u)
 (h:∀s',Inv X pins (σ.set i (some v)) H s'->Q () s') (hf:X.fn x=true∨X.env.scope.names.lookup x=some .local:=by first|exact .inl rfl|exact .inr rfl|assumption):wpAny M A (storeName X.env x u) Q E s:=
 Kl I hN hi hx r (λs' I' _=>h s' I') hf
def Inv.call'{s':Shared}{ch:List Addr}(I:Inv X pins σ H s)(ho:s'.os=s.os)(u:Un (frs X.stack) ch H H' s.heap s'.heap)(hok:HOk X.prog X.w H' s'.heap)(hg:AllBare s'.gens)
 (hch:∀b∈ch,(b∈X.ex∨X.s₀.heap.objs.size<=b)/\b≠X.env.locals/\(∀x c,X.env.cells.lookup x=some c->c≠b)/\∀p∈X.pn++pins,p.1≠b):Inv X pins σ H' s':=by
 obtain⟨h',g',d',t',o'⟩:=s';have e:o'=s.os:=ho;subst e;exact I.call (g':=g') (t':=t') (d':=d') u hok hg hch
end
abbrev XK:=Value->Option Addr->Hp->Prop
abbrev St:=List (Option V)
abbrev VK:=V->Hp->Prop
abbrev TE:=St->Hp->VK->Prop
abbrev TT:=St->Hp->(Bool->Hp->Prop)->Prop
abbrev TA:=St->Hp->(List V->Hp->Prop)->Prop
structure Ends where
 nx:St->Hp->Prop
 rt:VK
 bk:St->Hp->Prop:=λ_ _=>False
 ct:St->Hp->Prop:=λ_ _=>False
abbrev TS:=Ends->St->Hp->Prop
def EP(X:Cx)(pins:List 78)(σ:St)(Q:VK)(u:Value)(s':Shared):Prop:=∃v H',Inv X pins σ H' s'/\RelV v u/\Q v H'
def TP(X:Cx)(pins:List 78)(σ:St)(Q:Bool->Hp->Prop)(b:Bool)(s':Shared):Prop:=∃H',Inv X pins σ H' s'/\Q b H'
def AP(X:Cx)(pins:List 78)(σ:St)(Q:List V->Hp->Prop)(us:List Value)(s':Shared):Prop:=∃vs H',Inv X pins σ H' s'/\Vals vs us/\Q vs H'
def SP(X:Cx)(pins:List 78)(D:Ends)(f:Flow)(s':Shared):Prop:=
 match f with
 |.next=>∃σ' H',Inv X pins σ' H' s'/\D.nx σ' H'
 |.brk=>∃σ' H',Inv X pins σ' H' s'/\D.bk σ' H'
 |.cont=>∃σ' H',Inv X pins σ' H' s'/\D.ct σ' H'
 |.ret u=>∃v σ' H',Inv X pins σ' H' s'/\RelV v u/\D.rt v H'
def PE(X:Cx)(e:Expr)(t:TE):Prop:=
 ∀(pins:List 78) (s:Shared) (σ:St) (H:Hp) (Q:VK),Inv X pins σ H s->t σ H Q->wpAny 69 X.A (eval e X.env) (EP X pins σ Q) X.xe s
def PT(X:Cx)(e:Expr)(t:TT):Prop:=
 ∀(pins:List 78) (s:Shared) (σ:St) (H:Hp) (Q:Bool->Hp->Prop),Inv X pins σ H s->t σ H Q->wpAny 69 X.A (isTrue e X.env (eval e X.env)) (TP X pins σ Q) X.xe s
def PW(X:Cx)(e:Expr)(t:TT):Prop:=
 ∀(whole:Sem Value) (pins:List 78) (s:Shared) (σ:St) (H:Hp) (Q:Bool->Hp->Prop),Inv X pins σ H s->t σ H Q->wpAny 69 X.A (isTrue e X.env whole) (TP X pins σ Q) X.xe s
def PW.pt{X:Cx}{e:Expr}{t:TT}(h:PW X e t):PT X e t:=h _
def PA(X:Cx)(es:List Expr)(t:TA):Prop:=
 ∀(pos:Pos) (pins:List 78) (s:Shared) (σ:St) (H:Hp) (Q:List V->Hp->Prop),Inv X pins σ H s->t σ H Q->wpAny 69 X.A (spliced (backTo pos (starEach es X.env))) (AP X pins σ Q) X.xe s
def PS(X:Cx)(st:Stmt)(t:TS):Prop:=
 ∀(pins:List 78) (s:Shared) (σ:St) (H:Hp) (D:Ends),Inv X pins σ H s->t D σ H->wpAny 69 X.A (exec st X.env) (SP X pins D) X.xe s
def PSs(X:Cx)(st:List Stmt)(t:TS):Prop:=
 ∀(pins:List 78) (s:Shared) (σ:St) (H:Hp) (D:Ends),Inv X pins σ H s->t D σ H->wpAny 69 X.A (execs st X.env) (SP X pins D) X.xe s
def thn{α:Type}{t:Sem α}{Q Q':α->Shared->Prop}{M:Model}{A:Around}{E:Value->Shared->Prop}{s:Shared}(h:wpAny M A t Q E s)(hQ:∀a s,Q a s->Q' a s):wpAny M A t Q' E s:=hZ h hQ λ_ _ x=>x
section
variable{X:Cx}
def bin{a b:Expr}{ta tb:TE}(ha:PE X a ta)(hb:PE X b tb){pins:List 78}{s:Shared}{σ:St}{H:Hp}{R:V->V->Hp->Prop}(I:Inv X pins σ H s)(h:ta σ H λx H1=>tb σ H1 λy H2=>R x y H2)
 {α:Type} {Q:α->Shared->Prop} {f:Value->Value->Sem α}
 (hf:∀v u s2 x y H2,Inv X pins σ H2 s2->RelV x v->RelV y u->R x y H2->wpAny 69 X.A (f v u) Q X.xe s2):
 wpAny 69 X.A (eval a X.env) (λv s₁=>wpAny 69 X.A (eval b X.env) (λu s₂=>wpAny 69 X.A (f v u) Q X.xe s₂) X.xe s₁) X.xe s:=by
 refine thn (ha pins s σ H _ I h) λv s1 ⟨x,H1,I1,r1,q1⟩=>?_;refine thn (hb pins s1 σ H1 _ I1 q1) λu s2 ⟨y,H2,I2,r2,q2⟩=>?_;exact hf v u s2 x y H2 I2 r1 r2 q2
def PP(i:Nat):TE:=λσ H Q=>∃v,σ[i]?=some (some v)/\Q v H
def tC(v:V):TE:=λ_ H Q=>Q v H
def Ro{i:Nat}{x:Str}{pos:Pos}(hN:X.N[i]?=some x)(hv:Vis X.env.scope x)(hd:(x==("__debug__":Str))=false:=by decide)(hcd:(x==("__classdict__":Str))=false:=by decide):PE X (.Name x pos) (PP i):=by
 intro pins s σ H Q I h;obtain⟨v,e,h⟩:=h;obtain⟨m,hn,hl⟩:=I.loc;obtain⟨u,r,l⟩:=hl i x v hN e hv;have fin:EP X pins σ Q u s:=⟨v,H,I,r,h⟩
 rcases l with⟨hk,hm⟩|⟨hk,c,hc,hcell⟩
 .exact wpAny_Name (wpAny_loadName_local I.ok.kind hk hn hm fin) hd
 .rcases hk with hk|hk
  .exact wpAny_Name (wpAny_loadName_cell I.ok.kind hk hc hcell fin) hd
  .exact wpAny_Name (wpAny_loadName_free I.ok.kind hk hc hcell fin hcd) hd
def aL{i j pos}:PE X (.Constant 106 j pos) (tC 106):=λ_ _ _ H _ I h=>wpAny_Constant_int ⟨.int i,H,I.tok _,⟨_,rfl⟩,h⟩
def cK{b j pos}:PE X (.Constant (.bool b) j pos) (tC (.bl b)):=λ_ _ _ H _ I h=>Constant_bool ⟨.bl b,H,I,rfl,h⟩
def aI{j pos}:PE X (.Constant .none j pos) (tC .non):=λ_ _ _ H _ I h=>Constant_none ⟨.non,H,I,rfl,h⟩
def aF{x j pos}:PE X (.Constant (.str x) j pos) (tC (.str x)):=λ_ _ _ H _ I h=>Calls.Constant_str ⟨.str x,H,I.tok _,⟨_,rfl⟩,h⟩
def Gl(X:Cx)(x:Str):Prop:=X.env.kindOf x=some .globalImplicit
def Xz{E:Value->Shared->Prop}{pins:List 78}{s:Shared}{σ:St}{H:Hp}{x:Str}{u:Value}{pos:Pos}{Q:Value->Shared->Prop}(I:Inv X pins σ H s)(hg:Gl X x)(hm:X.mg x=some u)(h:Q u s)
 (hd:(x==("__debug__":Str))=false:=by decide):wpAny 69 X.A (eval (.Name x pos) X.env) Q E s:=
 Calls.Name_function_global I.ok.kind hg (Calls.loadGlobal_global (by rw[I.ok.glob];exact I.mod.glob.keeps I.bk) hm h) hd
def Cn{E:Value->Shared->Prop}{pins:List 78}{s:Shared}{σ:St}{H:Hp}{x:Str}{u:Value}{pos:Pos}{Q:Value->Shared->Prop}(I:Inv X pins σ H s)(hg:Gl X x)(hm:X.mg x=none)(hv:bootBuiltins x=some u)(h:Q u s)
 (hn:x≠"__name__":=by decide) (hd:(x==("__debug__":Str))=false:=by decide):wpAny 69 X.A (eval (.Name x pos) X.env) Q E s:=by
 obtain⟨mb,h1,h2⟩:=I.mod.blt;exact Calls.Name_function_global I.ok.kind hg (Calls.loadGlobal_builtin (by rw[I.ok.glob];exact I.mod.glob.keeps I.bk) hm (by rw[I.ok.blt];exact h1.keeps I.bk) ((h2 x hn).trans hv) h) hd
variable{a b:Expr}{ta tb:TE}{pos:Pos}
def PC(X:Cx)(op:CmpOp)(a b:Expr)(t:TE):Prop:=
 ∀(pins:List 78) (s:Shared) (σ:St) (H:Hp) (Q:VK),Inv X pins σ H s->t σ H Q ->
   wpAny 69 X.A (eval a X.env) (λv s₁=>wpAny 69 X.A (eval b X.env) (λu s₂=>wpAny 69 X.A (compareOp op v u) (EP X pins σ Q) X.xe s₂) X.xe s₁) X.xe s
def N4(b:Expr){op:CmpOp}(h:op≠.In)(h2:op≠.NotIn):behindInMarks op b=false:=by
 have e1:(op==CmpOp.In)=false:=by cases op<;>first|rfl|exact absurd rfl h
 have e2:(op==CmpOp.NotIn)=false:=by cases op<;>first|rfl|exact absurd rfl h2
 cases b<;>simp[behindInMarks,e1,e2]
def PX(ta:TE):TE:=λσ H Q=>ta σ H λx H1=>Q (.bl (decide (x=.non))) H1
def Lz(ta:TE):TE:=λσ H Q=>ta σ H λx H1=>Q (.bl (!decide (x=.non))) H1
def RelV.none_iff{x:V}{v:Value}(r:RelV x v):(v==Value.none)=decide (x=.non):=by
 cases x with
 |non=>cases r;rfl
 |bl _=>cases r;rfl
 |int _=>obtain⟨t,rfl⟩:=r;rfl
 |str _=>obtain⟨t,rfl⟩:=r;rfl
 |byt _=>obtain⟨t,rfl⟩:=r;rfl
 |flt _=>obtain⟨t,rfl⟩:=r;rfl
 |ref _=>cases r;rfl
 |ty _=>cases r;rfl
def Rq{j pos'}(ha:PE X a ta):PC X .Is a (.Constant .none j pos') (PX ta):=by
 intro pins s σ H Q I h;refine thn (ha pins s σ H _ I h) λv s1 ⟨x,H1,I1,r1,q1⟩=>?_;exact Constant_none (is_none_gen ⟨.bl _,H1,I1,by rw[r1.none_iff];rfl,q1⟩)
def Og{j pos'}(ha:PE X a ta):PC X .IsNot a (.Constant .none j pos') (Lz ta):=by
 intro pins s σ H Q I h;refine thn (ha pins s σ H _ I h) λv s1 ⟨x,H1,I1,r1,q1⟩=>?_;exact Constant_none (isnot_none_gen ⟨.bl _,H1,I1,by rw[r1.none_iff];rfl,q1⟩)
def tB(t:TE):TT:=λσ H Q=>t σ H λx H1=>∃c,x=.bl c/\Q c H1
def Rp{op:CmpOp}{t:TE}(h:PC X op a b t)(h1:behindInMarks op b=false:=by first|exact N4 _ 77 77|rfl):PE X (.Compare a [op] [b] pos) t:=λpins s σ H Q I hw=>wpAny_Compare1 (h pins s σ H Q I hw) h1
def Rh{op:CmpOp}{t:TE}(h:PC X op a b t)(h1:behindInMarks op b=false:=by first|exact N4 _ 77 77|rfl):PT X (.Compare a [op] [b] pos) (tB t):=by
 intro pins s σ H Q I hw;refine wpAny_isTrue_Compare1 (thn (h pins s σ H _ I hw) λv s1 h1=>thn h1 λu s2 h2=>thn h2 λc s3 ⟨x,H1,I1,r1,q1⟩=>?_) h1;obtain⟨d,rfl,q⟩:=q1;cases r1;exact iW ⟨H1,I1,q⟩
variable{tA tB':TT}{rest:List Expr}
def TU(t u:TT):TT:=λσ H Q=>t σ H λc H1=>if c=true then u σ H1 Q else Q false H1
def tOr(t u:TT):TT:=λσ H Q=>t σ H λc H1=>if c=true then Q true H1 else u σ H1 Q
def TL(t:TT):TT:=λσ H Q=>t σ H λc H1=>Q (!c) H1
def X9(ha:PT X a tA):PW X (.BoolOp .And [a] pos) tA:=by
 intro wh pins s σ H Q I h;refine isTrue_and (thn (ha pins s σ H Q I h) λc s1 e=>?_);cases c with
 |true=>exact isTrue_and_nil e
 |false=>exact e
def Zu(ha:PT X a tA):PW X (.BoolOp .Or [a] pos) tA:=by
 intro wh pins s σ H Q I h;refine isTrue_or (thn (ha pins s σ H Q I h) λc s1 e=>?_);cases c with
 |false=>exact isTrue_or_nil e
 |true=>exact e
def Zv(ha:PT X a tA)(hb:PW X (.BoolOp .And (b::rest) pos) tB'):PW X (.BoolOp .And (a::b::rest) pos) (TU tA tB'):=by
 intro wh pins s σ H Q I h;refine isTrue_and (thn (ha pins s σ H _ I h) λc s1 ⟨H1,I1,q1⟩=>?_);cases c with
 |true=>exact hb wh pins s1 σ H1 Q I1 q1
 |false=>exact⟨H1,I1,q1⟩
def cE(ha:PT X a tA)(hb:PW X (.BoolOp .Or (b::rest) pos) tB'):PW X (.BoolOp .Or (a::b::rest) pos) (tOr tA tB'):=by
 intro wh pins s σ H Q I h;refine isTrue_or (thn (ha pins s σ H _ I h) λc s1 ⟨H1,I1,q1⟩=>?_);cases c with
 |true=>exact⟨H1,I1,q1⟩
 |false=>exact hb wh pins s1 σ H1 Q I1 q1
def Zw(ha:PT X a tA):PT X (.UnaryOp .Not a pos) (TL tA):=by
 intro pins s σ H Q I h;exact isTrue_not (ha pins s σ H (λc H1=>Q (!c) H1) I h)
def Pd(ta tb:TE):TE:=λσ H Q=>ta σ H λx H1=>∃c,x=.bl c/\if c=true then tb σ H1 Q else Q (.bl false) H1
def TK(ta tb:TE):TE:=λσ H Q=>ta σ H λx H1=>∃c,x=.bl c/\if c=true then Q (.bl true) H1 else tb σ H1 Q
def PR(ta:TE):TE:=λσ H Q=>ta σ H λx H1=>∃c,x=.bl c/\Q (.bl (!c)) H1
def aG{op}{t:TE}(h:PE X a t):PE X (.BoolOp op [a] pos) t:=λpins s σ H Q I hw=>BoolOp_one (h pins s σ H Q I hw)
def aM(ha:PE X a ta)(hb:PE X (.BoolOp .And (b::rest) pos) tb):PE X (.BoolOp .And (a::b::rest) pos) (Pd ta tb):=by
 intro pins s σ H Q I h;refine BoolOp_and (thn (ha pins s σ H _ I h) λv s1 ⟨x,H1,I1,r1,q1⟩=>?_);obtain⟨c,rfl,q1⟩:=q1;cases r1;refine iW ?_;cases c with
 |true=>exact hb pins s1 σ H1 Q I1 q1
 |false=>exact⟨.bl false,H1,I1,rfl,q1⟩
def cI(ha:PE X a ta)(hb:PE X (.BoolOp .Or (b::rest) pos) tb):PE X (.BoolOp .Or (a::b::rest) pos) (TK ta tb):=by
 intro pins s σ H Q I h;refine BoolOp_or (thn (ha pins s σ H _ I h) λv s1 ⟨x,H1,I1,r1,q1⟩=>?_);obtain⟨c,rfl,q1⟩:=q1;cases r1;refine iW ?_;cases c with
 |false=>exact hb pins s1 σ H1 Q I1 q1
 |true=>exact⟨.bl true,H1,I1,rfl,q1⟩
def aH(ha:PE X a ta):PE X (.UnaryOp .Not a pos) (PR ta):=by
 intro pins s σ H Q I h;refine UnaryOp_ (thn (ha pins s σ H _ I h) λv s1 ⟨x,H1,I1,r1,q1⟩=>?_);obtain⟨c,rfl,q1⟩:=q1;cases r1;exact not_of (iW ⟨.bl (!c),H1,I1,rfl,q1⟩)
def tIf(t:TT)(ta tb:TE):TE:=λσ H Q=>t σ H λc H1=>if c=true then ta σ H1 Q else tb σ H1 Q
def UV{c:Expr}(hc:PT X c tA)(ha:PE X a ta)(hb:PE X b tb):PE X (.IfExp c a b pos) (tIf tA ta tb):=by
 intro pins s σ H Q I h;refine wpAny_IfExp (thn (hc pins s σ H _ I h) λd s1 ⟨H1,I1,q1⟩=>?_);cases d with
 |true=>exact ha pins s1 σ H1 Q I1 q1
 |false=>exact hb pins s1 σ H1 Q I1 q1
end
def SqL(K:Frag)(H:Hp)(a:Addr)(xs:List V):Prop:=
 Rd H a (.lst xs) ∨
  ∃(o:Obj) (its:Array Value) (n:Nat),K.lookup a=some o/\o.cls=.type "list"/\o.dict=none/\o.data=.seq its n/\its.size<=sizeLine/\Vals xs its.toList
def SqT(K:Frag)(H:Hp)(a:Addr)(xs:List V):Prop:=
 Rd H a (.tup xs) ∨
  ∃(o:Obj) (its:Array Value) (n:Nat),K.lookup a=some o/\o.cls=.type "tuple"/\o.dict=none/\o.data=.seq its n/\its.size<=sizeLine/\Vals xs its.toList
def eC:Value->Option V
 |.none=>some .non
 |.bool b=>some (.bl b)
 |.int i _=>some 106
 |.str x _=>some (.str x)
 |.bytes b _=>some (.byt b)
 |.float b _=>some (.flt b)
 |.ref a=>some (.ref a)
 |.type n=>some (.ty n)
 |_=>none
def RelV.abs{x:V}{u:Value}(r:RelV x u):eC u=some x:=by
 cases x with
 |non=>cases r;rfl
 |bl _=>cases r;rfl
 |int _=>obtain⟨t,rfl⟩:=r;rfl
 |str _=>obtain⟨t,rfl⟩:=r;rfl
 |byt _=>obtain⟨t,rfl⟩:=r;rfl
 |flt _=>obtain⟨t,rfl⟩:=r;rfl
 |ref _=>cases r;rfl
 |ty _=>cases r;rfl
theorem RelV.inj{x y:V}{u:Value}(r:RelV x u)(q:RelV y u):x=y:=114 (r.abs.symm.trans q.abs)
theorem Vals.inj:∀{xs ys:List V} {us:List Value},Vals xs us->Vals ys us->xs=ys
 |_,_,_,.nil,.nil=>rfl
 |_,_,_,.cons r t,.cons r' t'=>by rw[r.inj r',Vals.inj t t']
section
variable{X:Cx}{pins:List 78}{σ:St}{H:Hp}{s:Shared}{a:Addr}{xs ys:List V}
def SqL.of{K:Frag}(h:H a=some (.lst xs)):SqL K H a xs:=.inl (.inl h)
def SqT.of{K:Frag}(h:H a=some (.tup xs)):SqT K H a xs:=.inl (.inl h)
def Inv.list(I:Inv X pins σ H s)(h:SqL X.K H a xs):∃its:List Value,Vals xs its/\PlainL s.heap a 109/\96<=sizeLine:=by
 rcases h with h|⟨o,its,n,hk,hc,hd,hs,hz,r⟩
 .obtain⟨z,its,n,r,e⟩:=h.ok I.hok;exact⟨its,r,⟨_,n,e,rfl,rfl,rfl⟩,z⟩
 .refine⟨its.toList,r,⟨o,n,I.kIn a o hk,hc,hd,by simpa using hs⟩,?_⟩;have e:=r.length;simp only[Array.length_toList]at e;omega
def Inv.tuple(I:Inv X pins σ H s)(h:SqT X.K H a xs):∃its:List Value,Vals xs its/\IsTup s.heap a 109/\96<=sizeLine:=by
 rcases h with h|⟨o,its,n,hk,hc,_,hs,hz,r⟩
 .obtain⟨z,its,r,p⟩:=h.ok I.hok;exact⟨its,r,p.t,z⟩
 .refine⟨its.toList,r,⟨o,I.kIn a o hk,hc,n,by simpa using hs⟩,?_⟩;have e:=r.length;simp only[Array.length_toList]at e;omega
def Inv.list_inj(I:Inv X pins σ H s)(h:SqL X.K H a xs)(h':SqL X.K H a ys):xs=ys:=by
 obtain⟨its,r,⟨o,n,e,_,_,d⟩,_⟩:=I.list h;obtain⟨its',r',⟨o',n',e',_,_,d'⟩,_⟩:=I.list h';rw[e]at e';cases e';rw[d]at d'
 injection d' with d1 _
 have:its=its':=by simpa using iw Array.toList d1
 subst this;exact r.inj r'
def Inv.tuple_inj(I:Inv X pins σ H s)(h:SqT X.K H a xs)(h':SqT X.K H a ys):xs=ys:=by
 obtain⟨its,r,⟨o,e,_,n,d⟩,_⟩:=I.tuple h;obtain⟨its',r',⟨o',e',_,n',d'⟩,_⟩:=I.tuple h';rw[e]at e';cases e';rw[d]at d'
 injection d' with d1 _
 have:its=its':=by simpa using iw Array.toList d1
 subst this;exact r.inj r'
end
abbrev Cx.wish(X:Cx)(E:Value->Shared->Prop):Cx:={ X with xe:=E }
abbrev Cx.nox(X:Cx):Cx:=X.wish λ_ _=>False
theorem Cx.Ok.wish{X:Cx}(ok:X.Ok)(E:Value->Shared->Prop):(X.wish E).Ok:=
 ⟨ok.mod,ok.kind,ok.glob,ok.blt,ok.above,ok.inj,ok.has,ok.cab,ok.hd,ok.frames,ok.stk,ok.exf,ok.bs,ok.bsz,ok.noex,ok.exfs,ok.funs,ok.frf⟩
def Cx.Ok.unwish{X:Cx}{E:Value->Shared->Prop}(ok:(X.wish E).Ok):X.Ok:=
 ⟨ok.mod,ok.kind,ok.glob,ok.blt,ok.above,ok.inj,ok.has,ok.cab,ok.hd,ok.frames,ok.stk,ok.exf,ok.bs,ok.bsz,ok.noex,ok.exfs,ok.funs,ok.frf⟩
section
variable{X:Cx}{pins:List 78}{σ:St}{H:Hp}{s:Shared}{E:Value->Shared->Prop}
theorem Inv.wish(I:Inv X pins σ H s)(E:Value->Shared->Prop):Inv (X.wish E) pins σ H s:=⟨I.ok.wish E,I.os,I.bare,I.base,I.loc,I.cell,I.free,I.freeC,I.pin,I.hok,I.len⟩
theorem Inv.unwish(I:Inv (X.wish E) pins σ H s):Inv X pins σ H s:=⟨I.ok.unwish,I.os,I.bare,I.base,I.loc,I.cell,I.free,I.freeC,I.pin,I.hok,I.len⟩
theorem SP.unwish{D:Ends}{f:Flow}{s':Shared}(h:SP (X.wish E) pins D f s'):SP X pins D f s':=by
 cases f with
 |next=>obtain⟨σ',H',I,q⟩:=h;exact⟨σ',H',I.unwish,q⟩
 |brk=>obtain⟨σ',H',I,q⟩:=h;exact⟨σ',H',I.unwish,q⟩
 |cont=>obtain⟨σ',H',I,q⟩:=h;exact⟨σ',H',I.unwish,q⟩
 |ret u=>obtain⟨v,σ',H',I,r,q⟩:=h;exact⟨v,σ',H',I.unwish,r,q⟩
theorem PSs.nox{st:List Stmt}{t:TS}(h:PSs X.nox st t):PSs X st t:=λpins s σ H D I hw=>
 hZ (h pins s σ H D (I.wish _) hw) (λ_ _ q=>q.unwish) λ_ _ z=>False.elim z
end
section
variable{X:Cx}{st:Stmt}{rest:List Stmt}{t u:TS}{e:Expr}{te:TE}{pos:Pos}
def JO:TS:=λD σ H=>D.nx σ H
def TH(t u:TS):TS:=λD σ H=>t { D with nx:=u D } σ H
def XB:PSs X [] JO:=λ_ _ σ H _ I h=>jy ⟨σ,H,I,h⟩
def UK(h1:PS X st t)(h2:PSs X rest u):PSs X (st::rest) (TH t u):=by
 intro pins s σ H D I h;refine wpAny_execs_cons (thn (h1 pins s σ H { D with nx:=u D } I h) λf s1 q=>?_);cases f with
 |next=>
  obtain⟨σ',H',I',q⟩:=q;exact h2 pins s1 σ' H' D I' q
 |ret v=>exact q
 |brk=>exact q
 |cont=>exact q
def XA(h1:PS X st t):PSs X [st] t:=by
 intro pins s σ H D I h;refine wpAny_execs_cons (thn (h1 pins s σ H D I h) λf s1 q=>?_);cases f with
 |next=>exact jy q
 |ret v=>exact q
 |brk=>exact q
 |cont=>exact q
def XE:PS X (.Pass pos) JO:=λ_ _ σ H _ I h=>wpAny_Pass ⟨σ,H,I,h⟩
def Inv.quiet{pins:List 78}{σ:St}{H:Hp}{s:Shared}(I:Inv X pins σ H s):interactive X.env=false:=by simp[interactive,I.ok.kind]
def PY(te:TE):TS:=λD σ H=>te σ H λ_ H1=>D.nx σ H1
def XF(he:PE X e te)(hs:swapsWith e none pos.line X.env=pure false:=by rfl):PS X (.Expr e pos) (PY te):=by
 intro pins s σ H D I h;exact wpAny_Expr_any (thn (he pins s σ H _ I h) λv s1 ⟨x,H1,I1,r1,q1⟩=>⟨σ,H1,I1,q1⟩) I.quiet hs
def TJ(te:TE):TS:=λD σ H=>te σ H D.rt
def Zz(he:PE X e te):PS X (.Return (some e) pos) (TJ te):=by
 intro pins s σ H D I h;exact wpAny_Return_some (thn (he pins s σ H _ I h) λv s1 ⟨x,H1,I1,r1,q1⟩=>⟨x,σ,H1,I1,r1,q1⟩)
def TQ(c:TT)(t u:TS):TS:=λD σ H=>c σ H λb H1=>if b=true then t D σ H1 else u D σ H1
def cG{c:Expr}{a b:List Stmt}{tc:TT}(hc:PT X c tc)(ha:PSs X a t)(hb:PSs X b u):PS X (.If c a b pos) (TQ tc t u):=by
 intro pins s σ H D I h;refine wpAny_If (thn (hc pins s σ H _ I h) λd s1 ⟨H1,I1,q1⟩=>?_);cases d with
 |true=>exact ha pins s1 σ H1 D I1 q1
 |false=>exact hb pins s1 σ H1 D I1 q1
def MP:TS:=λ_ _ _=>False
def UM:PS X st MP:=λ_ _ _ _ _ _ h=>h.elim
end
abbrev TG:=V->St->Hp->(St->Hp->Prop)->Prop
abbrev TGs:=List V->St->Hp->(St->Hp->Prop)->Prop
def PG(X:Cx)(target:Expr)(t:TG):Prop:=
 ∀(pins:List 78) (s:Shared) (σ:St) (H:Hp) (v:V) (u:Value) (Q:St->Hp->Prop),Inv X pins σ H s->RelV v u->t v σ H Q ->
   wpAny 69 X.A (assign target X.env u) (λ_ s'=>∃σ' H',Inv X pins σ' H' s'/\Q σ' H') X.xe s
def PGs(X:Cx)(ts:List Expr)(t:TGs):Prop:=
 ∀(pins:List 78) (s:Shared) (σ:St) (H:Hp) (vs:List V) (us:List Value) (Q:St->Hp->Prop),Inv X pins σ H s->Vals vs us->t vs σ H Q ->
   wpAny 69 X.A (assignInOrder ((assignEach ts X.env).map (·.2)) us) (λ_ s'=>∃σ' H',Inv X pins σ' H' s'/\Q σ' H') X.xe s
abbrev Nr:=V->V->V->Hp->(Hp->Prop)->Prop
def V7(X:Cx)(t:Nr):Prop:=
 ∀(pins:List 78) (s:Shared) (σ:St) (H:Hp) (o i v:V) (ov iv u:Value) (Q:Hp->Prop),Inv X pins σ H s->RelV o ov->RelV i iv->RelV v u->t o i v H Q ->
   wpAny 69 X.A (setItem ov iv u) (λ_ s'=>∃H',Inv X pins σ H' s'/\Q H') X.xe s
abbrev TIp:=V->V->Hp->VK->Prop
def PIp(X:Cx)(op:Operator)(t:TIp):Prop:=
 ∀(pins:List 78) (s:Shared) (σ:St) (H:Hp) (x y:V) (v u:Value) (Q:VK),Inv X pins σ H s->RelV x v->RelV y u->t x y H Q ->
   wpAny 69 X.A (inplaceOp op v u) (EP X pins σ Q) X.xe s
section
variable{X:Cx}{pos:Pos}
def EG(i:Nat):TG:=λv σ H Q=>Q (σ.set i (some v)) H
def XV{i:Nat}{x:Str}(hN:X.N.Nodup)(hi:X.N[i]?=some x)(hx:Loc X.env.scope x)(hf:X.fn x=true∨X.env.scope.names.lookup x=some .local:=by first|exact .inl rfl|exact .inr rfl|assumption):PG X (.Name x pos) (EG i):=by
 intro pins s σ H v u Q I r h;exact wpAny_assign_Name (MU I hN hi hx r (λs' I'=>⟨_,H,I',h⟩) hf)
def Uu:TGs:=λvs σ H Q=>vs=[]/\Q σ H
def Qb(t:TG)(u:TGs):TGs:=λvs σ H Q=>∃v r,vs=v::r/\t v σ H λσ' H'=>u r σ' H' Q
def XT:PGs X [] Uu:=by
 intro pins s σ H vs us Q I r h;obtain⟨e,h⟩:=h;subst e;cases r;exact assignInOrder_nil ⟨σ,H,I,h⟩
def UT{e:Expr}{es:List Expr}{t:TG}{u:TGs}(h1:PG X e t)(h2:PGs X es u)
 (hs:(assignEach (e::es) X.env).map (·.2)=assign e X.env::(assignEach es X.env).map (·.2):=by rfl):PGs X (e::es) (Qb t u):=by
 intro pins s σ H vs us Q I r h;obtain⟨v,vr,e1,h⟩:=h;subst e1;cases r with
 |cons r rr=>
  rw[hs];refine assignInOrder_cons (thn (h1 pins s σ H _ _ _ I r h) λ_ s1 ⟨σ1,H1,I1,q1⟩=>?_);exact h2 pins s1 σ1 H1 _ _ Q I1 rr q1
def Qa(K:Frag)(n:Nat)(t:TGs):TG:=λv σ H Q=>∃a xs,v=.ref a/\SqT K H a xs/\96=n/\t xs σ H Q
def aA{es:List Expr}{k:Nat}{t:TGs}{n:Nat}(hc:X.calm=true)(h:PGs X es t)
 (hn:(assignEach es X.env).length=n:=by rfl) (hst:(assignEach es X.env).findIdx? (·.1)=none:=by rfl):PG X (.Tuple es k pos) (Qa X.K n t):=by
 intro pins s σ H v u Q I r hw;obtain⟨a,xs,e1,hq,hl,hw⟩:=hw;subst e1;cases r;obtain⟨its,rv,ht,hz⟩:=I.tuple hq;refine assign_Tuple_tuple (I.ok.hd hc) ht (by simp[hn,<- hl,rv.length]) hst λh' hx=>?_;have I1:Inv X pins σ H { s with heap:=h' }:=I.kept (t':=s.toks) λb o e=>hx b o (gV (90 e)) e;exact h pins _ σ H xs _ Q I1 (by simpa using rv) hw
def Us(to ti:TE)(t:Nr):TG:=λv σ H Q=>to σ H λo H1=>ti σ H1 λi H2=>t o i v H2 λH3=>Q σ H3
def aB{o i:Expr}{to ti:TE}{t:Nr}(ho:PE X o to)(hi:PE X i ti)(hs:V7 X t)
 (ha:∀v,assign (.Subscript o i pos) X.env v=(do
  let ov <- holding [v] (eval o X.env)
  let iv <- holding [v,ov] (eval i X.env)
  standAt pos
  holding [v,ov,iv] (setItem ov iv v)
  release [v,ov,iv] []):=by intro _;rfl):PG X (.Subscript o i pos) (Us to ti t):=by
 intro pins s σ H v u Q I r h;rw[ha];refine gh (il (thn (ho pins s σ H _ I h) λov s1 ⟨x,H1,I1,r1,q1⟩=>?_));refine gh (il (thn (hi pins s1 σ H1 _ I1 q1) λiv s2 ⟨y,H2,I2,r2,q2⟩=>?_));refine gh (j5 (gh (il (thn (hs pins s2 σ H2 x y v ov iv u _ I2 r1 r2 r q2) λ_ s3 ⟨H3,I3,q3⟩=>?_))));exact wpAny_release ⟨σ,H3,I3,q3⟩
def F9(te:TE)(g:TG):TS:=λD σ H=>te σ H λx H1=>g x σ H1 D.nx
def Ri{tg e:Expr}{te:TE}{g:TG}(he:PE X e te)(hg:PG X tg g)(hs:swapsWithSole [tg] e pos.line X.env=pure false:=by rfl)(hw:swappedStores [tg] e X.env=pure none:=by rfl)
 (h1:(assignEach [tg] X.env).map (·.2)=[assign tg X.env]:=by rfl):PS X (.Assign [tg] e pos) (F9 te g):=by
 intro pins s σ H D I h;refine wpAny_Assign_stores (thn (he pins s σ H _ I h) λv s1 ⟨x,H1,I1,r1,q1⟩=>?_) hs hw;rw[h1];exact thn (hg pins s1 σ H1 x v _ I1 r1 q1) λ_ s2 q=>q
def Zy{i:Nat}{x:Str}{e:Expr}{te:TE}{pos':Pos}(hN:X.N.Nodup)(hi:X.N[i]?=some x)(hx:Loc X.env.scope x)(he:PE X e te)(hs:swapsWith e (some (.Name x pos')) pos.line X.env=pure false:=by rfl)(hf:X.fn x=true∨X.env.scope.names.lookup x=some .local:=by first|exact .inl rfl|exact .inr rfl|assumption):
 PS X (.Assign [.Name x pos'] e pos) (F9 te (EG i)):=by
 intro pins s σ H D I h;refine wpAny_Assign_Name (thn (he pins s σ H _ I h) λv s1 ⟨y,H1,I1,r1,q1⟩=>?_) hs;exact MU I1 hN hi hx r1 (λs2 I2=>⟨_,H1,I2,q1⟩) hf
def Pb(to ti te:TE)(tget:V->V->Hp->VK->Prop)(tip:TIp)(tset:Nr):TS:=λD σ H=>to σ H λo H1=>ti σ H1 λi H2=>tget o i H2 λx H3=>te σ H3 λy H4=>tip x y H4 λz H5=>tset o i z H5 λH6=>D.nx σ H6
def bQ(X:Cx)(t:V->V->Hp->VK->Prop):Prop:=
 ∀(pins:List 78) (s:Shared) (σ:St) (H:Hp) (o i:V) (ov iv:Value) (Q:VK),Inv X pins σ H s->RelV o ov->RelV i iv->t o i H Q ->
   wpAny 69 X.A (getItem ov iv) (EP X pins σ Q) X.xe s
def XH{o i e:Expr}{to ti te:TE}{tget:V->V->Hp->VK->Prop}{tip:TIp}{tset:Nr}{op:Operator}{tpos:Pos}(ho:PE X o to)(hi:PE X i ti)(hg:bQ X tget)(he:PE X e te)(hp:PIp X op tip)(hs:V7 X tset)
 (ha:∀ov iv new,augStore i ov iv new=(do holding [new,ov,iv] (setItem ov iv new);release [new,ov,iv] [];pure .next):=by intros;rfl):PS X (.AugAssign (.Subscript o i tpos) op e pos) (Pb to ti te tget tip tset):=by
 intro pins s σ H D I h;refine wpAny_AugAssign_SubscriptAny (thn (ho pins s σ H _ I h) λov s1 ⟨x1,H1,I1,r1,q1⟩=>?_) ha;refine thn (hi pins s1 σ H1 _ I1 q1) λiv s2 ⟨x2,H2,I2,r2,q2⟩=>?_;refine thn (hg pins s2 σ H2 x1 x2 ov iv _ I2 r1 r2 q2) λold s3 ⟨x3,H3,I3,r3,q3⟩=>?_;refine thn (he pins s3 σ H3 _ I3 q3) λv s4 ⟨x4,H4,I4,r4,q4⟩=>?_;refine thn (hp pins s4 σ H4 x3 x4 old v _ I4 r3 r4 q4) λnew s5 ⟨x5,H5,I5,r5,q5⟩=>?_;exact thn (hs pins s5 σ H5 x1 x2 x5 ov iv new _ I5 r1 r2 r5 q5) λ_ s6 ⟨H6,I6,q6⟩=>⟨σ,H6,I6,q6⟩
def ipI(f:Int->Int->Int):TIp:=λx y H Q=>∃i j,x=.int i/\y=.int j/\Q (.int (f i j)) H
def av:PIp X .Sub (ipI λi j=>i-j):=by
 intro pins s σ H x y v u Q I r1 r2 h;obtain⟨i,j,e1,e2,q⟩:=h;subst e1;subst e2;obtain⟨t,rfl⟩:=r1;obtain⟨t',rfl⟩:=r2;exact isub_int ⟨.int _,H,I.tok _,⟨_,rfl⟩,q⟩
end
section
variable{X:Cx}{pos:Pos}
def MN(c:TT)(tb:TS):TS:=λD σ H=>∃W:Nat->St->Hp->Prop,(∃m,W m σ H)/\∀m σ H,W m σ H ->
 c σ H λb H1=>if b=true then ∃N:St->Hp->Prop,(∀σ' H',N σ' H'->∃m',m'<m/\W m' σ' H')/\tb { D with nx:=N,ct:=N,bk:=D.nx } σ H1 else D.nx σ H1
def UL{c:Expr}{body:List Stmt}{tc:TT}{tb:TS}(hp:PassesOwn 69 X.A X.env X.xe)(hc:PT X c tc)(hb:PSs X body tb):PS X (.While c body [] pos) (MN tc tb):=by
 intro pins s σ H D I h;obtain⟨W,⟨m0,w0⟩,turn⟩:=h;refine wpAny_While (codeAny_whileLoop (λn s'=>∃σ' H',Inv X pins σ' H' s'/\W n σ' H') ?_ m0 ⟨σ,H,I,w0⟩);rintro n s1 ⟨σ1,H1,I1,w1⟩;refine jm hp (thn (hc pins s1 σ1 H1 _ I1 (turn n σ1 H1 w1)) λb s2 ⟨H2,I2,q2⟩=>?_);cases b with
 |true=>
  obtain⟨N,hN,q2⟩:=q2;rw[gi rfl];refine jm hp (thn (hb pins s2 σ1 H2 _ I2 q2) λf s3 q3=>?_);cases f with
  |next=>
   obtain⟨σ3,H3,I3,n3⟩:=q3;obtain⟨m',hm,w3⟩:=hN σ3 H3 n3;exact⟨m',hm,σ3,H3,I3,w3⟩
  |cont=>
   obtain⟨σ3,H3,I3,n3⟩:=q3;obtain⟨m',hm,w3⟩:=hN σ3 H3 n3;exact⟨m',hm,σ3,H3,I3,w3⟩
  |brk=>exact q3
  |ret v=>exact q3
 |false=>
  rw[gj Bool.false_ne_true];exact jy ⟨σ1,H2,I2,q2⟩
end
structure It where
 go:Nat->Hp->Prop
 yld:Nat->Hp->V->Hp->Prop
 stop:Nat->Hp->Prop
def FpOk(X:Cx)(pins:List 78)(H:Hp)(b:Addr):Prop:=
 H b=none/\b≠X.env.locals/\b∉X.fs/\(b∈X.ex∨X.s₀.heap.objs.size<=b)/\(∀x c,X.env.cells.lookup x=some c->c≠b)/\∀p∈X.pn++pins,p.1≠b
def Inv.fpOk{X:Cx}{pins:List 78}{σ:St}{H H':Hp}{s:Shared}{b:Addr}(I:Inv X pins σ H s)(hb:66<=b)(hn:H' b=none):FpOk X pins H' b:=by
 refine⟨hn,iC (ie I.lt hb),I.nofs hb,.inr (ia I.sz hb),λx c e z=>?_,λp hp z=>?_⟩
 .obtain⟨v,q⟩:=I.cell x c e;exact absurd (ie q.lt (by rw[z];exact hb)) (iJ _)
 .exact absurd (ie (90 (I.pin p hp).1) (by rw[z];exact hb)) (iJ _)
structure Turn(P:Program)(w:World)(K:Frag)(tg:Expr)(J:It)(fp:List Addr)(it:Addr)(tn:Nat->Heap->Prop):Prop where
 mem:it∈fp
 obj:∀i h,tn i h->∀b∈fp,∃o,h.get? b=some o/\∀v,o.data≠.cell v
 keep:∀i h h',tn i h->(∀b∈fp,∀o,h.get? b=some o->h'.get? b=some o)->tn i h'
 item:∀(X:Cx),X.prog=P->X.w=w->X.K=K->X.calm=true->∀(i:Nat) (pins:List 78) (s:Shared) (σ:St) (H:Hp) (E:Value->Shared->Prop),Inv X pins σ H s->(∀b∈fp,FpOk X pins H b)->tn i s.heap->J.go i H ->
  wpAny (model P w) X.A (pyNext (.ref it)) (λr s1=>∃u,r=some u /\
   wpAny (model P w) X.A (letOwnedTupleGo tg (.ref it) u) (λ_ s2=>∃x H',Inv X pins σ H' s2/\RelV x u/\J.yld i H x H'/\tn (i+1) s2.heap/\∀b∈fp,H' b=none) E s1) E s
 done:∀(X:Cx),X.prog=P->X.w=w->X.K=K->X.calm=true->∀(i:Nat) (pins:List 78) (s:Shared) (σ:St) (H:Hp) (E:Value->Shared->Prop),Inv X pins σ H s->(∀b∈fp,FpOk X pins H b)->tn i s.heap->J.stop i H ->
  wpAny (model P w) X.A (pyNext (.ref it)) (λr s1=>r=none/\Inv X pins σ H s1) E s
 self:∀(A:Around) (i:Nat) (s:Shared) (Q:Value->Shared->Prop) (E:Value->Shared->Prop),tn i s.heap->Q (.ref it) s->wpAny (model P w) A (pyIter (.ref it)) Q E s
abbrev TI:=St->Hp->(It->Hp->Prop)->Prop
def PIE(X:Cx)(pins:List 78)(σ:St)(tg:Expr)(R:It->Hp->Prop)(itv:Value)(s2:Shared):Prop:=
 ∃(it:Addr) (fp:List Addr) (tn:Nat->Heap->Prop) (J:It) (H':Hp),itv=.ref it/\Inv X pins σ H' s2/\Turn X.prog X.w X.K tg J fp it tn/\tn 0 s2.heap/\(∀b∈fp,FpOk X pins H' b)/\R J H'
def PI(X:Cx)(tg iter:Expr)(wi:TI):Prop:=
 ∀(pins:List 78) (s:Shared) (σ:St) (H:Hp) (R:It->Hp->Prop),Inv X pins σ H s->wi σ H R ->
   wpAny 69 X.A (eval iter X.env) (λv s1=>wpAny 69 X.A (pyIter v) (PIE X pins σ tg R) X.xe s1) X.xe s
def QZ{M:Model}{A:Around}{E:Value->Shared->Prop}{s:Shared}{tg:Expr}{it:Addr}{u:Value}{o:Obj}{n:String}{vs:Array Value}{Q:Unit->Shared->Prop}(ho:s.heap.get? it=some o)(hc:o.cls=.type n)(hd:o.data=.fields vs)
 (hn:["enumerate","zip","dict_itemiterator","dict_reverseitemiterator","odict_iterator","itertools.zip_longest","itertools.pairwise"].contains n=false) (hQ:Q () s):wpAny M A (letOwnedTupleGo tg (.ref it) u) Q E s:=by
 unfold letOwnedTupleGo;cases tg<;>first
  |exact gn hQ
  | (cases u<;>first
   |exact gn hQ
   | (refine gh (wpAny_load ho ?_)
      rw[hc,hd];show wpAny M A (if(["enumerate","zip","dict_itemiterator","dict_reverseitemiterator","odict_iterator","itertools.zip_longest","itertools.pairwise"].contains n&&vs[0]?==some (rawInt _))=true then _ else _) Q E s;rw[gj (by intro h;rw[hn,Bool.false_and]at h;cases h)];exact gn hQ))
def Itl(K:Frag)(a:Addr):It:=
 ⟨λi H=>∃xs x,SqL K H a xs/\xs[i]?=some x,λi H x H'=>H'=H/\∀xs,SqL K H a xs->xs[i]?=some x,λi H=>∃xs,SqL K H a xs/\96<=i⟩
def Itt(K:Frag)(a:Addr):It:=
 ⟨λi H=>∃xs x,SqT K H a xs/\xs[i]?=some x,λi H x H'=>H'=H/\∀xs,SqT K H a xs->xs[i]?=some x,λi H=>∃xs,SqT K H a xs/\96<=i⟩
def Itr(lo:Int)(n:Nat):It:=⟨λi _=>i<n,λi H x H'=>H'=H/\x=.int (lo+i),λi _=>n<=i⟩
def Qt{P:Program}{w:World}{K:Frag}{tg:Expr}(a it:Addr):Turn P w K tg (Itl K a) [it] it (λi h=>h.IsListIter it a i) where
 mem:=by simp
 obj:=λi h st b hb=>by
  have e:b=it:=by simpa using hb
  subst e;obtain⟨o,e,c,d⟩:=st;exact⟨o,e,λv z=>by rw[d]at z;cases z⟩
 keep:=λi h h' st k=>st.at λo e=>k it 75 o e
 item:=by
  intro X hP hw hK hc i pins s σ H E I hf st hg;subst hP hw hK;obtain⟨xs,x,hq,hx⟩:=hg;obtain⟨its,rv,p,hz⟩:=I.list hq;obtain⟨u,hu,ru⟩:=rv.get hx;obtain⟨f0,f1,f2,f3,f4,f5⟩:=hf it 75;refine jA st p.isList (x:=u) (by simpa using hu) λh' st' sb=>?_;have I1:Inv X pins σ H { s with heap:=h' }:=I.turned (t':=s.toks) (λb o hb e=>(sb.2 b hb).trans e) f0 f1 f3 f4 f5;obtain⟨o,e,c,d⟩:=id st';exact⟨u,rfl,QZ (s:={ s with heap:=h' }) e c d 77 ⟨x,H,I1,ru,⟨rfl,λys hy=>by rw[I.list_inj hy hq];exact hx⟩,st',λb hb=>(hf b hb).1⟩⟩
 done:=by
  intro X hP hw hK hc i pins s σ H E I hf st hg;subst hP hw hK;obtain⟨xs,hq,hx⟩:=hg;obtain⟨its,rv,p,hz⟩:=I.list hq;obtain⟨f0,f1,f2,f3,f4,f5⟩:=hf it 75;have hl:=rv.length;exact wpAny_pyNext_list_end (I.ok.hd hc) st p.isList 79 λh' eb=>⟨rfl,I.turned (t':=s.toks) (λb o hb e=>eb b o hb e) f0 f1 f3 f4 f5⟩
 self:=λ_ _ _ _ _ st h=>wpAny_pyIter_listiter st h
def PH{P:Program}{w:World}{K:Frag}{tg:Expr}(a it:Addr):Turn P w K tg (Itt K a) [it] it (λi h=>h.IsTupleIter it a i) where
 mem:=by simp
 obj:=λi h st b hb=>by
  have e:b=it:=by simpa using hb
  subst e;obtain⟨o,e,c,d⟩:=st;exact⟨o,e,λv z=>by rw[d]at z;cases z⟩
 keep:=λi h h' st k=>st.at λo e=>k it 75 o e
 item:=by
  intro X hP hw hK hc i pins s σ H E I hf st hg;subst hP hw hK;obtain⟨xs,x,hq,hx⟩:=hg;obtain⟨its,rv,p,hz⟩:=I.tuple hq;obtain⟨u,hu,ru⟩:=rv.get hx;obtain⟨f0,f1,f2,f3,f4,f5⟩:=hf it 75;refine wpAny_pyNext_tuple_item st (show s.heap.IsTuple a 109 from p) (x:=u) (by simpa using hu) λh' st' sb=>?_;have I1:Inv X pins σ H { s with heap:=h' }:=I.turned (t':=s.toks) (λb o hb e=>(sb.2 b hb).trans e) f0 f1 f3 f4 f5;obtain⟨o,e,c,d⟩:=id st';exact⟨u,rfl,QZ (s:={ s with heap:=h' }) e c d 77 ⟨x,H,I1,ru,⟨rfl,λys hy=>by rw[I.tuple_inj hy hq];exact hx⟩,st',λb hb=>(hf b hb).1⟩⟩
 done:=by
  intro X hP hw hK hc i pins s σ H E I hf st hg;subst hP hw hK;obtain⟨xs,hq,hx⟩:=hg;obtain⟨its,rv,p,hz⟩:=I.tuple hq;obtain⟨f0,f1,f2,f3,f4,f5⟩:=hf it 75;have hl:=rv.length;exact wpAny_pyNext_tuple_end (I.ok.hd hc) st (show s.heap.IsTuple a 109 from p) 79 λh' eb=>⟨rfl,I.turned (t':=s.toks) (λb o hb e=>eb b o hb e) f0 f1 f3 f4 f5⟩
 self:=λ_ _ _ _ _ st h=>wpAny_pyIter_tupleiter st h
def PJ{P:Program}{w:World}{K:Frag}{tg:Expr}(it:Addr)(lo:Int)(n:Nat):Turn P w K tg (Itr lo n) [it] it (λi h=>IsRangeIter h it (lo+(i:Nat)*1) ((n:Int)-(i:Nat)) 1) where
 mem:=by simp
 obj:=λi h st b hb=>by
  have e:b=it:=by simpa using hb
  subst e;exact⟨_,st,λv z=>by
   have z':Data.fields _=Data.cell v:=z;cases z'⟩
 keep:=λi h h' st k=>k it 75 _ st
 item:=by
  intro X hP hw hK hc i pins s σ H E I hf st hg;subst hP hw hK;obtain⟨f0,f1,f2,f3,f4,f5⟩:=hf it 75;have W:=Walks.range (prog:=X.prog) (w:=X.w) (I.ok.hd hc) it lo 1 n;refine W.item i s _ _ hg st λv h' tk hv st' kk=>?_;obtain⟨t,rfl⟩:=hv;have I1:Inv X pins σ H { s with heap:=h',toks:=tk }:=I.turned (λb o hb e=>kk b o (by simpa using hb) e) f0 f1 f3 f4 f5;refine⟨_,rfl,QZ (s:={ s with heap:=h',toks:=tk }) (n:="range_iterator") st' rfl rfl 77 ⟨.int (lo+i),H,I1,⟨t,?_⟩,⟨rfl,rfl⟩,st',λb hb=>(hf b hb).1⟩⟩;rw[Int.mul_one]
 done:=by
  intro X hP hw hK hc i pins s σ H E I hf st hg;subst hP hw hK;obtain⟨f0,f1,f2,f3,f4,f5⟩:=hf it 75;exact wpAny_pyNext_range_end (I.ok.hd hc) st (by have:n<=i:=hg;omega) λh' eb=>⟨rfl,I.turned (t':=s.toks) (λb o hb e=>eb b o hb e) f0 f1 f3 f4 f5⟩
 self:=λ_ _ _ _ _ st h=>wpAny_pyIter_rangeiter st h
section
variable{X:Cx}{tg:Expr}
def MB(K:Frag)(tl:TE):TI:=λσ H R=>tl σ H λx H1=>∃a,x=.ref a/\(∃xs,SqL K H1 a xs)/\R (Itl K a) H1
def QX(K:Frag)(tl:TE):TI:=λσ H R=>tl σ H λx H1=>∃a,x=.ref a/\(∃xs,SqT K H1 a xs)/\R (Itt K a) H1
def XS{l:Expr}{tl:TE}(hl:PE X l tl):PI X tg l (MB X.K tl):=by
 intro pins s σ H R I h;refine thn (hl pins s σ H _ I h) λv s1 ⟨x,H1,I1,r1,q1⟩=>?_;obtain⟨a,e,⟨xs,hq⟩,q⟩:=q1;subst e;cases r1;obtain⟨its,rv,p,hz⟩:=I1.list hq;refine wpAny_pyIter_list p.isList ?_;refine⟨s1.heap.objs.size,[s1.heap.objs.size],_,_,H1,rfl,I1.kept (t':=s1.toks) λb o e=>74 _ e,Qt a _,⟨_,87 _ rfl,rfl,rfl⟩,λb hb=>?_,q⟩;have e:b=s1.heap.objs.size:=by simpa using hb
 subst e;exact I1.fpOk (gm _) (I1.hok.fresh (gm _))
def a9{l:Expr}{tl:TE}(hl:PE X l tl):PI X tg l (QX X.K tl):=by
 intro pins s σ H R I h;refine thn (hl pins s σ H _ I h) λv s1 ⟨x,H1,I1,r1,q1⟩=>?_;obtain⟨a,e,⟨xs,hq⟩,q⟩:=q1;subst e;cases r1;obtain⟨its,rv,p,hz⟩:=I1.tuple hq;refine wpAny_pyIter_tuple (show s1.heap.IsTuple a 109 from p) ?_;refine⟨s1.heap.objs.size,[s1.heap.objs.size],_,_,H1,rfl,I1.kept (t':=s1.toks) λb o e=>74 _ e,PH a _,⟨_,87 _ rfl,rfl,rfl⟩,λb hb=>?_,q⟩;have e:b=s1.heap.objs.size:=by simpa using hb
 subst e;exact I1.fpOk (gm _) (I1.hok.fresh (gm _))
def Tv{pins:List 78}{σ:St}{H:Hp}{s:Shared}{R:It->Hp->Prop}{E:Value->Shared->Prop}{lo hi:Int}{t u v:Tok}{tk:Nat}(I:Inv X pins σ H s)(h1:-(2^62)<=lo)(h2:lo<2^62)(h3:-(2^62)<=hi)(h4:hi<2^62)
 (q:R (Itr lo (hi-lo).toNat) H):wpAny 69 X.A (pyIter (.ref 66)) (PIE X pins σ tg R) E { s with heap:=s.heap.push { cls:=.type "range",data:=.fields #[.int lo t,.int hi u,.int 1 v] },toks:=tk }:=by
 refine wpAny_pyIter_range (IsRange.new ..) (small_one h1 h2 h3 h4) ?_;have I1:Inv X pins σ H { s with heap:=s.heap.push { cls:=.type "range",data:=.fields #[.int lo t,.int hi u,.int 1 v] },toks:=tk }:=I.kept λb o e=>74 _ e;refine⟨(s.heap.push { cls:=.type "range",data:=.fields #[.int lo t,.int hi u,.int 1 v] }).objs.size,[(s.heap.push { cls:=.type "range",data:=.fields #[.int lo t,.int hi u,.int 1 v] }).objs.size],_,_,H,rfl,
  I1.kept (t':=tk) λb o e=>74 _ e,PJ _ lo (hi-lo).toNat,?_,λb hb=>?_,q⟩
 .have e1:lo+((0:Nat):Int)*1=lo:=by simp
  have e2:(((hi-lo).toNat:Nat):Int)-((0:Nat):Int)=Builtin.Range.rangeSize lo hi 1:=by rw[rangeSize_one];split<;>omega
  show IsRangeIter _ _ (lo+((0:Nat):Int)*1) ((((hi-lo).toNat:Nat):Int)-((0:Nat):Int)) 1;rw[e1,e2];exact 87 _ rfl
 .have e:b=(s.heap.push { cls:=.type "range",data:=.fields #[.int lo t,.int hi u,.int 1 v] }).objs.size:=by simpa using hb
  subst e;exact I1.fpOk (gm _) (I1.hok.fresh (gm _))
def QY(ta:TA):TI:=λσ H R=>ta σ H λvs H1=>∃j:Int,vs=[.int j]/\-(2^62)<=j/\j<2^62/\R (Itr 0 j.toNat) H1
def Rl{a:Expr}{ta:TA}{p pos:Pos}(hg:Gl X "range")(hm:X.mg "range"=none)(ha:PA X [a] ta)(hs:starEach [a] X.env=[(false,eval a X.env)]:=by rfl):PI X tg (.Call (.Name "range" p) [a] [] pos) (QY ta):=by
 intro pins s σ H R I h;refine Call_ (Cn I hg hm boot_range (PyProof.Rows.callWith_type1 (thn (ha pos pins s σ H _ I h) λus s1 ⟨vs,H1,I1,r1,q1⟩=>?_) hs rfl));obtain⟨j,e,q1,q2,q⟩:=q1;subst e;cases r1 with
 |cons r rr=>
  cases rr;obtain⟨t,rfl⟩:=r;exact call_range_1 (Tv I1 67 67 q1 q2 (by simpa using q))
def TR(wi:TI)(g:TG)(tb:TS):TS:=λD σ H=>wi σ H λJ H1=>∃W:Nat->Nat->St->Hp->Prop,(∃m,W 0 m σ H1)/\∀i m σ H,W i m σ H ->
 (J.stop i H/\D.nx σ H)∨(J.go i H/\∃N:St->Hp->Prop,(∀σ' H',N σ' H'->∃m',m'<m/\W (i+1) m' σ' H')/\∀x H',J.yld i H x H'->g x σ H' λσ2 H2=>tb { D with nx:=N,ct:=N,bk:=D.nx } σ2 H2)
def G8(fp:List Addr)(h:Heap):List 78:=fp.filterMap λb=>(h.get? b).map λo=>(b,o)
def D1{fp:List Addr}{h:Heap}{b:Addr}{o:Obj}(hb:b∈fp)(e:h.get? b=some o):(b,o)∈G8 fp h:=List.mem_filterMap.mpr ⟨b,hb,by rw[e];rfl⟩
def Rv{fp:List Addr}{h:Heap}{p:Addr×Obj}(hp:p∈G8 fp h):p.1∈fp/\h.get? p.1=some p.2:=by
 obtain⟨b,hb,e⟩:=List.mem_filterMap.mp hp;cases q:h.get? b with
 |none=>rw[q]at e;cases e
 |some o=>
  rw[q]at e;have e':(b,o)=p:=114 e;subst e';exact⟨hb,q⟩
def Inv.pinned{pins:List 78}{σ:St}{H:Hp}{s:Shared}{fp:List Addr}(I:Inv X pins σ H s)(hf:∀b∈fp,FpOk X pins H b)(ho:∀b∈fp,∃o,s.heap.get? b=some o/\∀v,o.data≠.cell v):Inv X (pins++G8 fp s.heap) σ H s:=
 I.pins_of λp hp=>(mem_append.mp hp).elim (λz=>I.pin p (gv _ z)) λz=>by
  obtain⟨hb,e⟩:=Rv z;obtain⟨f0,f1,f2,_⟩:=hf p.1 hb;obtain⟨o,e',d⟩:=ho p.1 hb;rw[e]at e';cases e';exact⟨e,f0,f1,f2,d⟩
def Inv.unpinned{pins pl:List 78}{σ:St}{H:Hp}{s:Shared}(I:Inv X (pins++pl) σ H s):Inv X pins σ H s:=I.pins_of λp hp=>I.pin p (gv _ (iE _ hp))
def a0{iter:Expr}{body:List Stmt}{wi:TI}{g:TG}{tb:TS}{pos:Pos}(hp:PassesOwn 69 X.A X.env X.xe)(hc:X.calm=true)(hi:PI X tg iter wi)(hg:PG X tg g)(hb:PSs X body tb)
 (hs:∀x,foldedSetIterable iter X.env x=pure x:=by intro _;rfl):PS X (.For tg iter body [] pos) (TR wi g tb):=by
 intro pins s σ H D I h;refine wpAny_For (thn (hi pins s σ H _ I h) λv s1 h1=>thn h1 λitv s2 h2=>?_) hs;obtain⟨it,fp,tn,J,H2,e,I2,T,st2,f2,W,⟨m0,w0⟩,turn⟩:=h2;subst e
 -- what stays true of the iterator's objects through the loop
 have stat:∀{H':Hp},(∀b∈fp,H' b=none)->∀b∈fp,FpOk X pins H' b:=λhn b hb=>⟨hn b hb,(f2 b hb).2⟩
 refine codeAny_forLoop_any (λn s'=>∃i σ' H',Inv X pins σ' H' s'/\tn i s'.heap/\(∀b∈fp,H' b=none)/\W i n σ' H') ?_ m0 ⟨0,σ,H2,I2,st2,λb hb=>(f2 b hb).1,w0⟩;rintro n s3 ⟨i,σ3,H3,I3,st3,fr3,w3⟩;rcases turn i n σ3 H3 w3 with⟨stop,qn⟩|⟨go,N,hN,step⟩
 .refine jm hp (thn (T.done X rfl rfl rfl hc i pins s3 σ3 H3 X.xe I3 (stat fr3) st3 stop) λr s4 ⟨hr,I4⟩=>?_);subst hr;exact jy ⟨σ3,H3,I4,qn⟩
 .refine jm hp (thn (T.item X rfl rfl rfl hc i pins s3 σ3 H3 X.xe I3 (stat fr3) st3 go) λr s4 ⟨u,hr,h4⟩=>?_);subst hr;refine jm hp (thn h4 λ_ s5 ⟨x,H5,I5,r5,y5,st5,fr5⟩=>?_);have I5':=I5.pinned (stat fr5) (T.obj _ _ st5);refine jm hp (thn (hg _ s5 σ3 H5 x u _ I5' r5 (step x H5 y5)) λ_ s6 ⟨σ6,H6,I6,q6⟩=>?_);refine jm hp (thn (hb _ s6 σ6 H6 _ I6 q6) λf s7 q7=>?_);have again:∀{σ7:St} {H7:Hp},Inv X (pins++G8 fp s5.heap) σ7 H7 s7->N σ7 H7->∃m,m<n/\∃i σ' H',Inv X pins σ' H' s7/\tn i s7.heap/\(∀b∈fp,H' b=none)/\W i m σ' H':=λ{σ7 H7} I7 n7=>by
   obtain⟨m',hm,w7⟩:=hN σ7 H7 n7;refine⟨m',hm,i+1,σ7,H7,I7.unpinned,T.keep _ _ _ st5 λb hb o e=>(I7.pin (b,o) (gv _ (gv _ (D1 hb e)))).1,λb hb=>?_,w7⟩;obtain⟨o,e,d⟩:=T.obj _ _ st5 b hb;exact(I7.pin (b,o) (gv _ (gv _ (D1 hb e)))).2.1
  cases f with
  |next=>obtain⟨σ7,H7,I7,n7⟩:=q7;exact again I7 n7
  |cont=>obtain⟨σ7,H7,I7,n7⟩:=q7;exact again I7 n7
  |brk=>obtain⟨σ7,H7,I7,q7⟩:=q7;exact⟨σ7,H7,I7.unpinned,q7⟩
  |ret v=>obtain⟨x7,σ7,H7,I7,r7,q7⟩:=q7;exact⟨x7,σ7,H7,I7.unpinned,r7,q7⟩
end
abbrev R2:=V->V->Hp->VK->Prop
def OpR(X:Cx)(f:Value->Value->Sem Value)(r:R2):Prop:=
 ∀(pins:List 78) (s:Shared) (σ:St) (H:Hp) (x y:V) (v u:Value) (Q:VK),Inv X pins σ H s->RelV x v->RelV y u->r x y H Q ->
   wpAny 69 X.A (f v u) (EP X pins σ Q) X.xe s
def UnR(X:Cx)(f:Value->Sem Value)(r:V->Hp->VK->Prop):Prop:=
 ∀(pins:List 78) (s:Shared) (σ:St) (H:Hp) (x:V) (v:Value) (Q:VK),Inv X pins σ H s->RelV x v->r x H Q ->
   wpAny 69 X.A (f v) (EP X pins σ Q) X.xe s
def CallR(X:Cx)(f:Value)(r:List V->Hp->VK->Prop):Prop:=
 ∀(pins:List 78) (s:Shared) (σ:St) (H:Hp) (xs:List V) (us:List Value) (Q:VK),Inv X pins σ H s->Vals xs us->r xs H Q ->
   wpAny 69 X.A (call f us) (EP X pins σ Q) X.xe s
def eD(X:Cx)(r:V->Hp->(Bool->Hp->Prop)->Prop):Prop:=
 ∀(pins:List 78) (s:Shared) (σ:St) (H:Hp) (x:V) (v:Value) (Q:Bool->Hp->Prop),Inv X pins σ H s->RelV x v->r x H Q ->
   wpAny 69 X.A (truthy v) (TP X pins σ Q) X.xe s
def tOp(r:R2)(ta tb:TE):TE:=λσ H Q=>ta σ H λx H1=>tb σ H1 λy H2=>r x y H2 Q
def tUn(r:V->Hp->VK->Prop)(ta:TE):TE:=λσ H Q=>ta σ H λx H1=>r x H1 Q
def rI(C:Int->Int->Prop)(g:Int->Int->V):R2:=λx y H Q=>∃i j,x=.int i/\y=.int j/\C i j/\Q (g i j) H
def rI0(g:Int->Int->V):R2:=λx y H Q=>∃i j,x=.int i/\y=.int j/\Q (g i j) H
def rU(g:Int->V):V->Hp->VK->Prop:=λx H Q=>∃i,x=.int i/\Q (g i) H
section
variable{X:Cx}{a b c:Expr}{ta tb tc:TE}{pos:Pos}
def V4(ha:PE X a ta)(hb:PE X b tb){pins:List 78}{s:Shared}{σ:St}{H:Hp}{R:V->V->Hp->Prop}(I:Inv X pins σ H s)
 (h:ta σ H λx H1=>tb σ H1 λy H2=>R x y H2) {Q:Value->Shared->Prop} {f:Value->Value->Sem Value}
 (hf:∀v u s2 x y H2,Inv X pins σ H2 s2->RelV x v->RelV y u->R x y H2->wpAny 69 X.A (f v u) Q X.xe s2):
 wpAny 69 X.A (eval a X.env) (λv s₁=>wpAny 69 X.A (eval b X.env) (λu s₂=>wpAny 69 X.A (f v u) Q X.xe s₂) X.xe s₁) X.xe s:=by
 refine thn (ha pins s σ H _ I h) λv s1 ⟨x,H1,I1,r1,q1⟩=>?_;refine thn (hb pins s1 σ H1 _ I1 q1) λu s2 ⟨y,H2,I2,r2,q2⟩=>?_;exact hf v u s2 x y H2 I2 r1 r2 q2
def Q4{op:Operator}{r:R2}(ho:OpR X (binaryOp op) r)(ha:PE X a ta)(hb:PE X b tb):PE X (.BinOp a op b pos) (tOp r ta tb):=by
 intro pins s σ H Q I h;exact wpAny_BinOp (V4 ha hb I h λv u s2 x y H2 I2 rx ry q=>ho pins s2 σ H2 x y v u Q I2 rx ry q)
def cH{op:UnaryOp}{r:V->Hp->VK->Prop}(ho:UnR X (unaryOp op) r)(ha:PE X a ta):PE X (.UnaryOp op a pos) (tUn r ta):=by
 intro pins s σ H Q I h;exact UnaryOp_ (thn (ha pins s σ H _ I h) λv s1 ⟨x,H1,I1,r1,q1⟩=>ho pins s1 σ H1 x v Q I1 r1 q1)
def opI{f:Value->Value->Sem Value}{C:Int->Int->Prop}{g:Int->Int->Int}
 (rule:∀(i j:Int) (t u:Tok) (s:Shared) (Q:Value->Shared->Prop) (E:Value->Shared->Prop),C i j->Q (.int (g i j) s.toks) { s with toks:=s.toks+1 }->wpAny 69 X.A (f (.int i t) (.int j u)) Q E s):
 OpR X f (rI C λi j=>.int (g i j)):=by
 intro pins s σ H x y v u Q I rx ry h;obtain⟨i,j,rfl,rfl,hc,q⟩:=h;obtain⟨t,rfl⟩:=rx;obtain⟨t',rfl⟩:=ry;exact rule i j t t' s _ _ hc ⟨.int (g i j),H,I.tok _,⟨_,rfl⟩,q⟩
def aV{f:Value->Value->Sem Value}{g:Int->Int->Int}
 (rule:∀(i j:Int) (t u:Tok) (s:Shared) (Q:Value->Shared->Prop) (E:Value->Shared->Prop),Q (.int (g i j) s.toks) { s with toks:=s.toks+1 }->wpAny 69 X.A (f (.int i t) (.int j u)) Q E s):
 OpR X f (rI0 λi j=>.int (g i j)):=by
 intro pins s σ H x y v u Q I rx ry h;obtain⟨i,j,rfl,rfl,q⟩:=h;obtain⟨t,rfl⟩:=rx;obtain⟨t',rfl⟩:=ry;exact rule i j t t' s _ _ ⟨.int (g i j),H,I.tok _,⟨_,rfl⟩,q⟩
def Q7{f:Value->Value->Sem Value}{g:Int->Int->Bool}
 (rule:∀(i j:Int) (t u:Tok) (s:Shared) (Q:Value->Shared->Prop) (E:Value->Shared->Prop),Q (.bool (g i j)) s->wpAny 69 X.A (f (.int i t) (.int j u)) Q E s):
 OpR X f (rI0 λi j=>.bl (g i j)):=by
 intro pins s σ H x y v u Q I rx ry h;obtain⟨i,j,rfl,rfl,q⟩:=h;obtain⟨t,rfl⟩:=rx;obtain⟨t',rfl⟩:=ry;exact rule i j t t' s _ _ ⟨.bl (g i j),H,I,rfl,q⟩
def bU(i j:Int):Prop:=0<j/\j<1073741824
def bS(i j:Int):Prop:=0<=j/\j<=1000000/\i.natAbs<2^64
def CMul(i j:Int):Prop:=(-(2^64)<i/\i<2^64)∨(-(2^64)<j/\j<2^64)
def CMul.ok{i j:Int}(h:CMul i j):IntMulOk i j:=by
 rcases h with⟨h1,h2⟩|⟨h1,h2⟩
 .exact .of_left (intBits_le_64 h1 h2)
 .exact .of_right (intBits_le_64 h1 h2)
def Ru:OpR X (binaryOp .Add) (rI0 λi j=>.int (i+j)):=aV λ_ _ _ _ _ _ _ q=>add_int q
def aN:OpR X (binaryOp .Sub) (rI0 λi j=>.int (i-j)):=aV λ_ _ _ _ _ _ _ q=>sub_int q
def aR:OpR X (binaryOp .Mult) (rI CMul λi j=>.int (i*j)):=opI λ_ _ _ _ _ _ _ hc q=>mul_int q hc.ok
def Xf:OpR X (binaryOp .FloorDiv) (rI bU λi j=>.int (i/j)):=opI λi j _ _ _ _ _ hc q=>by
 have h1:(0:Int)<j:=hc.1;have h2:j<1073741824:=hc.2;exact floordiv_int 67 (by rw[Int.fdiv_eq_ediv_of_nonneg i 67];exact q) (.inl (PyProof.noPylong_small 67))
def aS:OpR X (binaryOp .Mod) (rI (λ_ j=>0<j) λi j=>.int (i%j)):=opI λi j _ _ _ _ _ hc q=>by
 have h1:(0:Int)<j:=hc;exact mod_int' 67 (by rw[Int.fmod_eq_emod_of_nonneg i 67];exact q)
def aO:OpR X (binaryOp .Pow) (rI bS λi j=>.int (i^j.toNat)):=opI λ_ _ _ _ _ _ _ hc q=>pow_int_small hc.1 hc.2.1 hc.2.2 q
def unI{f:Value->Sem Value}{g:Int->Int}
 (rule:∀(i:Int) (t:Tok) (s:Shared) (Q:Value->Shared->Prop) (E:Value->Shared->Prop),Q (.int (g i) s.toks) { s with toks:=s.toks+1 }->wpAny 69 X.A (f (.int i t)) Q E s):
 UnR X f (rU λi=>.int (g i)):=by
 intro pins s σ H x v Q I rx h;obtain⟨i,rfl,q⟩:=h;obtain⟨t,rfl⟩:=rx;exact rule i t s _ _ ⟨.int (g i),H,I.tok _,⟨_,rfl⟩,q⟩
def YZ:UnR X (unaryOp .USub) (rU λi=>.int (-i)):=unI λ_ _ _ _ _ q=>neg_int q
end
def Ma:V->V->Bool
 |.non,.non=>true|.non,.int _=>true|.int _,.non=>true|.non,.bl _=>true|.bl _,.non=>true|.non,.str _=>true|.str _,.non=>true
 |.int _,.int _=>true|.bl _,.bl _=>true|.str _,.str _=>true|.byt _,.byt _=>true
 |.int _,.str _=>true|.str _,.int _=>true|.bl _,.str _=>true|.str _,.bl _=>true
 |_,_=>false
def rEq:R2:=λx y H Q=>Ma x y=true/\Q (.bl (decide (x=y))) H
def rNe:R2:=λx y H Q=>Ma x y=true/\Q (.bl (!decide (x=y))) H
def Oz{i j:Int}:decide (V.int i=V.int j)=(i==j):=by
 rw[Bool.eq_iff_iff];simp
def Sg{i j:Bool}:decide (V.bl i=V.bl j)=(i==j):=by
 rw[Bool.eq_iff_iff];simp
def Oy{i j:Str}:decide (V.str i=V.str j)=(i==j):=by
 rw[Bool.eq_iff_iff];simp
def P0{i j:Array UInt8}:decide (V.byt i=V.byt j)=(i.toList==j.toList):=by
 rw[Bool.eq_iff_iff];cases i;cases j;simp
section
variable{X:Cx}{a b c:Expr}{ta tb tc:TE}{pos:Pos}
def Ak{pins:List 78}{σ:St}{H:Hp}{s:Shared}{Q:VK}{k k':Bool}(I:Inv X pins σ H s)(q:Q (.bl k) H)(e:k=k'):EP X pins σ Q (.bool k') s:=by
 subst e;exact⟨.bl k,H,I,rfl,q⟩
def VX:OpR X (compareOp .Eq) rEq:=by
 intro pins s σ H x y v u Q I rx ry h;obtain⟨hs,q⟩:=h;cases x with
 |non=>
  cases rx;cases y with
  |non=>cases ry;exact PySem.EqNone.eq_none_none (Ak I q 75)
  |bl j=>cases ry;exact PySem.EqNone.eq_none_bool (Ak I q 75)
  |int j=>obtain⟨t',rfl⟩:=ry;exact PySem.EqNone.eq_none_int (Ak I q 75)
  |str j=>obtain⟨t',rfl⟩:=ry;exact PySem.EqNone.eq_none_str (Ak I q 75)
  |_=>exact absurd (show false=true from hs) Bool.false_ne_true
 |bl i=>
  cases rx;cases y with
  |non=>cases ry;exact PySem.EqNone.eq_bool_none (Ak I q 75)
  |bl j=>cases ry;exact eq_bool (Ak I q Sg)
  |str j=>obtain⟨t',rfl⟩:=ry;exact PySem.EqMixed.eq_bool_str (Ak I q 75)
  |_=>exact absurd (show false=true from hs) Bool.false_ne_true
 |int i=>
  obtain⟨t,rfl⟩:=rx;cases y with
  |non=>cases ry;exact PySem.EqNone.eq_int_none (Ak I q 75)
  |int j=>obtain⟨t',rfl⟩:=ry;exact eq_int (Ak I q Oz)
  |str j=>obtain⟨t',rfl⟩:=ry;exact PySem.EqMixed.eq_int_str (Ak I q 75)
  |_=>exact absurd (show false=true from hs) Bool.false_ne_true
 |str i=>
  obtain⟨t,rfl⟩:=rx;cases y with
  |non=>cases ry;exact PySem.EqNone.eq_str_none (Ak I q 75)
  |bl j=>cases ry;exact PySem.EqMixed.eq_str_bool (Ak I q 75)
  |int j=>obtain⟨t',rfl⟩:=ry;exact PySem.EqMixed.eq_str_int (Ak I q 75)
  |str j=>obtain⟨t',rfl⟩:=ry;exact eq_str (Ak I q Oy)
  |_=>exact absurd (show false=true from hs) Bool.false_ne_true
 |byt i=>
  obtain⟨t,rfl⟩:=rx;cases y with
  |byt j=>obtain⟨t',rfl⟩:=ry;exact PySem.W.eq_bytes (Ak I q P0)
  |_=>exact absurd (show false=true from hs) Bool.false_ne_true
 |_=>cases y<;>exact absurd (show false=true from hs) Bool.false_ne_true
def VU:OpR X (compareOp .NotEq) rNe:=by
 intro pins s σ H x y v u Q I rx ry h;obtain⟨hs,q⟩:=h;cases x with
 |non=>
  cases rx;cases y with
  |non=>cases ry;exact PySem.EqNone.ne_none_none (Ak I q 75)
  |bl j=>cases ry;exact PySem.EqNone.ne_none_bool (Ak I q 75)
  |int j=>obtain⟨t',rfl⟩:=ry;exact PySem.EqNone.ne_none_int (Ak I q 75)
  |str j=>obtain⟨t',rfl⟩:=ry;exact PySem.EqNone.ne_none_str (Ak I q 75)
  |_=>exact absurd (show false=true from hs) Bool.false_ne_true
 |bl i=>
  cases rx;cases y with
  |non=>cases ry;exact PySem.EqNone.ne_bool_none (Ak I q 75)
  |bl j=>cases ry;exact ne_bool (Ak I q (iw not Sg))
  |str j=>obtain⟨t',rfl⟩:=ry;exact PySem.EqMixed.ne_bool_str (Ak I q 75)
  |_=>exact absurd (show false=true from hs) Bool.false_ne_true
 |int i=>
  obtain⟨t,rfl⟩:=rx;cases y with
  |non=>cases ry;exact PySem.EqNone.ne_int_none (Ak I q 75)
  |int j=>obtain⟨t',rfl⟩:=ry;exact ne_int (Ak I q (iw not Oz))
  |str j=>obtain⟨t',rfl⟩:=ry;exact PySem.EqMixed.ne_int_str (Ak I q 75)
  |_=>exact absurd (show false=true from hs) Bool.false_ne_true
 |str i=>
  obtain⟨t,rfl⟩:=rx;cases y with
  |non=>cases ry;exact PySem.EqNone.ne_str_none (Ak I q 75)
  |bl j=>cases ry;exact PySem.EqMixed.ne_str_bool (Ak I q 75)
  |int j=>obtain⟨t',rfl⟩:=ry;exact PySem.EqMixed.ne_str_int (Ak I q 75)
  |str j=>obtain⟨t',rfl⟩:=ry;exact ne_str (Ak I q (iw not Oy))
  |_=>exact absurd (show false=true from hs) Bool.false_ne_true
 |byt i=>
  obtain⟨t,rfl⟩:=rx;cases y with
  |byt j=>obtain⟨t',rfl⟩:=ry;exact PySem.W.ne_bytes (Ak I q (iw not P0))
  |_=>exact absurd (show false=true from hs) Bool.false_ne_true
 |_=>cases y<;>exact absurd (show false=true from hs) Bool.false_ne_true
def cN:OpR X (compareOp .Lt) (rI0 λi j=>.bl (decide (i<j))):=Q7 λ_ _ _ _ _ _ _ q=>lt_int q
def VW:OpR X (compareOp .LtE) (rI0 λi j=>.bl (decide (i<=j))):=Q7 λ_ _ _ _ _ _ _ q=>le_int q
def cO:OpR X (compareOp .Gt) (rI0 λi j=>.bl (decide (j<i))):=Q7 λ_ _ _ _ _ _ _ q=>gt_int q
def cP:OpR X (compareOp .GtE) (rI0 λi j=>.bl (decide (j<=i))):=Q7 λ_ _ _ _ _ _ _ q=>ge_int q
def OpR.or{f:Value->Value->Sem Value}{r r':R2}(h:OpR X f r)(h':OpR X f r'):OpR X f (λx y H Q=>r x y H Q∨r' x y H Q):=by
 intro pins s σ H x y v u Q I rx ry q;rcases q with q|q
 .exact h pins s σ H x y v u Q I rx ry q
 .exact h' pins s σ H x y v u Q I rx ry q
def N2(b:Expr){op:CmpOp}(h:op≠.In:=by decide)(h2:op≠.NotIn:=by decide):behindInMarks op b=false:=by
 have e1:(op==CmpOp.In)=false:=by cases op<;>first|rfl|exact absurd rfl h
 have e2:(op==CmpOp.NotIn)=false:=by cases op<;>first|rfl|exact absurd rfl h2
 cases b<;>simp[behindInMarks,e1,e2]
def Xc{op:CmpOp}{r:R2}(ho:OpR X (compareOp op) r)(ha:PE X a ta)(hb:PE X b tb)(hm:behindInMarks op b=false):PE X (.Compare a [op] [b] pos) (tOp r ta tb):=by
 intro pins s σ H Q I h;exact wpAny_Compare1 (V4 ha hb I h λv u s2 x y H2 I2 rx ry q=>ho pins s2 σ H2 x y v u Q I2 rx ry q) hm
def Ly(t:TE):TT:=λσ H Q=>t σ H λx H'=>∃k,x=.bl k/\Q k H'
def Oe{op:CmpOp}{r:R2}(ho:OpR X (compareOp op) r)(ha:PE X a ta)(hb:PE X b tb)(hm:behindInMarks op b=false):PT X (.Compare a [op] [b] pos) (Ly (tOp r ta tb)):=by
 intro pins s σ H Q I h;refine wpAny_isTrue_Compare1 (thn (ha pins s σ H _ I h) λv s1 ⟨x,H1,I1,r1,q1⟩=>thn (hb pins s1 σ H1 _ I1 q1) λu s2 ⟨y,H2,I2,r2,q2⟩=>
  thn (ho pins s2 σ H2 x y v u _ I2 r1 r2 q2) λc s3 ⟨z,H3,I3,r3,k,e,q3⟩=>?_) hm
 subst e;cases r3;exact iW ⟨H3,I3,q3⟩
def Nq(K:Frag)(x:V)(H:Hp)(k:Bool):Prop:=
 match x with
 |.non=>k=false
 |.bl b=>k=b
 |.int i=>k=(i != 0)
 |.str y=>y.length<=sizeLine/\k=((y.length:Int) != 0)
 |.byt y=>y.size<=sizeLine/\k=((y.size:Int) != 0)
 |.ref p=>(∃xs,SqL K H p xs/\k=!xs.isEmpty)∨(∃xs,SqT K H p xs/\k=!xs.isEmpty)∨∃kvs,H p=some (.dK kvs)/\k=!kvs.isEmpty
 |_=>False
def QP{κ:Type}{kvs:List (κ×V)}{vs:List (κ×Value)}(r:KV kvs vs):(!vs.isEmpty)=!kvs.isEmpty:=by
 cases r<;>rfl
def Jo{xs:List V}{its:List Value}(r:Vals xs its):(!its.toArray.isEmpty)=!xs.isEmpty:=by
 cases r<;>simp
def GD:(sizeLine:Nat)<2^63:=by rw[iA];decide
def Ye:eD X (λx H Q=>∃k,Nq X.K x H k/\Q k H):=by
 intro pins s σ H x v Q I rx h;obtain⟨k,e,q⟩:=h;have hl:=GD;have hs:sizeLine=16777216:=iA;cases x with
 |non=>
  cases rx;have e':k=false:=e;subst e';exact truthy_none ⟨H,I,q⟩
 |bl b=>
  cases rx;have e':k=b:=e;subst e';exact iW ⟨H,I,q⟩
 |int i=>
  obtain⟨t,rfl⟩:=rx;have e':k=(i != 0):=e;subst e';exact PySem.P.truthy_int ⟨H,I,q⟩
 |str y=>
  obtain⟨t,rfl⟩:=rx;obtain⟨hy,e'⟩:y.length<=sizeLine/\k=((y.length:Int) != 0):=e;subst e';exact PySem.P.truthy_str 67 ⟨H,I.tok _,q⟩
 |byt y=>
  obtain⟨t,rfl⟩:=rx;obtain⟨hy,e'⟩:y.size<=sizeLine/\k=((y.size:Int) != 0):=e;subst e';exact PySem.W.truthy_bytes 67 ⟨H,I.tok _,q⟩
 |ref p=>
  cases rx;have e':(∃xs,SqL X.K H p xs/\k=!xs.isEmpty)∨(∃xs,SqT X.K H p xs/\k=!xs.isEmpty)∨∃kvs,H p=some (.dK kvs)/\k=!kvs.isEmpty:=e;rcases e' with⟨xs,hx,e'⟩|⟨xs,hx,e'⟩|⟨kvs,hx,e'⟩
  .subst e';obtain⟨its,r,pl,hz⟩:=I.list hx;have hlen:=r.length;exact wpAny_truthy_list pl.isList (by simp only[gz];omega) ⟨H,I.tok _,by rw[Jo r];exact q⟩
  .subst e';obtain⟨its,r,pl,hz⟩:=I.tuple hx;have hlen:=r.length;exact truthy_tuple pl (by simp only[gz];omega) ⟨H,I.tok _,by rw[Jo r];exact q⟩
  .subst e';obtain⟨hz,hS,vs,r,m⟩:kvs.length<=sizeLine/\(p==sysModules)=false/\∃vs,KV kvs vs/\s.heap.DictOf (BF X.prog X.w) p vs:=I.hok p _ hx;have hlen:kvs.length=vs.length:=Paired.length r;exact wpAny_truthy_dict hS m 67 ⟨H,I.tok _,by rw[QP r];exact q⟩
 |_=>exact(show False from e).elim
def UJ(ha:PE X a ta)(he:∀whole,isTrue a X.env whole=(do let v <- whole;standAt a.pos;holding [v] (truthy v))):
 PT X a (λσ H Q=>ta σ H λx H'=>∃k,Nq X.K x H' k/\Q k H'):=by
 intro pins s σ H Q I h;exact isTrue_plain (thn (ha pins s σ H _ I h) λv s1 ⟨x,H1,I1,r1,q1⟩=>Ye pins s1 σ H1 x v Q I1 r1 q1) (he _)
def C4{x:V}{us:List Value}(r:Vals [x] us):∃u,us=[u]/\RelV x u:=by
 cases r with
 |cons r1 r2=>cases r2;exact⟨_,rfl,r1⟩
def PD{x y:V}{us:List Value}(r:Vals [x,y] us):∃u w',us=[u,w']/\RelV x u/\RelV y w':=by
 cases r with
 |cons r1 r2=>
  cases r2 with
  |cons r3 r4=>cases r4;exact⟨_,_,rfl,r1,r3⟩
def Sl(hc:X.calm=true):CallR X (.builtin "max") (λxs H Q=>∃i j,xs=[.int i,.int j]/\Q (.int (if j>i then j else i)) H):=by
 intro pins s σ H xs us Q I r h;obtain⟨i,j,rfl,q⟩:=h;obtain⟨u,w',rfl,⟨t,rfl⟩,⟨t',rfl⟩⟩:=PD r;refine max_two_ints (I.ok.hd hc) λh' tk k=>⟨_,H,I.kept k,?_,q⟩
 by_cases hj:j>i
 .rw[gi hj,gi hj];exact⟨_,rfl⟩
 .rw[gj hj,gj hj];exact⟨_,rfl⟩
end
def RelO.some_of{v:V}{o:Option Value}(r:RelO (some v) o):∃u,o=some u/\RelV v u:=by
 cases o with
 |none=>exact(show False from r).elim
 |some u=>exact⟨u,rfl,r⟩
structure Room(k:Nat)(A:Around):Prop where
 hd:A.handled=none
 dp:A.depth+3*k+5<recursionLimit
 un:A.units+16*k+200<cLine
 gd:A.guards=some []
def Room.mono{j k:Nat}{A:Around}(r:Room k A)(h:j<=k):Room j A:=⟨r.hd,by have:=r.dp;omega,by have:=r.un;omega,r.gd⟩
theorem Room.deeper{k:Nat}{A:Around}(r:Room (k+1) A)(env:Env):Room k (A.deeper env):=
 ⟨r.hd,by have:=r.dp;show A.depth+1+3*k+5<_;omega,by have:=r.un;show A.units+3+16*k+200<_;omega,by first|exact r.gd|(simpa [Around.deeper,Around.under,Code.guards,Code.isGuard,pushGuards]using r.gd)⟩
theorem Room.in1{k:Nat}{A:Around}(r:Room (k+1) A):Room k A.in1:=
 ⟨r.hd,by have:=r.dp;show A.depth+3*k+5<_;omega,by have:=r.un;show A.units+1+16*k+200<_;omega,r.gd⟩
theorem Room.depth{k:Nat}{A:Around}(r:Room k A):A.depth<recursionLimit:=by have:=r.dp;omega
theorem Room.units{k:Nat}{A:Around}(r:Room k A):A.units+64<cLine:=by have:=r.un;omega
def Room.units0{k:Nat}{A:Around}(r:Room k A):A.units<cLine:=by have:=r.un;omega
def Bp:TA:=λ_ H Q=>Q [] H
def BB(ta:TE)(tr:TA):TA:=λσ H Q=>ta σ H λx H1=>tr σ H1 λxs H2=>Q (x::xs) H2
section
variable{X:Cx}{e:Expr}{es:List Expr}{te:TE}{t:TA}{pos:Pos}
def CK:PA X [] Bp:=λ_ _ _ _ H Q I h=>Calls.spliced_nil ⟨[],H,I,.nil,h⟩
def BV(ha:PE X e te)(hr:PA X es t)(hs:starEach (e::es) X.env=88::starEach es X.env:=by rfl):PA X (e::es) (BB te t):=by
 intro pos pins s σ H Q I h;rw[hs];show wpAny _ _ (spliced (88::backTo pos (starEach es X.env))) _ _ s;refine Calls.spliced_cons (thn (ha pins s σ H _ I h) λu s1 ⟨x,H1,I1,r1,q1⟩=>?_);exact thn (hr pos pins s1 σ H1 _ I1 q1) λus s2 ⟨xs,H2,I2,r2,q2⟩=>⟨x::xs,H2,I2,.cons r1 r2,q2⟩
def TF(t:TA):TE:=λσ H Q=>t σ H λxs H1=>96<=sizeLine/\∀p,H1 p=none->Q (.ref p) (upd H1 p (.tup xs))
def TM(t:TA):TE:=λσ H Q=>t σ H λxs H1=>96<=sizeLine/\∀p,H1 p=none->Q (.ref p) (upd H1 p (.lst xs))
def aE{x1}(h:PA X es t):PE X (.Tuple es x1 pos) (TF t):=by
 intro pins s σ H Q I hq;refine wpAny_Tuple_spliced (thn (h pos pins s σ H _ I hq) λus s1 ⟨xs,H1,I1,r,z,q⟩=>⟨by rw[<- r.length];exact z,?_⟩);have hf:H1 s1.heap.objs.size=none:=I1.hok.fresh (gm _);refine⟨.ref s1.heap.objs.size,upd H1 s1.heap.objs.size (.tup xs),I1.laid (t':=s1.toks) (λb u e=>74 _ e) (gm _) ?_,rfl,q _ hf⟩;exact⟨z,us,r,⟨_,87 _ rfl,rfl,⟨_,rfl⟩,rfl⟩⟩
def aJ(h:PA X es t):PE X (.List es pos) (TM t):=by
 intro pins s σ H Q I hq;refine wpAny_List_spliced (thn (h pos pins s σ H _ I hq) λus s1 ⟨xs,H1,I1,r,z,q⟩=>⟨by rw[<- r.length];exact z,?_⟩);have hf:H1 s1.heap.objs.size=none:=I1.hok.fresh (gm _);refine⟨.ref s1.heap.objs.size,upd H1 s1.heap.objs.size (.lst xs),I1.laid (t':=s1.toks) (λb u e=>74 _ e) (gm _) ?_,rfl,q _ hf⟩;exact⟨z,us,0,r,87 _ rfl⟩
end
abbrev Sp:=List V->Hp->VK->XK->Prop
abbrev CXT:=List Env->Hp->Shared->XK->Value->Shared->Prop
structure Env0(P:Program)(w:World)(K:Frag)(mg:Str->Option Value)(base:Heap)(A:Around)(outer:List Env)(s:Shared)(H:Hp):Prop where
 frames:A.frames=some outer
 mod:Mod K mg base
 bs:∀b o,base.get? b=some o->s.heap.get? b=some o/\H b=none
 bsz:base.objs.size<=66
 funs:s.heap.FunFrames base outer
 frf:∀b∈frs outer,H b=none
 hok:HOk P w H s.heap
 bare:AllBare s.gens
def CE(outer:List Env)(P:Program)(w:World)(H:Hp)(s:Shared)(Q:VK)(u:Value)(s':Shared):Prop:=
 ∃v H',s'.os=s.os/\AllBare s'.gens/\Un (frs outer) [] H H' s.heap s'.heap/\HOk P w H' s'.heap/\RelV v u/\Q v H'
def CR(CX:CXT)(outer:List Env)(P:Program)(w:World)(H:Hp)(s:Shared)(Q:VK)(E:XK)(r:Result)(s':Shared):Prop:=
 match r with
 |.ok (.ret u)=>CE outer P w H s Q u s'
 |.ok _=>False
 |.error e=>CX outer H s E e s'
structure FnOk(P:Program)(w:World)(K:Frag)(mg:Str->Option Value)(base:Heap)(CX:CXT)(k:Nat)(f:Addr)(fd:FuncData)(ps:List Str)(sp:Sp):Prop where
 len:∀vs H Q E,sp vs H Q E->vs.length=ps.length
 run:∀(A:Around) (outer:List Env) (s:Shared) (H:Hp) (args:Args) (us:List Value) (vs:List V) (Q:VK) (E:XK),Room k A->Env0 P w K mg base A outer s H->BindsTo s fd args (ps.zip us)->Vals vs us->sp vs H Q E ->
  codeAny (model P w) A (.call (.ref f) args) (CR CX outer P w H s Q E) s
theorem FnOk.mono{P:Program}{w:World}{K:Frag}{mg:Str->Option Value}{base:Heap}{CX:CXT}{j k:Nat}{f:Addr}{fd:FuncData}{ps:List Str}{sp:Sp}(F:FnOk P w K mg base CX j f fd ps sp)(h:j<=k):
 FnOk P w K mg base CX k f fd ps sp:=⟨F.len,λA outer s H args us vs Q E hr=>F.run A outer s H args us vs Q E (hr.mono h)⟩
section
variable{X:Cx}{pins:List 78}{σ:St}{H:Hp}{s s':Shared}
def Inv.env0(I:Inv X pins σ H s):Env0 X.prog X.w X.K X.mg X.base X.A X.stack s H:=
 ⟨I.ok.frames,I.ok.mod,I.bs,ia I.ok.bsz I.sz,I.stack,I.stkFree,I.hok,I.bare⟩
def Inv.after{Q:VK}{u:Value}(I:Inv X pins σ H s)(h:CE X.stack X.prog X.w H s Q u s'):EP X pins σ Q u s':=by
 obtain⟨v,H',os,bare,un,hok,r,q⟩:=h;obtain⟨hh,g,d,t,os'⟩:=s';obtain rfl:os'=s.os:=os;exact⟨v,H',I.call (h':=hh) (g':=g) (d':=d) (t':=t) (ch:=[]) un hok bare (λb z=>absurd z 75),r,q⟩
end
def FU(sp:Sp)(dvs:List V)(E:XK)(t:TA):TE:=λσ H Q=>t σ H λvs H1=>sp (vs++dvs) H1 Q E
def Binds(K:Frag)(fd:FuncData)(ps:List Str)(ds:List Value):Prop:=
 ∀(s:Shared) (us:List Value),K.In s.heap->(us++ds).length=ps.length->BindsTo s fd ⟨us,[]⟩ (ps.zip (us++ds))
def Binds.all{K:Frag}{fd:FuncData}{ps:List Str}(h:∀us:List Value,us.length=ps.length->bindArgs fd ⟨us,[]⟩=pure (ps.zip us)):Binds K fd ps []:=λs us _ hl=>by
 rw[iF]at hl ⊢;exact .of_eq (h us hl)
def Nu(CX:CXT)(X:Cx)(E:XK):Prop:=∀(pins:List 78) (σ:St) (H:Hp) (s:Shared) (e:Value) (s':Shared),Inv X pins σ H s->CX X.stack H s E e s'->X.xe e s'
section
variable{X:Cx}{CX:CXT}{k:Nat}{f C:Addr}{fd:FuncData}{ps:List Str}{sp:Sp}{dvs:List V}{ds:List Value}{E:XK}{x m:Str}{p pos apos:Pos}{e o:Expr}{es:List Expr}{ta:TE}{t:TA}
def Yq{pins:List 78}{σ:St}{H:Hp}{s:Shared}{Q:VK}{us:List Value}{vs:List V}(F:FnOk X.prog X.w X.K X.mg X.base CX k f fd ps sp)(hr:Room k X.A)(hb:Binds X.K fd ps ds)(hd:Vals dvs ds)(hx:Nu CX X E)
 (I:Inv X pins σ H s) (r:Vals vs us) (h:sp (vs++dvs) H Q E):wpAny 69 X.A (call (.ref f) us) (EP X pins σ Q) X.xe s:=by
 have r2:Vals (vs++dvs) (us++ds):=r.append hd;have hl:(us++ds).length=ps.length:=by rw[<- r2.length];exact F.len _ _ _ _ h
 refine wpAny_call (jb (F.run X.A X.stack s H ⟨us,[]⟩ (us++ds) (vs++dvs) Q E hr I.env0 (hb s us I.kIn hl) r2 h) λr s' hq=>?_);cases r with
 |error e=>exact hx pins σ H s e s' I hq
 |ok fl=>
  cases fl with
  |ret u=>exact I.after hq
  |next=>exact False.elim hq
  |brk=>exact False.elim hq
  |cont=>exact False.elim hq
def Xd(F:FnOk X.prog X.w X.K X.mg X.base CX k f fd ps sp)(hr:Room k X.A)(hg:Gl X x)(hm:X.mg x=some (.ref f))(hk:keepIn X.K (.ref f)=true)(hb:Binds X.K fd ps ds)(hd:Vals dvs ds)(hx:Nu CX X E)
 (ha:PA X (e::es) t) (hdb:(x==("__debug__":Str))=false:=by decide) (he:starEach (e::es) X.env=88::starEach es X.env:=by rfl) (hpl:(backTo pos (starEach es X.env)).any (·.1)=false:=by rfl):
 PE X 113 (FU sp dvs E t):=by
 intro pins s σ H Q I h;refine j6 (Xz I hg hm ?_ hdb);refine PySem.W.callWith_K (h₀:=X.base) I.ok.mod.kin hk (thn (ha pos pins s σ H _ I h) λus s1 ⟨vs,H1,I1,r,q⟩=>⟨I1.kIn,?_⟩) he hpl;exact Yq F hr hb hd hx I1 r q
end
structure FnScope(N P:List Str)(sc:Scope):Prop where
 kind:sc.kind=.function
 co:sc.isCoroutine=false
 gen:sc.isGenerator=false
 nd:N.Nodup
 pre:N.take P.length=P
 par:∀x∈P,sc.names.lookup x=some .local∨sc.names.lookup x=some .cell
 nofree:∀y∈sc.names,y.2≠.free
theorem LO{kindOf:Str->Option NameKind}{x:Str}:∀{binds:List (Str×Value)} {m:Str->Option Value},(∀v,(x,v)∉binds)->bindL kindOf binds m x=m x
 |[],_,_=>rfl
 |(n,v)::r,m,h=>by
   unfold bindL;rw[LO λw hw=>h w (gp _ hw)];split
   .have:x≠n:=by rintro rfl;exact h v gy
    simp[this]
   .rfl
theorem LQ{kindOf:Str->Option NameKind}{x:Str}:∀{binds:List (Str×Value)} {m:Str->Option Value},(∀v,(x,v)∉binds)->bindC kindOf binds m x=m x
 |[],_,_=>rfl
 |(n,v)::r,m,h=>by
   unfold bindC;rw[LQ λw hw=>h w (gp _ hw)];split
   .rfl
   .have:x≠n:=by rintro rfl;exact h v gy
    simp[this]
theorem LP{kindOf:Str->Option NameKind}{x:Str}{v:Value}:∀{P:List Str} {vs:List Value} {i:Nat} {m:Str->Option Value},P.Nodup->P[i]?=some x->vs[i]?=some v->kindOf x=some .local ->
 bindL kindOf (P.zip vs) m x=some v
 |[],_,_,_,_,h,_,_=>by simp at h
 |_::_,[],_,_,_,_,h,_=>by simp at h
 |p::P,w::vs,0,m,nd,h1,h2,hk=>by
  simp at h1 h2;subst h1;subst h2;show bindL kindOf ((p,w)::P.zip vs) m p=_;unfold bindL;rw[LO λv hv=>(nodup_cons.mp nd).1 (of_mem_zip hv).1,gi hk];simp
 |p::P,w::vs,i+1,m,nd,h1,h2,hk=>by
  show bindL kindOf ((p,w)::P.zip vs) m x=_;unfold bindL;exact LP (i:=i) (nodup_cons.mp nd).2 (by simpa using h1) (by simpa using h2) hk
theorem LR{kindOf:Str->Option NameKind}{x:Str}{v:Value}:∀{P:List Str} {vs:List Value} {i:Nat} {m:Str->Option Value},P.Nodup->P[i]?=some x->vs[i]?=some v->kindOf x≠some .local ->
 bindC kindOf (P.zip vs) m x=some v
 |[],_,_,_,_,h,_,_=>by simp at h
 |_::_,[],_,_,_,_,h,_=>by simp at h
 |p::P,w::vs,0,m,nd,h1,h2,hk=>by
  simp at h1 h2;subst h1;subst h2;show bindC kindOf ((p,w)::P.zip vs) m p=_;unfold bindC;rw[LQ λv hv=>(nodup_cons.mp nd).1 (of_mem_zip hv).1,gj hk];simp
 |p::P,w::vs,i+1,m,nd,h1,h2,hk=>by
  show bindC kindOf ((p,w)::P.zip vs) m x=_;unfold bindC;exact LR (i:=i) (nodup_cons.mp nd).2 (by simpa using h1) (by simpa using h2) hk
def start(N:List Str)(vs:List V):St:=vs.map some++102 (N.length-vs.length) none
def Fz(CX:CXT)(P:Program)(w:World)(K:Frag)(mg:Str->Option Value)(base:Heap)(N:List Str)(qual:Str)(scope:Scope)(f:Addr)(cd:Value)(A:Around)(outer:List Env)(s:Shared)(H:Hp)(E:XK):Cx where
 prog:=P
 w:=w
 K:=K
 mg:=mg
 base:=base
 A:=A.deeper (envOfC qual scope 66 f cd)
 N:=N
 s₀:=s
 H₀:=H
 env:=envOfC qual scope 66 f cd
 outer:=outer
 stack:=envOfC qual scope 66 f cd::outer
 ex:=[]
 calm:=true
 fn:=λ_=>true
 pn:=[]
 xe:=λe s'=>wpAny (model P w) (A.deeper (envOfC qual scope 66 f cd)) (leaving (envOfC qual scope 66 f cd) e) (λ_ s''=>CX outer H s E e s'') (λe' s''=>CX outer H s E e' s'') s'
def Nh{sc:Scope}{n:Nat}{x:Str}(h:sc.names.lookup x=some .cell):∃c,(cellsFrom n sc.names []).lookup x=some c:=by
 have q:=PySem.W.cellsFrom_some sc.names n [] (.inl h);exact isSome_iff_exists.mp q
def SL{CX:CXT}{P:Program}{w:World}{K:Frag}{mg:Str->Option Value}{base:Heap}{N ps:List Str}{qual:Str}{scope:Scope}{f:Addr}{cd:Value}{A:Around}{outer:List Env}{s s1:Shared}{H:Hp}{E:XK}{us:List Value}{vs:List V}
 (S:FnScope N ps scope) (hd:A.handled=none) (e0:Env0 P w K mg base A outer s H) (hl:vs.length=ps.length) (r:Vals vs us)
 (x:InCallC s 66 (bindL (envOfC qual scope 66 f cd).kindOf (ps.zip us) λ_=>none) (cellsFrom (66+1) scope.names []) (bindC (envOfC qual scope 66 f cd).kindOf (ps.zip us) λ_=>none) s1):
 Inv (Fz CX P w K mg base N qual scope f cd A outer s H E) [] (start N vs) H s1:=by
 have hpl:ps.length<=N.length:=by have:=iw List.length S.pre;rw[iG]at this;omega
 obtain⟨h1,tk,rfl,hk⟩:=x.done;have noA:∀b:Addr,b∉(Fz CX P w K mg base N qual scope f cd A outer s H E).ex:=λb z=>absurd (show b∈([]:List Addr)from z) 75;refine⟨⟨e0.mod,S.kind,rfl,rfl,gm _,λy z c h1 h2=>?_,λy hy=>?_,λy c _ h=>?_,λ_=>hd,Around.frames_deeper e0.frames,.inr ⟨rfl,rfl⟩,λb z=>absurd z (noA b),e0.bs,e0.bsz,λb _ _=>noA b,λb z=>absurd z (noA b),e0.funs,e0.frf⟩,
  rfl,e0.bare,Un.kept hk,⟨_,x.toInCall.ns,λi y v h1 h2 h3=>?_⟩,λy c h=>⟨_,x.cell y c h⟩,e0.hok.fresh (gm _),λy c h=>?_,λp hp=>absurd (show p∈([]:List 78)from hp) 75,e0.hok.kept hk,?_⟩
 .exact name_of_addr x.apart (PySem.mem_of_lookup h1) (PySem.mem_of_lookup h2)
 .have hy:scope.names.lookup y=some .cell∨scope.names.lookup y=some .free:=hy;rcases hy with hy|hy
  .exact Nh hy
  .exact absurd rfl (S.nofree _ (PySem.mem_of_lookup hy))
 .exact iS (x.above y c (PySem.mem_of_lookup h))
 .have hi:i<vs.length:=by
   unfold start at h2;by_cases hi:i<vs.length
   .exact hi
   .rw[List.getElem?_append_right (by simpa using hi)]at h2;rw[List.getElem?_replicate]at h2;split at h2<;>cases h2
  have ha:vs[i]?=some v:=by
   unfold start at h2;rw[List.getElem?_append_left (by simpa using hi),List.getElem?_map]at h2;cases e:vs[i]? with
   |none=>rw[e]at h2;cases h2
   |some a=>rw[e]at h2;cases h2;rfl
  obtain⟨u,hu,rv⟩:=r.get ha;have hp:ps[i]?=some y:=by
   rw[<- S.pre,List.getElem?_take_of_lt 67];exact h1
  have ndP:ps.Nodup:=by rw[<- S.pre];exact S.nd.sublist (List.take_sublist _ _)
  refine⟨u,rv,?_⟩;rcases S.par y (ig hp)with k|k
  .exact .inl ⟨k,LP ndP hp hu k⟩
  .obtain⟨c,e⟩:=Nh (n:=66+1) k;refine .inr ⟨.inl k,c,e,?_⟩;have q:=x.cell y c e;rw[LR ndP hp hu (by show scope.names.lookup y≠_;rw[k];decide)]at q;exact q
 .exact e0.hok.fresh (iS (x.above y c (PySem.mem_of_lookup h)))
 .unfold start;show _=N.length;rw[iM,hX,List.length_replicate];omega
def Vc{CX:CXT}{P:Program}{w:World}{K:Frag}{mg:Str->Option Value}{base:Heap}{k:Nat}{f:Addr}{name qual:Str}{params:Arguments}{body:List Stmt}{scope:Scope}{dV kV doc pm cdv ct oc:Value}{an od:Option Addr}
 {osl:Array (Option Value)} {N ps:List Str} {sp:Sp} (lk:K.lookup f=some ⟨oc,od,.func (fnOf name qual params body scope dV kV doc pm an cdv ct),osl⟩) (hcd:codeIn K cdv qual=true) (S:FnScope N ps scope)
 (len:∀vs H Q E,sp vs H Q E->vs.length=ps.length)
 (hbody:∀(A:Around) (outer:List Env) (s:Shared) (H:Hp) (vs:List V) (Q:VK) (E:XK),Room k (A.deeper (envOfC qual scope 66 f cdv))->sp vs H Q E ->
  ∃t,PSs (Fz CX P w K mg base N qual scope f cdv A outer s H E) body t/\t { nx:=λ_ H'=>Q .non H',rt:=Q } (start N vs) H):
 FnOk P w K mg base CX (k+1) f (fnOf name qual params body scope dV kV doc pm an cdv ct) ps sp:=by
 refine⟨len,λA outer s H args us vs Q E hr e0 hb r hsp=>?_⟩;have hl:=len _ _ _ _ hsp;have KX:K.In s.heap:=e0.mod.kin.keeps λb o e=>(e0.bs b o e).1;have lim:s.heap.NoLimit:=e0.mod.nolimit.keeps λb o e=>(e0.bs b o e).1;have hkind:∀y∈ps.zip us,scope.names.lookup y.1=some .local∨(scope.names.lookup y.1=some .cell/\((cellsFrom (66+1) scope.names []).lookup y.1).isSome=true):=λ⟨n,v⟩ hy=>by
  rcases S.par n (of_mem_zip hy).1 with q|q
  .exact .inl q
  .exact .inr ⟨q,PySem.W.cellsFrom_some _ _ _ (.inl q)⟩
 refine codeAny_call_function hr.depth (KX _ _ lk) rfl S.co S.gen rfl (PySem.W.codeRec_of KX hcd) (hb _ _ _ _ ?_);refine wpAny_newFunctionEnv_cells S.kind hkind λenv he s1 x=>?_;subst he;refine⟨lim.keeps x.toInCall.keep,codeAny_func ?_⟩;obtain⟨t,ht,hq⟩:=hbody A outer s H vs Q E (hr.deeper _) hsp;have I:Inv (Fz CX P w K mg base N qual scope f cdv A outer s H E) [] (start N vs) H s1:=SL S hr.hd e0 hl r x;refine hZ (ht [] s1 (start N vs) H _ I hq) (λfl s' hs=>?_) λe s' hs=>hs;have fin:∀{σ':St} {H':Hp} {v:V} {u:Value},Inv (Fz CX P w K mg base N qual scope f cdv A outer s H E) [] σ' H' s'->RelV v u->Q v H'->CE outer P w H s Q u s':=
  λ{σ' H' v u} J rv q=>⟨v,H',J.os,J.bare,J.base,J.hok,rv,q⟩
 cases fl with
 |ret u=>
  obtain⟨v,σ',H',J,rv,q⟩:=hs;exact fin J rv q
 |next=>
  obtain⟨σ',H',J,q⟩:=hs;exact fin (v:=V.non) (u:=Value.none) J rfl q
 |brk=>
  obtain⟨_,_,_,q⟩:=hs;exact False.elim q
 |cont=>
  obtain⟨_,_,_,q⟩:=hs;exact False.elim q
section
variable{X:Cx}{x:Str}{p pos:Pos}{e:Expr}{es:List Expr}{t:TA}{id T:String}{r:List V->Hp->VK->Prop}
def tCB(r:List V->Hp->VK->Prop)(t:TA):TE:=λσ H Q=>t σ H λvs H1=>r vs H1 Q
def GV(hc:CallR X (.builtin id) r)(hg:Gl X x)(hm:X.mg x=none)(hv:bootBuiltins x=some (.builtin id))(ha:PA X (e::es) t)(hn:x≠"__name__":=by decide)(hdb:(x==("__debug__":Str))=false:=by decide)
 (he:starEach (e::es) X.env=88::starEach es X.env:=by rfl) (hpl:(backTo pos (starEach es X.env)).any (·.1)=false:=by rfl):PE X 113 (tCB r t):=by
 intro pins s σ H Q I h;refine j6 (Cn I hg hm hv ?_ hn hdb);exact PyProof.Rows.callWith_builtin1 (thn (ha pos pins s σ H _ I h) λus s1 ⟨vs,H1,I1,r1,q1⟩=>hc pins s1 σ H1 vs us Q I1 r1 q1) he hpl
def DW(hc:CallR X (.type T) r)(hg:Gl X x)(hm:X.mg x=none)(hv:bootBuiltins x=some (.type T))(ha:PA X (e::es) t)(hn:x≠"__name__":=by decide)(hdb:(x==("__debug__":Str))=false:=by decide)
 (he:starEach (e::es) X.env=88::starEach es X.env:=by rfl) (hpl:(backTo pos (starEach es X.env)).any (·.1)=false:=by rfl):PE X 113 (tCB r t):=by
 intro pins s σ H Q I h;refine j6 (Cn I hg hm hv ?_ hn hdb);exact PyProof.Rows.callWith_type1 (thn (ha pos pins s σ H _ I h) λus s1 ⟨vs,H1,I1,r1,q1⟩=>hc pins s1 σ H1 vs us Q I1 r1 q1) he hpl
end
end L2
namespace HT
open PySem PyProof.Rows
section
variable{prog:Program}{w:World}{A:Around}{E:Value->Shared->Prop}{s:Shared}
def cat_tup{t b:Addr}{vs ws:List Value}{Q:Value->Shared->Prop}(ht:IsTup s.heap t 118)(hb:IsTup s.heap b ws.toArray)(hv:vs≠[])
 (h1:ws=[]->Q (.ref t) s) (h2:ws≠[]->Q (.ref 66) { s with heap:=s.heap.push { cls:=.type "tuple",data:=.seq (vs++ws).toArray } })
 (hsz:vs.length+68<=sizeLine):wpAny 92 A (binaryOp .Add (.ref t) (.ref b)) Q E s:=by
 obtain⟨⟨cls,dd,data,sl⟩,ho,hc,n,hd⟩:=id ht;obtain⟨⟨cls2,dd2,data2,sl2⟩,ho2,hc2,n2,hd2⟩:=id hb;simp only at hc hd hc2 hd2;subst hc hd hc2 hd2;have e:118++ws.toArray=(vs++ws).toArray:=by simp
 by_cases hw:ws=[]
 .exact concat_meets ⟨_,ho,rfl⟩ ⟨_,ho2,rfl⟩ noFill_tuple_add seq_tuple_add PySem.F.slot_tuple_add PySem.F.entry_tuple_add (PySem.F.args_tuple_add_2 _ _)
   (tuple_addW1 t b 118 ws.toArray n n2 dd dd2 sl sl2 (by simpa using hv) (by simp[hw])) ⟨ho,ho2,h1 hw⟩
 .refine concat_meets ⟨_,ho,rfl⟩ ⟨_,ho2,rfl⟩ noFill_tuple_add seq_tuple_add PySem.F.slot_tuple_add PySem.F.entry_tuple_add (PySem.F.args_tuple_add_2 _ _)
   (tuple_addW2 t b 118 ws.toArray n n2 dd dd2 sl sl2 (by simpa using hv) (by simpa using hw) (by rw[gz,gz];exact hsz)) ⟨ho,ho2,?_⟩
  rw[e];exact h2 hw
def sIx(n d:Nat):Option Int->Nat
 |none=>d
 |some v=>if v<0 then(v+(n:Int)).toNat else min v.toNat n
def Yo(n d:Nat)(hd:d<=n)(o:Option Int):sIx n d o<=n:=by
 cases o with
 |none=>exact hd
 |some v=>
  show(if v<0 then(v+(n:Int)).toNat else min v.toNat n)<=n;by_cases hv:v<0
  .rw[gi hv];omega
  .rw[gj hv];exact Nat.min_le_right _ _
def P4(v:Int)(n d:Nat):(if v<0 then max (v+(n:Int)) 0 else min v (n:Int))=((sIx n d (some v):Nat):Int):=by
 show(if v<0 then max (v+(n:Int)) 0 else min v (n:Int))=(((if v<0 then(v+(n:Int)).toNat else min v.toNat n):Nat):Int);by_cases hv:v<0
 .simp only[gi hv];omega
 .simp only[gj hv];omega
def Qk(lo hi:Option Int)(n:Nat):Builtin.Slice.sliceAdjust lo hi 1 (n:Int)=(((sIx n 0 lo:Nat):Int),((sIx n n hi:Nat):Int)):=by
 have h1:¬ ((1:Int)<0):=by omega
 unfold Builtin.Slice.sliceAdjust;simp only[h1,ip];refine Prod.ext ?_ ?_
 .cases lo with
  |none=>rfl
  |some v=>exact P4 v n 0
 .cases hi with
  |none=>rfl
  |some v=>exact P4 v n n
def Q3(i j:Nat):Builtin.Slice.slicePlaces (i:Int) (j:Int) 1=j-i:=by
 unfold Builtin.Slice.slicePlaces;have h1:(1:Int)>0:=by omega
 simp only[h1,i3,Int.ediv_one];split<;>omega
def JR{v:Value}{o:Option Int}{Q:Option Int->Shared->Prop}(p:IsPart v o)(h:Q o s):wpAny 92 A (Builtin.Slice.slicePartIndex v) Q E s:=by
 cases p with
 |none=>exact slicePart_none h
 |int i t=>exact slicePart_int h
def FA{sl:Addr}{vl vu:Value}{lo hi:Option Int}{n:Nat}{Q:Int×Int×Nat->Shared->Prop}(hs:s.heap.IsSliceOf sl vl vu .none)(pl:IsPart vl lo)(pu:IsPart vu hi)
 (h:Q (((sIx n 0 lo:Nat):Int),1,sIx n n hi-sIx n 0 lo) s):wpAny 92 A (Builtin.Slice.sliceApplied (.ref sl) (pure (n:Int))) Q E s:=by
 obtain⟨os,hos,hcs,hds⟩:=id hs;unfold Builtin.Slice.sliceApplied Builtin.Slice.sliceFields;refine gh (gh (iD hos hds (x:=vl) rfl (gh (iD hos hds (x:=vu) rfl (gh (iD hos hds (x:=.none) rfl (gn ?_)))))));refine gh (slicePart_none ?_);show wpAny _ _ (if((1:Int)==0)=true then _ else _) _ _ s;rw[gj 77];refine gh (JR pl (gh (JR pu (gh (gn ?_)))));show wpAny _ _ (match Builtin.Slice.sliceAdjust lo hi 1 (n:Int)with|(lo,hi)=>pure (lo,(1:Int),Builtin.Slice.slicePlaces lo hi 1)) _ _ s;rw[Qk lo hi n];show wpAny _ _ (pure (((sIx n 0 lo:Nat):Int),(1:Int),Builtin.Slice.slicePlaces ((sIx n 0 lo:Nat):Int) ((sIx n n hi:Nat):Int) 1)) _ _ s;rw[Q3];exact gn h
def UP(xs:Array Value)(i k:Nat):((71 k).filterMap λ(m:Nat)=>xs[((i:Int)+(m:Int)*1).toNat]?).toArray=((xs.toList.drop i).take k).toArray:=by
 have e:(λ(m:Nat)=>xs[((i:Int)+(m:Int)*1).toNat]?)=λm=>xs[i+m]? := by
  funext m
  have:((i:Int)+(m:Int)*1).toNat=i+m:=by omega
  rw[this]
 rw[e];have:=pick_run xs i k;rw[List.filterMap_map]at this;have e2:((λx=>xs[x]?) ∘ λx=>i+x)=λm=>xs[i+m]? := rfl;rw[e2]at this;rw[this]
def getItem_tuple_cut{t sl:Addr}{items:Array Value}{vl vu:Value}{lo hi:Option Int}{Q:Value->Shared->Prop}(ht:IsTup s.heap t items)(hs:s.heap.IsSliceOf sl vl vu .none)(pl:IsPart vl lo)(pu:IsPart vu hi)
 (hw:¬ (sIx 111 0 lo=0/\sIx 111 111 hi=111))
 (h:Q (.ref 66) { s with heap:=s.heap.push { cls:=.type "tuple",data:=.seq ((items.toList.drop (sIx items.size 0 lo)).take (sIx items.size items.size hi-sIx items.size 0 lo)).toArray } })
 (hsz:111<=sizeLine):wpAny 92 A (getItem (.ref t) (.ref sl)) Q E s:=by
 have htake:sizeOk (.seq ((items.toList.drop (sIx 111 0 lo)).take (sIx 111 111 hi-sIx 111 0 lo)).toArray):=by
  show((items.toList.drop (sIx 111 0 lo)).take (sIx 111 111 hi-sIx 111 0 lo)).toArray.size<=sizeLine;rw[gz,iG,length_drop,Array.length_toList];omega
 have hj:sIx 111 111 hi<=items.size:=Yo _ _ (gm _) hi;obtain⟨os,hos,hcs,hds⟩:=id hs;have hTs:s.TypeIs (.ref sl) "slice":=⟨os,hos,hcs⟩
 unfold getItem
 try with_reducible refine il ?_
 first|refine gh (gn ?_)|skip
 refine gh (wpAny_sequenceKey ht.typeIs 77 ?_);refine gh (jt (name:=Str.ofString "__getitem__") ht.typeIs PyProof.Rows.slot_tuple_getitem
  (jd PyProof.Rows.slot_tuple_getitem ht.typeIs entry_tuple_getitem ?_ (args_tuple_getitem _ _)))
 show wpAny _ _ (Builtin.Tuple.tupleItemsOf (.ref t) >>= _) _ _ s;refine gh (tupleItemsOf_ ht ?_);refine gh (wpAny_typeOf hTs ?_);rw[gi 77];refine gh (FA hs pl pu ?_);have hno:¬ ((((sIx 111 0 lo:Nat):Int)==0&&(1:Int)==1&&(sIx 111 111 hi-sIx 111 0 lo)==111)=true):=by
  intro q;rw[Bool.and_eq_true,Bool.and_eq_true]at q;have q1:((sIx 111 0 lo:Nat):Int)=0:=eq_of_beq q.1.1;have q2:sIx 111 111 hi-sIx 111 0 lo=items.size:=eq_of_beq q.2;exact hw ⟨by omega,by omega⟩
 show wpAny _ _ (if(((sIx 111 0 lo:Nat):Int)==0&&(1:Int)==1&&(sIx 111 111 hi-sIx 111 0 lo)==111)=true then _ else _) _ _ s;rw[gj hno,UP]
 first
  |exact gh (m:=Builtin.Tuple.tupleExact _) (iX (gn ⟨_,rfl,gn h⟩) htake)
  |exact gh (m:=Builtin.Tuple.tupleExact _) (iX (gh (gn (gn ⟨_,rfl,gn h⟩))) htake)
  |exact gh (gh (m:=Builtin.Tuple.tupleExact _) (iX (gn (gn ⟨_,rfl,gn h⟩)) htake))
  |exact gh (gh (m:=Builtin.Tuple.tupleExact _) (iX (gn ⟨_,rfl,gn h⟩) htake))
end
end HT
namespace L2
open PySem PySem.Spec PyProof.Rows
abbrev TO:=St->Hp->(Option Int->Hp->Prop)->Prop
def PO(X:Cx)(e:Option Expr)(t:TO):Prop:=
 ∀(pins:List 78) (s:Shared) (σ:St) (H:Hp) (Q:Option Int->Hp->Prop),Inv X pins σ H s->t σ H Q ->
   wpAny 69 X.A (evalPart e X.env) (λu s'=>∃o H',Inv X pins σ H' s'/\IsPart u o/\Q o H') X.xe s
def K3:TO:=λ_ H Q=>Q none H
def PQ(t:TE):TO:=λσ H Q=>t σ H λx H1=>∃i,x=.int i/\Q (some i) H1
section
variable{X:Cx}{e:Expr}{te:TE}{lo hi:Option Expr}{tl th:TO}{pos p2:Pos}
def XM:PO X none K3:=by
 intro pins s σ H Q I h;rw[evalPart_none];exact gn ⟨none,H,I,.none,h⟩
def XJ(h:PE X e te):PO X (some e) (PQ te):=by
 intro pins s σ H Q I hw;rw[evalPart_some];refine thn (h pins s σ H _ I hw) λu s1 ⟨x,H1,I1,r1,q1⟩=>?_;obtain⟨i,rfl,q⟩:=q1;obtain⟨t,rfl⟩:=r1;exact⟨some i,H1,I1,.int i t,q⟩
def SlR(X:Cx)(r:V->Option Int->Option Int->Hp->VK->Prop):Prop:=
 ∀(pins:List 78) (s:Shared) (σ:St) (H:Hp) (x:V) (v vl vu:Value) (lo hi:Option Int) (sl:Addr) (Q:VK),Inv X pins σ H s->RelV x v->s.heap.IsSliceOf sl vl vu .none->IsPart vl lo->IsPart vu hi->r x lo hi H Q ->
   ∃T id,typeLookup (.type T) "__getitem__"=pure (some (.builtin id))/\s.TypeIs v T/\wpAny 69 X.A (getItem v (.ref sl)) (EP X pins σ Q) X.xe s
def tSl(r:V->Option Int->Option Int->Hp->VK->Prop)(te:TE)(tl th:TO):TE:=λσ H Q=>te σ H λx H1=>tl σ H1 λl H2=>th σ H2 λu H3=>r x l u H3 Q
def Mx{r:V->Option Int->Option Int->Hp->VK->Prop}(hr:SlR X r)(he:PE X e te)(hl:PO X lo tl)(hu:PO X hi th):PE X (.Subscript e (.Slice lo hi none p2) pos) (tSl r te tl th):=by
 intro pins s σ H Q I h;refine Subscript_ (thn (he pins s σ H _ I h) λv s1 ⟨x,H1,I1,r1,q1⟩=>?_);refine wpAny_Slice (thn (hl pins s1 σ H1 _ I1 q1) λvl s2 ⟨l,H2,I2,pl,q2⟩=>thn (hu pins s2 σ H2 _ I2 q2) λvu s3 ⟨u,H3,I3,pu,q3⟩=>?_);rw[evalPart_none];refine gn ?_;have I4:Inv X pins σ H3 { s3 with heap:=s3.heap.push { cls:=.type "slice",data:=.fields #[vl,vu,.none] } }:=I3.kept (t':=s3.toks) λb ob q=>74 _ q;obtain⟨T,id,hT,ht,hg⟩:=hr pins { s3 with heap:=s3.heap.push { cls:=.type "slice",data:=.fields #[vl,vu,.none] } } σ H3 x v vl vu l u s3.heap.objs.size Q I4 r1 (Heap.IsSliceOf.new ..) pl pu q3;show wpAny 69 X.A (subscriptTail e (.Slice lo hi none p2) v (.ref s3.heap.objs.size)) (EP X pins σ Q) X.xe { s3 with heap:=s3.heap.push { cls:=.type "slice",data:=.fields #[vl,vu,.none] } };exact tail_any (ops:=[.ref s3.heap.objs.size,v]) ht hT hg (by with_unfolding_all rfl)
def G0(xs:List V)(lo hi:Option Int):List V:=(xs.drop (HT.sIx 96 0 lo)).take (HT.sIx 96 96 hi-HT.sIx 96 0 lo)
def Ig(xs:List V)(lo hi:Option Int):(G0 xs lo hi).length<=xs.length:=by
 unfold G0;rw[iG,length_drop];omega
def ZI(K:Frag):V->Option Int->Option Int->Hp->VK->Prop:=λx lo hi H Q=>∃a xs,x=.ref a/\SqT K H a xs /\
 ¬ (HT.sIx 96 0 lo=0/\HT.sIx 96 96 hi=96)/\∀p,H p=none->Q (.ref p) (upd H p (.tup (G0 xs lo hi)))
def Yk:SlR X (ZI X.K):=by
 intro pins s σ H x v vl vu lo hi sl Q I rx hs pl pu h;obtain⟨a,xs,rfl,hx,hw,q⟩:=h;cases rx;obtain⟨its,r,ht,hz⟩:=I.tuple hx;have hlen:its.toArray.size=xs.length:=by rw[gz];exact r.length.symm
 refine⟨"tuple",_,PyProof.Rows.slot_tuple_getitem.lookup,ht.typeIs,?_⟩;refine HT.getItem_tuple_cut ht hs pl pu (by rw[hlen];exact hw) ?_ (by rw[hlen];exact hz);rw[hlen];refine⟨.ref 66,_,I.laid (t':=s.toks) (o:=.tup (G0 xs lo hi)) (λb ob q=>74 _ q) (gm _) ?_,rfl,q _ (I.hok.fresh (gm _))⟩;exact⟨ia (Ig xs lo hi) hz,_,(r.drop (HT.sIx 96 0 lo)).take (HT.sIx 96 96 hi-HT.sIx 96 0 lo),IsTupD.new _ _⟩
def Px(K:Frag):R2:=λx y H Q=>∃a b xs ys,x=.ref a/\y=.ref b/\SqT K H a xs/\SqT K H b ys/\xs≠[]/\96+ys.length<=sizeLine /\
 (ys=[]->Q (.ref a) H)/\(ys≠[]->∀p,H p=none->Q (.ref p) (upd H p (.tup (xs++ys))))
def Vals.nil_iff{xs:List V}{us:List Value}(r:Vals xs us):us=[]↔xs=[]:=by
 cases r with
 |nil=>simp
 |cons _ _=>simp
def Xg:OpR X (binaryOp .Add) (Px X.K):=by
 intro pins s σ H x y v u Q I rx ry h;obtain⟨a,b,xs,ys,rfl,rfl,ha,hb,hx,hz,q1,q2⟩:=h;cases rx;cases ry;obtain⟨its,r1,p1,_⟩:=I.tuple ha;obtain⟨its2,r2,p2,_⟩:=I.tuple hb;refine HT.cat_tup p1 p2 (λz=>hx (r1.nil_iff.mp z)) (λz=>⟨.ref a,H,I,rfl,q1 (r2.nil_iff.mp z)⟩) (λz=>?_) (by rw[<- r1.length,<- r2.length];exact hz);refine⟨.ref 66,_,I.laid (t':=s.toks) (o:=.tup (xs++ys)) (λb ob q=>74 _ q) (gm _) ?_,rfl,q2 (λw=>z (r2.nil_iff.mpr w)) _ (I.hok.fresh (gm _))⟩;exact⟨by rw[iM];exact hz,_,r1.append r2,IsTupD.new _ _⟩
end
def ixN(n:Nat)(i:Int):Option Nat:=if 0<=i then(if i<n then some i.toNat else none)else if -(n:Int)<=i then some (i+n).toNat else none
def atI{α:Type}(xs:List α)(i:Int):Option α:=(ixN 96 i).bind λj=>xs[j]?
def KO{n:Nat}{i:Int}{j:Nat}(h:ixN n i=some j):seqIndex? i n=some j/\j<n/\-(n:Int)<=i/\i<n:=by
 unfold ixN at h;by_cases h0:0<=i
 .rw[gi h0]at h;by_cases h1:i<n
  .rw[gi h1]at h;have e:i.toNat=j:=114 h;exact⟨by rw[seqIndex_of h0 h1,e],by omega,by omega,h1⟩
  .rw[gj h1]at h;cases h
 .rw[gj h0]at h;by_cases h1:-(n:Int)<=i
  .rw[gi h1]at h;have e:(i+n).toNat=j:=114 h;exact⟨by rw[seqIndex_neg 67 h1,e],by omega,h1,by omega⟩
  .rw[gj h1]at h;cases h
def Kh{α:Type}{xs:List α}{i:Int}{v:α}(h:atI xs i=some v):∃j,seqIndex? i 96=some j/\xs[j]?=some v/\j<96/\-(xs.length:Int)<=i/\i<xs.length:=by
 unfold atI at h;cases e:ixN 96 i with
 |none=>rw[e]at h;cases h
 |some j=>
  rw[e]at h;obtain⟨h1,h2,h3,h4⟩:=KO e;exact⟨j,h1,h,h2,h3,h4⟩
def IR{α:Type}{xs:List α}{j:Nat}{v:α}(h:xs[j]?=some v):atI xs (j:Int)=some v:=by
 have hj:j<xs.length:=(84 h).1;have e:ixN 96 (j:Int)=some j:=by
  unfold ixN;rw[gi 67,gi 67];simp
 unfold atI;rw[e];exact h
def Gw{α:Type}(xs:List α)(v:α):atI (xs++[v]) (-1)=some v:=by
 have hl:(xs++[v]).length=96+1:=by simp
 have e:ixN (xs++[v]).length (-1)=some xs.length:=by
  unfold ixN;rw[hl,gj 77,gi 67]
  congr 1
  omega
 unfold atI;rw[e];show(xs++[v])[96]?=some v;simp
def Kj(b:Expr):Prop:=∀o i,subscripted b false o i=operate [o,i] (getItem o i)
def IxR(X:Cx)(r:R2):Prop:=
 ∀(value slice:Expr) (pins:List 78) (s:Shared) (σ:St) (H:Hp) (x y:V) (v u:Value) (Q:VK),Inv X pins σ H s->RelV x v->RelV y u->r x y H Q ->
   subscripted slice false v u=operate [v,u] (getItem v u)->wpAny 69 X.A (subscriptTail value slice v u) (EP X pins σ Q) X.xe s
def MtR(X:Cx)(id:String)(r:V->List V->Hp->VK->Prop):Prop:=
 ∀(pins:List 78) (s:Shared) (σ:St) (H:Hp) (x:V) (xs:List V) (v:Value) (us:List Value) (Q:VK),Inv X pins σ H s->RelV x v->Vals xs us->r x xs H Q ->
   wpAny 69 X.A (call (.builtin id) (v::us)) (EP X pins σ Q) X.xe s
section
variable{X:Cx}{a b:Expr}{ta tb:TE}{pos:Pos}
def IxR.or{r r':R2}(h:IxR X r)(h':IxR X r'):IxR X (λx y H Q=>r x y H Q∨r' x y H Q):=by
 intro value slice pins s σ H x y v u Q I rx ry q hs;rcases q with q|q
 .exact h value slice pins s σ H x y v u Q I rx ry q hs
 .exact h' value slice pins s σ H x y v u Q I rx ry q hs
def VS{r:R2}(hr:IxR X r)(ha:PE X a ta)(hb:PE X b tb)(hs:Kj b):PE X (.Subscript a b pos) (tOp r ta tb):=by
 intro pins s σ H Q I h;exact Subscript_ (V4 ha hb I h λv u s2 x y H2 I2 rx ry q=>hr a b pins s2 σ H2 x y v u Q I2 rx ry q (hs _ _))
def KH(K:Frag):R2:=λx y H Q=>∃p xs i v,x=.ref p/\y=.int i/\SqL K H p xs/\atI xs i=some v/\Q v H
def Tx(K:Frag):R2:=λx y H Q=>∃p xs i v,x=.ref p/\y=.int i/\SqT K H p xs/\atI xs i=some v/\Q v H
def Y5:IxR X (KH X.K):=by
 intro value slice pins s σ H x y v u Q I rx ry h hs;obtain⟨p,xs,i,z,rfl,rfl,hq,he,q⟩:=h;cases rx;obtain⟨t,rfl⟩:=ry;obtain⟨its,r,pl,hz⟩:=I.list hq;obtain⟨j,h1,h2,h3,h4,h5⟩:=Kh he;obtain⟨w,ew,rw'⟩:=r.get h2;have hl:=r.length;have hn:=GD;have fin:EP X pins σ Q w s:=⟨z,H,I,rw',q⟩
 by_cases h0:0<=i
 .have hj:i.toNat=j:=by
   rw[seqIndex_of h0 h5]at h1;exact 114 h1
  exact item_listR pl.isList h0 67 (by rw[hj];simpa using ew) fin hs
 .have hj:(i+(its.toArray.size:Int)).toNat=j:=by
   rw[seqIndex_neg 67 h4]at h1;rw[gz,<- hl];exact 114 h1
  exact subscriptTail_builtinR (x:=w) pl.isList.typeIs slot_list_getitem.lookup
   (wpAny_getItem_list_neg (Q:=λr s'=>r=w/\EP X pins σ Q r s') pl.isList 67 (by rw[gz]<;>omega) 67 (by rw[hj];simpa using ew) ⟨rfl,fin⟩) hs
def aq:IxR X (Tx X.K):=by
 intro value slice pins s σ H x y v u Q I rx ry h hs;obtain⟨p,xs,i,z,rfl,rfl,hq,he,q⟩:=h;cases rx;obtain⟨t,rfl⟩:=ry;obtain⟨its,r,pl,hz⟩:=I.tuple hq;obtain⟨j,h1,h2,h3,h4,h5⟩:=Kh he;obtain⟨w,ew,rw'⟩:=r.get h2;have hl:=r.length;have hn:=GD;have fin:EP X pins σ Q w s:=⟨z,H,I,rw',q⟩
 exact subscriptTail_builtinR (x:=w) pl.typeIs slot_tuple_getitem.lookup
  (getItem_tuple (j:=j) (Q:=λr s'=>r=w/\EP X pins σ Q r s') pl 67 67 (by rw[gz,<- hl];exact h1) (by simpa using ew) ⟨rfl,fin⟩) hs
def QB(its:List Value)(n j:Nat)(u:Value):Obj.mapSeq (·.setIfInBounds j u) { cls:=.type "list",data:=.seq 109 n }={ cls:=.type "list",data:=.seq (its.set j u).toArray n }:=by
 simp[Obj.mapSeq]
theorem Inv.lst{pins:List 78}{σ:St}{H:Hp}{s:Shared}{p:Addr}{xs:List V}(I:Inv X pins σ H s)(h:H p=some (.lst xs)):
 ∃(its:List Value) (n:Nat),Vals xs its/\s.heap.get? p=some { cls:=.type "list",data:=.seq 109 n }/\96<=sizeLine:=by
 obtain⟨z,its,n,r,e⟩:=I.hok p _ h;exact⟨its,n,r,e,z⟩
def Inv.lstUpd{pins:List 78}{σ:St}{H:Hp}{s:Shared}{p:Addr}{xs ys:List V}{its its':List Value}{n n':Nat}{f:Obj->Obj}(I:Inv X pins σ H s)(h:H p=some (.lst xs))
 (ho:s.heap.get? p=some { cls:=.type "list",data:=.seq 109 n }) (hf:f { cls:=.type "list",data:=.seq 109 n }={ cls:=.type "list",data:=.seq its'.toArray n' }) (r:Vals ys its') (hz:ys.length<=sizeLine) (t:Nat):
 Inv X pins σ (upd H p (.lst ys)) { s with heap:=s.heap.update p f,toks:=t }:=by
 have e:(s.heap.update p f).get? p=some { cls:=.type "list",data:=.seq its'.toArray n' }:=by
  rw[Heap.get?_update_self f ho (by rw[hf]<;>rfl),hf]
 refine I.write (x:=p) (e:=p) (by rw[h];trivial) (.inl rfl) (λb u hb q=>(Heap.get?_update_other _ _ (Ne.symm hb)).trans q) ⟨_,e⟩ ?_;exact⟨hz,its',n',r,e⟩
def JZ:V->V->V->Hp->(Hp->Prop)->Prop:=λo i v H Q=>∃p xs k j,o=.ref p/\i=.int k/\H p=some (.lst xs)/\ixN 96 k=some j/\Q (upd H p (.lst (xs.set j v)))
def MZ:V7 X JZ:=by
 intro pins s σ H o i v ov iv u Q I ro ri rv h;obtain⟨p,xs,k,j,rfl,rfl,hp,hj,q⟩:=h;cases ro;obtain⟨t,rfl⟩:=ri;obtain⟨its,n,r,ho,hz⟩:=I.lst hp;obtain⟨h1,h2,h3,h4⟩:=KO hj;have hl:=r.length;have hn:=GD;have I':Inv X pins σ (upd H p (.lst (xs.set j v))) { s with heap:=s.heap.update p (Obj.mapSeq (·.setIfInBounds j u)) }:=
  I.lstUpd hp ho (QB its n j u) (r.set rv j) (by rw[List.length_set];exact hz) s.toks
 by_cases h0:0<=k
 .have hk:k.toNat=j:=by
   rw[seqIndex_of h0 h4]at h1;exact 114 h1
  exact PySem.W.ki_setAt ho h0 67 (by rw[gz,<- hl];exact h4) (by rw[hk];exact⟨_,I',q⟩)
 .have hk:(k+(its.toArray.size:Int)).toNat=j:=by
   rw[seqIndex_neg 67 h3]at h1;rw[gz,<- hl];exact 114 h1
  exact PySem.W.ki_setBack ho 67 (by rw[gz,<- hl];exact h3) 67 (by rw[hk];exact⟨_,I',q⟩)
def MW(lo hi:Option Int)(n:Nat):(sliceBounds lo hi none n).1=((HT.sIx n 0 lo:Nat):Int)/\(sliceBounds lo hi none n).2.1=((HT.sIx n n hi:Nat):Int)/\(sliceBounds lo hi none n).2.2=1:=by
 refine⟨?_,?_,rfl⟩
 .cases lo with
  |none=>simp[sliceBounds,HT.sIx]
  |some i=>
   simp only[sliceBounds,HT.sIx,Option.getD_none,show(1:Int)>0 by decide,i3];by_cases h:i<0
   .simp only[h,i3]<;>omega
   .simp only[h,ip]<;>omega
 .cases hi with
  |none=>simp[sliceBounds,HT.sIx]
  |some i=>
   simp only[sliceBounds,HT.sIx,Option.getD_none,show(1:Int)>0 by decide,i3];by_cases h:i<0
   .simp only[h,i3]<;>omega
   .simp only[h,ip]<;>omega
def LU(its:List Value)(lo hi:Option Int):slicePick 109 lo hi none=((its.drop (HT.sIx its.length 0 lo)).take (HT.sIx its.length its.length hi-HT.sIx its.length 0 lo)).toArray:=by
 obtain⟨h1,h2,h3⟩:=MW lo hi its.toArray.size;unfold slicePick;rw[h1,h2,h3];simp only[sliceRange_one,pick_run,gz]<;>rfl
def Pu(K:Frag):V->Option Int->Option Int->Hp->VK->Prop:=λx lo hi H Q=>∃a xs,x=.ref a/\SqL K H a xs/\∀p,H p=none->Q (.ref p) (upd H p (.lst (G0 xs lo hi)))
def Vy:SlR X (Pu X.K):=by
 intro pins s σ H x v vl vu lo hi sl Q I rx hs pl pu h;obtain⟨a,xs,rfl,hx,q⟩:=h;cases rx;obtain⟨its,r,ht,hz⟩:=I.list hx;have hlen:=r.length;refine⟨"list",_,slot_list_getitem.lookup,ht.isList.typeIs,?_⟩;refine wpAny_getItem_list_slice ht.isList hs pl pu .none 75 ?_ (by rw[gz]<;>omega);rw[LU,<- hlen];refine⟨.ref 66,_,I.laid (t':=s.toks) (o:=.lst (G0 xs lo hi)) (λb ob q=>74 _ q) (gm _) ?_,rfl,q _ (I.hok.fresh (gm _))⟩;exact⟨ia (Ig xs lo hi) hz,_,0,(r.drop (HT.sIx 96 0 lo)).take (HT.sIx 96 96 hi-HT.sIx 96 0 lo),87 _ rfl⟩
def EH:V->Bool
 |.non=>true
 |.bl _=>true
 |.int _=>true
 |.str _=>true
 |_=>false
def eqV:V->V->Bool
 |.non,.non=>true
 |.bl a,.bl b=>a==b
 |.bl a,.int b=>(if a then 1 else 0)==b
 |.int a,.bl b=>a==(if b then 1 else 0)
 |.int a,.int b=>a==b
 |.str a,.str b=>a==b
 |_,_=>false
def bI{A:Around}{s:Shared}{y x:V}{u v:Value}(ry:RelV y u)(rx:RelV x v)(fy:EH y=true)(fx:EH x=true):SeqAt.EqAt A s u v (eqV y x):=by
 cases y with
 |non=>
  cases ry;cases x with
  |non=>cases rx;exact SeqAt.EqAt.same _
  |bl b=>cases rx;exact SeqAt.EqAt.none_bool b
  |int b=>obtain⟨t,rfl⟩:=rx;exact SeqAt.EqAt.none_int b t
  |str b=>obtain⟨t,rfl⟩:=rx;exact SeqAt.EqAt.none_str b t
  |_=>exact absurd (show false=true from fx) Bool.false_ne_true
 |bl a=>
  cases ry;cases x with
  |non=>cases rx;exact SeqAt.EqAt.bool_none a
  |bl b=>cases rx;exact SeqAt.EqAt.bool_bool a b
  |int b=>obtain⟨t,rfl⟩:=rx;exact SeqAt.EqAt.bool_int a b t
  |str b=>obtain⟨t,rfl⟩:=rx;exact SeqAt.EqAt.bool_str a b t
  |_=>exact absurd (show false=true from fx) Bool.false_ne_true
 |int a=>
  obtain⟨t',rfl⟩:=ry;cases x with
  |non=>cases rx;exact SeqAt.EqAt.int_none a t'
  |bl b=>cases rx;exact SeqAt.EqAt.int_bool a t' b
  |int b=>obtain⟨t,rfl⟩:=rx;exact SeqAt.EqAt.int_int a t' b t
  |str b=>obtain⟨t,rfl⟩:=rx;exact SeqAt.EqAt.int_str a t' b t
  |_=>exact absurd (show false=true from fx) Bool.false_ne_true
 |str a=>
  obtain⟨t',rfl⟩:=ry;cases x with
  |non=>cases rx;exact SeqAt.EqAt.str_none a t'
  |bl b=>cases rx;exact SeqAt.EqAt.str_bool a t' b
  |int b=>obtain⟨t,rfl⟩:=rx;exact SeqAt.EqAt.str_int a t' b t
  |str b=>obtain⟨t,rfl⟩:=rx;exact SeqAt.EqAt.str_str a t' b t
  |_=>exact absurd (show false=true from fx) Bool.false_ne_true
 |_=>exact absurd (show false=true from fy) Bool.false_ne_true
def eqU(x:V)(u:Value):Bool:=match u with
 |.none=>eqV .non x
 |.bool b=>eqV (.bl b) x
 |.int i _=>eqV 106 x
 |.str z _=>eqV (.str z) x
 |_=>false
def SY{x y:V}{u:Value}(r:RelV y u)(f:EH y=true):eqU x u=eqV y x:=by
 cases y with
 |non=>cases r;rfl
 |bl b=>cases r;rfl
 |int i=>obtain⟨t,rfl⟩:=r;rfl
 |str z=>obtain⟨t,rfl⟩:=r;rfl
 |_=>exact absurd (show false=true from f) Bool.false_ne_true
theorem Ki{x:V}:∀{xs:List V} {us:List Value},Vals xs us->xs.all EH=true->us.any (eqU x)=xs.any λy=>eqV y x
 |_,_,.nil,_=>rfl
 |y::xs,u::us,.cons r t,f=>by
  rw[List.all_cons,Bool.and_eq_true]at f;rw[any_cons,any_cons,SY r f.1,Ki t f.2]
theorem Iv{A:Around}{s:Shared}{x:V}{v:Value}(rx:RelV x v)(fx:EH x=true):∀{xs:List V} {us:List Value},Vals xs us->xs.all EH=true->∀u∈us,SeqAt.EqAt A s u v (eqU x u)
 |_,_,.nil,_=>λu hu=>by cases hu
 |y::xs,u::us,.cons r t,f=>λu' hu=>by
  rw[List.all_cons,Bool.and_eq_true]at f;rcases mem_cons.mp hu with rfl|hu
  .rw[SY r f.1];exact bI r rx f.1 fx
  .exact Iv rx fx t f.2 u' hu
def inV(x:V)(xs:List V):Bool:=xs.any λy=>eqV y x
def rIn(K:Frag)(neg:Bool):R2:=λx y H Q=>∃p xs,y=.ref p/\(SqL K H p xs∨SqT K H p xs)/\EH x=true/\xs.all EH=true/\Q (.bl (if neg then !inV x xs else inV x xs)) H
def Mz:OpR X (compareOp .NotIn) (rIn X.K true):=by
 intro pins s σ H x y v u Q I rx ry h;obtain⟨p,xs,rfl,hq,fx,fs,q⟩:=h;cases ry;rcases hq with hq|hq
 .obtain⟨its,r,pl,hz⟩:=I.list hq;refine SeqAt.notIn_listAt (eqU x) pl.isList (λw hw=>Iv rx fx r fs w (by simpa using hw)) ⟨.bl _,H,I,rfl,?_⟩;rw[show its.toArray.any (eqU x)=its.any (eqU x) by simp,Ki r fs];exact q
 .obtain⟨its,r,pl,hz⟩:=I.tuple hq;refine SeqAt.notIn_tupleAt (eqU x) pl (λw hw=>Iv rx fx r fs w (by simpa using hw)) ⟨.bl _,H,I,rfl,?_⟩;rw[show its.toArray.any (eqU x)=its.any (eqU x) by simp,Ki r fs];exact q
def Nl:CallR X (.builtin "len") (λxs H Q=>∃p ys,xs=[.ref p]/\(SqL X.K H p ys∨SqT X.K H p ys)/\Q (.int ys.length) H):=by
 intro pins s σ H xs us Q I r h;obtain⟨p,ys,rfl,hq,q⟩:=h;obtain⟨u,rfl,rx⟩:=C4 r;cases rx;have hn:=GD;rcases hq with hq|hq
 .obtain⟨its,r',pl,hz⟩:=I.list hq;have hlen:=r'.length;exact Calls.call_len_list pl.isList (by simp only[gz]<;>omega) ⟨.int ys.length,H,I.tok _,⟨s.toks+1,by rw[gz,hlen]⟩,q⟩
 .obtain⟨its,r',pl,hz⟩:=I.tuple hq;have hlen:=r'.length;exact len_tuple pl (by simp only[gz]<;>omega) ⟨.int ys.length,H,I.tok _,⟨s.toks+1,by rw[gz,hlen]⟩,q⟩
def CallR.or{f:Value}{r r':List V->Hp->VK->Prop}(h:CallR X f r)(h':CallR X f r'):CallR X f (λxs H Q=>r xs H Q∨r' xs H Q):=by
 intro pins s σ H xs us Q I rs q;rcases q with q|q
 .exact h pins s σ H xs us Q I rs q
 .exact h' pins s σ H xs us Q I rs q
def Nk:CallR X (.type "list") (λxs H Q=>∃p ys,xs=[.ref p]/\(SqL X.K H p ys∨SqT X.K H p ys)/\∀l,H l=none->Q (.ref l) (upd H l (.lst ys))):=by
 intro pins s σ H xs us Q I r h;obtain⟨p,ys,rfl,hq,q⟩:=h;obtain⟨u,rfl,rx⟩:=C4 r;cases rx;have fin:∀(its:List Value),Vals ys its->ys.length<=sizeLine->∀(h':Heap) (c':Nat),(∀b o',s.heap.get? b=some o'->h'.get? b=some o') ->
  h'.get? 66=some { cls:=.type "list",dict:=none,data:=.seq 109 c',slots:=#[] }->EP X pins σ Q (.ref 66) { s with heap:=h' }:=λits r' hz h' c' kp e=>
  ⟨.ref 66,_,I.laid (t':=s.toks) kp (gm _) (show ObjOk X.prog X.w _ h' _ (.lst ys)from⟨hz,its,c',r',e⟩),rfl,q _ (I.hok.fresh (gm _))⟩
 rcases hq with hq|hq
 .obtain⟨its,r',pl,hz⟩:=I.list hq;have hlen:=r'.length;obtain⟨o,ho,hc,n,hd⟩:=pl.isList;exact call_list_seq p (.inl rfl) ho hc hd (λh' c' kp e=>fin its r' hz h' c' kp e) (by simp only[gz]<;>omega)
 .obtain⟨its,r',pl,hz⟩:=I.tuple hq;have hlen:=r'.length;obtain⟨o,ho,hc,n,hd⟩:=pl;exact call_list_seq p (.inr rfl) ho hc hd (λh' c' kp e=>fin its r' hz h' c' kp e) (by simp only[gz]<;>omega)
def Ln:CallR X (.type "tuple") (λxs H Q=>∃p ys,xs=[.ref p]/\((SqL X.K H p ys/\∀l,H l=none->Q (.ref l) (upd H l (.tup ys)))∨(SqT X.K H p ys/\Q (.ref p) H))):=by
 intro pins s σ H xs us Q I r h;obtain⟨p,ys,rfl,h⟩:=h;obtain⟨u,rfl,rx⟩:=C4 r;cases rx;rcases h with⟨hq,q⟩|⟨hq,q⟩
 .obtain⟨its,r',pl,hz⟩:=I.list hq;have hlen:=r'.length;refine call_tuple_list pl.isList (λh' kp=>?_) (by simp only[gz]<;>omega);have I1:Inv X pins σ H { s with heap:=h' }:=I.kept (t':=s.toks) kp;have I2:Inv X pins σ (upd H h'.objs.size (.tup ys)) { s with heap:=h'.push { cls:=.type "tuple",data:=.seq its.toArray } }:=
   I1.laid (t':=s.toks) (λb o e=>74 _ e) (gm _) (show ObjOk X.prog X.w _ _ _ (.tup ys)from⟨hz,its,r',IsTupD.new _ _⟩)
  exact⟨.ref h'.objs.size,_,I2,rfl,q _ (I1.hok.fresh (gm _))⟩
 .obtain⟨its,r',pl,hz⟩:=I.tuple hq;exact call_tuple_same pl ⟨.ref p,H,I,rfl,q⟩
def tyV(K:Frag)(T:String)(x:V)(H:Hp):Prop:=match x with
 |.str _=>T="str"
 |.int _=>T="int"
 |.ref p=>(T="list"/\∃xs,SqL K H p xs)∨(T="tuple"/\∃o,K.lookup p=some o/\o.cls=.type "tuple"/\o.dict=none) ∨
  (T="dict"/\((∃kvs,H p=some (.dK kvs))∨∃kvs,H p=some (.dT kvs)))∨(T="set"/\∃S n,H p=some (.set S n))
 |_=>False
def Yb{pins:List 78}{σ:St}{H:Hp}{s:Shared}{T:String}{x:V}{v:Value}(I:Inv X pins σ H s)(r:RelV x v)(ty:tyV X.K T x H):
 s.TypeIs v T/\∀a,v=.ref a->∃ob,s.heap.get? a=some ob/\ob.dict=none:=by
 cases x with
 |str z=>
  obtain⟨t,rfl⟩:=r;cases(show T="str" from ty);exact⟨typeIs_str s z t,λ_ e=>nomatch e⟩
 |int i=>
  obtain⟨t,rfl⟩:=r;cases(show T="int" from ty);exact⟨j7 s i t,λ_ e=>nomatch e⟩
 |ref p=>
  cases r;rcases ty with⟨rfl,xs,hq⟩|⟨rfl,o,hk,hc,hd⟩|⟨rfl,hk⟩|⟨rfl,S,n,hk⟩
  .obtain⟨its,_,pl,_⟩:=I.list hq;refine⟨pl.isList.typeIs,λa e=>?_⟩;cases e;obtain⟨o,n,e,c,hd,_⟩:=pl;exact⟨o,e,hd⟩
  .refine⟨⟨o,I.kIn p o hk,hc⟩,λa e=>?_⟩;cases e;exact⟨o,I.kIn _ o hk,hd⟩
  .have z:∃o,s.heap.get? p=some o/\o.ExactDict:=by
    rcases hk with⟨kvs,hk⟩|⟨kvs,hk⟩
    .obtain⟨_,_,_,_,o,_,_,e,ex,_⟩:=I.hok p _ hk;exact⟨o,e,ex⟩
    .obtain⟨_,_,_,_,o,_,_,e,ex,_⟩:=I.hok p _ hk;exact⟨o,e,ex⟩
   obtain⟨o,e,ex⟩:=z;refine⟨⟨o,e,ex.1⟩,λa e2=>?_⟩;cases e2;exact⟨o,e,ex.2.1⟩
  .obtain⟨o,_,_,_,e,ex,_⟩:=I.hok p _ hk;refine⟨⟨o,e,ex.1⟩,λa e2=>?_⟩;cases e2;exact⟨o,e,ex.2.1⟩
 |_=>exact False.elim ty
def tBM(K:Frag)(T:String)(r:V->List V->Hp->VK->Prop)(to:TE)(t:TA):TE:=λσ H Q=>to σ H λx H1=>tyV K T x H1/\t σ H1 λxs H2=>r x xs H2 Q
variable{o e:Expr}{es:List Expr}{to:TE}{t:TA}{name:Str}{apos cpos:Pos}{T id:String}{r:V->List V->Hp->VK->Prop}
def cJ(pa:PlainAttrs T)(slot:Slot T name id)(hty:typeOf (.builtin id)=pure (.type "method_descriptor"))(hm:MtR X id r)(ho:PE X o to)(ha:PA X (e::es) t)
 (hbase:attributeBase o name X.env (eval o X.env)=eval o X.env:=by rfl)
 (hfew:((backTo cpos (starEach (e::es) X.env)).all (λx=>!x.1)&&(backToKw cpos (keywordEach [] X.env)).all (λx=>x.1.isSome)
  && decide ((e::es).length+([]:List Keyword).length+(if([]:List Keyword).isEmpty then 0 else 1)<30))=true:=by rfl)
 (hline:(apos.endLine==cpos.line)=true:=by rfl) (hs:starEach (e::es) X.env=88::starEach es X.env:=by rfl) (hplain:(backTo cpos (starEach es X.env)).any (·.1)=false:=by rfl):
 PE X (.Call (.Attribute o name apos) (e::es) [] cpos) (tBM X.K T r to t):=by
 intro pins s σ H Q I h;refine wpAny_Call_method_late hbase hfew hline rfl (thn (ho pins s σ H _ I h) λv s1 ⟨x,H1,I1,r1,ty,q1⟩=>?_);obtain⟨h1,h2⟩:=Yb I1 r1 ty;refine⟨T,id,pa,slot,hty,h1,h2,?_⟩;have hA:=ha cpos pins s1 σ H1 _ I1 q1;rw[hs]at hA ⊢;refine Calls.callWith_builtin (by show(false||(backTo cpos (starEach es X.env)).any (·.1))=false;rw[hplain]<;>rfl) (Calls.evalArgs_plain ?_);exact thn hA λus s2 ⟨vs,H2,I2,r2,q2⟩=>hm pins s2 σ H2 x vs v us Q I2 r1 r2 q2
end
def MtM(X:Cx)(id:String)(r:V->List V->Hp->VK->Prop):Prop:=
 ∀(pins:List 78) (s:Shared) (σ:St) (H:Hp) (x:V) (xs:List V) (v:Value) (us:List Value) (Q:VK),Inv X pins σ H s->RelV x v->Vals xs us->r x xs H Q ->
   wpAny 69 X.A (call (.builtin id) (v::us)) (EP X pins σ Q) X.xe s
def Vals.one:∀{x:V} {us:List Value},Vals [x] us->∃u,us=[u]/\RelV x u
 |_,_,.cons r .nil=>⟨_,rfl,r⟩
theorem Vals.eraseIdx:∀{xs:List V} {us:List Value} (i:Nat),Vals xs us->Vals (xs.eraseIdx i) (us.eraseIdx i)
 |_,_,_,.nil=>.nil
 |_,_,0,.cons _ t=>t
 |_,_,i+1,.cons r t=>.cons r (Vals.eraseIdx i t)
theorem Vals.rep{xs:List V}{us:List Value}(h:Vals xs us):∀k:Nat,Vals (102 k xs).flatten (102 k us).flatten
 |0=>.nil
 |k+1=>by
  rw[iQ,iQ,jf,jf];exact Vals.append h (Vals.rep h k)
theorem Kx{α:Type}:∀(l:List α) (i:Nat),(l.eraseIdx i).length<=l.length
 |[],_=>gm _
 |_::_,0=>iV _
 |_::r,i+1=>Nat.succ_le_succ (Kx r i)
theorem L9(its:List Value):∀(k:Nat) (acc:List Value),
 List.foldl (λx1 x2=>x1++x2) acc.toArray (102 k 109)=(acc++(102 k its).flatten).toArray
 |0,acc=>by simp
 |k+1,acc=>by
  have e:acc.toArray++109=(acc++its).toArray:=by simp
  have e2:(acc++its)++(102 k its).flatten=acc++(102 (k+1) its).flatten:=by
   rw[iQ,jf,j9]
  rw[<- e2,<- L9 its k (acc++its),<- e,iQ,List.foldl_cons]
section
variable{X:Cx}{pins:List 78}{σ:St}{H:Hp}{s:Shared}{l b:Addr}{xs ys zs:List V}
def Inv.lset{its its':List Value}{n:Nat}{f:Array Value->Array Value}{t':Nat}(I:Inv X pins σ H s)(hH:H l=some (.lst xs))
 (e:s.heap.get? l=some { cls:=.type "list",data:=.seq 109 n }) (hf:f 109=its'.toArray) (hv:Vals ys its') (hz:ys.length<=sizeLine):
 Inv X pins σ (upd H l (.lst ys)) { s with heap:=s.heap.update l (Obj.mapSeq f),toks:=t' }:=by
 have q:=PySem.IsL.update e f;rw[hf]at q;refine I.write (x:=l) (e:=l) (by rw[hH];exact trivial) (.inl rfl) (λb' u hb hu=>(Heap.get?_update_other s.heap (Obj.mapSeq f) (Ne.symm hb)).trans hu) ⟨_,q⟩ ?_;exact⟨hz,its',_,hv,q⟩
def Inv.lnew{its:List Value}{t':Nat}(I:Inv X pins σ H s)(hv:Vals ys its)(hz:ys.length<=sizeLine):
 Inv X pins σ (upd H 66 (.lst ys)) { s with heap:=s.heap.push { cls:=.type "list",data:=.seq its.toArray },toks:=t' }:=
 I.laid (λ_ _ q=>74 _ q) (gm _) ⟨hz,its,0,hv,87 _ rfl⟩
theorem Inv.fresh(I:Inv X pins σ H s):H 66=none:=I.hok.fresh (gm _)
def Inv.lstM(I:Inv X pins σ H s)(hH:H l=some (.lst xs)):96<=sizeLine/\∃(its:List Value) (n:Nat),Vals xs its/\96=its.length/\s.heap.get? l=some { cls:=.type "list",data:=.seq 109 n }:=by
 obtain⟨z,its,n,r,e⟩:=I.hok l _ hH;exact⟨z,its,n,r,r.length,e⟩
def UZ{n:Nat}(h:n<=sizeLine):Builtin.List.listTooLong n=false:=by
 unfold Builtin.List.listTooLong;exact i6 67
end
section
variable{X:Cx}
def Oc:V->List V->Hp->VK->Prop:=λx vs H Q=>∃l xs y,x=.ref l/\vs=[y]/\H l=some (.lst xs)/\96<sizeLine/\Q .non (upd H l (.lst (xs++[y])))
def Kw:MtM X "list.append" Oc:=by
 intro pins s σ H x vs v us Q I rx rv h;obtain⟨l,xs,y,rfl,rfl,hH,hz,q⟩:=h;cases rx;obtain⟨u,rfl,ru⟩:=rv.one;obtain⟨z,its,n,r,hl,e⟩:=I.lstM hH;refine call_meets F.slot_list_append ⟨_,e,rfl⟩ F.entry_list_append (F.args_list_append_2 _ _) (PySem.list_append l 109 n u (by rw[gz];omega)) ⟨e,?_⟩;refine⟨.non,_,I.lset (its':=its++[u]) hH e 75 (r.append (.cons ru .nil)) ?_,rfl,q⟩;rw[iM,List.length_singleton];omega
def Wd:V->List V->Hp->VK->Prop:=λx vs H Q=>∃l b xs zs,x=.ref l/\vs=[.ref b]/\H l=some (.lst xs)/\H b=some (.lst zs)/\96+zs.length<=sizeLine/\Q .non (upd H l (.lst (xs++zs)))
def dD:MtM X "list.extend" Wd:=by
 intro pins s σ H x vs v us Q I rx rv h;obtain⟨l,b,xs,zs,rfl,rfl,hH,hB,hz,q⟩:=h;cases rx;obtain⟨u,rfl,ru⟩:=rv.one;cases ru;obtain⟨z,its,n,r,hl,e⟩:=I.lstM hH;obtain⟨z2,its2,n2,r2,hl2,e2⟩:=I.lstM hB;have hsz:its.toArray.size+its2.toArray.size<=sizeLine:=by rw[gz,gz];omega
 have hlong:¬ (!its.toArray.isEmpty&&Builtin.List.listTooLong (its.toArray.size+its2.toArray.size))=true:=by
  rw[UZ hsz,Bool.and_false];exact Bool.false_ne_true
 refine call_meets F.slot_list_extend ⟨_,e,rfl⟩ F.entry_list_extend (F.args_list_extend_2 _ _)
  (AutoSeq1.list_extend_list_list_0 l 109 n b its2.toArray n2 hlong (by rw[gz];omega) 67) ⟨e,e2,?_⟩
 refine⟨.non,_,I.lset (its':=its++its2) hH e 75 (r.append r2) ?_,rfl,q⟩;rw[iM];omega
def Rg:V->List V->Hp->VK->Prop:=λx vs H Q=>∃l xs i k y,x=.ref l/\vs=[.int i]/\H l=some (.lst xs)/\-(2^63)<=i/\i<2^63/\seqIndex? i 96=some k/\xs[k]?=some y/\Q y (upd H l (.lst (xs.eraseIdx k)))
def Ub:MtM X "list.pop" Rg:=by
 intro pins s σ H x vs v us Q I rx rv h;obtain⟨l,xs,i,k,y,rfl,rfl,hH,h1,h2,hk,hy,q⟩:=h;cases rx;obtain⟨u,rfl,ru⟩:=rv.one;obtain⟨t,rfl⟩:=ru;obtain⟨z,its,n,r,hl,e⟩:=I.lstM hH;obtain⟨w,hw,rw'⟩:=r.get hy;refine call_meets F.slot_list_pop ⟨_,e,rfl⟩ F.entry_list_pop (F.args_list_pop_2 _ _)
  (MeetsSeq.list_pop_at l 109 n i t k w (fitsIndex_both h1 h2) (by rw[gz,<- hl];exact hk) (by rw[<- Array.getElem?_toList];exact hw) (by rw[gz];omega)) ⟨e,?_⟩
 refine⟨y,_,I.lset (its':=its.eraseIdx k) hH e ?_ (r.eraseIdx k) ?_,rw',q⟩
 .show its.toArray.eraseIdxIfInBounds k=(its.eraseIdx k).toArray;rw[List.eraseIdxIfInBounds_toArray]
 .have:=Kx xs k;omega
def U0:R2:=λx y H Q=>∃l b xs zs,x=.ref l/\y=.ref b/\H l=some (.lst xs)/\H b=some (.lst zs)/\96+zs.length<=sizeLine/\∀p,H p=none->Q (.ref p) (upd H p (.lst (xs++zs)))
def aU:OpR X (binaryOp .Add) U0:=by
 intro pins s σ H x y v u Q I rx ry h;obtain⟨l,b,xs,zs,rfl,rfl,hH,hB,hz,q⟩:=h;cases rx;cases ry;obtain⟨z,its,n,r,hl,e⟩:=I.lstM hH;obtain⟨z2,its2,n2,r2,hl2,e2⟩:=I.lstM hB;refine PySem.P.add_list e e2 ?_ (by rw[gz,gz];omega);have ea:109++its2.toArray=(its++its2).toArray:=by simp
 rw[ea];exact⟨.ref _,_,I.lnew (t':=s.toks) (r.append r2) (by rw[iM];omega),rfl,q _ I.fresh⟩
def Xy{α:Type}(xs:List α)(k:Nat):(102 k xs).flatten.length=k*xs.length:=by
 induction k with
 |zero=>simp
 |succ k ih=>rw[iQ,jf,iM,ih,Nat.succ_mul,Nat.add_comm]
end
end L2
namespace Att
open PySem PySem.W PySem.Calls PyProof.Rows
def Jp{P:Params}{h:Heap}:∀(ns:List Int) (vs:List Value),WellAll P h vs (ns.map WData.int)->IntsAre vs ns:=by
 intro ns
 induction ns with
 |nil=>
  intro vs w;rw[map_nil]at w;cases w;exact .nil
 |cons n ns ih=>
  intro vs w;rw[gq]at w;cases w with
  |cons a b=>
   cases a;exact .cons _ _ (ih _ b)
def Qy{l:OpenLaw}{n:Nat}(hn:l.most=some n){P:Params}{h:Heap}{args:List WData}{vals:List Value}
 (hpre:l.row.toRowW.claim.pre args=true) (hwl:WellAll P h vals args):
 ∃a vs ns,vals=[Value.ref a]/\args=[WData.list (ns.map WData.int)]/\h.get? a=some { cls:=.type "list",data:=.seq 118 }/\IntsAre vs ns/\ns.length<=n:=by
 have hsh:WShape.hasAll [] args [.list .int]=true:=(pre_splitW hpre).1;have hc:l.pre.holds [] { args:=args }=true:=(pre_splitW hpre).2;obtain⟨d,r,rfl,h1,h2⟩:=hasAllW_cons hsh;obtain rfl:=hasAllW_nil h2;obtain⟨xs,rfl,h3⟩:=hasW_list h1;obtain⟨ns,rfl⟩:=items_int h3;have hlen:ns.length<=n:=by
  unfold OpenLaw.pre at hc;have h4:(WTm.not (.lt (.lit (.int (n:Int))) (.len (.arg 0)))).holds [] { args:=[.list (ns.map .int)] }=true:=by
   have h4:=(holds_andW hc).1;rw[hn]at h4;exact h4
  have h5:=condW_of h4 (w_not (w_lt w_lit (w_len_list (w_arg rfl))));rw[hX]at h5;refine Nat.le_of_not_lt λq=>?_;have q':(n:Int)<((ns.length:Nat):Int):=by omega
  first
   |(rw[i9 q']at h5;exact absurd h5 77)
   |(simp at h5;omega)
 cases hwl with
 |cons w1 w2=>
  cases w2;cases w1 with
  |list ho hall=>exact⟨_,_,ns,rfl,rfl,ho,Jp ns _ hall,hlen⟩
def Rj(l:OpenLaw)(args:List WData):l.row.toRowW.claim.post args (.bool true) args=true:=
 postW_of (r:=l.row.toRowW) (X:=(true==true))
  (show WShape.has [] (.bool true) .bool=true by first|rfl|decide|simp[WShape.has,WShape.arms,WShape.armsAll])
  (show(WTm.eq .res (.lit (.bool true))).value [] { args:=args,res:=some (.bool true),after:=args }=some (.bool (true==true))from w_eq_bool (w_res rfl) w_lit) rfl
def attach_call{l:OpenLaw}{n:Nat}{q:Program}{loose:List Str}{XP:(Str->Option Value)->Heap->Prop}{YP:World->Heap->Prop}{d:DefRec}
 (hn:l.most=some n) (hdf:d.params.defaults=[])
 (call:∀(w:World) (s₀ s₁:Shared) (mg mb:Str->Option Value) (fa:Addr) (o:Obj) (pm cd doc:Value) (a:Addr) (vs:List Value) (ns:List Int),
  Ground q loose [] XP w s₀ mg mb s₁.heap->YP w s₁.heap ->
  s₁.heap.get? fa=some o->o.data=.func (docDef d.name d.params d.body d.scope pm cd doc)->s₁.heap.CodeRec cd d.name->mg d.name=some (.ref fa) ->
  s₁.heap.get? a=some { cls:=.type "list",data:=.seq 118 }->IntsAre vs ns->ns.length<=n->s₁.gens=#[] ->
  codeAny (model l.prog w) callerA (.call (.ref fa) ⟨[.ref a],[]⟩) (λr s'=>r=.ok (.ret (.bool true))/\OldK s₁.heap s'.heap/\s'.os=s₁.os/\AllBare s'.gens) s₁):
 WalkO q loose XP YP l.row.toRowW d [] (λf vs=>PySem.call f vs):=by
 intro w s₀ s₁ mg mb G Y fa o pm cd doc dV kV ho hd hcd hD hmg hg args vals as hpre hlay hrd hwl hlo;obtain rfl:dV=.none:=Dflts.none hD hdf;obtain rfl:kV=.none:=Dflts.noKw hD;obtain⟨a,vs,ns,rfl,rfl,hobj,hints,hlen⟩:=Qy hn hpre hwl;refine enter_call (jb (call w s₀ s₁ mg mb fa o pm cd doc a vs ns G Y ho (fd_plain hd) hcd hmg hobj hints hlen hg) λr s' hq=>?_);obtain⟨rfl,h2,h3,h4⟩:=hq;exact⟨.inl ⟨.bool true,.bool true,[],rfl,λ_=>rfl,.bool true,Rj l _,λ_=>⟨List.Pairwise.nil,λ_ hm=>(nomatch hm)⟩⟩,h2,h3,h4⟩
end Att
namespace L2
open PySem PySem.Spec PyProof.Rows
theorem Kk:∀{vs:List Value} {ns:List Int},IntsAre vs ns->Vals (ns.map V.int) vs
 |_,_,.nil=>.nil
 |_,_,.cons n t h=>.cons ⟨t,rfl⟩ (Kk h)
def Cd(s:Stmt):Arguments:=match s with
 |.FunctionDef _ a _ _ _ _ _ _ _ _=>a
 |_=>{ posonlyargs:=[],args:=[],vararg:=none,kwonlyargs:=[],kw_defaults:=[],kwarg:=none,defaults:=[] }
def BQ(s:Stmt):List Stmt:=match s with
 |.FunctionDef _ _ b _ _ _ _ _ _ _=>b
 |_=>[]
def AC(s:Stmt):Scope:=match s with
 |.FunctionDef _ _ _ _ _ _ sc _ _ _=>sc
 |_=>{ kind:=.function,names:=[],isGenerator:=false,isCoroutine:=false }
abbrev CX0:CXT:=λ_ _ _ _ _ _=>False
abbrev E0:XK:=λ_ _ _=>False
def cL{X:Cx}:Nu CX0 X E0:=λ_ _ _ _ _ _ _ h=>h.elim
structure Fun(K:Frag)(x qual:Str)(st:Stmt)(f:Addr)(fd:FuncData):Prop where
 ex:∃(oc:Value) (od:Option Addr) (kV doc pm:Value) (an:Option Addr) (cdv ct:Value) (osl:Array (Option Value)),
  fd=fnOf x qual (Cd st) (BQ st) (AC st) .none kV doc pm an cdv ct/\K.lookup f=some ⟨oc,od,.func fd,osl⟩/\codeIn K cdv qual=true
 kp:keepIn K (.ref f)=true
section
variable{P:Program}{w:World}{K:Frag}{mg:Str->Option Value}{base:Heap}
def Fun.ok{x qual:Str}{st:Stmt}{f:Addr}{fd:FuncData}{N ps:List Str}{k:Nat}{sp:Sp}(F:Fun K x qual st f fd)(S:FnScope N ps (AC st))(len:∀vs H Q E,sp vs H Q E->vs.length=ps.length)
 (hbody:∀(cdv:Value) (A:Around) (outer:List Env) (s:Shared) (H:Hp) (vs:List V) (Q:VK) (E:XK),Room k (A.deeper (envOfC qual (AC st) 66 f cdv))->sp vs H Q E ->
  ∃t,PSs (Fz CX0 P w K mg base N qual (AC st) f cdv A outer s H E).nox (BQ st) t/\t { nx:=λ_ H'=>Q .non H',rt:=Q } (start N vs) H):FnOk P w K mg base CX0 (k+1) f fd ps sp:=by
 obtain⟨oc,od,kV,doc,pm,an,cdv,ct,osl,rfl,lk,hcd⟩:=F.ex;refine Vc lk hcd S len λA outer s H vs Q E hr hsp=>?_;obtain⟨t,h,q⟩:=hbody cdv A outer s H vs Q E hr hsp;exact⟨t,h.nox,q⟩
def Fun.binds{x qual:Str}{st:Stmt}{f:Addr}{fd:FuncData}{ps:List Str}(F:Fun K x qual st f fd)
 (h:∀(kV doc pm:Value) (an:Option Addr) (cdv ct:Value) (us:List Value),us.length=ps.length->bindArgs (fnOf x qual (Cd st) (BQ st) (AC st) .none kV doc pm an cdv ct) ⟨us,[]⟩=pure (ps.zip us)):Binds K fd ps []:=by
 obtain⟨oc,od,kV,doc,pm,an,cdv,ct,osl,rfl,lk,hcd⟩:=F.ex;exact .all (h kV doc pm an cdv ct)
def aw{x qual:Str}{st:Stmt}{f:Addr}{oc:Value}{od an:Option Addr}{osl:Array (Option Value)}{kV doc pm cdv ct:Value}(l:K.lookup f=some ⟨oc,od,.func (fnOf x qual (Cd st) (BQ st) (AC st) .none kV doc pm an cdv ct),osl⟩)
 (c:codeIn K cdv qual=true) (k:keepIn K (.ref f)=true):Fun K x qual st f (fnOf x qual (Cd st) (BQ st) (AC st) .none kV doc pm an cdv ct):=⟨⟨oc,od,kV,doc,pm,an,cdv,ct,osl,rfl,l,c⟩,k⟩
end
def Vb{A:Around}{k:Nat}(hr:Room k A):A.units+1<cLine:=Nat.lt_of_le_of_lt (Nat.add_le_add_left (by decide:1<=64) _) hr.units
def Km{n:Nat}(h:n<=1000):n<sizeLine:=Nat.lt_of_le_of_lt h 77
section
variable{κ:Type}[DecidableEq κ]
def E2(kvs:List (κ×V))(k:κ):Option V:=(kvs.find? λkv=>decide (kv.1=k)).map (·.2)
def CP(kvs:List (κ×V))(k:κ)(v:V):List (κ×V):=
 if(kvs.any λkv=>decide (kv.1=k))=true then kvs.map (λkv=>if kv.1=k then(kv.1,v)else kv)else kvs++[(k,v)]
def F7{p:κ×V}{r:List (κ×V)}{k:κ}(e:p.1=k):E2 (p::r) k=some p.2:=by simp[E2,iR,e]
def F8{p:κ×V}{r:List (κ×V)}{k:κ}(e:¬ p.1=k):E2 (p::r) k=E2 r k:=by simp[E2,iR,e]
theorem MH(k:κ):∀kvs:List (κ×V),(kvs.any λkv=>decide (kv.1=k))=(E2 kvs k).isSome
 |[]=>rfl
 |p::r=>by
  rw[any_cons];by_cases e:p.1=k
  .simp only[F7 e,i9 e,Bool.true_or,Option.isSome_some]
  .rw[F8 e,i6 e,Bool.false_or];exact MH k r
def Fr(kvs:List (κ×V))(k:κ)(v:V):(CP kvs k v).length<=kvs.length+1:=by
 unfold CP;split
 .rw[hX];omega
 .rw[iM,iH,length_nil];omega
def RelO.isSome_eq{o:Option V}{u:Option Value}(r:RelO o u):o.isSome=u.isSome:=by
 cases o with
 |none=>cases u with
  |none=>rfl
  |some _=>exact(show False from r).elim
 |some _=>cases u with
  |none=>exact(show False from r).elim
  |some _=>rfl
def KV.val{kvs:List (κ×V)}{vs:List (κ×Value)}(r:KV kvs vs)(k:κ):RelO (E2 kvs k) (valueAt vs k):=by
 unfold KV at r
 induction r with
 |nil=>exact True.intro
 |@cons p q ps qs h t ih=>
  obtain⟨h1,h2⟩:=h;by_cases e:p.1=k
  .have e':q.1=k:=h1.symm.trans e;have b:valueAt (q::qs) k=some q.2:=by simp[valueAt,iR,e']
   rw[F7 e,b];exact h2
  .have e':¬ q.1=k:=λz=>e (h1.trans z);have b:valueAt (q::qs) k=valueAt qs k:=by simp[valueAt,iR,e']
   rw[F8 e,b];exact ih
theorem KV.any{kvs:List (κ×V)}{vs:List (κ×Value)}(r:KV kvs vs)(k:κ):(kvs.any λkv=>decide (kv.1=k))=vs.any λkv=>decide (kv.1=k):=by
 unfold KV at r
 induction r with
 |nil=>rfl
 |cons h t ih=>rw[any_cons,any_cons,ih,h.1]
def KV.repl{kvs:List (κ×V)}{vs:List (κ×Value)}(r:KV kvs vs)(k:κ){y:V}{u:Value}(ry:RelV y u):
 KV (kvs.map λkv=>if kv.1=k then(kv.1,y)else kv) (vs.map λkv=>if kv.1=k then(kv.1,u)else kv):=by
 unfold KV at r ⊢
 induction r with
 |nil=>exact .nil
 |@cons p q ps qs h t ih=>
  rw[gq,gq];refine .cons ?_ ih;obtain⟨h1,h2⟩:=h;by_cases e:p.1=k
  .rw[gi e,gi (h1.symm.trans e)];exact⟨h1,ry⟩
  .rw[gj e,gj (λz=>e (h1.trans z))];exact⟨h1,h2⟩
def KV.put{kvs:List (κ×V)}{vs:List (κ×Value)}(r:KV kvs vs)(k:κ){y:V}{u:Value}(ry:RelV y u):KV (CP kvs k y) (stored vs k u):=by
 unfold CP stored;rw[r.any k];by_cases e:(vs.any λkv=>decide (kv.1=k))=true
 .rw[gi e,gi e];exact r.repl k ry
 .rw[gj e,gj e];exact Paired.snoc r ⟨rfl,ry⟩
theorem KV.length{kvs:List (κ×V)}{vs:List (κ×Value)}(r:KV kvs vs):kvs.length=vs.length:=Paired.length r
end
def M8{P:Program}{w:World}{k:Key}{u:Value}(r:RelV (kV k) u):(BF P w).is k u=true:=by
 cases k with
 |inl i=>obtain⟨t,e⟩:=(show ∃t,u=Value.int i t from r);subst e;exact Nz P w i t
 |inr x=>obtain⟨t,e⟩:=(show ∃t,u=Value.str x t from r);subst e;exact Ny P w x t
theorem L7{P:Program}{w:World}:∀{ks:List Key} {us:List Value},Vals (ks.map kV) us->ItemsAre (BF P w) ks us
 |[],_,r=>by rw[map_nil]at r;cases r;exact .nil
 |k::ks,_,r=>by
  rw[gq]at r;cases r with
  |cons h t=>exact .cons (M8 h) (L7 t)
abbrev KT(H:Hp):List (List Key×V)->List (List Key×Addr×Value)->Prop:=Paired λp q=>p.1=q.1/\H q.2.1=some (.tup (p.1.map kV))/\RelV p.2 q.2.2
def KT.val{H:Hp}{kvs:List (List Key×V)}{xs:List (List Key×Addr×Value)}(r:KT H kvs xs)(k:List Key):RelO (E2 kvs k) ((atKey xs k).map (·.2)):=by
 induction r with
 |nil=>exact True.intro
 |@cons p q ps qs h t ih=>
  obtain⟨h1,_,h2⟩:=h;by_cases e:p.1=k
  .have e':q.1=k:=h1.symm.trans e;have b:atKey (q::qs) k=some q.2:=by simp[atKey,iR,e']
   rw[F7 e,b];exact h2
  .have e':¬ q.1=k:=λz=>e (h1.trans z);have b:atKey (q::qs) k=atKey qs k:=by simp[atKey,iR,e']
   rw[F8 e,b];exact ih
def KT.repl{H:Hp}{kvs:List (List Key×V)}{xs:List (List Key×Addr×Value)}(r:KT H kvs xs)(k:List Key){y:V}{u:Value}(ry:RelV y u):
 KT H (kvs.map λkv=>if kv.1=k then(kv.1,y)else kv) (xs.map (putAt k u)):=by
 induction r with
 |nil=>exact .nil
 |@cons p q ps qs h t ih=>
  rw[gq,gq];refine .cons ?_ ih;obtain⟨h1,h2,h3⟩:=h;unfold putAt;by_cases e:p.1=k
  .rw[gi e,gi (h1.symm.trans e)];exact⟨h1,h2,ry⟩
  .rw[gj e,gj (λz=>e (h1.trans z))];exact⟨h1,h2,h3⟩
def KT.put{H:Hp}{kvs:List (List Key×V)}{xs:List (List Key×Addr×Value)}(r:KT H kvs xs)(k:List Key){b:Addr}{y:V}{u:Value}(hb:H b=some (.tup (k.map kV)))(ry:RelV y u):
 KT H (CP kvs k y) (storedH xs k b u):=by
 have e:(kvs.any λkv=>decide (kv.1=k))=(atKey xs k).isSome:=by
  rw[MH,(r.val k).isSome_eq,Option.isSome_map]
 unfold CP storedH;rw[e];by_cases q:(atKey xs k).isSome=true
 .rw[gi q,gi q];exact r.repl k ry
 .rw[gj q,gj q];exact Paired.snoc r ⟨rfl,hb,ry⟩
def KT.keeps{H H':Hp}{kvs:List (List Key×V)}{xs:List (List Key×Addr×Value)}(r:KT H kvs xs)(ht:∀b ys,H b=some (.tup ys)->H' b=some (.tup ys)):KT H' kvs xs:=
 Paired.mapP r λ_ _ z=>⟨z.1,ht _ _ z.2.1,z.2.2⟩
section
variable{P:Program}{w:World}{H:Hp}{h:Heap}{a:Addr}
def VH{u:HO}(ok:HOk P w H h)(e:Rd H a u):ObjOk P w H h a u:=e.ok ok
def Qf{kvs:List (Key×V)}(ok:HOk P w H h)(e:Rd H a (.dK kvs)):kvs.length<=sizeLine/\(a==sysModules)=false/\∃vs,KV kvs vs/\h.DictOf (BF P w) a vs:=
 show ObjOk P w H h a (.dK kvs)from VH ok e
def Ve{kvs:List (Key×V)}(ok:HOk P w H h)(e:H a=some (.dK kvs)):kvs.length<=sizeLine/\(a==sysModules)=false/\∃vs,KV kvs vs/\h.DictOf (BF P w) a vs:=Qf ok (.inl e)
def NN{ks:List Key}(ok:HOk P w H h)(e:H a=some (.tup (ks.map kV))):(tupleKind (BF P w)).is h ks a:=by
 obtain⟨_,its,r,o,h1,h2,⟨n,h3⟩,_⟩:=(show ObjOk P w H h a (.tup (ks.map kV))from ok a _ e)
 exact⟨o,109,n,h1,h2,h3,by simpa using L7 r⟩
def Qe{kvs:List (List Key×V)}(ok:HOk P w H h)(e:Rd H a (.dT kvs)):kvs.length<=sizeLine/\(a==sysModules)=false /\
 ∃xs,KT H kvs xs/\h.DictOfH (tupleKind (BF P w)) a xs:=by
 obtain⟨z,y,xs,r,o,es,ep,h1,h2,h3,h4,h5⟩:=(show ObjOk P w H h a (.dT kvs)from VH ok e)
 refine⟨z,y,xs,r,o,es,ep,h1,h2,h3,h4,λx hx=>?_,h5⟩;have all:∀{l:List (List Key×V)} {m:List (List Key×Addr×Value)},KT H l m->∀x∈m,(tupleKind (BF P w)).is h x.1 x.2.1:=by
  intro l m q
  induction q with
  |nil=>intro x hx;exact nomatch hx
  |@cons p q ps qs hq t ih=>
   intro x hx;rcases mem_cons.mp hx with e|hx
   .subst e;exact NN ok (by rw[<- hq.1];exact hq.2.1)
   .exact ih x hx
 exact all r x hx
def cx{kvs:List (List Key×V)}(ok:HOk P w H h)(e:H a=some (.dT kvs)):kvs.length<=sizeLine/\(a==sysModules)=false /\
 ∃xs,KT H kvs xs/\h.DictOfH (tupleKind (BF P w)) a xs:=Qe ok (.inl e)
end
def DGet(H:Hp)(a:Addr)(y:V)(r:Option V):Prop:=
 (∃kvs k,Rd H a (.dK kvs)/\y=kV k/\r=E2 kvs k)∨∃kvs k b,Rd H a (.dT kvs)/\y=.ref b/\H b=some (.tup (k.map kV))/\r=E2 kvs k
def DPut(H:Hp)(a:Addr)(y v:V)(H':Hp):Prop:=
 (∃kvs k,H a=some (.dK kvs)/\y=kV k/\kvs.length<sizeLine/\H'=upd H a (.dK (CP kvs k v))) ∨
 ∃kvs k b,H a=some (.dT kvs)/\y=.ref b/\H b=some (.tup (k.map kV))/\kvs.length<sizeLine/\H'=upd H a (.dT (CP kvs k v))
theorem DGet.k{H:Hp}{a:Addr}{kvs:List (Key×V)}{k:Key}(e:H a=some (.dK kvs)):DGet H a (kV k) (E2 kvs k):=.inl ⟨kvs,k,.inl e,rfl,rfl⟩
theorem DPut.k{H:Hp}{a:Addr}{kvs:List (Key×V)}{k:Key}{v:V}(e:H a=some (.dK kvs))(hl:kvs.length<sizeLine):DPut H a (kV k) v (upd H a (.dK (CP kvs k v))):=.inl ⟨kvs,k,e,rfl,hl,rfl⟩
section
variable{X:Cx}{pins:List 78}{σ:St}{H:Hp}{s:Shared}{a:Addr}{y v:V}{u r:Value}{o:Option V}{A:Around}{E:Value->Shared->Prop}
def Inv.big(I:Inv X pins σ H s):sysModules<s.heap.objs.size:=by
 have h:mainGlobals<s.heap.objs.size:=(I.mod.glob.keeps I.bk).lt;exact lt_trans 77 h
def Si{Q:Value->Shared->Prop}(hu:A.units+1<cLine)(I:Inv X pins σ H s)(g:DGet H a y (some v))(ry:RelV y u)(h:∀w' s',Inv X pins σ H s'->RelV v w'->Q w' s'):
 wpAny 69 A (getItem (.ref a) u) Q E s:=by
 rcases g with⟨kvs,k,e,ey,l⟩|⟨kvs,k,b,e,ey,eb,l⟩
 .subst ey;obtain⟨z,hd,vs,rel,dd⟩:=Qf I.hok e;obtain⟨w',hw,rw'⟩:=RelO.some_of (v:=v) (o:=valueAt vs k) (by rw[l];exact rel.val k);exact wpAny_getItem_of (M8 ry) dd.mapOf hw (h w' _ (I.tok _) rw')
 .subst ey;cases(show u=Value.ref b from ry);obtain⟨z,hd,xs,rel,dd⟩:=Qe I.hok e;obtain⟨w',hw,rw'⟩:=RelO.some_of (v:=v) (o:=(atKey xs k).map (·.2)) (by rw[l];exact rel.val k);obtain⟨p,hp,hp2⟩:=c7 hw;refine wpAny_getItem_heap (tupleKind_room_in1 hu) (NN I.hok eb) dd hp ?_;rw[hp2];exact h w' _ (I.tok _) rw'
def Kd{h':Heap}{t':Nat}{ob:HO}(I:Inv X pins σ H s)(mu:Mut (H a))(hs:Heap.SameBut a s.heap h')(he:∃q,h'.get? a=some q)(new:ObjOk X.prog X.w (upd H a ob) h' a ob):
 Inv X pins σ (upd H a ob) { s with heap:=h',toks:=t' }:=
 I.write (x:=a) (e:=a) mu (.inl rfl) (λb q hb z=>(hs.2 b hb).trans z) he new
def Sf{P:Program}{w:World}{H':Hp}{h':Heap}{kvs:List (Key×V)}{vs:List (Key×Value)}(z:kvs.length<=sizeLine)(hd:(a==sysModules)=false)(rel:KV kvs vs)(dd:h'.DictOf (BF P w) a vs):
 ObjOk P w H' h' a (.dK kvs):=⟨z,hd,vs,rel,dd⟩
def Sh{H':Hp}{Q:Unit->Shared->Prop}(hu:A.units+1<cLine)(I:Inv X pins σ H s)(g:DPut H a y v H')(ry:RelV y u)(rv:RelV v r)(h:∀s',Inv X pins σ H' s'->Q () s'):
 wpAny 69 A (setItem (.ref a) u r) Q E s:=by
 rcases g with⟨kvs,k,e,ey,l,eH⟩|⟨kvs,k,b,e,ey,eb,l,eH⟩
 .subst ey eH;obtain⟨z,hd,vs,rel,dd⟩:=Ve I.hok e;have hz:vs.length<=sizeLine:=by rw[<- rel.length];exact z
  have hl:(CP kvs k v).length<=sizeLine:=by have:=Fr kvs k v;omega
  refine wpAny_setItem_pairs (hsz:=hz) (M8 ry) dd λh' dd' hs=>h _ ?_;have he:∃q,h'.get? a=some q:=let ⟨q,_,_,hq,_⟩:=dd';⟨q,hq⟩
  exact Kd I (by rw[e];exact True.intro) hs he (Sf hl hd (rel.put k rv) dd')
 .subst ey eH;cases(show u=Value.ref b from ry);obtain⟨z,hd,xs,rel,dd⟩:=cx I.hok e;have hz:96<=sizeLine:=by rw[<- Paired.length rel];exact z
  have hl:(CP kvs k v).length<=sizeLine:=by have:=Fr kvs k v;omega
  refine wpAny_setItem_heap (hsz:=hz) (tupleKind_room_in1 hu) (NN I.hok eb) dd λh' dd' hs=>h _ ?_;obtain⟨q,es,ep,hq,h2,h3,h4,_,h5⟩:=dd';refine Kd I (by rw[e];exact True.intro) hs ⟨q,hq⟩ ⟨hl,hd,_,(rel.put k eb rv).keeps λc ys ec=>?_,q,es,ep,hq,h2,h3,h4,h5⟩;rw[AD (cR ec e (λz=>nomatch z))];exact ec
end
def V8(i:Expr):Prop:=∀ov iv,subscripted i false ov iv=operate [ov,iv] (getItem ov iv)
def Vu{prog:Program}{w:World}{A:Around}{E:Value->Shared->Prop}{s:Shared}{env:Env}{value slice:Expr}{pos:Pos}{T id:String}{Q:Value->Shared->Prop}
 (hl:typeLookup (.type T) "__getitem__"=pure (some (.builtin id))) (hs:V8 slice)
 (h:wpAny 92 A (eval value env) (λo s₁=>wpAny 92 A (eval slice env) (λi s₂=>s₂.TypeIs o T/\wpAny 92 A (getItem o i) Q E s₂) E s₁) E s):
 wpAny 92 A (eval (.Subscript value slice pos) env) Q E s:=by
 refine Subscript_ (hZ h (λo s₁ h₁=>hZ h₁ (λi s₂ h₂=>?_) λ_ _ x=>x) λ_ _ x=>x);obtain⟨hT,h₂⟩:=h₂;unfold subscriptTail;refine gh ?_;rw[getitemInPython_of_ne hT.not_modules];refine gh (wpAny_specialOf hT hl ?_);have fin:wpAny 92 A (subscripted slice false o i) (λr s₃=>wpAny 92 A (letTemporaryGo value o r >>= λ_=>pure r) Q E s₃) E s₂:=by
  rw[hs o i];exact wpAny_operating (hZ h₂ (λr s₃ h₃=>gh (wpAny_letTemporaryGo (gn h₃))) λ_ _ x=>x)
 first
  |exact gn (gh fin)
  |exact gh (gn (gh fin))
  |exact gh fin
def OC{X:Cx}{pins:List 78}{σ:St}{H:Hp}{s:Shared}{a:Addr}{y:V}{o:Option V}(I:Inv X pins σ H s)(g:DGet H a y o):s.TypeIs (.ref a) "dict":=by
 rcases g with⟨kvs,k,e,_,_⟩|⟨kvs,k,b,e,_,_,_⟩
 .obtain⟨_,_,vs,_,dd⟩:=Qf I.hok e;exact dd.typeIs
 .obtain⟨_,_,xs,_,dd⟩:=Qe I.hok e;exact dd.typeIs
def Pa(td ty:TE):TE:=λσ H Q=>td σ H λx H1=>ty σ H1 λy H2=>∃a v,x=.ref a/\DGet H2 a y (some v)/\Q v H2
def Pn(td ty tv:TE):TS:=λD σ H=>tv σ H λv H1=>td σ H1 λx H2=>ty σ H2 λy H3=>∃a H4,x=.ref a/\DPut H3 a y v H4/\D.nx σ H4
section
variable{X:Cx}{o i e value:Expr}{pos pos' tpos:Pos}{td ty tv:TE}
def Xa(hu:X.A.units+1<cLine)(ho:PE X o td)(hi:PE X i ty)(hs:V8 i):PE X (.Subscript o i pos) (Pa td ty):=by
 intro pins s σ H Q I h;refine Vu PySem.F.slot_dict_getitem.lookup hs (thn (ho pins s σ H _ I h) λu s1 ⟨x,H1,I1,rx,q1⟩=>thn (hi pins s1 σ H1 _ I1 q1) λiv s2 ⟨y,H2,I2,ry,a,v,ex,g,q2⟩=>?_);subst ex;obtain rfl:u=Value.ref a:=rx;exact⟨OC I2 g,Si hu I2 g ry λw' s3 I3 rw'=>⟨v,H2,I3,rw',q2⟩⟩
def XG(hu:X.A.units+1<cLine)(ho:PE X o td)(hi:PE X i ty)(hv:PE X value tv)(hs:swapsWith value (some (.Subscript o i pos')) pos.line X.env=pure false):
 PS X (.Assign [.Subscript o i pos'] value pos) (Pn td ty tv):=by
 intro pins s σ H D I h;refine wpAny_Assign_Subscript (thn (hv pins s σ H _ I h) λr s1 ⟨v,H1,I1,rv,q1⟩=>thn (ho pins s1 σ H1 _ I1 q1) λu s2 ⟨x,H2,I2,rx,q2⟩=>thn (hi pins s2 σ H2 _ I2 q2) λiv s3 ⟨y,H3,I3,ry,a,H4,ex,g,q3⟩=>?_) hs;subst ex;obtain rfl:u=Value.ref a:=rx;exact Sh hu I3 g ry rv λs4 I4=>⟨σ,H4,I4,q3⟩
end
def Ux{P:Program}{w:World}{H:Hp}(h:Heap)(hb:sysModules<h.objs.size):ObjOk P w H (h.push { cls:=.type "dict",data:=.dict #[] }) h.objs.size (.dK []):=
 ⟨iB _,beq_eq_false_iff_ne.mpr (Ne.symm (gV hb)),[],.nil,Heap.DictOf.new h⟩
def HQ:List (TE×TE)->St->Hp->(List (V×V)->Hp->Prop)->Prop
 |[],_,H,Q=>Q [] H
 |(tk,tv)::r,σ,H,Q=>tk σ H λx H1=>tv σ H1 λy H2=>HQ r σ H2 λps H3=>Q ((x,y)::ps) H3
abbrev VV:List (V×V)->List (Value×Value)->Prop:=Paired λp q=>RelV p.1 q.1/\RelV p.2 q.2
def PPs(X:Cx)(pos:Pos)(keys:List (Option Expr))(values:List Expr)(trs:List (TE×TE)):Prop:=
 ∀(pins:List 78) (s:Shared) (σ:St) (H:Hp) (Q:List (V×V)->Hp->Prop),Inv X pins σ H s->HQ trs σ H Q ->
   wpAny 69 X.A (evalPairs (pairTrees keys values X.env pos)) (λvs s'=>∃ps H',Inv X pins σ H' s'/\VV ps vs/\Q ps H') X.xe s
def XI{X:Cx}{pos:Pos}:PPs X pos [] [] []:=λpins s σ H Q I h=>pairTrees_nil_walk ⟨[],H,I,.nil,h⟩
def UO{X:Cx}{pos:Pos}{k v:Expr}{ks:List (Option Expr)}{vs:List Expr}{tk tv:TE}{trs:List (TE×TE)}(hk:PE X k tk)(hv:PE X v tv)(hr:PPs X pos ks vs trs):
 PPs X pos (some k::ks) (v::vs) ((tk,tv)::trs):=λpins s σ H Q I h=>
 pairTrees_cons_walk (thn (hk pins s σ H _ I h) λu s1 ⟨x,H1,I1,rx,q1⟩=>thn (hv pins s1 σ H1 _ I1 q1) λw2 s2 ⟨y,H2,I2,ry,q2⟩=>
  thn (hr pins s2 σ H2 _ I2 q2) λws s3 ⟨ps,H3,I3,rel,q3⟩=>⟨(x,y)::ps,H3,I3,.cons ⟨rx,ry⟩ rel,q3⟩)
def EX(kvs more:List (Key×V)):List (Key×V):=more.foldl (λacc kv=>CP acc kv.1 kv.2) kvs
def KV.merge:∀{more:List (Key×V)} {rs:List (Key×Value)} {kvs:List (Key×V)} {vs:List (Key×Value)},KV more rs->KV kvs vs->KV (EX kvs more) (merged vs rs):=by
 intro more rs kvs vs r;unfold KV at r
 induction r generalizing kvs vs with
 |nil=>intro q;exact q
 |@cons p q ps qs h t ih=>
  intro r0;have e:KV (CP kvs p.1 p.2) (stored vs q.1 q.2):=by
   have:=r0.put p.1 h.2;rw[<- h.1];exact this
  exact ih e
theorem HI:∀(more kvs:List (Key×V)),(EX kvs more).length<=kvs.length+more.length
 |[],kvs=>by show kvs.length<=kvs.length+0;omega
 |p::r,kvs=>by
  have h1:=HI r (CP kvs p.1 p.2);have h2:=Fr kvs p.1 p.2;show(EX (CP kvs p.1 p.2) r).length<=_;rw[iH];omega
theorem Jv{P:Program}{w:World}:∀{kvs:List (Key×V)} {ws:List (Value×Value)},VV (kvs.map λkv=>(kV kv.1,kv.2)) ws->∃rs,Carries (BF P w) ws rs/\KV kvs rs
 |[],_,r=>by rw[map_nil]at r;cases r;exact⟨[],True.intro,.nil⟩
 |p::kvs,_,r=>by
  rw[gq]at r;cases r with
  |@cons a b as bs h t=>
   obtain⟨rs,c,q⟩:=Jv (P:=P) (w:=w) t;obtain⟨b1,b2⟩:=b;exact⟨(p.1,b2)::rs,⟨M8 h.1,rfl,c⟩,.cons ⟨rfl,h.2⟩ q⟩
def PZ(trs:List (TE×TE)):TE:=λσ H Q=>∀p,H p=none->HQ trs σ (upd H p (.dK [])) λps H2=>H2 p=some (.dK [])/\∃kvs:List (Key×V),ps=kvs.map (λkv=>(kV kv.1,kv.2))/\kvs.length<=15/\Q (.ref p) (upd H2 p (.dK (EX [] kvs)))
def XZ{X:Cx}{pos:Pos}{keys:List (Option Expr)}{values:List Expr}{trs:List (TE×TE)}(h:PPs X pos keys values trs)(hall:keys.all (·.isSome)=true)(hl:keys.length=values.length)(h0:keys≠[])
 (h15:keys.length<=15):PE X (.Dict keys values pos) (PZ trs):=by
 intro pins s σ H Q I q;have hn:=I.hok.fresh (gm 66);have I1:=I.laid (a:=66) (o:=.dK []) (h':=s.heap.push { cls:=.type "dict",data:=.dict #[] }) (t':=s.toks) (λ_ _ q=>74 _ q) (gm _) (Ux s.heap I.big);refine wpAny_Dict_walk (knd:=BF X.prog X.w) hall hl h0 h15 (thn (h pins _ σ _ _ I1 (q _ hn)) λws s2 ⟨ps,H2,I2,rel,e,kvs,ep,lk,q2⟩=>?_);subst ep;obtain⟨rs,c,rk⟩:=Jv (P:=X.prog) (w:=X.w) rel;obtain⟨z,hd,vs0,r0,dd⟩:=Ve I2.hok e;cases r0;refine⟨rs,c,dd,λh' dd' hs=>⟨.ref 66,_,?_,rfl,q2⟩⟩;have hz:(EX [] kvs).length<=sizeLine:=by
  have h1:=HI kvs [];rw[length_nil]at h1;rw[iA];omega
 have he:∃q,h'.get? 66=some q:=let ⟨q,_,_,hq,_⟩:=dd';⟨q,hq⟩
 exact Kd I2 (by rw[e];exact True.intro) hs he (Sf hz hd (rk.merge .nil) dd')
def AV(cells:List (Str×Addr)):List (Str×NameKind)->List (Str×Addr)->List (Str×Addr)
 |[],acc=>acc
 |(n,k)::r,acc=>if k==.free then AV cells r ((n,(cells.lookup n).getD 0)::acc)else AV cells r acc
theorem GH{env:Env}(f:Str×NameKind->List (Str×Addr)->Sem (ForInStep (List (Str×Addr))))
 (hf:∀name kind cs,f (name,kind) cs=if(kind==NameKind.free)=true then(do let a <- cellOf env name;pure (ForInStep.yield ((name,a)::cs)))else pure (ForInStep.yield cs)):
 ∀(names:List (Str×NameKind)) (acc:List (Str×Addr)),(∀y∈names,y.2=.free->∃c,env.cells.lookup y.1=some c)->forIn names acc f=pure (AV env.cells names acc)
 |[],acc,_=>rfl
 |(n,k)::r,acc,hy=>by
   rw[List.forIn_cons,hf];have ih:=λa=>GH f hf r a λz hz=>hy z (gp _ hz);by_cases hk:(k==NameKind.free)=true
   .obtain⟨c,hc⟩:=hy (n,k) gy (by simpa using hk);have hc:env.cells.lookup n=some c:=hc;have e1:cellOf env n=pure c:=by unfold cellOf;rw[hc]
    rw[gi hk,e1];show forIn r ((n,c)::acc) f=_;have e2:AV env.cells ((n,k)::r) acc=AV env.cells r ((n,c)::acc):=by
     rw[AV,gi hk,hc];rfl
    rw[ih,e2]
   .rw[gj hk];show forIn r acc f=_;have e2:AV env.cells ((n,k)::r) acc=AV env.cells r acc:=by
     rw[AV,gj hk]
    rw[ih,e2]
def Em{scope:Scope}{env:Env}(h:∀y∈scope.names,y.2=.free->∃c,env.cells.lookup y.1=some c):closureFor scope env=pure (AV env.cells scope.names []):=by
 unfold closureFor;dsimp only;rw[GH _ (λname kind cs=>rfl) scope.names [] h];rfl
theorem Dv{cells:List (Str×Addr)}:∀{names:List (Str×NameKind)} {acc:List (Str×Addr)},(∀y∈names,y.2=.free->∃c,cells.lookup y.1=some c)->(∀x c,acc.lookup x=some c->cells.lookup x=some c) ->
 ∀x c,(AV cells names acc).lookup x=some c->cells.lookup x=some c
 |[],_,_,ha,x,c,e=>ha x c e
 |(n,k)::r,acc,hy,ha,x,c,e=>by
   unfold AV at e;have hr:∀y∈r,y.2=.free->∃c,cells.lookup y.1=some c:=λz hz=>hy z (gp _ hz);by_cases hk:(k==NameKind.free)=true
   .rw[gi hk]at e;refine Dv hr (λz d q=>?_) x c e;obtain⟨c0,hc0⟩:=hy (n,k) gy (by simpa using hk);have hc0:cells.lookup n=some c0:=hc0;rw[i7]at q;by_cases hz:(z==n)=true
    .rw[hz,hc0]at q;have:z=n:=by simpa using hz
     subst this;simpa [hc0]using q
    .have hz':(z==n)=false:=by simpa using hz
     rw[hz']at q;exact ha z d q
   .rw[gj hk]at e;exact Dv hr ha x c e
theorem D2{cells:List (Str×Addr)}:∀{names:List (Str×NameKind)} {acc:List (Str×Addr)} {x:Str},((acc.lookup x).isSome=true∨(x,NameKind.free)∈names)->((AV cells names acc).lookup x).isSome=true
 |[],_,_,h=>h.elim id λz=>by cases z
 |(n,k)::r,acc,x,h=>by
   unfold AV;by_cases hk:(k==NameKind.free)=true
   .rw[gi hk];refine D2 ?_;by_cases hx:(x==n)=true
    .exact .inl (by rw[i7,hx];rfl)
    .have hx':(x==n)=false:=by simpa using hx
     rcases h with h|h
     .exact .inl (by rw[i7,hx'];exact h)
     .rcases mem_cons.mp h with h|h
      .cases h;simp at hx
      .exact .inr h
   .rw[gj hk];refine D2 ?_;rcases h with h|h
    .exact .inl h
    .rcases mem_cons.mp h with h|h
     .cases h;simp at hk
     .exact .inr h
def Ce:Nat->List (Str×NameKind)->List (Str×Addr)
 |_,[]=>[]
 |n,(x,k)::r=>if k==.cell then Ce (n+1) r++[(x,n)]else Ce n r
theorem C8:∀(names:List (Str×NameKind)) (n:Nat) (acc:List (Str×Addr)),cellsFrom n names acc=Ce n names++acc
 |[],_,_=>rfl
 |(x,k)::r,n,acc=>by
   unfold cellsFrom Ce;by_cases hk:(k==NameKind.cell)=true
   .rw[gi hk,gi hk,C8 r (n+1),j9];rfl
   .rw[gj hk,gj hk,C8 r n]
theorem Ir:∀(names:List (Str×NameKind)) (n:Nat) (x:Str) (c:Addr),(Ce n names).lookup x=some c->(x,NameKind.cell)∈names
 |[],_,_,_,e=>by cases e
 |(y,k)::r,n,x,c,e=>by
   unfold Ce at e;by_cases hk:(k==NameKind.cell)=true
   .rw[gi hk]at e;have hk':k=.cell:=by simpa using hk
    rw[j3]at e;cases q:(Ce (n+1) r).lookup x with
    |some d=>exact gp _ (Ir r _ x d q)
    |none=>
     rw[q]at e;simp only[none_or,i7]at e;by_cases hx:(x==y)=true
     .have:x=y:=by simpa using hx
      subst this;subst hk';exact gy
     .have hx':(x==y)=false:=by simpa using hx
      rw[hx']at e;cases e
   .rw[gj hk]at e;exact gp _ (Ir r n x c e)
theorem Iu:∀(names:List (Str×NameKind)) (n:Nat) (x:Str),(x,NameKind.cell)∈names->∃c,(Ce n names).lookup x=some c
 |[],_,_,h=>by cases h
 |(y,k)::r,n,x,h=>by
   unfold Ce;by_cases hk:(k==NameKind.cell)=true
   .rw[gi hk,j3];rcases mem_cons.mp h with h|h
    .obtain⟨rfl,rfl⟩:=Prod.mk.inj h;cases q:(Ce (n+1) r).lookup x with
     |some d=>exact⟨d,rfl⟩
     |none=>exact⟨n,by simp[i7]⟩
    .obtain⟨c,hc⟩:=Iu r (n+1) x h;exact⟨c,by rw[hc];rfl⟩
   .rw[gj hk];rcases mem_cons.mp h with h|h
    .cases h;simp at hk
    .exact Iu r n x h
def V3(scope:Scope)(C:Addr)(env:Env):Env:=
 { scope:=relabel scope env,locals:=C,globals:=env.globals,cells:=cellsFrom (C+1) scope.names (AV env.cells scope.names []),qual:=env.qual,func:=none,code:=env.code,frame:=env.frame,builtins:=env.builtins }
def Oj{M:Model}{A:Around}{E:Value->Shared->Prop}{s:Shared}{scope:Scope}{cl:List (Str×Addr)}{env:Env}{Q:Env->Shared->Prop}
 (hQ:∀h',(∀b o,s.heap.get? b=some o->h'.get? b=some o)->h'.Ns 66 (λ_=>none)->(∀x c,(Ce (66+1) scope.names).lookup x=some c->h'.IsCell c none/\66<c) ->
  ((Ce (66+1) scope.names).Pairwise λx y=>x.2≠y.2) ->
  Q { scope:=scope,locals:=66,globals:=env.globals,cells:=cellsFrom (66+1) scope.names cl,qual:=env.qual,func:=none,code:=env.code,frame:=env.frame,builtins:=env.builtins } { s with heap:=h' }):
 wpAny M A (newFunctionEnv scope env.globals cl [] env.qual none .none (some env)) Q E s:=by
 simp only[newFunctionEnv,Option.isSome_some,i3];refine gh (wpAny_alloc ?_);refine gh (wpAny_layCells _ (λname kind cells=>by cases hkc:kind==NameKind.cell<;>simp[hkc]) _ _ _ _ ?_);have ok:=cellsFrom_ok scope.names (s.heap.push { cls:=.type "dict",data:=.dict #[] }) (66+1) [] ⟨λ_ _ hm=>(nomatch hm),List.Pairwise.nil⟩ (by rw[Heap.size_push];exact gm _);rw[Heap.size_push,C8,iF]at ok;rw[show({ s with heap:=s.heap.push { cls:=.type "dict",data:=.dict #[] } }:Shared).heap.objs.size=66+1 from Heap.size_push ..];refine gh (gn (gn ?_));exact hQ _ (λb o e=>pushCells_keeps _ _ b o (74 _ e)) ((Heap.Ns.new s.heap (.type "dict")).keeps (pushCells_keeps _ _)) (λx c hc=>⟨(ok.empty x c (mem_of_lookup hc)).1,(ok.empty x c (mem_of_lookup hc)).2⟩) ok.apart
theorem Kv:∀{names:List (Str×NameKind)} {x:Str} {k k':NameKind},(names.map (·.1)).Nodup->(x,k)∈names->(x,k')∈names->k=k'
 |[],_,_,_,_,h,_=>by cases h
 |(y,q)::r,x,k,k',nd,h,h'=>by
   have nd:(y::r.map (·.1)).Nodup:=nd;obtain⟨n1,n2⟩:=nodup_cons.mp nd;have out:∀{z:NameKind},(y,z)∈r->False:=λm=>n1 (mem_map.mpr ⟨_,m,rfl⟩);rcases mem_cons.mp h with e|e<;>rcases mem_cons.mp h' with e'|e'
   .cases e;cases e';rfl
   .cases e;exact(out e').elim
   .cases e';exact(out e).elim
   .exact Kv n2 e e'
theorem HH{env:Env}{x:Str}:∀{names:List (Str×NameKind)},names.lookup x=some .free ->
 (names.map λ(n,k)=>if 80 then(n,NameKind.cell)else(n,k)).lookup x=some .cell ∨
 (names.map λ(n,k)=>if 80 then(n,NameKind.cell)else(n,k)).lookup x=some .free
 |[],h=>by simp at h
 |(n,k)::r,h=>by
   have ih:=@HH env x r;show List.lookup x ((if 80=true then(n,NameKind.cell)else(n,k))::_)=_∨List.lookup x ((if 80=true then(n,NameKind.cell)else(n,k))::_)=_;cases hx:x==n with
   |true=>
    simp only[i7,hx]at h;cases h;by_cases hc:(NameKind.free==NameKind.free&&env.scope.kind==.function&&env.kindOf n==some .cell)=true
    .rw[gi hc];exact .inl (by simp only[i7,hx])
    .rw[gj hc];exact .inr (by simp only[i7,hx])
   |false=>
    simp only[i7,hx]at h;by_cases hc:80=true
    .rw[gi hc];simp only[i7,hx];exact ih h
    .rw[gj hc];simp only[i7,hx];exact ih h
theorem Hk{env:Env}{x:Str}:∀{names:List (Str×NameKind)},
 ((names.map λ(n,k)=>if 80 then(n,NameKind.cell)else(n,k)).lookup x=some .cell ∨
 (names.map λ(n,k)=>if 80 then(n,NameKind.cell)else(n,k)).lookup x=some .free) ->
 names.lookup x=some .cell∨names.lookup x=some .free
 |[],h=>by simp at h
 |(n,k)::r,h=>by
   have ih:=@Hk env x r;have h:List.lookup x ((if 80=true then(n,NameKind.cell)else(n,k))::_)=_∨List.lookup x ((if 80=true then(n,NameKind.cell)else(n,k))::_)=_:=h;cases hx:x==n with
   |true=>
    by_cases hc:80=true
    .have hk:k=.free:=by
      have:=(Bool.and_eq_true _ _ ▸ (Bool.and_eq_true _ _ ▸ hc).1:(k==NameKind.free)=true/\_).1;simpa using this
     exact .inr (by simp only[i7,hx,hk])
    .rw[gj hc]at h;simp only[i7,hx]at h ⊢;exact h
   |false=>
    simp only[i7,hx];refine ih ?_;by_cases hc:80=true
    .rw[gi hc]at h;simp only[i7,hx]at h;exact h
    .rw[gj hc]at h;simp only[i7,hx]at h;exact h
def cCx(X:Cx)(N':List Str)(scope:Scope)(s:Shared)(H:Hp)(ex:List Addr):Cx:=
 { X with N:=N',s₀:=s,H₀:=H,env:=V3 scope s.heap.objs.size X.env,outer:=X.stack,ex:=ex,fn:=λx=>decide ((x,NameKind.cell)∈scope.names),pn:=[],xe:=λ_ _=>False }
structure CSc(X:Cx)(scope:Scope)(fr:List Str)(ix:List Nat):Prop where
 kind:scope.kind=.function
 nd:(scope.names.map (·.1)).Nodup
 free:(scope.names.all λy=>y.2 != .free||X.env.kindOf y.1==some .cell||X.env.kindOf y.1==some .free)=true
 frs:(fr.all λx=>scope.names.lookup x==some .free)=true
 ixs:fr.map some=ix.map λi=>X.N[i]?
 loc:(scope.names.all λy=>y.2 != .local||scope.names.lookup y.1==some .local)=true
def Hy(n:Nat)(ix:List Nat)(σ:St):St:=102 n none++ix.map λi=>(σ[i]?).join
section
variable{X:Cx}{scope:Scope}{fr loc:List Str}{ix:List Nat}{pins:List 78}{σ:St}{H:Hp}{s:Shared}
def CSc.outer(S:CSc X scope fr ix){y:Str×NameKind}(hy:y∈scope.names)(e:y.2=.free):X.env.kindOf y.1=some .cell∨X.env.kindOf y.1=some .free:=by
 have h:=all_eq_true.mp S.free y hy;rw[e]at h;simpa using h
def CSc.clos(S:CSc X scope fr ix)(ok:X.Ok):∀y∈scope.names,y.2=.free->∃c,X.env.cells.lookup y.1=some c:=λy hy e=>ok.has y.1 (S.outer hy e)
def DE(S:CSc X scope fr ix)(ok:X.Ok){n:Nat}{x:Str}{c:Addr}(e:(cellsFrom n scope.names 86).lookup x=some c):
 (Ce n scope.names).lookup x=some c∨X.env.cells.lookup x=some c:=by
 rw[C8,j3]at e;cases q:(Ce n scope.names).lookup x with
 |some d=>rw[q]at e;exact .inl e
 |none=>
  rw[q]at e;exact .inr (Dv (S.clos ok) (λ_ _ z=>by simp at z) x c e)
def NQ(S:CSc X scope fr ix)(I:Inv X pins σ H s){ex:List Addr}(hex:∀b∈ex,FpOk X pins H b){h':Heap}(hk:∀b o,s.heap.get? b=some o->h'.get? b=some o)(hn:h'.Ns 66 λ_=>none)
 (ho:∀x c,(Ce (66+1) scope.names).lookup x=some c->h'.IsCell c none/\66<c) (ha:(Ce (66+1) scope.names).Pairwise λx y=>x.2≠y.2) (hlt:∀b∈ex,b<66):
 Inv 97 [] (Hy loc.length ix σ) H { s with heap:=h' }:=by
 have old:∀x c,X.env.cells.lookup x=some c->c<s.heap.objs.size:=λx c e=>let ⟨v,z⟩:=I.cell x c e;z.lt
 have lenix:fr.length=ix.length:=by simpa using iw List.length S.ixs
 refine⟨⟨I.ok.mod,?_,I.ok.glob,I.ok.blt,gm _,?_,?_,?_,I.ok.hd,I.ok.frames,.inl rfl,?_,I.bs,ia I.ok.bsz I.sz,?_,?_,I.stack,I.stkFree⟩,rfl,I.bare,Un.kept hk,⟨_,hn,?_⟩,?_,I.hok.fresh (gm _),?_,?_,I.hok.kept hk,?_⟩
 .exact S.kind
 .intro x y c e1 e2;rcases DE S I.ok e1 with a|a<;>rcases DE S I.ok e2 with b|b
  .exact name_of_addr ha (PySem.mem_of_lookup a) (PySem.mem_of_lookup b)
  .exact absurd (lt_trans (ho x c a).2 (old y c b)) (iJ _)
  .exact absurd (lt_trans (ho y c b).2 (old x c a)) (iJ _)
  .exact I.ok.inj x y c a b
 .intro x hx;rcases Hk hx with e|e
  .exact isSome_iff_exists.mp (PySem.W.cellsFrom_some _ _ _ (.inl e))
  .exact isSome_iff_exists.mp (PySem.W.cellsFrom_some _ _ _ (.inr (D2 (.inr (PySem.mem_of_lookup e)))))
 .intro x c hf e;have hf:(x,NameKind.cell)∈scope.names:=iY hf;obtain⟨d,hd⟩:=Iu scope.names (66+1) x hf;have e':(cellsFrom (66+1) scope.names 86).lookup x=some c:=e;rw[C8,j3,hd]at e';cases e';exact iS (ho x _ hd).2
 .intro b hb;refine⟨gV (hlt b hb),λx c e z=>?_⟩;rcases DE S I.ok e with a|a
  .exact absurd (lt_trans (ho x c a).2 (by rw[z];exact hlt b hb)) (iJ _)
  .exact(hex b hb).2.2.2.2.1 x c a z
 .intro b o e hb;rcases(hex b hb).2.2.2.1 with z|z
  .exact I.ok.noex b o e z
  .exact absurd (ie (90 (I.ok.bs b o e).1) z) (iJ _)
 .intro b hb hf;rcases mem_cons.mp (I.stkSub b hf)with z|z
  .exact(hex b hb).2.1 z
  .exact(hex b hb).2.2.1 z
 .intro i x v e1 e2 e3;have e1:(loc++fr)[i]?=some x:=e1;unfold Hy at e2;by_cases hi:i<loc.length
  .rw[List.getElem?_append_left (by simpa using hi),List.getElem?_replicate]at e2;split at e2<;>cases e2
  .have hi':loc.length<=i:=Nat.not_lt.mp hi;rw[List.getElem?_append_right (by simpa using hi')]at e2;rw[List.getElem?_append_right hi']at e1;rw[List.length_replicate,List.getElem?_map]at e2;generalize hj:i-loc.length=j at e1 e2;have e4:(fr.map some)[j]?=some (some x):=by rw[List.getElem?_map,e1];rfl
   rw[S.ixs,List.getElem?_map]at e4;cases q:ix[j]? with
   |none=>rw[q]at e2;cases e2
   |some k=>
    rw[q]at e2 e4;have e2:(σ[k]?).join=some v:=114 e2;have e4:X.N[k]?=some x:=114 e4;have e5:σ[k]?=some (some v):=by
     cases w:σ[k]? with
     |none=>rw[w]at e2;cases e2
     |some z=>rw[w]at e2;simpa using e2
    have hfx:=all_eq_true.mp S.frs x (ig e1);have hfx:scope.names.lookup x=some .free:=by simpa using hfx
    have hmem:=PySem.mem_of_lookup hfx;have hout:=S.outer hmem rfl;obtain⟨m,hm,hl⟩:=I.loc;obtain⟨u,r,l⟩:=hl k x v e4 e5 (.inr hout);refine⟨u,r,.inr ⟨HH hfx,?_⟩⟩;rcases l with⟨kk,_⟩|⟨kk,c,ec,z⟩
    .rcases hout with w|w
     .rw[kk]at w;cases w
     .rw[kk]at w;cases w
    .have own0:(Ce (66+1) scope.names).lookup x=none:=by
      cases w:(Ce (66+1) scope.names).lookup x with
      |none=>rfl
      |some d=>exact absurd (Kv S.nd (Ir _ _ _ _ w) hmem) 77
     have hc:(86).lookup x=some c:=by
      obtain⟨d,hd⟩:=isSome_iff_exists.mp (D2 (cells:=X.env.cells) (acc:=[]) (.inr hmem));have:=Dv (S.clos I.ok) (λ_ _ z=>by simp at z) x d hd;rw[ec]at this;cases this;exact hd
     refine⟨c,?_,z.keeps hk⟩;show(cellsFrom (66+1) scope.names 86).lookup x=some c;rw[C8,j3,own0,hc];rfl
 .intro x c e;rcases DE S I.ok e with a|a
  .exact⟨_,(ho x c a).1⟩
  .obtain⟨v,z⟩:=I.cell x c a;exact⟨v,z.keeps hk⟩
 .intro x c e;rcases DE S I.ok e with a|a
  .exact I.hok.fresh (iS (ho x c a).2)
  .exact I.freeC x c a
 .intro p hp;cases hp
 .unfold Hy;show _=(loc++fr).length;simp[lenix]
end
section
variable{prog:Program}{w:World}{A:Around}{R:Result->Shared->Prop}{s:Shared}
def Hx{elt target iter:Expr}{ifs:List Expr}{scope:Scope}{pos:Pos}{it acc:Value}{env:Env}(I:Nat->Shared->Prop)
 (turn:∀n s,I n s->wpAny 92 A (pyNext it) (λr s₁=>match r with
  |none=>R (.ok .next) s₁
  | some v=>wpAny 92 A (letOwnedTupleGo target it v) (λ_ s₁=>wpAny 92 A (assign target env v) (λ_ s₂=>
   wpAny 92 A (forIn ifs true λc r=>if r=true then do let ok <- isTrue c env (eval c env);pure (ForInStep.yield ok)else pure (ForInStep.yield r)) (λok s₃=>
    if ok=true then wpAny 92 A (eval elt env) (λx s₄=>
     wpAny 92 A (call (.builtin "list.append") [acc,x]) (λ_ s₅=>∃m,m<n/\I m s₅) (λ_ _=>False) s₄) (λ_ _=>False) s₃
    else ∃m,m<n/\I m s₃) (λ_ _=>False) s₂) (λ_ _=>False) s₁) (λ_ _=>False) s₁) (λ_ _=>False) s)
 (n:Nat) (h:I n s):
 codeAny 92 A (.compLoop (.ListComp elt [⟨target,iter,ifs,0⟩] scope pos) 0 it acc env) R s:=by
 refine codeAny_loop rfl I (λn s hI=>?_) n h;show wpAny _ A ((compTurn (.ListComp elt [⟨target,iter,ifs,0⟩] scope pos) 0 it acc env).onRaise (λx=>do noteFrame x env;theTreesLotGoes x)) _ _ s;refine wpAny_noted ?_;rw[compTurn_list];refine gh (j5 (gh (hZ (turn n s hI) (λr s₁ h₁=>?_) λ_ _ h'=>h'.elim)));cases r with
 |none=>exact gn h₁
 |some v=>
  refine gh (hZ h₁ (λ_ s₁ h₁=>?_) λ_ _ h'=>h'.elim);refine gh (hZ h₁ (λ_ s₂ h₂=>gh (hZ h₂ (λok s₃ h₃=>?_) λ_ _ h'=>h'.elim)) λ_ _ h'=>h'.elim);cases ok with
  |false=>exact gn ⟨rfl,h₃⟩
  |true=>
   exact gh (gh (hZ h₃ (λx s₄ h₄=>gh (hZ h₄ (λ_ s₅ h₅=>gn (gn ⟨rfl,h₅⟩)) λ_ _ h'=>h'.elim)) λ_ _ h'=>h'.elim))
end
def PF(X:Cx)(ifs:List Expr)(t:TT):Prop:=
 ∀(pins:List 78) (s:Shared) (σ:St) (H:Hp) (Q:Bool->Hp->Prop),Inv X pins σ H s->t σ H Q ->
   wpAny 69 X.A (forIn ifs true λc r=>if r=true then do let ok <- isTrue c X.env (eval c X.env);pure (ForInStep.yield ok)else pure (ForInStep.yield r)) (TP X pins σ Q) X.xe s
def TD:TT:=λ_ H Q=>Q true H
def aD{X:Cx}:PF X [] TD:=λpins s σ H Q I h=>wpAny_tests_nil ⟨H,I,h⟩
def aC{X:Cx}{c:Expr}{t:TT}(h:PT X c t):PF X [c] t:=λpins s σ H Q I q=>wpAny_tests_one (h pins s σ H Q I q)
def Vg(J:It)(D:Addr)(σ0:St)(H0:Hp)(g:TG)(tf:TT)(te:TE)(Q:VK):Prop:=∃W:Nat->Nat->St->List V->Hp->Prop,
 (∃m,W 0 m σ0 [] (upd H0 D (.lst [])))/\∀i m σ ys H,W i m σ ys H->H D=some (.lst ys)/\
  ((J.stop i H/\Q (.ref D) H)∨(J.go i H/\ys.length<sizeLine/\∃N:St->List V->Hp->Prop,(∀σ' ys' H',N σ' ys' H'->∃m',m'<m/\W (i+1) m' σ' ys' H')/\
    ∀x H',J.yld i H x H'->g x σ H' λσ2 H2=>tf σ2 H2 λb H3=>
     if b=true then te σ2 H3 λv H4=>H4 D=some (.lst ys)/\N σ2 (ys++[v]) (upd H4 D (.lst (ys++[v])))
     else N σ2 ys H3))
def GQ(n:Nat)(ix:List Nat)(wi:TI)(g:TG)(tf:TT)(te:TE):TE:=λσ H Q=>wi σ H λJ H1=>∀D,H1 D=none->Vg J D (Hy n ix σ) H1 g tf te Q
section
variable{X:Cx}
def Sq{pins:List 78}{σ:St}{H:Hp}{s:Shared}{D:Addr}{ys:List V}{x:V}{u:Value}{Q:Value->Shared->Prop}{E:Value->Shared->Prop}(I:Inv X pins σ H s)(hD:H D=some (.lst ys))(r:RelV x u)(hz:ys.length<sizeLine)
 (h:∀v s',Inv X pins σ (upd H D (.lst (ys++[x]))) s'->Q v s'):wpAny 69 X.A (call (.builtin "list.append") [.ref D,u]) Q E s:=by
 have I':=I.wish λ_ _=>False;have q:=Kw (X:=X.wish λ_ _=>False) pins s σ H (.ref D) [x] (.ref D) [u] (λv H'=>H'=upd H D (.lst (ys++[x]))) I' rfl (.cons r .nil) ⟨D,ys,x,rfl,rfl,hD,hz,rfl⟩;refine hZ q (λv s' ⟨v',H',I2,_,e⟩=>?_) λ_ _ z=>False.elim z;subst e;exact h v s' I2.unwish
def Xb{elt tg iter:Expr}{ifs:List Expr}{scope:Scope}{pos:Pos}{loc fr:List Str}{ix:List Nat}{wi:TI}{g:TG}{tf:TT}{te:TE}(hc:X.calm=true)(S:CSc X scope fr ix)(hi:PI X tg iter wi)
 (hg:∀s H ex,PG 97 tg g) (hf:∀s H ex,PF 97 ifs tf) (he:∀s H ex,PE 97 elt te)
 (hs:∀x,foldedSetIterable iter X.env x=pure x:=by intro _;rfl):PE X 91 (GQ loc.length ix wi g tf te):=by
 intro pins s σ H Q I h;rw[eval_ListComp];have hnames:∀y∈scope.names,y.2=.local->scope.names.lookup y.1=some .local:=λy hy e=>by
  have:=all_eq_true.mp S.loc y hy;rw[e]at this;simpa using this
 refine wpAny_comprehension_free (use:=none) rfl hs (Em (S.clos I.ok)) S.kind hnames (thn (hi pins s σ H _ I h) λv s1 h1=>thn h1 λitv s2 h2=>?_);obtain⟨it,fp,tn,J,H2,rfl,I2,T,st2,f2,hW⟩:=h2;refine iX ?_;have fresh2:H2 s2.heap.objs.size=none:=I2.hok.fresh (gm _);have I3:=I2.lnew (its:=[]) (ys:=[]) (t':=s2.toks) .nil (iB _);obtain⟨W,⟨m0,w0⟩,turn⟩:=hW s2.heap.objs.size fresh2;have lt2:∀b∈fp,b<s2.heap.objs.size:=λb hb=>let ⟨o,e,_⟩:=T.obj 0 _ st2 b hb;90 e
 have f3:∀b∈fp,FpOk X pins 85 b:=λb hb=>⟨by rw[AD (gV (lt2 b hb))];exact(f2 b hb).1,(f2 b hb).2⟩
 have lt3:∀b∈fp,b<(s2.heap.push { cls:=.type "list",data:=.seq ([]:List Value).toArray }).objs.size:=λb hb=>by rw[Heap.size_push];exact jr (lt2 b hb)
 generalize hs3:({ s2 with heap:=s2.heap.push { cls:=.type "list",data:=.seq ([]:List Value).toArray } }:Shared)=s3 at *;have lt3:∀b∈fp,b<s3.heap.objs.size:=by rw[<- hs3];exact lt3
 have st3:tn 0 s3.heap:=T.keep _ _ _ st2 λb hb o e=>by rw[<- hs3];exact 74 _ e
 refine Oj λh' hk hn ho ha=>?_;have I4:=NQ (loc:=loc) S I3 f3 hk hn ho ha lt3;have fpX:∀{H':Hp},(∀b∈fp,H' b=none)->∀b∈fp,FpOk (cCx X (loc++fr) scope s3 85 fp) [] H' b:=λhn b hb=>
  ⟨hn b hb,(I4.ok.exf b hb).1,I4.ok.exfs b hb,.inl hb,(I4.ok.exf b hb).2,λp hp=>by cases hp⟩
 have loop:codeAny 69 X.A (.compLoop 91 0 (.ref it) (.ref s2.heap.objs.size) (V3 scope s3.heap.objs.size X.env))
  (compPost 69 X.A X.xe none (EP X pins σ Q) (.ref s2.heap.objs.size) s3.heap.objs.size) { s3 with heap:=h' }:=by
  refine Hx (λn s'=>∃i σ' ys H',Inv (cCx X (loc++fr) scope s3 85 fp) [] σ' H' s'/\tn i s'.heap/\(∀b∈fp,H' b=none)/\W i n σ' ys H') ?_ m0
   ⟨0,_,[],_,I4,T.keep _ _ _ st3 λb hb o e=>hk b o e,λb hb=>(f3 b hb).1,w0⟩
  rintro n s5 ⟨i,σ5,ys,H5,I5,st5,fr5,w5⟩;obtain⟨hD,w5⟩:=turn i n σ5 ys H5 w5;rcases w5 with⟨stop,qn⟩|⟨go,hz,N,hN,step⟩
  .refine thn (T.done (cCx X (loc++fr) scope s3 85 fp) rfl rfl rfl hc i [] s5 σ5 H5 _ I5 (fpX fr5) st5 stop) λr s6 ⟨hr,I6⟩=>?_;subst hr;obtain⟨m,hm,_⟩:=I6.loc;refine⟨m,hm,λh'' hs=>?_⟩;have neC:∀b o,s3.heap.get? b=some o->b≠s3.heap.objs.size:=λb o e=>gV (90 e);have un:=I6.base;refine⟨.ref s2.heap.objs.size,H5,I3.call' (s':={ s6 with heap:=h'' }) (ch:=fp) I6.os ⟨λb o e n hb hx=>?_,λb o e n hb hx=>?_,un.free,λb o e hx=>?_,un.tups,un.frzs,un.tbls⟩ ?_ I6.bare ?_,rfl,qn⟩
   .exact(hs.2 b (neC b o e)).trans (un.keep b o e n hb hx)
   .obtain⟨sl,q⟩:=un.slot b o e n hb hx;exact⟨sl,(hs.2 b (neC b o e)).trans q⟩
   .obtain⟨o',q⟩:=un.there b o e hx;exact⟨o',(hs.2 b (neC b o e)).trans q⟩
   .intro b ob e;have hfree:H5 s3.heap.objs.size=none:=I6.free;refine(I6.hok b ob e).stay (λc w' hc q=>(hs.2 c ?_).trans q) (λ_ q=>q) λ_ _ q=>q;intro z;rcases hc with hc|hc
    .rw[<- hc,z,hfree]at e;cases e
    .rw[z,hfree]at hc;cases hc
   .intro b hb;obtain⟨_,a2,_,a4,a5,a6⟩:=f3 b hb;exact⟨a4,a2,a5,a6⟩
  .refine thn (T.item (cCx X (loc++fr) scope s3 85 fp) rfl rfl rfl hc i [] s5 σ5 H5 _ I5 (fpX fr5) st5 go) λr s6 ⟨u,hr,h6⟩=>?_;subst hr;refine thn h6 λ_ s7 ⟨x,H7,I7,r7,y7,st7,fr7⟩=>?_;have I7':=I7.pinned (fpX fr7) (T.obj _ _ st7);have keepI:∀{σ8:St} {H8:Hp} {s8:Shared},Inv (cCx X (loc++fr) scope s3 85 fp) ([]++G8 fp s7.heap) σ8 H8 s8->tn (i+1) s8.heap/\∀b∈fp,H8 b=none:=λ{σ8 H8 s8} I8=>by
    refine⟨T.keep _ _ _ st7 λb hb o e=>(I8.pin (b,o) (gv _ (gv _ (D1 hb e)))).1,λb hb=>?_⟩;obtain⟨o,e,d⟩:=T.obj _ _ st7 b hb;exact(I8.pin (b,o) (gv _ (gv _ (D1 hb e)))).2.1
   refine thn (hg s3 85 fp _ s7 σ5 H7 x u _ I7' r7 (step x H7 y7)) λ_ s8 ⟨σ8,H8,I8,q8⟩=>?_;refine thn (hf s3 85 fp _ s8 σ8 H8 _ I8 q8) λb s9 ⟨H9,I9,q9⟩=>?_;cases b with
   |false=>
    rw[gj Bool.false_ne_true]at q9 ⊢;obtain⟨m',hm,w9⟩:=hN _ _ _ q9;exact⟨m',hm,i+1,σ8,ys,H9,I9.unpinned,(keepI I9).1,(keepI I9).2,w9⟩
   |true=>
    rw[gi rfl]at q9 ⊢;refine thn (he s3 85 fp _ s9 σ8 H9 _ I9 q9) λe10 s10 ⟨v10,H10,I10,r10,hD10,n10⟩=>?_;obtain⟨m',hm,w10⟩:=hN _ _ _ n10;refine Sq (X:=cCx X (loc++fr) scope s3 85 fp) I10 hD10 r10 hz λ_ s11 I11=>?_;exact⟨m',hm,i+1,σ8,_,_,I11.unpinned,(keepI I11).1,(keepI I11).2,w10⟩
 exact codeAny_compStart_list loop (T.self X.A 0 _ _ _ (T.keep _ _ _ st3 λb hb o e=>hk b o e) loop)
end
section
variable{X:Cx}
def Qg{elt tg iter:Expr}{ifs:List Expr}{scope:Scope}{pos:Pos}{loc fr:List Str}{ix:List Nat}{g:TG}{tf:TT}{te:TE}{pins:List 78}{σ:St}{Q:VK}{it:Addr}{fp:List Addr}{tn:Nat->Heap->Prop}{J:It}{H2:Hp}{s2:Shared}{E:Value->Shared->Prop}
 {RR:Value->Addr->Result->Shared->Prop} (hc:X.calm=true) (S:CSc X scope fr ix)
 (hg:∀s H ex,PG 97 tg g) (hf:∀s H ex,PF 97 ifs tf) (he:∀s H ex,PE 97 elt te)
 (I2:Inv X pins σ H2 s2) (T:Turn X.prog X.w X.K tg J fp it tn) (st2:tn 0 s2.heap) (f2:∀b∈fp,FpOk X pins H2 b) (hW:∀D,H2 D=none->Vg J D (Hy loc.length ix σ) H2 g tf te Q)
 (hfin:∀(s3 s6:Shared) (H5:Hp) (σ5:St) (D:Addr),Inv X pins σ (upd H2 D (.lst [])) s3->Inv (cCx X (loc++fr) scope s3 (upd H2 D (.lst [])) fp) [] σ5 H5 s6->(∀b∈fp,FpOk X pins (upd H2 D (.lst [])) b)->Q (.ref D) H5->RR (.ref D) s3.heap.objs.size (.ok .next) s6):
 wpAny 69 X.A (newList []) (λacc s₃=>wpAny 69 X.A (newFunctionEnv scope X.env.globals 86 [] X.env.qual none .none (some X.env)) (λcenv s₄=>
  codeAny 69 X.A (.compStart 91 0 (.ref it) acc { cenv with scope:=relabel scope X.env }) (RR acc cenv.locals) s₄) E s₃) E s2:=by
 refine iX ?_;have fresh2:H2 s2.heap.objs.size=none:=I2.hok.fresh (gm _);have I3:=I2.lnew (its:=[]) (ys:=[]) (t':=s2.toks) .nil (iB _);obtain⟨W,⟨m0,w0⟩,turn⟩:=hW s2.heap.objs.size fresh2;have lt2:∀b∈fp,b<s2.heap.objs.size:=λb hb=>let ⟨o,e,_⟩:=T.obj 0 _ st2 b hb;90 e
 have f3:∀b∈fp,FpOk X pins 85 b:=λb hb=>⟨by rw[AD (gV (lt2 b hb))];exact(f2 b hb).1,(f2 b hb).2⟩
 have lt3:∀b∈fp,b<(s2.heap.push { cls:=.type "list",data:=.seq ([]:List Value).toArray }).objs.size:=λb hb=>by rw[Heap.size_push];exact jr (lt2 b hb)
 generalize hs3:({ s2 with heap:=s2.heap.push { cls:=.type "list",data:=.seq ([]:List Value).toArray } }:Shared)=s3 at *;have lt3:∀b∈fp,b<s3.heap.objs.size:=by rw[<- hs3];exact lt3
 have st3:tn 0 s3.heap:=T.keep _ _ _ st2 λb hb o e=>by rw[<- hs3];exact 74 _ e
 refine Oj λh' hk hn ho ha=>?_;have I4:=NQ (loc:=loc) S I3 f3 hk hn ho ha lt3;have fpX:∀{H':Hp},(∀b∈fp,H' b=none)->∀b∈fp,FpOk (cCx X (loc++fr) scope s3 85 fp) [] H' b:=λhn b hb=>
  ⟨hn b hb,(I4.ok.exf b hb).1,I4.ok.exfs b hb,.inl hb,(I4.ok.exf b hb).2,λp hp=>by cases hp⟩
 have loop:codeAny 69 X.A (.compLoop 91 0 (.ref it) (.ref s2.heap.objs.size) (V3 scope s3.heap.objs.size X.env))
  (RR (.ref s2.heap.objs.size) s3.heap.objs.size) { s3 with heap:=h' }:=by
  refine Hx (λn s'=>∃i σ' ys H',Inv (cCx X (loc++fr) scope s3 85 fp) [] σ' H' s'/\tn i s'.heap/\(∀b∈fp,H' b=none)/\W i n σ' ys H') ?_ m0
   ⟨0,_,[],_,I4,T.keep _ _ _ st3 λb hb o e=>hk b o e,λb hb=>(f3 b hb).1,w0⟩
  rintro n s5 ⟨i,σ5,ys,H5,I5,st5,fr5,w5⟩;obtain⟨hD,w5⟩:=turn i n σ5 ys H5 w5;rcases w5 with⟨stop,qn⟩|⟨go,hz,N,hN,step⟩
  .refine thn (T.done (cCx X (loc++fr) scope s3 85 fp) rfl rfl rfl hc i [] s5 σ5 H5 _ I5 (fpX fr5) st5 stop) λr s6 ⟨hr,I6⟩=>?_;subst hr;exact hfin s3 s6 H5 σ5 s2.heap.objs.size I3 I6 f3 qn
  .refine thn (T.item (cCx X (loc++fr) scope s3 85 fp) rfl rfl rfl hc i [] s5 σ5 H5 _ I5 (fpX fr5) st5 go) λr s6 ⟨u,hr,h6⟩=>?_;subst hr;refine thn h6 λ_ s7 ⟨x,H7,I7,r7,y7,st7,fr7⟩=>?_;have I7':=I7.pinned (fpX fr7) (T.obj _ _ st7);have keepI:∀{σ8:St} {H8:Hp} {s8:Shared},Inv (cCx X (loc++fr) scope s3 85 fp) ([]++G8 fp s7.heap) σ8 H8 s8->tn (i+1) s8.heap/\∀b∈fp,H8 b=none:=λ{σ8 H8 s8} I8=>by
    refine⟨T.keep _ _ _ st7 λb hb o e=>(I8.pin (b,o) (gv _ (gv _ (D1 hb e)))).1,λb hb=>?_⟩;obtain⟨o,e,d⟩:=T.obj _ _ st7 b hb;exact(I8.pin (b,o) (gv _ (gv _ (D1 hb e)))).2.1
   refine thn (hg s3 85 fp _ s7 σ5 H7 x u _ I7' r7 (step x H7 y7)) λ_ s8 ⟨σ8,H8,I8,q8⟩=>?_;refine thn (hf s3 85 fp _ s8 σ8 H8 _ I8 q8) λb s9 ⟨H9,I9,q9⟩=>?_;cases b with
   |false=>
    rw[gj Bool.false_ne_true]at q9 ⊢;obtain⟨m',hm,w9⟩:=hN _ _ _ q9;exact⟨m',hm,i+1,σ8,ys,H9,I9.unpinned,(keepI I9).1,(keepI I9).2,w9⟩
   |true=>
    rw[gi rfl]at q9 ⊢;refine thn (he s3 85 fp _ s9 σ8 H9 _ I9 q9) λe10 s10 ⟨v10,H10,I10,r10,hD10,n10⟩=>?_;obtain⟨m',hm,w10⟩:=hN _ _ _ n10;refine Sq (X:=cCx X (loc++fr) scope s3 85 fp) I10 hD10 r10 hz λ_ s11 I11=>?_;exact⟨m',hm,i+1,σ8,_,_,I11.unpinned,(keepI I11).1,(keepI I11).2,w10⟩
 exact codeAny_compStart_list loop (T.self X.A 0 _ _ _ (T.keep _ _ _ st3 λb hb o e=>hk b o e) loop)
def OE{scope:Scope}{N':List Str}{fp:List Addr}{pins:List 78}{σ σ5:St}{H3 H5:Hp}{s3 s6:Shared}{h'':Heap}(I3:Inv X pins σ H3 s3)(I6:Inv (cCx X N' scope s3 H3 fp) [] σ5 H5 s6)(f3:∀b∈fp,FpOk X pins H3 b)
 (hs:Heap.SameBut s3.heap.objs.size s6.heap h''):Inv X pins σ H5 { s6 with heap:=h'' }:=by
 have neC:∀b o,s3.heap.get? b=some o->b≠s3.heap.objs.size:=λb o e=>gV (90 e);have un:=I6.base;refine I3.call' (s':={ s6 with heap:=h'' }) (ch:=fp) I6.os ⟨λb o e n hb hx=>?_,λb o e n hb hx=>?_,un.free,λb o e hx=>?_,un.tups,un.frzs,un.tbls⟩ ?_ I6.bare ?_
 .exact(hs.2 b (neC b o e)).trans (un.keep b o e n hb hx)
 .obtain⟨sl,q⟩:=un.slot b o e n hb hx;exact⟨sl,(hs.2 b (neC b o e)).trans q⟩
 .obtain⟨o',q⟩:=un.there b o e hx;exact⟨o',(hs.2 b (neC b o e)).trans q⟩
 .intro b ob e;have hfree:H5 s3.heap.objs.size=none:=I6.free;refine(I6.hok b ob e).stay (λc w' hc q=>(hs.2 c ?_).trans q) (λ_ q=>q) λ_ _ q=>q;intro z;rcases hc with hc|hc
  .rw[<- hc,z,hfree]at e;cases e
  .rw[z,hfree]at hc;cases hc
 .intro b hb;obtain⟨_,a2,_,a4,a5,a6⟩:=f3 b hb;exact⟨a4,a2,a5,a6⟩
def XD{i:Nat}{y:Str}{elt tg iter:Expr}{ifs:List Expr}{scope:Scope}{pos spos py:Pos}{loc fr:List Str}{ix:List Nat}{wi:TI}{g:TG}{tf:TT}{te:TE}(hN:X.N.Nodup)(hiN:X.N[i]?=some y)(hy:X.env.scope.names.lookup y=some .local)
 (hc:X.calm=true) (S:CSc X scope fr ix) (hi:PI X tg iter wi)
 (hg:∀s H ex,PG 97 tg g) (hf:∀s H ex,PF 97 ifs tf) (he:∀s H ex,PE 97 elt te)
 (hsw:swapsWith 91 (some (.Name y py)) spos.line X.env=pure true:=by rfl) (hs:∀x,foldedSetIterable iter X.env x=pure x:=by intro _;rfl):
 PS X (.Assign [.Name y py] 91 spos) (F9 (GQ loc.length ix wi g tf te) (EG i)):=by
 intro pins s σ H D I h;have hnames:∀y∈scope.names,y.2=.local->scope.names.lookup y.1=some .local:=λy hy e=>by
  have:=all_eq_true.mp S.loc y hy;rw[e]at this;simpa using this
 rw[exec_Assign_Name_used _ _ _ _ hsw];refine gh (j5 (gh ?_));show wpAny _ _ (do let _ <- comprehension 91 scope X.env _ (newList []) false (eval iter X.env) (some (assign (.Name y py) X.env))) _ _ s;refine gh (hZ (wpAny_comprehension_free (use:=some (assign (.Name y py) X.env)) (Q:=λ_ s'=>SP X pins D .next s') rfl hs (Em (S.clos I.ok)) S.kind hnames
  (thn (hi pins s σ H _ I h) λv s1 h1=>thn h1 λitv s2 h2=>?_)) (λ_ s' hq=>gn (gn hq)) λ_ _ e=>e)
 obtain⟨it,fp,tn,J,H2,rfl,I2,T,st2,f2,hW⟩:=h2;refine Qg (RR:=λacc C=>compPost 69 X.A X.xe (some (assign (.Name y py) X.env)) (λ_ s'=>SP X pins D .next s') acc C) hc S hg hf he I2 T st2 f2 hW λs3 s6 H5 σ5 L I3 I6 f3 q=>?_;have J6:Inv X pins σ H5 s6:=OE (h'':=s6.heap) I3 I6 f3 (.refl ..);obtain⟨m,hm,_⟩:=I6.loc;have hm:s6.heap.Ns s3.heap.objs.size m:=hm;have hL:s3.heap.objs.size≠X.env.locals:=Ne.symm (gV I3.lt);show wpAny _ _ (assign (.Name y py) X.env (.ref L)) _ _ s6;refine wpAny_assign_Name (Kl (v:=.ref L) J6 hN hiN (.inl hy) rfl (λs7 I7 ⟨a,sb,ha⟩=>?_) (.inr hy));have hca:s3.heap.objs.size≠a:=by
  rcases ha with rfl|ha
  .exact hL
  .obtain⟨v,z⟩:=I3.cell y a ha;exact Ne.symm (gV z.lt)
 refine⟨m,hm.sameBut sb hca,λh' hs'=>?_⟩;refine⟨_,H5,I7.turned (t':=s7.toks) (it:=s3.heap.objs.size) (λb o hb e=>(hs'.2 b hb).trans e) I6.free hL (.inr I3.sz) (λx c e z=>?_) (λp hp z=>?_),q⟩
 .obtain⟨v,w⟩:=I3.cell x c e;exact absurd w.lt (by rw[z];exact iJ _)
 .exact absurd (90 (I3.pin p hp).1) (by rw[z];exact iJ _)
end
mutual
def Rep(K:Frag)(H:Hp):PyData->V->Prop
 |.none,v=>v=.non
 |.bool b,v=>v=.bl b
 |.int i,v=>v=.int i
 |.str x,v=>v=.str x
 |.list ds,v=>∃a xs,v=.ref a/\SqL K H a xs/\RepAll K H ds xs
 |.tuple ds,v=>∃a xs,v=.ref a/\SqT K H a xs/\RepAll K H ds xs
 |.dict _,_=>False
def RepAll(K:Frag)(H:Hp):List PyData->List V->Prop
 |[],xs=>xs=[]
 |d::ds,xs=>∃x r,xs=x::r/\Rep K H d x/\RepAll K H ds r
end
section
variable{X:Cx}{pins:List 78}{σ:St}{H:Hp}{s:Shared}
mutual
theorem EU(I:Inv X pins σ H s):∀(d:PyData) (v:V) (u:Value),Rep X.K H d v->RelV v u->∃as,Reads s.heap u d as
 |.none,v,u,h,r=>by
  have h:v=.non:=by simpa only[Rep]using h
  subst h;cases r;exact⟨_,.none⟩
 |.bool b,v,u,h,r=>by
  have h:v=.bl b:=by simpa only[Rep]using h
  subst h;cases r;exact⟨_,.bool b⟩
 |.int i,v,u,h,r=>by
  have h:v=.int i:=by simpa only[Rep]using h
  subst h;obtain⟨t,rfl⟩:=r;exact⟨_,.int i t⟩
 |.str x,v,u,h,r=>by
  have h:v=.str x:=by simpa only[Rep]using h
  subst h;obtain⟨t,rfl⟩:=r;exact⟨_,.str x t⟩
 |.list ds,v,u,h,r=>by
  have h:∃a xs,v=.ref a/\SqL X.K H a xs/\RepAll X.K H ds xs:=by simpa only[Rep]using h
  obtain⟨a,xs,rfl,hq,ha⟩:=h;cases r;obtain⟨its,rv,⟨o,n,e,c,_,dd⟩,hz⟩:=I.list hq;obtain⟨as,q⟩:=FC I ds xs its ha rv;exact⟨_,.list e c dd (by simpa using q)⟩
 |.tuple ds,v,u,h,r=>by
  have h:∃a xs,v=.ref a/\SqT X.K H a xs/\RepAll X.K H ds xs:=by simpa only[Rep]using h
  obtain⟨a,xs,rfl,hq,ha⟩:=h;cases r;obtain⟨its,rv,⟨o,e,c,n,dd⟩,hz⟩:=I.tuple hq;obtain⟨as,q⟩:=FC I ds xs its ha rv;exact⟨_,.tuple e c dd (by simpa using q)⟩
 |.dict _,v,u,h,r=>by
  have h:False:=by simpa only[Rep]using h
  exact h.elim
theorem FC(I:Inv X pins σ H s):∀(ds:List PyData) (xs:List V) (us:List Value),RepAll X.K H ds xs->Vals xs us->∃as,ReadsAll s.heap us ds as
 |[],xs,us,h,r=>by
  have h:xs=[]:=by simpa only[RepAll]using h
  subst h;cases r;exact⟨_,.nil⟩
 |d::ds,xs,us,h,r=>by
  have h:∃x r,xs=x::r/\Rep X.K H d x/\RepAll X.K H ds r:=by simpa only[RepAll]using h
  obtain⟨x,rr,rfl,h1,h2⟩:=h;cases r with
  |cons r1 r2=>
   obtain⟨as,q1⟩:=EU I d _ _ h1 r1;obtain⟨bs,q2⟩:=FC I ds _ _ h2 r2;exact⟨_,.cons q1 q2⟩
end
end
def Stb:HO->Prop
 |.tup _=>True
 |.frz _ _=>True
 |.ext _=>True
 |.xd _=>True
 |_=>False
structure Grow(H H':Hp):Prop where
 keep:∀b o,Stb o->H b=some o->H' b=some o
theorem Grow.tup{H H':Hp}(g:Grow H H'):∀b xs,H b=some (.tup xs)->H' b=some (.tup xs):=λb _ h=>g.keep b _ trivial h
theorem Grow.frz{H H':Hp}(g:Grow H H'):∀b o u,H b=some (.frz o u)->H' b=some (.frz o u):=λb _ _ h=>g.keep b _ trivial h
def Grow.refl{H:Hp}:Grow H H:=⟨λ_ _ _ h=>h⟩
def Chg(H:Hp)(p:Addr):Prop:=∀o,Stb o->H p≠some o
def Grow.put{H H':Hp}{p:Addr}{o:HO}(a:Grow H H')(h:Chg H' p):Grow H (upd H' p o):=⟨λc u s e=>by
 have q:=a.keep c u s e;have n:c≠p:=λz=>h u s (by rw[<- z];exact q);rw[AD n];exact q⟩
theorem Chg.lst{H:Hp}{p:Addr}{xs:List V}(h:H p=some (.lst xs)):Chg H p:=λo s e=>by rw[h]at e;cases e;exact s
def Grow.sq{K:Frag}{H H':Hp}{a:Addr}{xs:List V}(g:Grow H H')(h:SqT K H a xs):SqT K H' a xs:=by
 rcases h with(h|⟨o,h⟩)|h
 .exact .inl (.inl (g.tup _ _ h))
 .exact .inl (.inr ⟨o,g.frz _ _ _ h⟩)
 .exact .inr h
mutual
/-- no list in it -/
def Imm:PyData->Bool
 |.none|.bool _|.int _|.str _=>true
 |.list _=>false
 |.tuple ds=>ID ds
 |.dict _=>false
def ID:List PyData->Bool
 |[]=>true
 |d::ds=>Imm d&&ID ds
end
mutual
theorem Rep.grow{K:Frag}{H H':Hp}(g:Grow H H'):∀(d:PyData) (v:V),Imm d=true->Rep K H d v->Rep K H' d v
 |.none,v,_,h=>by simpa only[Rep]using h
 |.bool b,v,_,h=>by simpa only[Rep]using h
 |.int i,v,_,h=>by simpa only[Rep]using h
 |.str x,v,_,h=>by simpa only[Rep]using h
 |.list ds,v,m,h=>by simp[Imm]at m
 |.tuple ds,v,m,h=>by
  have h:∃a xs,v=.ref a/\SqT K H a xs/\RepAll K H ds xs:=by simpa only[Rep]using h
  obtain⟨a,xs,e,hq,ha⟩:=h;simp only[Rep];exact⟨a,xs,e,g.sq hq,RepAll.grow g ds xs (by simpa only[Imm]using m) ha⟩
 |.dict _,v,m,h=>by simp[Imm]at m
theorem RepAll.grow{K:Frag}{H H':Hp}(g:Grow H H'):∀(ds:List PyData) (xs:List V),ID ds=true->RepAll K H ds xs->RepAll K H' ds xs
 |[],xs,_,h=>by simpa only[RepAll]using h
 |d::ds,xs,m,h=>by
  have h:∃x r,xs=x::r/\Rep K H d x/\RepAll K H ds r:=by simpa only[RepAll]using h
  obtain⟨x,r,e,h1,h2⟩:=h;have m:Imm d=true/\ID ds=true:=by simpa [ID]using m
  simp only[RepAll];exact⟨x,r,e,Rep.grow g d x m.1 h1,RepAll.grow g ds r m.2 h2⟩
end
section
variable{X:Cx}
def Pw(K:Frag):R2:=λx y H Q=>∃d e,Rep K H d x/\Rep K H e y/\d.canLay0=true/\e.canLay0=true/\min d.depth e.depth<=60/\Q (.bl (!PyData.eqv d e)) H
def Tz(K:Frag):R2:=λx y H Q=>∃d e,Rep K H d x/\Rep K H e y/\d.canLay0=true/\e.canLay0=true/\min d.depth e.depth<=60/\Q (.bl (PyData.eqv d e)) H
def aQ(hu:X.A.units+64<cLine):OpR X (compareOp .NotEq) (Pw X.K):=by
 intro pins s σ H x y v u Q I rx ry h;obtain⟨d,e,h1,h2,c1,c2,hm,q⟩:=h;obtain⟨as,q1⟩:=EU I d x v h1 rx;obtain⟨bs,q2⟩:=EU I e y u h2 ry;exact PySem.SeqAt.compareNe_reads q1 q2 c1 c2 67 ⟨.bl _,H,I,rfl,q⟩
def aT(hu:X.A.units+64<cLine):OpR X (compareOp .Eq) (Tz X.K):=by
 intro pins s σ H x y v u Q I rx ry h;obtain⟨d,e,h1,h2,c1,c2,hm,q⟩:=h;obtain⟨as,q1⟩:=EU I d x v h1 rx;obtain⟨bs,q2⟩:=EU I e y u h2 ry;exact PySem.SeqAt.compareEq_reads q1 q2 c1 c2 67 ⟨.bl _,H,I,rfl,q⟩
theorem DZ:∀{ns:List Int} {us:List Value},Vals (ns.map V.int) us->IntsAre us ns
 |[],_,.nil=>.nil
 |n::ns,_,.cons r t=>by obtain⟨k,rfl⟩:=r;exact .cons _ _ (DZ t)
def Sk(hc:X.calm=true):CallR X (.builtin "sum") (λxs H Q=>∃(a:Addr) (ns:List Int),xs=[.ref a]/\SqL X.K H a (ns.map V.int)/\Q (.int ns.sum) H):=by
 intro pins s σ H xs us Q I r h;obtain⟨a,ns,rfl,hq,q⟩:=h;obtain⟨u,rfl,ru⟩:=C4 r;cases ru;obtain⟨its,rv,p,hz⟩:=I.list hq;have hi:=DZ rv;obtain⟨xs,hx⟩:=hi.allInts.items;have hl':s.heap.IsList a (intItems xs):=hx ▸ p.isList;refine sum_intListG (I.ok.hd hc) hl' λh' tk t' hk=>?_;have e1:ns=xs.toList.map (·.1):=by
  rw[<- jB,<- hx];exact(show numsOf its.toArray.toList=ns from hi.numsOf).symm
 have e2:preSum (numAt xs) xs.size=ns.sum:=by
  rw[preSum_eq,List.take_of_length_le 75,e1]
 rw[e2];exact⟨.int ns.sum,H,I.kept hk,⟨_,rfl⟩,q⟩
end
end L2
namespace L2
open PySem PySem.Spec PyProof.Rows
section
variable(K:Frag){X:Cx}
def NP(hK:X.K=K:=by rfl):IxR X (KH K):=by subst hK;exact Y5
def Ov(hK:X.K=K:=by rfl):IxR X (Tx K):=by subst hK;exact aq
def TY(hK:X.K=K:=by rfl):SlR X (Pu K):=by subst hK;exact Vy
def Rt(hK:X.K=K:=by rfl):OpR X (compareOp .NotIn) (rIn K true):=by subst hK;exact Mz
def Oi(hu:X.A.units+64<cLine)(hK:X.K=K:=by rfl):OpR X (compareOp .Eq) (Tz K):=by subst hK;exact aT hu
def IH(hu:X.A.units+64<cLine)(hK:X.K=K:=by rfl):OpR X (compareOp .NotEq) (Pw K):=by subst hK;exact aQ hu
def N0(hK:X.K=K:=by rfl):OpR X (binaryOp .Add) (Px K):=by subst hK;exact Xg
def ZJ:List V->Hp->VK->Prop:=λxs H Q=>∃p ys,xs=[.ref p]/\(SqL K H p ys∨SqT K H p ys)/\Q (.int ys.length) H
def Sm(hK:X.K=K:=by rfl):CallR X (.builtin "len") (ZJ K):=by subst hK;exact Nl
def KG:List V->Hp->VK->Prop:=λxs H Q=>∃p ys,xs=[.ref p]/\(SqL K H p ys∨SqT K H p ys)/\∀l,H l=none->Q (.ref l) (upd H l (.lst ys))
def Qi(hK:X.K=K:=by rfl):CallR X (.type "list") (KG K):=by subst hK;exact Nk
def Ms:List V->Hp->VK->Prop:=λxs H Q=>∃p ys,xs=[.ref p]/\((SqL K H p ys/\∀l,H l=none->Q (.ref l) (upd H l (.tup ys)))∨(SqT K H p ys/\Q (.ref p) H))
def Ij(hK:X.K=K:=by rfl):CallR X (.type "tuple") (Ms K):=by subst hK;exact Ln
def VL:List V->Hp->VK->Prop:=λxs H Q=>∃(a:Addr) (ns:List Int),xs=[.ref a]/\SqL K H a (ns.map V.int)/\Q (.int ns.sum) H
def LI(hc:X.calm=true)(hK:X.K=K:=by rfl):CallR X (.builtin "sum") (VL K):=by subst hK;exact Sk hc
def UQ{tg l:Expr}{tl:TE}(hl:PE X l tl)(hK:X.K=K:=by rfl):PI X tg l (MB K tl):=by subst hK;exact XS hl
def XR{tg l:Expr}{tl:TE}(hl:PE X l tl)(hK:X.K=K:=by rfl):PI X tg l (QX K tl):=by subst hK;exact a9 hl
def XU{pos:Pos}{es:List Expr}{k:Nat}{t:TGs}{n:Nat}(hc:X.calm=true)(h:PGs X es t)(hK:X.K=K:=by rfl)
 (hn:(assignEach es X.env).length=n:=by rfl) (hst:(assignEach es X.env).findIdx? (·.1)=none:=by rfl):PG X (.Tuple es k pos) (Qa K n t):=by
 subst hK;exact aA hc h hn hst
end
section
variable(K:Frag){X:Cx}
theorem IA:∀{bs:List Bool} {us:List Value} {i:Nat} {v:Value},Vals (bs.map V.bl) us->us[i]?=some v->∃b,bs[i]?=some b/\v=.bool b
 |[],_,_,_,.nil,e=>by simp at e
 |b::bs,_,0,_,.cons r _,e=>by simp at e;subst e;exact⟨b,rfl,r⟩
 |b::bs,_,i+1,_,.cons _ t,e=>by
  obtain⟨c,h1,h2⟩:=IA (i:=i) t (by simpa using e);exact⟨c,by simpa using h1,h2⟩
def ZL:List V->Hp->VK->Prop:=λxs H Q=>∃(a:Addr) (bs:List Bool),xs=[.ref a]/\SqL K H a (bs.map V.bl)/\Q (.bl (bs.all id)) H
def ZK:List V->Hp->VK->Prop:=λxs H Q=>∃(a:Addr) (bs:List Bool),xs=[.ref a]/\SqL K H a (bs.map V.bl)/\Q (.bl (bs.any id)) H
def LN(hc:X.calm=true)(hK:X.K=K:=by rfl):CallR X (.builtin "all") (ZL K):=by
 subst hK;intro pins s σ H xs us Q I r h;obtain⟨a,bs,rfl,hq,q⟩:=h;obtain⟨u,rfl,ru⟩:=C4 r;cases ru;obtain⟨its,rv,p,hz⟩:=I.list hq;have hl:=p.isList;have hlen:=rv.length;have hlt:a<s.heap.objs.size:=by obtain⟨_,e,_⟩:=hl;exact 90 e
 refine call_all_walk (wpAny_pyIter_list hl ?_);refine⟨66,[66,a],[66],its.toArray.size,_,_,λi=>(bs[i]?).getD true,rfl,Walks.list (A:=X.A.in1) (I.ok.hd hc) _ a (gV hlt) 109,
  ⟨⟨_,87 _ rfl,rfl,rfl⟩,hl.push _⟩,λi v s' Q' E' hP hQ=>?_,λh' tk hk=>?_⟩
 .obtain⟨b,e,rfl⟩:=IA rv (by simpa using hP);simp only[e,getD_some]at hQ;exact iW hQ
 .have e:((71 its.toArray.size).all λi=>(bs[i]?).getD true)=bs.all id:=by
   rw[gz,<- hlen,hX];exact LSm.range_all bs
  rw[e];exact⟨.bl _,H,I.kept (LSm.kept_iter hk),rfl,q⟩
def LM(hc:X.calm=true)(hK:X.K=K:=by rfl):CallR X (.builtin "any") (ZK K):=by
 subst hK;intro pins s σ H xs us Q I r h;obtain⟨a,bs,rfl,hq,q⟩:=h;obtain⟨u,rfl,ru⟩:=C4 r;cases ru;obtain⟨its,rv,p,hz⟩:=I.list hq;have hl:=p.isList;have hlen:=rv.length;have hlt:a<s.heap.objs.size:=by obtain⟨_,e,_⟩:=hl;exact 90 e
 refine call_any_walk (wpAny_pyIter_list hl ?_);refine⟨66,[66,a],[66],its.toArray.size,_,_,λi=>(bs[i]?).getD false,rfl,Walks.list (A:=X.A.in1) (I.ok.hd hc) _ a (gV hlt) 109,
  ⟨⟨_,87 _ rfl,rfl,rfl⟩,hl.push _⟩,λi v s' Q' E' hP hQ=>?_,λh' tk hk=>?_⟩
 .obtain⟨b,e,rfl⟩:=IA rv (by simpa using hP);simp only[e,getD_some]at hQ;exact iW hQ
 .have e:((71 its.toArray.size).any λi=>(bs[i]?).getD false)=bs.any id:=by
   rw[gz,<- hlen,hX];exact LSm.range_any bs
  rw[e];exact⟨.bl _,H,I.kept (LSm.kept_iter hk),rfl,q⟩
def KF:List V->Hp->VK->Prop:=λxs H Q=>∃(a:Addr) (ns:List Int),xs=[.ref a]/\SqL K H a (ns.map V.int)/\ns.length<64/\∀(p:Addr) (ns':List Int),H p=none->ns'.Perm ns->ns'.Pairwise (·<=·)->Q (.ref p) (upd H p (.lst (ns'.map V.int)))
theorem K2:∀{ns:List Int} {us:List Value},IntsAre us ns->Vals (ns.map V.int) us
 |[],_,.nil=>.nil
 |_::_,_,.cons _ _ t=>.cons ⟨_,rfl⟩ (K2 t)
def Nj(hK:X.K=K:=by rfl):CallR X (.builtin "sorted") (KF K):=by
 subst hK;intro pins s σ H xs us Q I r h;obtain⟨a,ns,rfl,hq,h64,q⟩:=h;obtain⟨u,rfl,ru⟩:=C4 r;cases ru;obtain⟨its,rv,p,hz⟩:=I.list hq;have hlen:=rv.length;rw[hX]at hlen;refine sorted_ints p.isList (DZ rv) 67 λout ns' a1 a2 a3=>?_;obtain⟨e,he⟩:=sortedAll_at s.heap its out;have hl':ns'.length=ns.length:=a2.length_eq;refine⟨.ref (66+1),_,I.laid (a:=66+1) (o:=.lst (ns'.map V.int)) (t':=s.toks) (λb o hb=>sortedAll_old hb) (iV _) ⟨?_,out.toList,e,K2 a1,he⟩,rfl,q _ _ (I.hok.fresh (iV _)) a2 a3⟩;rw[hX,hl'];exact iS (Km 67)
def VO:List V->Hp->VK->Prop:=λxs H Q=>∃(a:Addr) (ns:List Int),xs=[.ref a]/\SqL K H a (ns.map V.int)/\0<ns.length/\∀M:Int,M∈ns->(∀x∈ns,x<=M)->Q (.int M) H
def LL(hc:X.calm=true)(hK:X.K=K:=by rfl):CallR X (.builtin "max") (VO K):=by
 subst hK;intro pins s σ H xs us Q I r h;obtain⟨a,ns,rfl,hq,hne,q⟩:=h;obtain⟨u,rfl,ru⟩:=C4 r;cases ru;obtain⟨its,rv,p,hz⟩:=I.list hq;have hi:=DZ rv;obtain⟨ys,e⟩:=hi.allInts.items;have hns:ns=ys.toList.map (·.1):=by
  rw[<- hi.numsOf,<- jB,<- e]
 have hsz:0<ys.size:=by
  have h3:=hne;rw[hns,hX,Array.length_toList]at h3;exact h3
 have hl:=p.isList;rw[e]at hl;refine max_intList (I.ok.hd hc) hl hsz λv h' tk hv hk=>?_;obtain⟨t,rfl⟩:=intItems_at hv;obtain⟨h1,h2⟩:=argBest_gt (numAt ys) (ys.size-1);refine⟨.int _,H,I.kept hk,⟨t,rfl⟩,q _ ?_ λx hx=>?_⟩
 .rw[hns,numAt_eq];exact getD_mem (by rw[hX,Array.length_toList];omega)
 .rw[hns]at hx;obtain⟨j,hj,rfl⟩:=mem_getD hx;rw[hX,Array.length_toList]at hj;rw[<- numAt_eq];exact h2 j 67
def VM:List V->Hp->VK->Prop:=λxs H Q=>∃(a:Addr) (ns:List Int),xs=[.ref a]/\SqL K H a (ns.map V.int)/\0<ns.length/\∀M:Int,M∈ns->(∀x∈ns,M<=x)->Q (.int M) H
def LK(hc:X.calm=true)(hK:X.K=K:=by rfl):CallR X (.builtin "min") (VM K):=by
 subst hK;intro pins s σ H xs us Q I r h;obtain⟨a,ns,rfl,hq,hne,q⟩:=h;obtain⟨u,rfl,ru⟩:=C4 r;cases ru;obtain⟨its,rv,p,hz⟩:=I.list hq;have hi:=DZ rv;obtain⟨ys,e⟩:=hi.allInts.items;have hns:ns=ys.toList.map (·.1):=by
  rw[<- hi.numsOf,<- jB,<- e]
 have hsz:0<ys.size:=by
  have h3:=hne;rw[hns,hX,Array.length_toList]at h3;exact h3
 have hl:=p.isList;rw[e]at hl;refine min_intList (I.ok.hd hc) hl hsz λv h' tk hv hk=>?_;obtain⟨t,rfl⟩:=intItems_at hv;obtain⟨h1,h2⟩:=argBest_lt (numAt ys) (ys.size-1);refine⟨.int _,H,I.kept hk,⟨t,rfl⟩,q _ ?_ λx hx=>?_⟩
 .rw[hns,numAt_eq];exact getD_mem (by rw[hX,Array.length_toList];omega)
 .rw[hns]at hx;obtain⟨j,hj,rfl⟩:=mem_getD hx;rw[hX,Array.length_toList]at hj;rw[<- numAt_eq];exact h2 j 67
end
section
variable{prog:Program}{w:World}{A:Around}{E:Value->Shared->Prop}{s:Shared}{l:Addr}{xs:Array (Int×Tok)}
def HJ{Q:Value->Shared->Prop}(hl:s.heap.IsTuple l (intItems xs))
 (h:∀s₂:Shared,s₂={ s with heap:=s.heap.push { cls:=.type "tuple_iterator",data:=.fields #[.ref l,.int 0 0] } } ->
  (s₂.heap.IsTupleIter 66 l 0/\s₂.heap.IsTuple l (intItems xs))->(∀b∈[66,l],b<s₂.heap.objs.size)->l≠66->Q (.ref 66) s₂):
 wpAny 92 A (pyIter (.ref l)) Q E s:=by
 have hlt:l<s.heap.objs.size:=by obtain⟨_,e,_⟩:=hl;exact 90 e
 refine wpAny_pyIter_tuple hl (h _ rfl ⟨⟨_,87 _ rfl,rfl,rfl⟩,hl.push _⟩ (λb hb=>?_) (gV hlt));show b<(s.heap.push _).objs.size;rw[Heap.size_push];rcases mem_cons.mp hb with rfl|hb
 .exact jk _
 .rcases mem_cons.mp hb with rfl|hb
  .exact jr hlt
  .cases hb
def Ku{h':Heap}{o:Obj}(hk:∀b x,b∉[66]->(s.heap.push o).get? b=some x->h'.get? b=some x):∀b x,s.heap.get? b=some x->h'.get? b=some x:=
 λb x e=>hk b x (λhm=>by rw[mem_singleton.mp hm]at e;exact iJ _ (90 e)) (74 _ e)
def MR{Q:Value->Shared->Prop}(hh:A.handled=none)(hl:s.heap.IsTuple l (intItems xs))
 (h:∀h' tk t',(∀b o,s.heap.get? b=some o->h'.get? b=some o)->Q (.int (preSum (numAt xs) xs.size) t') { s with heap:=h',toks:=tk }):
 wpAny 92 A (call (.builtin "sum") [.ref l]) Q E s:=by
 refine call_sum_walkG (HJ hl λs₂ e st hfp hlI=>?_);subst e;refine⟨_,_,_,_,_,_,numAt xs,rfl,Walks.tuple (A:=A.in1) hh _ l hlI (intItems xs),st,hfp,(λ_ _=>intItems_at),λh' tk t' hk=>?_⟩;have:=h h' tk t' (Ku hk);simpa [intItems]using this
def N6{Q:Value->Shared->Prop}(hh:A.handled=none)(hl:s.heap.IsTuple l (intItems xs))(hne:0<xs.size)
 (h:∀v h' tk,(intItems xs)[argBest (λi j=>decide (numAt xs i>numAt xs j)) (xs.size-1)]?=some v->(∀b o,s.heap.get? b=some o->h'.get? b=some o)->Q v { s with heap:=h',toks:=tk }):
 wpAny 92 A (call (.builtin "max") [.ref l]) Q E s:=by
 refine call_max_walk (HJ hl λs₂ e st hfp hlI=>?_);subst e;refine⟨_,_,_,_,_,_,_,rfl,Walks.tuple (A:=A.in1) hh _ l hlI (intItems xs),st,hfp,by simpa [intItems]using hne,CmpOf.ints_gt (numAt xs) (λ_ _=>intItems_at),λv h' tk hP hk=>?_⟩;exact h v h' tk (by simpa [intItems]using hP) (Ku hk)
end
section
variable(K:Frag){X:Cx}
def VJ:List V->Hp->VK->Prop:=λxs H Q=>∃(a:Addr) (ns:List Int),xs=[.ref a]/\SqT K H a (ns.map V.int)/\Q (.int ns.sum) H
def Jw(hc:X.calm=true)(hK:X.K=K:=by rfl):CallR X (.builtin "sum") (VJ K):=by
 subst hK;intro pins s σ H xs us Q I r h;obtain⟨a,ns,rfl,hq,q⟩:=h;obtain⟨u,rfl,ru⟩:=C4 r;cases ru;obtain⟨its,rv,p,hz⟩:=I.tuple hq;have hi:=DZ rv;obtain⟨xs,hx⟩:=hi.allInts.items;have hl':s.heap.IsTuple a (intItems xs):=hx ▸ (show s.heap.IsTuple a 109 from p);refine MR (I.ok.hd hc) hl' λh' tk t' hk=>?_;have e1:ns=xs.toList.map (·.1):=by
  rw[<- jB,<- hx];exact(show numsOf its.toArray.toList=ns from hi.numsOf).symm
 have e2:preSum (numAt xs) xs.size=ns.sum:=by
  rw[preSum_eq,List.take_of_length_le 75,e1]
 rw[e2];exact⟨.int ns.sum,H,I.kept hk,⟨_,rfl⟩,q⟩
def VN:List V->Hp->VK->Prop:=λxs H Q=>∃(a:Addr) (ns:List Int),xs=[.ref a]/\SqT K H a (ns.map V.int)/\0<ns.length/\∀M:Int,M∈ns->(∀x∈ns,x<=M)->Q (.int M) H
def Jx(hc:X.calm=true)(hK:X.K=K:=by rfl):CallR X (.builtin "max") (VN K):=by
 subst hK;intro pins s σ H xs us Q I r h;obtain⟨a,ns,rfl,hq,hne,q⟩:=h;obtain⟨u,rfl,ru⟩:=C4 r;cases ru;obtain⟨its,rv,p,hz⟩:=I.tuple hq;have hi:=DZ rv;obtain⟨ys,e⟩:=hi.allInts.items;have hns:ns=ys.toList.map (·.1):=by
  rw[<- hi.numsOf,<- jB,<- e]
 have hsz:0<ys.size:=by
  have h3:=hne;rw[hns,hX,Array.length_toList]at h3;exact h3
 have hl:s.heap.IsTuple a (intItems ys):=e ▸ (show s.heap.IsTuple a 109 from p);refine N6 (I.ok.hd hc) hl hsz λv h' tk hv hk=>?_;obtain⟨t,rfl⟩:=intItems_at hv;obtain⟨h1,h2⟩:=argBest_gt (numAt ys) (ys.size-1);refine⟨.int _,H,I.kept hk,⟨t,rfl⟩,q _ ?_ λx hx=>?_⟩
 .rw[hns,numAt_eq];exact getD_mem (by rw[hX,Array.length_toList];omega)
 .rw[hns]at hx;obtain⟨j,hj,rfl⟩:=mem_getD hx;rw[hX,Array.length_toList]at hj;rw[<- numAt_eq];exact h2 j 67
end
structure DefAt(K:Frag)(mg:Str->Option Value)(x:Str)(st:Stmt)(f:Addr)(fd:FuncData)(ps:List Str):Prop where
 fn:Fun K x x st f fd
 mg:mg x=some (.ref f)
 bd:Binds K fd ps []
def VT{X:Cx}{j k:Nat}{f:Addr}{fd:FuncData}{ps:List Str}{sp:Sp}{x:Str}{st:Stmt}{e:Expr}{es:List Expr}{t:TA}{p pos:Pos}(F:FnOk X.prog X.w X.K X.mg X.base CX0 j f fd ps sp)(hr:Room k X.A)(D:DefAt X.K X.mg x st f fd ps)(ha:PA X (e::es) t)
 (hjk:j<=k:=by decide) (hg:Gl X x:=by rfl) (hdb:(x==("__debug__":Str))=false:=by decide) (he:starEach (e::es) X.env=88::starEach es X.env:=by rfl) (hpl:(backTo pos (starEach es X.env)).any (·.1)=false:=by rfl):
 PE X 113 (FU sp [] E0 t):=
 Xd (F.mono hjk) hr hg D.mg D.fn.kp D.bd .nil cL ha hdb he hpl
def P6:bootBuiltins "list"=some (.type "list"):=by decide +kernel
def bt_tuple:bootBuiltins "tuple"=some (.type "tuple"):=by decide +kernel
def bt_len:bootBuiltins "len"=some (.builtin "len"):=by decide +kernel
def bt_sum:bootBuiltins "sum"=some (.builtin "sum"):=by decide +kernel
def bt_min:bootBuiltins "min"=some (.builtin "min"):=by decide +kernel
def bt_max:bootBuiltins "max"=some (.builtin "max"):=by decide +kernel
def I0:bootBuiltins "sorted"=some (.builtin "sorted"):=by decide +kernel
def bt_all:bootBuiltins "all"=some (.builtin "all"):=by decide +kernel
def bt_any:bootBuiltins "any"=some (.builtin "any"):=by decide +kernel
def Lo:bootBuiltins "isinstance"=some (.builtin "isinstance"):=by decide +kernel
mutual
theorem Ii:∀ns:List Int,PyData.canLayAll0 (ns.map PyData.int)=true
 |[]=>by simp[PyData.canLayAll0]
 |n::ns=>by simp[PyData.canLayAll0,PyData.canLay0,Ii ns]
end
end L2
namespace L2
open PySem PySem.Spec PyProof.Rows PySem.W
def lCx(X:Cx)(A:Around)(N':List Str)(qual:Str)(scope:Scope)(f:Addr)(cd:Value)(cl:List (Str×Addr))(s:Shared)(H:Hp):Cx:=
 { X with N:=N',s₀:=s,H₀:=H,A:=A.deeper (envX qual scope s.heap.objs.size f cd cl),env:=envX qual scope s.heap.objs.size f cd cl,outer:=X.stack,stack:=envX qual scope s.heap.objs.size f cd cl::X.stack,ex:=[],fn:=λ_=>false,calm:=true,pn:=[],xe:=λ_ _=>False }
structure LSc(scope:Scope)(p:Str):Prop where
 nocell:(scope.names.all λy=>y.2 != .cell)=true
 par:scope.names.lookup p=some .local
 co:scope.isCoroutine=false
 gen:scope.isGenerator=false
section
variable{X:Cx}{scope:Scope}{fr:List Str}{ix:List Nat}{pins:List 78}{σ:St}{H:Hp}{s:Shared}{p:Str}
def LSc.ne(L:LSc scope p):∀y∈scope.names,y.2≠.cell:=λy hy e=>by
 have:=all_eq_true.mp L.nocell y hy;rw[e]at this
 revert this;decide
def Y9(S:CSc X scope fr ix)(L:LSc scope p)(I:Inv X pins σ H s){A:Around}(hf:A.frames=X.A.frames)(hh:A.handled=none){qual:Str}{f:Addr}{cd:Value}{h':Heap}{x:V}{u:Value}{t':Nat}
 (hk:∀b o,s.heap.get? b=some o->h'.get? b=some o) (hn:h'.Ns 66 λy=>if y=p then some u else none) (r:RelV x u):
 Inv (lCx X A (p::fr) qual scope f cd 86 s H) [] (some x::ix.map λi=>(σ[i]?).join) H { s with heap:=h',toks:=t' }:=by
 have lenix:fr.length=ix.length:=by simpa using iw List.length S.ixs
 have co:∀x c,(86).lookup x=some c->X.env.cells.lookup x=some c:=λx c e=>Dv (S.clos I.ok) (λ_ _ z=>by simp at z) x c e;refine⟨⟨I.ok.mod,S.kind,rfl,rfl,gm _,?_,?_,?_,λ_=>hh,Around.frames_deeper (hf.trans I.ok.frames),.inr ⟨rfl,rfl⟩,?_,I.bs,ia I.ok.bsz I.sz,?_,?_,I.stack,I.stkFree⟩,rfl,I.bare,Un.kept hk,⟨_,hn,?_⟩,?_,I.hok.fresh (gm _),?_,?_,I.hok.kept hk,?_⟩
 .intro x y c e1 e2;exact I.ok.inj x y c (co x c e1) (co y c e2)
 .intro x hx;rcases hx with e|e
  .exact absurd rfl (L.ne (x,.cell) (PySem.mem_of_lookup e))
  .exact isSome_iff_exists.mp (D2 (.inr (PySem.mem_of_lookup e)))
 .intro x c hf;cases hf
 .intro b hb;cases hb
 .intro b o e hb;cases hb
 .intro b hb;cases hb
 .intro i y v e1 e2 e3;cases i with
  |zero=>
   have e1:some p=some y:=e1;have e2:some (some x)=some (some v):=e2;cases e1;cases e2;exact⟨u,r,.inl ⟨L.par,gi rfl⟩⟩
  |succ j=>
   have e1:fr[j]?=some y:=e1;have e2:(ix.map λi=>(σ[i]?).join)[j]?=some (some v):=e2;rw[List.getElem?_map]at e2;have e4:(fr.map some)[j]?=some (some y):=by rw[List.getElem?_map,e1];rfl
   rw[S.ixs,List.getElem?_map]at e4;cases q:ix[j]? with
   |none=>rw[q]at e2;cases e2
   |some k=>
    rw[q]at e2 e4;have e2:(σ[k]?).join=some v:=114 e2;have e4:X.N[k]?=some y:=114 e4;have e5:σ[k]?=some (some v):=by
     cases w:σ[k]? with
     |none=>rw[w]at e2;cases e2
     |some z=>rw[w]at e2;simpa using e2
    have hfx:=all_eq_true.mp S.frs y (ig e1);have hfx:scope.names.lookup y=some .free:=by simpa using hfx
    have hmem:=PySem.mem_of_lookup hfx;have hout:=S.outer hmem rfl;obtain⟨m,hm,hl⟩:=I.loc;obtain⟨u',r',l⟩:=hl k y v e4 e5 (.inr hout);refine⟨u',r',.inr ⟨.inr hfx,?_⟩⟩;rcases l with⟨kk,_⟩|⟨kk,c,ec,z⟩
    .rcases hout with w|w
     .rw[kk]at w;cases w
     .rw[kk]at w;cases w
    .obtain⟨d,hd⟩:=isSome_iff_exists.mp (D2 (cells:=X.env.cells) (acc:=[]) (.inr hmem));have:=co y d hd;rw[ec]at this;cases this;exact⟨c,hd,z.keeps hk⟩
 .intro x c e;obtain⟨v,z⟩:=I.cell x c (co x c e);exact⟨v,z.keeps hk⟩
 .intro x c e;exact I.freeC x c (co x c e)
 .intro p hp;cases hp
 .show(_::_:List (Option V)).length=(p::fr).length;simp[lenix]
def Iz(S:CSc X scope fr ix)(L:LSc scope p)(I:Inv X pins σ H s){A:Around}(hf:A.frames=X.A.frames)(hr:Room 1 A){qual:Str}{f:Addr}{cd ctv pm:Value}{params:Arguments}{body:Expr}{x:V}{u:Value}{tb:TE}{Q:VK}
 (ho:s.heap.get? f=some { cls:=.type "function",data:=.func (kla_fn "<lambda>" qual params body scope 86 pm cd ctv) }) (hcd:s.heap.CodeRec cd qual)
 (hb:∀us:Value,bindArgs (kla_fn "<lambda>" qual params body scope 86 pm cd ctv) ⟨[us],[]⟩=pure [(p,us)])
 (he:∀(s:Shared) (H:Hp),PE (lCx X A (p::fr) qual scope f cd 86 s H) body tb) (r:RelV x u) (h:tb (some x::ix.map λi=>(σ[i]?).join) H Q):
 wpAny 69 A (call (.ref f) [u]) (EP X pins σ Q) (λ_ _=>False) s:=by
 refine wpAny_call (jb (R:=λres s'=>match res with|.ok (.ret u)=>EP X pins σ Q u s'|_=>False) (kla_callFunE hr.depth ho rfl L.co L.gen rfl hcd ?_) ?_)
 .rw[hb];refine gn ?_;refine wpAny_newFunctionEnv L.ne (λy hy=>by rw[i4]at hy;subst hy;exact L.par) (λh' hns hsb=>⟨?_,?_⟩) S.kind
  .have hk:∀b o,s.heap.get? b=some o->h'.get? b=some o:=λb o e=>(hsb.2 b (gV (90 e))).trans (74 _ e);exact I.nolimit.keeps hk
  .have hk:∀b o,s.heap.get? b=some o->h'.get? b=some o:=λb o e=>(hsb.2 b (gV (90 e))).trans (74 _ e);have hns':h'.Ns 66 λy=>if y=p then some u else none:=by
    have e:(λy=>([(p,u)]:List (Str×Value)).reverse.lookup y)=λy=>if y=p then some u else none:=by
     funext y
     simp only[List.reverse_cons,List.reverse_nil,List.nil_append,i7,List.lookup_nil];by_cases hy:y=p
     .subst hy;simp
     .have hb':(y==p)=false:=beq_eq_false_iff_ne.mpr hy;simp[hb',hy]
    rw[<- e];exact hns
   have J:=Y9 (t':=s.toks+1) (qual:=qual) (f:=f) (cd:=cd) S L I hf hr.hd hk hns' r;refine kla_codeExpr (hZ (he s H [] _ _ H Q J h) (λv s' hv=>?_) λ_ _ z=>z.elim);obtain⟨y,H',J',ry,q⟩:=hv;obtain⟨hh,g,d,t,os'⟩:=s';obtain rfl:os'=s.os:=J'.os;exact⟨y,H',I.call (h':=hh) (g':=g) (d':=d) (t':=t) (ch:=[]) J'.base J'.hok J'.bare (λb z=>absurd z 75),ry,q⟩
 .intro res s' hq;cases res with
  |error e=>exact hq
  |ok fl=>
   cases fl with
   |ret u=>exact hq
   |next=>exact hq
   |brk=>exact hq
   |cont=>exact hq
end
def cdF(c:Addr)(q:Str):Heap->Prop:=λh=>h.CodeRec (.ref c) q
def D4(H:Hp)(q:Str)(pos:Pos)(ps:Array Value):Prop:=ps=#[]∨∃c,ps=#[rawInt pos.line,rawInt pos.col,.ref c]/\H c=some (.ext (cdF c q))
def TabStep(P:Addr)(q:Str)(pos:Pos)(H H':Hp):Prop:=H'=H∨∃c,H c=none/\c≠P/\H'=upd (upd H P (.tbl #[rawInt pos.line,rawInt pos.col,.ref c])) c (.ext (cdF c q))
structure LamAt(X:Cx)(c P:Addr):Prop where
 code:X.env.code=.ref c
 hd:CodeHd X.base c P
 bl:X.base.BuiltinsAt X.mg P
section
variable{X:Cx}{pins:List 78}{σ:St}{H:Hp}{s:Shared}{c P:Addr}{scope:Scope}{fr:List Str}{ix:List Nat}
def Y7(I:Inv X pins σ H s){q:Str}{ps:Array Value}{ps':Array Value}(hP:H P=some (.tbl ps)){c':Addr}{h':Heap}{t':Nat}(hx:∀b o,b≠P->s.heap.get? b=some o->h'.get? b=some o)(hc:66<=c')
 (hrec:h'.CodeRec (.ref c') q) (htb:h'.get? P=some (tabObj (ps++ps'))):Inv X pins σ (upd (upd H P (.tbl (ps++ps'))) c' (.ext (cdF c' q))) { s with heap:=h',toks:=t' }:=by
 have hcn:H c'=none:=I.hok.fresh hc;have hPc:P≠c':=AU hP hcn;have nP:∀b,H b=none->b≠P:=λb n z=>by subst z;rw[hP]at n;cases n
 have other:∀b,b≠P->b≠c'->upd (upd H P (.tbl (ps++ps'))) c' (.ext (cdF c' q)) b=H b:=λb h1 h2=>by rw[AD h2,AD h1]
 have ne':∀b u,H b=some u->b≠c':=λb u e=>AU e hcn;refine I.un (h':=h') (t':=t') ⟨λb o e n _ _=>hx b o (nP b n) e,λb o e n _ _=>⟨o.slots,hx b o (nP b n) e⟩,λb o e n _=>?_,λb o e _=>?_,λb xs e=>?_,λb o u e=>?_,λb qs e=>?_⟩ λb u e=>?_
 .rw[other b (nP b n) (gV (ie (Heap.lt_size e) hc))];exact n
 .by_cases z:b=P
  .subst z;exact⟨_,htb⟩
  .exact⟨o,hx b o z e⟩
 .rw[other b (λz=>by subst z;rw[hP]at e;cases e) (ne' b _ e)];exact e
 .rw[other b (λz=>by subst z;rw[hP]at e;cases e) (ne' b _ e)];exact e
 .by_cases z:b=P
  .subst z;rw[hP]at e;cases e;exact⟨ps',by rw[AD hPc,AN]⟩
  .exact⟨#[],by rw[other b z (ne' b _ e),e];simp⟩
 .by_cases z:b=c'
  .subst z;rw[AN]at e;cases e;obtain⟨c0,o,vs,t,e0,r⟩:=id hrec;cases e0;refine⟨hrec,⟨o,r.1⟩,λh1 h2 q1 k=>?_⟩;obtain⟨c1,o1,vs1,t1,e1,g1,r1⟩:=q1;cases e1;exact⟨_,o1,vs1,t1,rfl,k _ g1,r1⟩
  .by_cases z2:b=P
   .subst z2;rw[AD hPc,AN]at e;cases e;exact htb
   .rw[other b z2 z]at e;refine(I.hok b u e).stay (λd v hd q=>hx d v ?_ q) (λd q=>?_) λd xs q=>?_
    .rcases hd with rfl|hd
     .exact z2
     .intro y;subst y;rw[hP]at hd;cases hd
    .rw[other d (λy=>by subst y;rw[hP]at q;cases q) (ne' d _ q)];exact q
    .rw[other d (λy=>by subst y;rw[hP]at q;cases q) (ne' d _ q)];exact q
structure Made(X:Cx)(scope:Scope)(params:Arguments)(body:Expr)(P:Addr)(q:Str)(pos:Pos)(s:Shared)(H H':Hp)(f:Addr)(cd ctv:Value)(s':Shared):Prop where
 fn:s'.heap.get? f=some { cls:=.type "function",data:=.func (kla_fn "<lambda>" q params body scope 86 ((X.mg "__name__").getD .none) cd ctv) }
 cdc:∃c,cd=.ref c/\H' c=some (.ext (cdF c q))
 step:TabStep P q pos H H'
 new:66<=f
 fre:H' f=none
def Gb(S:CSc X scope fr ix)(LA:LamAt X c P)(I:Inv X pins σ H s){A:Around}{E:Value->Shared->Prop}{params:Arguments}{body:Expr}{pos:Pos}{ps:Array Value}{Q:Value->Shared->Prop}(hdef:defaultsOf params X.env=([],[]))
 (hP:H P=some (.tbl ps)) (hg:D4 H 73 pos ps)
 (h:∀f cd ctv H' s',Inv X pins σ H' s'->Made X scope params body P 73 pos s H H' f cd ctv s'->Q (.ref f) s'):
 wpAny 69 A (eval (.Lambda params body scope pos) X.env) Q E s:=by
 have hcl:closureFor scope X.env=pure 86:=Em (S.clos I.ok);have hns:=I.mod.glob.keeps I.bk;have hb:=LA.bl.keeps I.bk;have hcd:=LA.hd.keeps I.bk;have hobj:s.heap.get? P=some (tabObj ps):=I.hok P _ hP;have hgP:mainGlobals≠P:=λz=>by
  obtain⟨o,es,ep,e,hd,_⟩:=hns;rw[z,hobj]at e;cases e;cases hd
 refine kla_eval hdef ?_;rcases hg with rfl|⟨c',rfl,hc'⟩
 .refine kla_makeFunction hcl I.ok.glob hns LA.code hcd hobj trivial rfl hgP hb λc' ctv h' tk hx hge hlt hrec htb=>?_;have hx':∀b o,b≠P->s.heap.get? b=some o->(h'.push (kla_obj "<lambda>" 73 params body scope 86 ((X.mg "__name__").getD .none) c' ctv)).get? b=some o:=λb o n e=>74 _ (hx b o n e);have J:=Y7 (t':=tk) I hP hx' hge (hrec.push _) (74 _ htb);refine h _ _ ctv _ _ J ⟨87 _ rfl,⟨c',rfl,AN⟩,.inr ⟨c',I.hok.fresh hge,(AU hP (I.hok.fresh hge)).symm,?_⟩,?_,?_⟩
  .simp
  .exact ia hge (iS hlt)
  .have hs:66<=h'.objs.size:=ia hge (iS hlt);rw[AD (iC hlt),AD (iC (ie (Heap.lt_size hobj) hs))];exact I.hok.fresh hs
 .have hrec:s.heap.CodeRec (.ref c') 73:=(I.hok c' _ hc').1;have hf:codeAmong pos (#[rawInt pos.line,rawInt pos.col,Value.ref c']:Array Value).toList=some (.ref c'):=by simp[codeAmong,rawInt]
  refine kla_makeFunctionHit hcl I.ok.glob hns LA.code hcd hobj (by simp[TriplesOk,rawInt]) hf hb λctv h' tk hk hsz=>?_;have hk':∀b o,s.heap.get? b=some o->(h'.push { cls:=.type "function",data:=.func (kla_fn "<lambda>" 73 params body scope 86 ((X.mg "__name__").getD .none) (.ref c') ctv) }).get? b=some o:=λb o e=>74 _ (hk b o e);exact h _ _ ctv _ _ (I.kept (t':=tk) hk') ⟨87 _ rfl,⟨c',rfl,hc'⟩,.inl rfl,hsz,I.hok.fresh hsz⟩
end
end L2
namespace L2
open PySem PySem.Spec PyProof.Rows
def Exo(h:Heap)(a C:Addr)(dx:Option Addr)(tb:Value):Prop:=∃vs sl,h.get? a=some ⟨.ref C,dx,.fields vs,sl⟩/\vs[1]?=some tb
structure Note(fs:List Addr)(a:Addr)(tb:Value)(h h':Heap):Prop where
 keep:∀b o,h.get? b=some o->b≠a->.ref b≠tb->b∉fs->h'.get? b=some o
 slot:∀b o,h.get? b=some o->b∈fs->∃sl,h'.get? b=some { o with slots:=sl }
 there:∀b o,h.get? b=some o->∃o',h'.get? b=some o'
end L2
namespace L2
open PySem PySem.Spec PyProof.Rows
open Builtin Builtin.ObjectAttr
def XO(a C:Addr)(dx:Option Addr)(h:Heap):Prop:=∃tb,Exo h a C dx tb
def XdAt(H:Hp):Option Addr->List (Str×V)->Prop
 |none,fs=>fs=[]
 |some d,fs=>H d=some (.xd fs)
end L2
namespace L2
open PySem PySem.Spec PyProof.Rows
def XdAt.grow{H H':Hp}{dx:Option Addr}{fs:List (Str×V)}(g:Grow H H')(h:XdAt H dx fs):XdAt H' dx fs:=by
 cases dx with
 |none=>exact h
 |some d=>exact g.keep _ _ trivial h
def ExR(K:Frag)(nm:Str)(fs:List Str)(H:Hp)(a:Addr)(xs:List V):Prop:=∃C dx,cz K nm=some C/\H a=some (.ext (XO a C dx))/\XdAt H dx (fs.zip xs)/\96=fs.length
theorem ExR.grow{K:Frag}{nm:Str}{fs:List Str}{H H':Hp}{a:Addr}{xs:List V}(g:Grow H H')(h:ExR K nm fs H a xs):ExR K nm fs H' a xs:=
 let ⟨C,dx,h1,h2,h3,h4⟩:=h;⟨C,dx,h1,g.keep _ _ trivial h2,h3.grow g,h4⟩
end L2
namespace L2
open PySem PySem.Spec PyProof.Rows PySem.W
structure SndOk(q:Str)(params:Arguments)(scope:Scope)(body:Expr)(p1 p2:Str):Prop where
 ne:p1≠p2
 l1:LSc scope p1
 l2:LSc scope p2
 nofree:(scope.names.all λy=>y.2 != .free)=true
 kind:scope.kind=.function
 d1:(p2==("__debug__":Str))=false
 d2:(p2==("__classdict__":Str))=false
 bind:∀(cl:List (Str×Addr)) (pm cd ctv u v:Value),bindArgs (kla_fn "<lambda>" q params body scope cl pm cd ctv) ⟨[u,v],[]⟩=pure [(p1,u),(p2,v)]
def fnF(f c:Addr)(q:Str):Heap->Prop:=λh=>∃params scope p1 p2 pos pm ctv,h.get? f=some { cls:=.type "function",data:=.func (kla_fn "<lambda>" q params (.Name p2 pos) scope [] pm (.ref c) ctv) }/\SndOk q params scope (.Name p2 pos) p1 p2
def FvR(k:Nat)(H:Hp)(a:Addr)(xs:List V):Prop:=k=0/\xs=[]/\∃c q,H a=some (.ext (fnF a c q))/\H c=some (.ext (cdF c q))
def FvR.grow{k:Nat}{H H':Hp}{a:Addr}{xs:List V}(g:Grow H H')(h:FvR k H a xs):FvR k H' a xs:=
 let ⟨h1,h2,c,q,h3,h4⟩:=h;⟨h1,h2,c,q,g.keep _ _ trivial h3,g.keep _ _ trivial h4⟩
section
variable{X:Cx}{scope:Scope}{pins:List 78}{σ:St}{H:Hp}{s:Shared}{p1 p2:Str}
def Y8{q:Str}{params:Arguments}{body:Expr}(S:SndOk q params scope body p1 p2)(I:Inv X pins σ H s){A:Around}(hf:A.frames=X.A.frames)(hh:A.handled=none){qual:Str}{f:Addr}{cd:Value}{h':Heap}{x y:V}{u v:Value}{t':Nat}
 (hk:∀b o,s.heap.get? b=some o->h'.get? b=some o) (hn:h'.Ns 66 λz=>([(p1,u),(p2,v)]:List (Str×Value)).reverse.lookup z) (r:RelV x u) (r2:RelV y v):
 Inv (lCx X A [p1,p2] qual scope f cd [] s H) [] [some x,some y] H { s with heap:=h',toks:=t' }:=by
 refine⟨⟨I.ok.mod,S.kind,rfl,rfl,gm _,?_,?_,?_,λ_=>hh,Around.frames_deeper (hf.trans I.ok.frames),.inr ⟨rfl,rfl⟩,?_,I.bs,ia I.ok.bsz I.sz,?_,?_,I.stack,I.stkFree⟩,rfl,I.bare,Un.kept hk,⟨_,hn,?_⟩,?_,I.hok.fresh (gm _),?_,?_,I.hok.kept hk,?_⟩
 .intro x y c e1 e2;cases e1
 .intro x hx;rcases hx with e|e
  .exact absurd rfl (S.l1.ne (x,.cell) (PySem.mem_of_lookup e))
  .have:=all_eq_true.mp S.nofree _ (PySem.mem_of_lookup e)
   revert this;simp
 .intro x c hf;cases hf
 .intro b hb;cases hb
 .intro b o e hb;cases hb
 .intro b hb;cases hb
 .intro i z w e1 e2 e3
  match i,e1,e2 with
  |0,e1,e2=>
   have e1:some p1=some z:=e1;have e2:some (some x)=some (some w):=e2;cases e1;cases e2;refine⟨u,r,.inl ⟨S.l1.par,?_⟩⟩;have hb:(p1==p2)=false:=beq_eq_false_iff_ne.mpr S.ne;simp[i7,hb]
  |1,e1,e2=>
   have e1:some p2=some z:=e1;have e2:some (some y)=some (some w):=e2;cases e1;cases e2;exact⟨v,r2,.inl ⟨S.l2.par,by simp[i7]⟩⟩
  |i+2,e1,e2=>cases e1
 .intro x c e;cases e
 .intro x c e;cases e
 .intro p hp;cases hp
 .rfl
def TX(I:Inv X pins σ H s){A:Around}(hf:A.frames=X.A.frames)(hr:Room 1 A){f c:Addr}{q:Str}{x y:V}{u v:Value}{Q:VK}(ho:H f=some (.ext (fnF f c q)))(hc:H c=some (.ext (cdF c q)))(rx:RelV x u)(ry:RelV y v)(h:Q y H):
 wpAny 69 A (call (.ref f) [u,v]) (EP X pins σ Q) (λ_ _=>False) s:=by
 obtain⟨params,scope,p1,p2,pos,pm,ctv,ho',S⟩:=(I.hok f _ ho).1;have hcd:s.heap.CodeRec (.ref c) q:=(I.hok c _ hc).1;have he:∀(s:Shared) (H:Hp),PE (lCx X A [p1,p2] q scope f (.ref c) [] s H) (.Name p2 pos) (PP 1):=λs H=>Ro rfl (.inl S.l2.par) S.d1 S.d2;refine wpAny_call (jb (R:=λres s'=>match res with|.ok (.ret u)=>EP X pins σ Q u s'|_=>False) (kla_callFunE hr.depth ho' rfl S.l1.co S.l1.gen rfl hcd ?_) ?_)
 .rw[S.bind];refine gn ?_;refine wpAny_newFunctionEnv S.l1.ne (λy hy=>?_) (λh' hns hsb=>⟨?_,?_⟩) S.kind
  .rcases mem_cons.mp hy with rfl|hy
   .exact S.l1.par
   .rw[i4]at hy;subst hy;exact S.l2.par
  .have hk:∀b o,s.heap.get? b=some o->h'.get? b=some o:=λb o e=>(hsb.2 b (gV (90 e))).trans (74 _ e);exact I.nolimit.keeps hk
  .have hk:∀b o,s.heap.get? b=some o->h'.get? b=some o:=λb o e=>(hsb.2 b (gV (90 e))).trans (74 _ e);have J:=Y8 (t':=s.toks+[(p1,u),(p2,v)].length) (qual:=q) (f:=f) (cd:=.ref c) S I hf hr.hd hk hns rx ry;refine kla_codeExpr (hZ (he s H [] _ [some x,some y] H Q J ⟨y,rfl,h⟩) (λv s' hv=>?_) λ_ _ z=>z.elim);obtain⟨y,H',J',ry,q⟩:=hv;obtain⟨hh,g,d,t,os'⟩:=s';obtain rfl:os'=s.os:=J'.os;exact⟨y,H',I.call (h':=hh) (g':=g) (d':=d) (t':=t) (ch:=[]) J'.base J'.hok J'.bare (λb z=>absurd z 75),ry,q⟩
 .intro res s' hq;cases res with
  |error e=>exact hq
  |ok fl=>
   cases fl with
   |ret u=>exact hq
   |next=>exact hq
   |brk=>exact hq
   |cont=>exact hq
end
end L2
namespace L2
open PySem PySem.Spec PyProof.Rows
inductive I where
 |non|bl (b:Bool)|int (i:Int)|str (x:Str)|tup (ds:List I)
inductive D where
 |im (i:I)|mu (n:Nat)|tm (ds:List D)|ro (ns:List Int)|op (nm:Str) (fs:List Str) (ds:List D)|fv (k:Nat) (ds:List D)
inductive MO where
 |lst (ds:List D)|dic (kvs:List (Key×D))
abbrev Hd:=List MO
abbrev Ls:=List (Option D)
def RoL(K:Frag)(H:Hp)(a:Addr)(xs:List V):Prop:=(∃o,H a=some (.frz o (.lst xs))) ∨
 ∃(o:Obj) (its:Array Value) (n:Nat),K.lookup a=some o/\o.cls=.type "list"/\o.dict=none/\o.data=.seq its n/\its.size<=sizeLine/\Vals xs its.toList
def RoL.sq{K:Frag}{H:Hp}{a:Addr}{xs:List V}(h:RoL K H a xs):SqL K H a xs:=by
 rcases h with⟨o,h⟩|h
 .exact .inl (.inr ⟨o,h⟩)
 .exact .inr h
def RoL.grow{K:Frag}{H H':Hp}{a:Addr}{xs:List V}(g:Grow H H')(h:RoL K H a xs):RoL K H' a xs:=by
 rcases h with⟨o,h⟩|h
 .exact .inl ⟨o,g.frz _ _ _ h⟩
 .exact .inr h
def CH(n:Nat):Prop:=n<=sizeLine
def Go(n:Nat):Prop:=n<sizeLine
def Fa(i j:Int):Prop:=(-(2^64)<i/\i<2^64)∨(-(2^64)<j/\j<2^64)
def Q2(i j:Int):Prop:=0<=j/\j<=1000000/\i.natAbs<2^64
def Jt(j:Int):Prop:=0<j/\j<1073741824
def DH(j:Int):Prop:=0<j
def Hi(j:Int):Prop:=-(2^62)<=j/\j<2^62
def Th(i j:Int):Prop:=(-(2^62)<=i/\i<2^62)/\-(2^62)<=j/\j<2^62
def M3(j:Int):Prop:=j<2^24/\-(2^62)<=j
def VF(i j:Int):Prop:=(-(2^62)<=i/\i<2^62)/\(-(2^62)<=j/\j<2^62)/\(j-i).toNat<=2^24
def AS{n:Nat}(h:n<=1000000):CH n:=ia h (by rw[iA];decide)
def Cq{n:Nat}(h:n<1000000):Go n:=ie h (by rw[iA];decide)
def D0{i j:Int}(a:-1000000000000<=i)(b:i<=1000000000000):Fa i j:=.inl ⟨by omega,by omega⟩
def E3{j:Int}(a:-1000000000000<=j)(b:j<=1000000000000):Hi j:=⟨by omega,by omega⟩
def Tg{j:Int}(a:-1000000000000<=j)(b:j<=1000000):M3 j:=⟨by omega,by omega⟩
section
variable(K:Frag)
mutual
def RI(H:Hp):I->V->Prop
 |.non,v=>v=.non
 |.bl b,v=>v=.bl b
 |.int i,v=>v=.int i
 |.str x,v=>v=.str x
 |.tup ds,v=>∃a xs,v=.ref a/\SqT K H a xs/\RIs H ds xs
def RIs(H:Hp):List I->List V->Prop
 |[],xs=>xs=[]
 |d::ds,xs=>∃x r,xs=x::r/\RI H d x/\RIs H ds r
end
mutual
def RD(ρ:List Addr)(H:Hp):D->V->Prop
 |.im i,v=>RI K H i v
 |.mu n,v=>∃a,ρ[n]?=some a/\v=.ref a
 |.tm ds,v=>∃a xs,v=.ref a/\SqT K H a xs/\RDs ρ H ds xs
 |.ro ns,v=>∃a,v=.ref a/\RoL K H a (ns.map V.int)
 |.op nm fs ds,v=>∃a xs,v=.ref a/\ExR K nm fs H a xs/\RDs ρ H ds xs
 |.fv k ds,v=>∃a xs,v=.ref a/\FvR k H a xs/\RDs ρ H ds xs
def RDs(ρ:List Addr)(H:Hp):List D->List V->Prop
 |[],xs=>xs=[]
 |d::ds,xs=>∃x r,xs=x::r/\RD ρ H d x/\RDs ρ H ds r
end
def RKs(ρ:List Addr)(H:Hp):List (Key×D)->List (Key×V)->Prop
 |[],xs=>xs=[]
 |d::ds,xs=>∃x r,xs=x::r/\x.1=d.1/\RD K ρ H d.2 x.2/\RKs ρ H ds r
def RC(ρ:List Addr)(H:Hp):MO->HO->Prop
 |.lst ds,o=>∃xs,o=.lst xs/\RDs K ρ H ds xs
 |.dic kvs,o=>∃kv,o=.dK kv/\RKs K ρ H kvs kv
def Lv:List Value->List (Addr×Str×Pos)
 |.ref P::.str q _::.int l _::.int c _::r=>(P,q,⟨l.toNat,c.toNat,0,0⟩)::Lv r
 |_=>[]
def ba(o:Obj):List (Addr×Str×Pos):=match o.cls,o.data with
 |.str _ _,.fields vs=>Lv vs.toList
 |_,_=>[]
def Ck(K:Frag):List (Addr×Str×Pos):=match K.getLast? with
 |some p=>ba p.2
 |none=>[]
def TabsOk(K:Frag)(H:Hp):Prop:=∀x∈Ck K,∃ps,H x.1=some (.tbl ps)/\D4 H x.2.1 x.2.2 ps
structure RH(ρ:List Addr)(H:Hp)(hd:Hd):Prop where
 len:ρ.length=hd.length
 nd:ρ.Nodup
 tabs:TabsOk K H
 ob:∀(n:Nat) (o:MO) (a:Addr),hd[n]?=some o->ρ[n]?=some a->∃ho,H a=some ho/\RC K ρ H o ho
structure RL(ρ:List Addr)(H:Hp)(ls:Ls)(σ:St):Prop where
 len:ls.length=σ.length
 ob:∀(i:Nat) (d:D),ls[i]?=some (some d)->∃v,σ[i]?=some (some v)/\RD K ρ H d v
end
structure Ext(ρ:List Addr)(H:Hp)(ρ':List Addr)(H':Hp):Prop where
 pre:∃r,ρ'=ρ++r/\∀b∈r,H b=none
 keep:∀b o,H b=some o->b∉ρ->(∀ps,o≠.tbl ps)->H' b=some o
 tab:∀b ps,H b=some (.tbl ps)->∃ps',H' b=some (.tbl ps')
def nt{o:HO}(h:match o with|.tbl _=>False|_=>True:=by trivial):∀ps,o≠.tbl ps:=λps e=>by subst e;exact h
theorem TabsOk.upd{K:Frag}{H:Hp}(t:TabsOk K H){a:Addr}{ho:HO}(h1:∀ps,H a≠some (.tbl ps))(h2:∀φ,H a≠some (.ext φ)):TabsOk K (upd H a ho):=λx hx=>by
 obtain⟨ps,e,g⟩:=t x hx;have ne:x.1≠a:=λz=>h1 ps (by rw[<- z];exact e);refine⟨ps,by rw[AD ne];exact e,?_⟩;rcases g with g|⟨c,g1,g2⟩
 .exact .inl g
 .have nc:c≠a:=λz=>h2 _ (by rw[<- z];exact g2);exact .inr ⟨c,g1,by rw[AD nc];exact g2⟩
section
variable{K:Frag}{ρ ρ' ρ1 ρ2:List Addr}{H H' H1 H2:Hp}{hd hd' hd1:Hd}
mutual
theorem RI.grow(g:Grow H H'):∀{i:I} {v:V},RI K H i v->RI K H' i v
 |.non,v,h=>by simpa only[RI]using h
 |.bl b,v,h=>by simpa only[RI]using h
 |.int b,v,h=>by simpa only[RI]using h
 |.str b,v,h=>by simpa only[RI]using h
 |.tup ds,v,h=>by
  simp only[RI]at h ⊢;obtain⟨a,xs,e,q,r⟩:=h;exact⟨a,xs,e,g.sq q,RIs.grow g r⟩
theorem RIs.grow(g:Grow H H'):∀{i:List I} {v:List V},RIs K H i v->RIs K H' i v
 |[],v,h=>by simpa only[RIs]using h
 |d::ds,v,h=>by
  simp only[RIs]at h ⊢;obtain⟨x,r,e,q,z⟩:=h;exact⟨x,r,e,q.grow g,RIs.grow g z⟩
end
def RH.mut(h:RH K ρ H hd){a:Addr}(m:a∈ρ):(∃xs,H a=some (.lst xs))∨∃kv,H a=some (.dK kv):=by
 obtain⟨n,e⟩:=mem_iff_getElem?.mp m;have hn:n<hd.length:=by rw[<- h.len];exact(84 e).1
 obtain⟨ho,e1,e2⟩:=h.ob n hd[n] a (by simp[hn]) e;cases q:hd[n]with
 |lst ds=>rw[q]at e2;obtain⟨xs,rfl,_⟩:=e2;exact .inl ⟨xs,e1⟩
 |dic ds=>rw[q]at e2;obtain⟨xs,rfl,_⟩:=e2;exact .inr ⟨xs,e1⟩
def RH.stb_out(h:RH K ρ H hd){a:Addr}{o:HO}(s:Stb o)(e:H a=some o):a∉ρ:=λm=>by
 rcases h.mut m with⟨y,z⟩|⟨y,z⟩<;>(rw[e]at z;cases z;exact s)
def Yi{o:HO}(s:Stb o):∀ps,o≠.tbl ps:=λps e=>by subst e;exact s
def Ext.grow(e:Ext ρ H ρ' H')(h:RH K ρ H hd):Grow H H':=⟨λb o s q=>e.keep b _ q (h.stb_out s q) (Yi s)⟩
def Ext.refl:Ext ρ H ρ H:=⟨⟨[],by simp,by simp⟩,λ_ _ h _ _=>h,λ_ ps h=>⟨ps,h⟩⟩
def Ext.trans(e:Ext ρ H ρ1 H1)(h0:RH K ρ1 H1 hd1)(e2:Ext ρ1 H1 ρ2 H2):Ext ρ H ρ2 H2:=by
 obtain⟨r1,rfl,f1⟩:=e.pre;obtain⟨r2,rfl,f2⟩:=e2.pre;refine⟨⟨r1++r2,by simp,λb m=>?_⟩,λb o q n t=>?_,λb ps q=>?_⟩
 .rcases mem_append.mp m with m|m
  .exact f1 b m
  .have z:=f2 b m;cases q:H b with
   |none=>rfl
   |some o=>
    by_cases n:b∈ρ
    .rcases h0.mut (iE r1 n)with⟨y,w⟩|⟨y,w⟩<;>(rw[z]at w;cases w)
    .by_cases t:∃ps,o=.tbl ps
     .obtain⟨ps,rfl⟩:=t;obtain⟨ps',this⟩:=e.tab b ps q;rw[z]at this;cases this
     .have:=e.keep b o q n λps y=>t ⟨ps,y⟩;rw[z]at this;cases this
 .refine e2.keep b o (e.keep b o q n t) (λm=>?_) t;rcases mem_append.mp m with m|m
  .exact n m
  .have:=f1 b m;rw[q]at this;cases this
 .obtain⟨ps',q'⟩:=e.tab b ps q;exact e2.tab b ps' q'
mutual
theorem RD.mono(g:Grow H H')(r:List Addr):∀{d:D} {v:V},RD K ρ H d v->RD K (ρ++r) H' d v
 |.im i,v,h=>by simp only[RD]at h ⊢;exact h.grow g
 |.mu n,v,h=>by
  simp only[RD]at h ⊢;obtain⟨a,e,q⟩:=h;exact⟨a,by rw[List.getElem?_append_left (List.getElem?_eq_some_iff.mp e).1];exact e,q⟩
 |.tm ds,v,h=>by
  simp only[RD]at h ⊢;obtain⟨a,xs,e,q,z⟩:=h;exact⟨a,xs,e,g.sq q,RDs.mono g r z⟩
 |.ro ns,v,h=>by
  simp only[RD]at h ⊢;obtain⟨a,e,q⟩:=h;exact⟨a,e,q.grow g⟩
 |.op nm fs ds,v,h=>by
  simp only[RD]at h ⊢;obtain⟨a,xs,e,q,z⟩:=h;exact⟨a,xs,e,q.grow g,RDs.mono g r z⟩
 |.fv k ds,v,h=>by
  simp only[RD]at h ⊢;obtain⟨a,xs,e,q,z⟩:=h;exact⟨a,xs,e,q.grow g,RDs.mono g r z⟩
theorem RDs.mono(g:Grow H H')(r:List Addr):∀{d:List D} {v:List V},RDs K ρ H d v->RDs K (ρ++r) H' d v
 |[],v,h=>by simpa only[RDs]using h
 |d::ds,v,h=>by
  simp only[RDs]at h ⊢;obtain⟨x,r',e,q,z⟩:=h;exact⟨x,r',e,q.mono g r,RDs.mono g r z⟩
end
theorem RKs.mono(g:Grow H H')(r:List Addr):∀{d:List (Key×D)} {v:List (Key×V)},RKs K ρ H d v->RKs K (ρ++r) H' d v
 |[],v,h=>by simpa only[RKs]using h
 |d::ds,v,h=>by
  simp only[RKs]at h ⊢;obtain⟨x,r',e,q1,q,z⟩:=h;exact⟨x,r',e,q1,q.mono g r,RKs.mono g r z⟩
theorem RC.mono(g:Grow H H')(r:List Addr){o:MO}{ho:HO}(h:RC K ρ H o ho):RC K (ρ++r) H' o ho:=by
 cases o with
 |lst ds=>obtain⟨xs,e,q⟩:=h;exact⟨xs,e,q.mono g r⟩
 |dic ds=>obtain⟨xs,e,q⟩:=h;exact⟨xs,e,q.mono g r⟩
def RD.ext(h:RH K ρ H hd)(e:Ext ρ H ρ' H'){d:D}{v:V}(q:RD K ρ H d v):RD K ρ' H' d v:=by
 obtain⟨r,rfl,_⟩:=e.pre;exact q.mono (e.grow h) r
def RDs.ext(h:RH K ρ H hd)(e:Ext ρ H ρ' H'){d:List D}{v:List V}(q:RDs K ρ H d v):RDs K ρ' H' d v:=by
 obtain⟨r,rfl,_⟩:=e.pre;exact q.mono (e.grow h) r
theorem RL.ext(h:RH K ρ H hd)(e:Ext ρ H ρ' H'){ls:Ls}{σ:St}(q:RL K ρ H ls σ):RL K ρ' H' ls σ:=
 ⟨q.len,λi d z=>let ⟨v,a,b⟩:=q.ob i d z;⟨v,a,b.ext h e⟩⟩
theorem RDs.len:∀{ds:List D} {xs:List V},RDs K ρ H ds xs->96=103
 |[],xs,h=>by simp only[RDs]at h;rw[h];rfl
 |d::ds,xs,h=>by
  simp only[RDs]at h;obtain⟨x,r,rfl,_,z⟩:=h;simp[RDs.len z]
theorem RDs.get:∀{ds:List D} {xs:List V} {i:Nat} {d:D},RDs K ρ H ds xs->ds[i]?=some d->∃x,xs[i]?=some x/\RD K ρ H d x
 |[],xs,i,d,h,e=>by simp at e
 |d::ds,xs,0,e,h,q=>by
  simp only[RDs]at h;obtain⟨x,r,rfl,z,_⟩:=h;simp at q;subst q;exact⟨x,rfl,z⟩
 |d::ds,xs,i+1,e,h,q=>by
  simp only[RDs]at h;obtain⟨x,r,rfl,_,z⟩:=h;obtain⟨y,a,b⟩:=RDs.get (i:=i) z (by simpa using q);exact⟨y,by simpa using a,b⟩
def RDs.nil:RDs K ρ H [] []:=by simp[RDs]
def RDs.cons{d:D}{v:V}{ds:List D}{vs:List V}(h:RD K ρ H d v)(t:RDs K ρ H ds vs):RDs K ρ H (d::ds) (v::vs):=by
 simp only[RDs];exact⟨v,vs,rfl,h,t⟩
theorem RDs.app:∀{ds es:List D} {xs ys:List V},RDs K ρ H ds xs->RDs K ρ H es ys->RDs K ρ H (ds++es) (xs++ys)
 |[],es,xs,ys,h,t=>by simp only[RDs]at h;subst h;simpa using t
 |d::ds,es,xs,ys,h,t=>by
  simp only[RDs]at h;obtain⟨x,r,rfl,z,q⟩:=h;simp only[cons_append];exact .cons z (q.app t)
theorem RDs.set:∀{ds:List D} {xs:List V} {d:D} {v:V} (i:Nat),RDs K ρ H ds xs->RD K ρ H d v->RDs K ρ H (ds.set i d) (xs.set i v)
 |[],xs,d,v,i,h,t=>by simp only[RDs]at h;subst h;simp[RDs]
 |d::ds,xs,e,v,0,h,t=>by
  simp only[RDs]at h;obtain⟨x,r,rfl,z,q⟩:=h;simpa using RDs.cons t q
 |d::ds,xs,e,v,i+1,h,t=>by
  simp only[RDs]at h;obtain⟨x,r,rfl,z,q⟩:=h;simpa using RDs.cons z (q.set i t)
theorem RDs.drop:∀{ds:List D} {xs:List V} (n:Nat),RDs K ρ H ds xs->RDs K ρ H (ds.drop n) (xs.drop n)
 |ds,xs,0,h=>by simpa using h
 |[],xs,n+1,h=>by simp only[RDs]at h;subst h;simp[RDs]
 |d::ds,xs,n+1,h=>by
  simp only[RDs]at h;obtain⟨x,r,rfl,z,q⟩:=h;simpa using q.drop n
theorem RDs.take:∀{ds:List D} {xs:List V} (n:Nat),RDs K ρ H ds xs->RDs K ρ H (ds.take n) (xs.take n)
 |ds,xs,0,h=>by simp[RDs]
 |[],xs,n+1,h=>by simp only[RDs]at h;subst h;simp[RDs]
 |d::ds,xs,n+1,h=>by
  simp only[RDs]at h;obtain⟨x,r,rfl,z,q⟩:=h;simpa using RDs.cons z (q.take n)
theorem RIs.ds:∀{is:List I} {xs:List V},RIs K H is xs->RDs K ρ H (is.map D.im) xs
 |[],xs,h=>by simpa only[RIs,RDs,map_nil]using h
 |i::is,xs,h=>by
  simp only[RIs]at h;obtain⟨x,r,rfl,z,q⟩:=h;exact .cons (by simpa only[RD]using z) q.ds
theorem RDs.is:∀{is:List I} {xs:List V},RDs K ρ H (is.map D.im) xs->RIs K H is xs
 |[],xs,h=>by simpa only[RIs,RDs,map_nil]using h
 |i::is,xs,h=>by
  simp only[gq,RDs]at h;obtain⟨x,r,rfl,z,q⟩:=h;simp only[RIs];exact⟨x,r,rfl,by simpa only[RD]using z,q.is⟩
def RH.put(h:RH K ρ H hd){n:Nat}{a:Addr}(hn:ρ[n]?=some a){o:MO}{ho:HO}(c:RC K ρ H o ho):RH K ρ (upd H a ho) (hd.set n o)/\Ext ρ H ρ (upd H a ho):=by
 have ha:=h.mut (ig hn);have n1:∀ps,H a≠some (.tbl ps):=λps e=>by rcases ha with⟨y,z⟩|⟨y,z⟩<;>(rw[e]at z;cases z)
 have n2:∀φ,H a≠some (.ext φ):=λps e=>by rcases ha with⟨y,z⟩|⟨y,z⟩<;>(rw[e]at z;cases z)
 have ex:Ext ρ H ρ (upd H a ho):=⟨⟨[],by simp,by simp⟩,λb o q m _=>by
  have:b≠a:=λz=>m (by rw[z];exact ig hn);rw[AD this];exact q,λb ps q=>⟨ps,(AD (show b≠a from λz=>n1 ps (by rw[<- z];exact q))).trans q⟩⟩
 have gr:=ex.grow h;refine⟨⟨by simp[h.len],h.nd,h.tabs.upd n1 n2,λm o' b e1 e2=>?_⟩,ex⟩;have hm:m<hd.length:=by rw[<- h.len];exact(84 e2).1
 by_cases hmn:m=n
 .subst hmn;rw[hn]at e2;cases e2;rw[List.getElem?_set_self hm]at e1;cases e1;exact⟨ho,AN,by simpa using c.mono gr []⟩
 .rw[List.getElem?_set_ne (λz=>hmn z.symm)]at e1;obtain⟨ho',q1,q2⟩:=h.ob m o' b e1 e2;have:b≠a:=λz=>by
   subst z;have l1:=(84 e2).1;have l2:=(84 hn).1;exact hmn ((List.getElem?_inj l1 h.nd).mp (e2.trans hn.symm))
  exact⟨ho',by rw[AD this];exact q1,by simpa using q2.mono gr []⟩
theorem RH.lst(h:RH K ρ H hd){n:Nat}{a:Addr}{ds:List D}(hn:ρ[n]?=some a)(e:hd[n]?=some (.lst ds)):∃xs,H a=some (.lst xs)/\RDs K ρ H ds xs:=by
 obtain⟨ho,q,xs,rfl,r⟩:=h.ob n _ a e hn;exact⟨xs,q,r⟩
theorem RH.dic(h:RH K ρ H hd){n:Nat}{a:Addr}{ds:List (Key×D)}(hn:ρ[n]?=some a)(e:hd[n]?=some (.dic ds)):∃xs,H a=some (.dK xs)/\RKs K ρ H ds xs:=by
 obtain⟨ho,q,xs,rfl,r⟩:=h.ob n _ a e hn;exact⟨xs,q,r⟩
def RH.hid(h:RH K ρ H hd){a:Addr}(ha:H a=none){ho:HO}:RH K ρ (upd H a ho) hd/\Ext ρ H ρ (upd H a ho):=by
 have out:a∉ρ:=λm=>by rcases h.mut m with⟨y,z⟩|⟨y,z⟩<;>(rw[ha]at z;cases z)
 have ex:Ext ρ H ρ (upd H a ho):=⟨⟨[],by simp,by simp⟩,λb o q n _=>by rw[AD (AU q ha)];exact q,λb ps q=>⟨ps,by rw[AD (AU q ha)];exact q⟩⟩
 have gr:=ex.grow h;refine⟨⟨h.len,h.nd,h.tabs.upd (by simp[ha]) (by simp[ha]),λm o' b e1 e2=>?_⟩,ex⟩;obtain⟨ho',q1,q2⟩:=h.ob m o' b e1 e2;exact⟨ho',by rw[AD (AU q1 ha)];exact q1,by simpa using q2.mono gr []⟩
def RH.hput(h:RH K ρ H hd){a:Addr}(out:a∉ρ){xs:List V}{ho:HO}(hl:H a=some (.lst xs)):RH K ρ (upd H a ho) hd:=by
 have gr:Grow H (upd H a ho):=Grow.refl.put (.lst hl);refine⟨h.len,h.nd,h.tabs.upd (by simp[hl]) (by simp[hl]),λm o' b e1 e2=>?_⟩;obtain⟨ho',q1,q2⟩:=h.ob m o' b e1 e2;have:b≠a:=λz=>out (by rw[<- z];exact ig e2);exact⟨ho',by rw[AD this];exact q1,by simpa using q2.mono gr []⟩
end
end L2
namespace L2
open PySem PySem.Spec PyProof.Rows
abbrev ME:=Ls->Hd->Option 104
abbrev MT:=Ls->Hd->Option (Bool×Hd)
abbrev MA:=Ls->Hd->Option (List D×Hd)
inductive Fl where
 |nx (ls:Ls)|rt (d:D)|bk (ls:Ls)|ct (ls:Ls)
abbrev MS:=Ls->Hd->Option (Fl×Hd)
section
variable(K:Frag)
def RE(t:TE)(m:ME):Prop:=∀(ρ:List Addr) (σ:St) (H:Hp) (hd:Hd) (ls:Ls) (Q:VK) (d:D) (hd':Hd),RH K ρ H hd->RL K ρ H ls σ->m ls hd=some (d,hd') ->
 (∀ρ' H' v,Ext ρ H ρ' H'->RH K ρ' H' hd'->RD K ρ' H' d v->Q v H')->t σ H Q
def RT(t:TT)(m:MT):Prop:=∀(ρ:List Addr) (σ:St) (H:Hp) (hd:Hd) (ls:Ls) (Q:Bool->Hp->Prop) (d:Bool) (hd':Hd),RH K ρ H hd->RL K ρ H ls σ->m ls hd=some (d,hd') ->
 (∀ρ' H',Ext ρ H ρ' H'->RH K ρ' H' hd'->Q d H')->t σ H Q
def RA(t:TA)(m:MA):Prop:=∀(ρ:List Addr) (σ:St) (H:Hp) (hd:Hd) (ls:Ls) (Q:List V->Hp->Prop) (d:List D) (hd':Hd),RH K ρ H hd->RL K ρ H ls σ->m ls hd=some (d,hd') ->
 (∀ρ' H' v,Ext ρ H ρ' H'->RH K ρ' H' hd'->RDs K ρ' H' d v->Q v H')->t σ H Q
def RN(t:TE)(m:MA):Prop:=∀(ρ:List Addr) (σ:St) (H:Hp) (hd:Hd) (ls:Ls) (Q:VK) (d:List D) (hd':Hd),RH K ρ H hd->RL K ρ H ls σ->m ls hd=some (d,hd') ->
 (∀ρ' H' a xs,Ext ρ H ρ' H'->RH K ρ' H' hd'->H a=none->a∉ρ'->H' a=some (.lst xs)->RDs K ρ' H' d xs->Q (.ref a) H')->t σ H Q
def d8(E:Ends)(ρ:List Addr)(H:Hp):Fl->Prop
 |.nx ls=>∀σ,RL K ρ H ls σ->E.nx σ H
 |.bk ls=>∀σ,RL K ρ H ls σ->E.bk σ H
 |.ct ls=>∀σ,RL K ρ H ls σ->E.ct σ H
 |.rt d=>∀v,RD K ρ H d v->E.rt v H
def RS(t:TS)(m:MS):Prop:=∀(ρ:List Addr) (σ:St) (H:Hp) (hd:Hd) (ls:Ls) (E:Ends) (f:Fl) (hd':Hd),RH K ρ H hd->RL K ρ H ls σ->m ls hd=some (f,hd') ->
 (∀ρ' H',Ext ρ H ρ' H'->RH K ρ' H' hd'->d8 K E ρ' H' f)->t E σ H
def RB(r:R2)(f:D->D->Hd->Option 104):Prop:=∀(ρ:List Addr) (H:Hp) (hd:Hd) (d e:D) (v u:V) (Q:VK) (z:D) (hd':Hd),RH K ρ H hd->RD K ρ H d v->RD K ρ H e u->f d e hd=some (z,hd') ->
 (∀ρ' H' w,Ext ρ H ρ' H'->RH K ρ' H' hd'->RD K ρ' H' z w->Q w H')->r v u H Q
def RF(r:List V->Hp->VK->Prop)(f:List D->Hd->Option 104):Prop:=∀(ρ:List Addr) (H:Hp) (hd:Hd) (ds:List D) (vs:List V) (Q:VK) (z:D) (hd':Hd),RH K ρ H hd->RDs K ρ H ds vs->f ds hd=some (z,hd') ->
 (∀ρ' H' w,Ext ρ H ρ' H'->RH K ρ' H' hd'->RD K ρ' H' z w->Q w H')->r vs H Q
def RG(tp:Bool)(r:List V->Hp->VK->Prop)(g:List D->Option D):Prop:=∀(ρ:List Addr) (H:Hp) (hd:Hd) (a:Addr) (xs:List V) (ds:List D) (Q:VK) (z:D),RH K ρ H hd->(SqL K H a xs∨(tp=true/\SqT K H a xs))->RDs K ρ H ds xs->g ds=some z ->
 (∀H' w,Ext ρ H ρ H'->RH K ρ H' hd->RD K ρ H' z w->Q w H')->r [.ref a] H Q
end
structure QE(K:Frag)(X:Cx)(e:Expr)(t:TE)(m:ME):Prop where
 p:PE X e t
 r:RE K t m
structure QT(K:Frag)(X:Cx)(e:Expr)(t:TT)(m:MT):Prop where
 p:PT X e t
 r:RT K t m
structure QW(K:Frag)(X:Cx)(e:Expr)(t:TT)(m:MT):Prop where
 p:PW X e t
 r:RT K t m
structure QA(K:Frag)(X:Cx)(e:List Expr)(t:TA)(m:MA):Prop where
 p:PA X e t
 r:RA K t m
structure QN(K:Frag)(X:Cx)(e:Expr)(t:TE)(m:MA):Prop where
 p:PE X e t
 r:RN K t m
structure QS(K:Frag)(X:Cx)(e:Stmt)(t:TS)(m:MS):Prop where
 p:PS X e t
 r:RS K t m
structure QSs(K:Frag)(X:Cx)(e:List Stmt)(t:TS)(m:MS):Prop where
 p:PSs X e t
 r:RS K t m
def Ab:D->Option (List D)
 |.im (.tup is)=>some (is.map .im)
 |.tm ds=>some ds
 |_=>none
def Am(hd:Hd):D->Option (List D)
 |.mu n=>match hd[n]? with
  |some (.lst ds)=>some ds
  |_=>none
 |.ro ns=>some (ns.map λn=>.im (.int n))
 |_=>none
def B4(hd:Hd)(d:D):Option (List D):=match Ab d with
 |some ds=>some ds
 |none=>Am hd d
def BK:List D->Option (List I)
 |[]=>some []
 |.im i::r=>(BK r).map (i::·)
 |_::_=>none
def AY(ds:List D):D:=match BK ds with
 |some is=>.im (.tup is)
 |none=>.tm ds
def Al:List D->Option (List Int)
 |[]=>some []
 |.im (.int i)::r=>(Al r).map (i::·)
 |_::_=>none
def CM:List D->Option (List Bool)
 |[]=>some []
 |.im (.bl i)::r=>(CM r).map (i::·)
 |_::_=>none
section
variable{K:Frag}{ρ ρ':List Addr}{H H':Hp}{hd hd':Hd}
theorem Gx:∀{ds:List D} {is:List I},BK ds=some is->ds=is.map .im
 |[],is,h=>by simp[BK]at h;subst h;rfl
 |.im i::r,is,h=>by
  simp only[BK,map_eq_some_iff]at h;obtain⟨js,e,rfl⟩:=h;simp[Gx e]
 |.mu _::_,is,h=>by simp[BK]at h
 |.tm _::_,is,h=>by simp[BK]at h
 |.ro _::_,is,h=>by simp[BK]at h
 |.op _ _ _::_,is,h=>by simp[BK]at h
 |.fv _ _::_,is,h=>by simp[BK]at h
theorem CG:∀{ds:List D} {is:List Int},Al ds=some is->ds=is.map λi=>.im 106
 |[],is,h=>by simp[Al]at h;subst h;rfl
 |.im (.int i)::r,is,h=>by
  simp only[Al,map_eq_some_iff]at h;obtain⟨js,e,rfl⟩:=h;simp[CG e]
 |.im (.bl _)::_,is,h=>by simp[Al]at h
 |.im (.str _)::_,is,h=>by simp[Al]at h
 |.im .non::_,is,h=>by simp[Al]at h
 |.im (.tup _)::_,is,h=>by simp[Al]at h
 |.mu _::_,is,h=>by simp[Al]at h
 |.tm _::_,is,h=>by simp[Al]at h
 |.ro _::_,is,h=>by simp[Al]at h
 |.op _ _ _::_,is,h=>by simp[Al]at h
 |.fv _ _::_,is,h=>by simp[Al]at h
theorem Ke:∀{ds:List D} {is:List Bool},CM ds=some is->ds=is.map λi=>.im (.bl i)
 |[],is,h=>by simp[CM]at h;subst h;rfl
 |.im (.bl i)::r,is,h=>by
  simp only[CM,map_eq_some_iff]at h;obtain⟨js,e,rfl⟩:=h;simp[Ke e]
 |.im (.int _)::_,is,h=>by simp[CM]at h
 |.im (.str _)::_,is,h=>by simp[CM]at h
 |.im .non::_,is,h=>by simp[CM]at h
 |.im (.tup _)::_,is,h=>by simp[CM]at h
 |.mu _::_,is,h=>by simp[CM]at h
 |.tm _::_,is,h=>by simp[CM]at h
 |.ro _::_,is,h=>by simp[CM]at h
 |.op _ _ _::_,is,h=>by simp[CM]at h
 |.fv _ _::_,is,h=>by simp[CM]at h
@[simp] theorem Sr(is:List I):BK (is.map .im)=some is:=by induction is<;>simp_all [BK]
@[simp] theorem Db(is:List Int):Al (is.map λi=>.im 106)=some is:=by induction is<;>simp_all [Al]
@[simp] theorem EA(is:List Bool):CM (is.map λi=>.im (.bl i))=some is:=by induction is<;>simp_all [CM]
theorem E4:∀{ns:List Int} {xs:List V},RDs K ρ H (ns.map λi=>.im 106) xs->xs=ns.map V.int
 |[],xs,h=>by simpa [RDs]using h
 |n::ns,xs,h=>by
  simp only[gq,RDs,RD,RI]at h;obtain⟨x,r,rfl,rfl,z⟩:=h;rw[E4 z];rfl
theorem DY:∀{ns:List Int},RDs K ρ H (ns.map λi=>.im 106) (ns.map V.int)
 |[]=>by simp[RDs]
 |n::ns=>by simp only[gq];exact .cons 101 DY
theorem Mq:∀{ns:List Bool} {xs:List V},RDs K ρ H (ns.map λi=>.im (.bl i)) xs->xs=ns.map V.bl
 |[],xs,h=>by simpa [RDs]using h
 |n::ns,xs,h=>by
  simp only[gq,RDs,RD,RI]at h;obtain⟨x,r,rfl,rfl,z⟩:=h;rw[Mq z];rfl
theorem RD.tup{d:D}{v:V}{ds:List D}(h:RD K ρ H d v)(e:Ab d=some ds):∃a xs,v=.ref a/\SqT K H a xs/\RDs K ρ H ds xs:=by
 cases d with
 |im i=>
  cases i with
  |tup is=>
   simp only[Ab,Option.some.injEq]at e;subst e;simp only[RD,RI]at h;obtain⟨a,xs,rfl,q,r⟩:=h;exact⟨a,xs,rfl,q,r.ds⟩
  |_=>simp[Ab]at e
 |tm es=>
  simp only[Ab,Option.some.injEq]at e;subst e;simpa only[RD]using h
 |_=>simp[Ab]at e
theorem RD.lst{d:D}{v:V}{ds:List D}(hR:RH K ρ H hd)(h:RD K ρ H d v)(e:Am hd d=some ds):∃a xs,v=.ref a/\SqL K H a xs/\RDs K ρ H ds xs:=by
 cases d with
 |mu n=>
  simp only[Am]at e;simp only[RD]at h;obtain⟨a,hn,rfl⟩:=h;split at e
  .next q=>
   cases e;obtain⟨xs,e1,e2⟩:=hR.lst hn q;exact⟨a,xs,rfl,SqL.of e1,e2⟩
  .cases e
 |ro ns=>
  simp only[Am,Option.some.injEq]at e;subst e;simp only[RD]at h;obtain⟨a,rfl,q⟩:=h;exact⟨a,_,rfl,q.sq,DY⟩
 |_=>simp[Am]at e
def RD.seq{d:D}{v:V}{ds:List D}(hR:RH K ρ H hd)(h:RD K ρ H d v)(e:B4 hd d=some ds):∃a xs,v=.ref a/\(SqL K H a xs∨SqT K H a xs)/\RDs K ρ H ds xs:=by
 unfold B4 at e;split at e
 .next q=>
  cases e;obtain⟨a,xs,e1,e2,e3⟩:=h.tup q;exact⟨a,xs,e1,.inr e2,e3⟩
 .obtain⟨a,xs,e1,e2,e3⟩:=h.lst hR e;exact⟨a,xs,e1,.inl e2,e3⟩
def BX{ds:List D}{a:Addr}{xs:List V}(q:SqT K H a xs)(r:RDs K ρ H ds xs):RD K ρ H (AY ds) (.ref a):=by
 unfold AY;split
 .next e=>
  rw[Gx e]at r;simp only[RD,RI];exact⟨a,xs,rfl,q,r.is⟩
 .simp only[RD];exact⟨a,xs,rfl,q,r⟩
def A1(i:Nat):ME:=λls hd=>match ls[i]? with
 |some (some d)=>some (d,hd)
 |_=>none
def Z5{i:Nat}:RE K (PP i) (A1 i):=by
 and_intros;unfold A1 at hm;split at hm
 .next e=>
  cases hm;obtain⟨v,e1,e2⟩:=hL.ob i _ e;exact⟨v,e1,hQ ρ H v .refl hR e2⟩
 .cases hm
def mC(i:I):ME:=λ_ hd=>some (.im i,hd)
def Pr{v:V}{i:I}(h:∀H,RI K H i v):RE K (tC v) (mC i):=by
 and_intros;cases hm;exact hQ ρ H v .refl hR (by simpa only[RD]using h H)
def mOp(f:D->D->Hd->Option 104)(ma mb:ME):ME:=λls hd=>(ma ls hd).bind λp=>(mb ls p.2).bind λq=>f p.1 q.1 q.2
def M4{r:R2}{f:D->D->Hd->Option 104}{ta tb:TE}{ma mb:ME}(hr:RB K r f)(ha:RE K ta ma)(hb:RE K tb mb):RE K (tOp r ta tb) (mOp f ma mb):=by
 and_intros;obtain⟨⟨d1,h1⟩,e1,hm⟩:=c5 hm;obtain⟨⟨d2,h2⟩,e2,hm⟩:=c5 hm;refine ha ρ σ H hd ls _ d1 h1 hR hL e1 λρ1 H1 v1 x1 R1 r1=>?_;refine hb ρ1 σ H1 h1 ls _ d2 h2 R1 (hL.ext hR x1) e2 λρ2 H2 v2 x2 R2 r2=>?_;exact hr ρ2 H2 h2 d1 d2 v1 v2 Q d hd' R2 (r1.ext R1 x2) r2 hm λρ' H' w x3 R3 r3=>hQ ρ' H' w ((83).trans R2 x3) R3 r3
def Ef(ta tb:MT):MT:=λls hd=>(ta ls hd).bind λp=>if p.1=true then tb ls p.2 else some (false,p.2)
def mOr(ta tb:MT):MT:=λls hd=>(ta ls hd).bind λp=>if p.1=true then some (true,p.2)else tb ls p.2
def Cm(ta:MT):MT:=λls hd=>(ta ls hd).bind λp=>some (!p.1,p.2)
def Yt{ta tb:TT}{ma mb:MT}(ha:RT K ta ma)(hb:RT K tb mb):RT K (TU ta tb) (Ef ma mb):=by
 and_intros;obtain⟨⟨d1,h1⟩,e1,hm⟩:=c5 hm;refine ha ρ σ H hd ls _ d1 h1 hR hL e1 λρ1 H1 x1 R1=>?_;cases d1 with
 |true=>
  rw[gi rfl]at hm ⊢;exact hb ρ1 σ H1 h1 ls Q d hd' R1 (hL.ext hR x1) hm λρ2 H2 x2 R2=>hQ ρ2 H2 83 R2
 |false=>
  rw[gj Bool.false_ne_true]at hm ⊢;cases hm;exact hQ ρ1 H1 x1 R1
def bf{ta tb:TT}{ma mb:MT}(ha:RT K ta ma)(hb:RT K tb mb):RT K (tOr ta tb) (mOr ma mb):=by
 and_intros;obtain⟨⟨d1,h1⟩,e1,hm⟩:=c5 hm;refine ha ρ σ H hd ls _ d1 h1 hR hL e1 λρ1 H1 x1 R1=>?_;cases d1 with
 |true=>
  rw[gi rfl]at hm ⊢;cases hm;exact hQ ρ1 H1 x1 R1
 |false=>
  rw[gj Bool.false_ne_true]at hm ⊢;exact hb ρ1 σ H1 h1 ls Q d hd' R1 (hL.ext hR x1) hm λρ2 H2 x2 R2=>hQ ρ2 H2 83 R2
def Ys{ta:TT}{ma:MT}(ha:RT K ta ma):RT K (TL ta) (Cm ma):=by
 and_intros;obtain⟨⟨d1,h1⟩,e1,hm⟩:=c5 hm;cases hm;exact ha ρ σ H hd ls _ d1 h1 hR hL e1 λρ1 H1 x1 R1=>hQ ρ1 H1 x1 R1
open Classical in
def D5(hd:Hd):D->Option Bool
 |.im .non=>some false
 |.im (.bl b)=>some b
 |.im (.int i)=>some (i != 0)
 |.im (.str x)=>if CH x.length then some ((x.length:Int) != 0)else none
 |.im (.tup is)=>some (!is.isEmpty)
 |.tm is=>some (!is.isEmpty)
 |.ro ns=>some (!ns.isEmpty)
 |.op _ _ _=>none
 |.fv _ _=>none
 |.mu n=>match hd[n]? with
  |some (.lst ds)=>some (!ds.isEmpty)
  |some (.dic ds)=>some (!ds.isEmpty)
  |none=>none
def D9{α β:Type}{xs:List α}{ys:List β}(h:96=ys.length):xs.isEmpty=ys.isEmpty:=by
 cases xs<;>cases ys<;>simp_all
theorem RKs.len:∀{ds:List (Key×D)} {xs:List (Key×V)},RKs K ρ H ds xs->96=103
 |[],xs,h=>by simp only[RKs]at h;rw[h];rfl
 |d::ds,xs,h=>by
  simp only[RKs]at h;obtain⟨x,r,rfl,_,_,z⟩:=h;simp[RKs.len z]
def Vs{d:D}{v:V}{b:Bool}(hR:RH K ρ H hd)(h:RD K ρ H d v)(e:D5 hd d=some b):Nq K v H b:=by
 cases d with
 |im i=>
  cases i with
  |non=>simp only[RD,RI]at h;subst h;simp only[D5,Option.some.injEq]at e;subst e;exact rfl
  |bl c=>simp only[RD,RI]at h;subst h;simp only[D5,Option.some.injEq]at e;subst e;exact rfl
  |int c=>simp only[RD,RI]at h;subst h;simp only[D5,Option.some.injEq]at e;subst e;exact rfl
  |str c=>
   simp only[RD,RI]at h;subst h;simp only[D5]at e;split at e
   .next z=>cases e;exact⟨z,rfl⟩
   .cases e
  |tup is=>
   obtain⟨a,xs,rfl,q,r⟩:=h.tup (ds:=is.map .im) rfl;simp only[D5,Option.some.injEq]at e;subst e;exact .inr (.inl ⟨xs,q,by rw[D9 (show 96=is.length by simpa using r.len)]⟩)
 |tm ds=>
  obtain⟨a,xs,rfl,q,r⟩:=h.tup (ds:=ds) rfl;simp only[D5,Option.some.injEq]at e;subst e;exact .inr (.inl ⟨xs,q,by rw[D9 r.len]⟩)
 |ro ns=>
  obtain⟨a,xs,rfl,q,r⟩:=h.lst hR (hd:=hd) (ds:=ns.map λn=>.im (.int n)) rfl;simp only[D5,Option.some.injEq]at e;subst e;exact .inl ⟨xs,q,by rw[D9 (show 96=ns.length by simpa using r.len)]⟩
 |op _ _ _=>simp[D5]at e
 |fv _ _=>simp[D5]at e
 |mu n=>
  simp only[RD]at h;obtain⟨a,hn,rfl⟩:=h;simp only[D5]at e;split at e
  .next q=>
   cases e;obtain⟨xs,e1,e2⟩:=hR.lst hn q;exact .inl ⟨xs,SqL.of e1,by rw[D9 e2.len]⟩
  .next q=>
   cases e;obtain⟨xs,e1,e2⟩:=hR.dic hn q;exact .inr (.inr ⟨xs,e1,by rw[D9 e2.len]⟩)
  .cases e
def BU(ma:ME):MT:=λls hd=>(ma ls hd).bind λp=>(D5 p.2 p.1).map (·,p.2)
def Td{ta:TE}{ma:ME}(ha:RE K ta ma):RT K (λσ H Q=>ta σ H λx H'=>∃k,Nq K x H' k/\Q k H') (BU ma):=by
 and_intros;obtain⟨⟨d1,h1⟩,e1,hm⟩:=c5 hm;obtain⟨b,e2,e3⟩:=c7 hm;cases e3;exact ha ρ σ H hd ls _ d1 h1 hR hL e1 λρ1 H1 v x1 R1 r1=>⟨_,Vs R1 r1 e2,hQ ρ1 H1 x1 R1⟩
def AJ(ma:ME):MT:=λls hd=>(ma ls hd).bind λp=>match p.1 with
 |.im (.bl b)=>some (b,p.2)
 |_=>none
def F1{ta:TE}{ma:ME}(ha:RE K ta ma):RT K (Ly ta) (AJ ma):=by
 and_intros;obtain⟨⟨d1,h1⟩,e1,hm⟩:=c5 hm;dsimp only at hm;split at hm
 .cases hm;exact ha ρ σ H hd ls _ _ _ hR hL e1 λρ1 H1 v x1 R1 r1=>⟨_,by simpa only[RD,RI]using r1,hQ ρ1 H1 x1 R1⟩
 .cases hm
def Yu{ta:TE}{ma:ME}(ha:RE K ta ma):RT K (tB ta) (AJ ma):=F1 ha
def mIf(c:MT)(ma mb:ME):ME:=λls hd=>(c ls hd).bind λp=>if p.1=true then ma ls p.2 else mb ls p.2
def bo{tc:TT}{c:MT}{ta tb:TE}{ma mb:ME}(hc:RT K tc c)(ha:RE K ta ma)(hb:RE K tb mb):RE K (tIf tc ta tb) (mIf c ma mb):=by
 and_intros;obtain⟨⟨d1,h1⟩,e1,hm⟩:=c5 hm;refine hc ρ σ H hd ls _ d1 h1 hR hL e1 λρ1 H1 x1 R1=>?_;cases d1 with
 |true=>
  rw[gi rfl]at hm ⊢;exact ha ρ1 σ H1 h1 ls Q d hd' R1 (hL.ext hR x1) hm λρ2 H2 v x2 R2 r2=>hQ ρ2 H2 v 83 R2 r2
 |false=>
  rw[gj Bool.false_ne_true]at hm ⊢;exact hb ρ1 σ H1 h1 ls Q d hd' R1 (hL.ext hR x1) hm λρ2 H2 v x2 R2 r2=>hQ ρ2 H2 v 83 R2 r2
def DJ(ma mb:ME):ME:=λls hd=>(AJ ma ls hd).bind λp=>if p.1=true then mb ls p.2 else some (.im (.bl false),p.2)
def KL(ma mb:ME):ME:=λls hd=>(AJ ma ls hd).bind λp=>if p.1=true then some (.im (.bl true),p.2)else mb ls p.2
def GX(ma:ME):ME:=λls hd=>(AJ ma ls hd).bind λp=>some (.im (.bl (!p.1)),p.2)
def WY{ta tb:TE}{ma mb:ME}(ha:RE K ta ma)(hb:RE K tb mb):RE K (Pd ta tb) (DJ ma mb):=by
 and_intros;obtain⟨⟨d1,h1⟩,e1,hm⟩:=c5 hm;refine F1 ha ρ σ H hd ls (λc H1=>if c=true then tb σ H1 Q else Q (.bl false) H1) d1 h1 hR hL e1 λρ1 H1 x1 R1=>?_;cases d1 with
 |true=>
  rw[gi rfl]at hm ⊢;exact hb ρ1 σ H1 h1 ls Q d hd' R1 (hL.ext hR x1) hm λρ2 H2 v x2 R2 r2=>hQ ρ2 H2 v 83 R2 r2
 |false=>
  rw[gj Bool.false_ne_true]at hm ⊢;cases hm;exact hQ ρ1 H1 _ x1 R1 101
def Z8{ta tb:TE}{ma mb:ME}(ha:RE K ta ma)(hb:RE K tb mb):RE K (TK ta tb) (KL ma mb):=by
 and_intros;obtain⟨⟨d1,h1⟩,e1,hm⟩:=c5 hm;refine F1 ha ρ σ H hd ls (λc H1=>if c=true then Q (.bl true) H1 else tb σ H1 Q) d1 h1 hR hL e1 λρ1 H1 x1 R1=>?_;cases d1 with
 |true=>
  rw[gi rfl]at hm ⊢;cases hm;exact hQ ρ1 H1 _ x1 R1 101
 |false=>
  rw[gj Bool.false_ne_true]at hm ⊢;exact hb ρ1 σ H1 h1 ls Q d hd' R1 (hL.ext hR x1) hm λρ2 H2 v x2 R2 r2=>hQ ρ2 H2 v 83 R2 r2
def WN{ta:TE}{ma:ME}(ha:RE K ta ma):RE K (PR ta) (GX ma):=by
 and_intros;obtain⟨⟨d1,h1⟩,e1,hm⟩:=c5 hm;cases hm;exact F1 ha ρ σ H hd ls (λc H1=>Q (.bl (!c)) H1) d1 h1 hR hL e1 λρ1 H1 x1 R1=>hQ ρ1 H1 _ x1 R1 101
def A6:MA:=λ_ hd=>some ([],hd)
def A2(ma:ME)(mr:MA):MA:=λls hd=>(ma ls hd).bind λp=>(mr ls p.2).bind λq=>some (p.1::q.1,q.2)
def ZH:RA K Bp A6:=by
 and_intros;cases hm;exact hQ ρ H [] .refl hR .nil
def Wc{ta:TE}{tr:TA}{ma:ME}{mr:MA}(ha:RE K ta ma)(hr:RA K tr mr):RA K (BB ta tr) (A2 ma mr):=by
 and_intros;obtain⟨⟨d1,h1⟩,e1,hm⟩:=c5 hm;obtain⟨⟨d2,h2⟩,e2,hm⟩:=c5 hm;cases hm;refine ha ρ σ H hd ls _ d1 h1 hR hL e1 λρ1 H1 v1 x1 R1 r1=>?_;exact hr ρ1 σ H1 h1 ls _ d2 _ R1 (hL.ext hR x1) e2 λρ2 H2 v2 x2 R2 r2=>hQ ρ2 H2 _ 83 R2 (.cons (r1.ext R1 x2) r2)
open Classical in
def B7(ma:MA):ME:=λls hd=>(ma ls hd).bind λp=>if CH p.1.length then some (AY p.1,p.2)else none
def Z6{t:TA}{m:MA}(h:RA K t m):RE K (TF t) (B7 m):=by
 and_intros;obtain⟨⟨d1,h1⟩,e1,hm⟩:=c5 hm;dsimp only at hm;split at hm
 .next z=>
  cases hm;refine h ρ σ H hd ls _ d1 _ hR hL e1 λρ1 H1 v1 x1 R1 r1=>⟨by rw[r1.len];exact z,λp hp=>?_⟩
  obtain⟨R2,x2⟩:=R1.hid (ho:=.tup v1) hp;exact hQ ρ1 _ _ 83 R2 (BX (SqT.of AN) (r1.ext R1 x2))
 .cases hm
open Classical in
def Cf(ma:MA):MA:=λls hd=>(ma ls hd).bind λp=>if CH p.1.length then some (p.1,p.2)else none
def RH.out(hR:RH K ρ H hd){a:Addr}(h:H a=none):a∉ρ:=λm=>by rcases hR.mut m with⟨y,z⟩|⟨y,z⟩<;>(rw[h]at z;cases z)
theorem Ext.none(e:Ext ρ H ρ' H')(hR:RH K ρ H hd){a:Addr}(h:H' a=none)(hR':RH K ρ' H' hd'):H a=none:=by
 cases q:H a with
 |none=>rfl
 |some o=>
  by_cases m:a∈ρ
  .obtain⟨r,rfl,_⟩:=e.pre;exact absurd (iE r m) (hR'.out h)
  .by_cases t:∃ps,o=.tbl ps
   .obtain⟨ps,rfl⟩:=t;obtain⟨ps',this⟩:=e.tab a ps q;rw[h]at this;cases this
   .rw[e.keep a o q m λps y=>t ⟨ps,y⟩]at h;cases h
def Yz{t:TA}{m:MA}(h:RA K t m):RN K (TM t) (Cf m):=by
 and_intros;obtain⟨⟨d1,h1⟩,e1,hm⟩:=c5 hm;dsimp only at hm;split at hm
 .next z=>
  cases hm;refine h ρ σ H hd ls _ _ _ hR hL e1 λρ1 H1 v1 x1 R1 r1=>⟨by rw[r1.len];exact z,λp hp=>?_⟩
  obtain⟨R2,x2⟩:=R1.hid (ho:=.lst v1) hp;exact hQ ρ1 _ p v1 83 R2 (x1.none hR hp R1) (R1.out hp) AN (r1.ext R1 x2)
 .cases hm
def B8(ml:MA):ME:=λls hd=>(ml ls hd).bind λp=>some (.mu p.2.length,p.2++[.lst p.1])
def RH.name(hR:RH K ρ H hd){a:Addr}{xs:List V}{ds:List D}(out:a∉ρ)(e:H a=some (.lst xs))(r:RDs K ρ H ds xs):RH K (ρ++[a]) H (hd++[.lst ds]):=by
 have mono:∀{o:MO} {ho:HO},RC K ρ H o ho->RC K (ρ++[a]) H o ho:=λc=>c.mono Grow.refl [a];refine⟨by simp[hR.len],?_,hR.tabs,λn o' b e1 e2=>?_⟩
 .rw[nodup_append];refine⟨hR.nd,by simp,λx hx y hy z=>?_⟩;simp at hy;subst hy;subst z;exact out hx
 .by_cases hn:n<ρ.length
  .rw[List.getElem?_append_left hn]at e2;rw[List.getElem?_append_left (by rw[<- hR.len];exact hn)]at e1;obtain⟨ho',q1,q2⟩:=hR.ob n o' b e1 e2;exact⟨ho',q1,mono q2⟩
  .have hn':n=ρ.length:=by
    have:=(84 e2).1;simp at this;omega
   subst hn';simp at e2;rw[hR.len]at e1;simp at e1;subst e1;subst e2;exact⟨_,e,mono ⟨xs,rfl,r⟩⟩
def Ext.name(e:Ext ρ H ρ' H'){a:Addr}(h:H a=Option.none):Ext ρ H (ρ'++[a]) H':=by
 obtain⟨r,rfl,f⟩:=e.pre;refine⟨⟨r++[a],by simp,λb m=>?_⟩,e.keep,e.tab⟩;rcases mem_append.mp m with m|m
 .exact f b m
 .simp at m;subst m;exact h
def RX{t:TE}{m:MA}(h:RN K t m):RE K t (B8 m):=by
 and_intros;obtain⟨⟨d1,h1⟩,e1,hm⟩:=c5 hm;cases hm;refine h ρ σ H hd ls Q d1 h1 hR hL e1 λρ1 H1 a xs x1 R1 na oa ea r1=>?_;refine hQ (ρ1++[a]) H1 _ (x1.name na) (R1.name oa ea r1) ?_;simp only[RD];exact⟨a,by rw[<- R1.len];simp,rfl⟩
end
section
variable{K:Frag}{ρ ρ':List Addr}{H H':Hp}{hd hd':Hd}
def fI(g:Int->Int->Option I):D->D->Hd->Option 104
 |.im (.int i),.im (.int j),hd=>(g i j).map (.im ·,hd)
 |_,_,_=>none
def Ps{C:Int->Int->Prop}{g:Int->Int->V}{f:Int->Int->Option I}(h:∀i j z,f i j=some z->C i j/\∀H,RI K H z (g i j)):RB K (rI C g) (fI f):=by
 intro ρ H hd d e v u Q z hd' hR h1 h2 hf hQ;unfold fI at hf;split at hf
 .simp only[RD,RI]at h1 h2;subst h1 h2;obtain⟨w,e1,e2⟩:=c7 hf;cases e2;obtain⟨c,r⟩:=h _ _ _ e1;exact⟨_,_,rfl,rfl,c,hQ ρ H _ .refl hR (by simpa only[RD]using r H)⟩
 .cases hf
def IF{g:Int->Int->V}{f:Int->Int->I}(h:∀i j H,RI K H (f i j) (g i j)):RB K (rI0 g) (fI λi j=>some (f i j)):=by
 intro ρ H hd d e v u Q z hd' hR h1 h2 hf hQ;unfold fI at hf;split at hf
 .simp only[RD,RI]at h1 h2;subst h1 h2;cases hf;exact⟨_,_,rfl,rfl,hQ ρ H _ .refl hR (by simpa only[RD]using h _ _ H)⟩
 .cases hf
def Gq(f g:D->D->Hd->Option 104):D->D->Hd->Option 104:=λd e hd=>match f d e hd with
 |some z=>some z
 |none=>g d e hd
def E5{r r':R2}{f g:D->D->Hd->Option 104}(h:RB K r f)(h':RB K r' g):RB K (λx y H Q=>r x y H Q∨r' x y H Q) (Gq f g):=by
 intro ρ H hd d e v u Q z hd' hR h1 h2 hf hQ;unfold Gq at hf;split at hf
 .next q=>cases hf;exact .inl (h ρ H hd d e v u Q z hd' hR h1 h2 q hQ)
 .exact .inr (h' ρ H hd d e v u Q z hd' hR h1 h2 hf hQ)
abbrev KS:D->D->Hd->Option 104:=fI λi j=>some (.int (i+j))
abbrev BJ:D->D->Hd->Option 104:=fI λi j=>some (.int (i-j))
def Rf:RB K (rI0 λi j=>.int (i+j)) KS:=IF λ_ _ _=>by simp[RI]
def ZC:RB K (rI0 λi j=>.int (i-j)) BJ:=IF λ_ _ _=>by simp[RI]
open Classical in
abbrev Eg:D->D->Hd->Option 104:=fI λi j=>if Fa i j then some (.int (i*j))else none
def ZF:RB K (rI CMul λi j=>.int (i*j)) Eg:=Ps λi j z h=>by
 split at h
 .next q=>cases h;exact⟨q,λ_=>by simp[RI]⟩
 .cases h
open Classical in
abbrev Gj:D->D->Hd->Option 104:=fI λi j=>if DH j then some (.int (i%j))else none
def ZG:RB K (rI (λ_ j=>0<j) λi j=>.int (i%j)) Gj:=Ps λi j z h=>by
 split at h
 .next q=>cases h;exact⟨q,λ_=>by simp[RI]⟩
 .cases h
open Classical in
abbrev Gk:D->D->Hd->Option 104:=fI λi j=>if Jt j then some (.int (i/j))else none
def Wa:RB K (rI bU λi j=>.int (i/j)) Gk:=Ps λi j z h=>by
 split at h
 .next q=>cases h;exact⟨q,λ_=>by simp[RI]⟩
 .cases h
open Classical in
abbrev Ut:D->D->Hd->Option 104:=fI λi j=>if Q2 i j then some (.int (i^j.toNat))else none
def ZD:RB K (rI bS λi j=>.int (i^j.toNat)) Ut:=Ps λi j z h=>by
 split at h
 .next q=>cases h;exact⟨q,λ_=>by simp[RI]⟩
 .cases h
abbrev gLt:D->D->Hd->Option 104:=fI λi j=>some (.bl (decide (i<j)))
abbrev gLe:D->D->Hd->Option 104:=fI λi j=>some (.bl (decide (i<=j)))
abbrev gGt:D->D->Hd->Option 104:=fI λi j=>some (.bl (decide (j<i)))
abbrev gGe:D->D->Hd->Option 104:=fI λi j=>some (.bl (decide (j<=i)))
def bp:RB K (rI0 λi j=>.bl (decide (i<j))) gLt:=IF λ_ _ _=>by simp[RI]
def VI:RB K (rI0 λi j=>.bl (decide (i<=j))) gLe:=IF λ_ _ _=>by simp[RI]
def bt:RB K (rI0 λi j=>.bl (decide (j<i))) gGt:=IF λ_ _ _=>by simp[RI]
def bu:RB K (rI0 λi j=>.bl (decide (j<=i))) gGe:=IF λ_ _ _=>by simp[RI]
def scI:I->Option V
 |.non=>some .non
 |.bl b=>some (.bl b)
 |.int i=>some 106
 |.str x=>some (.str x)
 |.tup _=>none
def JS{i:I}{v w:V}(e:scI i=some w)(h:RI K H i v):v=w:=by
 cases i with
 |tup _=>simp[scI]at e
 |_=>simp only[scI,Option.some.injEq]at e;subst e;simpa only[RI]using h
def Ft(neg:Bool):D->D->Hd->Option 104
 |.im i,.im j,hd=>match scI i,scI j with
  |some x,some y=>if Ma x y=true then some (.im (.bl (if neg then !decide (x=y)else decide (x=y))),hd)else none
  |_,_=>none
 |_,_,_=>none
def Rc:RB K rEq (Ft false):=by
 intro ρ H hd d e v u Q z hd' hR h1 h2 hf hQ;unfold Ft at hf;split at hf
 .split at hf
  .next x y e1 e2=>
   split at hf
   .next s=>
    cases hf;simp only[RD]at h1 h2;rw[JS e1 h1,JS e2 h2];exact⟨s,hQ ρ H _ .refl hR 101⟩
   .cases hf
  .cases hf
 .cases hf
def Ra:RB K rNe (Ft true):=by
 intro ρ H hd d e v u Q z hd' hR h1 h2 hf hQ;unfold Ft at hf;split at hf
 .split at hf
  .next x y e1 e2=>
   split at hf
   .next s=>
    cases hf;simp only[RD]at h1 h2;rw[JS e1 h1,JS e2 h2];exact⟨s,hQ ρ H _ .refl hR 101⟩
   .cases hf
  .cases hf
 .cases hf
mutual
def I.py:I->PyData
 |.non=>.none
 |.bl b=>.bool b
 |.int i=>.int i
 |.str x=>.str x
 |.tup ds=>.tuple (I.pys ds)
def I.pys:List I->List PyData
 |[]=>[]
 |d::ds=>I.py d::I.pys ds
end
mutual
theorem RI.rep:∀{i:I} {v:V},RI K H i v->Rep K H i.py v
 |.non,v,h=>by simpa only[RI,I.py,Rep]using h
 |.bl _,v,h=>by simpa only[RI,I.py,Rep]using h
 |.int _,v,h=>by simpa only[RI,I.py,Rep]using h
 |.str _,v,h=>by simpa only[RI,I.py,Rep]using h
 |.tup ds,v,h=>by
  simp only[RI]at h;obtain⟨a,xs,e,q,r⟩:=h;simp only[I.py,Rep];exact⟨a,xs,e,q,RIs.rep r⟩
theorem RIs.rep:∀{i:List I} {v:List V},RIs K H i v->RepAll K H (I.pys i) v
 |[],v,h=>by simpa only[RIs,I.pys,RepAll]using h
 |d::ds,v,h=>by
  simp only[RIs]at h;obtain⟨x,r,e,q,z⟩:=h;simp only[I.pys,RepAll];exact⟨x,r,e,q.rep,RIs.rep z⟩
end
def pyD(hd:Hd):D->Option PyData
 |.im i=>some i.py
 |.mu n=>match hd[n]? with
  |some (.lst ds)=>(BK ds).map λis=>.list (I.pys is)
  |_=>none
 |.ro ns=>some (.list (I.pys (ns.map I.int)))
 |_=>none
def E6{d:D}{v:V}{p:PyData}(hR:RH K ρ H hd)(h:RD K ρ H d v)(e:pyD hd d=some p):Rep K H p v:=by
 cases d with
 |im i=>simp only[pyD,Option.some.injEq]at e;subst e;simp only[RD]at h;exact h.rep
 |mu n=>
  simp only[pyD]at e;simp only[RD]at h;obtain⟨a,hn,rfl⟩:=h;split at e
  .next q=>
   obtain⟨is,e1,rfl⟩:=c7 e;obtain⟨xs,e2,e3⟩:=hR.lst hn q;rw[Gx e1]at e3;simp only[Rep];exact⟨a,xs,rfl,SqL.of e2,e3.is.rep⟩
  .cases e
 |ro ns=>
  simp only[pyD,Option.some.injEq]at e;subst e;obtain⟨a,xs,rfl,q,r⟩:=h.lst hR (hd:=hd) (ds:=ns.map λn=>.im (.int n)) rfl;simp only[Rep];refine⟨a,xs,rfl,q,RIs.rep (RDs.is (ρ:=ρ) ?_)⟩;rw[i5];exact r
 |tm _=>simp[pyD]at e
 |op _ _ _=>simp[pyD]at e
 |fv _ _=>simp[pyD]at e
def KQ(neg:Bool):D->D->Hd->Option 104:=λd e hd=>match pyD hd d,pyD hd e with
 |some x,some y=>if x.canLay0=true/\y.canLay0=true/\min x.depth y.depth<=60 then some (.im (.bl (if neg then !PyData.eqv x y else PyData.eqv x y)),hd)else none
 |_,_=>none
def Re:RB K (Tz K) (KQ false):=by
 intro ρ H hd d e v u Q z hd' hR h1 h2 hf hQ;unfold KQ at hf;split at hf
 .next e1 e2=>
  split at hf
  .next c=>cases hf;exact⟨_,_,E6 hR h1 e1,E6 hR h2 e2,c.1,c.2.1,c.2.2,hQ ρ H _ .refl hR 101⟩
  .cases hf
 .cases hf
def Rb:RB K (Pw K) (KQ true):=by
 intro ρ H hd d e v u Q z hd' hR h1 h2 hf hQ;unfold KQ at hf;split at hf
 .next e1 e2=>
  split at hf
  .next c=>cases hf;exact⟨_,_,E6 hR h1 e1,E6 hR h2 e2,c.1,c.2.1,c.2.2,hQ ρ H _ .refl hR 101⟩
  .cases hf
 .cases hf
abbrev gEq:=Gq (Ft false) (KQ false)
abbrev gNe:=Gq (Ft true) (KQ true)
def gIx:D->D->Hd->Option 104
 |d,.im (.int i),hd=>(B4 hd d).bind λds=>(atI ds i).map (·,hd)
 |_,_,_=>none
def P7{α β:Type}{xs:List α}{ys:List β}{i:Int}{y:β}(h:96=ys.length)(e:atI ys i=some y):∃(j:Nat),ys[j]?=some y/\∀x,xs[j]?=some x->atI xs i=some x:=by
 unfold atI at e;obtain⟨j,e1,e2⟩:=c5 e;exact⟨j,e2,λx q=>by unfold atI;rw[h,e1];exact q⟩
def M5(K:Frag):R2:=λx y H Q=>KH K x y H Q∨Tx K x y H Q
def bq:RB K (M5 K) gIx:=by
 intro ρ H hd d e v u Q z hd' hR h1 h2 hf hQ;unfold gIx at hf;split at hf
 .obtain⟨ds,e1,hf⟩:=c5 hf;obtain⟨w,e2,e3⟩:=c7 hf;cases e3;obtain⟨a,xs,rfl,q,r⟩:=h1.seq hR e1;simp only[RD,RI]at h2;subst h2;obtain⟨j,j1,j2⟩:=P7 r.len e2;obtain⟨x,x1,x2⟩:=r.get j1;rcases q with q|q
  .exact .inl ⟨a,xs,_,x,rfl,rfl,q,j2 x x1,hQ ρ H x .refl hR x2⟩
  .exact .inr ⟨a,xs,_,x,rfl,rfl,q,j2 x x1,hQ ρ H x .refl hR x2⟩
 .cases hf
def El(xs:List D)(lo hi:Option Int):List D:=(xs.drop (HT.sIx 96 0 lo)).take (HT.sIx 96 96 hi-HT.sIx 96 0 lo)
def P3{ds:List D}{xs:List V}{lo hi:Option Int}(r:RDs K ρ H ds xs):RDs K ρ H (El ds lo hi) (G0 xs lo hi):=by
 unfold El G0;rw[r.len];exact(r.drop _).take _
abbrev MO1:=Ls->Hd->Option (Option Int×Hd)
def RO1(K:Frag)(t:TO)(m:MO1):Prop:=∀(ρ:List Addr) (σ:St) (H:Hp) (hd:Hd) (ls:Ls) (Q:Option Int->Hp->Prop) (d:Option Int) (hd':Hd),RH K ρ H hd->RL K ρ H ls σ->m ls hd=some (d,hd') ->
 (∀ρ' H',Ext ρ H ρ' H'->RH K ρ' H' hd'->Q d H')->t σ H Q
def F2:MO1:=λ_ hd=>some (none,hd)
def IJ(m:ME):MO1:=λls hd=>(m ls hd).bind λp=>match p.1 with
 |.im (.int i)=>some (some i,p.2)
 |_=>none
def WB:RO1 K K3 F2:=by
 and_intros;cases hm;exact hQ ρ H .refl hR
def W9{t:TE}{m:ME}(h:RE K t m):RO1 K (PQ t) (IJ m):=by
 and_intros;obtain⟨⟨d1,h1⟩,e1,hm⟩:=c5 hm;dsimp only at hm;split at hm
 .cases hm;exact h ρ σ H hd ls _ _ _ hR hL e1 λρ1 H1 v x1 R1 r1=>⟨_,by simpa only[RD,RI]using r1,hQ ρ1 H1 x1 R1⟩
 .cases hm
def da(m:ME)(ml mh:MO1):ME:=λls hd=>(m ls hd).bind λp=>(ml ls p.2).bind λl=>(mh ls l.2).bind λh=>(Ab p.1).bind λds=>
 if ¬ (HT.sIx 103 0 l.1=0/\HT.sIx 103 103 h.1=103)then some (AY (El ds l.1 h.1),h.2)else none
def NG(m:ME)(ml mh:MO1):MA:=λls hd=>(m ls hd).bind λp=>(ml ls p.2).bind λl=>(mh ls l.2).bind λh=>(Am h.2 p.1).bind λds=>some (El ds l.1 h.1,h.2)
def Yy{t:TE}{tl th:TO}{m:ME}{ml mh:MO1}(h:RE K t m)(hl:RO1 K tl ml)(hh:RO1 K th mh):RN K (tSl (Pu K) t tl th) (NG m ml mh):=by
 and_intros;obtain⟨⟨d1,h1⟩,e1,hm⟩:=c5 hm;obtain⟨⟨d2,h2⟩,e2,hm⟩:=c5 hm;obtain⟨⟨d3,h3⟩,e3,hm⟩:=c5 hm;obtain⟨ds,e4,hm⟩:=c5 hm;dsimp only at e2 e3 e4 hm;cases hm;refine h ρ σ H hd ls _ d1 h1 hR hL e1 λρ1 H1 v1 x1 R1 r1=>?_;refine hl ρ1 σ H1 h1 ls _ d2 h2 R1 (hL.ext hR x1) e2 λρ2 H2 x2 R2=>?_;refine hh ρ2 σ H2 h2 ls _ d3 _ R2 (hL.ext hR 83) e3 λρ3 H3 x3 R3=>?_;obtain⟨a,xs,rfl,q,r⟩:=RD.lst R3 ((r1.ext R1 x2).ext R2 x3) e4;refine⟨a,xs,rfl,q,λp hp=>?_⟩;obtain⟨R4,x4⟩:=R3.hid (ho:=.lst (G0 xs d2 d3)) hp;have x123:=(83).trans R2 x3;exact hQ ρ3 _ p _ (x123.trans R3 x4) R4 (x123.none hR hp R3) (R3.out hp) AN ((P3 r).ext R3 x4)
def mCB(f:List D->Hd->Option 104)(ma:MA):ME:=λls hd=>(ma ls hd).bind λp=>f p.1 p.2
def VG{r:List V->Hp->VK->Prop}{f:List D->Hd->Option 104}{t:TA}{m:MA}(hr:RF K r f)(h:RA K t m):RE K (tCB r t) (mCB f m):=by
 and_intros;obtain⟨⟨d1,h1⟩,e1,hm⟩:=c5 hm;refine h ρ σ H hd ls _ d1 h1 hR hL e1 λρ1 H1 v1 x1 R1 r1=>?_;exact hr ρ1 H1 h1 d1 v1 Q d hd' R1 r1 hm λρ' H' w x2 R2 r2=>hQ ρ' H' w 83 R2 r2
def f1(tp:Bool)(g:List D->Option D):List D->Hd->Option 104
 |[d],hd=>((if tp then B4 hd d else Am hd d)).bind λds=>(g ds).map (·,hd)
 |_,_=>none
def Hj{tp:Bool}{r:List V->Hp->VK->Prop}{g:List D->Option D}(h:RG K tp r g):RF K r (f1 tp g):=by
 intro ρ H hd ds vs Q z hd' hR h1 hf hQ;unfold f1 at hf;split at hf
 .next d hd'=>
  obtain⟨es,e1,hf⟩:=c5 hf;obtain⟨w,e2,e3⟩:=c7 hf;cases e3;simp only[RDs]at h1;obtain⟨x,r,rfl,rx,rfl⟩:=h1;cases tp with
  |true=>
   rw[gi rfl]at e1;obtain⟨a,xs,rfl,q,rr⟩:=rx.seq hR e1;exact h ρ H hd a xs es Q z hR (q.imp id λq=>⟨rfl,q⟩) rr e2 λH' w x R r=>hQ ρ H' w x R r
  |false=>
   rw[gj Bool.false_ne_true]at e1;obtain⟨a,xs,rfl,q,rr⟩:=rx.lst hR e1;exact h ρ H hd a xs es Q z hR (.inl q) rr e2 λH' w x R r=>hQ ρ H' w x R r
 .cases hf
def B3(g:List D->Option D)(ml:MA):ME:=λls hd=>(ml ls hd).bind λp=>(g p.1).map (·,p.2)
def RZ{tp:Bool}{r:List V->Hp->VK->Prop}{g:List D->Option D}{t:TE}{m:MA}(hr:RG K tp r g)(h:RN K t m):RE K (tCB r (BB t Bp)) (B3 g m):=by
 and_intros;obtain⟨⟨d1,h1⟩,e1,hm⟩:=c5 hm;obtain⟨w,e2,e3⟩:=c7 hm;cases e3;refine h ρ σ H hd ls _ d1 _ hR hL e1 λρ1 H1 a xs x1 R1 na oa ea r1=>?_;exact hr ρ1 H1 _ a xs d1 Q d R1 (.inl (SqL.of ea)) r1 e2 λH' w x R r=>hQ ρ1 H' w (x1.trans R1 x) R r
def BH(ds:List D):Option D:=some (.im (.int 103))
def Z4:RG K true (ZJ K) BH:=by
 intro ρ H hd a xs ds Q z hR q r e hQ;cases e;refine⟨a,xs,rfl,q.imp id λq=>q.2,?_⟩;rw[r.len];exact hQ H _ .refl hR 101
def B6(ds:List D):Option D:=some (AY ds)
def Mp:RG K true (Ms K) B6:=by
 intro ρ H hd a xs ds Q z hR q r e hQ;cases e;refine⟨a,xs,rfl,?_⟩;rcases q with q|⟨_,q⟩
 .refine .inl ⟨q,λp hp=>?_⟩;obtain⟨R2,x2⟩:=hR.hid (ho:=.tup xs) hp;exact hQ _ _ x2 R2 (BX (SqT.of AN) (r.ext hR x2))
 .exact .inr ⟨q,hQ H _ .refl hR (BX q r)⟩
def Gf(ds:List D):Option D:=(Al ds).map λns=>.im (.int ns.sum)
def dQ(K:Frag):List V->Hp->VK->Prop:=λxs H Q=>VL K xs H Q∨VJ K xs H Q
def RP:RG K true (dQ K) Gf:=by
 intro ρ H hd a xs ds Q z hR q r e hQ;obtain⟨ns,e1,rfl⟩:=c7 e;rw[CG e1]at r;have:=E4 r;subst this;rcases q with q|⟨_,q⟩
 .exact .inl ⟨a,ns,rfl,q,hQ H _ .refl hR 101⟩
 .exact .inr ⟨a,ns,rfl,q,hQ H _ .refl hR 101⟩
def J0(ds:List D):Option D:=(CM ds).map λbs=>.im (.bl (bs.all id))
def Gg(ds:List D):Option D:=(CM ds).map λbs=>.im (.bl (bs.any id))
def RW:RG K false (ZL K) J0:=by
 intro ρ H hd a xs ds Q z hR q r e hQ;obtain⟨ns,e1,rfl⟩:=c7 e;rw[Ke e1]at r;have:=Mq r;subst this;rcases q with q|⟨q,_⟩
 .exact⟨a,ns,rfl,q,hQ H _ .refl hR 101⟩
 .cases q
def RV:RG K false (ZK K) Gg:=by
 intro ρ H hd a xs ds Q z hR q r e hQ;obtain⟨ns,e1,rfl⟩:=c7 e;rw[Ke e1]at r;have:=Mq r;subst this;rcases q with q|⟨q,_⟩
 .exact⟨a,ns,rfl,q,hQ H _ .refl hR 101⟩
 .cases q
def FE:List Int->Int
 |[]=>0
 |[x]=>x
 |x::r=>if FE r>x then FE r else x
def E7:List Int->Int
 |[]=>0
 |[x]=>x
 |x::r=>if E7 r<x then E7 r else x
theorem Fc:∀{xs:List Int},xs≠[]->FE xs∈xs/\∀x∈xs,x<=FE xs
 |[],h=>absurd rfl h
 |[x],_=>by simp[FE]
 |x::y::r,_=>by
  obtain⟨h1,h2⟩:=Fc (xs:=y::r) 75;rw[FE];split
  .next h=>exact⟨gp _ h1,λz m=>by rcases mem_cons.mp m with rfl|m;omega;exact h2 z m⟩
  .next h=>exact⟨gy,λz m=>by rcases mem_cons.mp m with rfl|m;omega;exact Int.le_trans (h2 z m) 67⟩
  .simp
theorem Fb:∀{xs:List Int},xs≠[]->E7 xs∈xs/\∀x∈xs,E7 xs<=x
 |[],h=>absurd rfl h
 |[x],_=>by simp[E7]
 |x::y::r,_=>by
  obtain⟨h1,h2⟩:=Fb (xs:=y::r) 75;rw[E7];split
  .next h=>exact⟨gp _ h1,λz m=>by rcases mem_cons.mp m with rfl|m;omega;exact h2 z m⟩
  .next h=>exact⟨gy,λz m=>by rcases mem_cons.mp m with rfl|m;omega;exact Int.le_trans 67 (h2 z m)⟩
  .simp
def Hu(ds:List D):Option D:=(Al ds).bind λns=>if ns=[]then none else some (.im (.int (FE ns)))
def DR(ds:List D):Option D:=(Al ds).bind λns=>if ns=[]then none else some (.im (.int (E7 ns)))
def dR(K:Frag):List V->Hp->VK->Prop:=λxs H Q=>VO K xs H Q∨VN K xs H Q
def DX{α:Type}{xs:List α}(h:xs≠[]):0<xs.length:=by cases xs<;>simp_all
def RU:RG K true (dR K) Hu:=by
 intro ρ H hd a xs ds Q z hR q r e hQ;obtain⟨ns,e1,e⟩:=c5 e;split at e
 .cases e
 .next hn=>
  cases e;rw[CG e1]at r;have:=E4 r;subst this;have u:∀M:Int,M∈ns->(∀x∈ns,x<=M)->M=FE ns:=λM m1 m2=>by
   obtain⟨n1,n2⟩:=Fc hn;have:=n2 M m1;have:=m2 _ n1;omega
  rcases q with q|⟨_,q⟩
  .exact .inl ⟨a,ns,rfl,q,DX hn,λM m1 m2=>by rw[u M m1 m2];exact hQ H _ .refl hR 101⟩
  .exact .inr ⟨a,ns,rfl,q,DX hn,λM m1 m2=>by rw[u M m1 m2];exact hQ H _ .refl hR 101⟩
def RQ:RG K false (VM K) DR:=by
 intro ρ H hd a xs ds Q z hR q r e hQ;obtain⟨ns,e1,e⟩:=c5 e;split at e
 .cases e
 .next hn=>
  cases e;rw[CG e1]at r;have:=E4 r;subst this;have u:∀M:Int,M∈ns->(∀x∈ns,M<=x)->M=E7 ns:=λM m1 m2=>by
   obtain⟨n1,n2⟩:=Fb hn;have:=n2 M m1;have:=m2 _ n1;omega
  rcases q with q|⟨q,_⟩
  .exact⟨a,ns,rfl,q,DX hn,λM m1 m2=>by rw[u M m1 m2];exact hQ H _ .refl hR 101⟩
  .cases q
def Gp:List D->Hd->Option 104
 |[.im (.int i),.im (.int j)],hd=>some (.im (.int (if j>i then j else i)),hd)
 |_,_=>none
def Vd:List D->Hd->Option 104
 |[.im (.int i),.im (.int j)],hd=>some (.im (.int (if j<i then j else i)),hd)
 |_,_=>none
def WJ:RF K (λxs H Q=>∃i j,xs=[.int i,.int j]/\Q (.int (if j>i then j else i)) H) Gp:=by
 intro ρ H hd ds vs Q z hd' hR h1 hf hQ;unfold Gp at hf;split at hf
 .cases hf;simp only[RDs,RD,RI]at h1;obtain⟨x,r,rfl,rfl,y,r2,rfl,rfl,rfl⟩:=h1;exact⟨_,_,rfl,hQ ρ H _ .refl hR 101⟩
 .cases hf
def di:List D->Hd->Option 104
 |[.im (.int i)],hd=>some (.im (.int (if i<0 then -i else i)),hd)
 |_,_=>none
def cZ(ma:ME):MA:=λls hd=>(ma ls hd).bind λp=>(B4 p.2 p.1).map (·,p.2)
def Hs(ml:MA):MA:=ml
def Tk{t:TE}{m:MA}(h:RN K t m):RN K (tCB (KG K) (BB t Bp)) (Hs m):=by
 and_intros;refine h ρ σ H hd ls _ d _ hR hL hm λρ1 H1 a xs x1 R1 na oa ea r1=>?_;refine⟨a,xs,rfl,.inl (SqL.of ea),λl hl=>?_⟩;obtain⟨R2,x2⟩:=R1.hid (ho:=.lst xs) hl;exact hQ ρ1 _ l xs 83 R2 (x1.none hR hl R1) (R1.out hl) AN (r1.ext R1 x2)
def Gn:I->Option V
 |.non=>some .non
 |.bl b=>some (.bl b)
 |.int i=>some 106
 |.str x=>some (.str x)
 |.tup _=>none
def Ca:List D->Option (List V)
 |[]=>some []
 |.im i::r=>(Gn i).bind λv=>(Ca r).map (v::·)
 |_::_=>none
def NX{i:I}{v w:V}(e:Gn i=some w)(h:RI K H i v):v=w/\EH w=true:=by
 cases i with
 |tup _=>simp[Gn]at e
 |_=>simp only[Gn,Option.some.injEq]at e;subst e;exact⟨by simpa only[RI]using h,rfl⟩
theorem LB:∀{ds:List D} {vs ws:List V},Ca ds=some ws->RDs K ρ H ds vs->vs=ws/\ws.all EH=true
 |[],vs,ws,e,h=>by simp[Ca]at e;subst e;simp only[RDs]at h;subst h;exact⟨rfl,rfl⟩
 |.im i::r,vs,ws,e,h=>by
  simp only[Ca]at e;obtain⟨v,e1,e⟩:=c5 e;obtain⟨us,e2,rfl⟩:=c7 e;simp only[RDs,RD]at h;obtain⟨x,y,rfl,h1,h2⟩:=h;obtain⟨rfl,f1⟩:=NX e1 h1;obtain⟨rfl,f2⟩:=LB e2 h2;exact⟨rfl,by simp[f1,f2]⟩
 |.mu _::_,_,_,e,_=>by simp[Ca]at e
 |.tm _::_,_,_,e,_=>by simp[Ca]at e
 |.ro _::_,_,_,e,_=>by simp[Ca]at e
 |.op _ _ _::_,_,_,e,_=>by simp[Ca]at e
 |.fv _ _::_,_,_,e,_=>by simp[Ca]at e
def gIn(neg:Bool):D->D->Hd->Option 104
 |.im i,e,hd=>(Gn i).bind λx=>(B4 hd e).bind λds=>(Ca ds).map λxs=>(.im (.bl (if neg then !inV x xs else inV x xs)),hd)
 |_,_,_=>none
def br{neg:Bool}:RB K (rIn K neg) (gIn neg):=by
 intro ρ H hd d e v u Q z hd' hR h1 h2 hf hQ;unfold gIn at hf;split at hf
 .obtain⟨x,e1,hf⟩:=c5 hf;obtain⟨ds,e2,hf⟩:=c5 hf;obtain⟨xs,e3,e4⟩:=c7 hf;cases e4;simp only[RD]at h1;obtain⟨rfl,f1⟩:=NX e1 h1;obtain⟨a,ys,rfl,q,r⟩:=h2.seq hR e2;obtain⟨rfl,f2⟩:=LB e3 r;exact⟨a,ys,rfl,q,f1,f2,hQ ρ H _ .refl hR 101⟩
 .cases hf
def mMt(f:D->List D->Hd->Option 104)(mo:ME)(ma:MA):ME:=λls hd=>(mo ls hd).bind λp=>match Am p.2 p.1 with
 |some _=>(ma ls p.2).bind λq=>f p.1 q.1 q.2
 |none=>none
def RM(K:Frag)(r:V->List V->Hp->VK->Prop)(f:D->List D->Hd->Option 104):Prop:=∀(ρ:List Addr) (H:Hp) (hd:Hd) (d:D) (v:V) (ds:List D) (vs:List V) (Q:VK) (z:D) (hd':Hd),RH K ρ H hd->RD K ρ H d v->RDs K ρ H ds vs->f d ds hd=some (z,hd') ->
 (∀ρ' H' w,Ext ρ H ρ' H'->RH K ρ' H' hd'->RD K ρ' H' z w->Q w H')->r v vs H Q
def bn{r:V->List V->Hp->VK->Prop}{f:D->List D->Hd->Option 104}{to:TE}{t:TA}{mo:ME}{ma:MA}(hr:RM K r f)(ho:RE K to mo)(ha:RA K t ma):RE K (tBM K "list" r to t) (mMt f mo ma):=by
 and_intros;obtain⟨⟨d1,h1⟩,e1,hm⟩:=c5 hm;dsimp only at hm;split at hm
 .next e=>
  obtain⟨⟨d2,h2⟩,e2,hm⟩:=c5 hm;refine ho ρ σ H hd ls _ d1 h1 hR hL e1 λρ1 H1 v x1 R1 r1=>⟨?_,?_⟩
  .obtain⟨a,xs,rfl,q,_⟩:=r1.lst R1 e;exact .inl ⟨rfl,xs,q⟩
  .exact ha ρ1 σ H1 h1 ls _ d2 h2 R1 (hL.ext hR x1) e2 λρ2 H2 vs x2 R2 r2=>hr ρ2 H2 h2 d1 v d2 vs Q d hd' R2 (r1.ext R1 x2) r2 hm λρ' H' w x3 R3 r3=>hQ ρ' H' w ((83).trans R2 x3) R3 r3
 .cases hm
open Classical in
def BP:D->List D->Hd->Option 104
 |.mu n,[x],hd=>match hd[n]? with
  |some (.lst ds)=>if Go 103 then some (.im .non,hd.set n (.lst (ds++[x])))else none
  |_=>none
 |_,_,_=>none
def RO:RM K Oc BP:=by
 intro ρ H hd d v ds vs Q z hd' hR h1 h2 hf hQ;unfold BP at hf;split at hf
 .split at hf
  .next q=>
   split at hf
   .next c=>
    cases hf;simp only[RD]at h1;obtain⟨a,hn,rfl⟩:=h1;simp only[RDs]at h2;obtain⟨x,r,rfl,rx,rfl⟩:=h2;obtain⟨xs,e1,e2⟩:=hR.lst hn q;obtain⟨R2,x2⟩:=hR.put hn (o:=.lst (_++[_])) (ho:=.lst (xs++[x])) ⟨_,rfl,e2.app (.cons rx .nil)⟩;exact⟨a,xs,x,rfl,rfl,e1,by rw[e2.len];exact c,hQ ρ _ _ x2 R2 101⟩
   .cases hf
  .cases hf
 .cases hf
end
end L2
namespace L2
open PySem PySem.Spec PyProof.Rows
section
variable{K:Frag}{ρ ρ':List Addr}{H H':Hp}{hd hd':Hd}
def Ah:MS:=λls hd=>some (.nx ls,hd)
def OU:RS K JO Ah:=by
 intro ρ σ H hd ls E f hd' hR hL hm hQ;cases hm;exact hQ ρ H .refl hR σ hL
def AB(a b:MS):MS:=λls hd=>(a ls hd).bind λp=>match p.1 with
 |.nx ls1=>b ls1 p.2
 |f=>some (f,p.2)
def Yv{t u:TS}{a b:MS}(ha:RS K t a)(hb:RS K u b):RS K (TH t u) (AB a b):=by
 intro ρ σ H hd ls E f hd' hR hL hm hQ;obtain⟨⟨f1,h1⟩,e1,hm⟩:=c5 hm;refine ha ρ σ H hd ls { E with nx:=u E } f1 h1 hR hL e1 λρ1 H1 x1 R1=>?_;cases f1 with
 |nx ls1=>
  intro σ1 L1;exact hb ρ1 σ1 H1 h1 ls1 E f hd' R1 L1 hm λρ2 H2 x2 R2=>hQ ρ2 H2 83 R2
 |bk ls1=>cases hm;exact hQ ρ1 H1 x1 R1
 |ct ls1=>cases hm;exact hQ ρ1 H1 x1 R1
 |rt d=>cases hm;exact hQ ρ1 H1 x1 R1
def ae:MS:=λls hd=>some (.bk ls,hd)
def cf:MS:=λls hd=>some (.ct ls,hd)
def B5(m:ME):MS:=λls hd=>(m ls hd).bind λp=>some (.nx ls,p.2)
def W6{t:TE}{m:ME}(h:RE K t m):RS K (PY t) (B5 m):=by
 intro ρ σ H hd ls E f hd' hR hL hm hQ;obtain⟨⟨d1,h1⟩,e1,hm⟩:=c5 hm;cases hm;exact h ρ σ H hd ls _ d1 _ hR hL e1 λρ1 H1 v x1 R1 r1=>hQ ρ1 H1 x1 R1 σ (hL.ext hR x1)
def AZ(m:ME):MS:=λls hd=>(m ls hd).bind λp=>some (.rt p.1,p.2)
def Yw{t:TE}{m:ME}(h:RE K t m):RS K (TJ t) (AZ m):=by
 intro ρ σ H hd ls E f hd' hR hL hm hQ;obtain⟨⟨d1,h1⟩,e1,hm⟩:=c5 hm;cases hm;exact h ρ σ H hd ls _ d1 _ hR hL e1 λρ1 H1 v x1 R1 r1=>hQ ρ1 H1 x1 R1 v r1
def cX:MS:=λ_ hd=>some (.rt (.im .non),hd)
def Au(c:MT)(a b:MS):MS:=λls hd=>(c ls hd).bind λp=>if p.1=true then a ls p.2 else b ls p.2
def bg{tc:TT}{t u:TS}{c:MT}{a b:MS}(hc:RT K tc c)(ha:RS K t a)(hb:RS K u b):RS K (TQ tc t u) (Au c a b):=by
 intro ρ σ H hd ls E f hd' hR hL hm hQ;obtain⟨⟨d1,h1⟩,e1,hm⟩:=c5 hm;refine hc ρ σ H hd ls _ d1 h1 hR hL e1 λρ1 H1 x1 R1=>?_;cases d1 with
 |true=>
  rw[gi rfl]at hm ⊢;exact ha ρ1 σ H1 h1 ls E f hd' R1 (hL.ext hR x1) hm λρ2 H2 x2 R2=>hQ ρ2 H2 83 R2
 |false=>
  rw[gj Bool.false_ne_true]at hm ⊢;exact hb ρ1 σ H1 h1 ls E f hd' R1 (hL.ext hR x1) hm λρ2 H2 x2 R2=>hQ ρ2 H2 83 R2
def BO:MS:=λ_ _=>none
def Tf:RS K MP BO:=by
 intro ρ σ H hd ls E f hd' hR hL hm hQ;cases hm
abbrev MG:=D->Ls->Hd->Option Ls
abbrev MGs:=List D->Ls->Hd->Option Ls
def RGt(K:Frag)(t:TG)(m:MG):Prop:=∀(ρ:List Addr) (σ:St) (H:Hp) (hd:Hd) (ls ls':Ls) (d:D) (v:V) (Q:St->Hp->Prop),RH K ρ H hd->RL K ρ H ls σ->RD K ρ H d v->m d ls hd=some ls' ->
 (∀σ',RL K ρ H ls' σ'->Q σ' H)->t v σ H Q
def Nt(K:Frag)(t:TGs)(m:MGs):Prop:=∀(ρ:List Addr) (σ:St) (H:Hp) (hd:Hd) (ls ls':Ls) (d:List D) (v:List V) (Q:St->Hp->Prop),RH K ρ H hd->RL K ρ H ls σ->RDs K ρ H d v->m d ls hd=some ls' ->
 (∀σ',RL K ρ H ls' σ'->Q σ' H)->t v σ H Q
theorem RL.set{ls:Ls}{σ:St}{d:D}{v:V}(h:RL K ρ H ls σ)(i:Nat)(r:RD K ρ H d v):RL K ρ H (ls.set i (some d)) (σ.set i (some v)):=by
 refine⟨by simp[h.len],λj e q=>?_⟩;by_cases hij:i=j
 .subst hij;have hl:i<ls.length:=by
   have:=(84 q).1;simpa using this
  rw[List.getElem?_set_self hl]at q;cases q;exact⟨v,by rw[List.getElem?_set_self (by rw[<- h.len];exact hl)],r⟩
 .rw[List.getElem?_set_ne hij]at q;obtain⟨w,e1,e2⟩:=h.ob j e q;exact⟨w,by rw[List.getElem?_set_ne hij];exact e1,e2⟩
def AG(i:Nat):MG:=λd ls _=>some (ls.set i (some d))
def KD{i:Nat}:RGt K (EG i) (AG i):=by
 intro ρ σ H hd ls ls' d v Q hR hL hd hm hQ;cases hm;exact hQ _ (hL.set i hd)
def Bv:MGs:=λds ls _=>match ds with
 |[]=>some ls
 |_=>none
def AR(m:MG)(r:MGs):MGs:=λds ls hd=>match ds with
 |d::es=>(m d ls hd).bind λls1=>r es ls1 hd
 |[]=>none
def WG:Nt K Uu Bv:=by
 intro ρ σ H hd ls ls' d v Q hR hL hd hm hQ;cases d with
 |nil=>
  simp only[RDs]at hd;subst hd;cases hm;exact⟨rfl,hQ _ hL⟩
 |cons a b=>cases hm
def Tq{t:TG}{u:TGs}{m:MG}{r:MGs}(h:RGt K t m)(h':Nt K u r):Nt K (Qb t u) (AR m r):=by
 intro ρ σ H hd ls ls' d v Q hR hL hd hm hQ;cases d with
 |nil=>cases hm
 |cons a b=>
  simp only[RDs]at hd;obtain⟨x,y,rfl,h1,h2⟩:=hd;obtain⟨ls1,e1,e2⟩:=c5 hm;exact⟨x,y,rfl,h ρ σ H _ ls ls1 a x _ hR hL h1 e1 λσ1 L1=>h' ρ σ1 H _ ls1 ls' b y Q hR L1 h2 e2 hQ⟩
def Bu(n:Nat)(r:MGs):MG:=λd ls hd=>(Ab d).bind λds=>if 103=n then r ds ls hd else none
def Z3{n:Nat}{u:TGs}{r:MGs}(h':Nt K u r):RGt K (Qa K n u) (Bu n r):=by
 intro ρ σ H hd ls ls' d v Q hR hL hd hm hQ;obtain⟨ds,e1,hm⟩:=c5 hm;split at hm
 .next c=>
  obtain⟨a,xs,rfl,q,rr⟩:=hd.tup e1;exact⟨a,xs,rfl,q,by rw[rr.len];exact c,h' ρ σ H _ ls ls' ds xs Q hR hL rr hm hQ⟩
 .cases hm
def Iy(m:ME)(g:MG):MS:=λls hd=>(m ls hd).bind λp=>(g p.1 ls p.2).map λls'=>(.nx ls',p.2)
def Mm{t:TE}{m:ME}{g:TG}{n:MG}(h:RE K t m)(hg:RGt K g n):RS K (F9 t g) (Iy m n):=by
 intro ρ σ H hd ls E f hd' hR hL hm hQ;obtain⟨⟨d1,h1⟩,e1,hm⟩:=c5 hm;obtain⟨ls',e2,e3⟩:=c7 hm;cases e3;exact h ρ σ H hd ls _ d1 _ hR hL e1 λρ1 H1 v x1 R1 r1=>hg ρ1 σ H1 _ ls ls' d1 v _ R1 (hL.ext hR x1) r1 e2 λσ' L'=>hQ ρ1 H1 x1 R1 σ' L'
abbrev AI(i:Nat)(m:ME):MS:=Iy m (AG i)
def QH(ix:List Nat)(ma:MA):MS:=λls hd=>(ma ls hd).bind λp=>if p.1.length=ix.length then some (.nx ((ix.zip p.1).foldl (λl q=>l.set q.1 (some q.2)) ls),p.2)else none
def cY(i j k:Nat)(ma:MA):MS:=QH [k,j,i] (λls hd=>(ma ls hd).map λp=>(p.1.reverse,p.2))
abbrev Gd:=List (Nat×List D)
abbrev MI:=Ls->Hd->Option ((List D×Gd)×Hd)
def GOk(hd:Hd)(g:Gd):Prop:=∀p∈g,hd[p.1]?=some (.lst p.2)
@[simp] theorem AQ(hd:Hd):GOk hd []:=λp h=>by cases h
def Np(K:Frag)(ρ:List Addr)(H:Hp)(J:It)(ds:List D)(g:Gd):Prop:=∀(ρ2:List Addr) (H2:Hp) (hd2:Hd),Ext ρ H ρ2 H2->RH K ρ2 H2 hd2->GOk hd2 g ->
 ∀i:Nat,(i<103->J.go i H2/\∀x H3,J.yld i H2 x H3->∃ρ3 d,Ext ρ2 H2 ρ3 H3/\ρ3=ρ2/\RH K ρ3 H3 hd2/\ds[i]?=some d/\RD K ρ3 H3 d x)/\(i=103->J.stop i H2)
def RIt(K:Frag)(t:TI)(m:MI):Prop:=∀(ρ:List Addr) (σ:St) (H:Hp) (hd:Hd) (ls:Ls) (Q:It->Hp->Prop) (d:List D) (g:Gd) (hd':Hd),RH K ρ H hd->RL K ρ H ls σ->m ls hd=some ((d,g),hd') ->
 (∀ρ' H' J,Ext ρ H ρ' H'->RH K ρ' H' hd'->GOk hd' g->Np K ρ' H' J d g->Q J H')->t σ H Q
def P8{a:Addr}{xs:List V}{ds:List D}(hR:RH K ρ H hd)(q:SqT K H a xs)(r:RDs K ρ H ds xs)(g:Gd):Np K ρ H (Itt K a) ds g:=by
 intro ρ2 H2 hd2 x2 R2 _ i;have q2:=(x2.grow hR).sq q;have r2:=r.ext hR x2;have uniq:∀ys,SqT K H2 a ys->True:=λ_ _=>trivial;refine⟨λhi=>?_,λhi=>⟨xs,q2,by rw[r2.len,hi];exact gm _⟩⟩;have e:ds[i]?=some ds[i]:=by simp[hi]
 obtain⟨x,x1,x3⟩:=r2.get e;refine⟨⟨xs,x,q2,x1⟩,λy H3 ⟨e3,hy⟩=>?_⟩;subst e3;have:=hy xs q2;rw[x1]at this;cases this;exact⟨ρ2,_,.refl,rfl,R2,e,x3⟩
def Ay(m:ME):MI:=λls hd=>(m ls hd).bind λp=>(Ab p.1).map λds=>((ds,[]),p.2)
def Z2{t:TE}{m:ME}(h:RE K t m):RIt K (QX K t) (Ay m):=by
 intro ρ σ H hd ls Q d g hd' hR hL hm hQ;obtain⟨⟨d1,h1⟩,e1,hm⟩:=c5 hm;obtain⟨ds,e2,e3⟩:=c7 hm;cases e3;refine h ρ σ H hd ls _ d1 _ hR hL e1 λρ1 H1 v x1 R1 r1=>?_;obtain⟨a,xs,rfl,q,r⟩:=r1.tup e2;exact⟨a,rfl,⟨xs,q⟩,hQ ρ1 H1 _ x1 R1 (AQ _) (P8 R1 q r [])⟩
def Bw(m:ME):MI:=λls hd=>(m ls hd).bind λp=>match p.1 with
 |.mu n=>match p.2[n]? with
  |some (.lst ds)=>some ((ds,[(n,ds)]),p.2)
  |_=>none
 |.ro ns=>some ((ns.map λn=>.im (.int n),[]),p.2)
 |_=>none
def WD{t:TE}{m:ME}(h:RE K t m):RIt K (MB K t) (Bw m):=by
 intro ρ σ H hd ls Q d g hd' hR hL hm hQ;obtain⟨⟨d1,h1⟩,e1,hm⟩:=c5 hm;dsimp only at hm;split at hm
 .next n=>
  split at hm
  .next ds q=>
   cases hm;refine h ρ σ H hd ls _ _ _ hR hL e1 λρ1 H1 v x1 R1 r1=>?_;simp only[RD]at r1;obtain⟨a,hn,rfl⟩:=r1;obtain⟨xs,e2,e3⟩:=R1.lst hn q;refine⟨a,rfl,⟨xs,SqL.of e2⟩,hQ ρ1 H1 _ x1 R1 (λp z=>by simp at z;subst z;exact q) ?_⟩;intro ρ2 H2 hd2 x2 R2 G2 i;have q2:=G2 (n,d) 75;have hn2:ρ2[n]?=some a:=by
    obtain⟨r,rfl,_⟩:=x2.pre;rw[List.getElem?_append_left (List.getElem?_eq_some_iff.mp hn).1];exact hn
   obtain⟨ys,e4,e5⟩:=R2.lst hn2 q2;refine⟨λhi=>?_,λhi=>⟨ys,SqL.of e4,by rw[e5.len,hi];exact gm _⟩⟩;have e:d[i]?=some d[i]:=by simp[hi]
   obtain⟨x,y1,y2⟩:=e5.get e;refine⟨⟨ys,x,SqL.of e4,y1⟩,λy H3 ⟨e6,hy⟩=>?_⟩;subst e6;have:=hy ys (SqL.of e4);rw[y1]at this;cases this;exact⟨ρ2,_,.refl,rfl,R2,e,y2⟩
  .cases hm
 .next ns=>
  cases hm;refine h ρ σ H hd ls _ _ _ hR hL e1 λρ1 H1 v x1 R1 r1=>?_;simp only[RD]at r1;obtain⟨a,rfl,q⟩:=r1;refine⟨a,rfl,⟨_,q.sq⟩,hQ ρ1 H1 _ x1 R1 (AQ _) ?_⟩;intro ρ2 H2 hd2 x2 R2 G2 i;have q2:=(q.grow (x2.grow R1)).sq;have e5:RDs K ρ2 H2 (ns.map λn=>.im (.int n)) (ns.map V.int):=DY;refine⟨λhi=>?_,λhi=>⟨_,q2,by rw[e5.len,hi];exact gm _⟩⟩;have e:(ns.map λn=>D.im (.int n))[i]?=some ((ns.map λn=>D.im (.int n))[i]):=by simp[hi]
  obtain⟨x,y1,y2⟩:=e5.get e;refine⟨⟨_,x,q2,y1⟩,λy H3 ⟨e6,hy⟩=>?_⟩;subst e6;have:=hy _ q2;rw[y1]at this;cases this;exact⟨ρ2,_,.refl,rfl,R2,e,y2⟩
 .cases hm
def ac(ml:MA):MI:=λls hd=>(ml ls hd).map λp=>((p.1,[]),p.2)
def Aj(lo:Int):Nat->List D
 |0=>[]
 |n+1=>.im (.int lo)::Aj (lo+1) n
@[simp] theorem JX(lo:Int)(n:Nat):(Aj lo n).length=n:=by
 induction n generalizing lo with
 |zero=>rfl
 |succ n ih=>simp[Aj,ih]
def JY{n:Nat}:∀{lo:Int} {i:Nat},i<n->(Aj lo n)[i]?=some (.im (.int (lo+i))):=by
 induction n with
 |zero=>intro lo i h;omega
 |succ n ih=>
  intro lo i h;cases i with
  |zero=>simp[Aj]
  |succ i=>
   simp only[Aj,List.getElem?_cons_succ];rw[ih 67]
   congr 3
   push_cast
   omega
def P9{lo:Int}{n:Nat}{g:Gd}:Np K ρ H (Itr lo n) (Aj lo n) g:=by
 intro ρ2 H2 hd2 x2 R2 G2 i;refine⟨λhi=>?_,λhi=>by rw[hi,JX];exact gm _⟩;rw[JX]at hi;refine⟨hi,λx H3 ⟨e1,e2⟩=>?_⟩;subst e1 e2;exact⟨ρ2,_,.refl,rfl,R2,JY hi,by simp[RD,RI]⟩
open Classical in
def Ee(m:MA):MI:=λls hd=>(m ls hd).bind λp=>match p.1 with
 |[.im (.int j)]=>if Hi j then some ((Aj 0 j.toNat,[]),p.2)else none
 |_=>none
def WC{t:TA}{m:MA}(h:RA K t m):RIt K (QY t) (Ee m):=by
 intro ρ σ H hd ls Q d g hd' hR hL hm hQ;obtain⟨⟨d1,h1⟩,e1,hm⟩:=c5 hm;dsimp only at hm;split at hm
 .next j=>
  split at hm
  .next c=>
   cases hm;refine h ρ σ H hd ls _ _ _ hR hL e1 λρ1 H1 v x1 R1 r1=>?_;simp only[RDs,RD,RI]at r1;obtain⟨x,r,rfl,rfl,rfl⟩:=r1;exact⟨j,rfl,c.1,c.2,hQ ρ1 H1 _ x1 R1 (AQ _) P9⟩
  .cases hm
 .cases hm
open Classical in
def VZ(m:MA):MI:=λls hd=>(m ls hd).bind λp=>match p.1 with
 |[.im (.int i),.im (.int j)]=>if Th i j then some ((Aj i (j-i).toNat,[]),p.2)else none
 |_=>none
open Classical in
def BD(n:MG)(b:MS)(g:Gd):List D->Ls->Hd->Option (Fl×Hd)
 |[],ls,hd=>some (.nx ls,hd)
 |d::r,ls,hd=>(n d ls hd).bind λls1=>(b ls1 hd).bind λp=>match p.1 with
  |.nx ls2=>if GOk p.2 g then BD n b g r ls2 p.2 else none
  |.ct ls2=>if GOk p.2 g then BD n b g r ls2 p.2 else none
  |.bk ls2=>some (.nx ls2,p.2)
  |.rt d=>some (.rt d,p.2)
def CS(mi:MI)(n:MG)(b:MS):MS:=λls hd=>(mi ls hd).bind λp=>BD n b p.1.2 p.1.1 ls p.2
def Yx{wi:TI}{g:TG}{tb:TS}{mi:MI}{n:MG}{b:MS}(hi:RIt K wi mi)(hg:RGt K g n)(hb:RS K tb b):RS K (TR wi g tb) (CS mi n b):=by
 intro ρ σ H hd ls E f hd' hR hL hm hQ;obtain⟨⟨⟨ds,gd⟩,h1⟩,e1,hm⟩:=c5 hm;refine hi ρ σ H hd ls _ ds gd h1 hR hL e1 λρ1 H1 J x1 R1 G1 Y=>?_;dsimp only at hm;refine⟨λi m σ2 H2=>m=103-i/\i<=103/\∃ρ2 ls2 hd2,Ext ρ1 H1 ρ2 H2/\RH K ρ2 H2 hd2/\RL K ρ2 H2 ls2 σ2/\GOk hd2 gd/\BD n b gd (ds.drop i) ls2 hd2=some (f,hd'),
  ⟨103,by simp,iB _,ρ1,ls,h1,.refl,R1,hL.ext hR x1,G1,by simpa using hm⟩,?_⟩
 rintro i m σ2 H2 ⟨rfl,hi,ρ2,ls2,hd2,x2,R2,L2',G2,hm2⟩;obtain⟨Y1,Y2⟩:=Y ρ2 H2 hd2 x2 R2 G2 i;by_cases hlt:i<103
 .obtain⟨go,Y1⟩:=Y1 hlt;have ed:ds.drop i=ds[i]::ds.drop (i+1):=iN hlt;rw[ed]at hm2;unfold BD at hm2;obtain⟨ls3,e3,hm2⟩:=c5 hm2;obtain⟨⟨fl,hd4⟩,e4,hm2⟩:=c5 hm2;refine .inr ⟨go,λσ' H'=>∃ρ2 ls2 hd2,Ext ρ1 H1 ρ2 H'/\RH K ρ2 H' hd2/\RL K ρ2 H' ls2 σ'/\GOk hd2 gd/\BD n b gd (ds.drop (i+1)) ls2 hd2=some (f,hd'),λσ' H' z=>⟨103-(i+1),by omega,rfl,hlt,z⟩,λx H3 y=>?_⟩;obtain⟨ρ3,d3,x3,rfl,R3,e5,r3⟩:=Y1 x H3 y;have e6:d3=ds[i]:=by
   have:ds[i]?=some ds[i]:=by simp[hlt]
   rw[this]at e5;exact(114 e5).symm
  subst e6;refine hg ρ3 σ2 H3 hd2 ls2 ls3 _ x _ R3 (L2'.ext R2 x3) r3 e3 λσ4 L4=>?_;refine hb ρ3 σ4 H3 hd2 ls3 _ fl hd4 R3 L4 e4 λρ5 H5 x5 R5=>?_;have x15:=(x2.trans R2 x3).trans R3 x5;cases fl with
  |nx ls5=>
   intro σ5 L5;dsimp only at hm2;split at hm2
   .next c=>exact⟨ρ5,ls5,hd4,x15,R5,L5,c,hm2⟩
   .cases hm2
  |ct ls5=>
   intro σ5 L5;dsimp only at hm2;split at hm2
   .next c=>exact⟨ρ5,ls5,hd4,x15,R5,L5,c,hm2⟩
   .cases hm2
  |bk ls5=>
   intro σ5 L5;cases hm2;exact hQ ρ5 H5 (x1.trans R1 x15) R5 σ5 L5
  |rt d5=>
   intro v5 r5;cases hm2;exact hQ ρ5 H5 (x1.trans R1 x15) R5 v5 r5
 .have e:i=ds.length:=by omega
  subst e;rw[List.drop_length]at hm2;unfold BD at hm2;cases hm2;exact .inl ⟨Y2 rfl,hQ ρ2 H2 83 R2 σ2 L2'⟩
open Classical in
def B9(n:MG)(c:MT)(m:ME)(g:Gd):List D->Ls->Hd->Option (List D×Hd)
 |[],_,hd=>some ([],hd)
 |d::r,ls,hd=>(n d ls hd).bind λls1=>(c ls1 hd).bind λp=>if p.1=true then(m ls1 p.2).bind λq=>if GOk q.2 g then(B9 n c m g r ls1 q.2).map λz=>(q.1::z.1,z.2)else none else if GOk p.2 g then B9 n c m g r ls1 p.2 else none
def Ey(k:Nat)(ix:List Nat)(ls:Ls):Ls:=102 k none++ix.map λi=>(ls[i]?).join
open Classical in
def Ae(k:Nat)(ix:List Nat)(mi:MI)(n:MG)(c:MT)(m:ME):MA:=λls hd=>(mi ls hd).bind λp=>if CH p.1.1.length then B9 n c m p.1.2 p.1.1 (Ey k ix ls) p.2 else none
def YM{k:Nat}{ix:List Nat}{ls:Ls}{σ:St}(h:RL K ρ H ls σ):RL K ρ H (Ey k ix ls) (Hy k ix σ):=by
 refine⟨by simp[Ey,Hy],λi d e=>?_⟩;unfold Ey at e;unfold Hy;by_cases hi:i<k
 .rw[List.getElem?_append_left (by simpa using hi),List.getElem?_replicate]at e;split at e<;>cases e
 .have hi':k<=i:=Nat.not_lt.mp hi;rw[List.getElem?_append_right (by simpa using hi'),List.length_replicate,List.getElem?_map]at e ⊢;cases q:ix[i-k]? with
  |none=>rw[q]at e;cases e
  |some j=>
   rw[q]at e;simp only[i8,Option.some.injEq]at e ⊢;have e5:ls[j]?=some (some d):=by
    cases w:ls[j]? with
    |none=>rw[w]at e;cases e
    |some z=>rw[w]at e;simpa using e
   obtain⟨v,e6,e7⟩:=h.ob j d e5;exact⟨v,by rw[e6];rfl,e7⟩
def OW{k:Nat}{ix:List Nat}{wi:TI}{g:TG}{tf:TT}{te:TE}{mi:MI}{n:MG}{c:MT}{m:ME}(hi:RIt K wi mi)(hg:RGt K g n)(hf:RT K tf c)(he:RE K te m):RN K (GQ k ix wi g tf te) (Ae k ix mi n c m):=by
 intro ρ σ H hd ls Q out hd' hR hL hm hQ;obtain⟨⟨⟨ds,gd⟩,h1⟩,e1,hm⟩:=c5 hm;dsimp only at hm;split at hm
 .next hlen=>
  have hlen:103<=sizeLine:=hlen;refine hi ρ σ H hd ls _ ds gd h1 hR hL e1 λρ1 H1 J x1 R1 G1 Y=>?_;intro Da hDa;obtain⟨R1',x1'⟩:=R1.hid (ho:=.lst []) hDa;have oD:Da∉ρ1:=R1.out hDa;have nD:H Da=none:=x1.none hR hDa R1;refine⟨λi mm σ2 ys H2=>mm=103-i/\i<=103/\∃ρ2 ls2 hd2 es rest,Ext ρ1 (upd H1 Da (.lst ys)) ρ2 H2/\Ext ρ1 H1 ρ2 H2/\Da∉ρ2/\H2 Da=some (.lst ys)/\RH K ρ2 H2 hd2/\RL K ρ2 H2 ls2 σ2/\RDs K ρ2 H2 es ys/\es.length<=i/\GOk hd2 gd/\B9 n c m gd (ds.drop i) ls2 hd2=some (rest,hd')/\out=es++rest,
   ⟨103,by simp,iB _,ρ1,_,h1,[],out,.refl,x1',oD,AN,R1',(YM ((hL.ext hR x1).ext R1 x1')),.nil,gm _,G1,by simpa using hm,rfl⟩,?_⟩
  rintro i mm σ2 ys H2 ⟨rfl,hi,ρ2,ls2,hd2,es,rest,x2',x2,oD2,hD2,R2,L2',r2,hle,G2,hm2,rfl⟩;refine⟨hD2,?_⟩;obtain⟨Y1,Y2⟩:=Y ρ2 H2 hd2 x2 R2 G2 i;by_cases hlt:i<103
  .obtain⟨go,Y1⟩:=Y1 hlt;have ed:ds.drop i=ds[i]::ds.drop (i+1):=iN hlt;rw[ed]at hm2;unfold B9 at hm2;obtain⟨ls3,e3,hm2⟩:=c5 hm2;obtain⟨⟨bb,hd4⟩,e4,hm2⟩:=c5 hm2;refine .inr ⟨go,Nat.lt_of_le_of_lt (by rw[r2.len];exact hle) 67,λσ' ys' H'=>∃ρ2 ls2 hd2 es' rest',Ext ρ1 (upd H1 Da (.lst ys')) ρ2 H'/\Ext ρ1 H1 ρ2 H'/\Da∉ρ2/\H' Da=some (.lst ys')/\RH K ρ2 H' hd2/\RL K ρ2 H' ls2 σ'/\RDs K ρ2 H' es' ys'/\es'.length<=i+1/\GOk hd2 gd/\B9 n c m gd (ds.drop (i+1)) ls2 hd2=some (rest',hd')/\es++rest=es'++rest',λσ' ys' H' z=>⟨103-(i+1),by omega,rfl,hlt,z⟩,λx H3 y=>?_⟩;obtain⟨ρ3,d3,x3,rfl,R3,e5,r3⟩:=Y1 x H3 y;have e6:d3=ds[i]:=by
    have:ds[i]?=some ds[i]:=by simp[hlt]
    rw[this]at e5;exact(114 e5).symm
   subst e6;refine hg ρ3 σ2 H3 hd2 ls2 ls3 _ x _ R3 (L2'.ext R2 x3) r3 e3 λσ4 L4=>?_;refine hf ρ3 σ4 H3 hd2 ls3 _ bb hd4 R3 L4 e4 λρ5 H5 x5 R5=>?_;have hD5:H5 Da=some (.lst ys):=x5.keep Da _ (x3.keep Da _ hD2 oD2 nt) oD2 nt;have out5:Da∉ρ5:=by
    obtain⟨r,rfl,fr⟩:=x5.pre;intro z;rcases mem_append.mp z with z|z
    .exact oD2 z
    .have:=fr _ z;rw[x3.keep Da _ hD2 oD2 nt]at this;cases this
   cases bb with
   |false=>
    rw[gj Bool.false_ne_true]at hm2 ⊢;have y25:=x3.trans R3 x5;split at hm2
    .next g5=>exact⟨ρ5,ls3,hd4,es,rest,x2'.trans R2 y25,(x2.trans R2 y25),out5,hD5,R5,L4.ext R3 x5,(r2.ext R2 y25),by omega,g5,hm2,rfl⟩
    .cases hm2
   |true=>
    rw[gi rfl]at hm2 ⊢;obtain⟨⟨z,hd6⟩,e6,hm2⟩:=c5 hm2;obtain⟨g6,hm2⟩:GOk hd6 gd/\((B9 n c m gd (ds.drop (i+1)) ls3 hd6).map λq=>(z::q.1,q.2))=some (rest,hd'):=by
     dsimp only at hm2;split at hm2
     .next g6=>exact⟨g6,hm2⟩
     .cases hm2
    obtain⟨⟨zs,hd7⟩,e7,e8⟩:=c7 hm2;cases e8;refine he ρ5 σ4 H5 hd4 ls3 _ z hd6 R5 (L4.ext R3 x5) e6 λρ6 H6 v6 x6 R6 r6=>?_;have hD6:H6 Da=some (.lst ys):=x6.keep Da _ hD5 out5 nt;have out6:Da∉ρ6:=by
     obtain⟨r,rfl,fr⟩:=x6.pre;intro z;rcases mem_append.mp z with z|z
     .exact out5 z
     .have:=fr _ z;rw[hD5]at this;cases this
    refine⟨hD6,?_⟩;have y26:=(x3.trans R3 x5).trans R5 x6;have gr:Grow H6 (upd H6 Da (.lst (ys++[v6]))):=Grow.refl.put (.lst hD6);have R7:=R6.hput (ho:=.lst (ys++[v6])) out6 hD6;have x12:=x2.trans R2 y26;have ext7:Ext ρ1 H1 ρ6 (upd H6 Da (.lst (ys++[v6]))):=⟨x12.pre,λb o q nb t=>by
     have:b≠Da:=AU q hDa;rw[AD this];exact x12.keep b o q nb t,λb ps q=>by
     have:b≠Da:=AU q hDa;rw[AD this];exact x12.tab b ps q⟩
    have ext8:Ext ρ1 (upd H1 Da (.lst (ys++[v6]))) ρ6 (upd H6 Da (.lst (ys++[v6]))):=by
     obtain⟨r,er,fr⟩:=x12.pre;refine⟨⟨r,er,λb hb=>?_⟩,λb o q nb t=>?_,λb ps q=>?_⟩
     .have:b≠Da:=λz=>out6 (by rw[er,<- z];exact gv _ hb);rw[AD this];exact fr b hb
     .by_cases hb:b=Da
      .subst hb;rw[AN]at q ⊢;exact q
      .rw[AD hb]at q ⊢;exact x12.keep b o q nb t
     .by_cases hb:b=Da
      .subst hb;rw[AN]at q;cases q
      .rw[AD hb]at q ⊢;exact x12.tab b ps q
    refine⟨ρ6,ls3,hd6,es++[z],zs,ext8,ext7,out6,AN,R7,?_,?_,by simp;omega,g6,e7,by simp⟩
    .have L6:=(L4.ext R3 x5).ext R5 x6;exact⟨L6.len,λi d e=>let ⟨v,a,b⟩:=L6.ob i d e;⟨v,a,by simpa using b.mono gr []⟩⟩
    .have:=((r2.ext R2 y26).app (.cons r6 .nil)).mono gr [];simpa using this
  .have e:i=ds.length:=by omega
   subst e;rw[List.drop_length]at hm2;unfold B9 at hm2;cases hm2;refine .inl ⟨Y2 rfl,?_⟩;exact hQ ρ2 H2 Da ys 83 R2 nD oD2 hD2 (by simpa using r2)
 .cases hm
end
mutual
def clD(w:Nat):D->Bool
 |.im _=>true
 |.mu n=>decide (n<w)
 |.tm ds=>Ao w ds
 |.ro _=>true
 |.op _ _ ds=>Ao w ds
 |.fv _ ds=>Ao w ds
def Ao(w:Nat):List D->Bool
 |[]=>true
 |d::ds=>clD w d&&Ao w ds
end
def G4(w:Nat):List (Key×D)->Bool
 |[]=>true
 |d::ds=>clD w d.2&&G4 w ds
def clO(w:Nat):MO->Bool
 |.lst ds=>Ao w ds
 |.dic ds=>G4 w ds
section
variable{K:Frag}{ρ ρ' ρ1:List Addr}{H H' H1:Hp}{hd hd' h1 h2:Hd}
@[simp] theorem dz{w:Nat}(a b:List D):Ao w (a++b)=(Ao w a&&Ao w b):=by induction a<;>simp_all [Ao,Bool.and_assoc]
mutual
theorem RD.take(w:Nat):∀{d:D} {v:V},RD K ρ H d v->clD w d=true->RD K (ρ.take w) H d v
 |.im i,v,h,_=>by simp only[RD]at h ⊢;exact h
 |.mu n,v,h,c=>by
  simp only[RD]at h ⊢;obtain⟨a,e,q⟩:=h;exact⟨a,by rw[List.getElem?_take_of_lt (by simpa [clD]using c)];exact e,q⟩
 |.tm ds,v,h,c=>by
  simp only[RD]at h ⊢;obtain⟨a,xs,e,q,z⟩:=h;exact⟨a,xs,e,q,RDs.take' w z (by simpa [clD]using c)⟩
 |.ro ns,v,h,c=>by simp only[RD]at h ⊢;exact h
 |.op nm fs ds,v,h,c=>by
  simp only[RD]at h ⊢;obtain⟨a,xs,e,q,z⟩:=h;exact⟨a,xs,e,q,RDs.take' w z (by simpa [clD]using c)⟩
 |.fv k ds,v,h,c=>by
  simp only[RD]at h ⊢;obtain⟨a,xs,e,q,z⟩:=h;exact⟨a,xs,e,q,RDs.take' w z (by simpa [clD]using c)⟩
theorem RDs.take'(w:Nat):∀{d:List D} {v:List V},RDs K ρ H d v->Ao w d=true->RDs K (ρ.take w) H d v
 |[],v,h,_=>by simpa only[RDs]using h
 |d::ds,v,h,c=>by
  simp only[RDs]at h ⊢;obtain⟨x,r',e,q,z⟩:=h;have c:clD w d=true/\Ao w ds=true:=by simpa [Ao]using c
  exact⟨x,r',e,q.take w c.1,RDs.take' w z c.2⟩
end
theorem RKs.take(w:Nat):∀{d:List (Key×D)} {v:List (Key×V)},RKs K ρ H d v->G4 w d=true->RKs K (ρ.take w) H d v
 |[],v,h,_=>by simpa only[RKs]using h
 |d::ds,v,h,c=>by
  simp only[RKs]at h ⊢;obtain⟨x,r',e,q1,q,z⟩:=h;have c:clD w d.2=true/\G4 w ds=true:=by simpa [G4]using c
  exact⟨x,r',e,q1,q.take w c.1,RKs.take w z c.2⟩
theorem RC.take(w:Nat){o:MO}{ho:HO}(h:RC K ρ H o ho)(c:clO w o=true):RC K (ρ.take w) H o ho:=by
 cases o with
 |lst ds=>obtain⟨xs,e,q⟩:=h;exact⟨xs,e,q.take' w c⟩
 |dic ds=>obtain⟨xs,e,q⟩:=h;exact⟨xs,e,q.take w c⟩
theorem RH.take(h:RH K ρ H hd)(w:Nat)(c:(hd.take w).all (clO w)=true):RH K (ρ.take w) H (hd.take w):=by
 refine⟨by simp[h.len],h.nd.sublist (List.take_sublist _ _),h.tabs,λn o a e1 e2=>?_⟩;have co:=all_eq_true.mp c o (ig e1);have hn:n<w:=by
  have:=(84 e1).1;simp at this;omega
 rw[List.getElem?_take_of_lt hn]at e1 e2;obtain⟨ho,q1,q2⟩:=h.ob n o a e1 e2;exact⟨ho,q1,q2.take w co⟩
def RH.back(R1:RH K ρ1 H1 h1){w:Nat}(hw:w<=h1.length)(c1:(h1.take w).all (clO w)=true)(x:Ext (ρ1.take w) H1 ρ' H')(R':RH K ρ' H' h2)(c:(h2.take w).all (clO w)=true):
 RH K ρ1 H' (h2.take w++h1.drop w)/\Ext ρ1 H1 ρ1 H'/\ρ'.take w=ρ1.take w:=by
 obtain⟨r,rfl,fr⟩:=x.pre;have lw:(ρ1.take w).length=w:=by rw[iG,R1.len];omega
 have l2:w<=h2.length:=by rw[<- R'.len];simp[lw]
 have tk:(ρ1.take w++r).take w=ρ1.take w:=by rw[List.take_append_of_le_length 67,List.take_take];simp
 refine⟨⟨?_,R1.nd,R'.tabs,λn o a e1 e2=>?_⟩,⟨⟨[],by simp,by simp⟩,λb o q nb t=>x.keep b o q (λm=>nb (List.mem_of_mem_take m)) t,x.tab⟩,tk⟩
 .rw[iM,iG,length_drop,R1.len];omega
 .by_cases hn:n<w
  .rw[List.getElem?_append_left (by rw[iG];omega),List.getElem?_take_of_lt hn]at e1;have e3:(ρ1.take w++r)[n]?=some a:=by
    rw[List.getElem?_append_left 67,List.getElem?_take_of_lt hn];exact e2
   obtain⟨ho,q1,q2⟩:=R'.ob n o a e1 e3;have co:=all_eq_true.mp c o (by
    have:(h2.take w)[n]?=some o:=by rw[List.getElem?_take_of_lt hn];exact e1
    exact ig this)
   have q3:=q2.take w co;rw[tk]at q3;have q4:=q3.mono (Grow.refl (H:=H')) (ρ1.drop w);rw[j4]at q4;exact⟨ho,q1,q4⟩
  .rw[List.getElem?_append_right (by rw[iG];omega),iG,List.getElem?_drop]at e1;have e1:h1[n]?=some o:=by
    have:w+(n-min w h2.length)=n:=by omega
    rw[this]at e1;exact e1
   obtain⟨ho,q1,q2⟩:=R1.ob n o a e1 e2;have out:a∉ρ1.take w:=λm=>by
    obtain⟨k,hk⟩:=mem_iff_getElem?.mp m;have kw:k<w:=by
     have:=(84 hk).1;rw[lw]at this;exact this
    rw[List.getElem?_take_of_lt kw]at hk;have:=(List.getElem?_inj (84 e2).1 R1.nd).mp (e2.trans hk.symm);omega
   have gr:=x.grow (R1.take w c1);exact⟨ho,x.keep a ho q1 out (λps z=>by rcases R1.mut (ig e2)with⟨y,w⟩|⟨y,w⟩<;>(rw[q1,z]at w;cases w)),by simpa using q2.mono gr []⟩
def spF(K:Frag)(k:Nat)(F:List D->Hd->Option 104):Sp:=λvs H Q _=>vs.length=k/\∃(ρ:List Addr) (hd:Hd) (ds:List D) (d:D) (hd':Hd),RH K ρ H hd/\RDs K ρ H ds vs/\F ds hd=some (d,hd')/\
 ∀ρ' H' v,Ext ρ H ρ' H'->RH K ρ' H' hd'->RD K ρ' H' d v->Q v H'
def mkF(k n:Nat)(m:MS):List D->Hd->Option 104:=λds hd=>if 103=k then(match m (ds.map some++102 (n-k) none) hd with
 |some (.rt d,hd')=>some (d,hd')
 |some (.nx _,hd')=>some (.im .non,hd')
 | _=>none)else none
def Mo{N:List Str}:∀{ds:List D} {vs:List V},RDs K ρ H ds vs->RL K ρ H (ds.map some++102 (N.length-103) none) (start N vs):=by
 intro ds vs r;have hl:=r.len;refine⟨by simp[start,hl],λi d e=>?_⟩;unfold start;by_cases hi:i<103
 .rw[List.getElem?_append_left (by simpa using hi),List.getElem?_map]at e;have e':ds[i]?=some d:=by
   cases q:ds[i]? with
   |none=>rw[q]at e;cases e
   |some z=>rw[q]at e;simpa using e
  obtain⟨x,x1,x2⟩:=r.get e';exact⟨x,by rw[List.getElem?_append_left (by rw[hX,hl];exact hi),List.getElem?_map,x1];rfl,x2⟩
 .rw[List.getElem?_append_right (by simpa using Nat.not_lt.mp hi),List.getElem?_replicate]at e;split at e<;>cases e
def OR{k:Nat}{N:List Str}{m:MS}{t:TS}(h:RS K t m){vs:List V}{H:Hp}{Q:VK}{E:XK}(s:spF K k (mkF k N.length m) vs H Q E):t { nx:=λ_ H'=>Q .non H',rt:=Q } (start N vs) H:=by
 obtain⟨hk,ρ,hd,ds,d,hd',hR,hr,hF,hQ⟩:=s;unfold mkF at hF;split at hF
 .next hl=>
  subst hl;split at hF
  .next q=>
   cases hF;exact h ρ _ H hd _ _ _ _ hR (Mo hr) q λρ' H' x R v r=>hQ ρ' H' v x R r
  .next q=>
   cases hF;exact h ρ _ H hd _ _ _ _ hR (Mo hr) q λρ' H' x R σ L=>hQ ρ' H' .non x R 101
  .cases hF
 .cases hF
def D7(F:List D->Hd->Option 104)(ma:MA):ME:=λls hd=>(ma ls hd).bind λp=>F p.1 p.2
def Tt{k:Nat}{F:List D->Hd->Option 104}{t:TA}{m:MA}(h:RA K t m)(hk:∀ds hd z,F ds hd=some z->103=k):RE K (FU (spF K k F) [] E0 t) (D7 F m):=by
 and_intros;obtain⟨⟨d1,h1⟩,e1,hm⟩:=c5 hm;refine h ρ σ H hd ls _ d1 h1 hR hL e1 λρ1 H1 v1 x1 R1 r1=>?_;rw[iF];exact⟨by rw[r1.len];exact hk _ _ _ hm,ρ1,h1,d1,d,hd',R1,r1,hm,λρ' H' w x2 R2 r2=>hQ ρ' H' w 83 R2 r2⟩
def Om{k n:Nat}{m:MS}:∀ds hd z,mkF k n m ds hd=some z->103=k:=λds hd z h=>by
 unfold mkF at h;split at h
 .next e=>exact e
 .cases h
def fin(w:Nat)(d:D)(h2 rest:Hd):Option 104:=if(h2.take w).all (clO w)=true then(match d with
 | .mu k=>if k<w then some (.mu k,h2.take w++rest)else(match h2[k]? with
  |some (.lst ds)=>if Ao w ds=true then some (.mu (w+rest.length),h2.take w++rest++[.lst ds])else none
  | _=>none)
 | d=>if clD w d=true then some (d,h2.take w++rest)else none)else none
def A8(w:Nat)(F:List D->Hd->Option 104)(ma:MA):ME:=λls hd=>(ma ls hd).bind λp=>
 if w<=p.2.length/\Ao w p.1=true/\(p.2.take w).all (clO w)=true then(F p.1 (p.2.take w)).bind λr=>fin w r.1 r.2 (p.2.drop w)else none
def Tr{w k:Nat}{F:List D->Hd->Option 104}{t:TA}{m:MA}(h:RA K t m)(hk:∀ds hd z,F ds hd=some z->103=k):RE K (FU (spF K k F) [] E0 t) (A8 w F m):=by
 and_intros;obtain⟨⟨d1,h1⟩,e1,hm⟩:=c5 hm;dsimp only at hm;split at hm
 .next c=>
  obtain⟨c0,c1,c2⟩:=c;obtain⟨⟨d2,h2⟩,e2,hm⟩:=c5 hm;refine h ρ σ H hd ls _ d1 h1 hR hL e1 λρ1 H1 v1 x1 R1 r1=>?_;rw[iF];refine⟨by rw[r1.len];exact hk _ _ _ e2,ρ1.take w,h1.take w,d1,d2,h2,R1.take w c2,r1.take' w c1,e2,λρ' H' v x2 R2 r2=>?_⟩;unfold fin at hm;dsimp only at hm;split at hm
  .next c3=>
   obtain⟨R3,x3,tk⟩:=R1.back c0 c2 x2 R2 c3;have up:∀{d:D} {v:V},RD K ρ' H' d v->clD w d=true->RD K ρ1 H' d v:=λr c=>by
    have q:=r.take w c;rw[tk]at q;have q:=q.mono (Grow.refl (H:=H')) (ρ1.drop w);rw[j4]at q;exact q
   have ups:∀{d:List D} {v:List V},RDs K ρ' H' d v->Ao w d=true->RDs K ρ1 H' d v:=λr c=>by
    have q:=r.take' w c;rw[tk]at q;have q:=q.mono (Grow.refl (H:=H')) (ρ1.drop w);rw[j4]at q;exact q
   split at hm
   .next k'=>
    split at hm
    .next hk'=>
     cases hm;exact hQ ρ1 H' v (x1.trans R1 x3) R3 (up r2 (by simpa [clD]using hk'))
    .next hk'=>
     split at hm
     .next ds q=>
      split at hm
      .next c4=>
       cases hm;simp only[RD]at r2;obtain⟨a,ea,rfl⟩:=r2;obtain⟨xs,l1,l2⟩:=R2.lst ea q;have len3:=R3.len;have out:a∉ρ1:=λm=>by
        -- a is one of those made behind the first w
        obtain⟨r,er,fr⟩:=x2.pre;have lw:(ρ1.take w).length=w:=by rw[iG,R1.len];omega
        have ma:a∈r:=by
         rw[er,List.getElem?_append_right (by rw[lw];omega)]at ea;exact ig ea
        exact R1.out (fr a ma) m
       have na:H1 a=none:=by
        obtain⟨r,er,fr⟩:=x2.pre;have lw:(ρ1.take w).length=w:=by rw[iG,R1.len];omega
        have ma:a∈r:=by
         rw[er,List.getElem?_append_right (by rw[lw];omega)]at ea;exact ig ea
        exact fr a ma
       refine hQ (ρ1++[a]) H' _ (x1.trans R1 (x3.name na)) (R3.name out l1 (ups l2 c4)) ?_;simp only[RD];refine⟨a,?_,rfl⟩;have:w+(List.drop w h1).length=ρ1.length:=by rw[length_drop,R1.len];omega
       rw[this];simp
      .cases hm
     .cases hm
   .next d' nd=>
    split at hm
    .next c4=>cases hm;exact hQ ρ1 H' v (x1.trans R1 x3) R3 (up r2 c4)
    .cases hm
  .cases hm
 .cases hm
def BM(c:MT)(b:MS):Nat->Ls->Hd->Option (Fl×Hd)
 |0,_,_=>none
 | k+1,ls,hd=>(c ls hd).bind λp=>if p.1=true then(b ls p.2).bind λq=>(match q.1 with
  |.nx ls2=>BM c b k ls2 q.2
  |.ct ls2=>BM c b k ls2 q.2
  |.bk ls2=>some (.nx ls2,q.2)
  | .rt d=>some (.rt d,q.2))else some (.nx ls,p.2)
open Classical in
def FF(c:MT)(b:MS):MS:=λls hd=>if h:∃r k,BM c b k ls hd=some r then some h.choose else none
theorem ED{c:MT}{b:MS}:∀{k j:Nat} {ls:Ls} {hd:Hd} {r:Fl×Hd},BM c b k ls hd=some r->k<=j->BM c b j ls hd=some r
 |0,_,_,_,_,h,_=>by cases h
 |k+1,0,_,_,_,_,hj=>by omega
 |k+1,j+1,ls,hd,r,h,hj=>by
  unfold BM at h ⊢;obtain⟨p,e1,h⟩:=c5 h;rw[e1];show(if p.1=true then _ else _)=_;split at h
  .next c=>
   rw[gi c];obtain⟨q,e2,h⟩:=c5 h;rw[e2];obtain⟨f,hd2⟩:=q;cases f with
   |nx ls2=>exact ED h 67
   |ct ls2=>exact ED h 67
   |bk ls2=>exact h
   |rt d=>exact h
  .next c=>rw[gj c];exact h
def SC{c:MT}{b:MS}{k:Nat}{ls:Ls}{hd:Hd}{r:Fl×Hd}(h:BM c b k ls hd=some r):FF c b ls hd=some r:=by
 unfold FF;have ex:∃r k,BM c b k ls hd=some r:=⟨r,k,h⟩
 rw[dif_pos ex];obtain⟨j,e⟩:=ex.choose_spec;have e1:=ED e (Nat.le_max_left j k);have e2:=ED h (Nat.le_max_right j k);rw[e1]at e2;exact e2
def Te{tc:TT}{tb:TS}{c:MT}{b:MS}(hc:RT K tc c)(hb:RS K tb b):RS K (MN tc tb) (FF c b):=by
 intro ρ σ H hd ls E f hd' hR hL hm hQ;obtain⟨k,hk⟩:∃k,BM c b k ls hd=some (f,hd'):=by
  unfold FF at hm;split at hm
  .next ex=>
   obtain⟨j,e⟩:=ex.choose_spec;exact⟨j,by rw[e];exact hm⟩
  .cases hm
 refine⟨λm σ2 H2=>∃ρ2 ls2 hd2,Ext ρ H ρ2 H2/\RH K ρ2 H2 hd2/\RL K ρ2 H2 ls2 σ2/\BM c b m ls2 hd2=some (f,hd'),⟨k,ρ,ls,hd,.refl,hR,hL,hk⟩,?_⟩;rintro m σ2 H2 ⟨ρ2,ls2,hd2,x2,R2,L2',hm2⟩;cases m with
 |zero=>cases hm2
 |succ m=>
  unfold BM at hm2;obtain⟨⟨bb,hd3⟩,e1,hm2⟩:=c5 hm2;refine hc ρ2 σ2 H2 hd2 ls2 _ bb hd3 R2 L2' e1 λρ3 H3 x3 R3=>?_;cases bb with
  |false=>
   rw[gj Bool.false_ne_true]at hm2 ⊢;cases hm2;exact hQ ρ3 H3 (x2.trans R2 x3) R3 σ2 (L2'.ext R2 x3)
  |true=>
   rw[gi rfl]at hm2 ⊢;obtain⟨⟨fl,hd4⟩,e2,hm2⟩:=c5 hm2;refine⟨λσ' H'=>∃ρ2 ls2 hd2,Ext ρ H ρ2 H'/\RH K ρ2 H' hd2/\RL K ρ2 H' ls2 σ'/\BM c b m ls2 hd2=some (f,hd'),λσ' H' z=>⟨m,jk m,z⟩,?_⟩;refine hb ρ3 σ2 H3 hd3 ls2 _ fl hd4 R3 (L2'.ext R2 x3) e2 λρ5 H5 x5 R5=>?_;have x15:=(x2.trans R2 x3).trans R3 x5;cases fl with
   |nx ls5=>intro σ5 L5;exact⟨ρ5,ls5,hd4,x15,R5,L5,hm2⟩
   |ct ls5=>intro σ5 L5;exact⟨ρ5,ls5,hd4,x15,R5,L5,hm2⟩
   |bk ls5=>intro σ5 L5;cases hm2;exact hQ ρ5 H5 x15 R5 σ5 L5
   |rt d5=>intro v5 r5;cases hm2;exact hQ ρ5 H5 x15 R5 v5 r5
def Cj(kvs:List (Key×D))(k:Key):Option D:=(kvs.find? λkv=>decide (kv.1=k)).map (·.2)
def Dk(kvs:List (Key×D))(k:Key)(v:D):List (Key×D):=
 if(kvs.any λkv=>decide (kv.1=k))=true then kvs.map (λkv=>if kv.1=k then(kv.1,v)else kv)else kvs++[(k,v)]
theorem RKs.val:∀{kvs:List (Key×D)} {xs:List (Key×V)} {k:Key} {d:D},RKs K ρ H kvs xs->Cj kvs k=some d->∃v,E2 xs k=some v/\RD K ρ H d v
 |[],xs,k,d,h,e=>by simp[Cj]at e
 |p::kvs,xs,k,d,h,e=>by
  simp only[RKs]at h;obtain⟨x,r,rfl,e1,r1,r2⟩:=h;by_cases hk:p.1=k
  .rw[F7 (e1.trans hk)];simp[Cj,iR,hk]at e;subst e;exact⟨_,rfl,r1⟩
  .rw[F8 (by rw[e1];exact hk)];simp only[Cj,iR,hk,decide_false]at e;exact RKs.val r2 e
theorem RKs.valN:∀{kvs:List (Key×D)} {xs:List (Key×V)} {k:Key},RKs K ρ H kvs xs->(E2 xs k).isSome=(Cj kvs k).isSome
 |[],xs,k,h=>by simp only[RKs]at h;subst h;rfl
 |p::kvs,xs,k,h=>by
  simp only[RKs]at h;obtain⟨x,r,rfl,e1,r1,r2⟩:=h;by_cases hk:p.1=k
  .rw[F7 (e1.trans hk)];simp[Cj,iR,hk]
  .rw[F8 (by rw[e1];exact hk)];simp only[Cj,iR,hk,decide_false];exact RKs.valN r2
theorem RKs.any:∀{kvs:List (Key×D)} {xs:List (Key×V)} {k:Key},RKs K ρ H kvs xs->(xs.any λkv=>decide (kv.1=k))=(kvs.any λkv=>decide (kv.1=k))
 |[],xs,k,h=>by simp only[RKs]at h;subst h;rfl
 |p::kvs,xs,k,h=>by
  simp only[RKs]at h;obtain⟨x,r,rfl,e1,r1,r2⟩:=h;simp only[any_cons,e1,RKs.any r2]
theorem RKs.upd:∀{kvs:List (Key×D)} {xs:List (Key×V)} {k:Key} {d:D} {v:V},RKs K ρ H kvs xs->RD K ρ H d v->RKs K ρ H (kvs.map (λkv=>if kv.1=k then(kv.1,d)else kv)) (xs.map (λkv=>if kv.1=k then(kv.1,v)else kv))
 |[],xs,k,d,v,h,_=>by simp only[RKs]at h;subst h;simp[RKs]
 |p::kvs,xs,k,d,v,h,q=>by
  simp only[RKs]at h;obtain⟨x,r,rfl,e1,r1,r2⟩:=h;simp only[gq,RKs];refine⟨_,_,rfl,?_,?_,RKs.upd r2 q⟩
  .rw[e1];split<;>simp[e1]
  .rw[e1];split
   .exact q
   .exact r1
theorem RKs.app:∀{kvs ks:List (Key×D)} {xs ys:List (Key×V)},RKs K ρ H kvs xs->RKs K ρ H ks ys->RKs K ρ H (kvs++ks) (xs++ys)
 |[],ks,xs,ys,h,t=>by simp only[RKs]at h;subst h;simpa using t
 |d::ds,ks,xs,ys,h,t=>by
  simp only[RKs]at h;obtain⟨x,r,rfl,e,z,q⟩:=h;simp only[cons_append,RKs];exact⟨_,_,rfl,e,z,q.app t⟩
def RKs.put{kvs:List (Key×D)}{xs:List (Key×V)}{k:Key}{d:D}{v:V}(h:RKs K ρ H kvs xs)(q:RD K ρ H d v):RKs K ρ H (Dk kvs k d) (CP xs k v):=by
 unfold Dk CP;rw[h.any];split
 .exact h.upd q
 .exact h.app (by simp only[RKs];exact⟨_,_,rfl,rfl,q,rfl⟩)
def E8:D->Option Key
 |.im (.int i)=>some (.inl i)
 |.im (.str x)=>some (.inr x)
 |_=>none
def KN{d:D}{v:V}{k:Key}(h:RD K ρ H d v)(e:E8 d=some k):v=kV k:=by
 cases d with
 |im i=>
  cases i with
  |int i=>simp only[E8,Option.some.injEq]at e;subst e;simp only[RD,RI]at h;exact h
  |str i=>simp only[E8,Option.some.injEq]at e;subst e;simp only[RD,RI]at h;exact h
  |_=>simp[E8]at e
 |_=>simp[E8]at e
def F3(hd:Hd):D->Option (List (Key×D))
 |.mu n=>match hd[n]? with
  |some (.dic kvs)=>some kvs
  |_=>none
 |_=>none
theorem RD.dic{d:D}{v:V}{kvs:List (Key×D)}(hR:RH K ρ H hd)(h:RD K ρ H d v)(e:F3 hd d=some kvs):∃n a xs,d=.mu n/\v=.ref a/\ρ[n]?=some a/\H a=some (.dK xs)/\RKs K ρ H kvs xs:=by
 cases d with
 |mu n=>
  simp only[F3]at e;simp only[RD]at h;obtain⟨a,hn,rfl⟩:=h;split at e
  .next q=>
   cases e;obtain⟨xs,e1,e2⟩:=hR.dic hn q;exact⟨n,a,xs,rfl,rfl,hn,e1,e2⟩
  .cases e
 |_=>simp[F3]at e
def CY:D->D->Hd->Option 104:=λd e hd=>(F3 hd d).bind λkvs=>(E8 e).bind λk=>(Cj kvs k).map (·,hd)
def WX{td ty:TE}{md my:ME}(hd:RE K td md)(hy:RE K ty my):RE K (Pa td ty) (mOp CY md my):=by
 intro ρ σ H hd0 ls Q d hd' hR hL hm hQ;obtain⟨⟨d1,h1⟩,e1,hm⟩:=c5 hm;obtain⟨⟨d2,h2⟩,e2,hm⟩:=c5 hm;obtain⟨kvs,e3,hm⟩:=c5 hm;obtain⟨k,e4,hm⟩:=c5 hm;obtain⟨w,e5,e6⟩:=c7 hm;cases e6;refine hd ρ σ H hd0 ls _ d1 h1 hR hL e1 λρ1 H1 v1 x1 R1 r1=>?_;refine hy ρ1 σ H1 h1 ls _ d2 _ R1 (hL.ext hR x1) e2 λρ2 H2 v2 x2 R2 r2=>?_;obtain⟨n,a,xs,rfl,rfl,hn,l1,l2⟩:=RD.dic R2 (r1.ext R1 x2) e3;have:=KN r2 e4;subst this;obtain⟨v,v1,v2⟩:=l2.val e5;exact⟨a,v,rfl,v1 ▸ DGet.k l1,hQ ρ2 H2 v 83 R2 v2⟩
open Classical in
def Fd(md my mv:ME):MS:=λls hd=>(mv ls hd).bind λp=>(md ls p.2).bind λq=>(my ls q.2).bind λr=>(E8 r.1).bind λk=>match q.1 with
 |.mu n=>match r.2[n]? with
  |some (.dic kvs)=>if Go kvs.length then some (.nx ls,r.2.set n (.dic (Dk kvs k p.1)))else none
  |_=>none
 |_=>none
def W7{td ty tv:TE}{md my mv:ME}(hd:RE K td md)(hy:RE K ty my)(hv:RE K tv mv):RS K (Pn td ty tv) (Fd md my mv):=by
 intro ρ σ H hd0 ls E f hd' hR hL hm hQ;obtain⟨⟨d1,h1⟩,e1,hm⟩:=c5 hm;obtain⟨⟨d2,h2⟩,e2,hm⟩:=c5 hm;obtain⟨⟨d3,h3⟩,e3,hm⟩:=c5 hm;obtain⟨k,e4,hm⟩:=c5 hm;dsimp only at hm;split at hm
 .split at hm
  .next q=>
   split at hm
   .next c=>
    cases hm;refine hv ρ σ H hd0 ls _ d1 h1 hR hL e1 λρ1 H1 v1 x1 R1 r1=>?_;refine hd ρ1 σ H1 h1 ls _ _ h2 R1 (hL.ext hR x1) e2 λρ2 H2 v2 x2 R2 r2=>?_;refine hy ρ2 σ H2 h2 ls _ d3 _ R2 (hL.ext hR 83) e3 λρ3 H3 v3 x3 R3 r3=>?_;have r2:=r2.ext R2 x3;simp only[RD]at r2;obtain⟨a,hn,rfl⟩:=r2;obtain⟨xs,l1,l2⟩:=R3.dic hn q;have:=KN r3 e4;subst this;obtain⟨R4,x4⟩:=R3.put hn (o:=.dic (Dk _ k d1)) (ho:=.dK (CP xs k v1)) ⟨_,rfl,l2.put ((r1.ext R1 x2).ext R2 x3)⟩;have x13:=(83).trans R2 x3;exact⟨a,_,rfl,DPut.k l1 (by rw[l2.len];exact c),hQ ρ3 _ (x13.trans R3 x4) R4 σ ((hL.ext hR x13).ext R3 x4)⟩
   .cases hm
  .cases hm
 .cases hm
def EZ:List (ME×ME)->Ls->Hd->Option (List (Key×D)×Hd)
 |[],_,hd=>some ([],hd)
 |(mk,mv)::r,ls,hd=>(mk ls hd).bind λp=>(mv ls p.2).bind λq=>(EZ r ls q.2).bind λz=>(E8 p.1).map λk=>((k,q.1)::z.1,z.2)
def GA(kvs more:List (Key×D)):List (Key×D):=more.foldl (λacc kv=>Dk acc kv.1 kv.2) kvs
theorem RKs.merge:∀{more kvs:List (Key×D)} {ms xs:List (Key×V)},RKs K ρ H more ms->RKs K ρ H kvs xs->RKs K ρ H (GA kvs more) (EX xs ms)
 |[],kvs,ms,xs,h,t=>by simp only[RKs]at h;subst h;exact t
 |d::ds,kvs,ms,xs,h,t=>by
  simp only[RKs]at h;obtain⟨x,r,rfl,e,z,q⟩:=h;show RKs K ρ H (GA (Dk kvs d.1 d.2) ds) (EX (CP xs x.1 x.2) r);rw[e];exact q.merge (t.put z)
def RPs(K:Frag):List (TE×TE)->List (ME×ME)->Prop
 |[],[]=>True
 |t::ts,m::ms=>RE K t.1 m.1/\RE K t.2 m.2/\RPs K ts ms
 |_,_=>False
theorem My:∀{trs:List (TE×TE)} {ms:List (ME×ME)},RPs K trs ms->∀(ρ:List Addr) (σ:St) (H:Hp) (hd:Hd) (ls:Ls) (Q:List (V×V)->Hp->Prop) (kvs:List (Key×D)) (hd':Hd),RH K ρ H hd->RL K ρ H ls σ->EZ ms ls hd=some (kvs,hd') ->
 (∀ρ' H' xs,Ext ρ H ρ' H'->RH K ρ' H' hd'->RKs K ρ' H' kvs xs->Q (xs.map λkv=>(kV kv.1,kv.2)) H')->HQ trs σ H Q
 |[],[],_,ρ,σ,H,hd,ls,Q,kvs,hd',hR,hL,hm,hQ=>by
  cases hm;exact hQ ρ H [] .refl hR (by simp[RKs])
 |(tk,tv)::ts,(mk,mv)::ms,⟨a,b,c⟩,ρ,σ,H,hd,ls,Q,kvs,hd',hR,hL,hm,hQ=>by
   unfold EZ at hm;obtain⟨⟨d1,h1⟩,e1,hm⟩:=c5 hm;obtain⟨⟨d2,h2⟩,e2,hm⟩:=c5 hm;obtain⟨⟨d3,h3⟩,e3,hm⟩:=c5 hm;obtain⟨k,e4,e5⟩:=c7 hm;cases e5;unfold HQ;refine a ρ σ H hd ls _ d1 h1 hR hL e1 λρ1 H1 v1 x1 R1 r1=>?_;refine b ρ1 σ H1 h1 ls _ d2 h2 R1 (hL.ext hR x1) e2 λρ2 H2 v2 x2 R2 r2=>?_;refine My c ρ2 σ H2 h2 ls _ d3 _ R2 (hL.ext hR 83) e3 λρ3 H3 xs x3 R3 r3=>?_;have:=KN r1 e4;subst this;exact hQ ρ3 H3 ((k,v2)::xs) ((83).trans R2 x3) R3 (by simp only[RKs];exact⟨_,_,rfl,rfl,r2.ext R2 x3,r3⟩)
 |[],_::_,h,_,_,_,_,_,_,_,_,_,_,_,_=>h.elim
 |_::_,[],h,_,_,_,_,_,_,_,_,_,_,_,_=>h.elim
def M7(ms:List (ME×ME)):ME:=λls hd=>(EZ ms ls hd).bind λp=>if p.1.length<=15 then some (.mu p.2.length,p.2++[.dic (GA [] p.1)])else none
def RH.nameD(hR:RH K ρ H hd){a:Addr}{xs:List (Key×V)}{kvs:List (Key×D)}(out:a∉ρ){o:HO}(e:H a=some o)(hs:¬ Stb o)(r:RKs K ρ H kvs xs)(h1:∀ps,o≠.tbl ps:=by intro _ z;cases z)(h2:∀φ,o≠.ext φ:=by intro _ z;cases z):RH K (ρ++[a]) (upd H a (.dK xs)) (hd++[.dic kvs]):=by
 have gr:Grow H (upd H a (.dK xs)):=Grow.refl.put λu st z=>hs (by rw[e]at z;cases z;exact st);refine⟨by simp[hR.len],?_,hR.tabs.upd (λps z=>h1 ps (114 (e.symm.trans z))) (λps z=>h2 ps (114 (e.symm.trans z))),λn o' b e1 e2=>?_⟩
 .rw[nodup_append];refine⟨hR.nd,by simp,λx hx y hy z=>?_⟩;simp at hy;subst hy;subst z;exact out hx
 .by_cases hn:n<ρ.length
  .rw[List.getElem?_append_left hn]at e2;rw[List.getElem?_append_left (by rw[<- hR.len];exact hn)]at e1;obtain⟨ho',q1,q2⟩:=hR.ob n o' b e1 e2;have:b≠a:=λz=>out (by rw[<- z];exact ig e2);exact⟨ho',by rw[AD this];exact q1,q2.mono gr [a]⟩
  .have hn':n=ρ.length:=by
    have:=(84 e2).1;simp at this;omega
   subst hn';simp at e2;rw[hR.len]at e1;simp at e1;subst e1;subst e2;exact⟨_,AN,⟨xs,rfl,r.mono gr [_]⟩⟩
def WW{trs:List (TE×TE)}{ms:List (ME×ME)}(h:RPs K trs ms):RE K (PZ trs) (M7 ms):=by
 and_intros;obtain⟨⟨kvs,h1⟩,e1,hm⟩:=c5 hm;dsimp only at hm;split at hm
 .next c=>
  cases hm;intro p hp;obtain⟨R0,x0⟩:=hR.hid (ho:=.dK []) hp;refine My h ρ σ _ hd ls _ kvs h1 R0 (hL.ext hR x0) e1 λρ1 H1 xs x1 R1 r1=>?_;have hp1:H1 p=some (.dK []):=x1.keep p _ AN (hR.out hp) nt;have op:p∉ρ1:=by
   obtain⟨r,rfl,fr⟩:=x1.pre;intro z;rcases mem_append.mp z with z|z
   .exact hR.out hp z
   .have:=fr _ z;rw[AN]at this;cases this
  refine⟨hp1,xs,rfl,by rw[r1.len];exact c,?_⟩;have mm:RKs K ρ1 H1 (GA [] kvs) (EX [] xs):=r1.merge (by simp[RKs]);have R2:=R1.nameD op hp1 (λz=>z) mm;have x01:=x0.trans R0 x1;refine hQ (ρ1++[p]) _ _ ?_ R2 ?_
  .obtain⟨r,er,fr⟩:=x01.pre;refine⟨⟨r++[p],by rw[er];simp,λb m=>?_⟩,λb o q nb t=>?_,λb ps q=>?_⟩
   .rcases mem_append.mp m with m|m
    .exact fr b m
    .simp at m;subst m;exact hp
   .have:b≠p:=AU q hp;rw[AD this];exact x01.keep b o q nb t
   .have:b≠p:=AU q hp;rw[AD this];exact x01.tab b ps q
  .simp only[RD];exact⟨p,by rw[<- R1.len];simp,rfl⟩
 .cases hm
def Eu(mo mi mv:ME):MS:=λls hd=>(mv ls hd).bind λp=>(mo ls p.2).bind λq=>(mi ls q.2).bind λr=>match q.1,r.1 with
 |.mu n,.im (.int i)=>match r.2[n]? with
  |some (.lst ds)=>(ixN 103 i).map λj=>(.nx ls,r.2.set n (.lst (ds.set j p.1)))
  |_=>none
 |_,_=>none
def W4{to ti tv:TE}{mo mi mv:ME}(ho:RE K to mo)(hi:RE K ti mi)(hv:RE K tv mv):RS K (F9 tv (Us to ti JZ)) (Eu mo mi mv):=by
 intro ρ σ H hd0 ls E f hd' hR hL hm hQ;obtain⟨⟨d1,h1⟩,e1,hm⟩:=c5 hm;obtain⟨⟨d2,h2⟩,e2,hm⟩:=c5 hm;obtain⟨⟨d3,h3⟩,e3,hm⟩:=c5 hm;dsimp only at hm;split at hm
 .split at hm
  .next q=>
   obtain⟨j,e4,e5⟩:=c7 hm;cases e5;refine hv ρ σ H hd0 ls _ d1 h1 hR hL e1 λρ1 H1 v1 x1 R1 r1=>?_;refine ho ρ1 σ H1 h1 ls _ _ h2 R1 (hL.ext hR x1) e2 λρ2 H2 v2 x2 R2 r2=>?_;refine hi ρ2 σ H2 h2 ls _ _ _ R2 (hL.ext hR 83) e3 λρ3 H3 v3 x3 R3 r3=>?_;have r2:=r2.ext R2 x3;simp only[RD]at r2;obtain⟨a,hn,rfl⟩:=r2;simp only[RD,RI]at r3;subst r3;obtain⟨xs,l1,l2⟩:=R3.lst hn q;obtain⟨R4,x4⟩:=R3.put hn (o:=.lst _) (ho:=.lst (xs.set j v1)) ⟨_,rfl,l2.set j ((r1.ext R1 x2).ext R2 x3)⟩;have x13:=(83).trans R2 x3;exact⟨a,xs,_,j,rfl,rfl,l1,by rw[l2.len];exact e4,hQ ρ3 _ (x13.trans R3 x4) R4 σ ((hL.ext hR x13).ext R3 x4)⟩
  .cases hm
 .cases hm
end
end L2
namespace L2
open PySem PySem.Spec PyProof.Rows
structure QG(K:Frag)(X:Cx)(e:Expr)(t:TG)(m:MG):Prop where
 p:PG X e t
 r:RGt K t m
structure QGs(K:Frag)(X:Cx)(e:List Expr)(t:TGs)(m:MGs):Prop where
 p:PGs X e t
 r:Nt K t m
structure QI(K:Frag)(X:Cx)(tg e:Expr)(t:TI)(m:MI):Prop where
 p:PI X tg e t
 r:RIt K t m
structure QF(K:Frag)(X:Cx)(e:List Expr)(t:TT)(m:MT):Prop where
 p:PF X e t
 r:RT K t m
structure QO(K:Frag)(X:Cx)(e:Option Expr)(t:TO)(m:MO1):Prop where
 p:PO X e t
 r:RO1 K t m
structure QPs(K:Frag)(X:Cx)(pos:Pos)(keys:List (Option Expr))(values:List Expr)(t:List (TE×TE))(m:List (ME×ME)):Prop where
 p:PPs X pos keys values t
 r:RPs K t m
def Vf(a b:List D):Prop:=a≠[]/\CH (a.length+b.length)
open Classical in
def Gm:D->D->Hd->Option 104:=λd e hd=>(Ab d).bind λa=>(Ab e).bind λb=>if Vf a b then some (AY (a++b),hd)else none
def OY{K:Frag}:RB K (Px K) Gm:=by
 intro ρ H hd d e v u Q z hd' hR h1 h2 hf hQ;unfold Gm at hf;obtain⟨a,e1,hf⟩:=c5 hf;obtain⟨b,e2,hf⟩:=c5 hf;split at hf
 .next c=>
  cases hf;obtain⟨p,xs,rfl,q1,r1⟩:=h1.tup e1;obtain⟨p2,ys,rfl,q2,r2⟩:=h2.tup e2;have l1:=r1.len;have l2:=r2.len;refine⟨p,p2,xs,ys,rfl,rfl,q1,q2,λz=>c.1 (by rw[z]at l1;simpa using l1.symm),by rw[l1,l2];exact c.2,λz=>?_,λ_ p3 hp=>?_⟩
  .have:b=[]:=by rw[z]at l2;simpa using l2.symm
   subst this;exact hQ ρ H _ .refl hR (by rw[iF];exact BX q1 r1)
  .obtain⟨R2,x2⟩:=hR.hid (ho:=.tup (xs++ys)) hp;exact hQ ρ _ _ x2 R2 (BX (SqT.of AN) ((r1.app r2).ext hR x2))
 .cases hf
abbrev Ai:=Gq KS Gm
def Bh(neg:Bool)(m:ME):ME:=λls hd=>(m ls hd).bind λp=>some (.im (.bl (match p.1 with
 |.im .non=>!neg
 | _=>neg)),p.2)
def aW{K:Frag}{ρ:List Addr}{H:Hp}{d:D}{v:V}(h:RD K ρ H d v):decide (v=.non)=(match d with|.im .non=>true|_=>false):=by
 cases d with
 |im i=>
  cases i with
  |non=>simp only[RD,RI]at h;subst h;rfl
  |tup is=>simp only[RD,RI]at h;obtain⟨a,xs,rfl,_⟩:=h;rfl
  |_=>simp only[RD,RI]at h;subst h;rfl
 |mu n=>simp only[RD]at h;obtain⟨a,_,rfl⟩:=h;rfl
 |tm ds=>simp only[RD]at h;obtain⟨a,xs,rfl,_⟩:=h;rfl
 |ro ns=>simp only[RD]at h;obtain⟨a,rfl,_⟩:=h;rfl
 |op nm fs ds=>simp only[RD]at h;obtain⟨a,xs,rfl,_⟩:=h;rfl
 |fv k ds=>simp only[RD]at h;obtain⟨a,xs,rfl,_⟩:=h;rfl
def RY{K:Frag}{t:TE}{m:ME}(h:RE K t m):RE K (PX t) (Bh false m):=by
 and_intros;obtain⟨⟨d1,h1⟩,e1,hm⟩:=c5 hm;cases hm;refine h ρ σ H hd ls _ d1 _ hR hL e1 λρ1 H1 v x1 R1 r1=>?_;rw[aW r1];refine hQ ρ1 H1 _ x1 R1 ?_;simp only[RD,RI];cases d1 with
 |im i=>cases i<;>rfl
 |_=>rfl
def OX{K:Frag}{t:TE}{m:ME}(h:RE K t m):RE K (Lz t) (Bh true m):=by
 and_intros;obtain⟨⟨d1,h1⟩,e1,hm⟩:=c5 hm;cases hm;refine h ρ σ H hd ls _ d1 _ hR hL e1 λρ1 H1 v x1 R1 r1=>?_;rw[aW r1];refine hQ ρ1 H1 _ x1 R1 ?_;simp only[RD,RI];cases d1 with
 |im i=>cases i<;>rfl
 |_=>rfl
def Do(m:ME):ME:=λls hd=>(m ls hd).bind λp=>match p.1 with
 |.im (.int i)=>some (.im (.int (-i)),p.2)
 |_=>none
def Z9{K:Frag}{t:TE}{m:ME}(h:RE K t m):RE K (tUn (rU λi=>.int (-i)) t) (Do m):=by
 and_intros;obtain⟨⟨d1,h1⟩,e1,hm⟩:=c5 hm;dsimp only at hm;split at hm
 .cases hm;exact h ρ σ H hd ls _ _ _ hR hL e1 λρ1 H1 v x1 R1 r1=>⟨_,by simpa only[RD,RI]using r1,hQ ρ1 H1 _ x1 R1 101⟩
 .cases hm
def BE:MT:=λ_ hd=>some (true,hd)
def Yr{K:Frag}:RT K TD BE:=by
 and_intros;cases hm;exact hQ ρ H .refl hR
section
variable(K:Frag){X:Cx}{a b c e:Expr}{es:List Expr}{ta tb tc te:TE}{ma mb mc me:ME}{tA tB':TT}{nA nB:MT}{t:TA}{m:MA}{pos:Pos}{x:Str}
def qv(i:Nat){x:Str}{pos:Pos}(hN:X.N[i]?=some x:=by rfl)(hv:Vis X.env.scope x:=by first|exact Or.inl rfl|exact Or.inr (Or.inl rfl)|exact Or.inr (Or.inr rfl))(hd:(x==("__debug__":Str))=false:=by decide)
 (hcd:(x==("__classdict__":Str))=false:=by decide):QE K X (.Name x pos) (PP i) (A1 i):=⟨Ro hN hv hd hcd,Z5⟩
def Zq{i:Int}{j pos}:QE K X (.Constant 106 j pos) (tC 106) (mC 106):=⟨aL,Pr λ_=>by simp[RI]⟩
def cD{i:Bool}{j pos}:QE K X (.Constant (.bool i) j pos) (tC (.bl i)) (mC (.bl i)):=⟨cK,Pr λ_=>by simp[RI]⟩
def Zl{j pos}:QE K X (.Constant .none j pos) (tC .non) (mC .non):=⟨aI,Pr λ_=>by simp[RI]⟩
def Zh{x:Str}{j pos}:QE K X (.Constant (.str x) j pos) (tC (.str x)) (mC (.str x)):=⟨aF,Pr λ_=>by simp[RI]⟩
def GU{op:Operator}{r:R2}{f:D->D->Hd->Option 104}(ho:OpR X (binaryOp op) r)(hr:RB K r f)(ha:QE K X a ta ma)(hb:QE K X b tb mb):QE K X (.BinOp a op b pos) (tOp r ta tb) (mOp f ma mb):=⟨Q4 ho ha.p hb.p,M4 hr ha.r hb.r⟩
def Zn(ha:QE K X a ta ma):QE K X (.UnaryOp .USub a pos) (tUn (rU λi=>.int (-i)) ta) (Do ma):=⟨cH YZ ha.p,Z9 ha.r⟩
def Mv{op:CmpOp}{r:R2}{f:D->D->Hd->Option 104}(ho:OpR X (compareOp op) r)(hr:RB K r f)(ha:QE K X a ta ma)(hb:QE K X b tb mb)(hm:behindInMarks op b=false:=by first|exact N2 _|rfl):QE K X (.Compare a [op] [b] pos) (tOp r ta tb) (mOp f ma mb):=⟨Xc ho ha.p hb.p hm,M4 hr ha.r hb.r⟩
def EV{op:CmpOp}{r:R2}{f:D->D->Hd->Option 104}(ho:OpR X (compareOp op) r)(hr:RB K r f)(ha:QE K X a ta ma)(hb:QE K X b tb mb)(hm:behindInMarks op b=false:=by first|exact N2 _|rfl):QT K X (.Compare a [op] [b] pos) (Ly (tOp r ta tb)) (AJ (mOp f ma mb)):=⟨Oe ho ha.p hb.p hm,F1 (M4 hr ha.r hb.r)⟩
def Zp{j pos'}(ha:QE K X a ta ma):QE K X (.Compare a [.Is] [.Constant .none j pos'] pos) (PX ta) (Bh false ma):=⟨Rp (Rq ha.p),RY ha.r⟩
def X3{j pos'}(ha:QE K X a ta ma):QE K X (.Compare a [.IsNot] [.Constant .none j pos'] pos) (Lz ta) (Bh true ma):=⟨Rp (Og ha.p),OX ha.r⟩
def ZP{j pos'}(ha:QE K X a ta ma):QT K X (.Compare a [.Is] [.Constant .none j pos'] pos) (tB (PX ta)) (AJ (Bh false ma)):=⟨Rh (Rq ha.p),Yu (RY ha.r)⟩
def Wf{j pos'}(ha:QE K X a ta ma):QT K X (.Compare a [.IsNot] [.Constant .none j pos'] pos) (tB (Lz ta)) (AJ (Bh true ma)):=⟨Rh (Og ha.p),Yu (OX ha.r)⟩
def U3(ha:QE K X a ta ma)(he:∀whole,isTrue a X.env whole=(do let v <- whole;standAt a.pos;holding [v] (truthy v)):=by intro _;rfl)(hK:X.K=K:=by rfl):
 QT K X a (λσ H Q=>ta σ H λx H'=>∃k,Nq K x H' k/\Q k H') (BU ma):=by
 subst hK;exact⟨UJ ha.p he,Td ha.r⟩
def ZO(ha:QT K X a tA nA):QT K X (.UnaryOp .Not a pos) (TL tA) (Cm nA):=⟨Zw ha.p,Ys ha.r⟩
def We(ha:QT K X a tA nA):QW K X (.BoolOp .And [a] pos) tA nA:=⟨X9 ha.p,ha.r⟩
def ZM(ha:QT K X a tA nA):QW K X (.BoolOp .Or [a] pos) tA nA:=⟨Zu ha.p,ha.r⟩
def ZN{rest:List Expr}(ha:QT K X a tA nA)(hb:QW K X (.BoolOp .And (b::rest) pos) tB' nB):QW K X (.BoolOp .And (a::b::rest) pos) (TU tA tB') (Ef nA nB):=⟨Zv ha.p hb.p,Yt ha.r hb.r⟩
def bw{rest:List Expr}(ha:QT K X a tA nA)(hb:QW K X (.BoolOp .Or (b::rest) pos) tB' nB):QW K X (.BoolOp .Or (a::b::rest) pos) (tOr tA tB') (mOr nA nB):=⟨cE ha.p hb.p,bf ha.r hb.r⟩
def QW.toT{K:Frag}{X:Cx}{e:Expr}{t:TT}{m:MT}(h:QW K X e t m):QT K X e t m:=⟨h.p.pt,h.r⟩
def Zj{op}(ha:QE K X a ta ma):QE K X (.BoolOp op [a] pos) ta ma:=⟨aG ha.p,ha.r⟩
def Zr{rest:List Expr}(ha:QE K X a ta ma)(hb:QE K X (.BoolOp .And (b::rest) pos) tb mb):QE K X (.BoolOp .And (a::b::rest) pos) (Pd ta tb) (DJ ma mb):=⟨aM ha.p hb.p,WY ha.r hb.r⟩
def c9{rest:List Expr}(ha:QE K X a ta ma)(hb:QE K X (.BoolOp .Or (b::rest) pos) tb mb):QE K X (.BoolOp .Or (a::b::rest) pos) (TK ta tb) (KL ma mb):=⟨cI ha.p hb.p,Z8 ha.r hb.r⟩
def Zk(ha:QE K X a ta ma):QE K X (.UnaryOp .Not a pos) (PR ta) (GX ma):=⟨aH ha.p,WN ha.r⟩
def UF(hc:QT K X c tA nA)(ha:QE K X a ta ma)(hb:QE K X b tb mb):QE K X (.IfExp c a b pos) (tIf tA ta tb) (mIf nA ma mb):=⟨UV hc.p ha.p hb.p,bo hc.r ha.r hb.r⟩
def Zt:QA K X [] Bp A6:=⟨CK,ZH⟩
def X7(ha:QE K X e te me)(hr:QA K X es t m)(hs:starEach (e::es) X.env=88::starEach es X.env:=by rfl):QA K X (e::es) (BB te t) (A2 me m):=⟨BV ha.p hr.p hs,Wc ha.r hr.r⟩
def Zf{x1}(h:QA K X es t m):QE K X (.Tuple es x1 pos) (TF t) (B7 m):=⟨aE h.p,Z6 h.r⟩
def ZW(h:QA K X es t m):QN K X (.List es pos) (TM t) (Cf m):=⟨aJ h.p,Yz h.r⟩
def Zm(h:QN K X e te m):QE K X e te (B8 m):=⟨h.p,RX h.r⟩
def cA(ha:QE K X a ta ma)(hb:QE K X b tb mb)(hs:Kj b:=by exact λ_ _=>rfl)(hK:X.K=K:=by rfl):QE K X (.Subscript a b pos) (tOp (M5 K) ta tb) (mOp gIx ma mb):=⟨VS ((NP K hK).or (Ov K hK)) ha.p hb.p hs,M4 bq ha.r hb.r⟩
def X6(hu:X.A.units+1<cLine)(ha:QE K X a ta ma)(hb:QE K X b tb mb)(hs:V8 b:=by exact λ_ _=>rfl):QE K X (.Subscript a b pos) (Pa ta tb) (mOp CY ma mb):=⟨Xa hu ha.p hb.p hs,WX ha.r hb.r⟩
def Wv:QO K X none K3 F2:=⟨XM,WB⟩
def Wu(h:QE K X e te me):QO K X (some e) (PQ te) (IJ me):=⟨XJ h.p,W9 h.r⟩
def ZV{lo hi:Option Expr}{tl th:TO}{ml mh:MO1}{p2:Pos}(h:QE K X e te me)(hl:QO K X lo tl ml)(hh:QO K X hi th mh)(hK:X.K=K:=by rfl):QN K X (.Subscript e (.Slice lo hi none p2) pos) (tSl (Pu K) te tl th) (NG me ml mh):=⟨Mx (TY K hK) h.p hl.p hh.p,Yy h.r hl.r hh.r⟩
def FY{id:String}{p:Pos}{r:List V->Hp->VK->Prop}{f:List D->Hd->Option 104}(hc:CallR X (.builtin id) r)(hr:RF K r f)(hm:X.mg x=none)(hv:bootBuiltins x=some (.builtin id))(ha:QA K X (e::es) t m)(hg:Gl X x:=by rfl)(hn:x≠"__name__":=by decide)(hdb:(x==("__debug__":Str))=false:=by decide)
 (he:starEach (e::es) X.env=88::starEach es X.env:=by rfl) (hpl:(backTo pos (starEach es X.env)).any (·.1)=false:=by rfl):QE K X 113 (tCB r t) (mCB f m):=⟨GV hc hg hm hv ha.p hn hdb he hpl,VG hr ha.r⟩
def cC{id:String}{p:Pos}{r:List V->Hp->VK->Prop}{f:List D->Hd->Option 104}(hc:CallR X (.type id) r)(hr:RF K r f)(hm:X.mg x=none)(hv:bootBuiltins x=some (.type id))(ha:QA K X (e::es) t m)(hg:Gl X x:=by rfl)(hn:x≠"__name__":=by decide)(hdb:(x==("__debug__":Str))=false:=by decide)
 (he:starEach (e::es) X.env=88::starEach es X.env:=by rfl) (hpl:(backTo pos (starEach es X.env)).any (·.1)=false:=by rfl):QE K X 113 (tCB r t) (mCB f m):=⟨DW hc hg hm hv ha.p hn hdb he hpl,VG hr ha.r⟩
def Jc{id:String}{p:Pos}{r:List V->Hp->VK->Prop}{tp:Bool}{g:List D->Option D}(hc:CallR X (.builtin id) r)(hr:RG K tp r g)(hm:X.mg x=none)(hv:bootBuiltins x=some (.builtin id))(ha:QN K X e te m)(hg:Gl X x:=by rfl)(hn:x≠"__name__":=by decide)(hdb:(x==("__debug__":Str))=false:=by decide)
 (he:starEach [e] X.env=[88]:=by rfl):QE K X (.Call (.Name x p) [e] [] pos) (tCB r (BB te Bp)) (B3 g m):=⟨GV hc hg hm hv (BV ha.p CK he) hn hdb he rfl,RZ hr ha.r⟩
def cB{id:String}{p:Pos}{r:List V->Hp->VK->Prop}{tp:Bool}{g:List D->Option D}(hc:CallR X (.type id) r)(hr:RG K tp r g)(hm:X.mg x=none)(hv:bootBuiltins x=some (.type id))(ha:QN K X e te m)(hg:Gl X x:=by rfl)(hn:x≠"__name__":=by decide)(hdb:(x==("__debug__":Str))=false:=by decide)
 (he:starEach [e] X.env=[88]:=by rfl):QE K X (.Call (.Name x p) [e] [] pos) (tCB r (BB te Bp)) (B3 g m):=⟨DW hc hg hm hv (BV ha.p CK he) hn hdb he rfl,RZ hr ha.r⟩
def UB{p:Pos}(hm:X.mg "list"=none)(ha:QN K X e te m)(hg:Gl X "list":=by rfl)(he:starEach [e] X.env=[88]:=by rfl)(hK:X.K=K:=by rfl):QN K X (.Call (.Name "list" p) [e] [] pos) (tCB (KG K) (BB te Bp)) (Hs m):=⟨DW (Qi K hK) hg hm P6 (BV ha.p CK he) 77 77 he rfl,Tk ha.r⟩
def Q0{id:String}{r:V->List V->Hp->VK->Prop}{f:D->List D->Hd->Option 104}{name:Str}{apos cpos:Pos}{o:Expr}{to:TE}{mo:ME}(slot:Slot "list" name id)(hty:typeOf (.builtin id)=pure (.type "method_descriptor"))(hm:MtM X id r)(hr:RM K r f)(ho:QE K X o to mo)(ha:QA K X (e::es) t m)
 (hbase:attributeBase o name X.env (eval o X.env)=eval o X.env:=by rfl)
 (hfew:((backTo cpos (starEach (e::es) X.env)).all (λx=>!x.1)&&(backToKw cpos (keywordEach [] X.env)).all (λx=>x.1.isSome)
  && decide ((e::es).length+([]:List Keyword).length+(if([]:List Keyword).isEmpty then 0 else 1)<30))=true:=by rfl)
 (hline:(apos.endLine==cpos.line)=true:=by rfl) (hs:starEach (e::es) X.env=88::starEach es X.env:=by rfl) (hplain:(backTo cpos (starEach es X.env)).any (·.1)=false:=by rfl) (hK:X.K=K:=by rfl):
 QE K X (.Call (.Attribute o name apos) (e::es) [] cpos) (tBM K "list" r to t) (mMt f mo m):=by
 subst hK;exact⟨cJ PySem.F.plainAttrs_list slot hty hm ho.p ha.p hbase hfew hline hs hplain,bn hr ho.r ha.r⟩
def UG(w:Nat){j k:Nat}{f:Addr}{fd:FuncData}{ps:List Str}{n:Nat}{F:List D->Hd->Option 104}{st:Stmt}{p:Pos}(G:FnOk X.prog X.w X.K X.mg X.base CX0 j f fd ps (spF K n F))(hr:Room k X.A)(DA:DefAt X.K X.mg x st f fd ps)(ha:QA K X (e::es) t m)(hF:∀ds hd z,F ds hd=some z->103=n)
 (hjk:j<=k:=by decide) (hg:Gl X x:=by rfl) (hdb:(x==("__debug__":Str))=false:=by decide) (he:starEach (e::es) X.env=88::starEach es X.env:=by rfl) (hpl:(backTo pos (starEach es X.env)).any (·.1)=false:=by rfl):
 QE K X 113 (FU (spF K n F) [] E0 t) (A8 w F m):=⟨VT G hr DA ha.p hjk hg hdb he hpl,Tr ha.r hF⟩
def UI{j k:Nat}{f:Addr}{fd:FuncData}{ps:List Str}{n:Nat}{F:List D->Hd->Option 104}{st:Stmt}{p:Pos}(G:FnOk X.prog X.w X.K X.mg X.base CX0 j f fd ps (spF K n F))(hr:Room k X.A)(DA:DefAt X.K X.mg x st f fd ps)(ha:QA K X (e::es) t m)(hF:∀ds hd z,F ds hd=some z->103=n)
 (hjk:j<=k:=by decide) (hg:Gl X x:=by rfl) (hdb:(x==("__debug__":Str))=false:=by decide) (he:starEach (e::es) X.env=88::starEach es X.env:=by rfl) (hpl:(backTo pos (starEach es X.env)).any (·.1)=false:=by rfl):
 QE K X 113 (FU (spF K n F) [] E0 t) (D7 F m):=⟨VT G hr DA ha.p hjk hg hdb he hpl,Tt ha.r hF⟩
def Wt{pos:Pos}:QPs K X pos [] [] [] []:=⟨XI,trivial⟩
def U8{pos:Pos}{k v:Expr}{ks:List (Option Expr)}{vs:List Expr}{tk tv:TE}{mk mv:ME}{trs:List (TE×TE)}{ms:List (ME×ME)}(hk:QE K X k tk mk)(hv:QE K X v tv mv)(hr:QPs K X pos ks vs trs ms):QPs K X pos (some k::ks) (v::vs) ((tk,tv)::trs) ((mk,mv)::ms):=⟨UO hk.p hv.p hr.p,hk.r,hv.r,hr.r⟩
def X5{pos:Pos}{keys:List (Option Expr)}{values:List Expr}{trs:List (TE×TE)}{ms:List (ME×ME)}(h:QPs K X pos keys values trs ms)(hall:keys.all (·.isSome)=true:=by rfl)(hl:keys.length=values.length:=by rfl)(h0:keys≠[]:=by simp)
 (h15:keys.length<=15:=by decide):QE K X (.Dict keys values pos) (PZ trs) (M7 ms):=⟨XZ h.p hall hl h0 h15,WW h.r⟩
def X1{i:Nat}(hN:X.N.Nodup)(hi:X.N[i]?=some x)(hx:Loc X.env.scope x)(hf:X.fn x=true∨X.env.scope.names.lookup x=some .local:=by first|exact .inl rfl|exact .inr rfl|assumption):QG K X (.Name x pos) (EG i) (AG i):=⟨XV hN hi hx hf,KD⟩
def X0:QGs K X [] Uu Bv:=⟨XT,WG⟩
def UE{tg:TG}{tgs:TGs}{n:MG}{ns:MGs}(h1:QG K X e tg n)(h2:QGs K X es tgs ns)(hs:(assignEach (e::es) X.env).map (·.2)=assign e X.env::(assignEach es X.env).map (·.2):=by rfl):QGs K X (e::es) (Qb tg tgs) (AR n ns):=⟨UT h1.p h2.p hs,Tq h1.r h2.r⟩
def Zc{k n:Nat}{tgs:TGs}{ns:MGs}(hc:X.calm=true)(h:QGs K X es tgs ns)(hK:X.K=K:=by rfl)(hn:(assignEach es X.env).length=n:=by rfl)(hst:(assignEach es X.env).findIdx? (·.1)=none:=by rfl):QG K X (.Tuple es k pos) (Qa K n tgs) (Bu n ns):=⟨XU K hc h.p hK hn hst,Z3 h.r⟩
def Zb{tg:Expr}(h:QE K X e te me)(hK:X.K=K:=by rfl):QI K X tg e (QX K te) (Ay me):=⟨XR K h.p hK,Z2 h.r⟩
def Wz{tg:Expr}(h:QE K X e te me)(hK:X.K=K:=by rfl):QI K X tg e (MB K te) (Bw me):=⟨UQ K h.p hK,WD h.r⟩
def Wy{tg:Expr}{p:Pos}(hm:X.mg "range"=none)(ha:QA K X [a] t m)(hg:Gl X "range":=by rfl)(hs:starEach [a] X.env=[(false,eval a X.env)]:=by rfl):QI K X tg (.Call (.Name "range" p) [a] [] pos) (QY t) (Ee m):=⟨Rl hg hm ha.p hs,WC ha.r⟩
def Ze:QF K X [] TD BE:=⟨aD,Yr⟩
def Zd(h:QT K X c tA nA):QF K X [c] tA nA:=⟨aC h.p,h.r⟩
def Ww{elt tg iter:Expr}{ifs:List Expr}{scope:Scope}{loc fr:List Str}{ix:List Nat}{wi:TI}{g:TG}{tf:TT}{te:TE}{mi:MI}{n:MG}{mf:MT}{mm:ME}(hc:X.calm=true)(S:CSc X scope fr ix)(hi:QI K X tg iter wi mi)
 (hg:∀s H ex,QG K 97 tg g n) (hf:∀s H ex,QF K 97 ifs tf mf) (he:∀s H ex,QE K 97 elt te mm)
 (hs:∀x,foldedSetIterable iter X.env x=pure x:=by intro _;rfl):QN K X 91 (GQ loc.length ix wi g tf te) (Ae loc.length ix mi n mf mm):=
 ⟨Xb hc S hi.p (λs H ex=>(hg s H ex).p) (λs H ex=>(hf s H ex).p) (λs H ex=>(he s H ex).p) hs,OW hi.r (hg X.s₀ X.H₀ []).r (hf X.s₀ X.H₀ []).r (he X.s₀ X.H₀ []).r⟩
def Wi:QSs K X [] JO Ah:=⟨XB,OU⟩
def U4{st:Stmt}{rest:List Stmt}{u v:TS}{m1 m2:MS}(h1:QS K X st u m1)(h2:QSs K X rest v m2):QSs K X (st::rest) (TH u v) (AB m1 m2):=⟨UK h1.p h2.p,Yv h1.r h2.r⟩
def Wh{st:Stmt}{u:TS}{m1:MS}(h1:QS K X st u m1):QSs K X [st] u m1:=⟨XA h1.p,h1.r⟩
def Wn:QS K X (.Pass pos) JO Ah:=⟨XE,OU⟩
def Wq(he:QE K X e te me)(hs:swapsWith e none pos.line X.env=pure false:=by rfl):QS K X (.Expr e pos) (PY te) (B5 me):=⟨XF he.p hs,W6 he.r⟩
def ZS(he:QE K X e te me):QS K X (.Return (some e) pos) (TJ te) (AZ me):=⟨Zz he.p,Yw he.r⟩
def bx{a b:List Stmt}{u v:TS}{m1 m2:MS}(hc:QT K X c tA nA)(ha:QSs K X a u m1)(hb:QSs K X b v m2):QS K X (.If c a b pos) (TQ tA u v) (Au nA m1 m2):=⟨cG hc.p ha.p hb.p,bg hc.r ha.r hb.r⟩
def U7{st:Stmt}:QS K X st MP BO:=⟨UM,Tf⟩
def ZU{tg:Expr}{g:TG}{n:MG}(he:QE K X e te me)(hg:QG K X tg g n)(hs:swapsWithSole [tg] e pos.line X.env=pure false:=by rfl)(hw:swappedStores [tg] e X.env=pure none:=by rfl)
 (h1:(assignEach [tg] X.env).map (·.2)=[assign tg X.env]:=by rfl):QS K X (.Assign [tg] e pos) (F9 te g) (Iy me n):=⟨Ri he.p hg.p hs hw h1,Mm he.r hg.r⟩
def ZR{i:Nat}{pos':Pos}(hN:X.N.Nodup)(hi:X.N[i]?=some x)(hx:Loc X.env.scope x)(he:QE K X e te me)(hs:swapsWith e (some (.Name x pos')) pos.line X.env=pure false:=by rfl)(hf:X.fn x=true∨X.env.scope.names.lookup x=some .local:=by first|exact .inl rfl|exact .inr rfl|assumption):
 QS K X (.Assign [.Name x pos'] e pos) (F9 te (EG i)) (AI i me):=⟨Zy hN hi hx he.p hs hf,Mm he.r KD⟩
def Wl{i:Nat}{y:Str}{elt tg iter:Expr}{ifs:List Expr}{scope:Scope}{spos py:Pos}{loc fr:List Str}{ix:List Nat}{wi:TI}{g:TG}{tf:TT}{te:TE}{mi:MI}{n:MG}{mf:MT}{mm:ME}(hN:X.N.Nodup)(hiN:X.N[i]?=some y)(hy:X.env.scope.names.lookup y=some .local)
 (hc:X.calm=true) (S:CSc X scope fr ix) (hi:QI K X tg iter wi mi)
 (hg:∀s H ex,QG K 97 tg g n) (hf:∀s H ex,QF K 97 ifs tf mf) (he:∀s H ex,QE K 97 elt te mm)
 (hsw:swapsWith 91 (some (.Name y py)) spos.line X.env=pure true:=by rfl) (hs:∀x,foldedSetIterable iter X.env x=pure x:=by intro _;rfl):
 QS K X (.Assign [.Name y py] 91 spos) (F9 (GQ loc.length ix wi g tf te) (EG i)) (AI i (B8 (Ae loc.length ix mi n mf mm))):=
 ⟨XD hN hiN hy hc S hi.p (λs H ex=>(hg s H ex).p) (λs H ex=>(hf s H ex).p) (λs H ex=>(he s H ex).p) hsw hs,Mm (RX (OW hi.r (hg X.s₀ X.H₀ []).r (hf X.s₀ X.H₀ []).r (he X.s₀ X.H₀ []).r)) KD⟩
def Wr{o i value:Expr}{pos':Pos}{td ty tv:TE}{md my mv:ME}(hu:X.A.units+1<cLine)(ho:QE K X o td md)(hi:QE K X i ty my)(hv:QE K X value tv mv)(hs:swapsWith value (some (.Subscript o i pos')) pos.line X.env=pure false:=by rfl):
 QS K X (.Assign [.Subscript o i pos'] value pos) (Pn td ty tv) (Fd md my mv):=⟨XG hu ho.p hi.p hv.p hs,W7 ho.r hi.r hv.r⟩
def Wo{o i value:Expr}{pos':Pos}{to ti tv:TE}{mo mi mv:ME}(ho:QE K X o to mo)(hi:QE K X i ti mi)(hv:QE K X value tv mv)(hs:swapsWithSole [.Subscript o i pos'] value pos.line X.env=pure false:=by rfl)(hw:swappedStores [.Subscript o i pos'] value X.env=pure none:=by rfl)
 (h1:(assignEach [.Subscript o i pos'] X.env).map (·.2)=[assign (.Subscript o i pos') X.env]:=by rfl)
 (ha:∀v,assign (.Subscript o i pos') X.env v=(do
  let ov <- holding [v] (eval o X.env)
  let iv <- holding [v,ov] (eval i X.env)
  standAt pos'
  holding [v,ov,iv] (setItem ov iv v)
  release [v,ov,iv] []):=by intro _;rfl):QS K X (.Assign [.Subscript o i pos'] value pos) (F9 tv (Us to ti JZ)) (Eu mo mi mv):=⟨Ri hv.p (aB ho.p hi.p MZ ha) hs hw h1,W4 ho.r hi.r hv.r⟩
def ZT{tg iter:Expr}{body:List Stmt}{wi:TI}{g:TG}{tb:TS}{mi:MI}{n:MG}{mb:MS}(hc:X.calm=true)(hi:QI K X tg iter wi mi)(hg:QG K X tg g n)(hb:QSs K X body tb mb)(hp:PassesOwn 69 X.A X.env X.xe:=by exact PassesOwn.never)
 (hs:∀x,foldedSetIterable iter X.env x=pure x:=by intro _;rfl):QS K X (.For tg iter body [] pos) (TR wi g tb) (CS mi n mb):=⟨a0 hp hc hi.p hg.p hb.p hs,Yx hi.r hg.r hb.r⟩
def U6{body:List Stmt}{tb:TS}{mb:MS}(hc:QT K X c tA nA)(hb:QSs K X body tb mb)(hp:PassesOwn 69 X.A X.env X.xe:=by exact PassesOwn.never):QS K X (.While c body [] pos) (MN tA tb) (FF nA mb):=⟨UL hp hc.p hb.p,Te hc.r hb.r⟩
end
def Xj{P:Program}{w:World}{K:Frag}{mg:Str->Option Value}{base:Heap}{x:Str}{st:Stmt}{f:Addr}{fd:FuncData}{N ps:List Str}{j:Nat}{m:MS}(DA:DefAt K mg x st f fd ps)(S:FnScope N ps (AC st))
 (h:∀(cdv:Value) (A:Around) (outer:List Env) (s:Shared) (H:Hp) (E:XK),Room j (A.deeper (envOfC x (AC st) 66 f cdv))->∃t,QSs K (Fz CX0 P w K mg base N x (AC st) f cdv A outer s H E).nox (BQ st) t m):
 FnOk P w K mg base CX0 (j+1) f fd ps (spF K ps.length (mkF ps.length N.length m)):=by
 refine DA.fn.ok S (λvs H Q E h=>h.1) (λcdv A outer s H vs Q E hr hs=>?_);obtain⟨t,q⟩:=h cdv A outer s H E hr;exact⟨t,q.p,OR q.r hs⟩
section
variable{X:Cx}{pins:List 78}{σ:List (Option V)}{H H':Hp}{s:Shared}{h':Heap}
def Inv.turns{tk:Nat}{fp:List Addr}(I:Inv X pins σ H s)(k:∀b o,b∉fp->s.heap.get? b=some o->h'.get? b=some o)(hf:∀b∈fp,FpOk X pins H b):Inv X pins σ H { s with heap:=h',toks:=tk }:=by
 have out:∀b u,H b=some u->b∉fp:=λb u e z=>by rw[(hf b z).1]at e;cases e
 have hL:X.env.locals∉fp:=λz=>(hf _ z).2.1 rfl;refine I.step (g':=s.gens) (d':=s.drawn) (ch:=fp) (λb hb=>⟨(hf b hb).2.2.2.1,(hf b hb).2.1,(hf b hb).2.2.2.2.1,(hf b hb).2.2.2.2.2⟩) (λb o _ _ hc e _=>k b o hc e) (λb o _ _ hc e _=>⟨o.slots,k b o hc e⟩) (λ_ _ _ _ n=>n)
  (λb o hc e=>⟨o,k b o hc e⟩) (λ_ _ e=>e) (λ_ _ _ e=>e) (λb ps e=>⟨#[],by rw[e];simp⟩) (λm hm=>?_) (λb u e=>?_) I.bare
 .obtain⟨o,es,ep,ho,r⟩:=hm;exact⟨o,es,ep,k _ o hL ho,r⟩
 .refine(I.hok b u e).stay (λc v hc q=>k c v ?_ q) (λ_ q=>q) λ_ _ q=>q;rcases hc with z|z
  .rw[z];exact out b u e
  .exact out c _ z
end
def Inv.turnsL{X:Cx}{pins:List 78}{σ:List (Option V)}{H:Hp}{s:Shared}{h':Heap}{tk:Nat}{fp:List Addr}{a:Addr}{o:HO}(I:Inv X pins σ H s)(k:∀b o,b∉fp->s.heap.get? b=some o->h'.get? b=some o)(hf:∀b∈fp,FpOk X pins H b)(ha:66<=a)(new:ObjOk X.prog X.w (upd H a o) h' a o):
 Inv X pins σ (upd H a o) { s with heap:=h',toks:=tk }:=by
 have out:∀b u,H b=some u->b∉fp:=λb u e z=>by rw[(hf b z).1]at e;cases e
 have hL:X.env.locals∉fp:=λz=>(hf _ z).2.1 rfl;have fr:H a=none:=I.hok.fresh ha;refine I.step (g':=s.gens) (d':=s.drawn) (ch:=fp) (λb hb=>⟨(hf b hb).2.2.2.1,(hf b hb).2.1,(hf b hb).2.2.2.2.1,(hf b hb).2.2.2.2.2⟩) (λb o _ _ hc e _=>k b o hc e) (λb o _ _ hc e _=>⟨o.slots,k b o hc e⟩)
  (λb o _ e n=>by rw[AD (gV (ie (Heap.lt_size e) ha))];exact n) (λb o hc e=>⟨o,k b o hc e⟩) (λb xs e=>by rw[AD (AU e fr)];exact e) (λb o u e=>by rw[AD (AU e fr)];exact e)
  (λb ps e=>⟨#[],by rw[AD (AU e fr),e];simp⟩) (λm hm=>?_) (λb u e=>?_) I.bare
 .obtain⟨o,es,ep,ho,r⟩:=hm;exact⟨o,es,ep,k _ o hL ho,r⟩
 .by_cases hb:b=a
  .subst hb;rw[AN]at e;cases e;exact new
  .rw[AD hb]at e;refine(I.hok b u e).stay (λc v hc q=>k c v ?_ q) (λc q=>by rw[AD (AU q fr)];exact q) λc xs q=>by rw[AD (AU q fr)];exact q
   rcases hc with z|z
   .rw[z];exact out b u e
   .exact out c _ z
def RowI(tp:Bool)(h:Heap)(it l:Addr)(k:Nat):Prop:=match tp with
 |true=>h.IsTupleIter it l k
 |false=>h.IsListIter it l k
def RowL(tp:Bool)(h:Heap)(l:Addr)(xs:Array Value):Prop:=match tp with
 |true=>h.IsTuple l xs
 |false=>h.IsList l xs
theorem RowI.at{tp:Bool}{h h':Heap}{it l:Addr}{k:Nat}(x:RowI tp h it l k)(e:∀o,h.get? it=some o->h'.get? it=some o):RowI tp h' it l k:=by
 cases tp with
 |true=>exact Heap.IsTupleIter.at x e
 |false=>exact Heap.IsListIter.at x e
def RowL.at{tp:Bool}{h h':Heap}{l:Addr}{xs:Array Value}(x:RowL tp h l xs)(e:∀o,h.get? l=some o->h'.get? l=some o):RowL tp h' l xs:=by
 cases tp with
 |true=>obtain⟨o,e1,r⟩:=(show h.IsTuple l xs from x);exact⟨o,e _ e1,r⟩
 |false=>obtain⟨o,e1,r⟩:=(show h.IsList l xs from x);exact⟨o,e _ e1,r⟩
def RowI.obj{tp:Bool}{h:Heap}{it l:Addr}{k:Nat}(x:RowI tp h it l k):∃o,h.get? it=some o/\o.data=.fields #[.ref l,.int k 0]:=by
 cases tp with
 |true=>obtain⟨o,e,_,d⟩:=(show h.IsTupleIter it l k from x);exact⟨o,e,d⟩
 |false=>obtain⟨o,e,_,d⟩:=(show h.IsListIter it l k from x);exact⟨o,e,d⟩
def RowL.obj{tp:Bool}{h:Heap}{l:Addr}{xs:Array Value}(x:RowL tp h l xs):∃o n,h.get? l=some o/\o.data=.seq xs n:=by
 cases tp with
 |true=>obtain⟨o,e,_,n,d⟩:=(show h.IsTuple l xs from x);exact⟨o,n,e,d⟩
 |false=>obtain⟨o,e,_,n,d⟩:=(show h.IsList l xs from x);exact⟨o,n,e,d⟩
section
variable{prog:Program}{w:World}{A:Around}{E:Value->Shared->Prop}{s:Shared}{it l:Addr}{k:Nat}{xs:Array Value}{x:Value}
def tup_next(hit:s.heap.IsTupleIter it l k)(hl:s.heap.IsTuple l xs)(hx:xs[k]?=some x){Q:Value->Shared->Prop}(hQ:∀g,g.IsTupleIter it l (k+1)->Heap.SameBut it s.heap g->Q x { s with heap:=g }):
 wpAny 92 A (Builtin.SmallTypes.nextOf (.ref it)) Q E s:=by
 obtain⟨o,eo,ec,ed⟩:=id hit;obtain⟨ol,el,_,nl,edl⟩:=hl;unfold Builtin.SmallTypes.nextOf;refine gh (jt (name:=Str.ofString "__next__") hit.typeIs PyProof.Rows.slot_tupleiter_next (jd PyProof.Rows.slot_tupleiter_next hit.typeIs PyProof.Rows.entry_tupleiter_next ?_ (PyProof.Rows.args_tupleiter_next _)));show wpAny _ _ (field (.ref it) 0 >>= _) _ _ s;refine gh (iD eo ed (x:=.ref l) rfl ?_);show wpAny _ _ (if(Value.ref l==Value.none)=true then _ else _) _ _ s;rw[gj (show ¬ (Value.ref l==Value.none)=true from Bool.false_ne_true)];show wpAny _ _ (field (.ref it) 1 >>= _) _ _ s;refine gh (iD eo ed (x:=.int k 0) rfl ?_);show wpAny _ _ (seqItems? (.ref l) >>= _) _ _ s;refine gh (iK el edl ?_);simp only[ik,hx];refine gh (wpAny_setField eo ed 75 (gn ⟨x,rfl,gn (hQ _ ⟨_,Heap.get?_update_self _ eo (Obj.isFreed_of_fields (Obj.data_mapFields ed _)),(Obj.cls_mapFields ..).trans ec,?_⟩ (Heap.SameBut.update ..))⟩));rw[Obj.data_mapFields ed];simp[rawInt]
def tup_stop(hh:A.handled=none)(hit:s.heap.IsTupleIter it l k)(hl:s.heap.IsTuple l xs)(hx:xs[k]?=none){Q:Value->Shared->Prop}(hE:∀g e,Heap.ExtBut it s.heap g->(∃o,g.get? e=some o/\o.cls=.type "StopIteration")->E (.ref e) { s with heap:=g }):
 wpAny 92 A (Builtin.SmallTypes.nextOf (.ref it)) Q E s:=by
 obtain⟨o,eo,ec,ed⟩:=id hit;obtain⟨ol,el,_,nl,edl⟩:=hl;unfold Builtin.SmallTypes.nextOf;refine gh (jt (name:=Str.ofString "__next__") hit.typeIs PyProof.Rows.slot_tupleiter_next (jd PyProof.Rows.slot_tupleiter_next hit.typeIs PyProof.Rows.entry_tupleiter_next ?_ (PyProof.Rows.args_tupleiter_next _)));show wpAny _ _ (field (.ref it) 0 >>= _) _ _ s;refine gh (iD eo ed (x:=.ref l) rfl ?_);show wpAny _ _ (if(Value.ref l==Value.none)=true then _ else _) _ _ s;rw[gj (show ¬ (Value.ref l==Value.none)=true from Bool.false_ne_true)];show wpAny _ _ (field (.ref it) 1 >>= _) _ _ s;refine gh (iD eo ed (x:=.int k 0) rfl ?_);show wpAny _ _ (seqItems? (.ref l) >>= _) _ _ s;refine gh (iK el edl ?_);simp only[ik,hx];refine gh (jo (gh (wpAny_setField eo ed 75 ?_)));show wpAny _ _ (newExc (.type "StopIteration") [] >>= _) _ _ _;refine gh ?_;simp only[newExc,newTuple];refine gh (iX ?_ (by size_fits));refine gh (m:=firstArgMember _ _) (wpAny_of_eq (a:=Value.none) (by first|rfl|(simp only[firstArgMember];rfl)) ?_);refine iX ?_ (by size_fits);simp only[raiseNew];refine gh (wpAny_handled ?_)
 first|rw[show A.in1.handled=none from hh]|rw[hh]
 exact gh (gn (wpAny_throw (hE _ _ (((Heap.SameBut.update ..).extBut.push _).push _) ⟨_,87 _ rfl,rfl⟩)))
def Im{tp:Bool}(hit:RowI tp s.heap it l k)(hl:RowL tp s.heap l xs)(hx:xs[k]?=some x){Q:Value->Shared->Prop}(hQ:∀g,RowI tp g it l (k+1)->Heap.SameBut it s.heap g->Q x { s with heap:=g }):
 wpAny 92 A (Builtin.SmallTypes.nextOf (.ref it)) Q E s:=by
 cases tp with
 |true=>exact tup_next hit hl hx hQ
 |false=>exact wpAny_nextOf_list_item hit hl hx hQ
def Mn{tp:Bool}(hh:A.handled=none)(hit:RowI tp s.heap it l k)(hl:RowL tp s.heap l xs)(hx:xs[k]?=none){Q:Value->Shared->Prop}(hE:∀g e,Heap.ExtBut it s.heap g->(∃o,g.get? e=some o/\o.cls=.type "StopIteration")->E (.ref e) { s with heap:=g }):
 wpAny 92 A (Builtin.SmallTypes.nextOf (.ref it)) Q E s:=by
 cases tp with
 |true=>exact tup_stop hh hit hl hx hE
 |false=>exact wpAny_nextOf_list_end hh hit hl hx hE
end
structure ZAt(t1 t2:Bool)(h:Heap)(z a b i1 i2 l1 l2:Addr)(f0:Value)(j k:Nat):Prop where
 z:IsZip h z a b f0
 p:IsPair h a (.ref i1) (.ref i2)
 o:∃u v,IsPair h b u v
 r1:RowI t1 h i1 l1 j
 r2:RowI t2 h i2 l2 k
structure ZNe(z a b i1 i2 l1 l2:Addr):Prop where
 az:a≠z
 bz:b≠z
 iz:i1≠z
 jz:i2≠z
 ab:a≠b
 ai:a≠i1
 aj:a≠i2
 bi:b≠i1
 bj:b≠i2
 ij:i1≠i2
 lz:l1≠z
 lb:l1≠b
 li:l1≠i1
 lj:l1≠i2
 mz:l2≠z
 mb:l2≠b
 mi:l2≠i1
 mj:l2≠i2
section
variable{prog:Program}{w:World}{A:Around}{E:Value->Shared->Prop}{s:Shared}{t1 t2:Bool}{z a b i1 i2 l1 l2:Addr}{j k:Nat}{xs ys:Array Value}{x y:Value}
abbrev Ql(z b i1 i2:Addr)(h h':Heap):Prop:=∀c o,c≠z->c≠b->c≠i1->c≠i2->h.get? c=some o->h'.get? c=some o
def Sw(N:ZNe z a b i1 i2 l1 l2)(Z:ZAt t1 t2 s.heap z a b i1 i2 l1 l2 .none j k)(hl1:RowL t1 s.heap l1 xs)(hl2:RowL t2 s.heap l2 ys)(hx:xs[j]?=some x)(hy:ys[k]?=some y){Q:Value->Shared->Prop}
 (hQ:∀g,ZAt t1 t2 g z a b i1 i2 l1 l2 (rawInt 66) (j+1) (k+1)->IsPair g 66 x y->Ql z b i1 i2 s.heap g->Q (.ref 66) { s with heap:=g }):
 wpAny 92 A (Builtin.«zip.__next__» ⟨[.ref z],[]⟩) (λfin s'=>∃v,fin=.done (.ret v)/\Q v s') E s:=by
 obtain⟨hz,hp,⟨u,v,hb⟩,q1,q2⟩:=Z;show wpAny _ _ (field (.ref z) 2 >>= _) _ _ _;refine gh (iD hz rfl (x:=.bool false) rfl ?_);show wpAny _ _ (field (.ref z) 3 >>= _) _ _ _;refine gh (iD hz rfl (x:=.ref a) rfl (gh (iK hp rfl ?_)));show wpAny _ _ (Builtin.SmallTypes.ownedTupleIsFree (.ref z) >>= _) _ _ _;unfold Builtin.SmallTypes.ownedTupleIsFree;refine gh (gh (iD hz rfl (x:=.none) rfl (gn ?_)));simp only[i3];refine gh (jo (gh (iD hz rfl (x:=.ref b) rfl ?_)));refine gh (ju hz 75 λg1 z1 s1=>?_);have z1:IsZip g1 z a b .ellipsis:=z1;refine gh ?_;simp only[ja,List.zipIdx_nil,List.forIn_cons,List.forIn_nil];refine gh (gh (wpAny_onRaise ?_));show wpAny _ _ (Builtin.SmallTypes.nextOf (.ref i1) >>= _) _ _ _;refine gh (Im (s:={ s with heap:=g1 }) (q1.at λo e=>s1.extBut _ _ N.iz e) (hl1.at λo e=>s1.extBut _ _ N.lz e) hx λg2 r2 s2=>gn ?_);have b2:IsPair g2 b u v:=s2.extBut _ _ N.bi (s1.extBut _ _ N.bz hb);refine gh (iK b2 rfl (gh (wpAny_updateSeq_pair b2 λg3 b3 s3=>?_)));have b3:IsPair g3 b x v:=b3;refine gh (iO (gn (gh (gh (wpAny_onRaise ?_)))));show wpAny _ _ (Builtin.SmallTypes.nextOf (.ref i2) >>= _) _ _ _;have q3:RowI t2 g3 i2 l2 k:=q2.at λo e=>s3.extBut _ _ N.bj.symm (s2.extBut _ _ N.ij.symm (s1.extBut _ _ N.jz e));have m3:RowL t2 g3 l2 ys:=hl2.at λo e=>s3.extBut _ _ N.mb (s2.extBut _ _ N.mi (s1.extBut _ _ N.mz e));refine gh (Im (s:={ s with heap:=g3 }) q3 m3 hy λg4 r4 s4=>gn ?_);have b4:IsPair g4 b x v:=s4.extBut _ _ N.bj b3;refine gh (iK b4 rfl (gh (wpAny_updateSeq_pair b4 λg5 b5 s5=>?_)));have b5:IsPair g5 b x y:=b5;refine gh (iO (gn (gn (gh (iK b5 rfl (gh (wpAny_newTuple ?_)))))));have sz:g5.objs.size=s.heap.objs.size:=by rw[s5.1,s4.1,s3.1,s2.1,s1.1]
 have z5:IsZip g5 z a b .ellipsis:=s5.extBut _ _ N.bz.symm (s4.extBut _ _ N.jz.symm (s3.extBut _ _ N.bz.symm (s2.extBut _ _ N.iz.symm z1)));have kp:Ql z b i1 i2 s.heap g5:=λc o c1 c2 c3 c4 e=>s5.extBut _ _ c2 (s4.extBut _ _ c4 (s3.extBut _ _ c2 (s2.extBut _ _ c3 (s1.extBut _ _ c1 e))));have w1:RowI t1 g5 i1 l1 (j+1):=r2.at λo e=>s5.extBut _ _ N.bi.symm (s4.extBut _ _ N.ij (s3.extBut _ _ N.bi.symm e));have w2:RowI t2 g5 i2 l2 (k+1):=r4.at λo e=>s5.extBut _ _ N.bj.symm e;have zlt:=90 z5;show wpAny _ _ (Builtin.SmallTypes.ownedTupleHandOut (.ref z) (.ref g5.objs.size) >>= _) _ _ _;unfold Builtin.SmallTypes.ownedTupleHandOut;have z6:IsZip (g5.push { cls:=.type "tuple",data:=.seq #[x,y] }) z a b .ellipsis:=74 _ z5;refine gh (gh (ju z6 75 λg7 z7 s7=>?_));have z7:IsZip g7 z a b (rawInt g5.objs.size):=z7;refine ju z7 75 λg8 z8 s8=>gn ⟨_,rfl,?_⟩;have z8:IsZip g8 z a b (rawInt g5.objs.size):=z8;have up:∀c o,c≠z->g5.get? c=some o->g8.get? c=some o:=λc o c1 e=>s8.extBut _ _ c1 (s7.extBut _ _ c1 (74 _ e));have t8:IsPair g8 g5.objs.size x y:=s8.extBut _ _ (iC zlt) (s7.extBut _ _ (iC zlt) (87 _ rfl));show Q (.ref g5.objs.size) _;rw[sz]at z8 t8 ⊢;exact hQ g8 ⟨z8,up _ _ N.az (kp _ _ N.az N.ab N.ai N.aj hp),⟨_,_,up _ _ N.bz b5⟩,w1.at λo e=>up _ o N.iz e,w2.at λo e=>up _ o N.jz e⟩ t8 λc o c1 c2 c3 c4 e=>up c o c1 (kp c o c1 c2 c3 c4 e)
def Sv(hh:A.handled=none)(N:ZNe z a b i1 i2 l1 l2)(Z:ZAt t1 t2 s.heap z a b i1 i2 l1 l2 .none j k)(hl1:RowL t1 s.heap l1 xs)(hl2:RowL t2 s.heap l2 ys)(hend:xs[j]?=none∨ys[k]?=none){Q:Fin->Shared->Prop}
 (hE:∀g e,Ql z b i1 i2 s.heap g->(∃o,g.get? e=some o/\o.cls=.type "StopIteration")->E (.ref e) { s with heap:=g }):
 wpAny 92 A (Builtin.«zip.__next__» ⟨[.ref z],[]⟩) Q E s:=by
 obtain⟨hz,hp,⟨u,v,hb⟩,q1,q2⟩:=Z;show wpAny _ _ (field (.ref z) 2 >>= _) _ _ _;refine gh (iD hz rfl (x:=.bool false) rfl ?_);show wpAny _ _ (field (.ref z) 3 >>= _) _ _ _;refine gh (iD hz rfl (x:=.ref a) rfl (gh (iK hp rfl ?_)));show wpAny _ _ (Builtin.SmallTypes.ownedTupleIsFree (.ref z) >>= _) _ _ _;unfold Builtin.SmallTypes.ownedTupleIsFree;refine gh (gh (iD hz rfl (x:=.none) rfl (gn ?_)));simp only[i3];refine gh (jo (gh (iD hz rfl (x:=.ref b) rfl ?_)));refine gh (ju hz 75 λg1 z1 s1=>?_);have z1:IsZip g1 z a b .ellipsis:=z1;refine gh ?_;simp only[ja,List.zipIdx_nil,List.forIn_cons,List.forIn_nil];refine gh (gh (wpAny_onRaise ?_));show wpAny _ _ (Builtin.SmallTypes.nextOf (.ref i1) >>= _) _ _ _;have o1:RowI t1 g1 i1 l1 j:=q1.at λo e=>s1.extBut _ _ N.iz e;have m1:RowL t1 g1 l1 xs:=hl1.at λo e=>s1.extBut _ _ N.lz e;cases hx:xs[j]? with
 |none=>
  refine gh (Mn (s:={ s with heap:=g1 }) hh o1 m1 hx λg2 e s2 he=>?_);obtain⟨oe,he1,he2⟩:=he;have z2:IsZip g2 z a b .ellipsis:=s2 _ _ N.iz.symm z1;have ne:e≠z:=λq=>by subst q;rw[z2]at he1;cases he1;simp at he2
  exact ju z2 75 λg3 _ s3=>hE g3 e (λc o c1 _ c3 _ q=>s3.extBut _ _ c1 (s2 _ _ c3 (s1.extBut _ _ c1 q))) ⟨oe,s3.extBut _ _ ne he1,he2⟩
 |some x=>
  have hy:ys[k]?=none:=by
   rcases hend with q|q
   .rw[hx]at q;cases q
   .exact q
  refine gh (Im (s:={ s with heap:=g1 }) o1 m1 hx λg2 r2 s2=>gn ?_);have b2:IsPair g2 b u v:=s2.extBut _ _ N.bi (s1.extBut _ _ N.bz hb);refine gh (iK b2 rfl (gh (wpAny_updateSeq_pair b2 λg3 b3 s3=>?_)));refine gh (iO (gn (gh (gh (wpAny_onRaise ?_)))));show wpAny _ _ (Builtin.SmallTypes.nextOf (.ref i2) >>= _) _ _ _;have q3:RowI t2 g3 i2 l2 k:=q2.at λo e=>s3.extBut _ _ N.bj.symm (s2.extBut _ _ N.ij.symm (s1.extBut _ _ N.jz e));have m3:RowL t2 g3 l2 ys:=hl2.at λo e=>s3.extBut _ _ N.mb (s2.extBut _ _ N.mi (s1.extBut _ _ N.mz e));refine gh (Mn (s:={ s with heap:=g3 }) hh q3 m3 hy λg4 e s4 he=>?_);obtain⟨oe,he1,he2⟩:=he;have z4:IsZip g4 z a b .ellipsis:=s4 _ _ N.jz.symm (s3.extBut _ _ N.bz.symm (s2.extBut _ _ N.iz.symm z1));have ne:e≠z:=λq=>by subst q;rw[z4]at he1;cases he1;simp at he2
  exact ju z4 75 λg5 _ s5=>hE g5 e (λc o c1 c2 c3 c4 q=>s5.extBut _ _ c1 (s4 _ _ c4 (s3.extBut _ _ c2 (s2.extBut _ _ c3 (s1.extBut _ _ c1 q))))) ⟨oe,s5.extBut _ _ ne he1,he2⟩
end
def SqS(K:Frag)(tp:Bool)(H:Hp)(a:Addr)(xs:List V):Prop:=match tp with
 |true=>SqT K H a xs
 |false=>SqL K H a xs
def Itz(K:Frag)(t1 t2:Bool)(a b:Addr):It:=
 ⟨λi H=>∃xs ys x y,SqS K t1 H a xs/\SqS K t2 H b ys/\xs[i]?=some x/\ys[i]?=some y,
  λi H x H'=>∃p u v,H p=none/\H'=upd H p (.tup [u,v])/\x=.ref p/\(∀xs,SqS K t1 H a xs->xs[i]?=some u)/\∀ys,SqS K t2 H b ys->ys[i]?=some v,
  λi H=>∃xs ys,SqS K t1 H a xs/\SqS K t2 H b ys/\(96<=i∨ys.length<=i)⟩
section
variable{X:Cx}{pins:List 78}{σ:List (Option V)}{H:Hp}{s:Shared}
def Inv.row{tp:Bool}{a:Addr}{xs:List V}(I:Inv X pins σ H s)(h:SqS X.K tp H a xs):∃its:List Value,Vals xs its/\RowL tp s.heap a 109/\96<=sizeLine:=by
 cases tp with
 |true=>obtain⟨its,r,p,z⟩:=I.tuple h;exact⟨its,r,(show s.heap.IsTuple a 109 from p),z⟩
 |false=>obtain⟨its,r,p,z⟩:=I.list h;exact⟨its,r,p.isList,z⟩
def Inv.row_inj{tp:Bool}{a:Addr}{xs ys:List V}(I:Inv X pins σ H s)(h:SqS X.K tp H a xs)(h':SqS X.K tp H a ys):xs=ys:=by
 cases tp with
 |true=>exact I.tuple_inj h h'
 |false=>exact I.list_inj h h'
end
def RowL.lt{tp:Bool}{h:Heap}{l:Addr}{xs:Array Value}(x:RowL tp h l xs):l<h.objs.size:=by
 obtain⟨o,n,e,_⟩:=x.obj;exact 90 e
def YQ{M:Model}{A:Around}{E:Value->Shared->Prop}{s:Shared}{elts:List Expr}{x1}{pos:Pos}{z a b T:Addr}{Q:Unit->Shared->Prop}(hz:IsZip s.heap z a b (rawInt T)){prog:Program}{w:World}
 (hQ:∀g,IsZip g z a b .none->Heap.SameBut z s.heap g->Q () { s with heap:=g }):wpAny 92 A (letOwnedTupleGo (.Tuple elts x1 pos) (.ref z) (.ref T)) Q E s:=wpAny_letOwnedTupleGo_zip hz hQ
def T8{P:Program}{w:World}{K:Frag}{elts:List Expr}{kk:Nat}{tpos:Pos}{t1 t2:Bool}{z a b i1 i2 l1 l2:Addr}(N:ZNe z a b i1 i2 l1 l2):Turn P w K (.Tuple elts kk tpos) (Itz K t1 t2 l1 l2) [z,a,b,i1,i2] z (λi h=>ZAt t1 t2 h z a b i1 i2 l1 l2 .none i i) where
 mem:=by simp
 obj:=λi h st c hc=>by
  obtain⟨hz,hp,⟨u,v,hb⟩,q1,q2⟩:=st;simp only[gu,iu,ir]at hc;rcases hc with rfl|rfl|rfl|rfl|rfl
  .exact⟨_,hz,λv z=>by cases(show Data.fields _=Data.cell v from z)⟩
  .exact⟨_,hp,λv z=>by cases(show Data.seq _ _=Data.cell v from z)⟩
  .exact⟨_,hb,λv z=>by cases(show Data.seq _ _=Data.cell v from z)⟩
  .obtain⟨o,e,d⟩:=q1.obj;exact⟨o,e,λv z=>by rw[d]at z;cases z⟩
  .obtain⟨o,e,d⟩:=q2.obj;exact⟨o,e,λv z=>by rw[d]at z;cases z⟩
 keep:=λi h h' st k=>by
  obtain⟨hz,hp,⟨u,v,hb⟩,q1,q2⟩:=st;exact⟨k z 75 _ hz,k a 75 _ hp,⟨u,v,k b 75 _ hb⟩,q1.at λo e=>k i1 75 o e,q2.at λo e=>k i2 75 o e⟩
 item:=by
  intro X hP hw hK hc i pins s σ H E I hf st hg;subst hP hw hK;obtain⟨xs,ys,x,y,h1,h2,hx,hy⟩:=hg;obtain⟨ix,rx,px,zx⟩:=I.row h1;obtain⟨iy,ry,py,zy⟩:=I.row h2;obtain⟨u,hu,ru⟩:=rx.get hx;obtain⟨v,hv,rv⟩:=ry.get hy;have hT:s.TypeIs (.ref z) "zip":=⟨_,st.z,rfl⟩
  unfold pyNext;refine gh (wpAny_attempt (jt (name:=Str.ofString "__next__") hT F.slot_zip_next (jd F.slot_zip_next hT F.entry_zip_next
   (Sw N st px py (x:=u) (y:=v) (by simpa using hu) (by simpa using hv) λg Z g5 kp=>gn ⟨_,rfl,?_⟩) (F.args_zip_next_1 _))))
  refine YQ (M:=model X.prog X.w) (s:={ s with heap:=g }) Z.z λg' z' sb=>?_;have kp2:∀c o,c∉[z,a,b,i1,i2]->s.heap.get? c=some o->g'.get? c=some o:=λc o nc e=>by
   simp only[gu,iu,ir,not_or]at nc;exact sb.extBut _ _ nc.1 (kp c o nc.1 nc.2.2.1 nc.2.2.2.1 nc.2.2.2.2 e)
  have hTz:66≠z:=iC (90 st.z);have hpair:IsPair g' 66 u v:=sb.extBut _ _ hTz g5;have fresh:H 66=none:=I.hok.fresh (gm _);have I2:Inv X pins σ (upd H 66 (.tup [x,y])) { s with heap:=g' }:=I.turnsL (tk:=s.toks) (o:=.tup [x,y]) kp2 hf (gm _)
   (show ObjOk X.prog X.w _ g' _ (.tup [x,y])from⟨by show 2<=sizeLine;decide,[u,v],.cons ru (.cons rv .nil),⟨_,hpair,rfl,⟨_,rfl⟩,rfl⟩⟩)
  refine⟨.ref 66,_,I2,rfl,⟨_,x,y,fresh,rfl,rfl,λxs' q=>by rw[I.row_inj q h1];exact hx,λys' q=>by rw[I.row_inj q h2];exact hy⟩,⟨z',?_,?_,?_,?_⟩,λc hc=>?_⟩
  .exact sb.extBut _ _ N.az Z.p
  .obtain⟨p,q,e⟩:=Z.o;exact⟨p,q,sb.extBut _ _ N.bz e⟩
  .exact Z.r1.at λo e=>sb.extBut _ _ N.iz e
  .exact Z.r2.at λo e=>sb.extBut _ _ N.jz e
  .have lt:c<s.heap.objs.size:=by
    obtain⟨hz,hp,⟨u,v,hb⟩,q1,q2⟩:=st;simp only[gu,iu,ir]at hc;rcases hc with rfl|rfl|rfl|rfl|rfl
    .exact 90 hz
    .exact 90 hp
    .exact 90 hb
    .obtain⟨o,e,_⟩:=q1.obj;exact 90 e
    .obtain⟨o,e,_⟩:=q2.obj;exact 90 e
   rw[AD (gV lt)];exact(hf c hc).1
 done:=by
  intro X hP hw hK hc i pins s σ H E I hf st hg;subst hP hw hK;obtain⟨xs,ys,h1,h2,hend⟩:=hg;obtain⟨ix,rx,px,zx⟩:=I.row h1;obtain⟨iy,ry,py,zy⟩:=I.row h2;have l1':=rx.length;have l2':=ry.length;have hT:s.TypeIs (.ref z) "zip":=⟨_,st.z,rfl⟩
  unfold pyNext;refine gh (wpAny_attempt (jt (name:=Str.ofString "__next__") hT F.slot_zip_next (jd F.slot_zip_next hT F.entry_zip_next
   (Sv (A:=X.A.in1) (show X.A.in1.handled=none from I.ok.hd hc) N st px py (hend.imp (λq=>by simp;omega) λq=>by simp;omega) λg e kp he=>?_) (F.args_zip_next_1 _))))
  obtain⟨o,ho,hcl⟩:=he;refine gh (wpAny_isInstance (T:="StopIteration") (b:=true) ⟨o,ho,hcl⟩ isSubtype_stop (gn ⟨rfl,?_⟩));exact I.turns (tk:=s.toks) (λc o nc e=>by
   simp only[gu,iu,ir,not_or]at nc;exact kp c o nc.1 nc.2.2.1 nc.2.2.2.1 nc.2.2.2.2 e) hf
 self:=λ_ _ _ _ _ st h=>wpAny_pyIter_zip st.z h
abbrev EE(tp:Bool)(l:Addr):Obj:={ cls:=.type (match tp with|true=>"tuple_iterator" | false=>"list_iterator"),data:=.fields #[.ref l,.int 0 0] }
abbrev zh1(t1:Bool)(h:Heap)(l1:Addr):Heap:=h.push (EE t1 l1)
abbrev zh2(t1 t2:Bool)(h:Heap)(l1 l2:Addr):Heap:=(zh1 t1 h l1).push (EE t2 l2)
abbrev zh3(t1 t2:Bool)(h:Heap)(l1 l2:Addr):Heap:=(zh2 t1 t2 h l1 l2).push { cls:=.type "tuple",data:=.seq #[.ref h.objs.size,.ref (zh1 t1 h l1).objs.size] }
abbrev zh4(t1 t2:Bool)(h:Heap)(l1 l2:Addr):Heap:=(zh3 t1 t2 h l1 l2).push { cls:=.type "tuple",data:=.seq #[.none,.none] }
abbrev zh5(t1 t2:Bool)(h:Heap)(l1 l2:Addr):Heap:=(zh4 t1 t2 h l1 l2).push { cls:=.type "zip",data:=.fields #[.none,.bool false,.bool false,.ref (zh2 t1 t2 h l1 l2).objs.size,.ref (zh3 t1 t2 h l1 l2).objs.size] }
set_option maxHeartbeats 4000000 in
def Sx(t1 t2:Bool)(l1 l2:Addr)(xs ys:Array Value):
 Meets (Builtin.«zip.__new__» ⟨[.type "zip",.ref l1,.ref l2],[]⟩) (λ_ R s=>RowL t1 s.heap l1 xs/\RowL t2 s.heap l2 ys/\R (.ok (.ret (.ref (zh4 t1 t2 s.heap l1 l2).objs.size))) { s with heap:=zh5 t1 t2 s.heap l1 l2 }):=
 .of_wp λprog w A R s h=>by
  obtain⟨hp,g,d,tk,os⟩:=s;obtain⟨q1,q2,h⟩:=h;have hsub:=sub_zip;have q2':RowL t2 (hp.push (EE t1 l1)) l2 ys:=q2.at λo e=>74 _ e;cases t1<;>cases t2
  .have p1:Heap.IsList (Shared.heap ⟨hp,g,d,tk,os⟩) l1 xs:=q1;have p2:Heap.IsList (Shared.heap ⟨hp.push (EE false l1),g,d,tk,os⟩) l2 ys:=q2'
   wp_walk using wpAny_pyIter_list p1,wpAny_pyIter_list p2
   exact⟨_,rfl,h⟩
  .have p1:Heap.IsList (Shared.heap ⟨hp,g,d,tk,os⟩) l1 xs:=q1;have p2:Heap.IsTuple (Shared.heap ⟨hp.push (EE false l1),g,d,tk,os⟩) l2 ys:=q2'
   wp_walk using wpAny_pyIter_list p1,wpAny_pyIter_tuple p2
   exact⟨_,rfl,h⟩
  .have p1:Heap.IsTuple (Shared.heap ⟨hp,g,d,tk,os⟩) l1 xs:=q1;have p2:Heap.IsList (Shared.heap ⟨hp.push (EE true l1),g,d,tk,os⟩) l2 ys:=q2'
   wp_walk using wpAny_pyIter_tuple p1,wpAny_pyIter_list p2
   exact⟨_,rfl,h⟩
  .have p1:Heap.IsTuple (Shared.heap ⟨hp,g,d,tk,os⟩) l1 xs:=q1;have p2:Heap.IsTuple (Shared.heap ⟨hp.push (EE true l1),g,d,tk,os⟩) l2 ys:=q2'
   wp_walk using wpAny_pyIter_tuple p1,wpAny_pyIter_tuple p2
   exact⟨_,rfl,h⟩
def Vh{n l1 l2:Addr}(h1:l1<n)(h2:l2<n):ZNe (n+4) (n+2) (n+3) n (n+1) l1 l2:=by
 have k1:@LT.lt Nat _ l1 n:=h1;have k2:@LT.lt Nat _ l2 n:=h2;constructor<;>(intro z;have z:@Eq Nat _ _:=z;omega)
def OV{tp:Bool}{h:Heap}{a l:Addr}(e:h.get? a=some (EE tp l)):RowI tp h a l 0:=by
 cases tp with
 |true=>exact⟨_,e,rfl,rfl⟩
 |false=>exact⟨_,e,rfl,rfl⟩
section
variable{prog:Program}{w:World}{A:Around}{E:Value->Shared->Prop}{s:Shared}
def Sy{t1 t2:Bool}{l1 l2:Addr}{xs ys:Array Value}{Q:Value->Shared->Prop}(q1:RowL t1 s.heap l1 xs)(q2:RowL t2 s.heap l2 ys)
 (h:∀g,ZAt t1 t2 g (66+4) (66+2) (66+3) 66 (66+1) l1 l2 .none 0 0->(∀c o,s.heap.get? c=some o->g.get? c=some o)->Q (.ref (66+4)) { s with heap:=g }):
 wpAny 92 A (call (.type "zip") [.ref l1,.ref l2]) Q E s:=by
 refine callType_new F.called_zip 77 (F.typeCall_zip_2 _ _) (F.newCall_zip_2 _ _) (λobj=>F.args_object_init_3 obj _ _) F.entry_zip_new (Sx t1 t2 l1 l2 xs ys) ⟨q1,q2,?_⟩;have n1:(zh1 t1 s.heap l1).objs.size=66+1:=Heap.size_push ..;have n2:(zh2 t1 t2 s.heap l1 l2).objs.size=66+2:=by rw[Heap.size_push,n1]
 have n3:(zh3 t1 t2 s.heap l1 l2).objs.size=66+3:=by rw[Heap.size_push,n2]
 have n4:(zh4 t1 t2 s.heap l1 l2).objs.size=66+4:=by rw[Heap.size_push,n3]
 have up:∀{g:Heap} {c:Addr} {o x:Obj},g.get? c=some o->(g.push x).get? c=some o:=λe=>74 _ e;have e5:(zh5 t1 t2 s.heap l1 l2).get? (zh4 t1 t2 s.heap l1 l2).objs.size=some _:=87 _ rfl;have e4:(zh5 t1 t2 s.heap l1 l2).get? (zh3 t1 t2 s.heap l1 l2).objs.size=some _:=up (87 _ rfl);have e3:(zh5 t1 t2 s.heap l1 l2).get? (zh2 t1 t2 s.heap l1 l2).objs.size=some _:=up (up (87 _ rfl));have e2:(zh5 t1 t2 s.heap l1 l2).get? (zh1 t1 s.heap l1).objs.size=some (EE t2 l2):=up (up (up (87 _ (by cases t2<;>rfl))));have e1:(zh5 t1 t2 s.heap l1 l2).get? 66=some (EE t1 l1):=up (up (up (up (87 _ (by cases t1<;>rfl)))));show _/\_;rw[n2,n3,n4]at e5;rw[n1,n2]at e3;rw[n3]at e4;rw[n1]at e2;rw[n4];exact⟨⟨_,e5,rfl⟩,h _ ⟨e5,e3,⟨_,_,e4⟩,OV e1,OV e2⟩ λc o x=>up (up (up (up (up x))))⟩
end
def QV(K:Frag)(t1 t2:Bool)(ta:TA):TI:=λσ H R=>ta σ H λvs H1=>∃a b xs ys,vs=[.ref a,.ref b]/\SqS K t1 H1 a xs/\SqS K t2 H1 b ys/\R (Itz K t1 t2 a b) H1
section
variable{X:Cx}
def a8{t1 t2:Bool}{a b:Expr}{ta:TA}{elts:List Expr}{kk:Nat}{tpos p pos:Pos}(hg:Gl X "zip")(hm:X.mg "zip"=none)(ha:PA X [a,b] ta)(hs:starEach [a,b] X.env=[(false,eval a X.env),(false,eval b X.env)]:=by rfl)(hs2:starEach [b] X.env=[(false,eval b X.env)]:=by rfl):
 PI X (.Tuple elts kk tpos) (.Call (.Name "zip" p) [a,b] [] pos) (QV X.K t1 t2 ta):=by
 intro pins s σ H R I h;refine Call_ (Cn I hg hm boot_zip (PyProof.Rows.callWith_type1 (thn (ha pos pins s σ H _ I h) λus s1 ⟨vs,H1,I1,r1,q1⟩=>?_) (by rw[hs,hs2]) (by rw[hs2];rfl)));obtain⟨l1,l2,xs,ys,e,c1,c2,q⟩:=q1;subst e;obtain⟨u,v,rfl,ru,rv⟩:=PD r1;cases ru;cases rv;obtain⟨ix,rx,px,zx⟩:=I1.row c1;obtain⟨iy,ry,py,zy⟩:=I1.row c2;refine Sy px py λg Z kp=>wpAny_pyIter_zip Z.z ?_;refine⟨_,_,_,_,H1,rfl,I1.kept (t':=s1.toks) kp,T8 (Vh px.lt py.lt),Z,λc hc=>?_,q⟩;simp only[gu,iu,ir]at hc;have le:s1.heap.objs.size<=c:=by
  rcases hc with rfl|rfl|rfl|rfl|rfl
  .exact jl _ _
  .exact jl _ _
  .exact jl _ _
  .exact gm _
  .exact jl _ _
 exact I1.fpOk le (I1.hok.fresh le)
def XQ(K:Frag){t1 t2:Bool}{a b:Expr}{ta:TA}{elts:List Expr}{kk:Nat}{tpos p pos:Pos}(hg:Gl X "zip")(hm:X.mg "zip"=none)(ha:PA X [a,b] ta)(hK:X.K=K:=by rfl)(hs:starEach [a,b] X.env=[(false,eval a X.env),(false,eval b X.env)]:=by rfl)(hs2:starEach [b] X.env=[(false,eval b X.env)]:=by rfl):
 PI X (.Tuple elts kk tpos) (.Call (.Name "zip" p) [a,b] [] pos) (QV K t1 t2 ta):=by subst hK;exact a8 hg hm ha hs hs2
end
def d7(K:Frag)(ρ:List Addr)(H:Hp)(tp:Bool)(a:Addr)(ds:List D)(g:Gd):Prop:=∀(ρ2:List Addr) (H2:Hp) (hd2:Hd),Ext ρ H ρ2 H2->RH K ρ2 H2 hd2->GOk hd2 g->∃xs,SqS K tp H2 a xs/\RDs K ρ2 H2 ds xs
def RRw(K:Frag)(tp:Bool)(t:TE)(m:MI):Prop:=∀(ρ:List Addr) (σ:St) (H:Hp) (hd:Hd) (ls:Ls) (Q:VK) (d:List D) (g:Gd) (hd':Hd),RH K ρ H hd->RL K ρ H ls σ->m ls hd=some ((d,g),hd') ->
 (∀ρ' H' a,Ext ρ H ρ' H'->RH K ρ' H' hd'->GOk hd' g->d7 K ρ' H' tp a d g->Q (.ref a) H')->t σ H Q
structure QR(K:Frag)(tp:Bool)(X:Cx)(e:Expr)(t:TE)(m:MI):Prop where
 p:PE X e t
 r:RRw K tp t m
section
variable{K:Frag}{ρ ρ':List Addr}{H H':Hp}{hd hd':Hd}
def Yp{t:TE}{m:ME}(h:RE K t m):RRw K true t (Ay m):=by
 intro ρ σ H hd ls Q d g hd' hR hL hm hQ;obtain⟨⟨d1,h1⟩,e1,hm⟩:=c5 hm;obtain⟨ds,e2,e3⟩:=c7 hm;cases e3;refine h ρ σ H hd ls _ d1 _ hR hL e1 λρ1 H1 v x1 R1 r1=>?_;obtain⟨a,xs,rfl,q,r⟩:=r1.tup e2;exact hQ ρ1 H1 a x1 R1 (AQ _) λρ2 H2 hd2 x2 R2 _=>⟨xs,(x2.grow R1).sq q,r.ext R1 x2⟩
def W3{t:TE}{m:ME}(h:RE K t m):RRw K false t (Bw m):=by
 intro ρ σ H hd ls Q d g hd' hR hL hm hQ;obtain⟨⟨d1,h1⟩,e1,hm⟩:=c5 hm;dsimp only at hm;split at hm
 .next n=>
  split at hm
  .next ds q=>
   cases hm;refine h ρ σ H hd ls _ _ _ hR hL e1 λρ1 H1 v x1 R1 r1=>?_;simp only[RD]at r1;obtain⟨a,hn,rfl⟩:=r1;refine hQ ρ1 H1 a x1 R1 (λp z=>by simp at z;subst z;exact q) λρ2 H2 hd2 x2 R2 G2=>?_;have hn2:ρ2[n]?=some a:=by
    obtain⟨r,rfl,_⟩:=x2.pre;rw[List.getElem?_append_left (List.getElem?_eq_some_iff.mp hn).1];exact hn
   obtain⟨ys,e4,e5⟩:=R2.lst hn2 (G2 (n,d) 75);exact⟨ys,SqL.of e4,e5⟩
  .cases hm
 .next ns=>
  cases hm;refine h ρ σ H hd ls _ _ _ hR hL e1 λρ1 H1 v x1 R1 r1=>?_;simp only[RD]at r1;obtain⟨a,rfl,q⟩:=r1;exact hQ ρ1 H1 a x1 R1 (AQ _) λρ2 H2 hd2 x2 R2 _=>⟨_,(q.grow (x2.grow R1)).sq,DY⟩
 .cases hm
open Classical in
def KJ(ma mb:MI):MI:=λls hd=>(ma ls hd).bind λp=>(mb ls p.2).bind λq=>if GOk q.2 p.1.2 then some ((List.zipWith (λx y=>AY [x,y]) p.1.1 q.1.1,p.1.2++q.1.2),q.2)else none
def Z1{t1 t2:Bool}{ta tb:TE}{ma mb:MI}(ha:RRw K t1 ta ma)(hb:RRw K t2 tb mb):RIt K (QV K t1 t2 (BB ta (BB tb Bp))) (KJ ma mb):=by
 intro ρ σ H hd ls Q d g hd' hR hL hm hQ;obtain⟨⟨⟨d1,g1⟩,h1⟩,e1,hm⟩:=c5 hm;obtain⟨⟨⟨d2,g2⟩,h2⟩,e2,hm⟩:=c5 hm;dsimp only at hm;split at hm
 .next gk=>
  cases hm;refine ha ρ σ H hd ls _ d1 g1 h1 hR hL e1 λρ1 H1 a x1 R1 G1 S1=>?_;refine hb ρ1 σ H1 h1 ls _ d2 g2 _ R1 (hL.ext hR x1) e2 λρ2 H2 b x2 R2 G2 S2=>?_;obtain⟨xs,c1,r1⟩:=S1 ρ2 H2 _ x2 R2 gk;obtain⟨ys,c2,r2⟩:=S2 ρ2 H2 _ .refl R2 G2;refine⟨a,b,xs,ys,rfl,c1,c2,hQ ρ2 H2 _ 83 R2 (λp hp=>(mem_append.mp hp).elim (gk p) (G2 p)) ?_⟩;intro ρ3 H3 hd3 x3 R3 G3 i;obtain⟨xs,c1,r1⟩:=S1 ρ3 H3 _ (x2.trans R2 x3) R3 λp hp=>G3 p (iE _ hp);obtain⟨ys,c2,r2⟩:=S2 ρ3 H3 _ x3 R3 λp hp=>G3 p (gv _ hp);have l1:=r1.len;have l2:=r2.len;refine⟨λhi=>?_,λhi=>⟨xs,ys,c1,c2,?_⟩⟩
  .simp only[List.length_zipWith]at hi;have i1:d1[i]?=some (d1[i]' 67):=List.getElem?_eq_getElem _;have i2:d2[i]?=some (d2[i]' 67):=List.getElem?_eq_getElem _;obtain⟨x,x4,x5⟩:=r1.get i1;obtain⟨y,y4,y5⟩:=r2.get i2;refine⟨⟨xs,ys,x,y,c1,c2,x4,y4⟩,λz H4 hz=>?_⟩;obtain⟨p,u,v,fp,rfl,rfl,hu,hv⟩:=hz;have eu:=hu xs c1;rw[x4]at eu;cases eu;have ev:=hv ys c2;rw[y4]at ev;cases ev;obtain⟨R4,x6⟩:=R3.hid (ho:=.tup [x,y]) fp;refine⟨ρ3,AY [d1[i]' 67,d2[i]' 67],x6,rfl,R4,?_,BX (SqT.of AN) (.cons (x5.ext R3 x6) (.cons (y5.ext R3 x6) .nil))⟩;simp[List.getElem?_zipWith,i1,i2]
  .simp only[List.length_zipWith]at hi;omega
 .cases hm
end
section
variable(K:Frag){X:Cx}{a b e:Expr}{ta tb te:TE}{me:ME}{m:MA}
def Mu(h:QE K X e te me):QR K true X e te (Ay me):=⟨h.p,Yp h.r⟩
def Ws(h:QE K X e te me):QR K false X e te (Bw me):=⟨h.p,W3 h.r⟩
def Za{t1 t2:Bool}{ma mb:MI}{elts:List Expr}{kk:Nat}{tpos p pos:Pos}(hm:X.mg "zip"=none)(ha:QR K t1 X a ta ma)(hb:QR K t2 X b tb mb)(hg:Gl X "zip":=by rfl)(hK:X.K=K:=by rfl)(hs:starEach [a,b] X.env=[(false,eval a X.env),(false,eval b X.env)]:=by rfl)(hs2:starEach [b] X.env=[(false,eval b X.env)]:=by rfl):
 QI K X (.Tuple elts kk tpos) (.Call (.Name "zip" p) [a,b] [] pos) (QV K t1 t2 (BB ta (BB tb Bp))) (KJ ma mb):=⟨XQ K hg hm (BV ha.p (BV hb.p CK hs2) (by rw[hs,hs2])) hK hs hs2,Z1 ha.r hb.r⟩
end
section
variable{K:Frag}
def GZ(ml:MA)(mb:ME):ME:=λls hd=>(ml ls hd).bind λp=>(mb ls p.2).bind λq=>match q.1 with
 |.im (.int i)=>(atI p.1 i).map (·,q.2)
 |_=>none
def ZA{ta tb:TE}{ml:MA}{mb:ME}(ha:RN K ta ml)(hb:RE K tb mb):RE K (tOp (M5 K) ta tb) (GZ ml mb):=by
 and_intros;obtain⟨⟨d1,h1⟩,e1,hm⟩:=c5 hm;obtain⟨⟨d2,h2⟩,e2,hm⟩:=c5 hm;dsimp only at hm;split at hm
 .obtain⟨w,e3,e4⟩:=c7 hm;cases e4;refine ha ρ σ H hd ls _ d1 h1 hR hL e1 λρ1 H1 a xs x1 R1 na oa ea r1=>?_;refine hb ρ1 σ H1 h1 ls _ _ _ R1 (hL.ext hR x1) e2 λρ2 H2 v2 x2 R2 r2=>?_;simp only[RD,RI]at r2;subst r2;have r1':=r1.ext R1 x2;obtain⟨j,j1,j2⟩:=P7 r1'.len e3;obtain⟨x,y1,y2⟩:=r1'.get j1;exact .inl ⟨a,xs,_,x,rfl,rfl,SqL.of (x2.keep a _ ea oa nt),j2 x y1,hQ ρ2 H2 x 83 R2 y2⟩
 .cases hm
def Ka(neg:Bool)(x y:PyData)(hd:Hd):Option 104:=if x.canLay0=true/\y.canLay0=true/\min x.depth y.depth<=60 then some (.im (.bl (if neg then !PyData.eqv x y else PyData.eqv x y)),hd)else none
def Dp(neg:Bool)(ma:ME)(ml:MA):ME:=λls hd=>(ma ls hd).bind λp=>(ml ls p.2).bind λq=>(pyD q.2 p.1).bind λx=>(BK q.1).bind λis=>Ka neg x (.list (I.pys is)) q.2
def rEN(K:Frag)(neg:Bool):R2:=λx y H Q=>∃d e,Rep K H d x/\Rep K H e y/\d.canLay0=true/\e.canLay0=true/\min d.depth e.depth<=60/\Q (.bl (if neg then !PyData.eqv d e else PyData.eqv d e)) H
def WK{ρ:List Addr}{H:Hp}{a:Addr}{xs:List V}{ds:List D}{is:List I}(ea:H a=some (.lst xs))(r:RDs K ρ H ds xs)(e:BK ds=some is):Rep K H (.list (I.pys is)) (.ref a):=by
 rw[Gx e]at r;simp only[Rep];exact⟨a,xs,rfl,SqL.of ea,r.is.rep⟩
def WV{neg:Bool}{ta tb:TE}{ma:ME}{ml:MA}(ha:RE K ta ma)(hb:RN K tb ml):RE K (tOp (rEN K neg) ta tb) (Dp neg ma ml):=by
 and_intros;obtain⟨⟨d1,h1⟩,e1,hm⟩:=c5 hm;obtain⟨⟨d2,h2⟩,e2,hm⟩:=c5 hm;obtain⟨x,e3,hm⟩:=c5 hm;obtain⟨is,e4,hm⟩:=c5 hm;unfold Ka at hm;split at hm
 .next c=>
  cases hm;refine ha ρ σ H hd ls _ d1 h1 hR hL e1 λρ1 H1 v x1 R1 r1=>?_;refine hb ρ1 σ H1 h1 ls _ d2 _ R1 (hL.ext hR x1) e2 λρ2 H2 a xs x2 R2 na oa ea r2=>?_;exact⟨_,_,E6 R2 (r1.ext R1 x2) e3,WK ea r2 e4,c.1,c.2.1,c.2.2,hQ ρ2 H2 _ 83 R2 101⟩
 .cases hm
end
def aP(K:Frag){X:Cx}(hu:X.A.units+64<cLine)(hK:X.K=K:=by rfl):OpR X (compareOp .NotEq) (rEN K true):=IH K hu hK
section
variable(K:Frag){X:Cx}{a b e:Expr}{ta tb te:TE}{ma mb me:ME}{m mk:MA}{pos:Pos}{op:CmpOp}{neg:Bool}
def Zo(ha:QN K X a ta m)(hb:QE K X b tb mb)(hs:Kj b:=by exact λ_ _=>rfl)(hK:X.K=K:=by rfl):QE K X (.Subscript a b pos) (tOp (M5 K) ta tb) (GZ m mb):=⟨VS ((NP K hK).or (Ov K hK)) ha.p hb.p hs,ZA ha.r hb.r⟩
def Wg(ho:OpR X (compareOp op) (rEN K neg))(ha:QE K X a ta ma)(hb:QN K X b tb m)(hm:behindInMarks op b=false:=by first|exact N2 _|rfl):QT K X (.Compare a [op] [b] pos) (Ly (tOp (rEN K neg) ta tb)) (AJ (Dp neg ma m)):=⟨Oe ho ha.p hb.p hm,F1 (WV ha.r hb.r)⟩
end
def Bs(lo:Int):Nat->List V
 |0=>[]
 |n+1=>.int lo::Bs (lo+1) n
def Pt(lo:Int)(n:Nat):(Bs lo n).length=n:=by
 induction n generalizing lo with
 |zero=>rfl
 |succ n ih=>simp[Bs,ih]
def Mr{K:Frag}{ρ:List Addr}{H:Hp}(lo:Int)(n:Nat):RDs K ρ H (Aj lo n) (Bs lo n):=by
 induction n generalizing lo with
 |zero=>simp[Aj,Bs,RDs]
 |succ n ih=>exact .cons 101 (ih _)
theorem JW{lo:Int}:∀{n:Nat} {us:List Value},us.length=n->(∀(j:Nat) (v:Value),us[j]?=some v->∃t,v=.int (lo+j*1) t)->Vals (Bs lo n) us
 |0,us,h,_=>by
  have:us=[]:=List.length_eq_zero_iff.mp h;subst this;exact .nil
 |n+1,[],h,_=>by simp at h
 |n+1,u::us,h,k=>by
  obtain⟨t,e⟩:=k 0 u rfl;refine .cons ⟨t,by rw[e];simp⟩ (JW (by simpa using h) λj v q=>?_);obtain⟨t',e'⟩:=k (j+1) v (by simpa using q);exact⟨t',by rw[e'];congr 1;push_cast;omega⟩
section
variable{prog:Program}{w:World}{A:Around}{E:Value->Shared->Prop}{s:Shared}
def Nx{Q:List Value->Shared->Prop}{r:Addr}{a b c:Int}{t u v:Tok}{n:Nat}(hh:A.handled=none)(hr:IsRange s.heap r a b c t u v)(hsm:Builtin.Range.small a b c=true)(hn:Builtin.Range.rangeSize a b c=n)(hl:n<=2^24)
 (hQ:∀g tk (acc:Array Value),(∀b o,s.heap.get? b=some o->g.get? b=some o)->ItemsOf (λi v=>∃t,v=.int (a+i*c) t) acc n->Q acc.toList { s with heap:=g,toks:=tk }):
 wpAny 92 A (collect (.ref r)) Q E s:=by
 unfold collect;refine gh (wpAny_runValue (iT F.entry_proto_collect ?_));rw[Around.under_plainId F.plain_proto_collect _];show wpAny _ A.in1 (newList [] >>= λl=>again (.builtin "list.__iadd__" ⟨[l,.ref r],[]⟩)) _ _ s;refine gh (iX (gn ⟨j8 F.plain_list_iadd _,iT F.entry_list_iadd ?_⟩));rw[Around.under_plainId F.plain_list_iadd _];show wpAny _ A.in1 (Builtin.List.listExtendWith (.ref 66) (.ref r) (.ref 66)) _ _ _;have e0:(s.heap.push { cls:=.type "list",data:=.seq ([]:List Value).toArray }).get? 66=some { cls:=.type "list",data:=.seq #[] 0 }:=87 _ rfl;have fin:∀g tk (acc:Array Value) c',(∀b o,b≠66->(s.heap.push { cls:=.type "list",data:=.seq ([]:List Value).toArray }).get? b=some o->g.get? b=some o)->g.get? 66=some { cls:=.type "list",dict:=none,data:=.seq acc c',slots:=#[] }->ItemsOf (λi v=>∃t,v=.int (a+i*c) t) acc n ->
  wpAny 92 A (load 66 >>= λo=>match o.data with|Data.seq xs epoch=>pure xs.toList|x=>unsupported "internal:collect") Q E { s with heap:=g,toks:=tk }:=λg tk acc c' kp eS it=>
  gh (wpAny_load eS (gn (hQ g tk acc (λb o q=>kp b o (gV (90 q)) (74 _ q)) it)))
 refine hZ (wpAny_extend_range (A:=A) (R:=λr s'=>r=.ok (.ret (.ref 66))/\∃g tk,s'={ s with heap:=g,toks:=tk }/\wpAny 92 A (load 66 >>= λo=>match o.data with|Data.seq xs epoch=>pure xs.toList|x=>unsupported "internal:collect") Q E s')
  (s:={ s with heap:=s.heap.push { cls:=.type "list",data:=.seq ([]:List Value).toArray } }) hh (74 _ hr) hsm hn hl 66 (.ref 66) 0 e0 λg tk acc c' kp eS it=>⟨rfl,g,tk,rfl,fin g tk acc c' kp eS it⟩) (λfn s' h=>?_) (λe s' h=>absurd h.1 (by simp))
 cases fn with
 |done f=>
  obtain⟨e,_,_,_,q⟩:=h;cases e;exact q
 |again c'=>exact⟨h.1,jb h.2 λr s'' hr=>by obtain⟨rfl,_,_,_,q⟩:=hr;exact q⟩
end
def Ob:List V->Hp->VK->Prop:=λxs H Q=>∃j:Int,xs=[.int j]/\∀p,H p=none->Q (.ref p) (upd H p (.rng 0 j))
def Oa:List V->Hp->VK->Prop:=λxs H Q=>∃i j:Int,xs=[.int i,.int j]/\∀p,H p=none->Q (.ref p) (upd H p (.rng i j))
def Mt:List V->Hp->VK->Prop:=λxs H Q=>∃a lo hi,xs=[.ref a]/\H a=some (.rng lo hi)/\(-(2^62)<=lo/\lo<2^62/\-(2^62)<=hi/\hi<2^62)/\(hi-lo).toNat<=2^24/\∀p,H p=none->Q (.ref p) (upd H p (.lst (Bs lo (hi-lo).toNat)))
section
variable{X:Cx}
def call_rng1:CallR X (.type "range") Ob:=by
 intro pins s σ H xs us Q I r h;obtain⟨j,rfl,q⟩:=h;obtain⟨u,rfl,t,rfl⟩:=C4 r;exact call_range_1 ⟨.ref 66,_,I.laid (a:=66) (o:=.rng 0 j) (λb o e=>74 _ e) (gm _) ⟨_,_,_,87 _ rfl⟩,rfl,q _ (I.hok.fresh (gm _))⟩
def LJ:CallR X (.type "range") Oa:=by
 intro pins s σ H xs us Q I r h;obtain⟨i,j,rfl,q⟩:=h;obtain⟨u,v,rfl,⟨t,rfl⟩,⟨t',rfl⟩⟩:=PD r;exact call_range_2 ⟨.ref 66,_,I.laid (a:=66) (o:=.rng i j) (λb o e=>74 _ e) (gm _) ⟨_,_,_,87 _ rfl⟩,rfl,q _ (I.hok.fresh (gm _))⟩
def VE{lo hi:Int}:Builtin.Range.rangeSize lo hi 1=((hi-lo).toNat:Nat):=by rw[rangeSize_one];split<;>omega
def Jn{lo:Int}{n:Nat}{acc:Array Value}(it:ItemsOf (λi v=>∃t,v=.int (lo+i*1) t) acc n):Vals (Bs lo n) acc.toList:=JW (by simpa using it.1) λj v q=>it.2 j v (by simpa using q)
def Qh(hc:X.calm=true):CallR X (.type "list") Mt:=by
 intro pins s σ H xs us Q I r h;obtain⟨a,lo,hi,rfl,ha,⟨b1,b2,b3,b4⟩,hz,q⟩:=h;obtain⟨u,rfl,ru⟩:=C4 r;cases ru;obtain⟨t,u,v,hr⟩:∃t u v,s.heap.get? a=some { cls:=.type "range",data:=.fields #[.int lo t,.int hi u,.int 1 v] }:=I.hok a _ ha;refine call_list_range (I.ok.hd hc) hr (small_one b1 b2 b3 b4) VE hz λg tk acc c' kp e it=>?_;exact⟨.ref 66,_,I.laid (t':=tk) (o:=.lst _) kp (gm _) ⟨by rw[Pt,iA];omega,acc.toList,c',Jn it,by simpa using e⟩,rfl,q _ (I.hok.fresh (gm _))⟩
end
section
variable{K:Frag}
open Classical in
def Hq(m:MA):MA:=λls hd=>(m ls hd).bind λp=>match p.1 with
 |[.im (.int j)]=>if M3 j then some (Aj 0 j.toNat,p.2)else none
 |[.im (.int i),.im (.int j)]=>if VF i j then some (Aj i (j-i).toNat,p.2)else none
 |_=>none
def Ja:List V->Hp->VK->Prop:=λxs H Q=>Ob xs H Q∨Oa xs H Q
def Tj{t:TA}{m:MA}(h:RA K t m):RN K (tCB Mt (BB (tCB Ja t) Bp)) (Hq m):=by
 and_intros;obtain⟨⟨d1,h1⟩,e1,hm⟩:=c5 hm;dsimp only at hm;refine h ρ σ H hd ls _ d1 h1 hR hL e1 λρ1 H1 v x1 R1 r1=>?_;split at hm
 .next j=>
  split at hm
  .next c=>
   have c:j<2^24/\-(2^62)<=j:=c;cases hm;simp only[RDs,RD,RI]at r1;obtain⟨x,r,rfl,rfl,rfl⟩:=r1;refine .inl ⟨j,rfl,λp hp=>⟨p,0,j,rfl,AN,⟨by decide,by decide,c.2,by omega⟩,by omega,λl hl=>?_⟩⟩;obtain⟨R2,x2⟩:=R1.hid (ho:=.rng 0 j) hp;obtain⟨R3,x3⟩:=R2.hid (ho:=.lst (Bs 0 (j-0).toNat)) hl;refine hQ ρ1 _ l (Bs 0 (j-0).toNat) ((83).trans R2 x3) R3 ((83).none hR hl R2) (R2.out hl) AN ?_;rw[Int.sub_zero];exact Mr 0 _
  .cases hm
 .next i j=>
  split at hm
  .next c=>
   cases hm;simp only[RDs,RD,RI]at r1;obtain⟨x,r,rfl,rfl,y,r2,rfl,rfl,rfl⟩:=r1;refine .inr ⟨i,j,rfl,λp hp=>⟨p,i,j,rfl,AN,⟨c.1.1,c.1.2,c.2.1.1,c.2.1.2⟩,c.2.2,λl hl=>?_⟩⟩;obtain⟨R2,x2⟩:=R1.hid (ho:=.rng i j) hp;obtain⟨R3,x3⟩:=R2.hid (ho:=.lst (Bs i (j-i).toNat)) hl;exact hQ ρ1 _ l (Bs i (j-i).toNat) ((83).trans R2 x3) R3 ((83).none hR hl R2) (R2.out hl) AN (Mr i _)
  .cases hm
 .cases hm
def cW(m:MA):ME:=λls hd=>(Hq m ls hd).bind λp=>some (AY p.1,p.2)
def G9:∀{xs ys:List Int},xs.Perm ys->xs.Pairwise (·<=·)->ys.Pairwise (·<=·)->xs=ys:=λ{xs ys} p a b=>
 p.eq_of_pairwise (le:=(·<=·)) (λ_ _ _ _ h1 h2=>le_antisymm h1 h2) a b
def As(xs:List Int):List Int:=xs.mergeSort (λa b=>decide (a<=b))
def Aa(xs:List Int):(As xs).Perm xs:=jg ..
def Br(xs:List Int):(As xs).Pairwise (·<=·):=by
 have:=jq (le:=λa b:Int=>decide (a<=b)) (by intro a b c h1 h2;simp at *;omega) (by intro a b;simp;omega) xs;exact this.imp 75
def Bl(m:MI):MA:=λls hd=>(m ls hd).bind λp=>(Al p.1.1).bind λns=>if ns.length<64 then some ((As ns).map λi=>.im 106,p.2)else none
def Pp{t:TE}{m:MI}(h:RRw K false t m):RN K (tCB (KF K) (BB t Bp)) (Bl m):=by
 and_intros;obtain⟨⟨⟨d1,g1⟩,h1⟩,e1,hm⟩:=c5 hm;obtain⟨ns,e2,hm⟩:=c5 hm;split at hm
 .next c=>
  cases hm;refine h ρ σ H hd ls _ d1 g1 _ hR hL e1 λρ1 H1 a x1 R1 G1 S1=>?_;obtain⟨xs,q,r⟩:=S1 ρ1 H1 _ .refl R1 G1;have e3:d1=ns.map λi=>.im 106:=CG e2;rw[e3]at r;have:=E4 r;subst this;refine⟨a,ns,rfl,q,c,λp ns' hp pm pw=>?_⟩;have:ns'=As ns:=G9 (pm.trans (Aa ns).symm) pw (Br ns);subst this;obtain⟨R2,x2⟩:=R1.hid (ho:=.lst ((As ns).map V.int)) hp;exact hQ ρ1 _ p _ 83 R2 (x1.none hR hp R1) (R1.out hp) AN DY
 .cases hm
end
section
variable(K:Frag){X:Cx}{a b e:Expr}{ta tb te:TE}{me:ME}{m:MA}{t:TA}{p p2 pos pos2:Pos}{es:List Expr}
def UA(hm:X.mg "list"=none)(hm2:X.mg "range"=none)(ha:QA K X (a::es) t m)(hc:X.calm=true:=by rfl)(hg:Gl X "list":=by rfl)(hg2:Gl X "range":=by rfl)(he2:starEach (a::es) X.env=(false,eval a X.env)::starEach es X.env:=by rfl)(hpl:(backTo pos2 (starEach es X.env)).any (·.1)=false:=by rfl)
 (he:starEach [.Call (.Name "range" p2) (a::es) [] pos2] X.env=[(false,eval (.Call (.Name "range" p2) (a::es) [] pos2) X.env)]:=by rfl):
 QN K X (.Call (.Name "list" p) [.Call (.Name "range" p2) (a::es) [] pos2] [] pos) (tCB Mt (BB (tCB Ja t) Bp)) (Hq m):=
 ⟨DW (Qh hc) hg hm P6 (BV (DW (call_rng1.or LJ) hg2 hm2 boot_range ha.p 77 77 he2 hpl) CK he) 77 77 he rfl,Tj ha.r⟩
def Pz{mi:MI}(hm:X.mg "sorted"=none)(ha:QR K false X e te mi)(hg:Gl X "sorted":=by rfl)(he:starEach [e] X.env=[88]:=by rfl)(hK:X.K=K:=by rfl):QN K X (.Call (.Name "sorted" p) [e] [] pos) (tCB (KF K) (BB te Bp)) (Bl mi):=
 ⟨GV (Nj K hK) hg hm I0 (BV ha.p CK he) 77 77 he rfl,Pp ha.r⟩
end
end L2
namespace L2
structure BltA(mg:PySem.Str->Option PySem.Value):Prop where
 list:mg "list"=none
 tuple:mg "tuple"=none
 len:mg "len"=none
 range:mg "range"=none
 repr:mg "repr"=none
 sum:mg "sum"=none
 min:mg "min"=none
 max:mg "max"=none
 abs:mg "abs"=none
 all:mg "all"=none
 any:mg "any"=none
 sorted:mg "sorted"=none
 zip:mg "zip"=none
 isinstance:mg "isinstance"=none
 int:mg "int"=none
 bool:mg "bool"=none
 str:mg "str"=none
 set:mg "set"=none
 enumerate:mg "enumerate"=none
 reversed:mg "reversed"=none
 dict:mg "dict"=none
end L2
namespace L2
open PySem PySem.Spec PyProof.Rows
section
variable{ls:Ls}{hd:Hd}{a b c:MS}{ma mb mc:ME}{ta tb:MT}{m m1 m2:MA}{n:MG}{ns:MGs}{d e:D}
@[simp] theorem SW:AB a b ls hd=(a ls hd).bind λp=>match p.1 with
 |.nx ls1=>b ls1 p.2
 |f=>some (f,p.2):=rfl
@[simp] theorem eW:Ah ls hd=some (.nx ls,hd):=rfl
@[simp] theorem ef:B5 ma ls hd=(ma ls hd).bind λp=>some (.nx ls,p.2):=rfl
@[simp] theorem fR:AZ ma ls hd=(ma ls hd).bind λp=>some (.rt p.1,p.2):=rfl
@[simp] theorem eQ:cX ls hd=some (.rt (.im .non),hd):=rfl
@[simp] theorem dw:ae ls hd=some (.bk ls,hd):=rfl
@[simp] theorem f8:cf ls hd=some (.ct ls,hd):=rfl
@[simp] theorem fY:Au ta a b ls hd=(ta ls hd).bind λp=>if p.1=true then a ls p.2 else b ls p.2:=rfl
@[simp] theorem NZ:Iy ma n ls hd=(ma ls hd).bind λp=>(n p.1 ls p.2).map λls'=>(.nx ls',p.2):=rfl
@[simp] theorem Ox(i:Nat):AG i d ls hd=some (ls.set i (some d)):=rfl
@[simp] theorem eT(k:Nat):Bu k ns d ls hd=(Ab d).bind λds=>if 103=k then ns ds ls hd else none:=rfl
@[simp] theorem dk(d:D)(ds:List D):AR n ns (d::ds) ls hd=(n d ls hd).bind λls1=>ns ds ls1 hd:=rfl
@[simp] theorem eV:Bv [] ls hd=some ls:=rfl
@[simp] theorem b8(ix:List Nat):QH ix m ls hd=(m ls hd).bind λp=>if p.1.length=ix.length then some (.nx ((ix.zip p.1).foldl (λl q=>l.set q.1 (some q.2)) ls),p.2)else none:=rfl
@[simp] theorem eR(i j k:Nat):cY i j k m ls hd=QH [k,j,i] (λls hd=>(m ls hd).map λp=>(p.1.reverse,p.2)) ls hd:=rfl
@[simp] theorem SV(i:Nat):A1 i ls hd=match ls[i]? with
 |some (some d)=>some (d,hd)
 |_=>none:=rfl
@[simp] theorem gg(i:I):mC i ls hd=some (.im i,hd):=rfl
@[simp] theorem gN(f:D->D->Hd->Option 104):mOp f ma mb ls hd=(ma ls hd).bind λp=>(mb ls p.2).bind λq=>f p.1 q.1 q.2:=rfl
@[simp] theorem fe:Ef ta tb ls hd=(ta ls hd).bind λp=>if p.1=true then tb ls p.2 else some (false,p.2):=rfl
@[simp] theorem gM:mOr ta tb ls hd=(ta ls hd).bind λp=>if p.1=true then some (true,p.2)else tb ls p.2:=rfl
@[simp] theorem fU:Cm ta ls hd=(ta ls hd).bind λp=>some (!p.1,p.2):=rfl
@[simp] theorem b0:BU ma ls hd=(ma ls hd).bind λp=>(D5 p.2 p.1).map (·,p.2):=rfl
@[simp] theorem YE:AJ ma ls hd=(ma ls hd).bind λp=>match p.1 with
 |.im (.bl b)=>some (b,p.2)
 |_=>none:=rfl
@[simp] theorem gO:mIf ta ma mb ls hd=(ta ls hd).bind λp=>if p.1=true then ma ls p.2 else mb ls p.2:=rfl
@[simp] theorem fA:DJ ma mb ls hd=(AJ ma ls hd).bind λp=>if p.1=true then mb ls p.2 else some (.im (.bl false),p.2):=rfl
@[simp] theorem fS:KL ma mb ls hd=(AJ ma ls hd).bind λp=>if p.1=true then some (.im (.bl true),p.2)else mb ls p.2:=rfl
@[simp] theorem eU:GX ma ls hd=(AJ ma ls hd).bind λp=>some (.im (.bl (!p.1)),p.2):=rfl
@[simp] theorem fV:A6 ls hd=some ([],hd):=rfl
@[simp] theorem f9:A2 ma m ls hd=(ma ls hd).bind λp=>(m ls p.2).bind λq=>some (p.1::q.1,q.2):=rfl
open Classical in
@[simp] theorem fO:B7 m ls hd=(m ls hd).bind λp=>if CH p.1.length then some (AY p.1,p.2)else none:=rfl
open Classical in
@[simp] theorem fW:Cf m ls hd=(m ls hd).bind λp=>if CH p.1.length then some (p.1,p.2)else none:=rfl
@[simp] theorem b9:B8 m ls hd=(m ls hd).bind λp=>some (.mu p.2.length,p.2++[.lst p.1]):=rfl
@[simp] theorem bA:Do ma ls hd=(ma ls hd).bind λp=>match p.1 with
 |.im (.int i)=>some (.im (.int (-i)),p.2)
 |_=>none:=rfl
@[simp] theorem fX(neg:Bool):Bh neg ma ls hd=(ma ls hd).bind λp=>some (.im (.bl (match p.1 with
 |.im .non=>!neg
 | _=>neg)),p.2):=rfl
@[simp] theorem gP(g:Int->Int->Option I)(i j:Int):fI g (.im 106) (.im (.int j)) hd=(g i j).map (.im ·,hd):=rfl
@[simp] theorem ee(f g:D->D->Hd->Option 104):Gq f g d e hd=match f d e hd with
 |some z=>some z
 |none=>g d e hd:=rfl
@[simp] theorem fb(neg:Bool)(i j:Int):Ft neg (.im 106) (.im (.int j)) hd=some (.im (.bl (if neg then !decide (i=j)else decide (i=j))),hd):=by simp[Ft,scI,Ma]
@[simp] theorem fZ(neg:Bool)(i j:Str):Ft neg (.im (.str i)) (.im (.str j)) hd=some (.im (.bl (if neg then !decide (i=j)else decide (i=j))),hd):=by simp[Ft,scI,Ma]
@[simp] theorem cu(i:Int):gIx d (.im 106) hd=(B4 hd d).bind λds=>(atI ds i).map (·,hd):=rfl
@[simp] theorem f7:CY d e hd=(F3 hd d).bind λkvs=>(E8 e).bind λk=>(Cj kvs k).map (·,hd):=rfl
@[simp] theorem gQ(f:List D->Hd->Option 104):mCB f m ls hd=(m ls hd).bind λp=>f p.1 p.2:=rfl
@[simp] theorem cv(tp:Bool)(g:List D->Option D):f1 tp g [d] hd=((if tp then B4 hd d else Am hd d)).bind λds=>(g ds).map (·,hd):=rfl
@[simp] theorem bF(g:List D->Option D):B3 g m ls hd=(m ls hd).bind λp=>(g p.1).map (·,p.2):=rfl
@[simp] theorem cr(f:D->List D->Hd->Option 104):mMt f ma m ls hd=(ma ls hd).bind λp=>match Am p.2 p.1 with
 |some _=>(m ls p.2).bind λq=>f p.1 q.1 q.2
 |none=>none:=rfl
@[simp] theorem eY(i j:Int):Gp [.im 106,.im (.int j)] hd=some (.im (.int (if j>i then j else i)),hd):=rfl
@[simp] theorem eX(i j:Int):Vd [.im 106,.im (.int j)] hd=some (.im (.int (if j<i then j else i)),hd):=rfl
@[simp] theorem fh(i:Int):di [.im 106] hd=some (.im (.int (if i<0 then -i else i)),hd):=rfl
@[simp] theorem bB:GZ m ma ls hd=(m ls hd).bind λp=>(ma ls p.2).bind λq=>match q.1 with
 |.im (.int i)=>(atI p.1 i).map (·,q.2)
 |_=>none:=rfl
@[simp] theorem SX:Ay ma ls hd=(ma ls hd).bind λp=>(Ab p.1).map λds=>((ds,[]),p.2):=rfl
@[simp] theorem bE:ac m ls hd=(m ls hd).map λp=>((p.1,[]),p.2):=rfl
@[simp] theorem bD:Bw ma ls hd=(ma ls hd).bind λp=>match p.1 with
 |.mu n=>match p.2[n]? with
  |some (.lst ds)=>some ((ds,[(n,ds)]),p.2)
  |_=>none
 |.ro ns=>some ((ns.map λn=>.im (.int n),[]),p.2)
 |_=>none:=rfl
open Classical in
@[simp] theorem bC:Ee m ls hd=(m ls hd).bind λp=>match p.1 with
 |[.im (.int j)]=>if Hi j then some ((Aj 0 j.toNat,[]),p.2)else none
 |_=>none:=rfl
open Classical in
@[simp] theorem YH:VZ m ls hd=(m ls hd).bind λp=>match p.1 with
 |[.im (.int i),.im (.int j)]=>if Th i j then some ((Aj i (j-i).toNat,[]),p.2)else none
 |_=>none:=rfl
@[simp] theorem bG(mi:MI):CS mi n a ls hd=(mi ls hd).bind λp=>BD n a p.1.2 p.1.1 ls p.2:=rfl
open Classical in
@[simp] theorem YI(k:Nat)(ix:List Nat)(mi:MI):Ae k ix mi n ta ma ls hd=(mi ls hd).bind λp=>if CH p.1.1.length then B9 n ta ma p.1.2 p.1.1 (Ey k ix ls) p.2 else none:=rfl
@[simp] theorem fM:BE ls hd=some (true,hd):=rfl
@[simp] theorem dv(F:List D->Hd->Option 104):D7 F m ls hd=(m ls hd).bind λp=>F p.1 p.2:=rfl
@[simp] theorem dH:F2 ls hd=some (none,hd):=rfl
@[simp] theorem YF:IJ ma ls hd=(ma ls hd).bind λp=>match p.1 with
 |.im (.int i)=>some (some i,p.2)
 |_=>none:=rfl
@[simp] theorem eZ:cZ ma ls hd=(ma ls hd).bind λp=>(B4 p.2 p.1).map (·,p.2):=rfl
@[simp] theorem dm:Hs m ls hd=m ls hd:=rfl
@[simp] theorem fQ(ml mh:MO1):NG ma ml mh ls hd=(ma ls hd).bind λp=>(ml ls p.2).bind λl=>(mh ls l.2).bind λh=>(Am h.2 p.1).bind λds=>some (El ds l.1 h.1,h.2):=rfl
@[simp] theorem fP(ml mh:MO1):da ma ml mh ls hd=(ma ls hd).bind λp=>(ml ls p.2).bind λl=>(mh ls l.2).bind λh=>(Ab p.1).bind λds=>if ¬ (HT.sIx 103 0 l.1=0/\HT.sIx 103 103 h.1=103)then some (AY (El ds l.1 h.1),h.2)else none:=rfl
@[simp] theorem eO:cW m ls hd=(Hq m ls hd).bind λp=>some (AY p.1,p.2):=rfl
open Classical in
@[simp] theorem b7:Hq m ls hd=(m ls hd).bind λp=>match p.1 with
 |[.im (.int j)]=>if M3 j then some (Aj 0 j.toNat,p.2)else none
 |[.im (.int i),.im (.int j)]=>if VF i j then some (Aj i (j-i).toNat,p.2)else none
 |_=>none:=rfl
@[simp] theorem dF(mi:MI):Bl mi ls hd=(mi ls hd).bind λp=>(Al p.1.1).bind λns=>if ns.length<64 then some ((As ns).map λi=>.im 106,p.2)else none:=rfl
@[simp] theorem f6(ms:List (ME×ME)):M7 ms ls hd=(EZ ms ls hd).bind λp=>if p.1.length<=15 then some (.mu p.2.length,p.2++[.dic (GA [] p.1)])else none:=rfl
@[simp] theorem dG:EZ [] ls hd=some ([],hd):=rfl
@[simp] theorem dj(r:List (ME×ME)):EZ ((ma,mb)::r) ls hd=(ma ls hd).bind λp=>(mb ls p.2).bind λq=>(EZ r ls q.2).bind λz=>(E8 p.1).map λk=>((k,q.1)::z.1,z.2):=rfl
open Classical in
@[simp] theorem eg:Fd ma mb mc ls hd=(mc ls hd).bind λp=>(ma ls p.2).bind λq=>(mb ls q.2).bind λr=>(E8 r.1).bind λk=>match q.1 with
 |.mu n=>match r.2[n]? with
  |some (.dic kvs)=>if Go kvs.length then some (.nx ls,r.2.set n (.dic (Dk kvs k p.1)))else none
  |_=>none
 |_=>none:=rfl
@[simp] theorem YG:Eu ma mb mc ls hd=(mc ls hd).bind λp=>(ma ls p.2).bind λq=>(mb ls q.2).bind λr=>match q.1,r.1 with
 |.mu n,.im (.int i)=>match r.2[n]? with
  |some (.lst ds)=>(ixN 103 i).map λj=>(.nx ls,r.2.set n (.lst (ds.set j p.1)))
  |_=>none
 |_,_=>none:=rfl
@[simp] theorem Yc(is:List I):Ab (.im (.tup is))=some (is.map .im):=rfl
@[simp] theorem fq(ds:List D):Ab (.tm ds)=some ds:=rfl
@[simp] theorem gA(k:Nat):Ab (.mu k)=none:=rfl
@[simp] theorem fz(k:List Int):Ab (.ro k)=none:=rfl
@[simp] theorem ET(is:List I):B4 hd (.im (.tup is))=some (is.map .im):=rfl
@[simp] theorem gD(ds:List D):B4 hd (.tm ds)=some ds:=rfl
@[simp] theorem gF(k:Nat):B4 hd (.mu k)=Am hd (.mu k):=rfl
@[simp] theorem gE(k:List Int):B4 hd (.ro k)=some (k.map λn=>.im (.int n)):=rfl
@[simp] theorem cg(k:Nat):Am hd (.mu k)=match hd[k]? with
 |some (.lst ds)=>some ds
 |_=>none:=rfl
@[simp] theorem gJ(k:List Int):Am hd (.ro k)=some (k.map λn=>.im (.int n)):=rfl
@[simp] theorem gR(k:Nat):F3 hd (.mu k)=match hd[k]? with
 |some (.dic ds)=>some ds
 |_=>none:=rfl
@[simp] theorem gL(i:Int):E8 (.im 106)=some (.inl i):=rfl
@[simp] theorem gK(i:Str):E8 (.im (.str i))=some (.inr i):=rfl
@[simp] theorem fo:BK []=some []:=rfl
@[simp] theorem gU(i:I)(r:List D):BK (.im i::r)=(BK r).map (i::·):=rfl
@[simp] theorem fK:Al []=some []:=rfl
@[simp] theorem fL(i:Int)(r:List D):Al (.im 106::r)=(Al r).map (i::·):=rfl
@[simp] theorem fm:CM []=some []:=rfl
@[simp] theorem gT(i:Bool)(r:List D):CM (.im (.bl i)::r)=(CM r).map (i::·):=rfl
@[simp] theorem Ax(is:List I):AY (is.map .im)=.im (.tup is):=by simp[AY]
@[simp] theorem dE:AY []=.im (.tup []):=rfl
@[simp] theorem Ol(i:I):AY [.im i]=.im (.tup [i]):=rfl
@[simp] theorem Xl(i j:I):AY [.im i,.im j]=.im (.tup [i,j]):=rfl
@[simp] theorem eJ(i j k:I):AY [.im i,.im j,.im k]=.im (.tup [i,j,k]):=rfl
@[simp] theorem eI(i j k l:I):AY [.im i,.im j,.im k,.im l]=.im (.tup [i,j,k,l]):=rfl
@[simp] theorem fj(w:Nat)(i:I):clD w (.im i)=true:=by simp[clD]
@[simp] theorem fi(w n:Nat):clD w (.mu n)=decide (n<w):=by simp[clD]
@[simp] theorem dy(w:Nat):Ao w []=true:=by simp[Ao]
@[simp] theorem Sj(w:Nat)(d:D)(ds:List D):Ao w (d::ds)=(clD w d&&Ao w ds):=by simp[Ao]
@[simp] theorem Ct{α:Type}(x:α)(r:List α):atI (x::r) 0=some x:=IR (j:=0) rfl
@[simp] theorem DT{α:Type}(x y:α)(r:List α):atI (x::y::r) 1=some y:=IR (j:=1) rfl
@[simp] theorem Ep{α:Type}(x y z:α)(r:List α):atI (x::y::z::r) 2=some z:=IR (j:=2) rfl
def Eo{α:Type}{xs:List α}{i:Int}{k:Nat}{x:α}(hi:i=k)(h:xs[k]?=some x):atI xs i=some x:=by subst hi;exact IR h
@[simp] theorem DC:CH 0:=AS 77
@[simp] theorem FI:CH 1:=AS 77
@[simp] theorem DB:CH 2:=AS 77
@[simp] theorem C1:CH 3:=AS 77
@[simp] theorem SR:CH 4:=AS 77
@[simp] theorem SQ:CH 5:=AS 77
@[simp] theorem eK:Go 4:=Cq 77
open Classical in
@[simp] theorem bH(k:Nat)(x:D):BP (.mu k) [x] hd=match hd[k]? with
 |some (.lst ds)=>if Go 103 then some (.im .non,hd.set k (.lst (ds++[x])))else none
 |_=>none:=rfl
def Sn{F:List D->Hd->Option 104}{ds:List D}{hd1 h2:Hd}{i:I}(h1:m ls hd=some (ds,hd1))(hc:Ao 0 ds=true)(hF:F ds []=some (.im i,h2)):A8 0 F m ls hd=some (.im i,hd1):=by
 simp[A8,h1,hc,hF,fin]
def JC{w:Nat}{F:List D->Hd->Option 104}{ds:List D}{pre pre' rest g:Hd}{i:I}(hw:pre.length=w)(hw':pre'.length=w)(h1:m ls hd=some (ds,pre++rest))(hc:Ao w ds=true)(hp:pre.all (clO w)=true)(hp':pre'.all (clO w)=true)(hF:F ds pre=some (.im i,pre'++g)):A8 w F m ls hd=some (.im i,pre'++rest):=by
 subst hw;have e1:(pre++rest).take pre.length=pre:=by simp
 have e2:(pre'++g).take pre.length=pre':=by rw[<- hw'];simp
 simp only[A8,h1,gw,e1,hc,hp,hF,fin,e2,hp'];simp
end
def Ui{n:MG}{b:MS}{g:Gd}{ls:Ls}{hd:Hd}:BD n b g [] ls hd=some (.nx ls,hd):=by unfold BD;rfl
def SD{n:MG}{b:MS}{g:Gd}{d:D}{r:List D}{ls ls1 ls2:Ls}{hd hd2:Hd}(h1:n d ls hd=some ls1)(h2:b ls1 hd=some (.nx ls2,hd2))(h3:GOk hd2 g):BD n b g (d::r) ls hd=BD n b g r ls2 hd2:=by
 conv=>lhs;unfold BD
 simp[h1,h2,h3]
open Classical in
def mIn(k:Nat)(n:MG)(c:MT)(m:ME)(g:Gd):List D->Ls->Hd->Option (Ls×Hd)
 |[],ls,hd=>some (ls,hd)
 |d::r,ls,hd=>(n d ls hd).bind λls1=>(c ls1 hd).bind λp=>if p.1=true then(m ls1 p.2).bind λq=>(BP (.mu k) [q.1] q.2).bind λz=>if GOk z.2 g then mIn k n c m g r ls1 z.2 else none else if GOk p.2 g then mIn k n c m g r ls1 p.2 else none
open Classical in
def QJ(k:Nat)(n:MG)(c:MT)(mi:MI)(n2:MG)(c2:MT)(m:ME)(g:Gd):List D->Ls->Hd->Option Hd
 |[],ls,hd=>some hd
 |d::r,ls,hd=>(n d ls hd).bind λls1=>(c ls1 hd).bind λp=>if p.1=true then(mi ls1 p.2).bind λq=>(mIn k n2 c2 m q.1.2 q.1.1 ls1 q.2).bind λz=>if GOk z.2 g then QJ k n c mi n2 c2 m g r z.1 z.2 else none else if GOk p.2 g then QJ k n c mi n2 c2 m g r ls1 p.2 else none
def ad(j:Nat)(ix:List Nat)(mi:MI)(n:MG)(c:MT)(mi2:MI)(n2:MG)(c2:MT)(m:ME):ME:=λls hd=>(mi ls hd).bind λp=>(QJ p.2.length n c mi2 n2 c2 m p.1.2 p.1.1 (Ey j ix ls) (p.2++[.lst []])).map λh=>(.mu p.2.length,h)
open Classical in
def Ix(ma mb:ME):MA:=λls hd=>(ma ls hd).bind λp=>(mb ls p.2).bind λq=>match p.1,q.1 with
 |.mu i,.mu j=>match q.2[i]?,q.2[j]? with
  |some (.lst xs),some (.lst ys)=>if CH (96+ys.length)then some (xs++ys,q.2)else none
  |_,_=>none
 |_,_=>none
def Z0{K:Frag}{ta tb:TE}{ma mb:ME}(ha:RE K ta ma)(hb:RE K tb mb):RN K (tOp U0 ta tb) (Ix ma mb):=by
 and_intros;obtain⟨⟨d1,h1⟩,e1,hm⟩:=c5 hm;obtain⟨⟨d2,h2⟩,e2,hm⟩:=c5 hm;dsimp only at hm;split at hm
 .next i j=>
  split at hm
  .next xs ys q1 q2=>
   split at hm
   .next c=>
    cases hm;refine ha ρ σ H hd ls _ _ h1 hR hL e1 λρ1 H1 v x1 R1 r1=>?_;refine hb ρ1 σ H1 h1 ls _ _ _ R1 (hL.ext hR x1) e2 λρ2 H2 u x2 R2 r2=>?_;have r1':=r1.ext R1 x2;simp only[RD]at r1' r2;obtain⟨a,ka,rfl⟩:=r1';obtain⟨b,kb,rfl⟩:=r2;obtain⟨vs,f1,f2⟩:=R2.lst ka q1;obtain⟨us,f3,f4⟩:=R2.lst kb q2;refine⟨a,b,vs,us,rfl,rfl,f1,f3,by rw[f2.len,f4.len];exact c,λp hp=>?_⟩;obtain⟨R3,x3⟩:=R2.hid (ho:=.lst (vs++us)) hp;have x12:=x1.trans R1 x2;exact hQ ρ2 _ p _ (x12.trans R2 x3) R3 (x12.none hR hp R2) (R2.out hp) AN ((f2.app f4).ext R2 x3)
   .cases hm
  .cases hm
 .cases hm
def ZX(K:Frag){X:Cx}{a b:Expr}{pos:Pos}{ta tb:TE}{ma mb:ME}(ha:QE K X a ta ma)(hb:QE K X b tb mb):QN K X (.BinOp a .Add b pos) (tOp U0 ta tb) (Ix ma mb):=⟨Q4 aU ha.p hb.p,Z0 ha.r hb.r⟩
@[simp] theorem dq(j:Nat)(ix:List Nat)(mi mi2:MI)(n n2:MG)(c c2:MT)(m:ME)(ls:Ls)(hd:Hd):ad j ix mi n c mi2 n2 c2 m ls hd=(mi ls hd).bind λp=>(QJ p.2.length n c mi2 n2 c2 m p.1.2 p.1.1 (Ey j ix ls) (p.2++[.lst []])).map λh=>(.mu p.2.length,h):=rfl
end L2
namespace L2
open PySem PySem.Spec PyProof.Rows PySem.W
section
variable(r:Nat->Int)(n:Nat)
def PWp{α:Type}:KasT α->(α->Prop)->Prop
 |.ret a,Q=>Q a
 |.ask i j k,Q=>i<n/\j<n/\PWp (k (decide (r i<r j))) Q
def kv(p:Array Nat)(i:Nat):Int:=r (p.getD i 0)
def STo(p:Array Nat)(m:Nat):Prop:=∀i j,i<=j->j<m->kv r p i<=kv r p j
def DTo(p:Array Nat)(m:Nat):Prop:=∀i j,i<=j->j<m->kv r p j<=kv r p i
def EqL(p:Array Nat)(m q:Nat):Prop:=∀k,m-(q+1)<=k->k<m->kv r p k=kv r p (m-1)
def PAr(p:Array Nat):Prop:=p.Perm (71 n).toArray
end
section
variable{r:Nat->Int}{n:Nat}
theorem PWp.bind{α β:Type}{f:α->KasT β}{Q:β->Prop}:∀{t:KasT α},PWp r n t (λa=>PWp r n (f a) Q)->PWp r n (t.bind f) Q
 |.ret _,h=>h
 |.ask i j k,h=>⟨h.1,h.2.1,PWp.bind h.2.2⟩
theorem PWp.mono{α:Type}{Q Q':α->Prop}:∀{t:KasT α},PWp r n t Q->(∀a,Q a->Q' a)->PWp r n t Q'
 |.ret _,h,q=>q _ h
 |.ask i j k,h,q=>⟨h.1,h.2.1,PWp.mono h.2.2 q⟩
theorem PWp.wp{α:Type}{cmp:Nat->Nat->(Bool->Shared->Prop)->Shared->Prop}{P:Shared->Prop}{Q:α->Shared->Prop}(hc:∀i j C s,i<n->j<n->P s->(∀s',P s'->C (decide (r i<r j)) s')->cmp i j C s):∀{t:KasT α} {s:Shared},PWp r n t (λa=>∀s,P s->Q a s)->P s->t.kasWp cmp Q s
 |.ret _,s,h,p=>h s p
 |.ask i j k,s,h,p=>hc i j _ s h.1 h.2.1 p λs' p'=>PWp.wp hc h.2.2 p'
theorem PAr.size{p:Array Nat}(h:PAr n p):p.size=n:=by have:=h.size_eq;simpa using this
def PAr.lt{p:Array Nat}(h:PAr n p){i:Nat}(hi:i<n):p.getD i 0<n:=by
 have hs:=h.size;have hi':i<p.size:=by omega
 have:p[i]∈(71 n).toArray:=h.mem_iff.mp (Array.getElem_mem hi');have e:p.getD i 0=p[i]:=by simp[Array.getD,hi']
 rw[e];simpa using this
def Jl{p:Array Nat}{i j:Nat}(hj:j<=p.size)(k:Nat):kv r (kas_rev p i j) k=if i<=k/\k<j then kv r p (i+j-1-k)else kv r p k:=by
 unfold kv kas_rev;simp only[Array.getD_eq_getD_getElem?];rw[getElem?_mirror_all hj];split<;>rfl
def PAr.rev{p:Array Nat}(h:PAr n p)(i j:Nat):PAr n (kas_rev p i j):=(mirror_perm _ _ _ _).trans h
def Ot{p:Array Nat}{m q:Nat}(hj:m<=p.size)(hq:q+1<=m)(h:EqL r p m q)(k:Nat):kv r (kas_rev p (m-(q+1)) m) k=kv r p k:=by
 rw[Jl hj];split
 .next c=>rw[h _ 67 67,h k c.1 c.2]
 .rfl
theorem No{p:Array Nat}(pa:PAr n p):∀(f m:Nat),1<=m->m+f<=n->STo r p m->PWp r n (kas_asc p f m) λm'=>m<=m'/\m'<=m+f/\STo r p m'/\(m'<m+f->kv r p m'<kv r p (m'-1))
 |0,m,h1,hn,hs=>⟨gm _,gm _,hs,λh=>by omega⟩
 |f+1,m,h1,hn,hs=>by
  refine⟨pa.lt 67,pa.lt 67,?_⟩;by_cases c:r (p.getD m 0)<r (p.getD (m-1) 0)
  .rw[i9 c];exact⟨gm _,by omega,hs,λ_=>c⟩
  .rw[i6 c];refine(No pa f (m+1) 67 67 ?_).mono λm' h=>⟨by omega,by omega,h.2.2.1,λz=>h.2.2.2 67⟩
   intro i j hij hj;by_cases e:j<m
   .exact hs i j hij e
   .have:j=m:=by omega
    subst this;by_cases e2:i=j
    .subst e2;exact Int.le_refl _
    .have:=hs i (j-1) 67 67;have:kv r p (j-1)<=kv r p j:=by unfold kv;omega
     omega
def JB{p:Array Nat}{m:Nat}(h1:1<=m)(h:DTo r p m)(c:kv r p m<=kv r p (m-1)):DTo r p (m+1):=by
 intro i j hij hj;by_cases e:j<m
 .exact h i j hij e
 .have:j=m:=by omega
  subst this;by_cases e2:i=j
  .subst e2;exact Int.le_refl _
  .have:=h i (j-1) 67 67;omega
theorem IP:∀(f:Nat) (p:Array Nat) (m q:Nat),PAr n p->1<=m->q+1<=m->m+f<=n->DTo r p m->EqL r p m q ->
 PWp r n (kas_desc f p m q) λz=>PAr n z.1/\m<=z.2.1/\z.2.1<=m+f/\DTo r z.1 z.2.1/\EqL r z.1 z.2.1 z.2.2/\z.2.2+1<=z.2.1
 |0,p,m,q,pa,h1,hq,hn,hd,he=>⟨pa,gm _,gm _,hd,he,hq⟩
 |f+1,p,m,q,pa,h1,hq,hn,hd,he=>by
  refine⟨pa.lt 67,pa.lt 67,?_⟩;have sz:=pa.size;by_cases c:r (p.getD m 0)<r (p.getD (m-1) 0)
  .rw[i9 c];have c':kv r p m<=kv r p (m-1):=by unfold kv;omega
   dsimp only;rw[gi rfl];by_cases hq0:q>0
   .rw[gi hq0];have sm:=Ot (r:=r) (p:=p) (m:=m) (q:=q) 67 hq he;refine(IP f _ (m+1) 0 (pa.rev _ _) 67 67 67 ?_ ?_).mono λz h=>⟨h.1,by omega,by omega,h.2.2.2⟩
    .have:=JB h1 hd c';intro i j a b;rw[sm,sm];exact this i j a b
    .intro k a b;have:k=m:=by omega
     subst this;rfl
   .rw[gj hq0];refine(IP f p (m+1) 0 pa 67 67 67 (JB h1 hd c') ?_).mono λz h=>⟨h.1,by omega,by omega,h.2.2.2⟩
    intro k a b;have:k=m:=by omega
    subst this;rfl
  .rw[i6 c];dsimp only;rw[gj Bool.false_ne_true];refine⟨pa.lt 67,pa.lt 67,?_⟩;by_cases d:r (p.getD (m-1) 0)<r (p.getD m 0)
   .rw[i9 d];exact⟨pa,gm _,by show m<=m+(f+1);omega,hd,he,hq⟩
   .rw[i6 d];dsimp only;rw[gj Bool.false_ne_true];have e:kv r p m=kv r p (m-1):=by unfold kv;omega
    refine(IP f p (m+1) (q+1) pa 67 67 67 (JB h1 hd 67) ?_).mono λz h=>⟨h.1,by omega,by omega,h.2.2.2⟩
    intro k a b;by_cases e2:k=m
    .subst e2;rfl
    .have:=he k 67 67;have e3:m+1-1=m:=rfl;rw[e3];omega
def Run(z:Nat×Array Nat)(r:Nat->Int)(n:Nat):Prop:=PAr n z.2/\1<=z.1/\z.1<=n/\STo r z.2 z.1
def ML{p:Array Nat}{m:Nat}(pa:PAr n p)(h1:1<=m)(hn:m<=n)(hd:DTo r p m):PWp r n (kas_tail3 m n p) λz=>Run z r n:=by
 have sz:=pa.size;have st:STo r (kas_rev p 0 m) m:=by
  intro i j a b;rw[Jl 67,Jl 67,gi ⟨by omega,by omega⟩,gi ⟨by omega,by omega⟩];exact hd _ _ 67 67
 refine PWp.bind ((No (pa.rev 0 m) (n-m) m h1 67 st).mono λm' h=>?_);exact⟨pa.rev 0 m,by show 1<=m';omega,by show m'<=n;omega,h.2.2.1⟩
def Ie{p:Array Nat}{m:Nat}(pa:PAr n p)(hn:m+1<=n)(hd:DTo r p (m+1)):PWp r n (kas_descPart m n p) λz=>Run z r n:=by
 refine PWp.bind ((IP (n-(m+1)) p (m+1) 0 pa 67 67 67 hd ?_).mono λz h=>?_)
 .intro k a b;have:k=m:=by omega
  subst this;rfl
 .obtain⟨a,b,c,d,e,g⟩:=h;have sz:=a.size;by_cases hq:z.2.2>0
  .rw[gi hq];have sm:=Ot (r:=r) (p:=z.1) (m:=z.2.1) (q:=z.2.2) 67 g e;exact ML (a.rev _ _) 67 67 λi j x y=>by rw[sm,sm];exact d i j x y
  .rw[gj hq];exact ML a 67 67 d
def Uz(h1:1<=n):PWp r n (kas_count n (List.toArray (71 n))) λz=>Run z r n:=by
 have pa:PAr n (71 n).toArray:=.refl _;have sz:=pa.size;refine PWp.bind ((No pa (n-1) 1 67 67 λi j a b=>?_).mono λm h=>?_)
 .have:i=j:=by omega
  subst this;exact Int.le_refl _
 .obtain⟨a,b,c,d⟩:=h;by_cases e:(m==n)=true
  .rw[gi e];have:m=n:=by simpa using e
   exact⟨pa,by show 1<=m;omega,by show m<=n;omega,c⟩
  .rw[gj e];have hne:m≠n:=by simpa using e
   have dd:=d 67;by_cases h2:m>1
   .rw[gi h2];refine⟨pa.lt 67,pa.lt 67,?_⟩;by_cases g:r ((71 n).toArray.getD 0 0)<r ((71 n).toArray.getD (m-1) 0)
    .rw[i9 g];exact⟨pa,by show 1<=m;omega,by show m<=n;omega,c⟩
    .rw[i6 g];dsimp only;rw[gj Bool.false_ne_true];have g':kv r (71 n).toArray (m-1)<=kv r (71 n).toArray 0:=by unfold kv;omega
     have eq:∀k,k<m->kv r (71 n).toArray k=kv r (71 n).toArray 0:=λk hk=>by
      have x1:=c 0 k 67 hk;have x2:=c k (m-1) 67 67;omega
     have rv:∀k,kv r (kas_rev (71 n).toArray 0 m) k=kv r (71 n).toArray k:=λk=>by
      rw[Jl 67];split
      .next z=>rw[eq _ 67,eq k z.2]
      .rfl
     refine Ie (pa.rev 0 m) 67 λi j x y=>?_;rw[rv,rv];by_cases z:j<m
     .rw[eq i 67,eq j z];exact Int.le_refl _
     .have:j=m:=by omega
      subst this;by_cases z2:i=j
      .subst z2;exact Int.le_refl _
      .rw[eq i 67];have:=eq (j-1) 67;omega
   .rw[gj h2];have:m=1:=by omega
    subst this;refine Ie pa 67 λi j x y=>?_;by_cases z:i=j
    .subst z;exact Int.le_refl _
    .have:i=0:=by omega
     have:j=1:=by omega
     subst i j;have:kv r (71 n).toArray 1<kv r (71 n).toArray 0:=dd;omega
theorem Ip{p:Array Nat}{k:Nat}(pa:PAr n p)(hk:k<n)(hs:STo r p k):∀(f l q:Nat),l<=q->q<=k->q-l<=f->(∀i,i<l->kv r p i<=kv r p k)->(∀i,q<=i->i<k->kv r p k<kv r p i) ->
 PWp r n (kas_place p k f l q) λm=>m<=k/\(∀i,i<m->kv r p i<=kv r p k)/\∀i,m<=i->i<k->kv r p k<kv r p i
 |0,l,q,a,b,c,d,e=>⟨by omega,d,λi x y=>e i 67 y⟩
 |f+1,l,q,a,b,c,d,e=>by
  unfold kas_place;by_cases h:l>=q
  .rw[gi h];exact⟨by omega,d,λi x y=>e i 67 y⟩
  .rw[gj h];refine⟨pa.lt 67,pa.lt 67,?_⟩;by_cases g:r (p.getD k 0)<r (p.getD ((l+q)/2) 0)
   .rw[i9 g];dsimp only;rw[gi rfl];have g':kv r p k<kv r p ((l+q)/2):=g;refine Ip pa hk hs f l ((l+q)/2) 67 67 67 d λi x y=>?_;have:=hs ((l+q)/2) i x y;omega
   .rw[i6 g];dsimp only;rw[gj Bool.false_ne_true];have g':kv r p ((l+q)/2)<=kv r p k:=by unfold kv;omega
    refine Ip pa hk hs f ((l+q)/2+1) q 67 67 67 (λi x=>?_) e;have:=hs i ((l+q)/2) 67 67;omega
def Kz{p:Array Nat}{k d:Nat}(hk:k<p.size)(hd:d<=k)(i:Nat):kv r (bubble p k d) i=if i=k-d then kv r p k else if k-d<i/\i<=k then kv r p (i-1)else kv r p i:=by
 unfold kv;simp only[Array.getD_eq_getD_getElem?];rw[getElem?_bubble hk d hd];split
 .rfl
 .split<;>rfl
theorem So:∀(f:Nat) (p:Array Nat) (k:Nat),PAr n p->k+f=n->STo r p k->PWp r n (kas_bin f p k) λz=>PAr n z/\STo r z n
 | 0,p,k,pa,e,hs=>⟨pa,by
  have:k=n:=by omega
  subst this;exact hs⟩
 |f+1,p,k,pa,e,hs=>by
  have sz:=pa.size;refine PWp.bind ((Ip pa 67 hs k 0 k 67 67 67 (λi h=>by omega) (λi a b=>by omega)).mono λm h=>?_);obtain⟨a,b,c⟩:=h;refine So f _ (k+1) ((bubble_perm _ _ _).trans pa) 67 λi j x y=>?_;rw[Kz 67 67,Kz 67 67];have ek:k-(k-m)=m:=by omega
  rw[ek]
  repeat' split
  .exact Int.le_refl _
  .exact Int.le_of_lt (c _ 67 67)
  .omega
  .exact b _ 67
  .exact hs _ _ 67 67
  .omega
  .exact b _ 67
  .exact hs _ _ 67 67
  .exact hs _ _ 67 67
def Vw(h1:1<=n):PWp r n (kas_sort n) λp=>PAr n p/\STo r p n:=by
 refine PWp.bind ((Uz h1).mono λz h=>?_);obtain⟨a,b,c,d⟩:=h;by_cases e:z.1<n
 .rw[gi e];have:max z.1 1=z.1:=by omega
  rw[this];exact So _ _ _ a 67 d
 .rw[gj e];have:z.1=n:=by omega
  exact⟨a,this ▸ d⟩
end
def Jz(h:Heap)(v:Value)(p:Int×Int):Prop:=∃(x:Addr) (o:Obj) (t u:Tok) (k:Nat),v=.ref x/\h.get? x=some o/\o.cls=.type "tuple"/\o.data=.seq #[.int p.1 t,.int p.2 u] k
def Ag(p:Int×Int):Int:=p.1*4000000000+p.2
def pok(p:Int×Int):Prop:=-1000000000<=p.1/\p.1<=1000000000/\-1000000000<=p.2/\p.2<=1000000000
section
variable{prog:Program}{w:World}{A:Around}{E:Value->Shared->Prop}{s:Shared}
def Xv{x y:Value}{p q:Int×Int}{C:Bool->Shared->Prop}(hx:Jz s.heap x p)(hy:Jz s.heap y q)(op:pok p)(oq:pok q)(h:C (decide (Ag p<Ag q)) s):
 wpAny 92 A (keyLt' (tuples' true) x y) C E s:=by
 obtain⟨a,o,t,u,k,rfl,ho,hc,hd⟩:=hx;obtain⟨a2,o2,t2,u2,k2,rfl,ho2,hc2,hd2⟩:=hy;obtain⟨p1,p2⟩:=p;obtain⟨q1,q2⟩:=q;unfold pok at op oq;unfold Ag at h;dsimp only at op oq h;refine kat_lt ho hd ho2 hd2 ?_;refine kat_cons (jx ?_);by_cases e1:p1=q1
 .have b1:(p1==q1)=true:=by simp[e1]
  rw[b1];refine kat_yes (kat_cons (jx ?_));by_cases e2:p2=q2
  .have b2:(p2==q2)=true:=by simp[e2]
   rw[b2];refine kat_yes (kat_nil ?_);have:decide (p1*4000000000+p2<q1*4000000000+q2)=false:=i6 67;rw[this]at h;exact h
  .have b2:(p2==q2)=false:=by simp[e2]
   rw[b2];refine kat_no (kat_one _ _ (lt_int ?_));have:decide (p1*4000000000+p2<q1*4000000000+q2)=decide (p2<q2):=decide_eq_decide.mpr 67;rw[this]at h;exact h
 .have b1:(p1==q1)=false:=by simp[e1]
  rw[b1];refine kat_no (oneLt_int ?_);have:decide (p1*4000000000+p2<q1*4000000000+q2)=decide (p1<q1):=decide_eq_decide.mpr 67;rw[this]at h;exact h
theorem OM{h:Heap}:∀{vs:List Value} {ps:List (Int×Int)},vs.length=ps.length->(∀(i:Nat) (v:Value) (p:Int×Int),vs[i]?=some v->ps[i]?=some p->Jz h v p)->∃fs,KatTups h vs fs/\fs.length=vs.length/\∀f∈fs,∃i t,f=.int i t
 |[],[],_,_=>⟨[],.nil,rfl,λ_ z=>by cases z⟩
 |v::vs,p::ps,hl,hp=>by
  obtain⟨fs,a,b,c⟩:=OM (vs:=vs) (ps:=ps) (by simpa using hl) λi v q e1 e2=>hp (i+1) v q (by simpa using e1) (by simpa using e2);obtain⟨x,o,t,u,k,rfl,ho,hc,hd⟩:=hp 0 v p rfl rfl;exact⟨.int p.1 t::fs,.cons ho hc hd rfl a,by simp[b],λf hf=>by
   rcases mem_cons.mp hf with rfl|hf
   .exact⟨_,_,rfl⟩
   .exact c f hf⟩
end
section
variable(K:Frag){X:Cx}
theorem MF:∀{us:List V} {its:List Value} {i:Nat} {u:V},Vals us its->us[i]?=some u->∃v,its[i]?=some v/\RelV u v
 |_,_,_,_,.nil,h=>by simp at h
 |_::_,_::_,0,_,.cons r _,h=>by
  simp at h;subst h;exact⟨_,rfl,r⟩
 |_::_,_::_,i+1,_,.cons _ t,h=>MF (i:=i) t (by simpa using h)
end
def CQ(p:Int×Int):D:=.im (.tup [.int p.1,.int p.2])
def Dm:List D->Option (List (Int×Int))
 |[]=>some []
 |.im (.tup [.int a,.int b])::r=>(Dm r).map ((a,b)::·)
 |_=>none
def Kt:∀{ds:List D} {ps:List (Int×Int)},Dm ds=some ps->ds=ps.map CQ:=by
 intro ds
 induction ds with
 |nil=>intro ps h;simp[Dm]at h;subst h;rfl
 |cons d r ih=>
  intro ps h;unfold Dm at h;split at h
  .next e=>cases e
  .next a b r' e=>
   cases e;obtain⟨qs,e1,rfl⟩:=c7 h;rw[ih e1];rfl
  .cases h
@[simp] theorem Q6(ps:List (Int×Int)):Dm (ps.map CQ)=some ps:=by
 induction ps with
 |nil=>rfl
 |cons p r ih=>simp[Dm,CQ]at ih ⊢;exact ih
def CO(ps:List (Int×Int)):List (Int×Int):=ps.mergeSort λa b=>decide (Ag a<=Ag b)
def JQ(ps:List (Int×Int)):(CO ps).Perm ps:=jg ..
def HU(ps:List (Int×Int)):(CO ps).Pairwise λa b=>Ag a<=Ag b:=by
 have:=jq (le:=λa b:Int×Int=>decide (Ag a<=Ag b)) (by intro a b c h1 h2;simp at *;omega) (by intro a b;simp;omega) ps;exact this.imp 75
open Classical in
def Uh(m:MI):MA:=λls hd=>(m ls hd).bind λp=>(Dm p.1.1).bind λps=>if ps.length<64/\∀q∈ps,pok q then some ((CO ps).map CQ,p.2)else none
section
variable{K:Frag}{ρ:List Addr}{H:Hp}{hd:Hd}
def WZ{p:Int×Int}{v:V}(h:RD K ρ H (CQ p) v):∃x,v=.ref x/\SqT K H x [.int p.1,.int p.2]:=by
 simp only[CQ,RD,RI,RIs]at h;obtain⟨a,xs,rfl,q,x,r,rfl,rfl,y,r2,rfl,rfl,rfl⟩:=h;exact⟨a,rfl,q⟩
open Classical in
def GF:D->List D->Hd->Option 104
 |.mu n,[.im (.int i)],hd=>match hd[n]? with
  |some (.lst ds)=>if Hi i then(ixN 103 i).bind λk=>(ds[k]?).map λy=>(y,hd.set n (.lst (ds.eraseIdx k)))else none
  |_=>none
 |_,_,_=>none
theorem RDs.erase:∀{ds:List D} {xs:List V} (k:Nat),RDs K ρ H ds xs->RDs K ρ H (ds.eraseIdx k) (xs.eraseIdx k)
 |[],_,_,h=>by simp only[RDs]at h;subst h;simp[RDs]
 |d::ds,_,0,h=>by simp only[RDs]at h;obtain⟨x,r,rfl,_,t⟩:=h;simpa using t
 |d::ds,_,k+1,h=>by
  simp only[RDs]at h;obtain⟨x,r,rfl,a,t⟩:=h;simpa using RDs.cons a (RDs.erase k t)
end
def Tl{K:Frag}:RM K Rg GF:=by
 intro ρ H hd d v ds vs Q z hd' hR h1 h2 hf hQ;unfold GF at hf;split at hf
 .split at hf
  .next q=>
   split at hf
   .next c=>
    obtain⟨k,e0,hf⟩:=c5 hf;obtain⟨y,e1,e3⟩:=c7 hf;cases e3;simp only[RD]at h1;obtain⟨a,hn,rfl⟩:=h1;simp only[RDs,RD,RI]at h2;obtain⟨x,r,rfl,rfl,rfl⟩:=h2;obtain⟨xs,f1,f2⟩:=hR.lst hn q;obtain⟨x,x1,x3⟩:=f2.get e1;obtain⟨R2,x2⟩:=hR.put hn (o:=.lst _) (ho:=.lst (xs.eraseIdx k)) ⟨_,rfl,f2.erase k⟩;obtain⟨s1,s2,s3,s4⟩:=KO e0;have sz:=f2.len;unfold Hi at c;exact⟨a,xs,_,k,x,rfl,rfl,f1,by omega,by omega,by rw[sz];exact s1,x1,hQ ρ _ _ x2 R2 (x3.ext hR x2)⟩
   .cases hf
  .cases hf
 .cases hf
section
variable{ls:Ls}{hd:Hd}
open Classical in
@[simp] theorem Uv(k:Nat)(i:Int):GF (.mu k) [.im 106] hd=match hd[k]? with
 |some (.lst ds)=>if Hi i then(ixN 103 i).bind λj=>(ds[j]?).map λy=>(y,hd.set k (.lst (ds.eraseIdx j)))else none
 |_=>none:=rfl
open Classical in
@[simp] theorem cq(mi:MI):Uh mi ls hd=(mi ls hd).bind λp=>(Dm p.1.1).bind λps=>if ps.length<64/\∀q∈ps,pok q then some ((CO ps).map CQ,p.2)else none:=rfl
end
end L2
namespace L2
open PySem PySem.Spec PyProof.Rows
def WP{α:Type}(o:Option (α×Hd))(Q:α->Hd->Prop):Prop:=∃z h,o=some (z,h)/\Q z h
abbrev WS(m:MS)(ls:Ls)(hd:Hd)(Q:Fl->Hd->Prop):Prop:=WP (m ls hd) Q
abbrev WE(m:ME)(ls:Ls)(hd:Hd)(Q:D->Hd->Prop):Prop:=WP (m ls hd) Q
abbrev WT(m:MT)(ls:Ls)(hd:Hd)(Q:Bool->Hd->Prop):Prop:=WP (m ls hd) Q
abbrev WA(m:MA)(ls:Ls)(hd:Hd)(Q:List D->Hd->Prop):Prop:=WP (m ls hd) Q
abbrev WO(m:MO1)(ls:Ls)(hd:Hd)(Q:Option Int->Hd->Prop):Prop:=WP (m ls hd) Q
abbrev WI(m:MI)(ls:Ls)(hd:Hd)(Q:List D×Gd->Hd->Prop):Prop:=WP (m ls hd) Q
abbrev WF(F:List D->Hd->Option 104)(ds:List D)(hd:Hd)(Q:D->Hd->Prop):Prop:=WP (F ds hd) Q
section
variable{α β:Type}{o:Option (α×Hd)}{Q:α->Hd->Prop}{R:β->Hd->Prop}{ls:Ls}{hd:Hd}{d e:D}
theorem WP.some{z:α}{h:Hd}(q:Q z h):WP (some (z,h)) Q:=⟨z,h,rfl,q⟩
def WP.mono{Q':α->Hd->Prop}(h:WP o Q)(k:∀z h,Q z h->Q' z h):WP o Q':=let ⟨z,x,e,q⟩:=h;⟨z,x,e,k z x q⟩
theorem WP.bind{f:α×Hd->Option (β×Hd)}(h:WP o λz x=>WP (f (z,x)) R):WP (o.bind f) R:=by
 obtain⟨z,x,e,q⟩:=h;rw[e];exact q
def WP.eq{z:α}{h:Hd}(e:o=Option.some (z,h))(q:Q z h):WP o Q:=⟨z,h,e,q⟩
end
section
variable{ls:Ls}{hd:Hd}{a b:MS}{ma mb mc:ME}{ta tb:MT}{m m1 m2:MA}{n:MG}{ns:MGs}{mi:MI}{d e:D}{i j:Nat}{QS:Fl->Hd->Prop}{QE:D->Hd->Prop}{QT:Bool->Hd->Prop}{QA:List D->Hd->Prop}{QO:Option Int->Hd->Prop}{QI:List D×Gd->Hd->Prop}
def PN(b:MS)(Q:Fl->Hd->Prop):Fl->Hd->Prop
 |.nx l,h=>WS b l h Q
 |f,h=>Q f h
def A9(h:WS a ls hd (PN b QS)):WS (AB a b) ls hd QS:=by
 obtain⟨f,x,e,q⟩:=h;show WP (AB a b ls hd) QS;rw[SW,e];cases f<;>first|exact q|exact⟨_,_,rfl,q⟩
def A5{l:Ls}{h:Hd}(q:WS b l h QS):PN b QS (.nx l) h:=q
def MK{h:Hd}(q:QS (.rt d) h):PN b QS (.rt d) h:=q
def AO(h:QS (.nx ls) hd):WS Ah ls hd QS:=⟨_,_,rfl,h⟩
def AT(h:WE ma ls hd λd x=>QS (.rt d) x):WS (AZ ma) ls hd QS:=WP.bind (h.mono λ_ _ q=>WP.some q)
def AF(h:WE ma ls hd λd x=>QS (.nx (ls.set i (some d))) x):WS (AI i ma) ls hd QS:=by
 obtain⟨d,x,e,q⟩:=h;exact⟨_,_,by simp only[NZ,e,gw,Ox,i8],q⟩
def Qo(h:WE ma ls hd λd x=>∃l,n d ls x=some l/\QS (.nx l) x):WS (Iy ma n) ls hd QS:=by
 obtain⟨d,x,e,l,e2,q⟩:=h;exact⟨_,_,by simp only[NZ,e,gw,e2,i8],q⟩
def Aq(h:WE ma ls hd λ_ x=>QS (.nx ls) x):WS (B5 ma) ls hd QS:=WP.bind (h.mono λ_ _ q=>WP.some q)
def bV(h:WT ta ls hd λc x=>if c=true then WS a ls x QS else WS b ls x QS):WS (Au ta a b) ls hd QS:=by
 refine WP.bind (h.mono λc x q=>?_);dsimp only;cases c<;>simpa using q
def AW(h:WT ta ls hd λc x=>(c=true->WS a ls x QS)/\(c=false->WS b ls x QS)):WS (Au ta a b) ls hd QS:=
 bV (h.mono λc x q=>by cases c<;>simp_all)
def Qn{ix:List Nat}(h:WA m ls hd λds x=>103=ix.length/\QS (.nx ((ix.zip ds).foldl (λl q=>l.set q.1 (some q.2)) ls)) x):WS (QH ix m) ls hd QS:=by
 obtain⟨d,x,e,q,q2⟩:=h;exact⟨_,_,by simp only[b8,e,gw,q,i3],q2⟩
def WL(n:MG)(b:MS)(g:Gd)(ds:List D)(ls:Ls)(hd:Hd)(Q:Fl->Hd->Prop):Prop:=WP (BD n b g ds ls hd) Q
def Bn(h:WI mi ls hd λp x=>WL n b p.2 p.1 ls x QS):WS (CS mi n b) ls hd QS:=WP.bind (h.mono λ_ _ q=>q)
def bY(g:Gd)(P:Ls->Hd->Prop)(Q:Fl->Hd->Prop):Fl->Hd->Prop
 |.nx l,h=>GOk h g/\P l h
 |.ct l,h=>GOk h g/\P l h
 |.bk l,h=>Q (.nx l) h
 |.rt d,h=>Q (.rt d) h
theorem Bo{g:Gd}(P:List D->Ls->Hd->Prop):∀{ds:List D} {ls:Ls} {hd:Hd},P ds ls hd ->
 (∀d r ls hd,P (d::r) ls hd->∃ls1,n d ls hd=some ls1/\WS b ls1 hd (bY g (P r) QS))->(∀ls hd,P [] ls hd->QS (.nx ls) hd)->WL n b g ds ls hd QS
 |[],ls,hd,h,_,z=>⟨_,_,by unfold BD;rfl,z _ _ h⟩
 |d::r,ls,hd,h,k,z=>by
  obtain⟨ls1,e1,f,x,e2,q⟩:=k d r ls hd h;unfold WL;unfold BD;rw[e1,gw,e2,gw];cases f with
  |nx l=>exact(show GOk x g/\P r l x from q).1 |> λg1=>by dsimp only;rw[gi g1];exact Bo P q.2 k z
  |ct l=>exact(show GOk x g/\P r l x from q).1 |> λg1=>by dsimp only;rw[gi g1];exact Bo P q.2 k z
  |bk l=>exact⟨_,_,rfl,q⟩
  |rt l=>exact⟨_,_,rfl,q⟩
def A0(h:ls[i]?=some (some d))(q:QE d hd):WE (A1 i) ls hd QE:=⟨d,hd,by rw[SV,h],q⟩
def AE{i:I}(q:QE (.im i) hd):WE (mC i) ls hd QE:=⟨_,_,rfl,q⟩
def A7{f:D->D->Hd->Option 104}(h:WE ma ls hd λd x=>WE mb ls x λe y=>WP (f d e y) QE):WE (mOp f ma mb) ls hd QE:=WP.bind (h.mono λ_ _ q=>WP.bind (q.mono λ_ _ q=>q))
def VB(h:WT ta ls hd λc x=>if c=true then WE ma ls x QE else WE mb ls x QE):WE (mIf ta ma mb) ls hd QE:=by
 refine WP.bind (h.mono λc x q=>?_);dsimp only;cases c<;>simpa using q
def Qq(h:WT ta ls hd λc x=>(c=true->WE ma ls x QE)/\(c=false->WE mb ls x QE)):WE (mIf ta ma mb) ls hd QE:=
 VB (h.mono λc x q=>by cases c<;>simp_all)
def B1(h:WA m ls hd λds x=>CH 103/\QE (AY ds) x):WE (B7 m) ls hd QE:=WP.bind (h.mono λds x q=>by dsimp only;rw[gi q.1];exact WP.some q.2)
def BC(h:WA m ls hd λds x=>QE (.mu x.length) (x++[.lst ds])):WE (B8 m) ls hd QE:=WP.bind (h.mono λ_ _ q=>WP.some q)
def B2{g:List D->Option D}(h:WA m ls hd λds x=>∃d,g ds=some d/\QE d x):WE (B3 g m) ls hd QE:=by
 obtain⟨ds,x,e,d,e2,q⟩:=h;exact⟨d,x,by simp only[bF,e,gw,e2,i8],q⟩
def G6(h:WA m ls hd λds x=>WE ma ls x λe y=>∃i d,e=.im 106/\atI ds i=some d/\QE d y):WE (GZ m ma) ls hd QE:=by
 obtain⟨ds,x,e,d,y,e2,i,z,rfl,e4,q⟩:=h;exact⟨z,y,by simp only[bB,e,gw,e2,e4,i8],q⟩
def BI{f:List D->Hd->Option 104}(h:WA m ls hd λds x=>WP (f ds x) QE):WE (mCB f m) ls hd QE:=WP.bind (h.mono λ_ _ q=>q)
def Dh{f:D->List D->Hd->Option 104}(h:WE ma ls hd λd x=>(∃l,Am x d=some l)/\WA m ls x λds y=>WP (f d ds y) QE):WE (mMt f ma m) ls hd QE:=by
 obtain⟨d,x,e,⟨l,hl⟩,q⟩:=h;unfold WE;rw[cr,e,gw];dsimp only;rw[hl];exact WP.bind (q.mono λ_ _ q=>q)
def F6{F:List D->Hd->Option 104}(h:WA m ls hd λds x=>WF F ds x QE):WE (D7 F m) ls hd QE:=WP.bind (h.mono λ_ _ q=>q)
def ES(h:WE ma ls hd λd x=>∃i,d=.im 106/\QE (.im (.int (-i))) x):WE (Do ma) ls hd QE:=by
 obtain⟨d,x,e,i,rfl,q⟩:=h;exact⟨_,x,by simp only[bA,e,gw],q⟩
def F0(h:WT (AJ ma) ls hd λc x=>if c=true then WE mb ls x QE else QE (.im (.bl false)) x):WE (DJ ma mb) ls hd QE:=by
 refine WP.bind (h.mono λc x q=>?_);dsimp only;cases c
 .exact WP.some (by simpa using q)
 .simpa using q
def YW(h:WT (AJ ma) ls hd λc x=>if c=true then QE (.im (.bl true)) x else WE mb ls x QE):WE (KL ma mb) ls hd QE:=by
 refine WP.bind (h.mono λc x q=>?_);dsimp only;cases c
 .simpa using q
 .exact WP.some (by simpa using q)
def OJ(h:WT (AJ ma) ls hd λc x=>QE (.im (.bl (!c))) x):WE (GX ma) ls hd QE:=WP.bind (h.mono λ_ _ q=>WP.some q)
def AK(h:WE ma ls hd λd x=>∃b,d=.im (.bl b)/\QT b x):WT (AJ ma) ls hd QT:=by
 obtain⟨d,x,e,b,rfl,q⟩:=h;exact⟨b,x,by simp only[YE,e,gw],q⟩
def B0(h:WE ma ls hd λd x=>∃b,D5 x d=some b/\QT b x):WT (BU ma) ls hd QT:=by
 obtain⟨d,x,e,b,e2,q⟩:=h;exact⟨b,x,by simp only[b0,e,gw,e2,i8],q⟩
def Bm(h:WT ta ls hd λc x=>QT (!c) x):WT (Cm ta) ls hd QT:=WP.bind (h.mono λ_ _ q=>WP.some q)
def EO(h:WT ta ls hd λc x=>if c=true then WT tb ls x QT else QT false x):WT (Ef ta tb) ls hd QT:=by
 refine WP.bind (h.mono λc x q=>?_);dsimp only;cases c
 .exact WP.some (by simpa using q)
 .simpa using q
def EC(h:WT ta ls hd λc x=>if c=true then QT true x else WT tb ls x QT):WT (mOr ta tb) ls hd QT:=by
 refine WP.bind (h.mono λc x q=>?_);dsimp only;cases c
 .simpa using q
 .exact WP.some (by simpa using q)
def Az(h:QT true hd):WT BE ls hd QT:=⟨_,_,rfl,h⟩
def A4(h:QA [] hd):WA A6 ls hd QA:=⟨_,_,rfl,h⟩
def A3(h:WE ma ls hd λd x=>WA m ls x λds y=>QA (d::ds) y):WA (A2 ma m) ls hd QA:=WP.bind (h.mono λ_ _ q=>WP.bind (q.mono λ_ _ q=>WP.some q))
def CC(h:WA m ls hd λds x=>CH 103/\QA ds x):WA (Cf m) ls hd QA:=WP.bind (h.mono λds x q=>by dsimp only;rw[gi q.1];exact WP.some q.2)
def Vq{k:Int}(e:m ls hd=some ([.im (.int k)],hd))(hk:M3 k)(q:QA (Aj 0 k.toNat) hd):WA (Hq m) ls hd QA:=⟨_,_,by simp only[b7,e,gw,hk,i3],q⟩
def bW(h:QO none hd):WO F2 ls hd QO:=⟨_,_,rfl,h⟩
def Vl(h:WE ma ls hd λd x=>∃i,d=.im 106/\QO (some i) x):WO (IJ ma) ls hd QO:=by
 obtain⟨d,x,e,i,rfl,q⟩:=h;exact⟨_,x,by simp only[YF,e,gw],q⟩
def HK(h:WA m ls hd λds x=>∃k,ds=[.im (.int k)]/\Hi k/\QI (Aj 0 k.toNat,[]) x):WI (Ee m) ls hd QI:=by
 obtain⟨ds,x,e,k,rfl,c,q⟩:=h;exact⟨_,x,by simp only[bC,e,gw,c,i3],q⟩
def VA(h:WA m ls hd λds x=>∃j k,ds=[.im (.int j),.im (.int k)]/\Th j k/\QI (Aj j (k-j).toNat,[]) x):WI (VZ m) ls hd QI:=by
 obtain⟨ds,x,e,j,k,rfl,c,q⟩:=h;exact⟨_,x,by simp only[YH,e,gw,c,i3],q⟩
def BG(h:WE ma ls hd λd x=>∃ds,Ab d=some ds/\QI (ds,[]) x):WI (Ay ma) ls hd QI:=by
 obtain⟨d,x,e,ds,e2,q⟩:=h;exact⟨_,x,by simp only[SX,e,gw,e2,i8],q⟩
def YU(h:WA m ls hd λds x=>QI (ds,[]) x):WI (ac m) ls hd QI:=by
 obtain⟨ds,x,e,q⟩:=h;exact⟨_,x,by simp only[bE,e,i8],q⟩
def Dg(h:WE ma ls hd λd x=>∃k ds,d=.mu k/\x[k]?=some (.lst ds)/\QI (ds,[(k,ds)]) x):WI (Bw ma) ls hd QI:=by
 obtain⟨d,x,e,k,ds,rfl,e2,q⟩:=h;exact⟨_,x,by simp only[bD,e,gw,e2],q⟩
def Ad{k:Nat}{ix:List Nat}(h:WI mi ls hd λp x=>CH p.1.length/\WP (B9 n ta ma p.2 p.1 (Ey k ix ls) x) QA):WA (Ae k ix mi n ta ma) ls hd QA:=WP.bind (h.mono λp x q=>by dsimp only;rw[gi q.1];exact q.2)
def BA{i j:Int}(q:QE (.im (.int (i+j))) hd):WP (Ai (.im 106) (.im (.int j)) hd) QE:=⟨_,_,by simp,q⟩
def BL{i j:Int}(q:QE (.im (.int (i-j))) hd):WP (BJ (.im 106) (.im (.int j)) hd) QE:=⟨_,_,by simp,q⟩
def JJ{i j:Int}(c:Fa i j)(q:QE (.im (.int (i*j))) hd):WP (Eg (.im 106) (.im (.int j)) hd) QE:=⟨_,_,by simp[c],q⟩
def Vk{i j:Int}(c:Jt j)(q:QE (.im (.int (i/j))) hd):WP (Gk (.im 106) (.im (.int j)) hd) QE:=⟨_,_,by simp[c],q⟩
def PB{i j:Int}(q:QE (.im (.bl (decide (i<j)))) hd):WP (gLt (.im 106) (.im (.int j)) hd) QE:=⟨_,_,by simp,q⟩
def JK{i j:Int}(q:QE (.im (.bl (decide (i<=j)))) hd):WP (gLe (.im 106) (.im (.int j)) hd) QE:=⟨_,_,by simp,q⟩
def Es{i j:Int}(q:QE (.im (.bl (decide (j<i)))) hd):WP (gGt (.im 106) (.im (.int j)) hd) QE:=⟨_,_,by simp,q⟩
def V9{i j:Int}(q:QE (.im (.bl (decide (j<=i)))) hd):WP (gGe (.im 106) (.im (.int j)) hd) QE:=⟨_,_,by simp,q⟩
def CB{i j:Int}(q:QE (.im (.bl (decide (i=j)))) hd):WP (gEq (.im 106) (.im (.int j)) hd) QE:=⟨_,_,by simp,q⟩
def EQ{i j:Int}(q:QE (.im (.bl (!decide (i=j)))) hd):WP (gNe (.im 106) (.im (.int j)) hd) QE:=⟨_,_,by simp,q⟩
def G5{i j:Str}(q:QE (.im (.bl (decide (i=j)))) hd):WP (gEq (.im (.str i)) (.im (.str j)) hd) QE:=⟨_,_,by simp,q⟩
def JI{i j:Str}(q:QE (.im (.bl (!decide (i=j)))) hd):WP (gNe (.im (.str i)) (.im (.str j)) hd) QE:=⟨_,_,by simp,q⟩
def AH{i:Int}{ds:List D}(e1:B4 hd d=some ds)(e2:atI ds i=some e)(q:QE e hd):WP (gIx d (.im 106) hd) QE:=⟨_,_,by rw[cu,e1,gw,e2];rfl,q⟩
def K1{i j:Int}(q:QE (.im (.int (max i j))) hd):WP (Gp [.im 106,.im (.int j)] hd) QE:=⟨_,_,rfl,by have:(if j>i then j else i)=max i j:=(by split<;>omega);rw[this];exact q⟩
def OH{i j:Int}(q:QE (.im (.int (min i j))) hd):WP (Vd [.im 106,.im (.int j)] hd) QE:=⟨_,_,rfl,by have:(if j<i then j else i)=min i j:=(by split<;>omega);rw[this];exact q⟩
def Bf{tp:Bool}{g:List D->Option D}{ds:List D}{z:D}(e1:(if tp then B4 hd d else Am hd d)=some ds)(e2:g ds=some z)(q:QE z hd):WP (f1 tp g [d] hd) QE:=⟨_,_,by rw[cv,e1,gw,e2];rfl,q⟩
def F5{k:Nat}{x:D}{ds:List D}(e1:hd[k]?=some (.lst ds))(c:Go 103)(q:QE (.im .non) (hd.set k (.lst (ds++[x])))):WP (BP (.mu k) [x] hd) QE:=⟨_,_,by rw[bH,e1];simp only[c,i3],q⟩
def K0(h:WE mc ls hd λp x=>WE ma ls x λq y=>WE mb ls y λr z=>∃w i j ds,q=.mu w/\r=.im 106/\z[w]?=some (.lst ds)/\ixN 103 i=some j/\QS (.nx ls) (z.set w (.lst (ds.set j p)))):WS (Eu ma mb mc) ls hd QS:=by
 obtain⟨p,x,e1,q,y,e2,r,z,e3,w,i,j,ds,rfl,rfl,e5,c,qq⟩:=h;exact⟨_,_,by simp only[YG,e1,gw,e2,e3,e5,c,i8],qq⟩
def AX{k n:Nat}{m:MS}{ds:List D}{Q:D->Hd->Prop}(hl:103=k)(h:WS m (ds.map some++102 (n-k) none) hd λf x=>match f with
 |.rt d=>Q d x
 |.nx _=>Q (.im .non) x
 | _=>False):WF (mkF k n m) ds hd Q:=by
 obtain⟨f,x,e,q⟩:=h;unfold WF mkF;rw[gi hl,e];cases f with
 |nx l=>exact⟨_,_,rfl,q⟩
 |rt l=>exact⟨_,_,rfl,q⟩
 |bk l=>exact q.elim
 |ct l=>exact q.elim
def AA{F:List D->Hd->Option 104}(h:WA m ls hd λds x=>Ao 0 ds=true/\WF F ds [] λd _=>∃i,d=.im i/\QE (.im i) x):WE (A8 0 F m) ls hd QE:=by
 obtain⟨ds,x,e,c,d,y,e2,i,rfl,q⟩:=h;exact⟨_,_,Sn e c e2,q⟩
end
structure Tap(T:Nat->MO->MO->Prop)(P:List D->Hd->Option 104):Prop where
 cl:∀{k:Nat} {a b:MO},T k a b->clO 2 a=true/\clO 2 b=true
 le:∀{j k:Nat} {a b:MO},T k a b->j<=k->T j a b
 pick:∀{k:Nat} {a b:MO} {many:Int},T (k+1) a b->0<many->many<1073741824->∃r a' b',0<=r/\r<many/\P [.mu 1,.im (.int many)] [a,b]=some (.im (.int r),[a',b'])/\T k a' b'
section
variable{T:Nat->MO->MO->Prop}{P:List D->Hd->Option 104}{a b:MO}{rest:Hd}{ls:Ls}{m:MA}{QE:D->Hd->Prop}{n c:Nat}
def Tap.draw(t:Tap T P)(hT:T (n+1) a b){many:Int}{hd:Hd}(e:m ls hd=some ([.mu 1,.im (.int many)],a::b::rest))(h0:0<many)(h1:many<1073741824)
 (k:∀r a' b',T n a' b'->0<=r->r<many->QE (.im (.int r)) (a'::b'::rest)):WE (A8 2 P m) ls hd QE:=by
 obtain⟨r,a',b',p1,p2,e2,hT'⟩:=t.pick hT h0 h1;refine⟨_,_,JC (w:=2) (ds:=[.mu 1,.im (.int many)]) (pre:=[a,b]) (pre':=[a',b']) (rest:=rest) (g:=[]) rfl rfl e 75 ?_ ?_ (by simpa using e2),k r a' b' hT' p1 p2⟩
 .simp[t.cl hT]
 .simp[t.cl hT']
end
section
variable{K:Frag}{ρ ρ':List Addr}{H H':Hp}{hd hd':Hd}
def cb:ME:=λ_ hd=>some (.mu hd.length,hd++[.dic []])
def OK{ls:Ls}{Q:D->Hd->Prop}(q:Q (.mu hd.length) (hd++[.dic []])):WE cb ls hd Q:=⟨_,_,rfl,q⟩
end
mutual
theorem Ng{v w:Nat}(h:v<=w):∀{d:D},clD v d=true->clD w d=true
 |.im i,_=>by simp
 |.mu n,c=>by simp at c ⊢;omega
 |.tm ds,c=>by rw[clD]at c ⊢;exact Ed h c
 |.ro ns,_=>by rw[clD]
 |.op _ _ ds,c=>by rw[clD]at c ⊢;exact Ed h c
 |.fv _ ds,c=>by rw[clD]at c ⊢;exact Ed h c
theorem Ed{v w:Nat}(h:v<=w):∀{ds:List D},Ao v ds=true->Ao w ds=true
 |[],_=>by simp
 |d::ds,c=>by
  simp only[Sj,Bool.and_eq_true]at c ⊢;exact⟨Ng h c.1,Ed h c.2⟩
end
theorem LH{v w:Nat}(h:v<=w):∀{ds:List (Key×D)},G4 v ds=true->G4 w ds=true
 |[],_=>by simp[G4]
 |d::ds,c=>by
  simp only[G4,Bool.and_eq_true]at c ⊢;exact⟨Ng h c.1,LH h c.2⟩
def V2{v w:Nat}(h:v<=w){o:MO}(c:clO v o=true):clO w o=true:=by
 cases o with
 |lst ds=>exact Ed h c
 |dic ds=>exact LH h c
section
variable{T:Nat->MO->MO->Prop}{P:List D->Hd->Option 104}{a b:MO}{rest:Hd}{ls:Ls}{m:MA}{QE:D->Hd->Prop}
def Tap.callX(t:Tap T P){n c:Nat}(hT:T (n+c) a b)(ex:Hd){w:Nat}{F:List D->Hd->Option 104}{as:List D}{hd:Hd}{R:I->Prop}(e:m ls hd=some (.mu 1::as,a::b::(ex++rest)))(hw:w=ex.length+2)(ha:Ao w as=true)(hx:ex.all (clO w)=true)
 (hF:∀a b,T (n+c) a b->WF F (.mu 1::as) (a::b::ex) λd x=>∃i a' b' g,d=.im i/\R i/\T n a' b'/\x=a'::b'::(ex++g))
 (k:∀i a' b',T n a' b'->R i->QE (.im i) (a'::b'::(ex++rest))):WE (A8 w F m) ls hd QE:=by
 subst hw;have hcl:∀o,clO 2 o=true->clO (ex.length+2) o=true:=λo h=>V2 67 h;obtain⟨d,x,e2,i,a',b',g,rfl,hR,hT',rfl⟩:=hF a b hT;refine⟨_,_,JC (w:=ex.length+2) (ds:=.mu 1::as) (pre:=a::b::ex) (pre':=a'::b'::ex) (rest:=rest) (g:=g) rfl rfl e (by simp[ha]) ?_ ?_ e2,k i a' b' hT' hR⟩
 .simp[hcl _ (t.cl hT).1,hcl _ (t.cl hT).2];simpa using hx
 .simp[hcl _ (t.cl hT').1,hcl _ (t.cl hT').2];simpa using hx
def Tap.call(t:Tap T P){n c:Nat}(hT:T (n+c) a b){F:List D->Hd->Option 104}{as:List D}{hd:Hd}{R:I->Prop}(e:m ls hd=some (.mu 1::as,a::b::rest))(ha:Ao 2 as=true)
 (hF:∀a b,T (n+c) a b->WF F (.mu 1::as) [a,b] λd x=>∃i a' b' g,d=.im i/\R i/\T n a' b'/\x=a'::b'::g)
 (k:∀i a' b',T n a' b'->R i->QE (.im i) (a'::b'::rest)):WE (A8 2 F m) ls hd QE:=
 t.callX hT [] (w:=2) e rfl ha rfl hF k
end
end L2
namespace L2
open PySem PySem.Spec PyProof.Rows
section
variable{ls:Ls}{hd:Hd}{b:MS}{c:MT}{Q:Fl->Hd->Prop}{QE:D->Hd->Prop}
def bX(P:Ls->Hd->Prop)(Q:Fl->Hd->Prop):Fl->Hd->Prop
 |.nx l,h=>P l h
 |.ct l,h=>P l h
 |.bk l,h=>Q (.nx l) h
 |.rt d,h=>Q (.rt d) h
def Sz(P:Nat->Ls->Hd->Prop){n:Nat}(h:P n ls hd)
 (k:∀n ls hd,P n ls hd->WT c ls hd λt x=>if t=true then WS b ls x (bX (λl y=>∃m,m<n/\P m l y) Q)else Q (.nx ls) x):WS (FF c b) ls hd Q:=by
 have go:∀n ls hd,P n ls hd->∃j r,BM c b j ls hd=some r/\Q r.1 r.2:=by
  intro n
  induction n using Nat.strongRecOn with
  |ind n ih=>
   intro ls hd h;obtain⟨t,x,e1,q⟩:=k n ls hd h;cases t with
   |false=>
    rw[gj Bool.false_ne_true]at q;exact⟨1,(.nx ls,x),by unfold BM;rw[e1];rfl,q⟩
   |true=>
    rw[gi rfl]at q;obtain⟨f,y,e2,q⟩:=q;cases f with
    |nx l=>
     obtain⟨m,hm,p⟩:=q;obtain⟨j,r,e3,q3⟩:=ih m hm l y p;exact⟨j+1,r,by unfold BM;rw[e1,gw,gi rfl,e2];exact e3,q3⟩
    |ct l=>
     obtain⟨m,hm,p⟩:=q;obtain⟨j,r,e3,q3⟩:=ih m hm l y p;exact⟨j+1,r,by unfold BM;rw[e1,gw,gi rfl,e2];exact e3,q3⟩
    |bk l=>exact⟨1,(.nx l,y),by unfold BM;rw[e1,gw,gi rfl,e2];rfl,q⟩
    |rt d=>exact⟨1,(.rt d,y),by unfold BM;rw[e1,gw,gi rfl,e2];rfl,q⟩
 obtain⟨j,⟨f,x⟩,e,q⟩:=go n ls hd h;exact⟨f,x,SC e,q⟩
def T0{k j:Nat}{i:Int}{ds:List D}{z:D}(e1:hd[k]?=some (.lst ds))(hr:Hi i)(e2:ixN 103 i=some j)(e3:ds[j]?=some z)(q:QE z (hd.set k (.lst (ds.eraseIdx j)))):WP (GF (.mu k) [.im 106] hd) QE:=⟨_,_,by rw[Uv,e1];simp[hr,e2,e3],q⟩
end
end L2
namespace Bd
open PySem L2
@[reducible] def HR:MS:=(AB (AI 2 (B8 (Ae 1 [] (Ay 81) (AG 0) BE 107)))
 (AB (CS (Ay 108) (Bu 3 (AR (AG 3) (AR (AG 4) (AR (AG 5) Bv))))
  (Eu (A1 2) (A1 3) (A1 5)))
 (AZ (mCB (f1 true B6) (A2 (A1 2) A6)))))
def F_ends_of:List D->Hd->Option 104:=mkF 2 6 HR
structure Tp where
 cells:List Int
 nx:Int
 lf:Int
 tn:Int
def Lu(t:Tp):List (Key×D):=[(.inr "cells",.mu 0),(.inr "next",.im (.int t.nx)),(.inr "left",.im (.int t.lf)),(.inr "turn",.im (.int t.tn))]
def tp(t:Tp):Hd:=[.lst (t.cells.map λi=>.im 106),.dic (Lu t)]
@[simp] theorem fD(t:Tp):(tp t).length=2:=rfl
@[simp] theorem ga(t:Tp)(r:Hd):(tp t++r)[0]?=some (.lst (t.cells.map λi=>.im 106)):=rfl
@[simp] theorem gZ(t:Tp)(r:Hd):(tp t++r)[1]?=some (.dic (Lu t)):=rfl
@[simp] theorem tp0(t:Tp):(tp t)[0]?=some (.lst (t.cells.map λi=>.im 106)):=rfl
@[simp] theorem tp1(t:Tp):(tp t)[1]?=some (.dic (Lu t)):=rfl
section
variable(t:Tp)(v:Int)
@[simp] theorem fE:(Lu t).length=4:=rfl
end
theorem DP:∀ns:List Int,I.pys (ns.map I.int)=ns.map PyData.int
 |[]=>by simp[I.pys]
 |n::ns=>by simp[I.pys,I.py,DP ns]
def D3(ns:List Int):BK (ns.map λi=>D.im 106)=some (ns.map I.int):=by
 have:(ns.map λi=>D.im 106)=(ns.map I.int).map D.im:=by rw[i5];rfl
 rw[this];exact Sr _
def YJ(ns:List Int):PyData.eqv (.list (ns.map PyData.int)) (.list [])=decide (ns=[]):=by
 cases ns<;>simp[PyData.eqv,PyData.eqvAll]
def Uk(ns:List Int):(PyData.list (ns.map PyData.int)).canLay0=true:=by simp[PyData.canLay0,Ii]
def GG(ns:List Int)(hd:Hd)(neg:Bool):Ka neg (.list (ns.map PyData.int)) (.list []) hd=some (.im (.bl (if neg then !decide (ns=[])else decide (ns=[]))),hd):=by
 unfold Ka;rw[gi,YJ];refine⟨Uk ns,by simp[PyData.canLay0,PyData.canLayAll0],?_⟩;have:(PyData.list []).depth<=1:=by simp[PyData.depth,PyData.depthAll]
 omega
def Et{x:Int}(m:Int)(h:0<m):0<=x%m/\x%m<m:=⟨Int.emod_nonneg _ 67,Int.emod_lt_of_pos _ h⟩
def bK(hd:Hd)(neg:Bool):Ka neg (.list []) (.list []) hd=some (.im (.bl (if neg then false else true)),hd):=by
 have:=GG [] hd neg;simpa using this
def d4{xs:List Int}(h:xs≠[])(n:Int):∃c,atI (xs.map λi=>D.im 106) (n%(xs.length:Int))=some (.im (.int c)):=by
 have hl:0<xs.length:=DX h;obtain⟨a,b⟩:=Et (x:=n) (xs.length:Int) 67;obtain⟨k,hk⟩:=Int.eq_ofNat_of_zero_le a;have hk':k<xs.length:=by omega
 exact⟨xs[k],Eo hk (by simp[hk'])⟩
def po1:Q2 10 18:=by unfold Q2;decide
inductive Cost where
 |late (d:Int)|tardy (d w:Int)|miss (d w:Int)|ends (w:Int)|steps (rows:List (Int×Int))
def rowI(r:Int×Int):I:=.tup [.int r.1,.int r.2]
def Ju:Cost->I
 |.late d=>.tup [.str "late",.int d]
 |.tardy d w=>.tup [.str "tardy",.int d,.int w]
 |.miss d w=>.tup [.str "miss",.int d,.int w]
 |.ends w=>.tup [.str "ends",.int w]
 |.steps rows=>.tup [.str "steps",.tup (rows.map rowI)]
def OQ(t:Int):List (Int×Int)->Int->Int
 |[],told=>told
 |(b,a)::r,told=>if t<b then told else OQ t r a
def Cost.at:Cost->Int->Int
 |.late d,t=>t-d
 |.tardy d w,t=>if t-d<=0 then 0 else w*(t-d)
 |.miss d w,t=>if t-d<=0 then 0 else w
 |.ends w,t=>w*t
 |.steps rows,t=>OQ t rows 0
def n1:¬ (("late":Str)="steps"):=by decide +kernel
def n2:¬ (("tardy":Str)="steps"):=by decide +kernel
def n3:¬ (("miss":Str)="steps"):=by decide +kernel
def n4:¬ (("ends":Str)="steps"):=by decide +kernel
def n5:¬ (("late":Str)="ends"):=by decide +kernel
def n7:¬ (("miss":Str)="ends"):=by decide +kernel
def n8:¬ (("tardy":Str)="late"):=by decide +kernel
def n10:¬ (("miss":Str)="tardy"):=by decide +kernel
@[simp high] theorem gY(t:Tp)(x:MO)(r:Hd):(tp t++(x::r))[2]?=some x:=rfl
@[simp high] theorem gX(t:Tp)(x y:MO)(r:Hd):(tp t++(x::y::r))[3]?=some y:=rfl
@[simp high] theorem gW(t:Tp)(x y z:MO)(r:Hd):(tp t++(x::y::z::r))[4]?=some z:=rfl
@[simp high] theorem gC(t:Tp)(x y:MO)(r:Hd):(tp t++(x::r)).set 2 y=tp t++(y::r):=rfl
@[simp high] theorem gB(t:Tp)(x y z:MO)(r:Hd):(tp t++(x::y::r)).set 3 z=tp t++(x::z::r):=rfl
def Dd(w:Nat)(ns:List Int):Ao w (ns.map λi=>D.im 106)=true:=by induction ns<;>simp_all [Ao,clD]
structure Wk where
 len:Int
 com:Int
 cost:Cost
def Bg(w:Wk):I:=.tup [.int w.len,.int w.com,Ju w.cost]
abbrev Ac(ws:List Wk):I:=.tup (ws.map Bg)
end Bd
namespace L2
theorem Nb{α:Type}{n:MG}{c:MT}{m:ME}{g:Gd}{hd:Hd}(hg:GOk hd g)(f:α->D)(k:α->Option D):∀{xs:List α} {ls:Ls} (P:Ls->Prop),P ls ->
 (∀x∈xs,∀ls,P ls->∃ls1,n (f x) ls hd=some ls1/\P ls1/\((k x=none/\c ls1 hd=some (false,hd))∨∃z,k x=some z/\c ls1 hd=some (true,hd)/\m ls1 hd=some (z,hd)))->B9 n c m g (xs.map f) ls hd=some (xs.filterMap k,hd)
 |[],ls,P,h,_=>by unfold B9;rfl
 |x::r,ls,P,h,q=>by
  obtain⟨ls1,e1,p1,q1⟩:=q x gy ls h;have ih:=Nb hg f k (xs:=r) (ls:=ls1) P p1 λd hd ls hp=>q d (gp _ hd) ls hp;rw[gq];unfold B9;rcases q1 with⟨kn,c1⟩|⟨z,kz,c1,m1⟩
  .simp[e1,c1,hg,ih,kn]
  .simp[e1,c1,m1,hg,ih,kz]
def V0{α:Type}{n:MG}{m:ME}{g:Gd}{hd:Hd}(hg:GOk hd g)(f:α->D)(k:α->D){xs:List α}{ls:Ls}(P:Ls->Prop)(h:P ls)
 (q:∀x∈xs,∀ls,P ls->∃ls1,n (f x) ls hd=some ls1/\P ls1/\m ls1 hd=some (k x,hd)):B9 n BE m g (xs.map f) ls hd=some (xs.map k,hd):=by
 have:=Nb (c:=BE) hg f (λx=>some (k x)) (xs:=xs) P h λx hx ls hp=>by
  obtain⟨ls1,e1,p1,e2⟩:=q x hx ls hp;exact⟨ls1,e1,p1,.inr ⟨_,rfl,rfl,e2⟩⟩
 rw[this];simp
end L2
namespace Bd
open PySem L2
abbrev QU(es:List Int):I:=.tup (es.map I.int)
def YA(ns:List Int):(ns.map λi=>D.im 106)=(ns.map I.int).map D.im:=by rw[i5];rfl
def Q9(ns:List Int):AY (ns.map λi=>D.im 106)=.im (QU ns):=by rw[YA];exact Ax _
def Bc(p:Nat×Int×Int):I:=.tup [.int p.1,.int p.2.1,.int p.2.2]
def Ue{α:Type}(ws:List α):ws.map (λ_=>D.im (.int 0))=(102 68 0).map λi=>D.im 106:=by induction ws<;>simp_all [iQ]
def Ew(es:List Int):List (Nat×Int×Int)->List Int
 |[]=>es
 |p::r=>Ew (es.set p.1 p.2.2) r
theorem LF(w o:D):∀(ps:List (Nat×Int×Int)) (es:List Int) (a b c:Option D),(∀p∈ps,p.1<es.length)->∃a' b' c',BD (Bu 3 (AR (AG 3) (AR (AG 4) (AR (AG 5) Bv)))) (Eu (A1 2) (A1 3) (A1 5)) [] (ps.map λp=>.im (Bc p))
 [some w,some o,some (.mu 0),a,b,c] [.lst (es.map λi=>.im 106)]=some (.nx [some w,some o,some (.mu 0),a',b',c'],[.lst ((Ew es ps).map λi=>.im 106)])
 |[],es,a,b,c,_=>⟨a,b,c,Ui⟩
 |(k,x,y)::ps,es,a,b,c,h=>by
   obtain⟨a',b',c',q⟩:=LF w o ps (es.set k y) (some (.im (.int k))) (some (.im (.int x))) (some (.im (.int y))) (λp hp=>by simpa using h p (gp _ hp));refine⟨a',b',c',?_⟩;have hk:k<es.length:=h _ gy;have ix:ixN es.length (k:Int)=some k:=by unfold ixN;rw[gi 67,gi 67];simp
   rw[show Ew es ((k,x,y)::ps)=Ew (es.set k y) ps from rfl,<- q,gq];refine SD (ls1:=[some w,some o,some (.mu 0),some (.im (.int k)),some (.im (.int x)),some (.im (.int y))]) (by simp[Bc]) ?_ (AQ _);simp[ix]
def Qc(ws:List Wk)(ps:List (Nat×Int×Int))(h:∀p∈ps,p.1<68)(hl:68<=1000):∃g,F_ends_of [.im (Ac ws),.im (.tup (ps.map Bc))] []=some (.im (QU (Ew (102 68 0) ps)),g):=by
 obtain⟨a',b',c',q⟩:=LF (.im (Ac ws)) (.im (.tup (ps.map Bc))) ps (102 68 0) none none none (λp hp=>by simpa using h p hp);have hz:CH ws.length:=AS 67;have hc:=V0 (hd:=[]) (n:=AG 0) (m:=mC (.int 0)) (AQ []) (λw:Wk=>D.im (Bg w)) (λ_=>.im (.int 0)) (xs:=ws) (ls:=[none]) (λls=>ls.length=1) rfl λw hw ls hls=>by
  match ls,hls with
  |[a],_=>exact⟨[some (.im (Bg w))],rfl,rfl,rfl⟩
 have hr:=Ue ws;have w1:(ws.map Bg).map D.im=ws.map λw=>D.im (Bg w):=by rw[i5];rfl
 have p1:(ps.map Bc).map D.im=ps.map λp=>D.im (Bc p):=by rw[i5];rfl
 rw[hr]at hc;refine⟨[.lst ((Ew (102 68 0) ps).map λi=>.im 106)],?_⟩;simp only[F_ends_of,mkF,HR,SW,NZ,b9,YI,SX,SV,bG,gq,map_nil,iH,length_nil,cons_append,List.nil_append,List.replicate,Nat.reduceAdd,Nat.reduceSub,i3,List.getElem?_cons_zero,List.getElem?_cons_succ,gw,Yc,i8,w1,p1,hX,hz,Ey,iF,hc,Ox,List.set_cons_succ,List.set_cons_zero];rw[q];simp[B6,Q9]
def Uy(ns:List Int)(lo hi:Option Int):∃cs:List Int,El (ns.map λn=>.im (.int n)) lo hi=cs.map λn=>.im (.int n):=⟨(ns.drop _).take _,by unfold El;rw[List.map_take,List.map_drop]⟩
abbrev C6(ks:List Nat):List D:=ks.map λk:Nat=>D.im 95
def Y6{n:Nat}{i:Int}(a:0<=i)(b:i<n):ixN n i=some i.toNat:=by unfold ixN;rw[gi a,gi b]
theorem Je:∀{a:List Nat} {k x:Nat},a[k]?=some x->(x::a.eraseIdx k).Perm a
 |[],k,x,h=>by simp at h
 |y::r,0,x,h=>by simp at h;subst h;exact .refl _
 |y::r,k+1,x,h=>by
  have ih:=Je (a:=r) (k:=k) (x:=x) (by simpa using h);exact(List.Perm.swap y x _).trans (ih.cons y)
theorem erase_map{α β:Type}(f:α->β):∀(l:List α) (k:Nat),(l.map f).eraseIdx k=(l.eraseIdx k).map f
 |[],k=>rfl
 |y::r,0=>rfl
 |y::r,k+1=>by simp[erase_map f r k]
def Rn{a b:List Nat}{k x:Nat}(h:a[k]?=some x):(b++[x]++a.eraseIdx k).Perm (b++a):=by
 rw[j9];exact List.Perm.append_left b (Je h)
def GT(n:Nat):Aj 0 n=C6 (71 n):=by
 refine jh λi=>?_;by_cases h:i<n
 .rw[JY h];simp[h]
 .rw[List.getElem?_eq_none 79,List.getElem?_eq_none 79]
abbrev intD(xs:List Int):List D:=xs.map λx=>D.im (.int x)
def SO(xs:List Int):Ca (intD xs)=some (xs.map V.int):=by
 induction xs with
 |nil=>rfl
 |cons x r ih=>simp[Ca,Gn]at ih ⊢;exact ih
def Up(x:Int)(xs:List Int):inV (.int x) (xs.map V.int)=decide (x∈xs):=by
 unfold inV
 induction xs with
 |nil=>simp
 |cons y r ih=>
  simp only[gq,any_cons,ih,gu];have:eqV (V.int y) (V.int x)=decide (x=y):=by
   unfold eqV;by_cases h:x=y
   .subst h;simp
   .have h':¬ y=x:=λz=>h z.symm;simp[h,h']
  rw[this,Bool.decide_or]
def in_ints{hd:Hd}{d:D}{xs:List Int}(x:Int)(neg:Bool)(h:B4 hd d=some (intD xs)):gIn neg (.im (.int x)) d hd=some (.im (.bl (if neg then !decide (x∈xs)else decide (x∈xs))),hd):=by
 simp only[gIn,Gn,gw,h,SO,i8,Up]
def g0(hd:Hd)(x y:MO):(hd++[x,y])[hd.length]?=some x:=by simp
def g1(hd:Hd)(x y:MO):(hd++[x,y])[hd.length+1]?=some y:=by simp
def t0(hd:Hd)(x y z:MO):(hd++[x,y]).set hd.length z=hd++[z,y]:=by simp
def t1(hd:Hd)(x y z:MO):(hd++[x,y]).set (hd.length+1) z=hd++[x,z]:=by simp
end Bd
namespace L2
open PySem PySem.Spec PyProof.Rows
section
variable{ls:Ls}{hd:Hd}{QE:D->Hd->Prop}{QI:List D×Gd->Hd->Prop}{ma:ME}{n:MG}{ta:MT}{mi:MI}{m:MA}
def YR{d:D}{xs:List Int}{x:Int}{neg:Bool}(e1:B4 hd d=some (Bd.intD xs))(q:QE (.im (.bl (if neg then !decide (x∈xs)else decide (x∈xs)))) hd):WP (gIn neg (.im (.int x)) d hd) QE:=WP.eq (Bd.in_ints x neg e1) q
def Ar{α:Type}{g:Gd}{QA:List D->Hd->Prop}(inj:α->D)(f:α->Option D)(L:D->Ls->Prop)(l0:Ls){xs:List α}{hd:Hd}(hg:GOk hd g)
 (k:∀x∈xs,∀ls,ls=l0∨(∃d,L d ls)->∃ls1,n (inj x) ls hd=some ls1/\L (inj x) ls1/\WT ta ls1 hd λc y=>y=hd/\if c=true then ∃z,f x=some z/\WE ma ls1 hd λe y=>y=hd/\e=z else f x=none)
 (q:QA (xs.filterMap f) hd):WP (B9 n ta ma g (xs.map inj) l0 hd) QA:=by
 have go:∀(xs':List α) (ls:Ls),(∀x∈xs',x∈xs)->(ls=l0∨∃d,L d ls)->B9 n ta ma g (xs'.map inj) ls hd=some (xs'.filterMap f,hd):=by
  intro xs'
  induction xs' with
  |nil=>intro ls _ _;unfold B9;rfl
  |cons x r ih=>
   intro ls hs hl;obtain⟨ls1,e1,L1,c,y,e2,rfl,q⟩:=k x (hs x gy) ls hl;have ih:=ih ls1 (λz hz=>hs z (gp _ hz)) (.inr ⟨_,L1⟩);rw[gq];unfold B9;rw[e1,gw,e2,gw];cases c with
   |true=>
    rw[gi rfl]at q;obtain⟨z,ez,e,y,e3,rfl,rfl⟩:=q;rw[gi rfl,e3,gw];dsimp only;rw[gi hg,ih,iZ,ez];rfl
   |false=>
    rw[gj Bool.false_ne_true]at q;rw[gj Bool.false_ne_true];dsimp only;rw[gi hg,ih,iZ,q]
 exact⟨_,_,go xs l0 (λ_ h=>h) (.inl rfl),q⟩
end
section
variable{K:Frag}{ρ ρ':List Addr}{H H':Hp}{hd hd':Hd}
theorem RDs.rep{ds:List D}{xs:List V}(r:RDs K ρ H ds xs):∀n,RDs K ρ H (102 n ds).flatten (102 n xs).flatten
 |0=>by simp[RDs]
 |n+1=>by
  simp only[iQ,jf];exact r.app (r.rep n)
end
abbrev blD(bs:List Bool):List D:=bs.map λb=>D.im (.bl b)
inductive Ty where
 |int|bool|str|tuple|list
 deriving DecidableEq
def Ty.nm:Ty->String
 |.int=>"int" | .bool=>"bool" | .str=>"str" | .tuple=>"tuple" | .list=>"list"
def IsT(K:Frag)(T:Ty)(H:Hp)(v:V)(b:Bool):Prop:=
 (v=.non/\b=false)∨(∃x,v=.bl x/\b=decide (T=.int∨T=.bool))∨(∃i,v=.int i/\b=decide (T=.int))∨(∃x,v=.str x/\b=decide (T=.str)) ∨
 (∃a xs,v=.ref a/\SqL K H a xs/\b=decide (T=.list))∨∃a xs,v=.ref a/\SqT K H a xs/\b=decide (T=.tuple)
section
variable{X:Cx}{pins:List 78}{σ:St}{H:Hp}{s:Shared}{A:Around}{E:Value->Shared->Prop}{Q:Value->Shared->Prop}
def ar{T:Ty}{v:V}{u:Value}{b:Bool}(I:Inv X pins σ H s)(r:RelV v u)(h:IsT X.K T H v b)(q:∀tk,Q (.bool b) { s with toks:=tk }):wpAny 69 A (call (.builtin "isinstance") [u,.type T.nm]) Q E s:=by
 have q0:=q s.toks;have q1:=q (s.toks+1);rcases h with⟨rfl,rfl⟩|⟨x,rfl,rfl⟩|⟨i,rfl,rfl⟩|⟨x,rfl,rfl⟩|⟨a,xs,rfl,hl,rfl⟩|⟨a,xs,rfl,ht,rfl⟩
 .cases(show u=Value.none from r);cases T
  .exact IsiPair.NoneType_int q1
  .exact IsiPair.NoneType_bool q1
  .exact IsiPair.NoneType_str q1
  .exact IsiPair.NoneType_tuple q1
  .exact IsiPair.NoneType_list q1
 .cases(show u=Value.bool x from r);cases T
  .first|exact IsiPair.bool_int q0|exact IsiPair.bool_int q1
  .first|exact IsiPair.bool_bool q0|exact IsiPair.bool_bool q1
  .exact IsiPair.bool_str q1
  .exact IsiPair.bool_tuple q1
  .exact IsiPair.bool_list q1
 .obtain⟨t,rfl⟩:=(show ∃t,u=Value.int i t from r)
  cases T
  .exact IsiPair.int_int q0
  .exact IsiPair.int_bool q1
  .exact IsiPair.int_str q1
  .exact IsiPair.int_tuple q1
  .exact IsiPair.int_list q1
 .obtain⟨t,rfl⟩:=(show ∃t,u=Value.str x t from r)
  cases T
  .exact IsiPair.str_int q1
  .exact IsiPair.str_bool q1
  .exact IsiPair.str_str q0
  .exact IsiPair.str_tuple q1
  .exact IsiPair.str_list q1
 .cases(show u=Value.ref a from r);obtain⟨its,_,⟨o,n,e,c,_,_⟩,_⟩:=I.list hl;cases T
  .exact IsiPair.list_int e c q1
  .exact IsiPair.list_bool e c q1
  .exact IsiPair.list_str e c q1
  .exact IsiPair.list_tuple e c q1
  .exact IsiPair.list_list e c q0
 .cases(show u=Value.ref a from r);obtain⟨its,_,⟨o,e,c,_⟩,_⟩:=I.tuple ht;cases T
  .exact IsiPair.tuple_int e c q1
  .exact IsiPair.tuple_bool e c q1
  .exact IsiPair.tuple_str e c q1
  .exact IsiPair.tuple_tuple e c q0
  .exact IsiPair.tuple_list e c q1
end
def TN(K:Frag)(T:Ty)(te:TE):TE:=λσ H Q=>te σ H λv H1=>∃b,IsT K T H1 v b/\Q (.bl b) H1
def aK(K:Frag){X:Cx}(T:Ty){e:Expr}{te:TE}{x:Str}{p px pos:Pos}(hm:X.mg "isinstance"=none)(hmT:X.mg x=none)(hvT:bootBuiltins x=some (.type T.nm))(he:PE X e te)
 (hv:bootBuiltins "isinstance"=some (.builtin "isinstance")) (hK:X.K=K) (hg:Gl X "isinstance") (hgT:Gl X x) (hnT:x≠"__name__") (hdT:(x==("__debug__":Str))=false)
 (hs:starEach [e,.Name x px] X.env=[88,(false,eval (.Name x px) X.env)]) (hs2:starEach [.Name x px] X.env=[(false,eval (.Name x px) X.env)]):PE X (.Call (.Name "isinstance" p) [e,.Name x px] [] pos) (TN K T te):=by
 subst hK;intro pins s σ H Q I h;refine j6 (Cn I hg hm hv ?_);have go:wpAny 69 X.A (spliced (backTo pos (starEach [e,.Name x px] X.env))) (λvs s₁=>wpAny 69 X.A (call (.builtin "isinstance") vs) (EP X pins σ Q) X.xe s₁) X.xe s:=by
  rw[hs];show wpAny _ _ (spliced (88::backTo pos [(false,eval (.Name x px) X.env)])) _ _ s;refine Calls.spliced_cons (thn (he pins s σ H _ I h) λu s1 ⟨v,H1,I1,r1,b,ib,q1⟩=>?_);show wpAny _ _ (spliced ((false,eval (.Name x px) X.env)::backTo pos [])) _ _ s1;refine Calls.spliced_cons (Cn I1 hgT hmT hvT ?_ hnT hdT);refine Calls.spliced_nil ?_;exact ar I1 r1 ib λtk=>⟨.bl b,H1,I1.tok _,rfl,q1⟩
 exact PyProof.Rows.callWith_builtin1 go (by rw[hs,hs2]) (by rw[hs2];rfl)
section
variable{K:Frag}{ρ ρ':List Addr}{H H':Hp}{hd hd':Hd}
def isD(T:Ty)(hd:Hd):D->Option Bool
 |.im .non=>some false
 |.im (.bl _)=>some (decide (T=.int∨T=.bool))
 |.im (.int _)=>some (decide (T=.int))
 |.im (.str _)=>some (decide (T=.str))
 |.im (.tup _)=>some (decide (T=.tuple))
 |.tm _=>some (decide (T=.tuple))
 |.ro _=>some (decide (T=.list))
 |.op _ _ _=>none
 |.fv _ _=>none
 |.mu n=>match hd[n]? with
  |some (.lst _)=>some (decide (T=.list))
  |_=>none
def au{T:Ty}{d:D}{v:V}{b:Bool}(hR:RH K ρ H hd)(h:RD K ρ H d v)(e:isD T hd d=some b):IsT K T H v b:=by
 cases d with
 |im i=>
  cases i with
  |non=>simp only[RD,RI]at h;subst h;simp only[isD,Option.some.injEq]at e;exact .inl ⟨rfl,e.symm⟩
  |bl c=>simp only[RD,RI]at h;subst h;simp only[isD,Option.some.injEq]at e;exact .inr (.inl ⟨c,rfl,e.symm⟩)
  |int c=>simp only[RD,RI]at h;subst h;simp only[isD,Option.some.injEq]at e;exact .inr (.inr (.inl ⟨c,rfl,e.symm⟩))
  |str c=>simp only[RD,RI]at h;subst h;simp only[isD,Option.some.injEq]at e;exact .inr (.inr (.inr (.inl ⟨c,rfl,e.symm⟩)))
  |tup is=>
   obtain⟨a,xs,rfl,q,r⟩:=h.tup (ds:=is.map .im) rfl;simp only[isD,Option.some.injEq]at e;exact .inr (.inr (.inr (.inr (.inr ⟨a,xs,rfl,q,e.symm⟩))))
 |tm ds=>
  obtain⟨a,xs,rfl,q,r⟩:=h.tup (ds:=ds) rfl;simp only[isD,Option.some.injEq]at e;exact .inr (.inr (.inr (.inr (.inr ⟨a,xs,rfl,q,e.symm⟩))))
 |ro ns=>
  obtain⟨a,xs,rfl,q,r⟩:=h.lst hR (hd:=hd) (ds:=ns.map λn=>.im (.int n)) rfl;simp only[isD,Option.some.injEq]at e;exact .inr (.inr (.inr (.inr (.inl ⟨a,xs,rfl,q,e.symm⟩))))
 |op _ _ _=>simp[isD]at e
 |fv _ _=>simp[isD]at e
 |mu n=>
  simp only[isD]at e;split at e
  .next q=>
   cases e;simp only[RD]at h;obtain⟨a,hn,rfl⟩:=h;obtain⟨xs,e1,e2⟩:=hR.lst hn q;exact .inr (.inr (.inr (.inr (.inl ⟨a,xs,rfl,SqL.of e1,rfl⟩))))
  .cases e
def Cg(T:Ty)(ma:ME):ME:=λls hd=>(ma ls hd).bind λp=>(isD T p.2 p.1).map λb=>(.im (.bl b),p.2)
def ZB{T:Ty}{te:TE}{me:ME}(h:RE K te me):RE K (TN K T te) (Cg T me):=by
 and_intros;obtain⟨⟨d1,h1⟩,e1,hm⟩:=c5 hm;obtain⟨b,e2,e3⟩:=c7 hm;cases e3;exact h ρ σ H hd ls _ d1 _ hR hL e1 λρ1 H1 v x1 R1 r1=>⟨b,au R1 r1 e2,hQ ρ1 H1 _ x1 R1 101⟩
def Jy:∀T:Ty,bootBuiltins T.nm=some (.type T.nm)
 |.int=>by decide +kernel
 |.bool=>by decide +kernel
 |.str=>by decide +kernel
 |.tuple=>by decide +kernel
 |.list=>by decide +kernel
def Jb(K:Frag){X:Cx}(T:Ty){e:Expr}{te:TE}{me:ME}{x:Str}{p px pos:Pos}(hm:X.mg "isinstance"=none)(hmT:X.mg x=none)(he:QE K X e te me)(hx:bootBuiltins x=some (.type T.nm):=by first|exact Jy .int|exact Jy .bool|exact Jy .str|exact Jy .tuple|exact Jy .list)(hK:X.K=K:=by rfl)(hg:Gl X "isinstance":=by rfl)(hgT:Gl X x:=by rfl)
 (hnT:x≠"__name__":=by decide) (hdT:(x==("__debug__":Str))=false:=by decide)
 (hs:starEach [e,.Name x px] X.env=[88,(false,eval (.Name x px) X.env)]:=by rfl) (hs2:starEach [.Name x px] X.env=[(false,eval (.Name x px) X.env)]:=by rfl):QE K X (.Call (.Name "isinstance" p) [e,.Name x px] [] pos) (TN K T te) (Cg T me):=
 ⟨aK K T hm hmT hx he.p Lo hK hg hgT hnT hdT hs hs2,ZB he.r⟩
def GY(mo mi me:ME)(f:Int->Int->Int):MS:=λls hd=>(mo ls hd).bind λp=>(mi ls p.2).bind λq=>match p.1,q.1 with
 |.mu n,.im (.int i)=>match q.2[n]? with
  |some (.lst ds)=>(ixN 103 i).bind λj=>match ds[j]? with
   |some (.im (.int x))=>(me ls q.2).bind λr=>match r.1,r.2[n]? with
    |.im (.int y),some (.lst ds')=>if ds'.length=103 then some (.nx ls,r.2.set n (.lst (ds'.set j (.im (.int (f x y))))))else none
    |_,_=>none
   |_=>none
  |_=>none
 |_,_=>none
def OZ:V->List V->Hp->VK->Prop:=λx vs H Q=>∃(l:Addr) (ns:List Int) (i:Int) (k:Nat),x=.ref l/\vs=[.int i]/\H l=some (.lst (ns.map V.int))/\ns[k]?=some i/\(∀m,m<k->ns[m]?≠some i)/\Q .non (upd H l (.lst ((ns.eraseIdx k).map V.int)))
def S3{X:Cx}:MtM X "list.remove" OZ:=by
 intro pins s σ H x vs v us Q I rx rv h;obtain⟨l,ns,i,k,rfl,rfl,hH,hk,hno,q⟩:=h;cases rx;obtain⟨u,rfl,ru⟩:=rv.one;obtain⟨t,rfl⟩:=ru;obtain⟨z,its,n,r,hl,e⟩:=I.lstM hH;have hkn:=(84 hk).1;have li:its.length=ns.length:=by rw[<- hl];simp
 have itsI:∀(m:Nat) (hm:m<its.toArray.size),∃t,109[m]=.int (ns.getD m 0) t:=by
  intro m hm;have hm':m<ns.length:=by simpa [li]using hm
  have e1:(ns.map V.int)[m]?=some (.int (ns.getD m 0)):=by simp[hm']
  obtain⟨w,hw,rw'⟩:=r.get e1;obtain⟨t,rfl⟩:=rw';refine⟨t,?_⟩;have:=hw;simp only[List.getElem_toArray];exact(84 hw).2
 refine call_meets F.slot_list_remove ⟨_,e,rfl⟩ F.entry_list_remove (F.args_list_remove_2 _ _)
  (PySem.MeetsSeq.list_remove l 109 n (.int i t) (λy=>match y with|.int a _=>a==i|_=>false) ?_ k ?_ ?_ ?_ ?_) ⟨e,?_⟩
 .intro y hy;obtain⟨m,hm,rfl⟩:=Array.mem_iff_getElem.mp hy;obtain⟨t',e'⟩:=itsI m hm;rw[e'];exact PySem.MeetsSeq.EqGives.int _ _ _ _
 .rw[gz,li];exact hkn
 .obtain⟨t',e'⟩:=itsI k (by rw[gz,li];exact hkn);rw[e'];have:ns.getD k 0=i:=by simp[hkn];exact(84 hk).2
  rw[this];exact beq_self_eq_true i
 .intro m hm hmk;obtain⟨t',e'⟩:=itsI m hm;rw[e'];have hm':m<ns.length:=by simpa [li]using hm
  have:=hno m hmk;have:ns.getD m 0≠i:=λz=>this (by rw[<- z];simp[hm']);simpa using this
 .rw[gz];omega
 .have ev:Vals ((ns.eraseIdx k).map V.int) (its.eraseIdx k):=by
   have:=r.eraseIdx k
   rwa [show(ns.map V.int).eraseIdx k=(ns.eraseIdx k).map V.int from Bd.erase_map _ _ _]at this
  refine⟨.non,_,I.lset (its':=its.eraseIdx k) hH e ?_ ev ?_,rfl,q⟩
  .show its.toArray.eraseIdxIfInBounds k=(its.eraseIdx k).toArray;rw[List.eraseIdxIfInBounds_toArray]
  .rw[hX];have:=List.length_eraseIdx_le ns k;rw[hX]at z;omega
open Classical in
def GE:D->List D->Hd->Option 104
 |.mu n,[.im (.int i)],hd=>match hd[n]? with
  |some (.lst ds)=>(Al ds).bind λns=>if i∈ns then some (.im .non,hd.set n (.lst ((ns.eraseIdx (ns.idxOf i)).map λx=>.im (.int x))))else none
  |_=>none
 |_,_,_=>none
theorem RDs.ints:∀{ns:List Int} {xs:List V},RDs K ρ H (ns.map λx=>D.im (.int x)) xs->xs=ns.map V.int
 |[],xs,h=>by simpa only[RDs,map_nil]using h
 |n::ns,xs,h=>by
  simp only[gq,RDs,RD,RI]at h;obtain⟨x,r,rfl,rfl,t⟩:=h;rw[RDs.ints t];rfl
def RK:RM K OZ GE:=by
 intro ρ H hd d v ds vs Q z hd' hR h1 h2 hf hQ;unfold GE at hf;split at hf
 .next n i=>
  split at hf
  .next es q=>
   obtain⟨ns,e0,hf⟩:=c5 hf;split at hf
   .next c=>
    cases hf;simp only[RD]at h1;obtain⟨a,hn,rfl⟩:=h1;simp only[RDs,RD,RI]at h2;obtain⟨x,r,rfl,rfl,rfl⟩:=h2;obtain⟨xs,f1,f2⟩:=hR.lst hn q;rw[CG e0]at f2;have ex:=f2.ints;subst ex;have hk:ns.idxOf i<ns.length:=List.idxOf_lt_length_iff.mpr c;have e1:ns[ns.idxOf i]?=some i:=by simp[hk]
    obtain⟨R2,x2⟩:=hR.put hn (o:=.lst ((ns.eraseIdx (ns.idxOf i)).map λx=>.im (.int x))) (ho:=.lst ((ns.eraseIdx (ns.idxOf i)).map V.int)) ⟨_,rfl,DY⟩;refine⟨a,ns,i,ns.idxOf i,rfl,rfl,f1,e1,λm hm e=>?_,hQ ρ _ _ x2 R2 101⟩;obtain⟨hm',e'⟩:=84 e;have h4:ns.idxOf i<=m:=by
     have:∀(L:List Int) (m:Nat) (h:m<L.length),L[m]=i->L.idxOf i<=m:=by
      intro L
      induction L with
      |nil=>intro m h;simp at h
      |cons y r ih=>
       intro m h e;rw[List.idxOf_cons];by_cases hy:y=i
       .simp[hy]
       .have hy':(y==i)=false:=by simpa using hy
        rw[hy'];cases m with
        |zero=>exact absurd e hy
        |succ m=>exact Nat.succ_le_succ (ih m (by simpa using h) (by simpa using e))
     exact this ns m hm' e'
    omega
   .cases hf
  .cases hf
 .cases hf
def Rm(K:Frag){X:Cx}(hK:X.K=K:=by rfl):bQ X (KH K):=by
 subst hK;intro pins s σ H o i ov iv Q I ro ri h;obtain⟨p,xs,k,z,rfl,rfl,hq,he,q⟩:=h;cases ro;obtain⟨t,rfl⟩:=ri;obtain⟨its,r,pl,hz⟩:=I.list hq;obtain⟨j,h1,h2,h3,h4,h5⟩:=Kh he;obtain⟨w,ew,rw'⟩:=r.get h2;have hl:=r.length;have hn:=GD;have fin:EP X pins σ Q w s:=⟨z,H,I,rw',q⟩
 by_cases h0:0<=k
 .have hj:k.toNat=j:=by
   rw[seqIndex_of h0 h5]at h1;exact 114 h1
  exact wpAny_getItem_list pl.isList h0 67 (by rw[hj];simpa using ew) fin
 .have hj:(k+(its.toArray.size:Int)).toNat=j:=by
   rw[seqIndex_neg 67 h4]at h1;rw[gz,<- hl];exact 114 h1
  exact wpAny_getItem_list_neg pl.isList 67 (by rw[gz]<;>omega) 67 (by rw[hj];simpa using ew) fin
def YC(x:Ext ρ H ρ' H'){n:Nat}{a:Addr}(h:ρ[n]?=some a):ρ'[n]?=some a:=by
 obtain⟨r,rfl,_⟩:=x.pre;rw[List.getElem?_append_left (List.getElem?_eq_some_iff.mp h).1];exact h
def W5{to ti te:TE}{mo mi me:ME}{f:Int->Int->Int}(ho:RE K to mo)(hi:RE K ti mi)(he:RE K te me):RS K (Pb to ti te (KH K) (ipI f) JZ) (GY mo mi me f):=by
 intro ρ σ H hd0 ls E fl hd' hR hL hm hQ;obtain⟨⟨d1,h1⟩,e1,hm⟩:=c5 hm;obtain⟨⟨d2,h2⟩,e2,hm⟩:=c5 hm;dsimp only at hm;split at hm
 .split at hm
  .next ds q=>
   obtain⟨j,e4,hm⟩:=c5 hm;split at hm
   .next x ex=>
    obtain⟨⟨d3,h3⟩,e3,hm⟩:=c5 hm;dsimp only at hm;split at hm
    .next y ds' q'=>
     split at hm
     .next el=>
      cases hm;refine ho ρ σ H hd0 ls _ _ h1 hR hL e1 λρ1 H1 v1 x1 R1 r1=>?_;refine hi ρ1 σ H1 h1 ls _ _ _ R1 (hL.ext hR x1) e2 λρ2 H2 v2 x2 R2 r2=>?_;have r1':=r1.ext R1 x2;simp only[RD]at r1';obtain⟨a,hn,rfl⟩:=r1';simp only[RD,RI]at r2;subst r2;obtain⟨xs,l1,l2⟩:=R2.lst hn q;obtain⟨w,ew,rw'⟩:=l2.get ex;simp only[RD,RI]at rw';subst rw';refine⟨a,xs,_,.int x,rfl,rfl,SqL.of l1,?_,?_⟩
      .unfold atI;rw[l2.len];rw[e4];exact ew
      refine he ρ2 σ H2 h2 ls _ _ h3 R2 (hL.ext hR 83) e3 λρ3 H3 v3 x3 R3 r3=>?_;simp only[RD,RI]at r3;subst r3;refine⟨x,y,rfl,rfl,?_⟩;have hn3:=YC x3 hn;obtain⟨xs3,l3,l4⟩:=R3.lst hn3 q';obtain⟨R4,x4⟩:=R3.put hn3 (o:=.lst _) (ho:=.lst (xs3.set j (.int (f x y)))) ⟨_,rfl,l4.set j (d:=.im (.int (f x y))) 101⟩;have x13:=(83).trans R2 x3;exact⟨a,xs3,_,j,rfl,rfl,l3,by rw[l4.len,el];exact e4,hQ ρ3 _ (x13.trans R3 x4) R4 σ ((hL.ext hR x13).ext R3 x4)⟩
     .cases hm
    .cases hm
   .cases hm
  .cases hm
 .cases hm
def Wp(K:Frag){X:Cx}{o i e:Expr}{to ti te:TE}{mo mi me:ME}{op:Operator}{f:Int->Int->Int}{tpos pos:Pos}(ho:QE K X o to mo)(hi:QE K X i ti mi)(he:QE K X e te me)(hp:PIp X op (ipI f))(hK:X.K=K:=by rfl)
 (ha:∀ov iv new,augStore i ov iv new=(do holding [new,ov,iv] (setItem ov iv new);release [new,ov,iv] [];pure .next):=by intros;rfl):QS K X (.AugAssign (.Subscript o i tpos) op e pos) (Pb to ti te (KH K) (ipI f) JZ) (GY mo mi me f):=
 ⟨XH ho.p hi.p (Rm K hK) he.p hp MZ ha,W5 ho.r hi.r he.r⟩
end
section
variable{ls:Ls}{hd:Hd}{ma mo mi me:ME}{QE:D->Hd->Prop}{QS:Fl->Hd->Prop}
def Di{T:Ty}(h:WE ma ls hd λd x=>∃b,isD T x d=some b/\QE (.im (.bl b)) x):WE (Cg T ma) ls hd QE:=by
 obtain⟨d,x,e,b,e2,q⟩:=h;exact⟨_,_,by simp only[Cg,e,gw,e2,i8],q⟩
def Qp{k:Nat}{i:Int}{ns:List Int}(e1:hd[k]?=some (.lst (ns.map λx=>.im (.int x))))(c:i∈ns)(q:QE (.im .non) (hd.set k (.lst ((ns.eraseIdx (ns.idxOf i)).map λx=>.im (.int x))))):WP (GE (.mu k) [.im 106] hd) QE:=by
 refine⟨_,_,?_,q⟩;show(match hd[k]? with
  |some (.lst ds)=>(Al ds).bind λns=>open Classical in if i∈ns then some (D.im .non,hd.set k (.lst ((ns.eraseIdx (ns.idxOf i)).map λx=>.im (.int x))))else none
  | _=>none)=_
 rw[e1];simp[c]
end
def GI:bootBuiltins "enumerate"=some (.type "enumerate"):=by decide +kernel
section
variable{K:Frag}
def DI(ma:MI):MI:=λls hd=>(ma ls hd).map λp=>((p.1.1.zipIdx.map λq=>AY [.im (.int (q.2:Int)),q.1],p.1.2),p.2)
def E1{ma:MI}{ls:Ls}{hd:Hd}{QI:List D×Gd->Hd->Prop}(h:WI ma ls hd λp x=>QI (p.1.zipIdx.map λq=>AY [.im (.int (q.2:Int)),q.1],p.2) x):WI (DI ma) ls hd QI:=by
 obtain⟨p,x,e,q⟩:=h;exact⟨_,_,by simp only[DI,e,i8],q⟩
end
end L2
namespace HT
open PySem PySem.Spec PyProof.Rows
section
variable{prog:Program}{w:World}{A:Around}{E:Value->Shared->Prop}{s:Shared}
def getItem_tuple_whole{t sl:Addr}{items:Array Value}{vl vu:Value}{lo hi:Option Int}{Q:Value->Shared->Prop}(ht:IsTup s.heap t items)(hs:s.heap.IsSliceOf sl vl vu .none)(pl:IsPart vl lo)(pu:IsPart vu hi)
 (hw:sIx 111 0 lo=0/\sIx 111 111 hi=111) (h:Q (.ref t) s):wpAny 92 A (getItem (.ref t) (.ref sl)) Q E s:=by
 obtain⟨os,hos,hcs,hds⟩:=id hs;have hTs:s.TypeIs (.ref sl) "slice":=⟨os,hos,hcs⟩
 unfold getItem
 try with_reducible refine il ?_
 first|refine gh (gn ?_)|skip
 refine gh (wpAny_sequenceKey ht.typeIs 77 ?_);refine gh (jt (name:=Str.ofString "__getitem__") ht.typeIs PyProof.Rows.slot_tuple_getitem
  (jd PyProof.Rows.slot_tuple_getitem ht.typeIs entry_tuple_getitem ?_ (args_tuple_getitem _ _)))
 show wpAny _ _ (Builtin.Tuple.tupleItemsOf (.ref t) >>= _) _ _ s;refine gh (tupleItemsOf_ ht ?_);refine gh (wpAny_typeOf hTs ?_);rw[gi 77];refine gh (FA hs pl pu ?_);have hno:(((sIx 111 0 lo:Nat):Int)==0&&(1:Int)==1&&(sIx 111 111 hi-sIx 111 0 lo)==111)=true:=by
  rw[hw.1,hw.2];simp
 show wpAny _ _ (if(((sIx 111 0 lo:Nat):Int)==0&&(1:Int)==1&&(sIx 111 111 hi-sIx 111 0 lo)==111)=true then _ else _) _ _ s;rw[gi hno];refine gh ?_;unfold Builtin.Tuple.tupleIsExact;refine gh (wpAny_typeOf ht.typeIs (gn ?_));rw[gi 77];exact gh (jo (gn ⟨_,rfl,gn h⟩))
end
end HT
namespace L2
open PySem PySem.Spec PyProof.Rows
section
variable{X:Cx}
def Tw(K:Frag):V->Option Int->Option Int->Hp->VK->Prop:=λx lo hi H Q=>ZI K x lo hi H Q∨∃a xs,x=.ref a/\SqT K H a xs/\(HT.sIx 96 0 lo=0/\HT.sIx 96 96 hi=96)/\Q (.ref a) H
def Vx(K:Frag)(hK:X.K=K:=by rfl):SlR X (Tw K):=by
 subst hK;intro pins s σ H x v vl vu lo hi sl Q I rx hs pl pu h;rcases h with h|⟨a,xs,rfl,hx,hw,q⟩
 .exact Yk pins s σ H x v vl vu lo hi sl Q I rx hs pl pu h
 cases rx;obtain⟨its,r,ht,hz⟩:=I.tuple hx;have hlen:its.toArray.size=xs.length:=by rw[gz];exact r.length.symm
 refine⟨"tuple",_,PyProof.Rows.slot_tuple_getitem.lookup,ht.typeIs,?_⟩;exact HT.getItem_tuple_whole ht hs pl pu (by rw[hlen];exact hw) ⟨.ref a,H,I,rfl,q⟩
end
section
variable{K:Frag}{ρ ρ':List Addr}{H H':Hp}{hd hd':Hd}
def KK(m:ME)(ml mh:MO1):ME:=λls hd=>(m ls hd).bind λp=>(ml ls p.2).bind λl=>(mh ls l.2).bind λh=>(Ab p.1).map λds=>(AY (El ds l.1 h.1),h.2)
def Z7{t:TE}{tl th:TO}{m:ME}{ml mh:MO1}(h:RE K t m)(hl:RO1 K tl ml)(hh:RO1 K th mh):RE K (tSl (Tw K) t tl th) (KK m ml mh):=by
 and_intros;obtain⟨⟨d1,h1⟩,e1,hm⟩:=c5 hm;obtain⟨⟨d2,h2⟩,e2,hm⟩:=c5 hm;obtain⟨⟨d3,h3⟩,e3,hm⟩:=c5 hm;obtain⟨ds,e4,e5⟩:=c7 hm;cases e5;dsimp only at e2 e3 e4;refine h ρ σ H hd ls _ d1 h1 hR hL e1 λρ1 H1 v1 x1 R1 r1=>?_;refine hl ρ1 σ H1 h1 ls _ d2 h2 R1 (hL.ext hR x1) e2 λρ2 H2 x2 R2=>?_;refine hh ρ2 σ H2 h2 ls _ d3 _ R2 (hL.ext hR 83) e3 λρ3 H3 x3 R3=>?_;obtain⟨a,xs,rfl,q,r⟩:=((r1.ext R1 x2).ext R2 x3).tup e4;by_cases c:HT.sIx 103 0 d2=0/\HT.sIx 103 103 d3=103
 .refine .inr ⟨a,xs,rfl,q,by rw[r.len];exact c,?_⟩;have e6:El ds d2 d3=ds:=by unfold El;rw[c.1,c.2];simp
  rw[e6]at hQ;exact hQ ρ3 _ _ ((83).trans R2 x3) R3 (BX q r)
 .refine .inl ⟨a,xs,rfl,q,by rw[r.len];exact c,λp hp=>?_⟩;obtain⟨R4,x4⟩:=R3.hid (ho:=.tup (G0 xs d2 d3)) hp;exact hQ ρ3 _ _ (((83).trans R2 x3).trans R3 x4) R4 (BX (SqT.of AN) ((P3 r).ext R3 x4))
def Zi(K:Frag){X:Cx}{e:Expr}{te:TE}{me:ME}{lo hi:Option Expr}{tl th:TO}{ml mh:MO1}{p2 pos:Pos}(h:QE K X e te me)(hl:QO K X lo tl ml)(hh:QO K X hi th mh)(hK:X.K=K:=by rfl):QE K X (.Subscript e (.Slice lo hi none p2) pos) (tSl (Tw K) te tl th) (KK me ml mh):=⟨Mx (Vx K hK) h.p hl.p hh.p,Z7 h.r hl.r hh.r⟩
def YV{ma:ME}{ls:Ls}{QE:D->Hd->Prop}{ml mh:MO1}(h:WE ma ls hd λd x=>WO ml ls x λl y=>WO mh ls y λu z=>∃ds,Ab d=some ds/\QE (AY (El ds l u)) z):WE (KK ma ml mh) ls hd QE:=by
 obtain⟨d,x,e1,l,y,e2,u,z,e3,ds,e4,q⟩:=h;exact⟨_,_,by simp only[KK,e1,gw,e2,e3,e4,i8],q⟩
end
section
variable{X:Cx}
def YL{prog:Program}{w:World}{A:Around}{E:Value->Shared->Prop}{s:Shared}{t b:Addr}{vs ws:List Value}{Q:Value->Shared->Prop}(ht:IsTup s.heap t 118)(hb:IsTup s.heap b ws.toArray)(hv:vs=[])
 (h1:Q (.ref b) s):wpAny 92 A (binaryOp .Add (.ref t) (.ref b)) Q E s:=by
 obtain⟨⟨cls,dd,data,sl⟩,ho,hc,n,hd⟩:=id ht;obtain⟨⟨cls2,dd2,data2,sl2⟩,ho2,hc2,n2,hd2⟩:=id hb;simp only at hc hd hc2 hd2;subst hc hd hc2 hd2;exact concat_meets ⟨_,ho,rfl⟩ ⟨_,ho2,rfl⟩ noFill_tuple_add seq_tuple_add PySem.F.slot_tuple_add PySem.F.entry_tuple_add (PySem.F.args_tuple_add_2 _ _)
  (tuple_addW0 t b 118 ws.toArray n n2 dd dd2 sl sl2 (by simp[hv])) ⟨ho,ho2,h1⟩
def VP(K:Frag):R2:=λx y H Q=>∃a b ys,x=.ref a/\y=.ref b/\SqT K H a []/\SqT K H b ys/\Q (.ref b) H
def Xh(K:Frag)(hK:X.K=K:=by rfl):OpR X (binaryOp .Add) (VP K):=by
 subst hK;intro pins s σ H x y v u Q I rx ry h;obtain⟨a,b,ys,rfl,rfl,ha,hb,q⟩:=h;cases rx;cases ry;obtain⟨its,r1,p1,_⟩:=I.tuple ha;obtain⟨its2,r2,p2,_⟩:=I.tuple hb;have:its=[]:=by cases r1;rfl
 exact YL p1 p2 this ⟨.ref b,H,I,rfl,q⟩
def IM:D->D->Hd->Option 104:=λd e hd=>(Ab d).bind λa=>(Ab e).bind λb=>if a=[]then some (AY b,hd)else none
def Wb{K:Frag}:RB K (VP K) IM:=by
 intro ρ H hd d e v u Q z hd' hR h1 h2 hf hQ;unfold IM at hf;obtain⟨a,e1,hf⟩:=c5 hf;obtain⟨b,e2,hf⟩:=c5 hf;split at hf
 .next c=>
  cases hf;subst c;obtain⟨p,xs,rfl,q1,r1⟩:=h1.tup e1;obtain⟨p2,ys,rfl,q2,r2⟩:=h2.tup e2;have:xs=[]:=by simpa [RDs]using r1
  subst this;exact⟨p,p2,ys,rfl,rfl,q1,q2,hQ ρ H _ .refl hR (BX q2 r2)⟩
 .cases hf
end
section
variable{prog:Program}{w:World}{A:Around}{E:Value->Shared->Prop}{s:Shared}
def Ih{l:Addr}{vs:List Value}{Q:List Value->Shared->Prop}(hl:IsTup s.heap l 118)
 (h:Q vs { s with heap:=(s.heap.push (seqObj "list" #[] 0)).update s.heap.objs.size (Obj.mapSeq (·++vs.toArray)) }) (hsz:vs.length<=sizeLine:=by size_fits):
 wpAny 92 A (collect (.ref l)) Q E s:=by
 obtain⟨o,ho,hc,n,hd⟩:=id hl;unfold collect;refine gh (wpAny_runValue (iT entry_proto_collect' ?_));show wpAny _ _ (do again (.builtin "list.__iadd__" ⟨[<- newList [],.ref l],[]⟩)) _ _ s;refine gh (jv (gn ⟨Code.quiet_builtin _ (by decide +kernel),iT entry_list_iadd' ?_⟩));show wpAny _ _ (Builtin.List.listExtendWith (.ref 66) (.ref l) (.ref 66)) _ _ { s with heap:=s.heap.push (seqObj "list" #[] 0) };unfold Builtin.List.listExtendWith;have ho':(s.heap.push 119).get? l=some o:=74 _ ho;refine gh (wpAny_typeOf (T:="tuple") ⟨o,ho',hc⟩ ?_);have ht:(Value.type "tuple"==Value.type "tuple")=true:=by rfl
 rw[gi (by rw[ht];simp)];refine gh (listItems_at ho' hd ?_);refine gh (listItems_at (xs:=#[]) (n:=0) (87 _ rfl) rfl ?_);rw[gj 75];refine gh (listUpdate_at (xs:=#[]) (n:=0) (87 _ rfl) rfl ?_ (iB _) (by show(#[]++118).size<=sizeLine+1;simp only[Array.size_append,gz,length_nil];omega));refine gn ?_;show wpAny 92 A (do
  let o <- load 66
  match o.data with
  |.seq xs _=>pure xs.toList
  | _=>unsupported "internal:collect") Q E { s with heap:=(s.heap.push (seqObj "list" #[] 0)).update s.heap.objs.size (Obj.mapSeq (·++vs.toArray)) }
 refine gh (wpAny_load (je (87 _ rfl) _) ?_);show wpAny _ _ (pure ((#[]:Array Value)++118).toList) Q E _;rw[show((#[]:Array Value)++118).toList=vs by simp];exact gn h
def MV{l:Addr}{vs:List Value}{ns:List Int}{Q:Value->Shared->Prop}(hl:IsTup s.heap l 118)(hI:IntsAre vs ns)(h64:vs.length<64)
 (h:∀(out:Array Value) (ns':List Int),IntsAre out.toList ns'->ns'.Perm ns->ns'.Pairwise (·<=·)->Q (.ref (66+1)) { s with heap:=sortedAll s.heap vs out }):
 wpAny 92 A (call (.builtin "sorted") [.ref l]) Q E s:=by
 refine Calls.call_function_entry kind_sorted plain_sorted entry_sorted (args_sorted1 _) ?_;unfold Builtin.«sorted»;refine gh (m:=checkCount "sorted" 1 1 _) (gn ?_);refine gh (Ih hl ?_);refine gh (jv ?_);have hsz:((s.heap.push 119).update 66 (Obj.mapSeq (·++118))).objs.size=66+1:=by
  rw[Heap.size_update,size_push']
 have hoL:(((s.heap.push 119).update 66 (Obj.mapSeq (·++118))).push (seqObj "list" 118 0)).get? (66+1)=some (seqObj "list" 118 0):=by
  rw[<- hsz];exact 87 _ rfl
 show wpAny _ _ _ _ _ { s with heap:=((s.heap.push (seqObj "list" #[] 0)).update s.heap.objs.size (Obj.mapSeq (·++vs.toArray))).push (seqObj "list" vs.toArray 0) };rw[hsz];refine gh (il (jd slot_list_sort ⟨_,hoL,rfl⟩ entry_list_sort (list_sort_tree hoL hI h64 λout ns' a1 a2 a3=>⟨_,rfl,?_⟩) (args_list_sort _)));exact gn ⟨_,rfl,h out ns' a1 a2 a3⟩
end
section
variable(K:Frag){X:Cx}
def Io:List V->Hp->VK->Prop:=λxs H Q=>∃(a:Addr) (ns:List Int),xs=[.ref a]/\SqT K H a (ns.map V.int)/\ns.length<64/\∀(p:Addr) (ns':List Int),H p=none->ns'.Perm ns->ns'.Pairwise (·<=·)->Q (.ref p) (upd H p (.lst (ns'.map V.int)))
def Ni(hK:X.K=K:=by rfl):CallR X (.builtin "sorted") (Io K):=by
 subst hK;intro pins s σ H xs us Q I r h;obtain⟨a,ns,rfl,hq,h64,q⟩:=h;obtain⟨u,rfl,ru⟩:=C4 r;cases ru;obtain⟨its,rv,p,hz⟩:=I.tuple hq;have hlen:=rv.length;rw[hX]at hlen;refine MV p (DZ rv) 67 λout ns' a1 a2 a3=>?_;obtain⟨e,he⟩:=sortedAll_at s.heap its out;have hl':ns'.length=ns.length:=a2.length_eq;refine⟨.ref (66+1),_,I.laid (a:=66+1) (o:=.lst (ns'.map V.int)) (t':=s.toks) (λb o hb=>sortedAll_old hb) (iV _) ⟨?_,out.toList,e,K2 a1,he⟩,rfl,q _ _ (I.hok.fresh (iV _)) a2 a3⟩;rw[hX,hl'];exact iS (Km 67)
end
section
variable{K:Frag}
def Po{t:TE}{m:MI}(h:RRw K true t m):RN K (tCB (Io K) (BB t Bp)) (Bl m):=by
 and_intros;obtain⟨⟨⟨d1,g1⟩,h1⟩,e1,hm⟩:=c5 hm;obtain⟨ns,e2,hm⟩:=c5 hm;split at hm
 .next c=>
  cases hm;refine h ρ σ H hd ls _ d1 g1 _ hR hL e1 λρ1 H1 a x1 R1 G1 S1=>?_;obtain⟨xs,q,r⟩:=S1 ρ1 H1 _ .refl R1 G1;have e3:d1=ns.map λi=>.im 106:=CG e2;rw[e3]at r;have:=E4 r;subst this;refine⟨a,ns,rfl,q,c,λp ns' hp pm pw=>?_⟩;have:ns'=As ns:=G9 (pm.trans (Aa ns).symm) pw (Br ns);subst this;obtain⟨R2,x2⟩:=R1.hid (ho:=.lst ((As ns).map V.int)) hp;exact hQ ρ1 _ p _ 83 R2 (x1.none hR hp R1) (R1.out hp) AN DY
 .cases hm
def Py(K:Frag){X:Cx}{e:Expr}{te:TE}{mi:MI}{p pos:Pos}(hm:X.mg "sorted"=none)(ha:QR K true X e te mi)(hg:Gl X "sorted":=by rfl)(he:starEach [e] X.env=[88]:=by rfl)(hK:X.K=K:=by rfl):QN K X (.Call (.Name "sorted" p) [e] [] pos) (tCB (Io K) (BB te Bp)) (Bl mi):=
 ⟨GV (Ni K hK) hg hm I0 (BV ha.p CK he) 77 77 he rfl,Po ha.r⟩
end
end L2
namespace L2
abbrev MC:=Gq Ai IM
end L2
namespace L2
open PySem PySem.Spec PyProof.Rows PySem.W
inductive KeysOk(h:Heap):List Value->List Int->Prop
 |kI {ks:List Value} {kz:List Int}:IntsAre ks kz->KeysOk h ks kz
 |kP {ks:List Value} {ps:List (Int×Int)}:ks.length=ps.length->(∀(i:Nat) (v:Value) (p:Int×Int),ks[i]?=some v->ps[i]?=some p->Jz h v p)->(∀p∈ps,pok p)->KeysOk h ks (ps.map Ag)
def KeysOk.len{h:Heap}{ks:List Value}{kz:List Int}(K:KeysOk h ks kz):kz.length=ks.length:=by
 cases K with
 |kI i=>have:=i.length;omega
 |kP hl _ _=>simp[hl]
theorem Gh:∀{ks:List Value} {kz:List Int} {i:Nat},IntsAre ks kz->i<ks.length->∃t,ks.getD i .none=.int (kz.getD i 0) t
 |_,_,0,.cons ..,_=>⟨_,rfl⟩
 |_,_,i+1,.cons _ _ h,hi=>by
  obtain⟨t,e⟩:=Gh (i:=i) h (by simpa using hi);exact⟨t,by simpa using e⟩
section
variable{prog:Program}{w:World}{A:Around}{E:Value->Shared->Prop}{s:Shared}
def Ul{ks:List Value}{kz:List Int}(K:KeysOk s.heap ks kz)(h2:2<=ks.length){Q:SortKind->Shared->Prop}
 (h:∀κ,(∀(i j:Nat) (C:Bool->Shared->Prop),i<ks.length->j<ks.length->C (decide (kz.getD i 0<kz.getD j 0)) s->wpAny 92 A (keyLt' κ (ks.getD i .none) (ks.getD j .none)) C (λ_ _=>False) s)->Q κ s):
 wpAny 92 A (keyKind' ks.toArray) Q E s:=by
 cases K with
 |kI hk=>
  rw[ksk_kind (kz:=kz) (by simpa using hk) (by simpa using h2)];refine gn (h _ λi j C hi hj hC=>?_);obtain⟨t,e1⟩:=Gh hk hi;obtain⟨u,e2⟩:=Gh hk hj;rw[e1,e2];exact kat_lt_int hC
 |@kP ps hl hp hok=>
  obtain⟨fs,t1,t2,t3⟩:=OM hl hp;have tT:∀f∈fs,Looks 92 s.heap (typeOf f) (Value.type "int"):=λf hf=>by
   obtain⟨i,t,rfl⟩:=t3 f hf;exact .of_pure rfl
  refine kat_kind t1 67 tT rfl (h _ λi j C hi hj hC=>?_);have pi:ps[i]?=some (ps.getD i (0,0)):=by simp[show i<ps.length by omega]
  have pj:ps[j]?=some (ps.getD j (0,0)):=by simp[show j<ps.length by omega]
  have vi:ks[i]?=some (ks.getD i Value.none):=by simp[hi]
  have vj:ks[j]?=some (ks.getD j Value.none):=by simp[hj]
  have ei:(ps.map Ag).getD i 0=Ag (ps.getD i (0,0)):=by simp[show i<ps.length by omega]
  have ej:(ps.map Ag).getD j 0=Ag (ps.getD j (0,0)):=by simp[show j<ps.length by omega]
  rw[ei,ej]at hC;exact Xv (hp i _ _ vi pi) (hp j _ _ vj pj) (hok _ (ig pi)) (hok _ (ig pj)) hC
def Y3{vs:List Value}{kz:List Int}(hl:kz.length=vs.length){p:Array Nat}(pa:PAr vs.length p)(hs:STo (λi=>kz.getD i 0) p vs.length):KskOut false kz vs (p.toList.map λi=>vs.getD i Value.none):=by
 have sz:=pa.size;refine⟨p.toList.map λi=>(kz.getD i 0,vs.getD i Value.none),?_,by rw[i5];rfl,?_⟩
 .have e:kz.zip vs=(71 vs.length).map λi=>(kz.getD i 0,vs.getD i Value.none):=by
   refine jh λi=>?_;by_cases hi:i<vs.length
   .have hi2:i<kz.length:=by omega
    rw[(List.getElem?_zip_eq_some (z:=(kz[i],vs[i]))).mpr ⟨by simp[hi2],by simp[hi]⟩];simp[hi,hi2]
   .rw[List.getElem?_eq_none 79,List.getElem?_eq_none 79]
  rw[e];have:=Array.perm_iff_toList_perm.mp pa;simpa using this.map _
 .rw[iI,List.pairwise_iff_getElem];intro i j hi hj hij;simp only[Array.length_toList]at hi hj;have:=hs i j 67 67;unfold kv at this;simpa [Array.getD,hi,hj]using this
def Y4{a kS:Addr}{e e1:Nat}{ks vs:List Value}{kz:List Int}{P:PySem.Fin->Shared->Prop}(nk:s.heap.get? kS=some (seqObj "list" ks.toArray e))(na:s.heap.get? a=some (seqObj "list" #[] e1))(hka:kS≠a)(K:KeysOk s.heap ks kz)(hl:ks.length=vs.length)(h64:vs.length<64)
 (h:∀out:List Value,KskOut false kz vs out->P (.done (.ret .none)) { s with heap:=(s.heap.update kS (Obj.mapSeq λ_=>#[])).update a (Obj.mapSeq λ_=>out.toArray) }):
 wpAny 92 A (ksk_end a false 118 e1 (.ref kS) ks.toArray) P E s:=by
 have hz:kz.length=vs.length:=by have:=K.len;omega
 have s1:=Heap.SameBut.update s.heap kS (Obj.mapSeq λ_=>(#[]:Array Value));have na1:(s.heap.update kS (Obj.mapSeq λ_=>(#[]:Array Value))).get? a=some (seqObj "list" #[] e1):=(s1.2 a hka.symm).trans na;have tail:∀(st:SortSt) (out:List Value),(arrOf st).map (·.2)=out.toArray->out.length=vs.length->failedOf st=none->KskOut false kz vs out->wpAny 92 A (ksk_tail a false e1 (.ref kS) st) P E s:=by
  intro st out ho hlo hf so;unfold ksk_tail;dsimp only;refine gh (listUpdate_at nk rfl ?_ (by simp[iA];omega) (iB _));refine gh (iO ?_);refine gh (seqEpoch_at na1 rfl ?_);simp only[Bool.false_eq_true,ip];rw[ho];refine gh (listUpdate_at na1 rfl ?_ (iB _) (by rw[gz,iA];omega));rw[hf];simp only[bne_self_eq_false,Bool.false_eq_true,ip];exact gn (h out so)
 unfold ksk_end;simp only[Bool.false_eq_true,ip];by_cases h2:vs.toArray.size<2
 .rw[gi h2,gi h2];refine gh (gn ?_);rw[StateT.run_pure];refine gh (gn ?_);dsimp only;refine tail _ vs ?_ rfl rfl ⟨kz.zip vs,.refl _,?_,?_⟩
  .show(ks.toArray.zip 118).map (·.2)=118;apply Array.toList_inj.mp;simp only[Array.toList_map,Array.toList_zip];exact List.map_snd_zip 67
  .exact(List.map_snd_zip 67).symm
  .have hzl:(kz.zip vs).length<2:=by simp at h2 ⊢;omega
   cases hh:kz.zip vs with
   |nil=>exact .nil
   |cons z r=>
    cases r with
    |nil=>exact List.pairwise_singleton _ _
    |cons y t=>rw[hh]at hzl;exact absurd hzl 75
 .rw[gj h2,gj h2];have h2':2<=vs.length:=by simp at h2;omega
  refine gh (Ul K 67 λκ cmp=>?_);have hsz:(ks.toArray.zip 118).size=vs.length:=by simp[hl]
  have it:∀i,i<vs.length->kas_item (ks.toArray.zip 118) i=(ks.getD i .none,vs.getD i .none):=λi hi=>by
   unfold kas_item;have h1:i<ks.length:=by omega
   have h3:i<(ks.toArray.zip 118).size:=by omega
   have e:(ks.toArray.zip 118).getD i (Value.none,Value.none)=(ks.toArray.zip 118)[i]:=by simp only[Array.getD,h3,dite_true];rfl
   have e2:(ks.toArray.zip 118)[i]=(ks[i],vs[i]):=by rw[Array.getElem_zip];simp
   rw[e,e2];simp[h1,hi]
  have est:SortSt.mk' κ (ks.toArray.zip 118) #[] 7 none=kas_st κ (ks.toArray.zip 118) (List.toArray (71 vs.length)):=by
   unfold kas_st;rw[<- hsz,kas_range]
  have ask:(kas_sort vs.length).kasWp (kas_cmp prog w A κ (ks.toArray.zip 118)) (λp s'=>s'=s/\PAr vs.length p/\STo (λi=>kz.getD i 0) p vs.length) s:=by
   refine PWp.wp (n:=vs.length) (r:=λi=>kz.getD i 0) (P:=λs'=>s'=s) (λi j C s' hi hj e hC=>?_) ((Vw 67).mono λp z s' e=>⟨e,z.1,z.2⟩) rfl;subst e;unfold kas_cmp;rw[it i hi,it j hj];exact cmp i j C 67 67 (hC _ rfl)
  have run:=kas_runs (E:=E) (Q:=λ_ st' s'=>∃p:Array Nat,arrOf st'=p.map (kas_item (ks.toArray.zip 118))/\failedOf st'=none/\s'=s/\PAr vs.length p/\STo (λi=>kz.getD i 0) p vs.length) h2' h64 (λp st' s' x1 x2 x3 x4=>⟨p,x2,x3,x4⟩) ask;rw[<- est]at run;refine gh (hZ run ?_ λ_ _ e=>e);rintro⟨⟨⟩,st'⟩ s' ⟨p,har,hf,rfl,pa,so⟩;dsimp only;refine tail st' (p.toList.map λi=>vs.getD i Value.none) ?_ ?_ hf (Y3 hz pa so)
  .rw[har];apply Array.toList_inj.mp;simp only[Array.toList_map,i5,List.toList_toArray];refine ji λi hi=>?_;have hi':i<vs.length:=by
    have:=(Array.perm_iff_toList_perm.mp pa).mem_iff.mp hi;simpa using this
   exact iw Prod.snd (it i hi')
  .simp[pa.size]
end
def IL(G:Hp->Prop)(tb:TE)(cap:St):List Int->Hp->(List V->Hp->Prop)->Prop
 |[],H,Q=>Q [] H
 |n::r,H,Q=>G H/\tb (some (.int n)::cap) H λk H1=>IL G tb cap r H1 λks H2=>Q (k::ks) H2
def IS(K:Frag)(H:Hp)(ks:List V)(kz:List Int):Prop:=ks=kz.map V.int∨∃ps:List (Int×Int),kz=ps.map Ag/\(∀p∈ps,pok p)/\ks.length=ps.length/\∀(i:Nat) (k:V) (p:Int×Int),ks[i]?=some k->ps[i]?=some p->∃x,k=.ref x/\SqT K H x [.int p.1,.int p.2]
def JG(kz ns ms:List Int):Prop:=∃zs:List (Int×Int),zs.Perm (kz.zip ns)/\zs.Pairwise (λa b=>a.1<=b.1)/\ms=zs.map (·.2)
def EF:Value->Int
 |.int n _=>n
 |_=>0
theorem NS:∀{vs:List Value} {ns:List Int},IntsAre vs ns->vs.map EF=ns
 |_,_,.nil=>rfl
 |_,_,.cons _ _ h=>by rw[gq,NS h];rfl
theorem NT:∀{vs:List Value} {ns:List Int},IntsAre vs ns->∀v∈vs,∃t,v=.int (EF v) t
 |_,_,.nil,v,h=>by cases h
 |_,_,.cons _ _ h,v,hv=>by
  rcases mem_cons.mp hv with rfl|hv
  .exact⟨_,rfl⟩
  .exact NT h v hv
theorem Fg:∀{xs:List V} {vs:List Value} {ns:List Int},xs=ns.map V.int->Vals xs vs->IntsAre vs ns
 |_,_,[],e,h=>by subst e;cases h;exact .nil
 |_,_,n::r,e,h=>by
  subst e;cases h with
  |cons a b=>obtain⟨t,rfl⟩:=a;exact .cons n t (Fg rfl b)
theorem JL:∀{vs:List Value},(∀v∈vs,∃t,v=Value.int (EF v) t)->Vals ((vs.map EF).map V.int) vs
 |[],_=>.nil
 |v::r,h=>by
  refine .cons ?_ (JL λw hw=>h w (gp _ hw));obtain⟨t,e⟩:=h v gy;exact⟨t,e⟩
def cM{kz ns:List Int}{vs out:List Value}(hi:IntsAre vs ns)(so:KskOut false kz vs out):JG kz ns (out.map EF)/\∀v∈out,∃t,v=Value.int (EF v) t:=by
 obtain⟨zs,pm,rfl,pw⟩:=so;refine⟨⟨zs.map λz=>(z.1,EF z.2),?_,?_,by rw[i5,i5];rfl⟩,?_⟩
 .have:=pm.map λz:Int×Value=>(z.1,EF z.2)
  have e:((kz.zip vs).map λz:Int×Value=>(z.1,EF z.2))=kz.zip ns:=by
   rw[<- NS hi,List.zip_map_right];rfl
  rwa [e]at this
 .rw[iI];exact pw.imp λh=>by simpa using h
 .intro v hv;obtain⟨z,hz,rfl⟩:=mem_map.mp hv;have:=pm.mem_iff.mp hz;exact NT hi _ (of_mem_zip this).2
section
variable{X:Cx}{pins:List 78}{σ:St}{H:Hp}{s:Shared}{a:Addr}
def Inv.adopt{o:HO}(I:Inv X pins σ H s)(f:FpOk X pins H a)(h0:X.s₀.heap.objs.size<=a)(new:ObjOk X.prog X.w (upd H a o) s.heap a o):Inv X pins σ (upd H a o) s:=by
 obtain⟨hn,hL,hfs,_,hc,hp⟩:=f;have nb:∀b u,H b=some u->b≠a:=λb u e=>AU e hn;have n0:∀b o,X.s₀.heap.get? b=some o->b≠a:=λb o e=>gV (ie (90 e) h0);refine⟨I.ok,I.os,I.bare,⟨I.base.keep,I.base.slot,λb o e n hx=>?_,I.base.there,λb xs e=>?_,λb o u e=>?_,λb ps e=>?_⟩,I.loc,I.cell,?_,λx c e=>?_,λp hp'=>?_,λb u e=>?_,I.len⟩
 .rw[AD (n0 b o e)];exact I.base.free b o e n hx
 .have:=I.base.tups b xs e;rw[AD (nb b _ this)];exact this
 .have:=I.base.frzs b o u e;rw[AD (nb b _ this)];exact this
 .obtain⟨m,e1⟩:=I.base.tbls b ps e;exact⟨m,by rw[AD (nb b _ e1)];exact e1⟩
 .rw[AD (λz=>hL z.symm)];exact I.free
 .rw[AD (hc x c e)];exact I.freeC x c e
 .obtain⟨q1,q2,q3⟩:=I.pin p hp';exact⟨q1,by rw[AD (hp p hp')];exact q2,q3⟩
 .by_cases z:b=a
  .subst z;rw[AN]at e;cases e;exact new
  .rw[AD z]at e;exact(I.hok b u e).stay (λ_ _ _ q=>q) (λd q=>by rw[AD (nb d _ q)];exact q) λd xs q=>by rw[AD (nb d _ q)];exact q
def Y0(I:Inv X pins σ H s){ks:List V}{kz:List Int}{us:List Value}(k:IS X.K H ks kz)(r:Vals ks us):KeysOk s.heap us kz:=by
 rcases k with rfl|⟨ps,rfl,hok,hl,hp⟩
 .exact .kI (Fg rfl r)
 .refine .kP (by rw[<- r.length];exact hl) (λi v p e1 e2=>?_) hok;have hi:i<ks.length:=by rw[hl];exact(84 e2).1
  have ek:ks[i]?=some ks[i]:=by simp[hi]
  obtain⟨x,ex,sq⟩:=hp i _ p ek e2;obtain⟨v',ev,rel⟩:=MF r ek;rw[e1]at ev;cases ev;rw[ex]at rel;have rel:v=Value.ref x:=rel;subst rel;obtain⟨jts,rj,⟨o,ho,hc,n,hd⟩,_⟩:=I.tuple sq;cases rj with
  |cons r1 t1=>
   cases t1 with
   |cons r2 t2=>
    cases t2;obtain⟨t,rfl⟩:=r1;obtain⟨t',rfl⟩:=r2;exact⟨x,o,t,t',n,rfl,ho,hc,hd⟩
end
section
variable{X:Cx}{pins:List 78}{σ:St}{H:Hp}{s:Shared}
def Inv.turn1{b:Addr}{o:Obj}{h':Heap}{t':Nat}(I:Inv X ((b,o)::pins) σ H s)(f:FpOk X pins H b)(hs:Heap.SameBut b s.heap h'):Inv X pins σ H { s with heap:=h',toks:=t' }:=by
 have J:Inv X pins σ H s:=I.pins_of λp hp=>I.pin p (gv _ (gp _ hp));obtain⟨hn,hL,_,h1,h2,h3⟩:=f;exact J.turned (λc u n e=>(hs.2 c n).trans e) hn hL h1 h2 h3
def FpOk.more{b c:Addr}{o:Obj}(f:FpOk X pins H b)(h:c≠b):FpOk X ((c,o)::pins) H b:=by
 obtain⟨a1,a2,a3,a4,a5,a6⟩:=f;refine⟨a1,a2,a3,a4,a5,λp hp=>?_⟩;rcases mem_append.mp hp with q|q
 .exact a6 p (iE _ q)
 .rcases mem_cons.mp q with rfl|q
  .exact h
  .exact a6 p (gv _ q)
def Inv.repin{b:Addr}{o:Obj}(I:Inv X pins σ H s)(f:FpOk X pins H b)(e:s.heap.get? b=some o)(hd:∀v,o.data≠.cell v):Inv X ((b,o)::pins) σ H s:=
 I.pins_of λp hp=>by
  rcases mem_cons.mp hp with rfl|hp
  .exact⟨e,f.1,f.2.1,f.2.2.1,hd⟩
  .exact I.pin p (gv _ hp)
def Pe{l:Value}{f:Addr}{ns:List Int}{G:Hp->Prop}{tb:TE}{cap:St}{Q:VK}{E:Value->Shared->Prop}(I:Inv X pins σ H s)(h64:ns.length<64)
 (hcol:∀(Q:List Value->Shared->Prop) (E:Value->Shared->Prop),(∀(g:Heap) (tk:Nat) (vs:List Value),(∀b o,s.heap.get? b=some o->g.get? b=some o)->IntsAre vs ns->Q vs { s with heap:=g,toks:=tk })->wpAny 69 X.A.in1 (collect l) Q E s)
 (turn:∀(pins':List 78) (H1:Hp) (s1:Shared) (n:Int) (u:Value) (Q1:VK),(∀p∈pins,p∈pins')->Inv X pins' σ H1 s1->RelV (.int n) u->G H1->tb (some (.int n)::cap) H1 Q1->wpAny 69 X.A.in1.in1 (call (.ref f) [u]) (EP X pins' σ Q1) (λ_ _=>False) s1)
 (h:IL G tb cap ns H λks H3=>∃kz,IS X.K H3 ks kz/\∀p ms,H3 p=none->JG kz ns ms->Q (.ref p) (upd H3 p (.lst (ms.map V.int)))):
 wpAny 69 X.A (call (.builtin "sorted") [l] [(Str.ofString "key",.ref f)]) (EP X pins σ Q) E s:=by
 refine call_function_entry_kw kind_sorted plain_sorted entry_sorted (ksk_s1 _ _) ?_;unfold Builtin.«sorted»;refine gh (m:=checkCount "sorted" 1 1 _) (gn ?_);refine gh (hcol _ _ λg tk vs keep0 hi=>?_)
 replace I:Inv X pins σ H { s with heap:=g,toks:=tk }:=I.kept (t':=tk) keep0
 clear hcol;generalize { s with heap:=g,toks:=tk }=s at I ⊢;clear keep0 g tk;have line:vs.length<=sizeLine:=by have:=hi.length;rw[iA];omega
 have h64:vs.length<64:=by have:=hi.length;omega
 refine gh (jv ?_ line);show wpAny _ _ _ _ _ { s with heap:=s.heap.push (seqObj "list" vs.toArray 0) };have hoL:(s.heap.push (seqObj "list" 118 0)).get? 66=some (seqObj "list" 118 0):=87 _ rfl;have keep1:∀b o,s.heap.get? b=some o->(s.heap.push (seqObj "list" 118 0)).get? b=some o:=λb o q=>74 _ q;have sz1:(s.heap.push (seqObj "list" 118 0)).objs.size=66+1:=by rw[size_push']
 generalize s.heap.push (seqObj "list" 118 0)=h1 at hoL keep1 sz1 ⊢;have fa:∀H',H' 66=none->FpOk X pins H' s.heap.objs.size:=λH' hn=>I.fpOk (gm _) hn;have fk:∀H',H' (66+2)=none->FpOk X pins H' (66+2):=λH' hn=>I.fpOk 67 hn;refine gh (il (wpAny_call_entry_kw slot_list_sort ⟨_,hoL,rfl⟩ entry_list_sort ?_ (ksk_l1 _ _)));show wpAny 69 X.A.in1.in1 (Builtin.«list.sort» ⟨[.ref (66)],[(Str.ofString "key",.ref f)]⟩) _ _ _;rw[ksk_t1];have u1:=Heap.SameBut.update h1 (66) (Obj.mapSeq λ_=>(#[]:Array Value));obtain⟨e1,ho1⟩:∃e1,(h1.update (s.heap.objs.size) (Obj.mapSeq λ_=>(#[]:Array Value))).get? (s.heap.objs.size)=some (seqObj "list" #[] e1):=⟨_,je hoL λ_=>#[]⟩
 have sz2:(h1.update (66) (Obj.mapSeq λ_=>(#[]:Array Value))).objs.size=66+1:=by rw[Heap.size_update,sz1]
 have keep2:∀b o,s.heap.get? b=some o->(h1.update (66) (Obj.mapSeq λ_=>(#[]:Array Value))).get? b=some o:=λb o q=>(u1.2 b (gV (90 q))).trans (keep1 b o q);unfold ksk_tree;refine gh (listItems_at hoL rfl ?_);refine gh (listUpdate_at hoL rfl ?_ (by rw[gz,iA];omega) (iB _));refine gh (seqEpoch_at ho1 rfl ?_);generalize h1.update (66) (Obj.mapSeq λ_=>(#[]:Array Value))=h2 at ho1 sz2 keep2 ⊢;refine gh (wpAny_newTuple ?_ (by show vs.length<=_;exact line));refine gh (jv ?_ (iB _));have sz3:(h2.push (seqObj "tuple" 118 0)).objs.size=66+2:=by rw[size_push',sz2]
 have okS:((h2.push (seqObj "tuple" 118 0)).push 119).get? (66+2)=some 119:=by rw[<- sz3];exact 87 _ rfl
 have oa4:((h2.push (seqObj "tuple" 118 0)).push 119).get? (66)=some (seqObj "list" #[] e1):=74 _ (74 _ ho1);have keep4:∀b o,s.heap.get? b=some o->((h2.push (seqObj "tuple" 118 0)).push 119).get? b=some o:=λb o q=>74 _ (74 _ (keep2 b o q));have ekS:∀o:Obj,Value.ref ((({ s with heap:=h2.push o }:Shared)).heap.objs.size)=Value.ref (h2.push o).objs.size:=λ_=>rfl;refine il ?_;have goal:∀kS:Addr,kS=66+2->wpAny 69 X.A.in1.in1 (ksk_rest (66) (.ref f) false 118 e1 (.ref kS)) (λfin s'=>∃v,fin=PySem.Fin.done (.ret v)/\wpAny 69 X.A.in1 (ret (.ref (66))) (λfin s'=>∃v,fin=PySem.Fin.done (.ret v)/\EP X pins σ Q v s') E s') E { s with heap:=(h2.push (seqObj "tuple" vs.toArray 0)).push (seqObj "list" #[] 0) }:=by
  intro kS ek;rw[ek];have fresh0:H (66)=none/\H (66+2)=none:=⟨I.hok.fresh 67,I.hok.fresh 67⟩
  have I4:Inv X pins σ H { s with heap:=(h2.push (seqObj "tuple" vs.toArray 0)).push (seqObj "list" #[] 0) }:=I.kept (t':=s.toks) keep4;have nak:66≠66+2:=by omega
  have I5:=(I4.repin (fk H fresh0.2) okS (λv z=>by cases z)).repin ((fa H fresh0.1).more nak.symm) oa4 (λv z=>by cases z);unfold ksk_rest;refine gh (jo ?_)
  first
   |rw[List.forIn_toArray]
   |(rw[<- Array.forIn_toList];simp only[List.toList_toArray])
   |rw[<- Array.forIn_toList]
  refine gh (ksk_fold (λi s'=>∃(H':Hp) (kA:Array Value) (e:Nat) (ks:List V),Inv X ((66,seqObj "list" #[] e1)::(66+2,seqObj "list" kA e)::pins) σ H' s'/\Vals ks kA.toList/\kA.size=i /\
   IL G tb cap (ns.drop i) H' λks' H3=>∃kz,IS X.K H3 (ks++ks') kz/\∀p ms,H3 p=none->JG kz ns ms->Q (.ref p) (upd H3 p (.lst (ms.map V.int)))) vs 0 _ ⟨H,#[],0,[],I5,.nil,rfl,h⟩ ?step ?done)
  case step=>
   rintro j x s' hx ⟨H',kA,e,ks,J,rk,hsz,hgo⟩;simp only[Nat.zero_add]at hsz hgo ⊢;have hj:j<vs.length:=(84 hx).1;have hjn:j<ns.length:=by have:=hi.length;omega
   have enx:ns[j]?=some ns[j]:=by simp[hjn]
   have edr:ns.drop j=ns[j]::ns.drop (j+1):=iN hjn;rw[edr]at hgo;obtain⟨hG,hgo⟩:=hgo;have rx:RelV (.int ns[j]) x:=by
    obtain⟨t,et⟩:=Gh hi hj;have:vs.getD j .none=x:=by simp[List.getD,hx]
    rw[this]at et;have:ns.getD j 0=ns[j]:=by simp[hjn]
    rw[this]at et;exact⟨t,et⟩
   refine gh (wpAny_attempt (hZ (turn _ H' s' ns[j] x _ (λp hp=>gp _ (gp _ hp)) J rx hG hgo) (λv s'' he=>?_) λ_ _ hF=>hF.elim));obtain⟨k,H2,J2,r2,hgo2⟩:=he;dsimp only;have pk:=J2.pin (66+2,seqObj "list" kA e) (gv _ (gp _ gy));have pa:=J2.pin (66,seqObj "list" #[] e1) (gv _ gy);have u2:=Heap.SameBut.update s''.heap (66+2) (Obj.mapSeq (·.push v));obtain⟨c2,hc2⟩:∃c2,(s''.heap.update (s.heap.objs.size+2) (Obj.mapSeq (·.push v))).get? (s.heap.objs.size+2)=some (seqObj "list" (kA.push v) c2):=⟨_,je pk.1 (·.push v)⟩
   refine gh (listUpdate_at pk.1 rfl ?_ (by rw[iA];omega) (ia (le_of_eq (Array.size_push ..)) (by rw[iA];omega)));have J3:Inv X ((66+2,seqObj "list" kA e)::pins) σ H2 s'':=J2.pins_of λp hp=>J2.pin p (gv _ (gp _ hp));have J4:Inv X pins σ H2 { s'' with heap:=s''.heap.update (s.heap.objs.size+2) (Obj.mapSeq (·.push v)) }:=J3.turn1 (t':=s''.toks) (fk H2 pk.2.1) u2;have oa:(s''.heap.update (66+2) (Obj.mapSeq (·.push v))).get? (66)=some (seqObj "list" #[] e1):=(u2.2 _ nak).trans pa.1;have J5:=(J4.repin (fk H2 pk.2.1) hc2 (λv z=>by cases z)).repin ((fa H2 pa.2.1).more nak.symm) oa (λv z=>by cases z);refine gn ⟨rfl,H2,kA.push v,c2,ks++[k],J5,?_,by simp[hsz],?_⟩
   .rw[Array.toList_push];exact rk.append (.cons r2 .nil)
   .simpa [j9]using hgo2
  case done=>
   rintro s' ⟨H',kA,e,ks,J,rk,hsz,hgo⟩;have hdr:ns.drop (0+vs.length)=[]:=List.drop_of_length_le (by have:=hi.length;omega);rw[hdr]at hgo;obtain⟨kz,kv,fin⟩:∃kz,IS X.K H' (ks++[]) kz/\∀p ms,H' p=none->JG kz ns ms->Q (.ref p) (upd H' p (.lst (ms.map V.int))):=hgo;rw[iF]at kv;have pk:=J.pin (66+2,seqObj "list" kA e) (gv _ (gp _ gy));have pa:=J.pin (66,seqObj "list" #[] e1) (gv _ gy);refine gh (listItems_at pk.1 rfl ?_);have ekA:kA=kA.toList.toArray:=by simp
   rw[ekA]at pk ⊢;have lk:kA.toList.length=vs.length:=by rw[Array.length_toList];omega
   refine Y4 pk.1 pa.1 nak.symm (Y0 J kv rk) lk h64 λout so=>⟨_,rfl,gn ⟨_,rfl,?_⟩⟩
   obtain⟨on,oi⟩:=cM hi so;have u5:=Heap.SameBut.update s'.heap (66+2) (Obj.mapSeq λ_=>(#[]:Array Value));have oa:(s'.heap.update (66+2) (Obj.mapSeq λ_=>(#[]:Array Value))).get? (66)=some (seqObj "list" #[] e1):=(u5.2 _ nak).trans pa.1;have u6:=Heap.SameBut.update (s'.heap.update (66+2) (Obj.mapSeq λ_=>(#[]:Array Value))) (66) (Obj.mapSeq λ_=>out.toArray);obtain⟨c6,hc6⟩:∃c6,((s'.heap.update (s.heap.objs.size+2) (Obj.mapSeq λ_=>(#[]:Array Value))).update (s.heap.objs.size) (Obj.mapSeq λ_=>out.toArray)).get? (s.heap.objs.size)=some (seqObj "list" out.toArray c6):=⟨_,je oa λ_=>out.toArray⟩
   have J3:Inv X ((66+2,seqObj "list" kA e)::pins) σ H' s':=J.pins_of λp hp=>J.pin p (gv _ (gp _ hp));have J4:Inv X pins σ H' { s' with heap:=s'.heap.update (s.heap.objs.size+2) (Obj.mapSeq λ_=>(#[]:Array Value)) }:=J3.turn1 (t':=s'.toks) (fk H' pk.2.1) u5;have J5:Inv X pins σ H' { s' with heap:=(s'.heap.update (s.heap.objs.size+2) (Obj.mapSeq λ_=>(#[]:Array Value))).update (s.heap.objs.size) (Obj.mapSeq λ_=>out.toArray) }:=(J4.repin (fa H' pa.2.1) oa (λv z=>by cases z)).turn1 (t':=s'.toks) (fa H' pa.2.1) u6;have lo:out.length<64:=by
    obtain⟨zs,pm,rfl,_⟩:=so;have:=pm.length_eq;simp at this ⊢;omega
   have J6:=J5.adopt (o:=.lst ((out.map EF).map V.int)) (fa H' pa.2.1) (I.sz) ⟨by simp[iA];omega,out,c6,JL oi,hc6⟩;exact⟨.ref _,_,J6,rfl,fin _ _ pa.2.1 on⟩
 exact goal _ sz3
end
def Src(K:Frag)(H:Hp)(a:Addr)(ns:List Int):Prop:=SqT K H a (ns.map V.int)∨∃n:Nat,n<64/\H a=some (.rng 0 n)/\ns=(71 n).map λk:Nat=>(k:Int)
def JN(K:Frag)(P:Addr)(q:Str)(pos:Pos)(ix:List Nat)(te tb:TE):TE:=λσ H Q=>te σ H λv H1=>∃(a:Addr) (ns:List Int) (ps:Array Value),v=.ref a/\Src K H1 a ns/\ns.length<64/\H1 P=some (.tbl ps)/\D4 H1 q pos ps /\
 ∀H2 c,TabStep P q pos H1 H2->H2 c=some (.ext (cdF c q))->IL (λH=>H c=some (.ext (cdF c q))) tb (ix.map λi=>(σ[i]?).join) ns H2 λks H3=>∃kz,IS K H3 ks kz/\∀p ms,H3 p=none->JG kz ns ms->Q (.ref p) (upd H3 p (.lst (ms.map V.int)))
def TabStep.rd{P:Addr}{q:Str}{pos:Pos}{H H':Hp}{ps:Array Value}(t:TabStep P q pos H H')(hP:H P=some (.tbl ps)){a:Addr}{xs:List V}(r:Rd H a (.tup xs)):Rd H' a (.tup xs):=by
 rcases t with rfl|⟨c,hc,_,rfl⟩
 .exact r
 .have ne:∀u,H a=some u->(∀ps,u≠.tbl ps)->upd (upd H P (.tbl #[rawInt pos.line,rawInt pos.col,.ref c])) c (.ext (cdF c q)) a=some u:=λu e n=>by
   rw[AD (AU e hc),AD (λz=>by subst z;rw[hP]at e;cases e;exact n _ rfl)];exact e
  rcases r with r|⟨o,r⟩
  .exact .inl (ne _ r λps z=>by cases z)
  .exact .inr ⟨o,ne _ r λps z=>by cases z⟩
def TabStep.sqt{K:Frag}{P:Addr}{q:Str}{pos:Pos}{H H':Hp}{ps:Array Value}(t:TabStep P q pos H H')(hP:H P=some (.tbl ps)){a:Addr}{xs:List V}(r:SqT K H a xs):SqT K H' a xs:=by
 rcases r with r|r
 .exact .inl (t.rd hP r)
 .exact .inr r
def TabStep.src{K:Frag}{P:Addr}{q:Str}{pos:Pos}{H H':Hp}{ps:Array Value}(t:TabStep P q pos H H')(hP:H P=some (.tbl ps)){a:Addr}{ns:List Int}(r:Src K H a ns):Src K H' a ns:=by
 rcases r with r|⟨n,h,e,z⟩
 .exact .inl (t.sqt hP r)
 .refine .inr ⟨n,h,?_,z⟩;rcases t with rfl|⟨c,hc,_,rfl⟩
  .exact e
  .rw[AD (AU e hc),AD (λz=>by subst z;rw[hP]at e;cases e)];exact e
def QQ{n:Nat}{acc:Array Value}(it:ItemsOf (λi v=>∃t,v=.int (0+i*1) t) acc n):IntsAre acc.toList ((71 n).map λk:Nat=>(k:Int)):=by
 have:=Jn (lo:=0) it;have e:Bs 0 n=((71 n).map λk:Nat=>(k:Int)).map V.int:=by
  have:∀(lo:Nat) (n:Nat),Bs (lo:Int) n=((List.range' lo n).map λk:Nat=>(k:Int)).map V.int:=by
   intro lo n
   induction n generalizing lo with
   |zero=>rfl
   |succ n ih=>rw[Bs,List.range'_succ];simp only[gq];rw[<- ih (lo+1)];rfl
  rw[List.range_eq_range'];exact this 0 n
 rw[e]at this;exact Fg rfl this
section
variable{X:Cx}{c P:Addr}{scope:Scope}{fr:List Str}{ix:List Nat}{prm:Str}{params:Arguments}{body e:Expr}{p pos lpos kpos:Pos}{te tb:TE}
def UU(LA:LamAt X c P)(S:CSc X scope fr ix)(L:LSc scope prm)(hr:Room 3 X.A)(hcm:X.calm=true)(hg:Gl X "sorted")(hm:X.mg "sorted"=none)
 (hbind:∀(cl:List (Str×Addr)) (pm cd ctv us:Value),bindArgs 112 ⟨[us],[]⟩=pure [(prm,us)])
 (he:PE X e te) (hb:∀(f:Addr) (cd:Value) (s:Shared) (H:Hp),PE (lCx X X.A.in1.in1 (prm::fr) 73 scope f cd 86 s H) body tb)
 (hdef:defaultsOf params X.env=([],[]):=by rfl) (hs:starEach [e] X.env=[88]:=by rfl):
 PE X (.Call (.Name "sorted" p) [e] [⟨some "key",.Lambda params body scope lpos,kpos⟩] pos) (JN X.K P 73 lpos ix te tb):=by
 intro pins s σ H Q I h;have PAe:PA X [e] (BB te Bp):=BV he CK hs;refine j6 (Cn (u:=.builtin "sorted") I hg hm I0 ?_);have pl:(backTo pos (starEach [e] X.env)).any (·.1)=false:=by rw[hs];rfl
 refine callWith_builtin_kwB pl rfl (evalArgs_kw2 (env:=X.env) (e:=e) (rest:=[]) (kws:=[⟨some "key",.Lambda params body scope lpos,kpos⟩]) rfl (thn (PAe pos pins s σ H (λvs H1=>match vs with
  |[v]=>∃(a:Addr) (ns:List Int) (ps:Array Value),v=.ref a/\Src X.K H1 a ns/\ns.length<64/\H1 P=some (.tbl ps)/\D4 H1 73 lpos ps /\
   ∀H2 c,TabStep P 73 lpos H1 H2->H2 c=some (.ext (cdF c 73))->IL (λH=>H c=some (.ext (cdF c 73))) tb (ix.map λi=>(σ[i]?).join) ns H2 λks H3=>∃kz,IS X.K H3 ks kz/\∀p ms,H3 p=none->JG kz ns ms->Q (.ref p) (upd H3 p (.lst (ms.map V.int)))
  | _=>False) I h) λus s1 hq=>?_) hs)
 obtain⟨vs,H1,I1,r,q⟩:=hq
 match vs,q with
 |[v],q=>
 obtain⟨a,ns,ps,rfl,sq,h64,hP,hg1,go⟩:=q;obtain⟨u,rfl,ru⟩:=C4 r;cases ru;show wpAny _ _ (evalAll [(do let v <- eval (.Lambda params body scope lpos) X.env;standAt pos;pure v)]) _ _ s1;refine jC (gh (Gb S LA I1 hdef hP hg1 λf cd ctv H2 s2 I2 M=>gh (j5 (gn (jD ?_)))));show wpAny _ _ (call (.builtin "sorted") [.ref a] [(Str.ofString "key",.ref f)]) _ _ s2;have sq2:=M.step.src hP sq;obtain⟨c',rfl,hc'⟩:=M.cdc;have ff:FpOk X pins H2 f:=I1.fpOk M.new M.fre;have I3:=I2.repin ff M.fn (λv z=>by cases z);refine hZ (Pe (pins:=(f,_)::pins) I3 h64 (λQ E hq=>?_) (λpins' H' s' n u Q1 sub J ru hG hq=>?_) (go H2 c' M.step hc')) (λv s' hv=>?_) λ_ _ z=>z
 .rcases sq2 with sq2|⟨n,hn,er,rfl⟩
  .obtain⟨its,rv,tp,_⟩:=I2.tuple sq2;have hi:IntsAre its ns:=Fg rfl rv;have hlen:its.length<=sizeLine:=by have:=hi.length;rw[iA];omega
   refine Ih tp (hq _ s2.toks its (λb o q=>?_) hi) hlen;have hlt:b<s2.heap.objs.size:=90 q;rw[Heap.get?_update_ne _ _ _ _ (gV hlt),Heap.get?_push_ne _ _ _ (gV hlt)];exact q
  .obtain⟨t,u,v,hr'⟩:∃t u v,s2.heap.get? a=some { cls:=.type "range",data:=.fields #[.int 0 t,.int n u,.int 1 v] }:=I2.hok a _ er;refine Nx (n:=n) (I2.ok.hd hcm) hr' (small_one 67 67 67 67) (by rw[VE];omega) 67 λg tk acc kp it=>hq g tk _ kp (QQ it)
 .have pf:=J.pin (f,_) (gv _ (sub _ gy));exact Iz (A:=X.A.in1.in1) (f:=f) S L J rfl hr.in1.in1 pf.1 (J.hok c' _ hG).1 (λus=>hbind _ _ _ _ us) (λs H=>hb f _ s H) ru hq
 .obtain⟨y,H',J,ry,qy⟩:=hv;exact⟨y,H',J.pins_of λp hp=>J.pin p (gv _ (gp _ hp)),ry,qy⟩
end
def Fk(K:Frag)(P:Addr)(q:Str)(pos:Pos):Prop:=∃p':Pos,(P,q,p')∈Ck K/\((Ck K).map (·.1)).Nodup/\p'.line=pos.line/\p'.col=pos.col
open Classical in
def Eb(ds:List D):Option (List Int):=match Al ds with
 |some ns=>some ns
 |none=>match Dm ds with
  |some ps=>if ∀p∈ps,pok p then some (ps.map Ag)else none
  |none=>none
open Classical in
def Ev(mb:ME)(cap:Ls)(hd:Hd):List Int->Option (List D)
 |[]=>some []
 |n::r=>match mb (some (.im (.int n))::cap) hd with
  |some (k,h)=>match Ev mb cap hd r with
   |some ks=>if h=hd then some (k::ks)else none
   |none=>none
  |none=>none
theorem L3{mb:ME}{cap:Ls}{hd:Hd}:∀{ns:List Int} {ks:List D},Ev mb cap hd ns=some ks->ks.length=ns.length
 |[],ks,e=>by cases e;rfl
 |n::r,ks,e=>by
  unfold Ev at e;split at e
  .split at e
   .next ks' e2=>
    split at e
    .cases e;simp[L3 e2]
    .cases e
   .cases e
  .cases e
def QM{ds:List D}{kz:List Int}(e:Eb ds=some kz):kz.length=ds.length:=by
 unfold Eb at e;split at e
 .next ns e6=>cases e;rw[CG e6];simp
 .split at e
  .next ps e6=>
   split at e
   .cases e;rw[Kt e6];simp
   .cases e
  .cases e
def FV(kz ns:List Int):List Int:=((kz.zip ns).mergeSort λa b=>decide (a.1<=b.1)).map (·.2)
def UX{kz ns ms:List Int}(nd:kz.Nodup)(hl:kz.length=ns.length)(o:JG kz ns ms):ms=FV kz ns:=by
 obtain⟨zs,pm,pw,rfl⟩:=o;have pm2:((kz.zip ns).mergeSort λa b=>decide (a.1<=b.1)).Perm (kz.zip ns):=jg ..;have pw2:((kz.zip ns).mergeSort λa b=>decide (a.1<=b.1)).Pairwise λa b=>a.1<=b.1:=by
  have:=jq (le:=λa b:Int×Int=>decide (a.1<=b.1)) (by intro a b c h1 h2;simp at *;omega) (by intro a b;simp;omega) (kz.zip ns);exact this.imp 75
 have inj:∀a∈kz.zip ns,∀b∈kz.zip ns,a.1=b.1->a=b:=by
  intro a ha b hb e;obtain⟨i,hi⟩:=mem_iff_getElem?.mp ha;obtain⟨j,hj⟩:=mem_iff_getElem?.mp hb;obtain⟨i1,i2⟩:=List.getElem?_zip_eq_some.mp hi;obtain⟨j1,j2⟩:=List.getElem?_zip_eq_some.mp hj;rw[e]at i1;have:i=j:=(List.getElem?_inj (84 i1).1 nd).mp (i1.trans j1.symm);subst this;rw[i2]at j2;exact Prod.ext e (114 j2)
 have:zs=(kz.zip ns).mergeSort λa b=>decide (a.1<=b.1):=
  (pm.trans pm2.symm).eq_of_pairwise (le:=λa b=>a.1<=b.1) (λa b ha hb h1 h2=>inj a (pm.mem_iff.mp ha) b (pm2.mem_iff.mp hb) (le_antisymm h1 h2)) pw pw2
 rw[this];rfl
def M9(m:MA):Ls->Hd->Option (List Int×Hd):=λls hd=>(m ls hd).bind λp=>match p.1 with
 |[.im (.int j)]=>if 0<=j/\j<64 then some ((71 j.toNat).map λk:Nat=>(k:Int),p.2)else none
 |_=>none
open Classical in
def EY(src:Ls->Hd->Option (List Int×Hd))(ix:List Nat)(mb:ME):MA:=λls hd=>(src ls hd).bind λp=>(Ev mb (ix.map λi=>(ls[i]?).join) p.2 p.1).bind λks=>(Eb ks).bind λkz=>
 if p.1.length<64/\kz.Nodup then some ((FV kz p.1).map λi=>.im 106,p.2)else none
abbrev Oo(m:MA)(ix:List Nat)(mb:ME):MA:=EY (M9 m) ix mb
def V6(K:Frag)(te:TE)(src:Ls->Hd->Option (List Int×Hd)):Prop:=∀(ρ:List Addr) (σ:St) (H:Hp) (hd:Hd) (ls:Ls) (Q:VK) (ns:List Int) (hd':Hd),RH K ρ H hd->RL K ρ H ls σ->src ls hd=some (ns,hd') ->
 (∀ρ1 H1 a,Ext ρ H ρ1 H1->RH K ρ1 H1 hd'->Src K H1 a ns->Q (.ref a) H1)->te σ H Q
section
variable{K:Frag}{ρ:List Addr}{H:Hp}{hd:Hd}
def GP{P:Addr}{q:Str}{pos:Pos}{H2:Hp}{ps:Array Value}(R:RH K ρ H hd)(hP:H P=some (.tbl ps))(t:TabStep P q pos H H2)(TI:Fk K P q pos):RH K ρ H2 hd/\Ext ρ H ρ H2:=by
 rcases t with rfl|⟨c,hc,ncP,rfl⟩
 .exact⟨R,.refl⟩
 .obtain⟨p',et,nd,e1,e2⟩:=TI;have nP:∀b,b∈ρ->b≠P:=λb hb z=>by
   subst z;rcases R.mut hb with⟨y,w⟩|⟨y,w⟩<;>(rw[hP]at w;cases w)
  have nc:∀b u,H b=some u->b≠c:=λb u e=>AU e hc;have ex:Ext ρ H ρ (upd (upd H P (.tbl #[rawInt pos.line,rawInt pos.col,.ref c])) c (.ext (cdF c q))):=by
   refine⟨⟨[],by simp,by simp⟩,λb o e nb nt'=>?_,λb ps e=>?_⟩
   .rw[AD (nc b _ e),AD (λz=>by subst z;rw[hP]at e;cases e;exact nt' _ rfl)];exact e
   .by_cases z:b=P
    .subst z;exact⟨_,by rw[AD (nc _ _ hP),AN]⟩
    .exact⟨ps,by rw[AD (nc b _ e),AD z];exact e⟩
  refine⟨⟨R.len,R.nd,λx hx=>?_,λn o a h1 h2=>?_⟩,ex⟩
  .by_cases hxP:x.1=P
   .have ex:x=(P,q,p'):=by
     obtain⟨i,hi⟩:=mem_iff_getElem?.mp hx;obtain⟨j,hj⟩:=mem_iff_getElem?.mp et;have i1:((Ck K).map (·.1))[i]?=some P:=by rw[List.getElem?_map,hi];simp[hxP]
     have j1:((Ck K).map (·.1))[j]?=some P:=by rw[List.getElem?_map,hj];rfl
     have:i=j:=(List.getElem?_inj (84 i1).1 nd).mp (i1.trans j1.symm);subst this;exact 114 (hi.symm.trans hj)
    subst ex;refine⟨#[rawInt pos.line,rawInt pos.col,.ref c],by rw[AD (nc _ _ hP),AN],.inr ⟨c,?_,AN⟩⟩;show #[rawInt pos.line,rawInt pos.col,Value.ref c]=#[rawInt p'.line,rawInt p'.col,Value.ref c];rw[e1,e2]
   .obtain⟨ps',hx1,hG⟩:=R.tabs x hx;refine⟨ps',by rw[AD (nc _ _ hx1),AD hxP];exact hx1,?_⟩;rcases hG with g|⟨c',g1,g2⟩
    .exact .inl g
    .exact .inr ⟨c',g1,by rw[AD (nc _ _ g2),AD (λz=>by subst z;rw[hP]at g2;cases g2)];exact g2⟩
  .obtain⟨ho,q1,q2⟩:=R.ob n o a h1 h2;exact⟨ho,by rw[AD (nc a _ q1),AD (nP a (ig h2))];exact q1,by simpa using q2.mono (ex.grow R) []⟩
theorem Ou{tb:TE}{mb:ME}{ix:List Nat}{q:Str}{c:Addr}(hb:RE K tb mb){ls:Ls}{σ:St}:∀{ns:List Int} {kds:List D} {ρ:List Addr} {H:Hp} {Q:List V->Hp->Prop},RH K ρ H hd->RL K ρ H ls σ->H c=some (.ext (cdF c q)) ->
 Ev mb (ix.map λi=>(ls[i]?).join) hd ns=some kds->(∀ρ' H' ks,Ext ρ H ρ' H'->RH K ρ' H' hd->RDs K ρ' H' kds ks->Q ks H')->IL (λH=>H c=some (.ext (cdF c q))) tb (ix.map λi=>(σ[i]?).join) ns H Q
 |[],kds,ρ,H,Q,R,L,hc,e,k=>by
  cases e;exact k ρ H [] .refl R (by simp[RDs])
 |n::r,kds,ρ,H,Q,R,L,hc,e,k=>by
  unfold Ev at e;split at e
  .next kd h e1=>
   split at e
   .next ks e2=>
    split at e
    .next eh=>
     cases e;rw[eh]at e1;refine⟨hc,hb ρ _ H _ (some (.im (.int n))::ix.map λi=>(ls[i]?).join) _ kd _ R ⟨by simp,λi d ei=>?_⟩ e1 λρ1 H1 v1 x1 R1 r1=>?_⟩
     .cases i with
      |zero=>cases ei;exact⟨.int n,rfl,by simp[RD,RI]⟩
      |succ j=>
       have ei:(ix.map λi=>(ls[i]?).join)[j]?=some (some d):=ei;rw[List.getElem?_map]at ei;cases qj:ix[j]? with
       |none=>rw[qj]at ei;cases ei
       |some m=>
        rw[qj]at ei;have ei:(ls[m]?).join=some d:=114 ei;have em:ls[m]?=some (some d):=by
         cases w:ls[m]? with
         |none=>rw[w]at ei;cases ei
         |some z=>rw[w]at ei;simpa using ei
        obtain⟨v,ev,rv⟩:=L.ob m d em;refine⟨v,?_,rv⟩;show(ix.map λi=>(σ[i]?).join)[j]?=some (some v);rw[List.getElem?_map,qj];simp[ev]
     .have oc:c∉ρ:=λm=>by rcases R.mut m with⟨y,w⟩|⟨y,w⟩<;>(rw[hc]at w;cases w)
      refine Ou hb R1 (L.ext R x1) (x1.keep c _ hc oc nt) e2 λρ2 H2 ks2 x2 R2 r2=>?_;exact k ρ2 H2 (v1::ks2) 83 R2 (.cons (r1.ext R1 x2) r2)
    .cases e
   .cases e
  .cases e
def Vv{t:TA}{m:MA}(h:RA K t m):V6 K (tCB Ja t) (M9 m):=by
 intro ρ σ H hd ls Q ns hd' hR hL hm k;obtain⟨⟨d1,h1⟩,e1,hm⟩:=c5 hm;dsimp only at hm;refine h ρ σ H hd ls _ d1 h1 hR hL e1 λρ1 H1 v x1 R1 r1=>?_;split at hm
 .next j=>
  split at hm
  .next c=>
   cases hm;simp only[RDs,RD,RI]at r1;obtain⟨x,r,rfl,rfl,rfl⟩:=r1;refine .inl ⟨j,rfl,λp hp=>?_⟩;obtain⟨R2,x2⟩:=R1.hid (ho:=.rng 0 j) hp;refine k ρ1 _ p 83 R2 (.inr ⟨j.toNat,by omega,?_,rfl⟩);rw[AN,Int.toNat_of_nonneg c.1]
  .cases hm
 .cases hm
def Ti{te tb:TE}{src:Ls->Hd->Option (List Int×Hd)}{mb:ME}{P:Addr}{q:Str}{pos:Pos}{ix:List Nat}(hi:V6 K te src)(hb:RE K tb mb)(TI:Fk K P q pos):RN K (JN K P q pos ix te tb) (EY src ix mb):=by
 and_intros;obtain⟨⟨ns,h1⟩,e1,hm⟩:=c5 hm;obtain⟨kds,e4,hm⟩:=c5 hm;obtain⟨kz,e5,hm⟩:=c5 hm;dsimp only at hm e4;split at hm
 .next cc=>
  cases hm;refine hi ρ σ H hd ls _ ns _ hR hL e1 λρ1 H1 a x1 R1 sq=>?_;obtain⟨p',et,_,l1,l2⟩:=id TI;obtain⟨ps,hP,hG⟩:=R1.tabs (P,q,p') et;have hG':D4 H1 q pos ps:=by
   rcases hG with g|⟨c,g1,g2⟩
   .exact .inl g
   .refine .inr ⟨c,?_,g2⟩;rw[g1];show #[rawInt p'.line,rawInt p'.col,Value.ref c]=_;rw[l1,l2]
  refine⟨a,ns,ps,rfl,sq,cc.1,hP,hG',λH2 c step hc=>?_⟩;obtain⟨R2,x2⟩:=GP R1 hP step TI;have x12:=x1.trans R1 x2;refine Ou hb R2 (hL.ext hR x12) hc e4 λρ3 H3 ks x3 R3 r3=>?_;have x13:=x12.trans R2 x3;refine⟨kz,?_,λp ms hp out=>?_⟩
  .unfold Eb at e5;split at e5
   .next ns' e6=>
    cases e5;rw[CG e6]at r3;exact .inl r3.ints
   .split at e5
    .next ps' e6=>
     split at e5
     .next ok=>
      cases e5;rw[Kt e6]at r3;refine .inr ⟨ps',rfl,ok,by have:=r3.len;simp at this;omega,λi k p ek ep=>?_⟩;obtain⟨w,ew,rw_⟩:=r3.get (i:=i) (d:=CQ p) (by rw[List.getElem?_map,ep];rfl);rw[ek]at ew;cases ew;exact WZ rw_
     .cases e5
    .cases e5
  .have lz:kz.length=ns.length:=by
    rw[QM e5,L3 e4]
   have:=UX cc.2 lz out;subst this;obtain⟨R4,x4⟩:=R3.hid (ho:=.lst ((FV kz ns).map V.int)) hp;exact hQ ρ3 _ p _ (x13.trans R3 x4) R4 (x13.none hR hp R3) (R3.out hp) AN DY
 .cases hm
end
structure LamC(K:Frag)(mg:Str->Option Value)(base:Heap)(fd:FuncData)(c P:Addr)(q:Str)(pos:Pos):Prop where
 code:fd.code=.ref c
 hd:CodeHd base c P
 bl:base.BuiltinsAt mg P
 ti:Fk K P q pos
structure QSrc(K:Frag)(X:Cx)(e:Expr)(te:TE)(src:Ls->Hd->Option (List Int×Hd)):Prop where
 p:PE X e te
 r:V6 K te src
def U5(K:Frag){X:Cx}{a:Expr}{t:TA}{m:MA}{p2 pos2:Pos}(hm2:X.mg "range"=none)(ha:QA K X [a] t m)(hg2:Gl X "range":=by rfl)(he2:starEach [a] X.env=[(false,eval a X.env)]:=by rfl):QSrc K X (.Call (.Name "range" p2) [a] [] pos2) (tCB Ja t) (M9 m):=
 ⟨DW (call_rng1.or LJ) hg2 hm2 boot_range ha.p 77 77 he2 rfl,Vv ha.r⟩
def U9(K:Frag){src:Ls->Hd->Option (List Int×Hd)}{X:Cx}{c P:Addr}{scope:Scope}{fr:List Str}{ix:List Nat}{prm:Str}{params:Arguments}{body e:Expr}{p pos lpos kpos:Pos}{te tb:TE}{mb:ME}{k:Nat}(LA:LamAt X c P)(TI:Fk K P 73 lpos)(S:CSc X scope fr ix)(L:LSc scope prm)(hr:Room k X.A)(h3:3<=k)(hm:X.mg "sorted"=none)
 (he:QSrc K X e te src) (hb:∀(f:Addr) (cd:Value) (s:Shared) (H:Hp),QE K (lCx X X.A.in1.in1 (prm::fr) 73 scope f cd 86 s H) body tb mb)
 (hbind:∀(cl:List (Str×Addr)) (pm cd ctv us:Value),bindArgs 112 ⟨[us],[]⟩=pure [(prm,us)])
 (hcm:X.calm=true:=by rfl) (hg:Gl X "sorted":=by rfl) (hdef:defaultsOf params X.env=([],[]):=by rfl) (hs:starEach [e] X.env=[88]:=by rfl) (hK:X.K=K:=by rfl):
 QN K X (.Call (.Name "sorted" p) [e] [⟨some "key",.Lambda params body scope lpos,kpos⟩] pos) (JN K P 73 lpos ix te tb) (EY src ix mb):=by
 subst hK;exact⟨UU LA S L (hr.mono h3) hcm hg hm hbind he.p (λf cd s H=>(hb f cd s H).p) hdef hs,Ti he.r (hb 0 .none X.s₀ X.H₀).r TI⟩
def UY{P:Program}{w:World}{K:Frag}{mg:Str->Option Value}{base:Heap}{x:Str}{st:Stmt}{f:Addr}{fd:FuncData}{N ps:List Str}{j:Nat}{m:MS}(DA:DefAt K mg x st f fd ps)(S:FnScope N ps (AC st))
 (h:∀(cdv:Value) (A:Around) (outer:List Env) (s:Shared) (H:Hp) (E:XK),fd.code=cdv->Room j (A.deeper (envOfC x (AC st) 66 f cdv))->∃t,QSs K (Fz CX0 P w K mg base N x (AC st) f cdv A outer s H E).nox (BQ st) t m):
 FnOk P w K mg base CX0 (j+1) f fd ps (spF K ps.length (mkF ps.length N.length m)):=by
 obtain⟨F,hmg,bd⟩:=DA;obtain⟨⟨oc,od,kV,doc,pm,an,cdv,ct,osl,rfl,lk,hcd⟩,kp⟩:=F;refine Vc lk hcd S (λvs H Q E h=>h.1) λA outer s H vs Q E hr hs=>?_;obtain⟨t,q⟩:=h cdv A outer s H E rfl hr;exact⟨t,q.p.nox,OR q.r hs⟩
def Pf(g:Int->Int)(ns:List Int):(FV (ns.map g) ns).Perm ns/\(FV (ns.map g) ns).Pairwise λa b=>g a<=g b:=by
 have pm:(((ns.map g).zip ns).mergeSort λa b=>decide (a.1<=b.1)).Perm ((ns.map g).zip ns):=jg ..;have pw:(((ns.map g).zip ns).mergeSort λa b=>decide (a.1<=b.1)).Pairwise λa b=>a.1<=b.1:=by
  have:=jq (le:=λa b:Int×Int=>decide (a.1<=b.1)) (by intro a b c h1 h2;simp at *;omega) (by intro a b;simp;omega) ((ns.map g).zip ns);exact this.imp 75
 have ez:(ns.map g).zip ns=ns.map λn=>(g n,n):=by
  clear pm pw
  induction ns with
  |nil=>rfl
  |cons n r ih=>simp[ih]
 have el:∀a∈(((ns.map g).zip ns).mergeSort λa b=>decide (a.1<=b.1)),a.1=g a.2:=λa ha=>by
  have:=pm.mem_iff.mp ha;rw[ez]at this;obtain⟨n,_,rfl⟩:=mem_map.mp this;rfl
 refine⟨?_,?_⟩
 .have:=pm.map (·.2);unfold FV;refine this.trans ?_;rw[ez,i5];have:((λx:Int×Int=>x.2) ∘ λn=>(g n,n))=id:=rfl;rw[this,map_id]
 .unfold FV;rw[iI];exact pw.imp_of_mem λ{a b} ha hb h=>by rw[<- el a ha,<- el b hb];exact h
theorem L0{mb:ME}{cap:Ls}{hd:Hd}(kf:Int->D):∀{ns:List Int},(∀n∈ns,mb (some (.im (.int n))::cap) hd=some (kf n,hd))->Ev mb cap hd ns=some (ns.map kf)
 |[],_=>rfl
 |n::r,h=>by
  unfold Ev;rw[h n gy,L0 kf λm hm=>h m (gp _ hm)];simp
def NO{ps:List (Int×Int)}(hne:ps≠[])(hok:∀p∈ps,pok p):Eb (ps.map CQ)=some (ps.map Ag):=by
 unfold Eb;have:Al (ps.map CQ)=none:=by
  cases ps with
  |nil=>exact absurd rfl hne
  |cons p r=>rfl
 rw[this,Q6];simp only[gi hok]
def Rx{g:Int->Int}{ns:List Int}(nd:ns.Nodup)(h:∀a∈ns,∀b∈ns,g a=g b->a=b):(ns.map g).Nodup:=by
 rw[List.nodup_iff_pairwise_ne,iI];exact(List.nodup_iff_pairwise_ne.mp nd).imp_of_mem λ{a b} ha hb hne e=>hne (h a ha b hb e)
def T7{src:Ls->Hd->Option (List Int×Hd)}{mb:ME}{ix:List Nat}{ls:Ls}{hd:Hd}{QA:List D->Hd->Prop}(h:∃ns x,src ls hd=some (ns,x)/\∃(kf:Int->Int×Int),ns.length<64/\ns.Nodup/\(∀n∈ns,pok (kf n))/\(∀a∈ns,∀b∈ns,Ag (kf a)=Ag (kf b)->a=b)/\
 (∀n∈ns,mb (some (.im (.int n))::ix.map λi=>(ls[i]?).join) x=some (CQ (kf n),x))/\∀ms:List Int,ms.Perm ns->ms.Pairwise (λa b=>Ag (kf a)<=Ag (kf b))->QA (ms.map λn=>.im (.int n)) x):WA (EY src ix mb) ls hd QA:=by
 obtain⟨ns,x,e,kf,h64,nd,ok,inj,ek,q⟩:=h;have e2:=L0 (λn=>CQ (kf n)) ek;by_cases hne:ns=[]
 .subst hne;refine⟨[],x,?_,q [] (.refl _) .nil⟩;simp[EY,e,Al,Ev,Eb,FV]
 .have e3:Eb (ns.map λn=>CQ (kf n))=some (ns.map λn=>Ag (kf n)):=by
   have:=NO (ps:=ns.map kf) (by simpa using hne) (by simpa using ok);rw[i5,i5]at this;exact this
  have sp:=Pf (λn=>Ag (kf n)) ns;refine⟨_,x,?_,q _ sp.1 sp.2⟩;simp only[EY,e,gw,e2,e3,h64,Rx nd inj,and_self,i3]
def Qr{m:MA}{mb:ME}{ix:List Nat}{ls:Ls}{hd:Hd}{QA:List D->Hd->Prop}(h:WA m ls hd λds x=>∃n:Nat,ds=[.im (.int (n:Int))]/\n<64/\∃(kf:Int->Int×Int),(∀k,k<n->pok (kf k))/\(∀a,a<n->∀b,b<n->Ag (kf a)=Ag (kf b)->a=b)/\
 (∀k:Nat,k<n->mb (some (.im (.int k))::ix.map λi=>(ls[i]?).join) x=some (CQ (kf k),x))/\∀ms:List Int,ms.Perm ((71 n).map λk:Nat=>(k:Int))->ms.Pairwise (λa b=>Ag (kf a)<=Ag (kf b))->QA (ms.map λn=>.im (.int n)) x):WA (Oo m ix mb) ls hd QA:=by
 obtain⟨ds,x,e,n,rfl,hn,kf,ok,inj,ek,q⟩:=h;have mem:∀z∈(71 n).map λk:Nat=>(k:Int),∃k:Nat,k<n/\z=k:=λz hz=>by
  obtain⟨k,hk,rfl⟩:=mem_map.mp hz;exact⟨k,by simpa using hk,rfl⟩
 refine T7 ⟨(71 n).map λk:Nat=>(k:Int),x,?_,kf,by simpa using hn,?_,λz hz=>?_,λy hy z hz=>?_,λz hz=>?_,q⟩
 .have c:(0:Int)<=n/\(n:Int)<64:=by omega
  simp only[M9,e,gw,gi c,ik]
 .rw[List.nodup_iff_pairwise_ne,iI];exact(List.nodup_iff_pairwise_ne.mp nodup_range).imp λh=>by omega
 .obtain⟨k,hk,rfl⟩:=mem z hz;exact ok k hk
 .obtain⟨k,hk,rfl⟩:=mem y hy;obtain⟨l,hl,rfl⟩:=mem z hz;intro e;rw[inj k hk l hl e]
 .obtain⟨k,hk,rfl⟩:=mem z hz;exact ek k hk
end L2
namespace HT
open PySem PyProof.Rows
def noFill_tuple_mul:fillsNumberSlot (.type "tuple") "mul"=pure false:=
 PySem.fillsNumberSlot_seq (id:="tuple.__mul__") (r:=some (.builtin "tuple.__rmul__")) F.slot_tuple_mul.lookup (by decide +kernel) F.slot_tuple_rmul.lookup (by decide +kernel)
def repeat_tuple:seqRepeat? (.type "tuple")=pure (some (.builtin "tuple.__mul__")):=by
 unfold seqRepeat?;rw[PySem.seqSlot_of (T:="tuple") (name:="__mul__") (id:="tuple.__mul__") F.slot_tuple_mul.lookup (by decide +kernel),PySem.seqSlot_of (T:="tuple") (name:="__rmul__") (id:="tuple.__rmul__") F.slot_tuple_rmul.lookup (by decide +kernel)];rfl
def int_rmul_tuple(a:Int)(t:Tok)(l:Addr)(items:Array Value)(n:Nat)(dd:Option Addr)(sl:Array (Option Value)):
 Meets (Builtin.«int.__rmul__» ⟨[.int a t,.ref l],[]⟩) (λ_ R s=>s.heap.get? l=some { cls:=.type "tuple",dict:=dd,data:=.seq items n,slots:=sl }/\R (.ok (.ret Value.notImplemented)) s):=
 .of_wp λprog w A R s h=>by obtain⟨hp,g,d,tk,os⟩:=s;obtain⟨hl,h⟩:=h;wp_walk;exact⟨_,rfl,h⟩
def tuple_mul(l:Addr)(items:Array Value)(n:Nat)(dd:Option Addr)(sl:Array (Option Value))(k:Int)(t:Tok)(h0:items.isEmpty=false)(hk:0<=k/\k<=1000)(hs:111*k.toNat<=100000):
 Meets (Builtin.«tuple.__mul__» ⟨[.ref l,.int k t],[]⟩) (λ_ R s=>s.heap.get? l=some { cls:=.type "tuple",dict:=dd,data:=.seq items n,slots:=sl }/\(k=1->R (.ok (.ret (.ref l))) s)/\(k≠1->R (.ok (.ret (.ref 66))) { s with heap:=s.heap.push { cls:=.type "tuple",data:=.seq ((List.replicate k.toNat items).foldl (·++·) #[]) } })):=
 .of_wp λprog w A R s h=>by
  obtain⟨hp,g,d,tk,os⟩:=s;obtain⟨hl,h1,h2⟩:=h;have f1:=AutoSeq1.idx_int;have f2:=AutoSeq1.sub_tuple_tuple
  wp_walk using wpAny_loadPart' hl
  have c1:¬ (decide (k < -2^63)||decide (k>=2^63))=true:=by simp;omega
  rw[gj c1]
  wp_walk using wpAny_loadPart' hl
  by_cases k1:k=1
  .rw[gi (by simp[k1])]
   wp_walk using wpAny_loadPart' hl
   exact⟨_,rfl,h1 k1⟩
  .rw[gj (by simp[h0,k1])];have h2:=h2 k1;by_cases k0:k=0
   .rw[gi (by simp[k0])]
    wp_walk using wpAny_loadPart' hl
    subst k0;exact⟨_,rfl,h2⟩
   .have c2:¬ ((items.size:Int)*k>(2^63-1)/8):=by
     have e:(items.size:Int)*k=((111*k.toNat:Nat):Int):=by rw[Int.natCast_mul,Int.toNat_of_nonneg hk.1]
     rw[e];omega
    have c3:¬ Builtin.Tuple.tupleTooMany ((items.size:Int)*k)=true:=by
     have e:(items.size:Int)*k=((111*k.toNat:Nat):Int):=by rw[Int.natCast_mul,Int.toNat_of_nonneg hk.1]
     unfold Builtin.Tuple.tupleTooMany;rw[e,iA,iU];omega
    rw[gj (by simp[h0];omega)];dsimp only;rw[gj c2,gj c3];have hz:(List.foldl (λx1 x2=>x1++x2) #[] (102 k.toNat items)).size<=sizeLine:=by
     have:∀(m:Nat) (a:Array Value),(List.foldl (λx1 x2=>x1++x2) a (102 m items)).size=a.size+111*m:=by
      intro m
      induction m with
      |zero=>intro a;simp
      |succ m ih=>intro a;rw[iQ,List.foldl_cons,ih,Array.size_append,Nat.mul_succ];omega
     rw[this,iA];simp;omega
    unfold Builtin.Tuple.tupleExact;refine gh (iX ?_ hz);exact gn ⟨_,rfl,h2⟩
end HT
namespace L2
open PySem PySem.Spec PyProof.Rows
section
variable{X:Cx}
def Pv(K:Frag):R2:=λx y H Q=>∃l k xs,x=.ref l/\y=.int k/\SqT K H l xs/\xs≠[]/\(0<=k/\k<=1000)/\96*k.toNat<=100000/\(k=1->Q (.ref l) H)/\
 (k≠1->∀p,H p=none->Q (.ref p) (upd H p (.tup (102 k.toNat xs).flatten)))
def Xe(K:Frag)(hK:X.K=K:=by rfl):OpR X (binaryOp .Mult) (Pv K):=by
 subst hK;intro pins s σ H x y v u Q I rx ry h;obtain⟨l,k,xs,rfl,rfl,hH,hne,hk,hz,q1,q2⟩:=h;cases rx;obtain⟨t,rfl⟩:=ry;obtain⟨its,r,p,_⟩:=I.tuple hH;obtain⟨⟨cls,dd,data,sl⟩,ho,hc,n,hd⟩:=id p;simp only at hc hd;subst hc hd;have ht:s.TypeIs (.ref l) "tuple":=⟨_,ho,rfl⟩
 have hn:its≠[]:=λz=>hne (r.nil_iff.mp z);have hl:its.length=xs.length:=r.length.symm;refine wpAny_binaryOp_repeat_ref (T:="tuple") (U:="int") 77 ht (λs'=>j7 s' k t) HT.noFill_tuple_mul F.fills_int_mul F.slot_int_rmul HT.repeat_tuple F.slot_int_index.lookup
  (call_meets F.slot_int_rmul (j7 s k t) F.entry_int_rmul (F.args_int_rmul_2 _ _) (HT.int_rmul_tuple k t l 109 n dd sl)
   ⟨ho,rfl,ht,call_meets F.slot_tuple_mul ht F.entry_tuple_mul (F.args_tuple_mul_2 _ _) (HT.tuple_mul l 109 n dd sl k t (by cases its with|nil=>exact absurd rfl hn|cons a r=>rfl) hk (by rw[gz,hl];exact hz)) ⟨ho,λe=>?_,λe=>?_⟩⟩)
 .exact⟨.ref l,H,I,rfl,q1 e⟩
 .have f0:=L9 its k.toNat []
  rw[List.nil_append]at f0;rw[f0];refine⟨.ref 66,_,I.laid (t':=s.toks) (o:=.tup (102 k.toNat xs).flatten) (λb ob q=>74 _ q) (gm _) ?_,rfl,q2 e _ (I.hok.fresh (gm _))⟩;exact⟨by rw[Xy,iA,Nat.mul_comm];omega,_,r.rep k.toNat,IsTupD.new _ _⟩
end
section
variable{K:Frag}
def II(ma mb:ME):ME:=λls hd=>(ma ls hd).bind λp=>(mb ls p.2).bind λq=>match p.1,q.1 with
 |.im (.tup is),.im (.int k)=>if is≠[]/\(0<=k/\k<=1000)/\is.length*k.toNat<=100000 then some (.im (.tup (102 k.toNat is).flatten),q.2)else none
 |_,_=>none
def WM{ta tb:TE}{ma mb:ME}(ha:RE K ta ma)(hb:RE K tb mb):RE K (tOp (Pv K) ta tb) (II ma mb):=by
 and_intros;obtain⟨⟨d1,h1⟩,e1,hm⟩:=c5 hm;obtain⟨⟨d2,h2⟩,e2,hm⟩:=c5 hm;dsimp only at hm;split at hm
 .next is k _=>
  split at hm
  .next c=>
   cases hm;refine ha ρ σ H hd ls _ _ h1 hR hL e1 λρ1 H1 v1 x1 R1 r1=>?_;refine hb ρ1 σ H1 h1 ls _ _ _ R1 (hL.ext hR x1) e2 λρ2 H2 v2 x2 R2 r2=>?_;simp only[RD,RI]at r2;subst r2;have r1:=r1.ext R1 x2;obtain⟨a,xs,rfl,sq,rs⟩:=r1.tup (ds:=is.map D.im) rfl;have hl:96=is.length:=by have:=rs.len;simpa using this
   refine⟨a,k,xs,rfl,rfl,sq,λz=>c.1 (List.length_eq_zero_iff.mp (by rw[<- hl,z];rfl)),c.2.1,by rw[hl];exact c.2.2,λe=>?_,λe p hp=>?_⟩
   .subst e;refine hQ ρ2 H2 _ 83 R2 ?_;simpa using r1
   .obtain⟨R3,x3⟩:=R2.hid (ho:=.tup (102 k.toNat xs).flatten) hp;refine hQ ρ2 _ _ ((83).trans R2 x3) R3 ?_;have e3:D.im (.tup (102 k.toNat is).flatten)=AY ((102 k.toNat is).flatten.map D.im):=(Ax _).symm;rw[e3];refine BX (SqT.of AN) ?_;have:=((rs.rep k.toNat).ext R2 x3)
    have e4:(102 k.toNat is).flatten.map D.im=(102 k.toNat (is.map D.im)).flatten:=by rw[List.map_flatten,List.map_replicate]
    rw[e4];exact this
  .cases hm
 .cases hm
def X2(K:Frag){X:Cx}{a b:Expr}{ta tb:TE}{ma mb:ME}{pos:Pos}(ha:QE K X a ta ma)(hb:QE K X b tb mb)(hK:X.K=K:=by rfl):QE K X (.BinOp a .Mult b pos) (tOp (Pv K) ta tb) (II ma mb):=⟨Q4 (Xe K hK) ha.p hb.p,WM ha.r hb.r⟩
def Vm{ma mb:ME}{ls:Ls}{hd:Hd}{QE:D->Hd->Prop}(h:WE ma ls hd λd x=>WE mb ls x λe y=>∃is k,d=.im (.tup is)/\e=.im (.int k)/\is≠[]/\(0<=k/\k<=1000)/\is.length*k.toNat<=100000/\QE (.im (.tup (102 k.toNat is).flatten)) y):WE (II ma mb) ls hd QE:=by
 obtain⟨d,x,e1,e,y,e2,is,k,rfl,rfl,c1,c2,c3,q⟩:=h;exact⟨_,_,by simp only[II,e1,gw,e2];rw[gi ⟨c1,c2,c3⟩],q⟩
end
end L2
namespace HT
open PySem PyProof.Rows
open PySem.AutoSeq1 (wpAny_loadPart')
section
variable{prog:Program}{w:World}{A:Around}{E:Value->Shared->Prop}{s:Shared}
def drawsT(hh:A.handled=none)(it t:Addr)(hne:t≠it)(items:Array Value):
 Draws prog w A it [it,t] 111 (λi v=>items[i]?=some v) (λi h=>h.IsTupleIter it t i/\h.IsTuple t items) where
 live:=λ_ _ st=>let ⟨o,ho,_⟩:=st.1;⟨o,ho⟩
 frame:=λ_ _ _ st hk=>⟨let ⟨o,ho,r⟩:=st.1;⟨o,hk it 75 o ho,r⟩,let ⟨o,ho,r⟩:=st.2;⟨o,hk t 75 o ho,r⟩⟩
 item:=λi s Q E hi st hQ=>by
  refine L2.tup_next st.1 st.2 (x:=items[i]) (by simp[hi]) λh' hit' hs'=>?_;exact hQ _ h' s.toks (by simp[hi]) ⟨hit',st.2.extBut hs'.extBut hne⟩ hs'
 done:=λs Q E st hE=>L2.tup_stop hh st.1 st.2 75 hE
end
def SZ(l:Addr)(items:Array Value)(n:Nat)(dct:Option Addr)(sl:Array (Option Value)):
 Meets (Builtin.«enumerate.__new__» ⟨[.type "enumerate",.ref l],[]⟩) (λ_ R s=>s.heap.get? l=some { cls:=.type "tuple",dict:=dct,data:=.seq items n,slots:=sl } /\
  R (.ok (.ret (.ref (s.heap.push { cls:=.type "tuple_iterator",data:=.fields #[.ref l,.int 0 0] }).objs.size)))
   { s with heap:=(s.heap.push { cls:=.type "tuple_iterator",data:=.fields #[.ref l,.int 0 0] }).push { cls:=.type "enumerate",data:=.fields #[.none,.bool false,.ref s.heap.objs.size,rawInt 0,.none,.none] } }):=
 .of_wp λprog w A R s h=>by
  obtain⟨hp,g,d,tk,os⟩:=s;obtain⟨hl,h⟩:=h;have hsub:=sub_enumerate;have hL:Heap.IsTuple (Shared.heap ⟨hp,g,d,tk,os⟩) l items:=⟨_,hl,rfl,n,rfl⟩
  wp_walk using wpAny_loadPart' hl
  refine wpAny_stack_any λst=>gn ?_;split
  .rename_i c _ _ _ _ _
   cases(c==Value.type "enumerate")
   .wp_walk using wpAny_loadPart' hl,wpAny_pyIter_tuple hL
    exact⟨_,rfl,h⟩
   .wp_walk using wpAny_loadPart' hl,wpAny_pyIter_tuple hL
    exact⟨_,rfl,h⟩
  .wp_walk using wpAny_loadPart' hl,wpAny_pyIter_tuple hL
   exact⟨_,rfl,h⟩
def call_enumT{prog:Program}{w:World}{A:Around}{E:Value->Shared->Prop}{s:Shared}{l:Addr}{items:Array Value}{Q:Value->Shared->Prop}(hL:IsTup s.heap l items)
 (h:∀h',IsEnum h' (66+1) 66 0 .none->h'.IsTupleIter 66 l 0->h'.objs.size=66+2 ->
  (∀b o,s.heap.get? b=some o->h'.get? b=some o)->Q (.ref (66+1)) { s with heap:=h' }):
 wpAny 92 A (call (.type "enumerate") [.ref l]) Q E s:=by
 obtain⟨⟨c,dct,dt,sl⟩,hl,hc,n,hd⟩:=hL
 replace hc:c=.type "tuple":=hc
 replace hd:dt=.seq items n:=hd
 subst hc hd;refine callType_new F.called_enumerate 77 (F.typeCall_enumerate_1 _) (F.newCall_enumerate_1 _) (λobj=>F.args_object_init_2 obj _) F.entry_enumerate_new
  (SZ l items n dct sl) ⟨hl,?_⟩
 have hz:(s.heap.push { cls:=.type "tuple_iterator",data:=.fields #[.ref l,.int 0 0] }).objs.size=66+1:=Heap.size_push ..;show _/\_;rw[hz];have he:IsEnum ((s.heap.push { cls:=.type "tuple_iterator",data:=.fields #[.ref l,.int 0 0] }).push
  { cls:=.type "enumerate",data:=.fields #[.none,.bool false,.ref 66,rawInt 0,.none,.none] }) (66+1) 66 0 .none:=by
  have:=87 (s.heap.push { cls:=.type "tuple_iterator",data:=.fields #[.ref l,.int 0 0] })
   (o:={ cls:=.type "enumerate",data:=.fields #[.none,.bool false,.ref 66,rawInt 0,.none,.none] }) rfl
  rw[hz]at this;exact this
 refine⟨⟨_,he,rfl⟩,h _ he ⟨_,74 _ (87 _ rfl),rfl,rfl⟩ (by rw[Heap.size_push,hz]) λb o x=>74 _ (74 _ x)⟩
end HT
namespace L2
open PySem PySem.Spec PyProof.Rows
structure ETt(h:Heap)(e it l:Addr)(i:Nat):Prop where
 e:∃old,IsEnum h e it i old
 r:h.IsTupleIter it l i
def ItT(K:Frag)(a:Addr):It:=
 ⟨λi H=>∃xs x,SqT K H a xs/\xs[i]?=some x,
  λi H x H'=>∃p v,H p=none/\H'=upd H p (.tup [.int (i:Int),v])/\x=.ref p/\∀xs,SqT K H a xs->xs[i]?=some v,
  λi H=>∃xs,SqT K H a xs/\96=i⟩
def PK{P:Program}{w:World}{K:Frag}{elts:List Expr}{kk:Nat}{tpos:Pos}{e it l:Addr}(ne:e≠it)(nl:l≠it)(nle:e≠l):Turn P w K (.Tuple elts kk tpos) (ItT K l) [e,it] e (λi h=>ETt h e it l i) where
 mem:=by simp
 obj:=λi h st c hc=>by
  obtain⟨⟨old,he⟩,hr⟩:=st;simp only[gu,iu,ir]at hc;rcases hc with rfl|rfl
  .exact⟨_,he,λv z=>by cases(show Data.fields _=Data.cell v from z)⟩
  .obtain⟨o,q,_,d⟩:=hr;exact⟨o,q,λv z=>by rw[d]at z;cases z⟩
 keep:=λi h h' st k=>by
  obtain⟨⟨old,he⟩,o,q,r⟩:=st;exact⟨⟨old,k e 75 _ he⟩,o,k it 75 _ q,r⟩
 item:=by
  intro X hP hw hK hc i pins s σ H E I hf st hg;subst hP hw hK;obtain⟨xs,x,h1,hx⟩:=hg;obtain⟨its,r,pl,hz⟩:=I.tuple h1;obtain⟨u,hu,ru⟩:=r.get hx;obtain⟨⟨old,he⟩,hr⟩:=st;have hlt:i<its.toArray.size:=by
   have:=(84 hu).1;simpa using this
  have hd:X.A.in1.handled=none:=I.ok.hd hc;refine wpAny_pyNext_enum_itemD (HT.drawsT hd it l nl 109) he ⟨hr,pl⟩ hlt ne (by simp;exact⟨ne,nle⟩) λx' g tk hx' ho hr' ht hsz kp=>⟨_,rfl,?_⟩
  have ex:x'=u:=by
   have hx':109[i]?=some x':=hx';rw[List.getElem?_toArray,hu]at hx';exact(114 hx').symm
  subst ex;refine wpAny_letOwnedTupleGo_enum ho λg' e' sb=>?_;have hle:e<s.heap.objs.size:=90 he;have kp2:∀c o,c∉[e,it]->s.heap.get? c=some o->g'.get? c=some o:=λc o nc q=>by
   simp only[gu,iu,ir,not_or]at nc;exact sb.extBut _ _ nc.1 (kp c o nc.1 nc.2 q)
  have hT:66≠e:=iC hle;have hpair:g'.get? 66=some { cls:=.type "tuple",data:=.seq #[.int i tk,x'] }:=sb.extBut _ _ hT ht;have fresh:H 66=none:=I.hok.fresh (gm _);have I2:Inv X pins σ (upd H 66 (.tup [.int (i:Int),x])) { s with heap:=g',toks:=tk+1 }:=I.turnsL (tk:=tk+1) (o:=.tup [.int (i:Int),x]) kp2 hf (gm _)
   (show ObjOk X.prog X.w _ g' _ (.tup [.int (i:Int),x])from⟨by show 2<=sizeLine;decide,[.int i tk,x'],.cons ⟨_,rfl⟩ (.cons ru .nil),⟨_,hpair,rfl,⟨_,rfl⟩,rfl⟩⟩)
  refine⟨.ref 66,_,I2,rfl,⟨66,x,fresh,rfl,rfl,λxs' q=>by rw[I.tuple_inj q h1];exact hx⟩,⟨⟨x',?_⟩,?_⟩,λc hc=>?_⟩
  .have:=e';rw[show((i:Int)+1)=((i+1:Nat):Int) by omega]at this;exact this
  .exact hr'.1.extBut sb.extBut (Ne.symm ne)
  .have lt:c<s.heap.objs.size:=by
    simp only[gu,iu,ir]at hc;rcases hc with rfl|rfl
    .exact hle
    .obtain⟨o,q,_⟩:=hr;exact 90 q
   rw[AD (gV lt)];exact(hf c hc).1
 done:=by
  intro X hP hw hK hc i pins s σ H E I hf st hg;subst hP hw hK;obtain⟨xs,h1,hend⟩:=hg;obtain⟨its,r,pl,hz⟩:=I.tuple h1;have l1':=r.length;obtain⟨⟨old,he⟩,hr⟩:=st;have hd:X.A.in1.handled=none:=I.ok.hd hc;have en:i=its.toArray.size:=by simp;omega
  subst en;refine wpAny_pyNext_enum_endD (HT.drawsT hd it l nl 109) he ⟨hr,pl⟩ λg x=>⟨rfl,?_⟩
  exact I.turns (tk:=s.toks) (λc o nc q=>by
   simp only[gu,iu,ir,not_or]at nc;exact x c o nc.2 q) hf
 self:=λ_ _ _ _ _ st h=>by
  obtain⟨⟨old,he⟩,hr⟩:=st;exact jE he h
def NU(K:Frag)(ta:TA):TI:=λσ H R=>ta σ H λvs H1=>∃a xs,vs=[.ref a]/\SqT K H1 a xs/\R (ItT K a) H1
def UR(K:Frag){X:Cx}{a:Expr}{ta:TA}{elts:List Expr}{kk:Nat}{tpos p pos:Pos}(hg:Gl X "enumerate")(hm:X.mg "enumerate"=none)(ha:PA X [a] ta)(hK:X.K=K:=by rfl)(hs:starEach [a] X.env=[(false,eval a X.env)]:=by rfl):
 PI X (.Tuple elts kk tpos) (.Call (.Name "enumerate" p) [a] [] pos) (NU K ta):=by
 subst hK;intro pins s σ H R I h;refine Call_ (Cn I hg hm GI (PyProof.Rows.callWith_type1 (thn (ha pos pins s σ H _ I h) λus s1 ⟨vs,H1,I1,r1,q1⟩=>?_) hs rfl));obtain⟨l,xs,e,c,q⟩:=q1;subst e;obtain⟨u,rfl,ru⟩:=r1.one;cases ru;obtain⟨its,r,pl,hz⟩:=I1.tuple c;have ll:l<s1.heap.objs.size:=by obtain⟨o,ho,_⟩:=pl;exact 90 ho
 refine HT.call_enumT pl λg he hr hsz kp=>jE he ?_;refine⟨_,_,_,_,H1,rfl,I1.kept (t':=s1.toks) kp,PK (iC (jk _)) (gV ll) (iC (jr ll)),⟨⟨_,he⟩,hr⟩,λc hc=>?_,q⟩;simp only[gu,iu,ir]at hc;have le:s1.heap.objs.size<=c:=by
  rcases hc with rfl|rfl
  .exact jl _ _
  .exact gm _
 exact I1.fpOk le (I1.hok.fresh le)
def Tm{K:Frag}{ta:TE}{ma:MI}(ha:RRw K true ta ma):RIt K (NU K (BB ta Bp)) (DI ma):=by
 intro ρ σ H hd ls Q d g hd' hR hL hm hQ;obtain⟨⟨⟨d1,g1⟩,h1⟩,e1,e2⟩:=c7 hm;cases e2;refine ha ρ σ H hd ls _ d1 g1 h1 hR hL e1 λρ1 H1 a x1 R1 G1 S1=>?_;obtain⟨xs,c1,r1⟩:=S1 ρ1 H1 _ .refl R1 G1;refine⟨a,xs,rfl,c1,hQ ρ1 H1 _ x1 R1 G1 ?_⟩;intro ρ3 H3 hd3 x3 R3 G3 i;obtain⟨xs,c1,r1⟩:=S1 ρ3 H3 _ x3 R3 G3;have l1:=r1.len;refine⟨λhi=>?_,λhi=>⟨xs,c1,?_⟩⟩
 .have hi:i<d1.length:=by simpa using hi
  have i1:d1[i]?=some (d1[i]'hi):=List.getElem?_eq_getElem _;obtain⟨x,x4,x5⟩:=r1.get i1;refine⟨⟨xs,x,c1,x4⟩,λz H4 hz=>?_⟩;obtain⟨p,v,fp,rfl,rfl,hv⟩:=hz;have ev:=hv xs c1;rw[x4]at ev;cases ev;obtain⟨R4,x6⟩:=R3.hid (ho:=.tup [.int (i:Int),x]) fp;refine⟨ρ3,AY [.im (.int (i:Int)),d1[i]'hi],x6,rfl,R4,?_,BX (SqT.of AN) (.cons 101 (.cons (x5.ext R3 x6) .nil))⟩;simp[i1]
 .have hi:i=d1.length:=by simpa using hi
  omega
def UC(K:Frag){X:Cx}{a:Expr}{ta:TE}{ma:MI}{elts:List Expr}{kk:Nat}{tpos p pos:Pos}(hm:X.mg "enumerate"=none)(ha:QR K true X a ta ma)(hg:Gl X "enumerate":=by rfl)(hK:X.K=K:=by rfl)(hs:starEach [a] X.env=[(false,eval a X.env)]:=by rfl):
 QI K X (.Tuple elts kk tpos) (.Call (.Name "enumerate" p) [a] [] pos) (NU K (BB ta Bp)) (DI ma):=⟨UR K hg hm (BV ha.p CK hs) hK hs,Tm ha.r⟩
end L2
namespace HS
open PySem PyProof.Rows
open PySem.AutoSeq1 (wpAny_loadPart')
open Sem (wp)
abbrev st(t:Tok):List (Str×Value):=[(Str.ofString "start",.int 1 t)]
section
variable{prog:Program}{w:World}{A:Around}{E:Value->Shared->Prop}{s:Shared}
def tcS(a b:Value):checkTypeCall "enumerate" ⟨[a],[(Str.ofString "start",b)]⟩=pure ():=by kernel_rfl
def ncS(a b:Value):checkBuiltinCall "enumerate.__new__" ⟨[.type "enumerate",a],[(Str.ofString "start",b)]⟩=pure ():=by kernel_rfl
def aiS(a b c:Value):argsOk "object.__init__" ⟨[a,b],[(Str.ofString "start",c)]⟩:=by
 unfold argsOk;rw[signature?_of (id:="object.__init__") (n:=['_','_','t','i','n','i','_','_']) (o:=['t','c','e','j','b','o']) 89 F.owner_object];kernel_rfl
def Sa(l:Addr)(items:Array Value)(n:Nat)(t:Tok)(dct:Option Addr)(sl:Array (Option Value)):
 Meets (Builtin.«enumerate.__new__» ⟨[.type "enumerate",.ref l],st t⟩) (λ_ R s=>s.heap.get? l=some { cls:=.type "list",dict:=dct,data:=.seq items n,slots:=sl } /\
  R (.ok (.ret (.ref (76).objs.size)))
   { s with heap:=(s.heap.push { cls:=.type "list_iterator",data:=.fields #[.ref l,.int 0 0] }).push { cls:=.type "enumerate",data:=.fields #[.none,.bool false,.ref s.heap.objs.size,rawInt 1,.none,.none] } }):=
 .of_wp λprog w A R s h=>by
  obtain⟨hp,g,d,tk,os⟩:=s;obtain⟨hl,h⟩:=h;have hsub:=sub_enumerate;have hL:Heap.IsList (Shared.heap ⟨hp,g,d,tk,os⟩) l items:=⟨_,hl,rfl,n,rfl⟩
  wp_walk using wpAny_loadPart' hl
  refine wpAny_stack_any λst=>gn ?_;split
  .rename_i c _ _ _ _ _
   cases(c==Value.type "enumerate")
   .wp_walk using wpAny_loadPart' hl,wpAny_pyIter_list hL
    exact⟨_,rfl,h⟩
   .wp_walk using wpAny_loadPart' hl,wpAny_pyIter_list hL
    exact⟨_,rfl,h⟩
  .wp_walk using wpAny_loadPart' hl,wpAny_pyIter_list hL
   exact⟨_,rfl,h⟩
def dX{T id:String}{x a b:Value}(hl:typeLookup (.type T) "__init__"=pure (some (.builtin "object.__init__")))(hm:Bind.madeBy (.type T)=pure (some id))(hne:(some id != some "object.__new__")=true):
 Meets (Builtin.«object.__init__» ⟨[x,a],[(Str.ofString "start",b)]⟩) (λ_ R s=>s.TypeIs x T/\R (.ok (.ret .none)) s):=by
 refine Meets.of_wp λprog w A R s hs=>?_;obtain⟨hT,hq⟩:=hs
 repeat (any_goals (first|assumption|wp_step))
 exact⟨_,rfl,hq⟩
def call_enumS{l:Addr}{items:Array Value}{t:Tok}{Q:Value->Shared->Prop}(hL:s.heap.IsList l items)
 (h:∀h',IsEnum h' (66+1) 66 1 .none->h'.IsListIter 66 l 0->h'.objs.size=66+2->(∀b o,s.heap.get? b=some o->h'.get? b=some o)->Q (.ref (66+1)) { s with heap:=h' }):
 wpAny 92 A (call (.type "enumerate") [.ref l] (st t)) Q E s:=by
 obtain⟨⟨c,dct,dt,sl⟩,hl,hc,n,hd⟩:=hL
 replace hc:c=.type "list":=hc
 replace hd:dt=.seq items n:=hd
 subst hc hd;have ft:=F.called_enumerate;obtain⟨c,tl,hmro⟩:=ft.mro;have hmade:=ft.made;have hsub:=ft.sub;refine wpAny_call (codeAny_of_tree ?_);show wpAny _ _ (callAny (.type "enumerate") _) _ _ _;refine gn ⟨Code.quiet_builtin _ (by decide +kernel),iT F.entry_type_call ?_⟩;rw[Around.under_plain (weight_type_call_type "enumerate" [.ref l] (st t)) (units_type_call_type "enumerate" [.ref l] (st t))];have h1:=ft.notType;have h2:=ft.canCreate;have hct:=tcS (.ref l) (.int 1 t);have hcn:=ncS (.ref l) (.int 1 t)
 repeat (any_goals (first|assumption|wp_step))
 refine jb (codeAny_call_builtin ft.plain F.entry_enumerate_new (wpAny_of_eq hcn (Sa l items n t dct sl prog w A.in1 (wants (λobj s₁=>s₁.TypeIs obj "enumerate"/\Q obj s₁) E) s ⟨hl,?_⟩))) λr s₁ hr=>?_
 .have hz:(76).objs.size=66+1:=Heap.size_push ..;show _/\_;rw[hz];have he:IsEnum ((76).push { cls:=.type "enumerate",data:=.fields #[.none,.bool false,.ref 66,rawInt 1,.none,.none] }) (66+1) 66 1 .none:=by
   have:=Heap.get?_push_size 76 (o:={ cls:=.type "enumerate",data:=.fields #[.none,.bool false,.ref 66,rawInt 1,.none,.none] }) rfl;rw[hz]at this;exact this
  exact⟨⟨_,he,rfl⟩,h _ he ⟨_,74 _ (87 _ rfl),rfl,rfl⟩ (by rw[Heap.size_push,hz]) λb o x=>74 _ (74 _ x)⟩
 .cases r with
  |error e=>exact hr
  |ok fl=>
   cases fl with
   |ret obj=>
    obtain⟨hT,hq0⟩:=hr;have hli:=ft.init.lookup;have hbi:=ft.init.bind obj
    repeat (any_goals (first|assumption|wp_step))
    refine jb (codeAny_call_builtin ft.init.plain F.entry_object_init (ft.init.check _ _ _ _ _ _ _ _ hT (aiS obj (.ref l) (.int 1 t)) (dX (x:=obj) (a:=.ref l) (b:=.int 1 t) hli hmade 77 prog w A.in1 (wants (λr s₂=>r=.none/\Q obj s₂) E) s₁ ⟨hT,rfl,hq0⟩))) λr₂ s₂ hr₂=>?_;cases r₂ with
    |error e=>exact hr₂
    |ok fl₂=>
     cases fl₂ with
     |ret r=>
      obtain⟨rfl,hq⟩:=hr₂
      repeat (any_goals (first|assumption|wp_step))
     |_=>exact hr₂.elim
   |_=>exact hr.elim
def shift{it:Addr}{fp:List Addr}{n:Nat}{P:Nat->Value->Prop}{St:Nat->Heap->Prop}(D:Draws prog w A it fp n P St):Draws prog w A it fp (n+1) (λj v=>P (j-1) v) (λj h=>1<=j/\St (j-1) h) where
 live:=λ_ _ z=>D.live _ _ z.2
 frame:=λ_ _ _ z hk=>⟨z.1,D.frame _ _ _ z.2 hk⟩
 item:=λi s Q E hi z hQ=>D.item (i-1) s Q E 67 z.2 λx h' tk p q b=>hQ x h' tk p ⟨by omega,by rw[show i+1-1=i-1+1 by have:=z.1;omega];exact q⟩ b
 done:=λs Q E z hE=>D.done s Q E z.2 hE
end
def callWith_typeK{M:Model}{A:Around}{E:Value->Shared->Prop}{s:Shared}{pos:Pos}{T:String}{args:List (Bool×Sem Value)}{kws:List (Option Str×Sem Value)}{Q:Value->Shared->Prop}(hp:args.any (·.1)=false)(hk:kws.any (·.1.isNone)=false)
 (h:wpAny M A (evalArgs (.type T) true args kws) (λa s₁=>wpAny M A (call (.type T) a.pos a.kw) Q E s₁) E s):wpAny M A (callWith pos (.type T) [] args kws) Q E s:=by
 unfold callWith;refine gh (il (hZ h (λa s₁ h₁=>gh (j5 ?_)) λ_ _ x=>x));simp only[hp,hk,Bool.or_false];exact gh (gn (gh (hZ h₁ (λr s₂ hr=>gh (il (wpAny_point (gn hr)))) λ_ _ x=>x)))
end HS
namespace L2
open PySem PySem.Spec PyProof.Rows
structure ESt(h:Heap)(e it l:Addr)(i:Nat):Prop where
 e:∃old,IsEnum h e it ((i+1:Nat):Int) old
 r:h.IsListIter it l i
def ItS(K:Frag)(a:Addr):It:=
 ⟨λi H=>∃xs x,SqL K H a xs/\xs[i]?=some x,
  λi H x H'=>∃p v,H p=none/\H'=upd H p (.tup [.int ((i:Int)+1),v])/\x=.ref p/\∀xs,SqL K H a xs->xs[i]?=some v,
  λi H=>∃xs,SqL K H a xs/\96=i⟩
def PL{P:Program}{w:World}{K:Frag}{elts:List Expr}{kk:Nat}{tpos:Pos}{e it l:Addr}(ne:e≠it)(nl:l≠it)(nle:e≠l):Turn P w K (.Tuple elts kk tpos) (ItS K l) [e,it] e (λi h=>ESt h e it l i) where
 mem:=by simp
 obj:=λi h st c hc=>by
  obtain⟨⟨old,he⟩,hr⟩:=st;simp only[gu,iu,ir]at hc;rcases hc with rfl|rfl
  .exact⟨_,he,λv z=>by cases(show Data.fields _=Data.cell v from z)⟩
  .obtain⟨o,q,_,d⟩:=hr;exact⟨o,q,λv z=>by rw[d]at z;cases z⟩
 keep:=λi h h' st k=>by
  obtain⟨⟨old,he⟩,o,q,r⟩:=st;exact⟨⟨old,k e 75 _ he⟩,o,k it 75 _ q,r⟩
 item:=by
  intro X hP hw hK hc i pins s σ H E I hf st hg;subst hP hw hK;obtain⟨xs,x,h1,hx⟩:=hg;obtain⟨its,r,pl,hz⟩:=I.list h1;obtain⟨u,hu,ru⟩:=r.get hx;obtain⟨⟨old,he⟩,hr⟩:=st;have hd:X.A.in1.handled=none:=I.ok.hd hc;have hlt:i<its.toArray.size:=by
   have:=(84 hu).1;simpa using this
  refine wpAny_pyNext_enum_itemD (HS.shift (Draws.list hd it l nl 109)) he ⟨by omega,by simpa using hr,pl.isList⟩ 67 ne (by simp;exact⟨ne,nle⟩) λx' g tk hx' ho hr' ht hsz kp=>⟨_,rfl,?_⟩
  have ex:x'=u:=by
   have hx':109[i]?=some x':=hx';rw[List.getElem?_toArray,hu]at hx';exact(114 hx').symm
  subst ex;refine wpAny_letOwnedTupleGo_enum ho λg' e' sb=>?_;have hle:e<s.heap.objs.size:=90 he;have kp2:∀c o,c∉[e,it]->s.heap.get? c=some o->g'.get? c=some o:=λc o nc q=>by
   simp only[gu,iu,ir,not_or]at nc;exact sb.extBut _ _ nc.1 (kp c o nc.1 nc.2 q)
  have hT:66≠e:=iC hle;have hpair:g'.get? 66=some { cls:=.type "tuple",data:=.seq #[.int ((i+1:Nat):Int) tk,x'] }:=sb.extBut _ _ hT ht;have fresh:H 66=none:=I.hok.fresh (gm _);have I2:Inv X pins σ (upd H 66 (.tup [.int ((i:Int)+1),x])) { s with heap:=g',toks:=tk+1 }:=I.turnsL (tk:=tk+1) (o:=.tup [.int ((i:Int)+1),x]) kp2 hf (gm _)
   (show ObjOk X.prog X.w _ g' _ (.tup [.int ((i:Int)+1),x])from⟨by show 2<=sizeLine;decide,[.int ((i+1:Nat):Int) tk,x'],.cons ⟨_,rfl⟩ (.cons ru .nil),⟨_,hpair,rfl,⟨_,rfl⟩,rfl⟩⟩)
  refine⟨.ref 66,_,I2,rfl,⟨66,x,fresh,rfl,rfl,λxs' q=>by rw[I.list_inj q h1];exact hx⟩,⟨⟨x',?_⟩,?_⟩,λc hc=>?_⟩
  .have:=e';rw[show(((i+1:Nat):Int)+1)=((i+1+1:Nat):Int) by omega]at this;exact this
  .have q:=hr'.2.1;exact q.extBut sb.extBut (Ne.symm ne)
  .have lt:c<s.heap.objs.size:=by
    simp only[gu,iu,ir]at hc;rcases hc with rfl|rfl
    .exact hle
    .obtain⟨o,q,_⟩:=hr;exact 90 q
   rw[AD (gV lt)];exact(hf c hc).1
 done:=by
  intro X hP hw hK hc i pins s σ H E I hf st hg;subst hP hw hK;obtain⟨xs,h1,hend⟩:=hg;obtain⟨its,r,pl,hz⟩:=I.list h1;have l1':=r.length;obtain⟨⟨old,he⟩,hr⟩:=st;have hd:X.A.in1.handled=none:=I.ok.hd hc;have en:i=its.toArray.size:=by simp;omega
  subst en;refine wpAny_pyNext_enum_endD (HS.shift (Draws.list hd it l nl 109)) he ⟨by omega,by simpa using hr,pl.isList⟩ λg x=>⟨rfl,?_⟩
  exact I.turns (tk:=s.toks) (λc o nc q=>by
   simp only[gu,iu,ir,not_or]at nc;exact x c o nc.2 q) hf
 self:=λ_ _ _ _ _ st h=>by
  obtain⟨⟨old,he⟩,hr⟩:=st;exact jE he h
def NV(K:Frag)(ta:TA):TI:=λσ H R=>ta σ H λvs H1=>∃a xs,vs=[.ref a]/\SqL K H1 a xs/\R (ItS K a) H1
def US(K:Frag){X:Cx}{a:Expr}{ta:TA}{elts:List Expr}{kk:Nat}{j}{tpos p pos cp kp:Pos}(hg:Gl X "enumerate")(hm:X.mg "enumerate"=none)(ha:PA X [a] ta)(hK:X.K=K:=by rfl)(hs:starEach [a] X.env=[(false,eval a X.env)]:=by rfl):
 PI X (.Tuple elts kk tpos) (.Call (.Name "enumerate" p) [a] [⟨some "start",.Constant (.int 1) j cp,kp⟩] pos) (NV K ta):=by
 subst hK;intro pins s σ H R I h;refine j6 (Cn I hg hm GI ?_);have pl:(backTo pos (starEach [a] X.env)).any (·.1)=false:=by rw[hs];rfl
 refine HS.callWith_typeK pl rfl (evalArgs_kw2 (env:=X.env) (e:=a) (rest:=[]) (kws:=[⟨some "start",.Constant (.int 1) j cp,kp⟩]) rfl (thn (ha pos pins s σ H _ I h) λus s1 ⟨vs,H1,I1,r1,q1⟩=>?_) hs);obtain⟨l,xs,e,c,q⟩:=q1;subst e;obtain⟨u,rfl,ru⟩:=r1.one;cases ru;show wpAny _ _ (evalAll [(do let v <- eval (.Constant (.int 1) j cp) X.env;standAt pos;pure v)]) _ _ s1;refine jC (gh (wpAny_Constant_int (gh (j5 (gn (jD ?_))))));have I2:=I1.tok (s1.toks+1);obtain⟨its,r,pl,hz⟩:=I2.list c;have ll:l<s1.heap.objs.size:=by obtain⟨o,ho,_⟩:=pl.isList;exact 90 ho
 refine HS.call_enumS pl.isList λg he hr hsz kp=>jE he ?_;refine⟨_,_,_,_,H1,rfl,I2.kept (t':=s1.toks+1) kp,PL (iC (jk _)) (gV ll) (iC (jr ll)),⟨⟨_,he⟩,hr⟩,λc hc=>?_,q⟩;simp only[gu,iu,ir]at hc;have le:s1.heap.objs.size<=c:=by
  rcases hc with rfl|rfl
  .exact jl _ _
  .exact gm _
 exact I2.fpOk le (I2.hok.fresh le)
section
variable{K:Frag}
def GC(ma:MI):MI:=λls hd=>(ma ls hd).map λp=>((p.1.1.zipIdx.map λq=>AY [.im (.int ((q.2:Int)+1)),q.1],p.1.2),p.2)
def To{ta:TE}{ma:MI}(ha:RRw K false ta ma):RIt K (NV K (BB ta Bp)) (GC ma):=by
 intro ρ σ H hd ls Q d g hd' hR hL hm hQ;obtain⟨⟨⟨d1,g1⟩,h1⟩,e1,e2⟩:=c7 hm;cases e2;refine ha ρ σ H hd ls _ d1 g1 h1 hR hL e1 λρ1 H1 a x1 R1 G1 S1=>?_;obtain⟨xs,c1,r1⟩:=S1 ρ1 H1 _ .refl R1 G1;refine⟨a,xs,rfl,c1,hQ ρ1 H1 _ x1 R1 G1 ?_⟩;intro ρ3 H3 hd3 x3 R3 G3 i;obtain⟨xs,c1,r1⟩:=S1 ρ3 H3 _ x3 R3 G3;have l1:=r1.len;refine⟨λhi=>?_,λhi=>⟨xs,c1,?_⟩⟩
 .have hi:i<d1.length:=by simpa using hi
  have i1:d1[i]?=some (d1[i]'hi):=List.getElem?_eq_getElem _;obtain⟨x,x4,x5⟩:=r1.get i1;refine⟨⟨xs,x,c1,x4⟩,λz H4 hz=>?_⟩;obtain⟨p,v,fp,rfl,rfl,hv⟩:=hz;have ev:=hv xs c1;rw[x4]at ev;cases ev;obtain⟨R4,x6⟩:=R3.hid (ho:=.tup [.int ((i:Int)+1),x]) fp;refine⟨ρ3,AY [.im (.int ((i:Int)+1)),d1[i]'hi],x6,rfl,R4,?_,BX (SqT.of AN) (.cons 101 (.cons (x5.ext R3 x6) .nil))⟩;simp[i1]
 .have hi:i=d1.length:=by simpa using hi
  omega
def UD(K:Frag){X:Cx}{a:Expr}{ta:TE}{ma:MI}{elts:List Expr}{kk:Nat}{j}{tpos p pos cp kp:Pos}(hm:X.mg "enumerate"=none)(ha:QR K false X a ta ma)(hg:Gl X "enumerate":=by rfl)(hK:X.K=K:=by rfl)(hs:starEach [a] X.env=[(false,eval a X.env)]:=by rfl):
 QI K X (.Tuple elts kk tpos) (.Call (.Name "enumerate" p) [a] [⟨some "start",.Constant (.int 1) j cp,kp⟩] pos) (NV K (BB ta Bp)) (GC ma):=⟨US K hg hm (BV ha.p CK hs) hK hs,To ha.r⟩
def T1{ma:MI}{ls:Ls}{hd:Hd}{QI:List D×Gd->Hd->Prop}(h:WI ma ls hd λp x=>QI (p.1.zipIdx.map λq=>AY [.im (.int ((q.2:Int)+1)),q.1],p.2) x):WI (GC ma) ls hd QI:=by
 obtain⟨p,x,e,q⟩:=h;exact⟨_,_,by simp only[GC,e,i8],q⟩
end
end L2
namespace L2
open PySem PySem.Spec PyProof.Rows PySem.W
def IC(op:Int->Int->Bool)(src:Hp->List V->Prop)(G:Hp->Prop)(tb:TE)(cap:St):Nat->Nat->V->Int->Hp->VK->Prop
 |0,j,b,_,H,Q=>(∃xs,src H xs/\96=j)/\Q b H
 |m+1,j,b,kb,H,Q=>∃xs x,src H xs/\xs[j]?=some x/\G H/\tb (some x::cap) H λk H1=>∃n:Int,k=.int n/\(if op n kb=true then IC op src G tb cap m (j+1) x n H1 Q else IC op src G tb cap m (j+1) b kb H1 Q)
def Nn(op:Int->Int->Bool)(src:Hp->List V->Prop)(G:Hp->Prop)(tb:TE)(cap:St)(m:Nat)(H:Hp)(Q:VK):Prop:=
 ∃xs x,src H xs/\xs[0]?=some x/\G H/\tb (some x::cap) H λk H1=>∃n:Int,k=.int n/\IC op src G tb cap m 1 x n H1 Q
def Inv.turnE{X:Cx}{pins:List 78}{σ:St}{H:Hp}{s:Shared}{b:Addr}{o:Obj}{h':Heap}{t':Nat}(I:Inv X ((b,o)::pins) σ H s)(f:FpOk X pins H b)(hs:∀c u,c≠b->s.heap.get? c=some u->h'.get? c=some u):Inv X pins σ H { s with heap:=h',toks:=t' }:=by
 have J:Inv X pins σ H s:=I.pins_of λp hp=>I.pin p (gv _ (gp _ hp));obtain⟨hn,hL,_,h1,h2,h3⟩:=f;exact J.turned (λc u n e=>hs c u n e) hn hL h1 h2 h3
section
variable{X:Cx}{pins:List 78}{σ:St}{l f It S:Addr}{src:Hp->List V->Prop}{G:Hp->Prop}{tb:TE}{cap:St}{Q:VK}{E:Value->Shared->Prop}
def Ud(hh:X.A.handled=none)
 (hsrc:∀pins' H' s' xs,Inv X pins' σ H' s'->src H' xs->∃its:List Value,Vals xs its/\s'.heap.IsList l 109) (hSI:S≠It) (n0:Nat) (hI0:∀H',H' It=none->FpOk X pins H' It) (hS0:∀H',H' S=none->FpOk X pins H' S)
 (turn:∀(pins':List 78) (H1:Hp) (s1:Shared) (x:V) (u:Value) (Q1:VK),(∀p∈pins,p∈pins')->Inv X pins' σ H1 s1->RelV x u->G H1->tb (some x::cap) H1 Q1->wpAny 69 X.A.in1 (call (.ref f) [u]) (EP X pins' σ Q1) (λ_ _=>False) s1):
 ∀(m:Nat) (j:Nat) (b:V) (vb:Value) (kb:Int) (tk:Tok) (c:Nat) (oI:Obj) (H:Hp) (s:Shared),Inv X ((S,seqObj "list" #[vb,.int kb tk] c)::(It,oI)::pins) σ H s->s.heap.IsListIter It l j->RelV b vb ->
   IC (λn m=>decide (n>m)) src G tb cap m j b kb H Q->codeAny 69 X.A (.builtin "max.loop" ⟨[.ref It,.ref f,.ref S],[]⟩) (λr s'=>match r with|.ok (.ret v)=>EP X pins σ Q v s'|.ok _=>False|.error e=>E e s') s:=by
 have hname:(toString "max"++toString ".loop":String)="max.loop":=by decide
 intro m
 induction m with
 |zero=>
  intro j b vb kb tk c oI H s J hit rb hgo;obtain⟨⟨xs,hG,hje⟩,hQ⟩:=hgo;have nS:=J.pin (S,seqObj "list" #[vb,.int kb tk] c) (gv _ gy);have nI:=J.pin (It,oI) (gv _ (gp _ gy));refine iT PySem.F.entry_max_loop ?_;rw[Around.under_plainId PySem.F.plain_max_loop _];show wpAny _ X.A.in1 (seqItems? (.ref S) >>= _) _ _ _;refine gh (iK nS.1 rfl ?_);show wpAny _ X.A.in1 (tryCatch (pyNext (.ref It)) _ >>= _) _ _ _;obtain⟨its,hv,hil⟩:=hsrc _ _ _ _ J hG;have hlen:=hv.length;refine gh (iP (wpAny_pyNext_list_end hh hit hil 79 λh' hk'=>?_));have hS':=hk' S _ hSI nS.1;have s1:=Heap.SameBut.update h' S (Obj.mapSeq λ_=>(#[]:Array Value));show wpAny _ X.A.in1 (updateSeq S (λ_=>#[]) >>= _) _ _ _;refine gh ?_;refine jw hS' rfl (gh (iO (gn ?_)));have J1:Inv X ((It,oI)::pins) σ H s:=J.pins_of λp hp=>J.pin p (gv _ (gp _ hp));have J2:Inv X pins σ H { s with heap:=h',toks:=s.toks }:=J1.turnE (hI0 H nI.2.1) λc u n e=>hk' c u n e;have J3:=(J2.repin (hS0 H nS.2.1) hS' (λv z=>by cases z)).turnE (t':=s.toks) (hS0 H nS.2.1) λc u n e=>(s1.2 c n).trans e;exact⟨b,H,J3,rb,hQ⟩
 |succ m ih=>
  intro j b vb kb tk c oI H s J hit rb hgo;obtain⟨xs,x,hsr,hxj,hG,hgo⟩:=hgo;obtain⟨its,hv,hil⟩:=hsrc _ _ _ _ J hsr;obtain⟨u,hu,ru⟩:=hv.get hxj;have nS:=J.pin (S,seqObj "list" #[vb,.int kb tk] c) (gv _ gy);have nI:=J.pin (It,oI) (gv _ (gp _ gy));refine iT PySem.F.entry_max_loop ?_;rw[Around.under_plainId PySem.F.plain_max_loop _];show wpAny _ X.A.in1 (seqItems? (.ref S) >>= _) _ _ _;refine gh (iK nS.1 rfl ?_);show wpAny _ X.A.in1 (tryCatch (pyNext (.ref It)) _ >>= _) _ _ _;refine gh (iP (jA hit hil (x:=u) (by simpa using hu) λh' hit' hs'=>?_));obtain⟨oI',hoI',hoc,hod⟩:=id hit';have hSh':h'.get? S=some (seqObj "list" #[vb,.int kb tk] c):=(hs'.2 S hSI).trans nS.1;have dI:∀v,oI'.data≠.cell v:=λv z=>by rw[hod]at z;cases z
  have J1:Inv X ((It,oI)::pins) σ H s:=J.pins_of λp hp=>J.pin p (gv _ (gp _ hp));have J2:Inv X pins σ H { s with heap:=h',toks:=s.toks }:=J1.turnE (hI0 H nI.2.1) λc u n e=>(hs'.2 c n).trans e;have J3:=(J2.repin (hI0 H nI.2.1) hoI' dI).repin ((hS0 H nS.2.1).more hSI.symm) hSh' (λv z=>by cases z);show wpAny _ X.A.in1 (tryCatch (holding [u] (call (.ref f) [u])) _ >>= _) _ _ _;refine gh (iP (il (hZ (turn _ H _ x u _ (λp hp=>gp _ (gp _ hp)) J3 ru hG hgo) (λv s2 he=>?_) λ_ _ hF=>hF.elim)));obtain⟨k,H2,J4,rk,n,rfl,hgo2⟩:=he;obtain⟨t2,rfl⟩:=rk;have nS2:=J4.pin (S,seqObj "list" #[vb,.int kb tk] c) (gv _ gy);have nI2:=J4.pin (It,oI') (gv _ (gp _ gy));show wpAny _ X.A.in1 (tryCatch (holding [u,.int n t2] (richCompare .Gt (.int n t2) (.int kb tk) >>= _)) _ >>= _) _ _ _;refine gh (iP (il (gh (richCompare_gives (op:=.Gt) (j7 s2 _ t2) (j7 s2 _ tk) F.slot_int_gt F.entry_int_gt (F.args_int_gt_2 _ _) (gives_int_gt _ _ t2 tk) (λx=>nomatch x) ?_))));refine gh (il (iW ?_));refine gh (iO (gn ?_));by_cases hb':n>kb
  .have s1:=Heap.SameBut.update s2.heap S (Obj.mapSeq λ_=>#[u,.int n t2]);obtain⟨c2,hc2⟩:∃c2,(s2.heap.update S (Obj.mapSeq λ_=>#[u,.int n t2])).get? S=some (seqObj "list" #[u,.int n t2] c2):=⟨_,je nS2.1 λ_=>#[u,.int n t2]⟩
   simp only[hb',decide_true,i3]at hgo2 ⊢;refine gh ?_;refine jw nS2.1 rfl (gh (iO ?_));rw[hname];have J5:Inv X ((S,seqObj "list" #[vb,.int kb tk] c)::pins) σ H2 s2:=J4.pins_of λp hp=>by
    rcases mem_cons.mp hp with rfl|hp
    .exact nS2
    .exact J4.pin p (gv _ (gp _ (gp _ hp)))
   have J6:Inv X pins σ H2 { s2 with heap:=s2.heap.update S (Obj.mapSeq λ_=>#[u,.int n t2]),toks:=s2.toks }:=J5.turnE (hS0 H2 nS2.2.1) λc u n e=>(s1.2 c n).trans e;have gI:(s2.heap.update S (Obj.mapSeq λ_=>#[u,.int n t2])).get? It=some oI':=(s1.2 It hSI.symm).trans nI2.1;have J7:=(J6.repin (hI0 H2 nI2.2.1) gI dI).repin ((hS0 H2 nS2.2.1).more hSI.symm) hc2 (λv z=>by cases z);exact gn ⟨j8 PySem.F.plain_max_loop _,ih (j+1) x u n t2 c2 oI' H2 _ J7 ⟨oI',gI,hoc,hod⟩ ru hgo2⟩
  .simp only[hb',decide_false,Bool.false_eq_true,ip]at hgo2 ⊢;refine gh (iO ?_);rw[hname];exact gn ⟨j8 PySem.F.plain_max_loop _,ih (j+1) b vb kb tk c oI' H2 _ J4 ⟨oI',nI2.1,hoc,hod⟩ rb hgo2⟩
def Xn{H:Hp}{s:Shared}(hh:X.A.handled=none)(I:Inv X pins σ H s)(hsrc:∀pins' H' s' xs,Inv X pins' σ H' s'->src H' xs->∃its:List Value,Vals xs its/\s'.heap.IsList l 109)
 (turn:∀(pins':List 78) (H1:Hp) (s1:Shared) (x:V) (u:Value) (Q1:VK),(∀p∈pins,p∈pins')->Inv X pins' σ H1 s1->RelV x u->G H1->tb (some x::cap) H1 Q1->wpAny 69 X.A.in1 (call (.ref f) [u]) (EP X pins' σ Q1) (λ_ _=>False) s1)
 {m:Nat} (h:Nn (λn m=>decide (n>m)) src G tb cap m H Q):wpAny 69 X.A (call (.builtin "max") [.ref l] [(Str.ofString "key",.ref f)]) (EP X pins σ Q) E s:=by
 have hname:(toString "max"++toString ".loop":String)="max.loop":=by decide
 obtain⟨xs,x,hsr,hx0,hG,hgo⟩:=h;obtain⟨_,_,hls⟩:=hsrc _ _ _ _ I hsr;refine kmk_tree PySem.F.kind_max PySem.F.plain_max PySem.F.entry_max (kmk_max_key _ _) ?_;show wpAny _ X.A.in1 (Builtin.Builtins.bindParams "max" ["key","default"] 0 ⟨[],[(Str.ofString "key",.ref f)]⟩ >>= _) _ _ s;refine gh (wpAny_of_eq (show Builtin.Builtins.bindParams "max" ["key","default"] 0 ⟨[],[(Str.ofString "key",.ref f)]⟩=pure [some (.ref f),none]from rfl) ?_);refine gh (gn ?_);refine gh (wpAny_pyIter_list hls ?_);refine gh (jv ?_ (iB _));rw[hname];have hS:(76).objs.size=66+1:=size_push' ..;rw[hS];have gI:((76).push 119).get? 66=some { cls:=.type "list_iterator",data:=.fields #[.ref l,.int 0 0] }:=
  74 _ (87 _ rfl)
 have gS:((76).push 119).get? (66+1)=some 119:=by rw[<- hS];exact 87 _ rfl
 have kp:∀b o,s.heap.get? b=some o->((76).push 119).get? b=some o:=λb o e=>74 _ (74 _ e);have I1:Inv X pins σ H { s with heap:=(s.heap.push { cls:=.type "list_iterator",data:=.fields #[.ref l,.int 0 0] }).push (seqObj "list" #[] 0),toks:=s.toks }:=I.kept (t':=s.toks) kp;have hSI:66+1≠s.heap.objs.size:=iC (jk _);have hI0:∀H',H' 66=none->FpOk X pins H' s.heap.objs.size:=λH' hn=>I.fpOk (gm _) hn;have hS0:∀H',H' (66+1)=none->FpOk X pins H' (66+1):=λH' hn=>I.fpOk (iV _) hn;have nI:H 66=none:=I.hok.fresh (gm _);have nS:H (66+1)=none:=I.hok.fresh (iV _);generalize (76).push 119=h1 at gI gS I1 ⊢;refine gn ⟨j8 PySem.F.plain_max_loop _,?_⟩;refine iT PySem.F.entry_max_loop ?_;rw[Around.under_plainId PySem.F.plain_max_loop _];show wpAny _ X.A.in1 (seqItems? (.ref (66+1)) >>= _) _ _ _;refine gh (iK gS rfl ?_);show wpAny _ X.A.in1 (tryCatch (pyNext (.ref 66)) _ >>= _) _ _ _;obtain⟨its,hv,hil⟩:=hsrc _ _ _ _ I1 hsr;obtain⟨u,hu,ru⟩:=hv.get hx0;refine gh (iP (jA (i:=0) ⟨_,gI,rfl,rfl⟩ hil (x:=u) (by simpa using hu) λh' hit' hs'=>?_));obtain⟨oI',hoI',hoc,hod⟩:=id hit';have dI:∀v,oI'.data≠.cell v:=λv z=>by rw[hod]at z;cases z
 have hSh':h'.get? (66+1)=some 119:=(hs'.2 _ hSI).trans gS;have J2:Inv X pins σ H { s with heap:=h',toks:=s.toks }:=(I1.repin (hI0 H nI) gI (λv z=>by cases z)).turnE (hI0 H nI) λc u n e=>(hs'.2 c n).trans e;have J3:=(J2.repin (hI0 H nI) hoI' dI).repin ((hS0 H nS).more hSI.symm) hSh' (λv z=>by cases z);show wpAny _ X.A.in1 (tryCatch (holding [u] (call (.ref f) [u])) _ >>= _) _ _ _;refine gh (iP (il (hZ (turn _ H _ x u _ (λp hp=>gp _ (gp _ hp)) J3 ru hG hgo) (λv s2 he=>?_) λ_ _ hF=>hF.elim)));obtain⟨k,H2,J4,rk,n,rfl,hgo2⟩:=he;obtain⟨t2,rfl⟩:=rk;have nS2:=J4.pin (66+1,seqObj "list" #[] 0) (gv _ gy);have nI2:=J4.pin (66,oI') (gv _ (gp _ gy));have s1:=Heap.SameBut.update s2.heap (66+1) (Obj.mapSeq λ_=>#[u,.int n t2]);obtain⟨c2,hc2⟩:∃c2,(s2.heap.update (s.heap.objs.size+1) (Obj.mapSeq λ_=>#[u,.int n t2])).get? (s.heap.objs.size+1)=some (seqObj "list" #[u,.int n t2] c2):=⟨_,je nS2.1 λ_=>#[u,.int n t2]⟩
 show wpAny _ X.A.in1 (updateSeq (66+1) (λ_=>#[u,.int n t2]) >>= _) _ _ _;refine gh ?_;refine jw nS2.1 rfl ?_;rw[hname];have J5:Inv X ((66+1,seqObj "list" #[] 0)::pins) σ H2 s2:=J4.pins_of λp hp=>by
  rcases mem_cons.mp hp with rfl|hp
  .exact nS2
  .exact J4.pin p (gv _ (gp _ (gp _ hp)))
 have J6:Inv X pins σ H2 { s2 with heap:=s2.heap.update (s.heap.objs.size+1) (Obj.mapSeq λ_=>#[u,.int n t2]),toks:=s2.toks }:=J5.turnE (hS0 H2 nS2.2.1) λc u n e=>(s1.2 c n).trans e;have gI2:(s2.heap.update (66+1) (Obj.mapSeq λ_=>#[u,.int n t2])).get? 66=some oI':=(s1.2 _ hSI.symm).trans nI2.1;have J7:=(J6.repin (hI0 H2 nI2.2.1) gI2 dI).repin ((hS0 H2 nS2.2.1).more hSI.symm) hc2 (λv z=>by cases z);exact gn ⟨j8 PySem.F.plain_max_loop _,Ud hh hsrc hSI 0 hI0 hS0 turn m 1 x u n t2 c2 oI' H2 _ J7 ⟨oI',gI2,hoc,hod⟩ ru hgo2⟩
end
def M0(K:Frag)(P:Addr)(q:Str)(pos:Pos)(ix:List Nat)(te tb:TE):TE:=λσ H Q=>te σ H λv H1=>∃(a:Addr) (m:Nat) (ps:Array Value),v=.ref a/\H1 P=some (.tbl ps)/\D4 H1 q pos ps /\
 ∀H2 c,TabStep P q pos H1 H2->H2 c=some (.ext (cdF c q))->Nn (λn m=>decide (n>m)) (λH xs=>SqL K H a xs) (λH=>H c=some (.ext (cdF c q))) tb (ix.map λi=>(σ[i]?).join) m H2 Q
section
variable{X:Cx}{c P:Addr}{scope:Scope}{fr:List Str}{ix:List Nat}{prm:Str}{params:Arguments}{body e:Expr}{p pos lpos kpos:Pos}{te tb:TE}
def XX(LA:LamAt X c P)(S:CSc X scope fr ix)(L:LSc scope prm)(hr:Room 3 X.A)(hcm:X.calm=true)(hg:Gl X "max")(hm:X.mg "max"=none)
 (hbind:∀(cl:List (Str×Addr)) (pm cd ctv us:Value),bindArgs 112 ⟨[us],[]⟩=pure [(prm,us)])
 (he:PE X e te) (hb:∀(f:Addr) (cd:Value) (s:Shared) (H:Hp),PE (lCx X X.A.in1 (prm::fr) 73 scope f cd 86 s H) body tb)
 (hdef:defaultsOf params X.env=([],[]):=by rfl) (hs:starEach [e] X.env=[88]:=by rfl):
 PE X (.Call (.Name "max" p) [e] [⟨some "key",.Lambda params body scope lpos,kpos⟩] pos) (M0 X.K P 73 lpos ix te tb):=by
 intro pins s σ H Q I h;have PAe:PA X [e] (BB te Bp):=BV he CK hs;refine j6 (Cn (u:=.builtin "max") I hg hm bt_max ?_);have pl:(backTo pos (starEach [e] X.env)).any (·.1)=false:=by rw[hs];rfl
 refine callWith_builtin_kwB pl rfl (evalArgs_kw2 (env:=X.env) (e:=e) (rest:=[]) (kws:=[⟨some "key",.Lambda params body scope lpos,kpos⟩]) rfl (thn (PAe pos pins s σ H (λvs H1=>match vs with
  |[v]=>∃(a:Addr) (m:Nat) (ps:Array Value),v=.ref a/\H1 P=some (.tbl ps)/\D4 H1 73 lpos ps /\
   ∀H2 c,TabStep P 73 lpos H1 H2->H2 c=some (.ext (cdF c 73))->Nn (λn m=>decide (n>m)) (λH xs=>SqL X.K H a xs) (λH=>H c=some (.ext (cdF c 73))) tb (ix.map λi=>(σ[i]?).join) m H2 Q
  | _=>False) I h) λus s1 hq=>?_) hs)
 obtain⟨vs,H1,I1,r,q⟩:=hq
 match vs,q with
 |[v],q=>
 obtain⟨a,m,ps,rfl,hP,hg1,go⟩:=q;obtain⟨u,rfl,ru⟩:=C4 r;cases ru;show wpAny _ _ (evalAll [(do let v <- eval (.Lambda params body scope lpos) X.env;standAt pos;pure v)]) _ _ s1;refine jC (gh (Gb S LA I1 hdef hP hg1 λf cd ctv H2 s2 I2 M=>gh (j5 (gn (jD ?_)))));show wpAny _ _ (call (.builtin "max") [.ref a] [(Str.ofString "key",.ref f)]) _ _ s2;obtain⟨c',rfl,hc'⟩:=M.cdc;have go':=go H2 c' M.step hc';have ff:FpOk X pins H2 f:=I1.fpOk M.new M.fre;have I3:=I2.repin ff M.fn (λv z=>by cases z);refine hZ (Xn (pins:=(f,_)::pins) (I3.ok.hd hcm) I3 (λpins' H' s' xs J hG=>?_) (λpins' H' s' x u Q1 sub J ru hG hq=>?_) go') (λv s' hv=>?_) λ_ _ z=>z
 .obtain⟨its,rv,pl2,hz⟩:=J.list hG;exact⟨its,rv,pl2.isList⟩
 .have pf:=J.pin (f,_) (gv _ (sub _ gy));exact Iz (A:=X.A.in1) (f:=f) S L J rfl (hr.in1.mono 77) pf.1 (J.hok c' _ hG).1 (λus=>hbind _ _ _ _ us) (λs H=>hb f _ s H) ru hq
 .obtain⟨y,H',J,ry,qy⟩:=hv;exact⟨y,H',J.pins_of λp hp=>J.pin p (gv _ (gp _ hp)),ry,qy⟩
end
open Classical in
def Gc(mb:ME)(cap:Ls)(hd:Hd):List D->Option (List Int)
 |[]=>some []
 |d::r=>match mb (some d::cap) hd with
  |some (.im (.int n),h)=>match Gc mb cap hd r with
   |some ks=>if h=hd then some (n::ks)else none
   |none=>none
  |_=>none
def DL(op:Int->Int->Bool):List D->List Int->D->Int->D
 |x::r,n::ns,b,kb=>if op n kb=true then DL op r ns x n else DL op r ns b kb
 |_,_,b,_=>b
def FH(op:Int->Int->Bool)(mi:ME)(ix:List Nat)(mb:ME):ME:=λls hd=>(mi ls hd).bind λp=>(Am p.2 p.1).bind λds=>(Gc mb (ix.map λi=>(ls[i]?).join) p.2 ds).bind λkz=>match ds,kz with
 |d::r,n::ns=>some (DL op r ns d n,p.2)
 |_,_=>none
section
variable{K:Frag}{hd:Hd}
def JV{ρ:List Addr}{H:Hp}{ls:Ls}{σ:St}{ix:List Nat}{d:D}{v:V}(L:RL K ρ H ls σ)(r:RD K ρ H d v):RL K ρ H (some d::ix.map λi=>(ls[i]?).join) (some v::ix.map λi=>(σ[i]?).join):=by
 refine⟨by simp,λi d' ei=>?_⟩;cases i with
 |zero=>cases ei;exact⟨v,rfl,r⟩
 |succ j=>
  have ei:(ix.map λi=>(ls[i]?).join)[j]?=some (some d'):=ei;rw[List.getElem?_map]at ei;cases qj:ix[j]? with
  |none=>rw[qj]at ei;cases ei
  |some m=>
   rw[qj]at ei;have ei:(ls[m]?).join=some d':=114 ei;have em:ls[m]?=some (some d'):=by
    cases w:ls[m]? with
    |none=>rw[w]at ei;cases ei
    |some z=>rw[w]at ei;simpa using ei
   obtain⟨v,ev,rv⟩:=L.ob m d' em;refine⟨v,?_,rv⟩;show(ix.map λi=>(σ[i]?).join)[j]?=some (some v);rw[List.getElem?_map,qj];simp[ev]
theorem Kf{op:Int->Int->Bool}{tb:TE}{mb:ME}{ix:List Nat}{q:Str}{c a:Addr}{d1:D}{ds:List D}(hb:RE K tb mb){ls:Ls}{σ:St}(ev:Am hd d1=some ds):∀(rs:List D) (ns:List Int) (j:Nat) (bd:D) (bv:V) (kb:Int) (ρ:List Addr) (H:Hp) (Q:VK),ds.drop j=rs->j<=103 ->
 Gc mb (ix.map λi=>(ls[i]?).join) hd rs=some ns->RH K ρ H hd->RL K ρ H ls σ->H c=some (.ext (cdF c q))->RD K ρ H d1 (.ref a)->RD K ρ H bd bv ->
 (∀ρ' H' v,Ext ρ H ρ' H'->RH K ρ' H' hd->RD K ρ' H' (DL op rs ns bd kb) v->Q v H') ->
 IC op (λH xs=>SqL K H a xs) (λH=>H c=some (.ext (cdF c q))) tb (ix.map λi=>(σ[i]?).join) rs.length j bv kb H Q
 |[],ns,j,bd,bv,kb,ρ,H,Q,hr,hj,e,R,L,hc,r1,rb,k=>by
  obtain⟨a',xs,ea,sq,rs⟩:=RD.lst R r1 ev;cases ea;have hl:=rs.len;have hd0:=iw List.length hr;simp at hd0;refine⟨⟨xs,sq,by omega⟩,k ρ H bv .refl R ?_⟩;cases e;exact rb
 |x::r,ns,j,bd,bv,kb,ρ,H,Q,hr,hj,e,R,L,hc,r1,rb,k=>by
  obtain⟨a',xs,ea,sq,rs⟩:=RD.lst R r1 ev;cases ea;have hjl:j<ds.length:=by
   have:=iw List.length hr;simp at this;omega
  have hxj:ds[j]?=some x:=by
   rw[iN hjl]at hr;rw[List.getElem?_eq_getElem hjl,(List.cons.inj hr).1]
  have hr':ds.drop (j+1)=r:=by
   rw[iN hjl]at hr;exact(List.cons.inj hr).2
  obtain⟨v,hv,rv⟩:=rs.get hxj;unfold Gc at e;split at e
  .next n h e1=>
   split at e
   .next ks e2=>
    split at e
    .next eh=>
     cases e;rw[eh]at e1;refine⟨xs,v,sq,hv,hc,hb ρ _ H _ _ _ (.im (.int n)) _ R (JV L rv) e1 λρ1 H1 v1 x1 R1 rk=>?_⟩;simp only[RD,RI]at rk;subst rk;have oc:c∉ρ:=λm=>by rcases R.mut m with⟨y,w⟩|⟨y,w⟩<;>(rw[hc]at w;cases w)
     refine⟨n,rfl,?_⟩;by_cases hop:op n kb=true
     .rw[gi hop];refine Kf hb ev r ks (j+1) x v n ρ1 H1 Q hr' hjl e2 R1 (L.ext R x1) (x1.keep c _ hc oc nt) (r1.ext R x1) (rv.ext R x1) λρ2 H2 w x2 R2 r2=>k ρ2 H2 w 83 R2 ?_;rw[DL,gi hop];exact r2
     .rw[gj hop];refine Kf hb ev r ks (j+1) bd bv kb ρ1 H1 Q hr' hjl e2 R1 (L.ext R x1) (x1.keep c _ hc oc nt) (r1.ext R x1) (rb.ext R x1) λρ2 H2 w x2 R2 r2=>k ρ2 H2 w 83 R2 ?_;rw[DL,gj hop];exact r2
    .cases e
   .cases e
  .cases e
def WR{te tb:TE}{mi mb:ME}{P:Addr}{q:Str}{pos:Pos}{ix:List Nat}(hi:RE K te mi)(hb:RE K tb mb)(TI:Fk K P q pos):RE K (M0 K P q pos ix te tb) (FH (λn m=>decide (n>m)) mi ix mb):=by
 and_intros;obtain⟨⟨d1,h1⟩,e1,hm⟩:=c5 hm;obtain⟨ds,e2,hm⟩:=c5 hm;obtain⟨kz,e3,hm⟩:=c5 hm;dsimp only at hm e2 e3;split at hm
 .next x r n ns _=>
  cases hm;refine hi ρ σ H hd ls _ d1 _ hR hL e1 λρ1 H1 v1 x1 R1 r1=>?_;obtain⟨a,xs,rfl,sq,rs⟩:=RD.lst R1 r1 e2;obtain⟨p',et,_,l1,l2⟩:=id TI;obtain⟨ps,hP,hG⟩:=R1.tabs (P,q,p') et;have hG':D4 H1 q pos ps:=by
   rcases hG with g|⟨c,g1,g2⟩
   .exact .inl g
   .refine .inr ⟨c,?_,g2⟩;rw[g1];show #[rawInt p'.line,rawInt p'.col,Value.ref c]=_;rw[l1,l2]
  refine⟨a,r.length,ps,rfl,hP,hG',λH2 c step hc=>?_⟩;obtain⟨R2,x2⟩:=GP R1 hP step TI;have x12:=x1.trans R1 x2;have L2':=hL.ext hR x12;have r2:=r1.ext R1 x2;obtain⟨a',xs,ea,sq,rs⟩:=RD.lst R2 r2 e2;cases ea;obtain⟨v,hv,rv⟩:=rs.get (i:=0) (d:=x) rfl;unfold Gc at e3;split at e3
  .next n' h e4=>
   split at e3
   .next ks e5=>
    split at e3
    .next eh=>
     cases e3;rw[eh]at e4;refine⟨xs,v,sq,hv,hc,hb ρ1 _ H2 _ _ _ (.im (.int n)) _ R2 (JV L2' rv) e4 λρ3 H3 v3 x3 R3 rk=>?_⟩;simp only[RD,RI]at rk;subst rk;have oc:c∉ρ1:=λm=>by rcases R2.mut m with⟨y,w⟩|⟨y,w⟩<;>(rw[hc]at w;cases w)
     refine⟨n,rfl,Kf hb e2 r ns 1 x v n ρ3 H3 Q rfl 75 e5 R3 (L2'.ext R2 x3) (x3.keep c _ hc oc nt) (r2.ext R2 x3) (rv.ext R2 x3) λρ4 H4 w x4 R4 r4=>hQ ρ4 H4 w ((x12.trans R2 x3).trans R3 x4) R4 r4⟩
    .cases e3
   .cases e3
  .cases e3
 .cases hm
end
def X4(K:Frag){X:Cx}{c P:Addr}{scope:Scope}{fr:List Str}{ix:List Nat}{prm:Str}{params:Arguments}{body e:Expr}{p pos lpos kpos:Pos}{te tb:TE}{mi mb:ME}{k:Nat}(LA:LamAt X c P)(TI:Fk K P 73 lpos)(S:CSc X scope fr ix)(L:LSc scope prm)(hr:Room k X.A)(h3:3<=k)(hm:X.mg "max"=none)
 (he:QE K X e te mi) (hb:∀(f:Addr) (cd:Value) (s:Shared) (H:Hp),QE K (lCx X X.A.in1 (prm::fr) 73 scope f cd 86 s H) body tb mb)
 (hbind:∀(cl:List (Str×Addr)) (pm cd ctv us:Value),bindArgs 112 ⟨[us],[]⟩=pure [(prm,us)])
 (hcm:X.calm=true:=by rfl) (hg:Gl X "max":=by rfl) (hdef:defaultsOf params X.env=([],[]):=by rfl) (hs:starEach [e] X.env=[88]:=by rfl) (hK:X.K=K:=by rfl):
 QE K X (.Call (.Name "max" p) [e] [⟨some "key",.Lambda params body scope lpos,kpos⟩] pos) (M0 K P 73 lpos ix te tb) (FH (λn m=>decide (n>m)) mi ix mb):=by
 subst hK;exact⟨XX LA S L (hr.mono h3) hcm hg hm hbind he.p (λf cd s H=>(hb f cd s H).p) hdef hs,WR he.r (hb 0 .none X.s₀ X.H₀).r TI⟩
def T6{op:Int->Int->Bool}{mi mb:ME}{ix:List Nat}{ls:Ls}{hd:Hd}{QE:D->Hd->Prop}(h:WE mi ls hd λd x=>∃(e:D) (es:List D) (kf:D->Int),Am x d=some (e::es)/\(∀y∈e::es,mb (some y::ix.map λi=>(ls[i]?).join) x=some (.im (.int (kf y)),x))/\QE (DL op es (es.map kf) e (kf e)) x):WE (FH op mi ix mb) ls hd QE:=by
 obtain⟨d,x,e1,e,es,kf,e2,ek,q⟩:=h;have go:∀ys:List D,(∀y∈ys,mb (some y::ix.map λi=>(ls[i]?).join) x=some (.im (.int (kf y)),x))->Gc mb (ix.map λi=>(ls[i]?).join) x ys=some (ys.map kf):=by
  intro ys
  induction ys with
  |nil=>intro _;rfl
  |cons y r ih=>
   intro h;unfold Gc;rw[h y gy,ih λz hz=>h z (gp _ hz)];simp
 refine⟨_,x,?_,q⟩;simp only[FH,e1,gw,e2,go _ ek,gq]
theorem JD(kf:D->Int):∀(es:List D) (b:D),DL (λn m=>decide (n>m)) es (es.map kf) b (kf b)∈b::es/\∀y∈b::es,kf y<=kf (DL (λn m=>decide (n>m)) es (es.map kf) b (kf b))
 |[],b=>⟨gy,λy hy=>by rw[i4]at hy;subst hy;exact Int.le_refl _⟩
 |e::es,b=>by
  rw[gq,DL];by_cases h:kf e>kf b
  .rw[gi (by simpa using h)];obtain⟨h1,h2⟩:=JD kf es e;refine⟨gp _ h1,λy hy=>?_⟩;rcases mem_cons.mp hy with rfl|hy
   .have:=h2 e gy;omega
   .exact h2 y hy
  .rw[gj (by simpa using h)];obtain⟨h1,h2⟩:=JD kf es b;refine⟨?_,λy hy=>?_⟩
   .rcases mem_cons.mp h1 with q|q
    .rw[q];exact gy
    .exact gp _ (gp _ q)
   .rcases mem_cons.mp hy with rfl|hy
    .exact h2 y gy
    .rcases mem_cons.mp hy with rfl|hy
     .have:=h2 b gy;omega
     .exact h2 y (gp _ hy)
end L2
namespace L2
open PySem PySem.W
def tg1:Expr->List Str
 |.Name x _=>[x]
 |_=>[]
def tg2:Expr->List Str
 |.Tuple es _ _=>es.flatMap tg1
 |e=>tg1 e
def tgN:Expr->List Str
 |.Tuple es _ _=>es.flatMap tg2
 |e=>tg1 e
def frN(X:Cx)(ix:List Nat):List Str:=ix.filterMap λi=>X.N[i]?
def ndB:List Str->Bool
 |[]=>true
 |x::xs=>!xs.elem x&&ndB xs
theorem Hm:∀{l:List Str},ndB l=true->l.Nodup
 |[],_=>List.nodup_nil
 |x::xs,h=>by
  obtain⟨h1,h2⟩:=Bool.and_eq_true_iff.mp h;refine nodup_cons.mpr ⟨λhm=>?_,Hm h2⟩;rw[List.elem_eq_true_of_mem hm]at h1;cases h1
section
variable{K:Frag}{X:Cx}{elt tg iter tg' iter' e:Expr}{ifs ifs':List Expr}{scope:Scope}{pos spos py:Pos}{ix:List Nat}{wi wi':TI}{g g':TG}{tf tf':TT}{te tk tv:TE}{mi mi':MI}{n n':MG}{mf mf':MT}{me mk mv:ME}{k i:Nat}{x y:Str}
def qgA(hN:ndB X.N=true:=by kernel_rfl)(hi:X.N[i]?=some x:=by rfl)(hx:Loc X.env.scope x:=by first|exact Or.inl rfl|exact Or.inr rfl)(hf:X.fn x=true∨X.env.scope.names.lookup x=some .local:=by first|exact .inl rfl|exact .inr rfl):QG K X (.Name x pos) (EG i) (AG i):=X1 K (Hm hN) hi hx hf
def qnA(hi:QI K X tg iter wi mi)(hg:∀s H ex,QG K (cCx X (tgN tg++frN X ix) scope s H ex) tg g n)(hf:∀s H ex,QF K (cCx X (tgN tg++frN X ix) scope s H ex) ifs tf mf)(he:∀s H ex,QE K (cCx X (tgN tg++frN X ix) scope s H ex) elt te me)
 (hc:X.calm=true:=by rfl) (S:CSc X scope (frN X ix) ix:=by exact⟨rfl,by decide +kernel,rfl,rfl,rfl,by decide +kernel⟩) (hs:∀x,foldedSetIterable iter X.env x=pure x:=by intro _;rfl) (hk:(tgN tg).length=k:=by rfl):
 QN K X 91 (GQ k ix wi g tf te) (Ae k ix mi n mf me):=by
 subst hk;exact Ww K hc S hi hg hf he hs
def dU(hi:QI K X tg iter wi mi)(hg:∀s H ex,QG K (cCx X (tgN tg++frN X ix) scope s H ex) tg g n)(hf:∀s H ex,QF K (cCx X (tgN tg++frN X ix) scope s H ex) ifs tf mf)(he:∀s H ex,QE K (cCx X (tgN tg++frN X ix) scope s H ex) elt te me)
 (hsw:swapsWith 91 (some (.Name y py)) spos.line X.env=pure true:=by rfl) (hN:ndB X.N=true:=by kernel_rfl) (hiN:X.N[i]?=some y:=by rfl) (hy:X.env.scope.names.lookup y=some .local:=by rfl)
 (hc:X.calm=true:=by rfl) (S:CSc X scope (frN X ix) ix:=by exact⟨rfl,by decide +kernel,rfl,rfl,rfl,by decide +kernel⟩) (hs:∀x,foldedSetIterable iter X.env x=pure x:=by intro _;rfl) (hk:(tgN tg).length=k:=by rfl):
 QS K X (.Assign [.Name y py] 91 spos) (F9 (GQ k ix wi g tf te) (EG i)) (AI i (B8 (Ae k ix mi n mf me))):=by
 subst hk;exact Wl K (Hm hN) hiN hy hc S hi hg hf he hsw hs
def qsA{pos':Pos}(he:QE K X e te me)(hs:swapsWith e (some (.Name x pos')) pos.line X.env=pure false:=by rfl)(hN:ndB X.N=true:=by kernel_rfl)(hi:X.N[i]?=some x:=by rfl)(hx:Loc X.env.scope x:=by first|exact Or.inl rfl|exact Or.inr rfl)(hf:X.fn x=true∨X.env.scope.names.lookup x=some .local:=by first|exact .inl rfl|exact .inr rfl):
 QS K X (.Assign [.Name x pos'] e pos) (F9 te (EG i)) (AI i me):=ZR K (Hm hN) hi hx he hs hf
end
end L2
namespace L2
open PySem PySem.Spec PyProof.Rows PySem.W
abbrev Tb:=Addr×Str×Nat×Nat
def Xq(ts:List Tb):Obj:={ cls:=.str "tables" 0,data:=.fields (ts.flatMap λt=>[.ref t.1,.str t.2.1 0,.int t.2.2.1 0,.int t.2.2.2 0]).toArray }
def BR(K:Frag)(ts:List Tb):Frag:=(K.filter λp=>!(ts.map (·.1)).contains p.1)++[(mainGlobals,Xq ts)]
theorem Qu:∀ts:List Tb,Lv (ts.flatMap λt=>[Value.ref t.1,.str t.2.1 0,.int t.2.2.1 0,.int t.2.2.2 0])=ts.map λt=>(t.1,t.2.1,⟨t.2.2.1,t.2.2.2,0,0⟩)
 |[]=>rfl
 |t::r=>by
  rw[List.flatMap_cons,gq,<- Qu r];rfl
def HN(K:Frag)(ts:List Tb):Ck (BR K ts)=ts.map λt=>(t.1,t.2.1,⟨t.2.2.1,t.2.2.2,0,0⟩):=by
 unfold Ck BR;rw[List.getLast?_concat];show Lv _=_;rw[<- Qu ts]
theorem Fq{L:List Addr}{a:Addr}(ha:a∉L):∀K:Frag,(K.filter λp=>!L.contains p.1).lookup a=K.lookup a
 |[]=>rfl
 |(b,o)::r=>by
   have ih:=Fq ha r;rw[ic];by_cases hb:b∈L
   .have h1:(!L.contains (b,o).1)=false:=by simp[hb]
    have h2:(a==b)=false:=beq_eq_false_iff_ne.mpr λz=>ha (z ▸ hb);rw[gj (by rw[h1];decide),i7,h2,ih]
   .have h1:(!L.contains (b,o).1)=true:=by simp[hb]
    rw[gi h1,i7,i7,ih]
theorem Ht{L:List Addr}{P:Addr}(hP:P∈L):∀K:Frag,(K.filter λp=>!L.contains p.1).lookup P=none
 |[]=>rfl
 |(b,o)::r=>by
   have ih:=Ht hP r;rw[ic];by_cases hb:b∈L
   .rw[gj (by simp[hb])];exact ih
   .have h2:(P==b)=false:=beq_eq_false_iff_ne.mpr λz=>hb (z ▸ hP);rw[gi (by simp[hb]),i7,h2];exact ih
section
variable{K:Frag}{ts:List Tb}
def Ho{a:Addr}{o:Obj}(ha:a∉ts.map (·.1))(e:K.lookup a=some o):(BR K ts).lookup a=some o:=by
 unfold BR;rw[j3,Fq ha,e];rfl
def Xp{h:Heap}(X:K.In h){g:Obj}(hg:K.lookup mainGlobals=some g)(hP:mainGlobals∉ts.map (·.1)):(BR K ts).In h:=λa o e=>by
 unfold BR at e;rw[j3]at e;by_cases ha:a∈ts.map (·.1)
 .rw[Ht ha,none_or]at e;have h2:(a==mainGlobals)=false:=beq_eq_false_iff_ne.mpr λz=>hP (z ▸ ha);rw[i7,h2]at e;cases e
 .rw[Fq ha]at e;cases k:K.lookup a with
  |some o'=>rw[k]at e;cases e;exact X _ _ k
  |none=>
   rw[k,none_or,i7]at e;by_cases hm:a=mainGlobals
   .subst hm;rw[hg]at k;cases k
   .rw[beq_eq_false_iff_ne.mpr hm]at e;cases e
def Xo(hM:mainGlobals∉ts.map (·.1)){P:Addr}(hP:P∈ts.map (·.1)):(BR K ts).lookup P=none:=by
 unfold BR;have h2:(P==mainGlobals)=false:=beq_eq_false_iff_ne.mpr λz=>hM (z ▸ hP);rw[j3,Ht hP,none_or,i7,h2];rfl
def Fun.mark{x qual:Str}{st:Stmt}{f:Addr}{fd:FuncData}(D:Fun K x qual st f fd){h:Heap}(X:K.In h)(hP:∀P∈ts.map (·.1),h.get? P=some (tabObj #[])):Fun (BR K ts) x qual st f fd:=by
 have neP:∀a o,K.lookup a=some o->o≠tabObj #[]->a∉ts.map (·.1):=λa o e n z=>by
  have:=X _ _ e;rw[hP a z]at this;exact n (114 this).symm
 obtain⟨⟨oc,od,kV,doc,pm,an,cdv,ct,osl,rfl,lk,hcd⟩,kp⟩:=D;have hf:f∉ts.map (·.1):=neP f _ lk (λz=>by cases z);refine⟨⟨oc,od,kV,doc,pm,an,cdv,ct,osl,rfl,Ho hf lk,?_⟩,?_⟩
 .unfold codeIn at hcd ⊢;split at hcd
  .next c0=>
   split at hcd
   .next vs sl k=>
    have hc:c0∉ts.map (·.1):=neP c0 _ k (λz=>by
     have:vs=#[]:=by injection z with _ _ z _;injection z
     rw[this]at hcd;cases hcd)
    simp only[Ho hc k];exact hcd
   .cases hcd
  .cases hcd
 .unfold keepIn;simp only[Ho hf lk]
end
def bh{K:Frag}{H:Hp}{a:Addr}{xs:List V}(hS:SqL K H a xs)(hO:∀ys,H a≠some (.lst ys)):RoL K H a xs:=by
 rcases hS with(h|h)|h
 .exact absurd h (hO xs)
 .exact .inl h
 .exact .inr h
def SG{Pg:Program}{w:World}{K:Frag}{mg mb:Str->Option Value}{k:Nat}{fa a:Addr}{fd:FuncData}{x:Str}{ts:List Tb}{s₁:Shared}{vs:List Value}{ns:List Int}{F:List D->Hd->Option 104}
 (KX:K.In s₁.heap) (hns:s₁.heap.Ns mainGlobals mg) (hb:s₁.heap.Ns builtinsNs mb) (hbb:∀x:Str,x≠"__name__"->mb x=bootBuiltins x) (hlim:s₁.heap.NoLimit) (hg:s₁.gens=#[])
 (ha:s₁.heap.get? a=some { cls:=.type "list",data:=.seq 118 }) (hi:IntsAre vs ns) (hl:ns.length<=sizeLine) (hr:Room k callerA)
 (hT:∀P∈ts.map (·.1),∃cc,s₁.heap.TableAt cc P #[]) (hPK:∀P∈ts.map (·.1),K.lookup P=none) (htab:Ck K=ts.map λt=>(t.1,t.2.1,⟨t.2.2.1,t.2.2.2,0,0⟩))
 (Fn:∀base:Heap,K.In base->base.Ns mainGlobals mg->(∀b o,b∉ts.map (·.1)->b≠a->s₁.heap.get? b=some o->base.get? b=some o)->FnOk Pg w K mg base CX0 k fa fd [x] (spF K 1 F)) (hbind:∀(s:Shared) (u:Value),BindsTo s fd ⟨[u],[]⟩ [(x,u)])
 (hF:∃hd',F [.ro ns] []=some (.im (.bl true),hd')):
 codeAny (model Pg w) callerA (.call (.ref fa) ⟨[.ref a],[]⟩) (λr s'=>r=.ok (.ret (.bool true))/\OldK s₁.heap s'.heap/\s'.os=s₁.os/\AllBare s'.gens) s₁:=by
 have rv:=Kk hi;have lenV:=hi.length;have hP:∀P∈ts.map (·.1),s₁.heap.get? P=some (tabObj #[]):=λP h=>let ⟨cc,t⟩:=hT P h;t.2
 have haP:a∉ts.map (·.1):=λz=>by rw[hP a z]at ha;cases ha
 have core:∀H:Hp,(∀b,b∉ts.map (·.1)->H b=none∨∃o xs,H b=some (.frz o (.lst xs)))->(∀P∈ts.map (·.1),H P=some (.tbl #[]))->SqL K H a (ns.map V.int)->HOk Pg w H s₁.heap->(∀b,H b≠none->b=a∨b∈ts.map (·.1))->(H a≠none->K.lookup a=none) ->
  codeAny (model Pg w) callerA (.call (.ref fa) ⟨[.ref a],[]⟩) (λr s'=>r=.ok (.ret (.bool true))/\OldK s₁.heap s'.heap/\s'.os=s₁.os/\AllBare s'.gens) s₁:=by
  intro H hO hHP hS hok hA hK;have base_of:∀{b:Addr} {o:Obj},s₁.heap.get? b=some o->H b=none->(Gi s₁.heap H).get? b=some o:=λe n=>Uq e n;have noA:∀{b:Addr} {o:Obj} {es:Array DictEntry} {ep:Nat},s₁.heap.get? b=some o->o.data=.dict es ep->H b=none:=λ{b o es ep} e d=>by
   cases q:H b with
   |none=>rfl
   |some u=>
    rcases hA b (by rw[q];simp)with e'|e'
    .subst e';rw[ha]at e;cases e;have d':Data.seq 118 _=Data.dict es ep:=d;cases d'
    .rw[hP b e']at e;cases e;cases d
  have nsK:∀{b:Addr} {m:Str->Option Value},s₁.heap.Ns b m->(Gi s₁.heap H).Ns b m:=λ{b m} ⟨o,es,ep,e,d,r⟩=>⟨o,es,ep,base_of e (noA e d),d,r⟩
  have hKb:K.In (Gi s₁.heap H):=λb o e=>base_of (KX b o e) (by
   cases q:H b with
   |none=>rfl
   |some u=>
    rcases hA b (by rw[q];simp)with e'|e'
    .subst e';rw[hK (by rw[q];simp)]at e;cases e
    .rw[hPK b e']at e;cases e)
  have hM:Mod K mg (Gi s₁.heap H):=⟨hKb,nsK hns,⟨mb,nsK hb,hbb⟩,let ⟨mc,h1,h2⟩:=hlim;⟨mc,nsK h1,h2⟩⟩
  have e0:Env0 Pg w K mg (Gi s₁.heap H) callerA [] s₁ H:=⟨rfl,hM,λb o e=>Xk e,le_of_eq (SM _ _),trivial,λb hb=>absurd (show b∈([]:List Addr)from hb) 75,hok,.of_eq hg⟩
  have hsp:spF K 1 F [.ref a] H (λv _=>v=.bl true) λ_ _ _=>False:=by
   obtain⟨hd',e⟩:=hF;refine⟨rfl,[],[],[.ro ns],.im (.bl true),hd',⟨rfl,List.nodup_nil,λy hy=>?_,λn o a h=>by simp at h⟩,?_,e,λρ' H' v _ _ r=>?_⟩
   .rw[htab]at hy;obtain⟨t,ht,rfl⟩:=mem_map.mp hy;exact⟨#[],hHP t.1 (mem_map.mpr ⟨t,ht,rfl⟩),.inl rfl⟩
   .simp only[RDs,RD];refine⟨_,_,rfl,⟨a,rfl,bh hS λys z=>?_⟩,rfl⟩;rcases hO a haP with q|⟨o,ys,q⟩<;>(rw[q]at z;cases z)
   .simpa only[RD,RI]using r
  refine jb ((Fn _ hKb (nsK hns) λb o n1 n2 e=>base_of e (by
   cases q:H b with
   |none=>rfl
   |some u=>
    rcases hA b (by rw[q];simp)with e'|e'
    .exact absurd e' n2
    .exact absurd e' n1)).run callerA [] s₁ H ⟨[.ref a],[]⟩ [.ref a] [.ref a] _ _ hr e0 (hbind s₁ (.ref a)) (.cons rfl .nil) hsp) λr s' h=>?_
  cases r with
  |error e=>exact h.elim
  |ok fl=>
   cases fl with
   |next=>exact False.elim h
   |brk=>exact False.elim h
   |cont=>exact False.elim h
   |ret u=>
    obtain⟨v,H',os,bare,un,hok',r',q⟩:=h;have q':v=.bl true:=q;subst q';obtain rfl:u=Value.bool true:=r';have keep:∀b o,b∉ts.map (·.1)->s₁.heap.get? b=some o->s'.heap.get? b=some o:=λb o nb e=>by
     cases q:H b with
     |none=>exact un.keep b o e q (by intro z;exact absurd (show b∈([]:List Addr)from z) 75) 75
     |some u=>
      rcases hO b nb with z|⟨ob,xs,z⟩
      .rw[q]at z;cases z
      .have z2:=un.frzs b ob _ z;obtain⟨e1,_⟩:=hok b _ z;obtain⟨e2,_⟩:=hok' b _ z2;rw[e]at e1;cases e1;exact e2
    refine⟨rfl,⟨λb o e=>?_,λb o e=>?_⟩,os,bare⟩
    .by_cases nb:b∈ts.map (·.1)
     .obtain⟨cc,tb⟩:=hT b nb;obtain⟨more,hm⟩:=un.tbls b #[] (hHP b nb);have hb':s'.heap.get? b=some (tabObj (#[]++more)):=hok' b _ hm;rw[hP b nb]at e;cases e;exact .inr (.inl ⟨tb.isCodeTable,rfl,#[],more,rfl,hb'⟩)
     .exact .inl (keep b o nb e)
    .by_cases nb:b∈ts.map (·.1)
     .obtain⟨more,hm⟩:=un.tbls b #[] (hHP b nb);exact⟨_,hok' b _ hm⟩
     .exact⟨o,keep b o nb e⟩
 cases hk:K.lookup a with
 |some o=>
  have e:=KX a o hk;rw[ha]at e;cases e;refine core (λb=>if b∈ts.map (·.1)then some (.tbl #[])else none) (λb nb=>.inl (gj nb)) (λP hp=>gi hp) (.inr ⟨_,118,_,hk,rfl,rfl,rfl,by rw[gz,lenV];exact hl,by simpa using rv⟩) (λb u z=>?_) (λb z=>?_) λz=>absurd (gj haP) z
  .by_cases hb:b∈ts.map (·.1)
   .have z':=(gi hb).symm.trans z;cases z';exact hP b hb
   .have z':=(gj hb).symm.trans z;cases z'
  .by_cases hb:b∈ts.map (·.1)
   .exact .inr hb
   .exact absurd (gj hb) z
 |none=>
  refine core (λb=>if b∈ts.map (·.1)then some (.tbl #[])else if b=a then some (.frz { cls:=.type "list",data:=.seq 118 } (.lst (ns.map V.int)))else none) (λb nb=>?_) (λP hp=>gi hp) (.inl (.inr ⟨{ cls:=.type "list",data:=.seq 118 },(gj haP).trans (gi rfl)⟩)) (λb u z=>?_) (λb z=>?_) λ_=>hk
  .rw[gj nb];by_cases hb:b=a
   .exact .inr ⟨_,_,gi hb⟩
   .exact .inl (gj hb)
  .by_cases hp:b∈ts.map (·.1)
   .have z':=(gi hp).symm.trans z;cases z';exact hP b hp
   .have z:=(gj hp).symm.trans z;by_cases hb:b=a
    .have z':=(gi hb).symm.trans z;cases z';subst hb;exact⟨ha,by rw[hX];exact hl,vs,_,rv,ha⟩
    .have z':=(gj hb).symm.trans z;cases z'
  .by_cases hp:b∈ts.map (·.1)
   .exact .inr hp
   .by_cases hb:b=a
    .exact .inl hb
    .exact absurd ((gj hp).trans (gj hb)) z
def walkL{l:OpenLaw}{n k:Nat}{q:Program}{loose:List Str}{XP:(Str->Option Value)->Heap->Prop}{YP:World->Heap->Prop}{d:DefRec}{K:Params->Frag}{F:List D->Hd->Option 104}(xs:List (Str×Str×Nat×Nat))
 (hn:l.most=some n) (hn2:n<=sizeLine) (hdf:d.params.defaults=[]) (hr:Room k callerA) (hdr:∀x∈xs,∃dr,(recsOf q).find? (λe=>e.name==x.1)=some dr)
 (hF:∀ns:List Int,∃hd',F [.ro ns] []=some (.im (.bl true),hd'))
 (hY:∀(w:World) (h:Heap),YP w h->(K w.params).In h)
 (G:∀(w:World) (mg:Str->Option Value) (fa:Addr) (h:Heap) (c P:Str->Addr),(K w.params).In h->h.Ns mainGlobals mg->mg d.name=some (.ref fa) ->
  (∀x∈xs,h.get? (P x.1)=some (tabObj #[])/\CodeHd h (c x.1) (P x.1)/\∃a o fd,mg x.1=some (.ref a)/\h.get? a=some o/\o.data=.func fd/\fd.code=.ref (c x.1)) ->
  (∃g,(K w.params).lookup mainGlobals=some g)/\∃fd:FuncData,(∀(s:Shared) (u:Value),BindsTo s fd ⟨[u],[]⟩ [("_law_script",u)])/\
   ∀base:Heap,(BR (K w.params) (xs.map λx=>(P x.1,x.2))).In base->base.Ns mainGlobals mg->(∀x∈xs,CodeHd base (c x.1) (P x.1))->(∀x∈xs,base.BuiltinsAt mg (P x.1))->FnOk l.prog w (BR (K w.params) (xs.map λx=>(P x.1,x.2))) mg base CX0 k fa fd ["_law_script"] (spF (BR (K w.params) (xs.map λx=>(P x.1,x.2))) 1 F)):
 PySem.W.WalkO q loose XP YP l.row.toRowW d [] (λf vs=>PySem.call f vs):=by
 refine Att.attach_call hn hdf λw s₀ s₁ mg mb fa o pm cd doc a vs ns Gr Y ho hd hcd hmg hobj hints hlen hg=>?_;have KX:=hY w _ Y;have each:∀x:Str,∃cp:Addr×Addr,(∃y∈xs,y.1=x)->(∃cc,s₁.heap.TableAt cc cp.2 #[])/\CodeHd s₁.heap cp.1 cp.2/\∃a o fd,mg x=some (.ref a)/\s₁.heap.get? a=some o/\o.data=.func fd/\fd.code=.ref cp.1:=by
  intro x;by_cases hx:∃y∈xs,y.1=x
  .obtain⟨y,hy,rfl⟩:=hx;obtain⟨dr,hdr⟩:=hdr y hy;have hnm:dr.name=y.1:=beq_iff_eq.mp (List.find?_some (p:=λe:DefRec=>e.name==y.1) hdr);obtain⟨a',o',fd',c,P,h1,h2,h3,h4,h5,h6⟩:=Gr.T.tab dr (List.mem_of_find?_eq_some hdr);rw[hnm]at h1;exact⟨(c,P),λ_=>⟨⟨_,h6⟩,CodeHd.of h5 h6,a',o',fd',h1,h2,h3,h4⟩⟩
  .exact⟨(0,0),λh=>absurd h hx⟩
 obtain⟨cp,hcp⟩:=Classical.skolem.mp each;have hcp:∀x∈xs,(∃cc,s₁.heap.TableAt cc (cp x.1).2 #[])/\CodeHd s₁.heap (cp x.1).1 (cp x.1).2/\∃a o fd,mg x.1=some (.ref a)/\s₁.heap.get? a=some o/\o.data=.func fd/\fd.code=.ref (cp x.1).1:=λx hx=>hcp x.1 ⟨x,hx,rfl⟩;have hts:∀P∈(xs.map λx=>((cp x.1).2,x.2)).map (·.1),∃x∈xs,P=(cp x.1).2:=λP hP=>by
  obtain⟨t,ht,rfl⟩:=mem_map.mp hP;obtain⟨x,hx,rfl⟩:=mem_map.mp ht;exact⟨x,hx,rfl⟩
 have hP:∀x∈xs,s₁.heap.get? (cp x.1).2=some (tabObj #[]):=λx hx=>by
  obtain⟨⟨cc,t⟩,_⟩:=hcp x hx;exact t.2
 have hmP:mainGlobals∉(xs.map λx=>((cp x.1).2,x.2)).map (·.1):=λz=>by
  obtain⟨x,hx,ez⟩:=hts _ z;obtain⟨o,es,ep,e,dd,_⟩:=Gr.T.g;rw[ez,hP x hx]at e;cases e;cases dd
 obtain⟨⟨g,hgl⟩,fd,hb,hFn⟩:=G w mg fa _ (λx=>(cp x).1) (λx=>(cp x).2) KX Gr.T.g hmg λx hx=>⟨hP x hx,(hcp x hx).2⟩
 refine SG (ts:=xs.map λx=>((cp x.1).2,x.2)) (K:=BR (K w.params) (xs.map λx=>((cp x.1).2,x.2))) (Xp KX hgl hmP) Gr.T.g Gr.T.b Gr.T.builtins Gr.T.nolimit hg hobj hints (ia hlen hn2) hr (λP hp=>by obtain⟨x,hx,rfl⟩:=hts P hp;exact(hcp x hx).1) (λP hp=>Xo hmP hp) (HN _ _) (λbase kb nb keep=>hFn base kb nb (λx hx=>?_) λx hx=>?_) hb (hF ns)
 .obtain⟨oc,vs',file,tf,flags,tg,inF,text,tt,e1,r1,r2,r3,r4,r5,r6,r7,r8,hne⟩:=(hcp x hx).2.1;have hn:(cp x.1).1∉(xs.map λx=>((cp x.1).2,x.2)).map (·.1):=λz=>by
   obtain⟨y,hy,ez⟩:=hts _ z;rw[ez,hP y hy]at e1;cases e1;cases r1
  exact⟨oc,vs',file,tf,flags,tg,inF,text,tt,keep (cp x.1).1 oc hn (λz=>by rw[z,hobj]at e1;cases e1;exact absurd (show Value.type "list"=Value.type "code" from r1) 77) e1,r1,r2,r3,r4,r5,r6,r7,r8,hne⟩
 .obtain⟨bm,ob,b1,b2,b3,b4,b5,b6⟩:=Gr.T.bmain;have nP:∀y∈xs,bm≠(cp y.1).2:=λy hy z=>by rw[z,hP y hy]at b3;cases b3;cases b4
  have hn:bm∉(xs.map λx=>((cp x.1).2,x.2)).map (·.1):=λz=>by
   obtain⟨y,hy,ez⟩:=hts _ z;exact nP y hy ez
  refine⟨bm,ob,b1,b2,λz=>?_,nP x hx,keep bm ob hn (λz=>by rw[z,hobj]at b3;cases b3;exact absurd (show Value.type "list"=Value.type "module" from b4) 77) b3,b4,b5,b6⟩;obtain⟨o,es,ep,e,dd,_⟩:=Gr.T.g;rw[<- z,b3]at e;cases e;rw[b6]at dd;cases dd
def TC(o:Obj):Option Addr:=match o.data with
 | .fields vs=>(match (vs[11]?:Option Value)with
  |some (Value.ref P)=>some P
  | _=>none)
 |_=>none
def Yg{K:Frag}{h:Heap}{c P p:Addr}{o:Obj}(X:K.In h)(hc:CodeHd h c P)(k:K.lookup c=some o)(e:TC o=some p):P=p:=by
 obtain⟨o',vs,file,tf,flags,tg,inF,text,tt,e1,e2,e3,e4,_⟩:=hc;have:=X _ _ k;rw[e1]at this;cases this;simp only[TC,e3,e4]at e;exact 114 e
end L2
namespace L2
open PySem PySem.W PyProof.Rows
abbrev FD:=List D->Hd->Option 104
structure EnK where
 P:Program
 w:World
 K:Frag
 mg:Str->Option Value
 base:Heap
structure Df where
 x:Str
 st:Stmt
 ps:List Str
 k:Nat
 F:FD
def Dn(E:EnK)(e:Df):Prop:=∃f fd,DefAt E.K E.mg e.x e.st f fd e.ps
def Dl(E:EnK)(e:Df)(ps:Pos):Prop:=∃f fd c P,DefAt E.K E.mg e.x e.st f fd e.ps/\LamC E.K E.mg E.base fd c P ((e.x++".<locals>.")++"<lambda>") ps
def Kn(E:EnK)(e:Df):Prop:=∃f fd,DefAt E.K E.mg e.x e.st f fd e.ps/\FnOk E.P E.w E.K E.mg E.base CX0 e.k f fd e.ps (spF E.K e.ps.length e.F)/\∀ds hd z,e.F ds hd=some z->103=e.ps.length
def okK{E:EnK}{x:Str}{st:Stmt}{ps N:List Str}{j k:Nat}{m:MS}{F:FD}(D:Dn E ⟨x,st,ps,k,F⟩)(S:FnScope N ps (AC st))(hF:F=mkF ps.length N.length m)(hk:k=j+1)
 (h:∀(f:Addr) (cdv:Value) (A:Around) (outer:List Env) (s:Shared) (H:Hp) (Ek:XK),Room j (A.deeper (envOfC x (AC st) 66 f cdv))->∃t,QSs E.K (Fz CX0 E.P E.w E.K E.mg E.base N x (AC st) f cdv A outer s H Ek).nox (BQ st) t m):Kn E ⟨x,st,ps,k,F⟩:=by
 obtain⟨f,fd,D⟩:=D;subst hF;subst hk;exact⟨f,fd,D,Xj D S (h f),Om⟩
def okL{E:EnK}{x:Str}{st:Stmt}{ps N:List Str}{j k:Nat}{m:MS}{F:FD}{pos:Pos}(D:Dl E ⟨x,st,ps,k,F⟩ pos)(S:FnScope N ps (AC st))(hF:F=mkF ps.length N.length m)(hk:k=j+1)
 (h:∀(f c P:Addr) (fd:FuncData) (LC:LamC E.K E.mg E.base fd c P ((x++".<locals>.")++"<lambda>") pos) (cdv:Value) (A:Around) (outer:List Env) (s:Shared) (H:Hp) (Ek:XK),fd.code=cdv->Room j (A.deeper (envOfC x (AC st) 66 f cdv))->∃t,QSs E.K (Fz CX0 E.P E.w E.K E.mg E.base N x (AC st) f cdv A outer s H Ek).nox (BQ st) t m):Kn E ⟨x,st,ps,k,F⟩:=by
 obtain⟨f,fd,c,P,D,LC⟩:=D;subst hF;subst hk;exact⟨f,fd,D,UY D S (h f c P fd LC),Om⟩
def ok0{E:EnK}{x:Str}{st:Stmt}{ps:List Str}{k k':Nat}{F:FD}(D:Dn E ⟨x,st,ps,k',F⟩):Kn E ⟨x,st,ps,k,λ_ _=>none⟩:=by
 obtain⟨f,fd,D⟩:=D;refine⟨f,fd,D,⟨λvs H Q E h=>h.1,λA outer s H args us vs Q E hr e0 hb hv h=>?_⟩,λ_ _ _ h=>nomatch h⟩;obtain⟨_,_,_,_,_,_,_,_,e,_⟩:=h;cases e
section
variable{K:Frag}{X:Cx}{e:Expr}{es:List Expr}{t:TA}{m:MA}{x:Str}{j k:Nat}{ps:List Str}{F:FD}{st:Stmt}{p pos:Pos}
def qcW(w:Nat)(G:Kn ⟨X.prog,X.w,X.K,X.mg,X.base⟩ ⟨x,st,ps,j,F⟩)(hr:Room k X.A)(ha:QA K X (e::es) t m)
 (hjk:j<=k:=by first|decide|omega) (hg:Gl X x:=by rfl) (hdb:(x==("__debug__":Str))=false:=by decide) (he:starEach (e::es) X.env=88::starEach es X.env:=by rfl) (hpl:(backTo pos (starEach es X.env)).any (·.1)=false:=by rfl) (hK:X.K=K:=by rfl):
 QE K X 113 (FU (spF K ps.length F) [] E0 t) (A8 w F m):=by
 subst hK;obtain⟨f,fd,D,G,l⟩:=G;exact UG _ w G hr D ha l hjk hg hdb he hpl
def qcG(G:Kn ⟨X.prog,X.w,X.K,X.mg,X.base⟩ ⟨x,st,ps,j,F⟩)(hr:Room k X.A)(ha:QA K X (e::es) t m)
 (hjk:j<=k:=by first|decide|omega) (hg:Gl X x:=by rfl) (hdb:(x==("__debug__":Str))=false:=by decide) (he:starEach (e::es) X.env=88::starEach es X.env:=by rfl) (hpl:(backTo pos (starEach es X.env)).any (·.1)=false:=by rfl) (hK:X.K=K:=by rfl):
 QE K X 113 (FU (spF K ps.length F) [] E0 t) (D7 F m):=by
 subst hK;obtain⟨f,fd,D,G,l⟩:=G;exact UI _ G hr D ha l hjk hg hdb he hpl
variable{c P:Addr}{scope:Scope}{ix:List Nat}{params:Arguments}{body:Expr}{lpos kpos:Pos}{te tb:TE}{mi mb:ME}{fd:FuncData}{cdv:Value}{q:Str}
def Fp(a:Arguments):Str:=match a.args with
 |x::_=>x.arg
 |[]=>""
def c8(LC:LamC X.K X.mg X.base fd c P q lpos)(hcd:fd.code=cdv)(hr:Room k X.A)(hm:X.mg "max"=none)(he:QE K X e te mi)
 (hb:∀(f:Addr) (cd:Value) (s:Shared) (H:Hp),QE K (lCx X X.A.in1 (Fp params::frN X ix) 73 scope f cd 86 s H) body tb mb)
 (hcv:X.env.code=cdv:=by rfl) (hq:q=X.env.qual++"<lambda>":=by rfl) (S:CSc X scope (frN X ix) ix:=by exact⟨rfl,by decide +kernel,rfl,rfl,rfl,by decide +kernel⟩) (L:LSc scope (Fp params):=by exact⟨rfl,rfl,rfl,rfl⟩) (h3:3<=k:=by decide)
 (hbind:∀(cl:List (Str×Addr)) (pm cd ctv us:Value),bindArgs 112 ⟨[us],[]⟩=pure [(Fp params,us)]:=by exact λ_ _ _ _ _=>rfl)
 (hcm:X.calm=true:=by rfl) (hg:Gl X "max":=by rfl) (hdef:defaultsOf params X.env=([],[]):=by rfl) (hs:starEach [e] X.env=[88]:=by rfl) (hK:X.K=K:=by rfl):
 QE K X (.Call (.Name "max" p) [e] [⟨some "key",.Lambda params body scope lpos,kpos⟩] pos) (M0 K P 73 lpos ix te tb) (FH (λn m=>decide (n>m)) mi ix mb):=by
 subst hq;exact X4 K ⟨hcv.trans (hcd.symm.trans LC.code),LC.hd,LC.bl⟩ (hK ▸ LC.ti) S L hr h3 hm he hb hbind hcm hg hdef hs hK
def ZQ{src:Ls->Hd->Option (List Int×Hd)}(LC:LamC X.K X.mg X.base fd c P q lpos)(hcd:fd.code=cdv)(hr:Room k X.A)(hm:X.mg "sorted"=none)(he:QSrc K X e te src)
 (hb:∀(f:Addr) (cd:Value) (s:Shared) (H:Hp),QE K (lCx X X.A.in1.in1 (Fp params::frN X ix) 73 scope f cd 86 s H) body tb mb)
 (hcv:X.env.code=cdv:=by rfl) (hq:q=X.env.qual++"<lambda>":=by rfl) (S:CSc X scope (frN X ix) ix:=by exact⟨rfl,by decide +kernel,rfl,rfl,rfl,by decide +kernel⟩) (L:LSc scope (Fp params):=by exact⟨rfl,rfl,rfl,rfl⟩) (h3:3<=k:=by decide)
 (hbind:∀(cl:List (Str×Addr)) (pm cd ctv us:Value),bindArgs 112 ⟨[us],[]⟩=pure [(Fp params,us)]:=by exact λ_ _ _ _ _=>rfl)
 (hcm:X.calm=true:=by rfl) (hg:Gl X "sorted":=by rfl) (hdef:defaultsOf params X.env=([],[]):=by rfl) (hs:starEach [e] X.env=[88]:=by rfl) (hK:X.K=K:=by rfl):
 QN K X (.Call (.Name "sorted" p) [e] [⟨some "key",.Lambda params body scope lpos,kpos⟩] pos) (JN K P 73 lpos ix te tb) (EY src ix mb):=by
 subst hq;exact U9 K ⟨hcv.trans (hcd.symm.trans LC.code),LC.hd,LC.bl⟩ (hK ▸ LC.ti) S L hr h3 hm he hb hbind hcm hg hdef hs hK
end
def FnAt(K:Frag)(n:Str)(s:Stmt)(f:Addr)(cd:Value):Prop:=∃oc kV dc pm ct od an sl,PySem.W.nsIn K mainGlobals n=some (some (.ref f))/\K.lookup f=some ⟨oc,od,.func (fnOf n n (Cd s) (BQ s) (AC s) .none kV dc pm an cd ct),sl⟩/\codeIn K cd n=true/\keepIn K (.ref f)=true
def Fe(K:Frag)(e:Df):Prop:=∃f cd,FnAt K e.x e.st f cd
def Fla(K:Frag)(e:Df)(p:Addr):Prop:=∃f ca ob,FnAt K e.x e.st f (.ref ca)/\K.lookup ca=some ob/\TC ob=some p
abbrev Xs:=List (Str×Str×Nat×Nat)
def HX(xs:Xs)(mg:Str->Option Value)(h:Heap)(c P:Str->Addr):Prop:=∀x∈xs,h.get? (P x.1)=some (tabObj #[])/\CodeHd h (c x.1) (P x.1)/\∃a o fd,mg x.1=some (.ref a)/\h.get? a=some o/\o.data=.func fd/\fd.code=.ref (c x.1)
abbrev tbs(xs:Xs)(P:Str->Addr):List Tb:=xs.map λx=>(P x.1,x.2)
abbrev enM(l:OpenLaw)(w:World)(K:Frag)(xs:Xs)(P:Str->Addr)(mg:Str->Option Value)(base:Heap):EnK:=⟨l.prog,w,BR K (tbs xs P),mg,base⟩
def Bd(e:Df):Prop:=∀(kV doc pm:Value) (an:Option Addr) (cdv ct:Value) (us:List Value),us.length=e.ps.length->bindArgs (fnOf e.x e.x (Cd e.st) (BQ e.st) (AC e.st) .none kV doc pm an cdv ct) ⟨us,[]⟩=pure (e.ps.zip us)
section
variable{K:Frag}{h:Heap}{mg:Str->Option Value}{xs:Xs}{c P:Str->Addr}(X:K.In h)(G:h.Ns mainGlobals mg)(hx:HX xs mg h c P)
include hx in
theorem df:∀P'∈(tbs xs P).map (·.1),h.get? P'=some (tabObj #[]):=λP' hp=>by
 obtain⟨t,ht,rfl⟩:=mem_map.mp hp;obtain⟨x,hxx,rfl⟩:=mem_map.mp ht;exact(hx x hxx).1
include X G hx in
theorem FnAt.def{e:Df}{f:Addr}{cd:Value}(H:FnAt K e.x e.st f cd)(b:Bd e):∃fd,DefAt (BR K (tbs xs P)) mg e.x e.st f fd e.ps/\fd.code=cd:=by
 obtain⟨oc,kV,dc,pm,ct,od,an,sl,a,l,cc,k⟩:=H;have F:=Fun.mark (ts:=tbs xs P) (aw (st:=e.st) l cc k) X (df hx);exact⟨_,⟨F,PySem.W.mg_of X G a,F.binds b⟩,rfl⟩
include X G hx in
theorem Fe.dn{e:Df}(H:Fe K e)(b:Bd e)(l:OpenLaw)(w:World)(base:Heap):Dn (enM l w K xs P mg base) e:=by
 obtain⟨f,cd,H⟩:=H;obtain⟨fd,D,_⟩:=H.def X G hx b;exact⟨f,fd,D⟩
include X G hx in
theorem Fla.code{e:Df}{p:Addr}(H:Fla K e p){q:Str}{i j:Nat}(hm:(e.x,q,i,j)∈xs):P e.x=p/\∃f,FnAt K e.x e.st f (.ref (c e.x)):=by
 obtain⟨f,ca,ob,⟨oc,kV,dc,pm,ct,od,an,sl,a,l,cc,k⟩,t,v⟩:=H;obtain⟨_,hh,a',ob',fd,h1,h2,h3,h4⟩:=hx _ hm;have e1:=h1.symm.trans (PySem.W.mg_of X G a);cases e1;have e2:=h2.symm.trans (X _ _ l);cases e2;cases h3;have e3:Value.ref ca=.ref (c e.x):=h4;cases e3;exact⟨Yg X hh t v,f,⟨_,_,_,_,_,_,_,_,a,l,cc,k⟩⟩
include X G hx in
theorem Fla.dl{e:Df}{p:Addr}(H:Fla K e p)(b:Bd e){q:Str}{i j:Nat}(hm:(e.x,q,i,j)∈xs){i' j':Nat}(l:OpenLaw)(w:World){base:Heap}(hd:∀x∈xs,CodeHd base (c x.1) (P x.1))(bl:∀x∈xs,base.BuiltinsAt mg (P x.1))(nd:((Ck (BR K (tbs xs P))).map (·.1)).Nodup)(hq:q=(e.x++".<locals>.")++"<lambda>"):
 Dl (enM l w K xs P mg base) e ⟨i,j,i',j'⟩:=by
 obtain⟨_,f,H⟩:=H.code X G hx hm;obtain⟨fd,D,e1⟩:=H.def X G hx b;subst hq;exact⟨f,fd,_,_,D,⟨e1,hd _ hm,bl _ hm,⟨i,j,0,0⟩,by rw[HN];exact mem_map.mpr ⟨(P e.x,_,i,j),mem_map.mpr ⟨_,hm,rfl⟩,rfl⟩,nd,rfl,rfl⟩⟩
def cS{ps:List Addr}(h:(xs.map λx=>P x.1)=ps)(n:ps.Nodup):((Ck (BR K (tbs xs P))).map (·.1)).Nodup:=by
 rw[HN,i5,i5];subst h;exact n
end
def Zs(K:Frag):Prop:=∀n∈(["list","tuple","len","range","repr","sum","min","max","abs","all","any","sorted","zip","isinstance","int","bool","str","set","enumerate","reversed","dict"]:List Str),PySem.W.nsIn K mainGlobals n=some none
def Zs.blt{K:Frag}(Z:Zs K){h:Heap}{mg:Str->Option Value}(X:K.In h)(G:h.Ns mainGlobals mg):BltA mg:=by
 constructor<;>exact PySem.W.mg_none_of X G (Z _ 75)
def bd1{e:Df}(hl:e.ps.length=1:=by rfl)(h:∀(kV doc pm:Value) (an:Option Addr) (cdv ct:Value) a,bindArgs (fnOf e.x e.x (Cd e.st) (BQ e.st) (AC e.st) .none kV doc pm an cdv ct) ⟨[a],[]⟩=pure (e.ps.zip [a]):=by intros;rfl):Bd e:=λ_ _ _ _ _ _ us hu=>match us,hu.trans hl with|[_],_=>h ..
def bd2{e:Df}(hl:e.ps.length=2:=by rfl)(h:∀(kV doc pm:Value) (an:Option Addr) (cdv ct:Value) a b,bindArgs (fnOf e.x e.x (Cd e.st) (BQ e.st) (AC e.st) .none kV doc pm an cdv ct) ⟨[a,b],[]⟩=pure (e.ps.zip [a,b]):=by intros;rfl):Bd e:=λ_ _ _ _ _ _ us hu=>match us,hu.trans hl with|[_,_],_=>h ..
def bd3{e:Df}(hl:e.ps.length=3:=by rfl)(h:∀(kV doc pm:Value) (an:Option Addr) (cdv ct:Value) a b c,bindArgs (fnOf e.x e.x (Cd e.st) (BQ e.st) (AC e.st) .none kV doc pm an cdv ct) ⟨[a,b,c],[]⟩=pure (e.ps.zip [a,b,c]):=by intros;rfl):Bd e:=λ_ _ _ _ _ _ us hu=>match us,hu.trans hl with|[_,_,_],_=>h ..
def bd4{e:Df}(hl:e.ps.length=4:=by rfl)(h:∀(kV doc pm:Value) (an:Option Addr) (cdv ct:Value) a b c d,bindArgs (fnOf e.x e.x (Cd e.st) (BQ e.st) (AC e.st) .none kV doc pm an cdv ct) ⟨[a,b,c,d],[]⟩=pure (e.ps.zip [a,b,c,d]):=by intros;rfl):Bd e:=λ_ _ _ _ _ _ us hu=>match us,hu.trans hl with|[_,_,_,_],_=>h ..
def An{N ps:List Str}{sc:Scope}(h:(decide (sc.kind=.function)&&!sc.isCoroutine&&!sc.isGenerator&&ndB N&&(N.take ps.length==ps)&&(ps.all λx=>sc.names.lookup x==some .local||sc.names.lookup x==some .cell)&&sc.names.all λy=>y.2 != .free)=true):FnScope N ps sc:=by
 simp only[Bool.and_eq_true,all_eq_true,Bool.or_eq_true,beq_iff_eq,iU,Bool.not_eq_true',bne_iff_ne]at h;obtain⟨⟨⟨⟨⟨⟨h1,h2⟩,h3⟩,h4⟩,h5⟩,h6⟩,h7⟩:=h;exact⟨h1,h2,h3,Hm h4,h5,h6,h7⟩
abbrev HG(l:OpenLaw)(w:World)(K:Frag)(xs:Xs)(mg:Str->Option Value)(c P:Str->Addr)(fa:Addr)(e:Df):Prop:=(∃g,K.lookup mainGlobals=some g)/\∃fd:FuncData,(∀(s:Shared) (v:Value),BindsTo s fd ⟨[v],[]⟩ [("_law_script",v)])/\∀base:Heap,(BR K (tbs xs P)).In base->base.Ns mainGlobals mg->(∀x∈xs,CodeHd base (c x.1) (P x.1))->(∀x∈xs,base.BuiltinsAt mg (P x.1))->FnOk l.prog w (BR K (tbs xs P)) mg base CX0 e.k fa fd ["_law_script"] (spF (BR K (tbs xs P)) 1 e.F)
def Ur{l:OpenLaw}{w:World}{K:Frag}{h:Heap}{mg:Str->Option Value}{fa:Addr}{xs:Xs}{c P:Str->Addr}{e:Df}(X:K.In h)(G:h.Ns mainGlobals mg)(hfa:mg e.x=some (.ref fa))(hx:HX xs mg h c P)(H:Fe K e)(b:Bd e)(hps:e.ps=(["_law_script"]:List Str))
 (ok:∀base:Heap,(∀x∈xs,CodeHd base (c x.1) (P x.1))->(∀x∈xs,base.BuiltinsAt mg (P x.1))->Kn (enM l w K xs P mg base) e):
 HG l w K xs mg c P fa e:=by
 obtain⟨f,cd,H⟩:=H;obtain⟨fd,D,_⟩:=H.def X G hx b;obtain⟨oc,kV,dc,pm,ct,od,an,sl,a,lk,cc,k⟩:=H;have hg:∃g,K.lookup mainGlobals=some g:=by
  cases e:K.lookup mainGlobals with
  |some g=>exact⟨g,rfl⟩
  |none=>unfold PySem.W.nsIn at a;rw[e]at a;cases a
 have e1:=hfa.symm.trans D.mg;cases e1;refine⟨hg,fd,λs v=>?_,λbase _ _ hd bl=>?_⟩
 .obtain⟨⟨oc',od',kV',dc',pm',an',cd',ct',sl',rfl,_,_⟩,_⟩:=D.fn;have:=b kV' dc' pm' an' cd' ct' [v] (by rw[hps];rfl);rw[hps]at this;exact .of_eq this
 .obtain⟨f',fd',D',F',_⟩:=ok base hd bl;have e2:=D.mg.symm.trans D'.mg;cases e2;obtain⟨⟨oc',od',kV',dc',pm',an',cd',ct',sl',h1,h2,_⟩,_⟩:=D.fn;obtain⟨⟨oc2,od2,kV2,dc2,pm2,an2,cd2,ct2,sl2,h3,h4,_⟩,_⟩:=D'.fn;have e3:=h2.symm.trans h4;cases e3;rw[hps]at F';exact F'
end L2
namespace L2
open PySem PySem.Spec PyProof.Rows
def FR{α:Type}:List (Option α)->Option (List α)
 |[]=>some []
 |some x::r=>(FR r).map (x::·)
 |none::_=>none
def pyN:Nat->Hd->D->Option PyData
 |_,_,.im i=>some i.py
 |_,_,.ro ns=>some (.list (I.pys (ns.map I.int)))
 |0,_,_=>none
 |n+1,hd,.tm ds=>(FR (ds.map (pyN n hd))).map .tuple
 |n+1,hd,.mu k=>match hd[k]? with
  |some (.lst ds)=>(FR (ds.map (pyN n hd))).map .list
  |_=>none
 |_+1,_,.op _ _ _=>none
 |_+1,_,.fv _ _=>none
section
variable{K:Frag}{ρ:List Addr}{H:Hp}{hd:Hd}
theorem JF{f:D->Option PyData}(hf:∀d v p,RD K ρ H d v->f d=some p->Rep K H p v):∀{ds:List D} {xs:List V} {ps:List PyData},RDs K ρ H ds xs->FR (ds.map f)=some ps->RepAll K H ps xs
 |[],xs,ps,r,e=>by
  simp only[RDs]at r;subst r;simp[FR]at e;subst e;simp only[RepAll]
 |d::ds,xs,ps,r,e=>by
  simp only[RDs]at r;obtain⟨x,r',rfl,h1,h2⟩:=r;rw[gq]at e;cases q:f d with
  |none=>rw[q]at e;cases e
  |some p=>
   rw[q]at e;obtain⟨ps',e1,rfl⟩:=c7 (show(FR (ds.map f)).map (p::·)=some ps from e);simp only[RepAll];exact⟨x,r',rfl,hf d x p h1 q,JF hf h2 e1⟩
theorem IG(hR:RH K ρ H hd):∀(n:Nat) (d:D) (v:V) (p:PyData),RD K ρ H d v->pyN n hd d=some p->Rep K H p v
 |n,.im i,v,p,h,e=>E6 (hd:=hd) hR h (by cases n<;>exact e)
 |n,.ro ns,v,p,h,e=>E6 (hd:=hd) hR h (by cases n<;>exact e)
 |0,.tm ds,v,p,h,e=>by cases e
 |0,.mu k,v,p,h,e=>by cases e
 |0,.op _ _ _,v,p,h,e=>by cases e
 |n+1,.op _ _ _,v,p,h,e=>by cases e
 |0,.fv _ _,v,p,h,e=>by cases e
 |n+1,.fv _ _,v,p,h,e=>by cases e
 |n+1,.tm ds,v,p,h,e=>by
  simp only[RD]at h;obtain⟨a,xs,rfl,q,r⟩:=h;obtain⟨ps,e1,rfl⟩:=c7 (show(FR (ds.map (pyN n hd))).map PyData.tuple=some p from e);simp only[Rep];exact⟨a,xs,rfl,q,JF (λd v p=>IG hR n d v p) r e1⟩
 |n+1,.mu k,v,p,h,e=>by
  simp only[pyN]at e;simp only[RD]at h;obtain⟨a,hn,rfl⟩:=h;split at e
  .next ds q=>
   obtain⟨ps,e1,rfl⟩:=c7 e;obtain⟨xs,e2,e3⟩:=hR.lst hn q;simp only[Rep];exact⟨a,xs,rfl,SqL.of e2,JF (λd v p=>IG hR n d v p) e3 e1⟩
  .cases e
end
def KR(neg:Bool):D->D->Hd->Option 104:=λd e hd=>match pyN 30 hd d,pyN 30 hd e with
 |some x,some y=>if x.canLay0=true/\y.canLay0=true/\min x.depth y.depth<=60 then some (.im (.bl (if neg then !PyData.eqv x y else PyData.eqv x y)),hd)else none
 |_,_=>none
def ZE{K:Frag}:RB K (Pw K) (KR true):=by
 intro ρ H hd d e v u Q z hd' hR h1 h2 hf hQ;unfold KR at hf;split at hf
 .next e1 e2=>
  split at hf
  .next c=>cases hf;exact⟨_,_,IG hR _ _ _ _ h1 e1,IG hR _ _ _ _ h2 e2,c.1,c.2.1,c.2.2,hQ ρ H _ .refl hR 101⟩
  .cases hf
 .cases hf
section
variable{hd:Hd}{QE:D->Hd->Prop}{ls:Ls}{ma mb:ME}
def YS{neg:Bool}{d e:D}{x y:PyData}(h1:pyN 30 hd d=some x)(h2:pyN 30 hd e=some y)(c:x.canLay0=true/\y.canLay0=true/\min x.depth y.depth<=60)(q:QE (.im (.bl (if neg then !PyData.eqv x y else PyData.eqv x y))) hd):WP (KR neg d e hd) QE:=⟨_,_,by unfold KR;rw[h1,h2];dsimp only;rw[gi c],q⟩
end
section
variable(C:Addr)(f:Str)
def Ends.non(D:Ends):Ends:={ D with rt:=λ_ _=>False }
end
section
variable{C fI:Addr}{f:Str}{X:Cx}{st:Stmt}{rest:List Stmt}{t u:TS}{e:Expr}{es:List Expr}{te tb:TE}{pos:Pos}
def thx{α:Type}{M:Model}{A:Around}{m:Sem α}{P Q:α->Shared->Prop}{E E':Value->Shared->Prop}{s:Shared}(h:wpAny M A m P E s)(k:∀v s,P v s->Q v s)(j:∀e s,E e s->E' e s):wpAny M A m Q E' s:=hZ h k j
def gb(t:TS):TS:=λD σ H=>t D.non σ H
end
end L2
namespace L2
open PySem PySem.Spec PyProof.Rows PySem.W
def ltZ(p q:Int×Int):Bool:=decide (p.1<q.1∨p.1=q.1/\p.2<q.2)
def TPair(h:Heap)(a:Addr)(p:Int×Int):Prop:=∃(o:Obj) (n:Nat) (t u:Tok),h.get? a=some o/\o.cls=.type "tuple"/\o.data=.seq #[.int p.1 t,.int p.2 u] n
section
variable{prog:Program}{w:World}{A:Around}{E:Value->Shared->Prop}{s:Shared}{a b:Addr}{p q:Int×Int}
def TPair.typeIs(h:TPair s.heap a p):s.TypeIs (.ref a) "tuple":=let ⟨o,_,_,_,h1,h2,_⟩:=h;⟨o,h1,h2⟩
def T9{P:PySem.Fin->Shared->Prop}(ha:TPair s.heap a p)(hb:TPair s.heap b q)(h:P (.done (.ret (.bool (ltZ p q)))) s):
 wpAny 92 A (Builtin.«tuple.__lt__» ⟨[.ref a,.ref b],[]⟩) P E s:=by
 have hTb:=hb.typeIs;obtain⟨oa,na,t1,t2,hoa,_,hda⟩:=ha;obtain⟨ob,nb,u1,u2,hob,_,hdb⟩:=hb;show wpAny _ _ (isInstance (.ref b) (.type "tuple") >>= _) _ _ s;refine gh (wpAny_isInstance hTb isSubtype_tuple_tuple ?_);simp only[Bool.not_true,Bool.false_eq_true,ip];refine gh (wpAny_tupleItemsOf hoa hda ?_);refine gh (wpAny_tupleItemsOf hob hdb ?_);refine gh ?_;have neq:∀(x y:Int) (t u:Tok),x≠y->P (.done (.ret (.bool (ltZ p q)))) s->decide (x<y)=ltZ p q->True:=λ_ _ _ _ _ _ _=>trivial;refine wpAny_forIn_list _
  (λrest r s'=>r.1=none/\s'=s/\(rest=[(.int p.1 t1,.int q.1 u1),(.int p.2 t2,.int q.2 u2)]∨rest=[(.int p.2 t2,.int q.2 u2)]/\p.1=q.1∨rest=[]/\p.1=q.1/\p.2=q.2))
  _ ?_ ?_ _ _ ⟨rfl,rfl,.inl rfl⟩
 .rintro⟨u,v⟩ rest r s' ⟨hr,rfl,hz⟩;rcases hz with hz|⟨hz,e1⟩|⟨hz,e1⟩
  .simp only[List.cons.injEq,Prod.mk.injEq]at hz;obtain⟨⟨rfl,rfl⟩,rfl⟩:=hz;refine gh (jx ?_);by_cases hk:p.1=q.1
   .rw[beq_iff_eq.mpr hk];simp only[Bool.not_true,Bool.false_eq_true,ip];exact gn ⟨rfl,rfl,.inr (.inl ⟨by trivial,hk⟩)⟩
   .rw[beq_eq_false_iff_ne.mpr hk];simp only[Bool.not_false,i3];have hf:ltZ p q=decide (p.1<q.1):=by unfold ltZ;simp[hk]
    rw[hf]at h;refine gh (gh (jo (gn (gh (richCompare_gives (op:=.Lt) (j7 _ _ _) (j7 _ _ _) F.slot_int_lt F.entry_int_lt (F.args_int_lt_2 _ _) (gives_int_lt _ _ _ _) (λx=>nomatch x) ?_)))));exact gn (gn h)
  .simp only[List.cons.injEq,Prod.mk.injEq]at hz;obtain⟨⟨rfl,rfl⟩,rfl⟩:=hz;refine gh (jx ?_);by_cases hk:p.2=q.2
   .rw[beq_iff_eq.mpr hk];simp only[Bool.not_true,Bool.false_eq_true,ip];exact gn ⟨rfl,rfl,.inr (.inr ⟨by trivial,e1,hk⟩)⟩
   .rw[beq_eq_false_iff_ne.mpr hk];simp only[Bool.not_false,i3];have hf:ltZ p q=decide (p.2<q.2):=by unfold ltZ;simp[e1]
    rw[hf]at h;refine gh (gh (jo (gn (gh (richCompare_gives (op:=.Lt) (j7 _ _ _) (j7 _ _ _) F.slot_int_lt F.entry_int_lt (F.args_int_lt_2 _ _) (gives_int_lt _ _ _ _) (λx=>nomatch x) ?_)))));exact gn (gn h)
  .cases hz
 .rintro⟨r1,r2⟩ s' ⟨hr,rfl,hz⟩;simp only at hr;subst hr;refine gn ?_;rcases hz with hz|⟨hz,e1⟩|⟨hz,e1,e2⟩
  .cases hz
  .cases hz
  .have hf:ltZ p q=false:=by unfold ltZ;simp[e1,e2]
   rw[hf]at h;exact h
def TB{Q:Value->Shared->Prop}(hu:A.units<cLine)(ha:TPair s.heap a p)(hb:TPair s.heap b q)(h:Q (.bool (ltZ p q)) s):wpAny 92 A (richCompare .Lt (.ref a) (.ref b)) Q E s:=
 wpAny_richCompare_same_room (op:=.Lt) ha.typeIs hb.typeIs F.slot_tuple_lt
  (jd F.slot_tuple_lt ha.typeIs F.entry_tuple_lt (T9 ha hb ⟨_,rfl,(λe=>nomatch e),h⟩) (F.args_tuple_lt_2 _ _)) hu
end
section
variable{M:Model}{A:Around}{E:Value->Shared->Prop}{s:Shared}{env:Env}
def Nm{pos:Pos}{a:Addr}{e:Expr}{rest:List Expr}{Q:Value->Shared->Prop}
 (h:wpAny M A (spliced (backTo pos (starEach (e::rest) env))) (λvs s₁=>(∃(o:Obj) (fd:FuncData),s₁.heap.get? a=some o/\o.data=.func fd)/\wpAny M A (call (.ref a) vs) Q E s₁) E s)
 (he:starEach (e::rest) env=(false,eval e env)::starEach rest env:=by rfl):
 wpAny M A (callWith pos (.ref a) [] (backTo pos (starEach (e::rest) env)) []) Q E s:=by
 rw[he]at h ⊢;unfold callWith;refine gh (il (hZ (Calls.evalArgs_plain (Q:=λx s₁=>(∃(o:Obj) (fd:FuncData),s₁.heap.get? a=some o/\o.data=.func fd)/\wpAny M A (call (.ref a) ([]++x.pos) x.kw) Q E s₁) (hZ h (λvs s₁ h₁=>h₁) λ_ _ x=>x)) (λx s₁ h₁=>gh (j5 ?_)) λ_ _ x=>x));obtain⟨⟨o,fd,g1,g2⟩,g3⟩:=h₁;have tail:∀{t:Sem Value},wpAny M A t Q E s₁->wpAny M A (t >>= λr=>holding [r] point >>= λ_=>pure r) Q E s₁:=
  λht=>gh (hZ ht (λr s₂ hr=>gh (il (wpAny_point (gn hr)))) λ_ _ x=>x)
 cases hs:((backTo pos ((false,eval e env)::starEach rest env)).any (·.1)||([]:List (Option Str×Sem Value)).any (·.1.isNone))<;>refine gh (m:=keeperOf (.ref a)) ?_<;>unfold keeperOf<;>refine gh (wpAny_load g1 ?_)<;>rw[g2]<;>refine gn ?_
 .first|refine wpAny_ite ?_|skip
  split<;>first|exact tail g3|exact tail (by unfold callMarked;exact Calls.wpAny_keep g3)
 .first|exact tail (by unfold callMarked;exact Calls.wpAny_keep g3)|exact tail g3
end
def PV(P:Addr)(q:Str)(pos:Pos):TE:=λ_ H Q=>∃ps,H P=some (.tbl ps)/\D4 H q pos ps/\∀H2 c f,TabStep P q pos H H2->H2 c=some (.ext (cdF c q))->H2 f=none->Q (.ref f) (upd H2 f (.ext (fnF f c q)))
def MQ(tf:TE)(ta:TA):TE:=λσ H Q=>tf σ H λv H1=>∃f,v=.ref f/\ta σ H1 λvs H2=>∃c q x y,vs=[x,y]/\H2 f=some (.ext (fnF f c q))/\H2 c=some (.ext (cdF c q))/\Q y H2
section
variable{X:Cx}{c P:Addr}{scope:Scope}{fr:List Str}{ix:List Nat}{params:Arguments}{p1 p2:Str}{pp lpos:Pos}
def XY(LA:LamAt X c P)(S:CSc X scope fr ix)(hcl:AV X.env.cells scope.names []=[])(L:SndOk 73 params scope (.Name p2 pp) p1 p2)(hdef:defaultsOf params X.env=([],[]):=by rfl):
 PE X (.Lambda params (.Name p2 pp) scope lpos) (PV P 73 lpos):=by
 intro pins s σ H Q I h;obtain⟨ps,hP,hg,go⟩:=h;refine Gb S LA I hdef hP hg λf cd ctv H2 s2 I2 M=>?_;obtain⟨c',rfl,hc'⟩:=M.cdc;have ff:FpOk X pins H2 f:=I.fpOk M.new M.fre;have ho:=M.fn;rw[hcl]at ho;have J:=I2.adopt (o:=.ext (fnF f c' 73)) ff (ia I.sz M.new) ⟨⟨_,_,_,_,_,_,_,ho,L⟩,⟨_,ho⟩,λh1 h2 q k=>by
  obtain⟨a1,a2,a3,a4,a5,a6,a7,g,z⟩:=q;exact⟨a1,a2,a3,a4,a5,a6,a7,k _ g,z⟩⟩
 exact⟨.ref f,_,J,rfl,go H2 c' f M.step hc' M.fre⟩
def UW{x:Str}{e:Expr}{es:List Expr}{tf:TE}{ta:TA}{p pos:Pos}(hr:Room 1 X.A)(hf:PE X (.Name x p) tf)(ha:PA X (e::es) ta)(he:starEach (e::es) X.env=88::starEach es X.env:=by rfl):
 PE X 113 (MQ tf ta):=by
 intro pins s σ H Q I h;refine j6 (thn (hf pins s σ H _ I h) λu s1 hu=>?_);obtain⟨v,H1,I1,rv,q⟩:=hu;obtain⟨f,rfl,q⟩:=q;cases rv;refine Nm (thn (ha pos pins s1 σ H1 _ I1 q) λus s2 hus=>?_) he;obtain⟨vs,H2,I2,r,c,q,x,y,rfl,g1,g2,hQ⟩:=hus;obtain⟨u0,u1,rfl,r0,r1⟩:∃u0 u1,us=[u0,u1]/\RelV x u0/\RelV y u1:=by
  cases r with
  |cons a b=>cases b with
   |cons a2 b2=>cases b2;exact⟨_,_,rfl,a,a2⟩
 obtain⟨params,scope,p1,p2,pos',pm,ctv,ho',S⟩:=(I2.hok f _ g1).1;refine⟨⟨_,_,ho',rfl⟩,?_⟩;exact hZ (TX I2 rfl hr g1 g2 r0 r1 hQ) (λ_ _ z=>z) λ_ _ z=>z.elim
end
def MD(K:Frag)(H:Hp)(k:V)(n:Int×Int):Prop:=∃a,k=.ref a/\SqT K H a [.int n.1,.int n.2]
def GJ(K:Frag)(src:Hp->List V->Prop)(G:Hp->Prop)(tb:TE)(cap:St):Nat->Nat->V->V->Int×Int->Hp->VK->Prop
 |0,j,b,_,_,H,Q=>(∃xs,src H xs/\96=j)/\Q b H
 |m+1,j,b,kv,kb,H,Q=>∃xs x,src H xs/\xs[j]?=some x/\G H/\tb (some x::cap) H λk H1=>∃n:Int×Int,MD K H1 k n/\MD K H1 kv kb/\(if ltZ n kb=true then GJ K src G tb cap m (j+1) x k n H1 Q else GJ K src G tb cap m (j+1) b kv kb H1 Q)
def Kg(K:Frag)(src:Hp->List V->Prop)(G:Hp->Prop)(tb:TE)(cap:St)(m:Nat)(H:Hp)(Q:VK):Prop:=
 ∃xs x,src H xs/\xs[0]?=some x/\G H/\tb (some x::cap) H λk H1=>∃n:Int×Int,MD K H1 k n/\GJ K src G tb cap m 1 x k n H1 Q
def Oh{X:Cx}{pins:List 78}{σ:St}{H:Hp}{s:Shared}{a:Addr}{n:Int×Int}(I:Inv X pins σ H s)(h:SqT X.K H a [.int n.1,.int n.2]):TPair s.heap a n:=by
 obtain⟨jts,rj,⟨o,ho,hc,m,hd⟩,_⟩:=I.tuple h;cases rj with
 |cons a1 b1=>cases b1 with
  |cons a2 b2=>
   cases b2;obtain⟨t,rfl⟩:=a1;obtain⟨u,rfl⟩:=a2;exact⟨o,m,t,u,ho,hc,hd⟩
section
variable{X:Cx}{pins:List 78}{σ:St}{l f It S:Addr}{src:Hp->List V->Prop}{G:Hp->Prop}{tb:TE}{cap:St}{Q:VK}{E:Value->Shared->Prop}
def S6(hu:X.A.in1.units<cLine)(hh:X.A.handled=none)
 (hsrc:∀pins' H' s' xs,Inv X pins' σ H' s'->src H' xs->∃its:List Value,Vals xs its/\s'.heap.IsList l 109) (hSI:S≠It) (n0:Nat) (hI0:∀H',H' It=none->FpOk X pins H' It) (hS0:∀H',H' S=none->FpOk X pins H' S)
 (turn:∀(pins':List 78) (H1:Hp) (s1:Shared) (x:V) (u:Value) (Q1:VK),(∀p∈pins,p∈pins')->Inv X pins' σ H1 s1->RelV x u->G H1->tb (some x::cap) H1 Q1->wpAny 69 X.A.in1 (call (.ref f) [u]) (EP X pins' σ Q1) (λ_ _=>False) s1):
 ∀(m:Nat) (j:Nat) (b:V) (vb:Value) (kv:V) (vk:Value) (kb:Int×Int) (c:Nat) (oI:Obj) (H:Hp) (s:Shared),Inv X ((S,seqObj "list" #[vb,vk] c)::(It,oI)::pins) σ H s->s.heap.IsListIter It l j->RelV b vb->RelV kv vk ->
   GJ X.K src G tb cap m j b kv kb H Q->codeAny 69 X.A (.builtin "min.loop" ⟨[.ref It,.ref f,.ref S],[]⟩) (λr s'=>match r with|.ok (.ret v)=>EP X pins σ Q v s'|.ok _=>False|.error e=>E e s') s:=by
 have hname:(toString "min"++toString ".loop":String)="min.loop":=by decide
 intro m
 induction m with
 |zero=>
  intro j b vb kv vk kb c oI H s J hit rb rk0 hgo;obtain⟨⟨xs,hG,hje⟩,hQ⟩:=hgo;have nS:=J.pin (S,seqObj "list" #[vb,vk] c) (gv _ gy);have nI:=J.pin (It,oI) (gv _ (gp _ gy));refine iT PySem.F.entry_min_loop ?_;rw[Around.under_plainId PySem.F.plain_min_loop _];show wpAny _ X.A.in1 (seqItems? (.ref S) >>= _) _ _ _;refine gh (iK nS.1 rfl ?_);show wpAny _ X.A.in1 (tryCatch (pyNext (.ref It)) _ >>= _) _ _ _;obtain⟨its,hv,hil⟩:=hsrc _ _ _ _ J hG;have hlen:=hv.length;refine gh (iP (wpAny_pyNext_list_end hh hit hil 79 λh' hk'=>?_));have hS':=hk' S _ hSI nS.1;have s1:=Heap.SameBut.update h' S (Obj.mapSeq λ_=>(#[]:Array Value));show wpAny _ X.A.in1 (updateSeq S (λ_=>#[]) >>= _) _ _ _;refine gh ?_;refine jw hS' rfl (gh (iO (gn ?_)));have J1:Inv X ((It,oI)::pins) σ H s:=J.pins_of λp hp=>J.pin p (gv _ (gp _ hp));have J2:Inv X pins σ H { s with heap:=h',toks:=s.toks }:=J1.turnE (hI0 H nI.2.1) λc u n e=>hk' c u n e;have J3:=(J2.repin (hS0 H nS.2.1) hS' (λv z=>by cases z)).turnE (t':=s.toks) (hS0 H nS.2.1) λc u n e=>(s1.2 c n).trans e;exact⟨b,H,J3,rb,hQ⟩
 |succ m ih=>
  intro j b vb kv vk kb c oI H s J hit rb rk0 hgo;obtain⟨xs,x,hsr,hxj,hG,hgo⟩:=hgo;obtain⟨its,hv,hil⟩:=hsrc _ _ _ _ J hsr;obtain⟨u,hu9,ru⟩:=hv.get hxj;have nS:=J.pin (S,seqObj "list" #[vb,vk] c) (gv _ gy);have nI:=J.pin (It,oI) (gv _ (gp _ gy));refine iT PySem.F.entry_min_loop ?_;rw[Around.under_plainId PySem.F.plain_min_loop _];show wpAny _ X.A.in1 (seqItems? (.ref S) >>= _) _ _ _;refine gh (iK nS.1 rfl ?_);show wpAny _ X.A.in1 (tryCatch (pyNext (.ref It)) _ >>= _) _ _ _;refine gh (iP (jA hit hil (x:=u) (by simpa using hu9) λh' hit' hs'=>?_));obtain⟨oI',hoI',hoc,hod⟩:=id hit';have hSh':h'.get? S=some (seqObj "list" #[vb,vk] c):=(hs'.2 S hSI).trans nS.1;have dI:∀v,oI'.data≠.cell v:=λv z=>by rw[hod]at z;cases z
  have J1:Inv X ((It,oI)::pins) σ H s:=J.pins_of λp hp=>J.pin p (gv _ (gp _ hp));have J2:Inv X pins σ H { s with heap:=h',toks:=s.toks }:=J1.turnE (hI0 H nI.2.1) λc u n e=>(hs'.2 c n).trans e;have J3:=(J2.repin (hI0 H nI.2.1) hoI' dI).repin ((hS0 H nS.2.1).more hSI.symm) hSh' (λv z=>by cases z);show wpAny _ X.A.in1 (tryCatch (holding [u] (call (.ref f) [u])) _ >>= _) _ _ _;refine gh (iP (il (hZ (turn _ H _ x u _ (λp hp=>gp _ (gp _ hp)) J3 ru hG hgo) (λv s2 he=>?_) λ_ _ hF=>hF.elim)));obtain⟨k,H2,J4,rk,n,hn1,hn2,hgo2⟩:=he;obtain⟨ka,rfl,sqa⟩:=id hn1;obtain⟨kb',rfl,sqb⟩:=id hn2;cases rk;cases rk0;have nS2:=J4.pin (S,seqObj "list" #[vb,.ref kb'] c) (gv _ gy);have nI2:=J4.pin (It,oI') (gv _ (gp _ gy));show wpAny _ X.A.in1 (tryCatch (holding [u,.ref ka] (richCompare .Lt (.ref ka) (.ref kb') >>= _)) _ >>= _) _ _ _;refine gh (iP (il (gh (TB hu (Oh J4 sqa) (Oh J4 sqb) ?_))));refine gh (il (iW ?_));refine gh (iO (gn ?_));by_cases hb':ltZ n kb=true
  .have s1:=Heap.SameBut.update s2.heap S (Obj.mapSeq λ_=>#[u,.ref ka]);obtain⟨c2,hc2⟩:∃c2,(s2.heap.update S (Obj.mapSeq λ_=>#[u,.ref ka])).get? S=some (seqObj "list" #[u,.ref ka] c2):=⟨_,je nS2.1 λ_=>#[u,.ref ka]⟩
   simp only[hb',i3]at hgo2 ⊢;refine gh ?_;refine jw nS2.1 rfl (gh (iO ?_));rw[hname];have J5:Inv X ((S,seqObj "list" #[vb,.ref kb'] c)::pins) σ H2 s2:=J4.pins_of λp hp=>by
    rcases mem_cons.mp hp with rfl|hp
    .exact nS2
    .exact J4.pin p (gv _ (gp _ (gp _ hp)))
   have J6:Inv X pins σ H2 { s2 with heap:=s2.heap.update S (Obj.mapSeq λ_=>#[u,.ref ka]),toks:=s2.toks }:=J5.turnE (hS0 H2 nS2.2.1) λc u n e=>(s1.2 c n).trans e;have gI:(s2.heap.update S (Obj.mapSeq λ_=>#[u,.ref ka])).get? It=some oI':=(s1.2 It hSI.symm).trans nI2.1;have J7:=(J6.repin (hI0 H2 nI2.2.1) gI dI).repin ((hS0 H2 nS2.2.1).more hSI.symm) hc2 (λv z=>by cases z);exact gn ⟨j8 PySem.F.plain_min_loop _,ih (j+1) x u (.ref ka) (.ref ka) n c2 oI' H2 _ J7 ⟨oI',gI,hoc,hod⟩ ru rfl hgo2⟩
  .simp only[hb',Bool.false_eq_true,ip]at hgo2 ⊢;refine gh (iO ?_);rw[hname];exact gn ⟨j8 PySem.F.plain_min_loop _,ih (j+1) b vb (.ref kb') (.ref kb') kb c oI' H2 _ J4 ⟨oI',nI2.1,hoc,hod⟩ rb rfl hgo2⟩
def Uc(hu:X.A.in1.units<cLine){H:Hp}{s:Shared}(hh:X.A.handled=none)(I:Inv X pins σ H s)(hsrc:∀pins' H' s' xs,Inv X pins' σ H' s'->src H' xs->∃its:List Value,Vals xs its/\s'.heap.IsList l 109)
 (turn:∀(pins':List 78) (H1:Hp) (s1:Shared) (x:V) (u:Value) (Q1:VK),(∀p∈pins,p∈pins')->Inv X pins' σ H1 s1->RelV x u->G H1->tb (some x::cap) H1 Q1->wpAny 69 X.A.in1 (call (.ref f) [u]) (EP X pins' σ Q1) (λ_ _=>False) s1)
 {m:Nat} (h:Kg X.K src G tb cap m H Q):wpAny 69 X.A (call (.builtin "min") [.ref l] [(Str.ofString "key",.ref f)]) (EP X pins σ Q) E s:=by
 have hname:(toString "min"++toString ".loop":String)="min.loop":=by decide
 obtain⟨xs,x,hsr,hx0,hG,hgo⟩:=h;obtain⟨_,_,hls⟩:=hsrc _ _ _ _ I hsr;refine kmk_tree PySem.F.kind_min PySem.F.plain_min PySem.F.entry_min (kmk_min_key _ _) ?_;show wpAny _ X.A.in1 (Builtin.Builtins.bindParams "min" ["key","default"] 0 ⟨[],[(Str.ofString "key",.ref f)]⟩ >>= _) _ _ s;refine gh (wpAny_of_eq (show Builtin.Builtins.bindParams "min" ["key","default"] 0 ⟨[],[(Str.ofString "key",.ref f)]⟩=pure [some (.ref f),none]from rfl) ?_);refine gh (gn ?_);refine gh (wpAny_pyIter_list hls ?_);refine gh (jv ?_ (iB _));rw[hname];have hS:(76).objs.size=66+1:=size_push' ..;rw[hS];have gI:((76).push 119).get? 66=some { cls:=.type "list_iterator",data:=.fields #[.ref l,.int 0 0] }:=
  74 _ (87 _ rfl)
 have gS:((76).push 119).get? (66+1)=some 119:=by rw[<- hS];exact 87 _ rfl
 have kp:∀b o,s.heap.get? b=some o->((76).push 119).get? b=some o:=λb o e=>74 _ (74 _ e);have I1:Inv X pins σ H { s with heap:=(s.heap.push { cls:=.type "list_iterator",data:=.fields #[.ref l,.int 0 0] }).push (seqObj "list" #[] 0),toks:=s.toks }:=I.kept (t':=s.toks) kp;have hSI:66+1≠s.heap.objs.size:=iC (jk _);have hI0:∀H',H' 66=none->FpOk X pins H' s.heap.objs.size:=λH' hn=>I.fpOk (gm _) hn;have hS0:∀H',H' (66+1)=none->FpOk X pins H' (66+1):=λH' hn=>I.fpOk (iV _) hn;have nI:H 66=none:=I.hok.fresh (gm _);have nS:H (66+1)=none:=I.hok.fresh (iV _);generalize (76).push 119=h1 at gI gS I1 ⊢;refine gn ⟨j8 PySem.F.plain_min_loop _,?_⟩;refine iT PySem.F.entry_min_loop ?_;rw[Around.under_plainId PySem.F.plain_min_loop _];show wpAny _ X.A.in1 (seqItems? (.ref (66+1)) >>= _) _ _ _;refine gh (iK gS rfl ?_);show wpAny _ X.A.in1 (tryCatch (pyNext (.ref 66)) _ >>= _) _ _ _;obtain⟨its,hv,hil⟩:=hsrc _ _ _ _ I1 hsr;obtain⟨u,hu9,ru⟩:=hv.get hx0;refine gh (iP (jA (i:=0) ⟨_,gI,rfl,rfl⟩ hil (x:=u) (by simpa using hu9) λh' hit' hs'=>?_));obtain⟨oI',hoI',hoc,hod⟩:=id hit';have dI:∀v,oI'.data≠.cell v:=λv z=>by rw[hod]at z;cases z
 have hSh':h'.get? (66+1)=some 119:=(hs'.2 _ hSI).trans gS;have J2:Inv X pins σ H { s with heap:=h',toks:=s.toks }:=(I1.repin (hI0 H nI) gI (λv z=>by cases z)).turnE (hI0 H nI) λc u n e=>(hs'.2 c n).trans e;have J3:=(J2.repin (hI0 H nI) hoI' dI).repin ((hS0 H nS).more hSI.symm) hSh' (λv z=>by cases z);show wpAny _ X.A.in1 (tryCatch (holding [u] (call (.ref f) [u])) _ >>= _) _ _ _;refine gh (iP (il (hZ (turn _ H _ x u _ (λp hp=>gp _ (gp _ hp)) J3 ru hG hgo) (λv s2 he=>?_) λ_ _ hF=>hF.elim)));obtain⟨k,H2,J4,rk,n,hn1,hgo2⟩:=he;obtain⟨ka,rfl,sqa⟩:=id hn1;cases rk;have nS2:=J4.pin (66+1,seqObj "list" #[] 0) (gv _ gy);have nI2:=J4.pin (66,oI') (gv _ (gp _ gy));have s1:=Heap.SameBut.update s2.heap (66+1) (Obj.mapSeq λ_=>#[u,.ref ka]);obtain⟨c2,hc2⟩:∃c2,(s2.heap.update (s.heap.objs.size+1) (Obj.mapSeq λ_=>#[u,.ref ka])).get? (s.heap.objs.size+1)=some (seqObj "list" #[u,.ref ka] c2):=⟨_,je nS2.1 λ_=>#[u,.ref ka]⟩
 show wpAny _ X.A.in1 (updateSeq (66+1) (λ_=>#[u,.ref ka]) >>= _) _ _ _;refine gh ?_;refine jw nS2.1 rfl ?_;rw[hname];have J5:Inv X ((66+1,seqObj "list" #[] 0)::pins) σ H2 s2:=J4.pins_of λp hp=>by
  rcases mem_cons.mp hp with rfl|hp
  .exact nS2
  .exact J4.pin p (gv _ (gp _ (gp _ hp)))
 have J6:Inv X pins σ H2 { s2 with heap:=s2.heap.update (s.heap.objs.size+1) (Obj.mapSeq λ_=>#[u,.ref ka]),toks:=s2.toks }:=J5.turnE (hS0 H2 nS2.2.1) λc u n e=>(s1.2 c n).trans e;have gI2:(s2.heap.update (66+1) (Obj.mapSeq λ_=>#[u,.ref ka])).get? 66=some oI':=(s1.2 _ hSI.symm).trans nI2.1;have J7:=(J6.repin (hI0 H2 nI2.2.1) gI2 dI).repin ((hS0 H2 nS2.2.1).more hSI.symm) hc2 (λv z=>by cases z);exact gn ⟨j8 PySem.F.plain_min_loop _,S6 hu hh hsrc hSI 0 hI0 hS0 turn m 1 x u (.ref ka) (.ref ka) n c2 oI' H2 _ J7 ⟨oI',gI2,hoc,hod⟩ ru rfl hgo2⟩
end
def PU(K:Frag)(P:Addr)(q:Str)(pos:Pos)(ix:List Nat)(te tb:TE):TE:=λσ H Q=>te σ H λv H1=>∃(a:Addr) (m:Nat) (ps:Array Value),v=.ref a/\H1 P=some (.tbl ps)/\D4 H1 q pos ps /\
 ∀H2 c,TabStep P q pos H1 H2->H2 c=some (.ext (cdF c q))->Kg K (λH xs=>SqL K H a xs) (λH=>H c=some (.ext (cdF c q))) tb (ix.map λi=>(σ[i]?).join) m H2 Q
section
variable{X:Cx}{c P:Addr}{scope:Scope}{fr:List Str}{ix:List Nat}{prm:Str}{params:Arguments}{body e:Expr}{p pos lpos kpos:Pos}{te tb:TE}
def XW(LA:LamAt X c P)(S:CSc X scope fr ix)(L:LSc scope prm)(hr:Room 3 X.A)(hcm:X.calm=true)(hg:Gl X "min")(hm:X.mg "min"=none)
 (hbind:∀(cl:List (Str×Addr)) (pm cd ctv us:Value),bindArgs 112 ⟨[us],[]⟩=pure [(prm,us)])
 (he:PE X e te) (hb:∀(f:Addr) (cd:Value) (s:Shared) (H:Hp),PE (lCx X X.A.in1 (prm::fr) 73 scope f cd 86 s H) body tb)
 (hdef:defaultsOf params X.env=([],[]):=by rfl) (hs:starEach [e] X.env=[88]:=by rfl):
 PE X (.Call (.Name "min" p) [e] [⟨some "key",.Lambda params body scope lpos,kpos⟩] pos) (PU X.K P 73 lpos ix te tb):=by
 intro pins s σ H Q I h;have PAe:PA X [e] (BB te Bp):=BV he CK hs;refine j6 (Cn (u:=.builtin "min") I hg hm bt_min ?_);have pl:(backTo pos (starEach [e] X.env)).any (·.1)=false:=by rw[hs];rfl
 refine callWith_builtin_kwB pl rfl (evalArgs_kw2 (env:=X.env) (e:=e) (rest:=[]) (kws:=[⟨some "key",.Lambda params body scope lpos,kpos⟩]) rfl (thn (PAe pos pins s σ H (λvs H1=>match vs with
  |[v]=>∃(a:Addr) (m:Nat) (ps:Array Value),v=.ref a/\H1 P=some (.tbl ps)/\D4 H1 73 lpos ps /\
   ∀H2 c,TabStep P 73 lpos H1 H2->H2 c=some (.ext (cdF c 73))->Kg X.K (λH xs=>SqL X.K H a xs) (λH=>H c=some (.ext (cdF c 73))) tb (ix.map λi=>(σ[i]?).join) m H2 Q
  | _=>False) I h) λus s1 hq=>?_) hs)
 obtain⟨vs,H1,I1,r,q⟩:=hq
 match vs,q with
 |[v],q=>
 obtain⟨a,m,ps,rfl,hP,hg1,go⟩:=q;obtain⟨u,rfl,ru⟩:=C4 r;cases ru;show wpAny _ _ (evalAll [(do let v <- eval (.Lambda params body scope lpos) X.env;standAt pos;pure v)]) _ _ s1;refine jC (gh (Gb S LA I1 hdef hP hg1 λf cd ctv H2 s2 I2 M=>gh (j5 (gn (jD ?_)))));show wpAny _ _ (call (.builtin "min") [.ref a] [(Str.ofString "key",.ref f)]) _ _ s2;obtain⟨c',rfl,hc'⟩:=M.cdc;have go':=go H2 c' M.step hc';have ff:FpOk X pins H2 f:=I1.fpOk M.new M.fre;have I3:=I2.repin ff M.fn (λv z=>by cases z);refine hZ (Uc hr.in1.units0 (pins:=(f,_)::pins) (I3.ok.hd hcm) I3 (λpins' H' s' xs J hG=>?_) (λpins' H' s' x u Q1 sub J ru hG hq=>?_) go') (λv s' hv=>?_) λ_ _ z=>z
 .obtain⟨its,rv,pl2,hz⟩:=J.list hG;exact⟨its,rv,pl2.isList⟩
 .have pf:=J.pin (f,_) (gv _ (sub _ gy));exact Iz (A:=X.A.in1) (f:=f) S L J rfl (hr.in1.mono 77) pf.1 (J.hok c' _ hG).1 (λus=>hbind _ _ _ _ us) (λs H=>hb f _ s H) ru hq
 .obtain⟨y,H',J,ry,qy⟩:=hv;exact⟨y,H',J.pins_of λp hp=>J.pin p (gv _ (gp _ hp)),ry,qy⟩
end
def Ji:ME:=λ_ hd=>some (.fv 0 [],hd)
def Dq(mf:ME)(ma:MA):ME:=λls hd=>(mf ls hd).bind λp=>match p.1 with
 |.fv 0 []=>(ma ls p.2).bind λr=>match r.1 with
  |[_,e]=>some (e,r.2)
  |_=>none
 |_=>none
def WU{K:Frag}{P:Addr}{q:Str}{pos:Pos}(TI:Fk K P q pos):RE K (PV P q pos) Ji:=by
 and_intros;cases hm;obtain⟨p',et,_,l1,l2⟩:=id TI;obtain⟨ps,hP,hG⟩:=hR.tabs (P,q,p') et;have hG':D4 H q pos ps:=by
  rcases hG with g|⟨c,g1,g2⟩
  .exact .inl g
  .refine .inr ⟨c,?_,g2⟩;rw[g1];show #[rawInt p'.line,rawInt p'.col,Value.ref c]=_;rw[l1,l2]
 refine⟨ps,hP,hG',λH2 c f step hc hf=>?_⟩;obtain⟨R2,x2⟩:=GP hR hP step TI;obtain⟨R3,x3⟩:=R2.hid hf (ho:=.ext (fnF f c q));refine hQ ρ _ _ (x2.trans R2 x3) R3 ?_;simp only[RD,RDs];refine⟨f,[],rfl,⟨rfl,rfl,c,q,AN,?_⟩,rfl⟩;rw[AD (λz=>by subst z;rw[hf]at hc;cases hc)];exact hc
def Ts{K:Frag}{tf:TE}{ta:TA}{mf:ME}{ma:MA}(hf:RE K tf mf)(ha:RA K ta ma):RE K (MQ tf ta) (Dq mf ma):=by
 and_intros;obtain⟨⟨d1,h1⟩,e1,hm⟩:=c5 hm;dsimp only at hm;split at hm
 .obtain⟨⟨ds,h2⟩,e2,hm⟩:=c5 hm;dsimp only at hm;split at hm
  .next d0 e=>
   cases hm;refine hf ρ σ H hd ls _ _ _ hR hL e1 λρ1 H1 v1 x1 R1 r1=>?_;simp only[RD,RDs]at r1;obtain⟨f,xs,rfl,⟨_,_,c,q,g1,g2⟩,_⟩:=r1;refine⟨f,rfl,ha ρ1 σ H1 _ ls _ _ _ R1 (hL.ext hR x1) e2 λρ2 H2 vs x2 R2 r2=>?_⟩;simp only[RDs]at r2;obtain⟨x,r,rfl,q1,y,r',rfl,q2,rfl⟩:=r2;exact⟨c,q,x,y,rfl,(x2.grow R1).keep _ _ trivial g1,(x2.grow R1).keep _ _ trivial g2,hQ ρ2 H2 y 83 R2 q2⟩
  .cases hm
 .cases hm
def Iq{K:Frag}{ρ:List Addr}{H:Hp}{a b:Int}{k:V}(h:RD K ρ H (.im (.tup [.int a,.int b])) k):MD K H k (a,b):=by
 simp only[RD,RI,RIs]at h;obtain⟨p,xs,rfl,sq,x,r,rfl,rfl,y,r',rfl,rfl,rfl⟩:=h;exact⟨p,rfl,sq⟩
open Classical in
def Ge(mb:ME)(cap:Ls)(hd:Hd):List D->Option (List (Int×Int))
 |[]=>some []
 |d::r=>match mb (some d::cap) hd with
  |some (.im (.tup [.int n,.int n2]),h)=>match Ge mb cap hd r with
   |some ks=>if h=hd then some ((n,n2)::ks)else none
   |none=>none
  |_=>none
def Cs:List D->List (Int×Int)->D->Int×Int->D
 |x::r,n::ns,b,kb=>if ltZ n kb=true then Cs r ns x n else Cs r ns b kb
 |_,_,b,_=>b
def FG(mi:ME)(ix:List Nat)(mb:ME):ME:=λls hd=>(mi ls hd).bind λp=>(Am p.2 p.1).bind λds=>(Ge mb (ix.map λi=>(ls[i]?).join) p.2 ds).bind λkz=>match ds,kz with
 |d::r,n::ns=>some (Cs r ns d n,p.2)
 |_,_=>none
section
variable{K:Frag}{hd:Hd}
theorem JE{tb:TE}{mb:ME}{ix:List Nat}{q:Str}{c a:Addr}{d1:D}{ds:List D}(hb:RE K tb mb){ls:Ls}{σ:St}(ev:Am hd d1=some ds):∀(rs:List D) (ns:List (Int×Int)) (j:Nat) (bd:D) (bv kv:V) (kb:Int×Int) (ρ:List Addr) (H:Hp) (Q:VK),ds.drop j=rs->j<=103 ->
 Ge mb (ix.map λi=>(ls[i]?).join) hd rs=some ns->RH K ρ H hd->RL K ρ H ls σ->H c=some (.ext (cdF c q))->RD K ρ H d1 (.ref a)->RD K ρ H bd bv->RD K ρ H (.im (.tup [.int kb.1,.int kb.2])) kv ->
 (∀ρ' H' v,Ext ρ H ρ' H'->RH K ρ' H' hd->RD K ρ' H' (Cs rs ns bd kb) v->Q v H') ->
 GJ K (λH xs=>SqL K H a xs) (λH=>H c=some (.ext (cdF c q))) tb (ix.map λi=>(σ[i]?).join) rs.length j bv kv kb H Q
 |[],ns,j,bd,bv,kv,kb,ρ,H,Q,hr,hj,e,R,L,hc,r1,rb,rkb,k=>by
  obtain⟨a',xs,ea,sq,rs⟩:=RD.lst R r1 ev;cases ea;have hl:=rs.len;have hd0:=iw List.length hr;simp at hd0;refine⟨⟨xs,sq,by omega⟩,k ρ H bv .refl R ?_⟩;cases e;exact rb
 |x::r,ns,j,bd,bv,kv,kb,ρ,H,Q,hr,hj,e,R,L,hc,r1,rb,rkb,k=>by
  obtain⟨a',xs,ea,sq,rs⟩:=RD.lst R r1 ev;cases ea;have hjl:j<ds.length:=by
   have:=iw List.length hr;simp at this;omega
  have hxj:ds[j]?=some x:=by
   rw[iN hjl]at hr;rw[List.getElem?_eq_getElem hjl,(List.cons.inj hr).1]
  have hr':ds.drop (j+1)=r:=by
   rw[iN hjl]at hr;exact(List.cons.inj hr).2
  obtain⟨v,hv,rv⟩:=rs.get hxj;unfold Ge at e;split at e
  .next n n2 h e1=>
   split at e
   .next ks e2=>
    split at e
    .next eh=>
     cases e;rw[eh]at e1;refine⟨xs,v,sq,hv,hc,hb ρ _ H _ _ _ (.im (.tup [.int n,.int n2])) _ R (JV L rv) e1 λρ1 H1 v1 x1 R1 rk=>?_⟩;have oc:c∉ρ:=λm=>by rcases R.mut m with⟨y,w⟩|⟨y,w⟩<;>(rw[hc]at w;cases w)
     have rkb1:=rkb.ext R x1;refine⟨(n,n2),Iq rk,Iq rkb1,?_⟩;by_cases hop:ltZ (n,n2) kb=true
     .rw[gi hop];refine JE hb ev r ks (j+1) x v v1 (n,n2) ρ1 H1 Q hr' hjl e2 R1 (L.ext R x1) (x1.keep c _ hc oc nt) (r1.ext R x1) (rv.ext R x1) rk λρ2 H2 w x2 R2 r2=>k ρ2 H2 w 83 R2 ?_;rw[Cs,gi hop];exact r2
     .rw[gj hop];refine JE hb ev r ks (j+1) bd bv kv kb ρ1 H1 Q hr' hjl e2 R1 (L.ext R x1) (x1.keep c _ hc oc nt) (r1.ext R x1) (rb.ext R x1) rkb1 λρ2 H2 w x2 R2 r2=>k ρ2 H2 w 83 R2 ?_;rw[Cs,gj hop];exact r2
    .cases e
   .cases e
  .cases e
def WQ{te tb:TE}{mi mb:ME}{P:Addr}{q:Str}{pos:Pos}{ix:List Nat}(hi:RE K te mi)(hb:RE K tb mb)(TI:Fk K P q pos):RE K (PU K P q pos ix te tb) (FG mi ix mb):=by
 and_intros;obtain⟨⟨d1,h1⟩,e1,hm⟩:=c5 hm;obtain⟨ds,e2,hm⟩:=c5 hm;obtain⟨kz,e3,hm⟩:=c5 hm;dsimp only at hm e2 e3;split at hm
 .next x r n ns _=>
  cases hm;refine hi ρ σ H hd ls _ d1 _ hR hL e1 λρ1 H1 v1 x1 R1 r1=>?_;obtain⟨a,xs,rfl,sq,rs⟩:=RD.lst R1 r1 e2;obtain⟨p',et,_,l1,l2⟩:=id TI;obtain⟨ps,hP,hG⟩:=R1.tabs (P,q,p') et;have hG':D4 H1 q pos ps:=by
   rcases hG with g|⟨c,g1,g2⟩
   .exact .inl g
   .refine .inr ⟨c,?_,g2⟩;rw[g1];show #[rawInt p'.line,rawInt p'.col,Value.ref c]=_;rw[l1,l2]
  refine⟨a,r.length,ps,rfl,hP,hG',λH2 c step hc=>?_⟩;obtain⟨R2,x2⟩:=GP R1 hP step TI;have x12:=x1.trans R1 x2;have L2':=hL.ext hR x12;have r2:=r1.ext R1 x2;obtain⟨a',xs,ea,sq,rs⟩:=RD.lst R2 r2 e2;cases ea;obtain⟨v,hv,rv⟩:=rs.get (i:=0) (d:=x) rfl;unfold Ge at e3;split at e3
  .next n' n2 h e4=>
   split at e3
   .next ks e5=>
    split at e3
    .next eh=>
     cases e3;rw[eh]at e4;refine⟨xs,v,sq,hv,hc,hb ρ1 _ H2 _ _ _ (.im (.tup [.int _,.int _])) _ R2 (JV L2' rv) e4 λρ3 H3 v3 x3 R3 rk=>?_⟩;have oc:c∉ρ1:=λm=>by rcases R2.mut m with⟨y,w⟩|⟨y,w⟩<;>(rw[hc]at w;cases w)
     refine⟨_,Iq rk,JE hb e2 r ns 1 x v v3 _ ρ3 H3 Q rfl 75 e5 R3 (L2'.ext R2 x3) (x3.keep c _ hc oc nt) (r2.ext R2 x3) (rv.ext R2 x3) rk λρ4 H4 w x4 R4 r4=>hQ ρ4 H4 w ((x12.trans R2 x3).trans R3 x4) R4 r4⟩
    .cases e3
   .cases e3
  .cases e3
 .cases hm
end
def UH(K:Frag){X:Cx}{x:Str}{e:Expr}{es:List Expr}{tf:TE}{ta:TA}{mf:ME}{ma:MA}{p pos:Pos}{k:Nat}(hr:Room k X.A)(hf:QE K X (.Name x p) tf mf)(ha:QA K X (e::es) ta ma)(hk:1<=k:=by decide)(he:starEach (e::es) X.env=88::starEach es X.env:=by rfl):
 QE K X 113 (MQ tf ta) (Dq mf ma):=⟨UW (hr.mono hk) hf.p ha.p he,Ts hf.r ha.r⟩
section
variable{K:Frag}{X:Cx}{c P:Addr}{fd:FuncData}{q:Str}{scope:Scope}{params:Arguments}{p2:Str}{pp p pos lpos kpos:Pos}{cdv:Value}{ix:List Nat}{body e:Expr}{te tb:TE}{mi mb:ME}{k:Nat}
def ZZ(LC:LamC X.K X.mg X.base fd c P q lpos)(hcd:fd.code=cdv)(hcv:X.env.code=cdv:=by rfl)(hq:q=X.env.qual++"<lambda>":=by rfl)(S:CSc X scope (frN X []) []:=by exact⟨rfl,by decide +kernel,rfl,rfl,rfl,by decide +kernel⟩)
 (L:SndOk q params scope (.Name p2 pp) (Fp params) p2:=by exact⟨by decide,⟨rfl,rfl,rfl,rfl⟩,⟨rfl,rfl,rfl,rfl⟩,rfl,rfl,by decide,by decide,λ_ _ _ _ _ _=>rfl⟩)
 (hcl:AV X.env.cells scope.names []=[]:=by rfl) (hdef:defaultsOf params X.env=([],[]):=by rfl) (hK:X.K=K:=by rfl):QE K X (.Lambda params (.Name p2 pp) scope lpos) (PV P 73 lpos) Ji:=by
 subst hq;subst hK;exact⟨XY ⟨hcv.trans (hcd.symm.trans LC.code),LC.hd,LC.bl⟩ S hcl L hdef,WU LC.ti⟩
def ZY(LC:LamC X.K X.mg X.base fd c P q lpos)(hcd:fd.code=cdv)(hr:Room k X.A)(hm:X.mg "min"=none)(he:QE K X e te mi)
 (hb:∀(f:Addr) (cd:Value) (s:Shared) (H:Hp),QE K (lCx X X.A.in1 (Fp params::frN X ix) 73 scope f cd 86 s H) body tb mb)
 (hcv:X.env.code=cdv:=by rfl) (hq:q=X.env.qual++"<lambda>":=by rfl) (S:CSc X scope (frN X ix) ix:=by exact⟨rfl,by decide +kernel,rfl,rfl,rfl,by decide +kernel⟩) (L:LSc scope (Fp params):=by exact⟨rfl,rfl,rfl,rfl⟩) (h3:3<=k:=by decide)
 (hbind:∀(cl:List (Str×Addr)) (pm cd ctv us:Value),bindArgs 112 ⟨[us],[]⟩=pure [(Fp params,us)]:=by exact λ_ _ _ _ _=>rfl)
 (hcm:X.calm=true:=by rfl) (hg:Gl X "min":=by rfl) (hdef:defaultsOf params X.env=([],[]):=by rfl) (hs:starEach [e] X.env=[88]:=by rfl) (hK:X.K=K:=by rfl):
 QE K X (.Call (.Name "min" p) [e] [⟨some "key",.Lambda params body scope lpos,kpos⟩] pos) (PU K P 73 lpos ix te tb) (FG mi ix mb):=by
 subst hq;subst hK;exact⟨XW ⟨hcv.trans (hcd.symm.trans LC.code),LC.hd,LC.bl⟩ S L (hr.mono h3) hcm hg hm hbind he.p (λf cd s H=>(hb f cd s H).p) hdef hs,WQ he.r (hb 0 .none X.s₀ X.H₀).r LC.ti⟩
end
section
variable{ls:Ls}{hd:Hd}{Q:D->Hd->Prop}
def Vo(q:Q (.fv 0 []) hd):WE Ji ls hd Q:=⟨_,_,rfl,q⟩
def T2{mf:ME}{ma:MA}(h:WE mf ls hd λd x=>d=.fv 0 []/\WA ma ls x λds y=>∃a b,ds=[a,b]/\Q b y):WE (Dq mf ma) ls hd Q:=by
 obtain⟨d,x,e1,rfl,ds,y,e2,a,b,rfl,q⟩:=h;refine⟨_,_,?_,q⟩;simp only[Dq,e1,gw,e2]
def T5{mi mb:ME}{ix:List Nat}(h:WE mi ls hd λd x=>∃(e:D) (es:List D) (kf:D->Int×Int),Am x d=some (e::es)/\(∀y∈e::es,mb (some y::ix.map λi=>(ls[i]?).join) x=some (.im (.tup [.int (kf y).1,.int (kf y).2]),x))/\Q (Cs es (es.map kf) e (kf e)) x):WE (FG mi ix mb) ls hd Q:=by
 obtain⟨d,x,e1,e,es,kf,e2,ek,q⟩:=h;have go:∀ys:List D,(∀y∈ys,mb (some y::ix.map λi=>(ls[i]?).join) x=some (.im (.tup [.int (kf y).1,.int (kf y).2]),x))->Ge mb (ix.map λi=>(ls[i]?).join) x ys=some (ys.map kf):=by
  intro ys
  induction ys with
  |nil=>intro _;rfl
  |cons y r ih=>
   intro h;unfold Ge;rw[h y gy,ih λz hz=>h z (gp _ hz)];simp
 refine⟨_,x,?_,q⟩;simp only[FG,e1,gw,e2,go _ ek,gq]
def leP(p q:Int×Int):Prop:=ltZ q p=false
def Uj(p:Int×Int):leP p p:=by unfold leP ltZ;simp
def Ky{p q r:Int×Int}(h:leP p q)(h':leP q r):leP p r:=by
 unfold leP ltZ at *;simp only[jF,not_or,not_and,Int.not_lt]at *;omega
theorem IB(kf:D->Int×Int):∀(es:List D) (b:D),Cs es (es.map kf) b (kf b)∈b::es/\∀y∈b::es,leP (kf (Cs es (es.map kf) b (kf b))) (kf y)
 |[],b=>⟨gy,λy hy=>by rw[i4]at hy;subst hy;exact Uj _⟩
 |e::es,b=>by
  rw[gq,Cs];by_cases h:ltZ (kf e) (kf b)=true
  .rw[gi h];obtain⟨h1,h2⟩:=IB kf es e;refine⟨gp _ h1,λy hy=>?_⟩;rcases mem_cons.mp hy with rfl|hy
   .refine Ky (h2 e gy) ?_;unfold leP ltZ at *;simp only[iU,jF,not_or,not_and,Int.not_lt]at *;omega
   .exact h2 y hy
  .rw[gj h];obtain⟨h1,h2⟩:=IB kf es b;refine⟨?_,λy hy=>?_⟩
   .rcases mem_cons.mp h1 with q|q
    .rw[q];exact gy
    .exact gp _ (gp _ q)
   .rcases mem_cons.mp hy with rfl|hy
    .exact h2 y gy
    .rcases mem_cons.mp hy with rfl|hy
     .refine Ky (h2 b gy) ?_;unfold leP;simpa using h
     .exact h2 y (gp _ hy)
end
theorem NR:∀{bs:List Int} {us:List Value} {i:Nat} {v:Value},Vals (bs.map V.int) us->us[i]?=some v->∃b t,bs[i]?=some b/\v=.int b t
 |[],_,_,_,.nil,e=>by simp at e
 |b::bs,_,0,_,.cons r _,e=>by
  simp at e;subst e;obtain⟨t,rfl⟩:=r;exact⟨b,t,rfl,rfl⟩
 |b::bs,_,i+1,_,.cons _ t,e=>by
  obtain⟨c,t,h1,h2⟩:=NR (i:=i) t (by simpa using e);exact⟨c,t,by simpa using h1,h2⟩
def VQ(K:Frag):List V->Hp->VK->Prop:=λxs H Q=>∃(a:Addr) (bs:List Int),xs=[.ref a]/\SqL K H a (bs.map V.int)/\Q (.bl (bs.any λn=>n != 0)) H
theorem any_map(bs:List Int):((71 bs.length).any λi=>((bs[i]?).getD 0) != 0)=bs.any λn=>n != 0:=by
 have:=LSm.range_any (bs.map λn=>n != 0);rw[hX,List.any_map]at this;rw[show(id ∘ λn:Int=>n != 0)=λn:Int=>n != 0 from rfl]at this;rw[<- this,Bool.eq_iff_iff,List.any_eq_true,List.any_eq_true];constructor
 .rintro⟨i,hi,h⟩;have hi':i<bs.length:=by simpa using hi
  exact⟨i,hi,by simpa [hi']using h⟩
 .rintro⟨i,hi,h⟩;have hi':i<bs.length:=by simpa using hi
  exact⟨i,hi,by simpa [hi']using h⟩
def Qj(K:Frag){X:Cx}(hc:X.calm=true)(hK:X.K=K:=by rfl):CallR X (.builtin "any") (VQ K):=by
 subst hK;intro pins s σ H xs us Q I r h;obtain⟨a,bs,rfl,hq,q⟩:=h;obtain⟨u,rfl,ru⟩:=C4 r;cases ru;obtain⟨its,rv,p,hz⟩:=I.list hq;have hl:=p.isList;have hlen:=rv.length;have hlt:a<s.heap.objs.size:=by obtain⟨_,e,_⟩:=hl;exact 90 e
 refine call_any_walk (wpAny_pyIter_list hl ?_);refine⟨66,[66,a],[66],its.toArray.size,_,_,λi=>((bs[i]?).getD 0) != 0,rfl,Walks.list (A:=X.A.in1) (I.ok.hd hc) _ a (gV hlt) 109,
  ⟨⟨_,87 _ rfl,rfl,rfl⟩,hl.push _⟩,λi v s' Q' E' hP hQ=>?_,λh' tk hk=>?_⟩
 .obtain⟨b,t,e,rfl⟩:=NR rv (by simpa using hP);simp only[e,getD_some]at hQ;exact P.truthy_int hQ
 .have e:((71 its.toArray.size).any λi=>((bs[i]?).getD 0) != 0)=bs.any λn=>n != 0:=by
   rw[gz,<- hlen,hX];exact any_map bs
  rw[e];exact⟨.bl _,H,I.kept (LSm.kept_iter hk),rfl,q⟩
def Jm(ds:List D):Option D:=(Al ds).map λns=>.im (.bl (ns.any λn=>n != 0))
def WH{K:Frag}:RG K false (VQ K) Jm:=by
 intro ρ H hd a xs ds Q z hR q r e hQ;obtain⟨ns,e1,rfl⟩:=c7 e;rw[CG e1]at r;have:=E4 r;subst this;rcases q with q|⟨q,_⟩
 .exact⟨a,ns,rfl,q,hQ H _ .refl hR 101⟩
 .cases q
end L2
namespace L2
open PySem PySem.Spec PyProof.Rows
def M6(mb:MS):MS:=mb
section
variable{X:Cx}{K:Frag}
def XC{body:List Stmt}{h₀:ExceptHandler}{hs:List ExceptHandler}{pos:Pos}{tb:TS}(hb:PSs X.nox body tb):PS X (.Try body (h₀::hs) [] [] pos) tb:=by
 intro pins s σ H D I h;refine wpAny_Try_except ?_;refine hZ (hb pins s σ H D (I.wish _) h) (λfl s1 q=>?_) λ_ _ z=>z.elim;have q:=q.unwish;cases fl with
 |next=>exact jy q
 |ret v=>exact q
 |brk=>exact q
 |cont=>exact q
def Wj{body:List Stmt}{h₀:ExceptHandler}{hs:List ExceptHandler}{pos:Pos}{tb:TS}{mb:MS}(hb:QSs K X.nox body tb mb):QS K X (.Try body (h₀::hs) [] [] pos) tb (M6 mb):=⟨XC hb.p,hb.r⟩
def Vi{mb:MS}{ls:Ls}{hd:Hd}{Q:Fl->Hd->Prop}(h:WS mb ls hd Q):WS (M6 mb) ls hd Q:=h
end
end L2
namespace Pl
open PySem L2 Bd
abbrev Pc:=Nat×Int×Int
def last:List Pc->Nat->Int->Int
 |[],_,v=>v
 |p::r,k,v=>last r k (if p.1=k then p.2.2 else v)
def dn:List Pc->Nat->Int
 |[],_=>0
 |p::r,k=>(if p.1=k then p.2.2-p.2.1 else 0)+dn r k
theorem LG:∀(ps:List Pc) (es:List Int) (k:Nat),(Ew es ps)[k]?=(es[k]?).map (last ps k)
 |[],es,k=>by
  show es[k]?=(es[k]?).map id;rw[Option.map_id_fun];rfl
 |p::r,es,k=>by
  rw[Ew,LG r,List.getElem?_set];by_cases h:p.1=k
  .subst h;by_cases hk:p.1<es.length
   .simp[hk,last]
   .simp[hk]
  .simp only[h,ip,last]
def ends_map{n:Nat}(ps:List Pc):Ew (102 n 0) ps=(71 n).map λk=>last ps k 0:=by
 refine jh λi=>?_;rw[LG];by_cases hi:i<n
 .simp[hi]
 .simp[hi]
theorem KM{k:Nat}{v:Int}:∀{ps:List Pc},(∀p∈ps,p.1≠k)->last ps k v=v
 |[],_=>rfl
 |p::r,h=>by
  rw[last,gj (h p gy)];exact KM λq hq=>h q (gp _ hq)
theorem Op{k:Nat}:∀{ps:List Pc} {v:Int},(∃p∈ps,p.1=k)->∃p∈ps,p.1=k/\last ps k v=p.2.2
 |[],v,h=>by obtain⟨p,hp,_⟩:=h;cases hp
 |p::r,v,h=>by
  rw[last];by_cases q:∃p∈r,p.1=k
  .obtain⟨z,h1,h2,h3⟩:=Op (v:=if p.1=k then p.2.2 else v) q;exact⟨z,gp _ h1,h2,h3⟩
  .have hp:p.1=k:=by
    obtain⟨z,hz,e⟩:=h;rcases mem_cons.mp hz with rfl|hz
    .exact e
    .exact absurd ⟨z,hz,e⟩ q
   refine⟨p,gy,hp,?_⟩;rw[gi hp];exact KM λz hz e=>q ⟨z,hz,e⟩
structure Ok(n:Nat)(c:Int)(ps:List Pc):Prop where
 ch:ps.Pairwise λp q=>p.2.2<=q.2.1
 ea:∀p∈ps,p.1<n/\c<=p.2.1/\p.2.1<p.2.2
def Ok.tail{n:Nat}{c:Int}{p:Pc}{r:List Pc}(h:Ok n c (p::r)):Ok n c r:=⟨(pairwise_cons.mp h.ch).2,λq hq=>h.ea q (gp _ hq)⟩
theorem last_ge{n:Nat}{c:Int}{k:Nat}:∀{ps:List Pc} {v:Int},Ok n c ps->∀p∈ps,p.1=k->p.2.2<=last ps k v
 |[],_,_,p,hp,_=>by cases hp
 |q::r,v,O,p,hp,e=>by
  rw[last];rcases mem_cons.mp hp with rfl|hp
  .rw[gi e];by_cases z:∃p∈r,p.1=k
   .obtain⟨y,h1,h2,h3⟩:=Op (v:=p.2.2) z;rw[h3];have a:=(pairwise_cons.mp O.ch).1 y h1;have b:=(O.ea y (gp _ h1)).2.2;omega
   .rw[KM λy hy e=>z ⟨y,hy,e⟩];exact Int.le_refl _
  .exact last_ge O.tail p hp e
theorem dn_no{k:Nat}:∀{ps:List Pc},(∀p∈ps,p.1≠k)->dn ps k=0
 |[],_=>rfl
 |p::r,h=>by
  rw[dn,gj (h p gy),dn_no λq hq=>h q (gp _ hq)];rfl
section
variable{n:Nat}{c:Int}{l:Nat->Int}{ps:List Pc}
abbrev E(ps:List Pc)(k:Nat):Int:=last ps k 0
theorem tot_le(P:Pc->Bool):∀{ps:List Pc} {c T:Int},ps.Pairwise (λp q=>p.2.2<=q.2.1)->(∀p∈ps,P p=true->c<=p.2.1/\p.2.1<p.2.2/\p.2.2<=T)->c<=T->((ps.filter P).map λp=>p.2.2-p.2.1).sum<=T-c
 |[],c,T,_,_,h=>by simp;omega
 |p::r,c,T,ch,ea,h=>by
  obtain⟨c1,c2⟩:=pairwise_cons.mp ch;rw[ic];by_cases q:P p=true
  .rw[gi q,gq,hJ];obtain⟨a1,a2,a3⟩:=ea p gy q;have:=tot_le P (c:=p.2.2) (T:=T) c2 (λz hz hp=>by
    obtain⟨b1,b2,b3⟩:=ea z (gp _ hz) hp;exact⟨c1 z hz,b2,b3⟩) a3
   omega
  .rw[gj q];exact tot_le P c2 (λz hz hp=>ea z (gp _ hz) hp) h
theorem OO(a:Nat)(x:Int):∀{S:List Nat},S.Nodup->(S.map λj=>if a=j then x else 0).sum=if a∈S then x else 0
 |[],_=>by simp
 |y::r,nd=>by
  obtain⟨h1,h2⟩:=nodup_cons.mp nd;rw[gq,hJ,OO a x h2];by_cases e:a=y
  .subst e;simp[h1]
  .simp[e]
theorem OP(f g:Nat->Int):∀S:List Nat,(S.map λj=>f j+g j).sum=(S.map f).sum+(S.map g).sum
 |[]=>by simp
 |y::r=>by simp only[gq,hJ,OP f g r];omega
theorem sum_dn{S:List Nat}(nd:S.Nodup):∀ps:List Pc,(S.map (dn ps)).sum=((ps.filter λp=>decide (p.1∈S)).map λp=>p.2.2-p.2.1).sum
 |[]=>by
  have:S.map (dn [])=S.map λ_=>0:=rfl;rw[this];have h:∀S:List Nat,(S.map λ_=>(0:Int)).sum=0:=λS=>by induction S<;>simp_all
  simp[h]
 |p::r=>by
  have:S.map (dn (p::r))=S.map λj=>(if p.1=j then p.2.2-p.2.1 else 0)+dn r j:=rfl;rw[this,OP,OO _ _ nd,sum_dn nd r,ic];by_cases h:p.1∈S
  .simp[h]
  .simp[h]
end
end Pl
namespace S7
abbrev sl(f:Nat->Nat)(S:List Nat):Nat:=(S.map f).sum
def MY(f:Nat->Nat)(A B:List Nat):sl f (A++B)=sl f A+sl f B:=by simp[sl,sum_append]
theorem M1{f g:Nat->Nat}:∀{S:List Nat},(∀i∈S,f i<=g i)->sl f S<=sl g S
 |[],_=>gm _
 |x::r,h=>by
  have h1:=h x 75;have ih:=M1 (S:=r) λi hi=>h i (by simp[hi]);simp only[sl,gq,hJ]at ih ⊢;omega
def GS{f g:Nat->Nat}{S:List Nat}(h:∀i∈S,f i=g i):sl f S=sl g S:=by
 unfold sl;rw[ji h]
theorem K4{f:Nat->Nat}:∀{S:List Nat},sl f S=0->∀i∈S,f i=0
 |[],_,_,h=>by cases h
 |x::r,e,i,h=>by
  simp only[sl,gq,hJ]at e;rcases mem_cons.mp h with rfl|h
  .omega
  .exact K4 (S:=r) (by simp only[sl];omega) i h
theorem HV{f:Nat->Nat}:∀{S:List Nat},0<sl f S->∃i∈S,0<f i
 |[],h=>by simp[sl]at h
 |x::r,h=>by
  by_cases q:0<f x
  .exact⟨x,by simp,q⟩
  .simp only[sl,gq,hJ]at h;obtain⟨i,hi,z⟩:=HV (S:=r) (f:=f) (by simp only[sl];omega);exact⟨i,by simp[hi],z⟩
theorem GR(f:Nat->Nat){y:Nat}:∀{S:List Nat},y∈S->sl f S=f y+sl f (S.erase y)
 |x::r,h=>by
  by_cases q:x=y
  .subst q;simp[sl]
  .have hr:y∈r:=by
    rcases mem_cons.mp h with e|h
    .exact absurd e.symm q
    .exact h
   have ih:=GR f hr;rw[List.erase_cons_tail (by simpa using q)];simp only[sl,gq,hJ]at ih ⊢;omega
def Qw{f g:Nat->Nat}{k:Nat}(hk:0<f k)(hg:∀j,g j=if j=k then f j-1 else f j){S:List Nat}(nd:S.Nodup)(h:k∈S):sl g S+1=sl f S:=by
 rw[GR f h,GR g h];have:sl g (S.erase k)=sl f (S.erase k):=GS λi hi=>by
  have hn:i≠k:=λe=>by subst e;exact(List.Nodup.not_mem_erase nd) hi
  rw[hg,gj hn]
 rw[this,hg k,gi rfl];omega
theorem Jf:∀{l L:List Nat},l.Nodup->(∀x∈l,x∈L)->l.length<=L.length
 |[],_,_,_=>by simp
 |x::r,L,nd,h=>by
  have hx:=h x 75;obtain⟨n1,n2⟩:=nodup_cons.mp nd;have ih:=Jf (L:=L.erase x) n2 λy hy=>(List.mem_erase_of_ne λe=>by subst e;exact n1 hy).mpr (h y (by simp[hy]));have e:=List.length_erase_of_mem hx;have:0<L.length:=List.length_pos_of_mem hx;simp only[iH];omega
variable(n:Nat)(ln cm:Nat->Nat)
structure Hist(G:Nat->Nat->Nat)(t:Nat):Prop where
 g0:∀j,G 0 j=ln j
 st:∀τ,τ<t->(∀j,j<n->cm j<=τ->G τ j=0)/\(∀j,G (τ+1) j=G τ j)∨∃k,k<n/\cm k<=τ/\0<G τ k/\(∀j,j<n->cm j<=τ->0<G τ j->G τ k<G τ j∨G τ k=G τ j/\k<=j)/\∀j,G (τ+1) j=if j=k then G τ j-1 else G τ j
def vr(S:List Nat):Nat->Nat
 |0=>sl ln (S.filter λi=>cm i==0)
 |τ+1=>(vr S τ-1)+sl ln (S.filter λi=>cm i==τ+1)
variable{n ln cm}
theorem Hist.full{G:Nat->Nat->Nat}{t:Nat}(H:Hist n ln cm G t):∀τ,τ<=t->∀j,τ<=cm j->G τ j=ln j
 |0,_,j,_=>H.g0 j
 |τ+1,h,j,hj=>by
  have ih:=H.full τ 67 j 67;rcases H.st τ 67 with⟨_,e⟩|⟨k,_,hk,_,_,e⟩
  .rw[e,ih]
  .rw[e,gj (λz=>by subst z;omega),ih]
def step{G:Nat->Nat->Nat}{t τ:Nat}(H:Hist n ln cm G t)(ht:τ<t){Y:List Nat}(nd:Y.Nodup)(hy:∀y∈Y,y<n/\cm y<=τ){V:Nat}(hV:sl (G τ) Y<=V):
 ∃Z:List Nat,Z.Nodup/\(∀y∈Z,y<n/\cm y<=τ)/\Z.length=Y.length/\sl (G (τ+1)) Z<=V-1:=by
 rcases H.st τ ht with⟨z,e⟩|⟨k,kn,hk,k0,kl,e⟩
 .refine⟨Y,nd,hy,rfl,?_⟩;have:sl (G (τ+1)) Y=sl (λ_=>0) Y:=GS λi hi=>by rw[e];exact z i (hy i hi).1 (hy i hi).2
  rw[this];have:∀L:List Nat,sl (λ_=>0) L=0:=λL=>by induction L with
   |nil=>rfl
   |cons x r ih=>simpa [sl]using ih
  rw[this];omega
 .by_cases h0:sl (G τ) Y=0
  .refine⟨Y,nd,hy,rfl,?_⟩;have:sl (G (τ+1)) Y<=sl (G τ) Y:=M1 λi _=>by rw[e];split<;>omega
   omega
  .by_cases ky:k∈Y
   .have:=Qw k0 e nd ky;exact⟨Y,nd,hy,rfl,by omega⟩
   .obtain⟨y,yY,y0⟩:=HV (f:=G τ) (S:=Y) 67;have h1:G τ k<=G τ y:=by have:=kl y (hy y yY).1 (hy y yY).2 y0;omega
    have h2:=GR (G τ) yY;refine⟨k::Y.erase y,nodup_cons.mpr ⟨λh=>ky (List.mem_of_mem_erase h),nd.erase y⟩,λx hx=>?_,?_,?_⟩
    .rcases mem_cons.mp hx with rfl|h
     .exact⟨kn,hk⟩
     .exact hy x (List.mem_of_mem_erase h)
    .have:=List.length_erase_of_mem yY;have:0<Y.length:=List.length_pos_of_mem yY;simp only[iH];omega
    .have h3:sl (G (τ+1)) (Y.erase y)=sl (G τ) (Y.erase y):=GS λi hi=>by rw[e,gj (λz=>by subst z;exact ky (List.mem_of_mem_erase hi))]
     show G (τ+1) k+sl (G (τ+1)) (Y.erase y)<=V-1;rw[h3,e,gi rfl];omega
def YB(S:List Nat)(τ:Nat):(S.filter λi=>decide (cm i<=τ+1)).length=(S.filter λi=>decide (cm i<=τ)).length+(S.filter λi=>cm i==τ+1).length:=by
 induction S with
 |nil=>rfl
 |cons x r ih=>
  rw[ic,ic,ic];by_cases h1:cm x<=τ
  .have h3:(cm x==τ+1)=false:=by simpa using (by omega:¬ cm x=τ+1)
   rw[i9 h1,i9 (by omega:cm x<=τ+1),h3];simp only[i3,Bool.false_eq_true,ip,iH];omega
  .by_cases h3:cm x=τ+1
   .rw[i6 h1,i9 (by omega:cm x<=τ+1),(by simpa using h3:(cm x==τ+1)=true)];simp only[i3,Bool.false_eq_true,ip,iH];omega
   .rw[i6 h1,i6 (by omega:¬ cm x<=τ+1),(by simpa using h3:(cm x==τ+1)=false)];simp only[Bool.false_eq_true,ip];omega
def fc{p:Nat->Prop}[DecidablePred p]{S:List Nat}{c:Nat}(h:∀i,p i↔cm i=c):(S.filter λi=>decide (p i))=S.filter λi=>cm i==c:=List.filter_congr λi _=>by
 by_cases q:cm i=c
 .rw[i9 ((h i).mpr q),q];simp
 .rw[i6 λz=>q ((h i).mp z)];simp[q]
theorem main{G:Nat->Nat->Nat}{t:Nat}(H:Hist n ln cm G t){S:List Nat}(nd:S.Nodup)(hS:∀i∈S,i<n):∀τ,τ<=t->∃Y:List Nat,Y.Nodup/\(∀y∈Y,y<n/\cm y<=τ)/\Y.length=(S.filter λi=>decide (cm i<=τ)).length/\sl (G τ) Y<=vr ln cm S τ
 |0,_=>by
  refine⟨S.filter λi=>decide (cm i<=0),nd.filter _,λy hy=>?_,rfl,?_⟩
  .have:=mem_filter.mp hy;exact⟨hS y this.1,by simpa using this.2⟩
  .have e:(S.filter λi=>decide (cm i<=0))=S.filter λi=>cm i==0:=fc λi=>by omega
   rw[e,vr];exact le_of_eq (GS λi _=>H.g0 i)
 |τ+1,h=>by
  obtain⟨Y,n1,n2,n3,n4⟩:=main H nd hS τ 67;obtain⟨Z,z1,z2,z3,z4⟩:=step H 67 n1 n2 n4;refine⟨Z++S.filter λi=>cm i==τ+1,?_,λy hy=>?_,?_,?_⟩
  .rw[nodup_append];refine⟨z1,nd.filter _,λa ha b hb e=>?_⟩;have h1:=(z2 a ha).2;have h2:cm b=τ+1:=by simpa using (mem_filter.mp hb).2
   subst e;omega
  .rcases mem_append.mp hy with q|q
   .have:=z2 y q;exact⟨this.1,by omega⟩
   .have:=mem_filter.mp q;have h2:cm y=τ+1:=by simpa using this.2
    exact⟨hS y this.1,by omega⟩
  .rw[iM,z3,n3,YB]
  .rw[MY,vr];have:sl (G (τ+1)) (S.filter λi=>cm i==τ+1)=sl ln (S.filter λi=>cm i==τ+1):=GS λi hi=>by
    have h2:cm i=τ+1:=by simpa using (mem_filter.mp hi).2
    exact H.full (τ+1) h i 67
   omega
def sl_fil(S:List Nat)(τ c:Nat)(hc:c<=τ):sl ln (S.filter λi=>decide (c<=cm i/\cm i<=τ+1))=sl ln (S.filter λi=>decide (c<=cm i/\cm i<=τ))+sl ln (S.filter λi=>cm i==τ+1):=by
 induction S with
 |nil=>rfl
 |cons x r ih=>
  rw[ic,ic,ic];by_cases h3:cm x=τ+1
  .rw[i6 (by omega:¬ (c<=cm x/\cm x<=τ)),i9 (by omega:c<=cm x/\cm x<=τ+1),(by simpa using h3:(cm x==τ+1)=true)];simp only[i3,Bool.false_eq_true,ip,sl,gq,hJ]at ih ⊢;omega
  .have h4:(cm x==τ+1)=false:=by simpa using h3
   by_cases h1:c<=cm x/\cm x<=τ
   .rw[h4,i9 h1,i9 (by omega:c<=cm x/\cm x<=τ+1)];simp only[i3,Bool.false_eq_true,ip,sl,gq,hJ]at ih ⊢;omega
   .rw[h4,i6 h1,i6 (by omega:¬ (c<=cm x/\cm x<=τ+1))];simp only[Bool.false_eq_true,ip];exact ih
theorem bL(S:List Nat):∀τ,vr ln cm S τ=0∨∃j∈S,cm j<=τ/\vr ln cm S τ+τ<=sl ln (S.filter λi=>decide (cm j<=cm i/\cm i<=τ))+cm j
 |0=>by
  by_cases h:vr ln cm S 0=0
  .exact .inl h
  .obtain⟨i,hi,_⟩:=HV (f:=ln) (S:=S.filter λi=>cm i==0) (by rw[vr]at h;omega);obtain⟨h1,h2⟩:=mem_filter.mp hi;have h2:cm i=0:=by simpa using h2
   refine .inr ⟨i,h1,by omega,?_⟩;have e:(S.filter λx=>decide (cm i<=cm x/\cm x<=0))=S.filter λx=>cm x==0:=fc λx=>by omega
   rw[e,vr];omega
 |τ+1=>by
  by_cases h:vr ln cm S (τ+1)=0
  .exact .inl h
  .refine .inr ?_;rcases bL S τ with z|⟨j,hj,hc,hb⟩
   .have e:vr ln cm S (τ+1)=sl ln (S.filter λi=>cm i==τ+1):=by rw[vr,z];omega
    obtain⟨i,hi,_⟩:=HV (f:=ln) (S:=S.filter λi=>cm i==τ+1) 67;obtain⟨h1,h2⟩:=mem_filter.mp hi;have h2:cm i=τ+1:=by simpa using h2
    refine⟨i,h1,by omega,?_⟩;have e2:(S.filter λx=>decide (cm i<=cm x/\cm x<=τ+1))=S.filter λx=>cm x==τ+1:=fc λx=>by omega
    rw[e2,e];omega
   .by_cases v0:vr ln cm S τ=0
    .have e:vr ln cm S (τ+1)=sl ln (S.filter λi=>cm i==τ+1):=by rw[vr,v0];omega
     obtain⟨i,hi,_⟩:=HV (f:=ln) (S:=S.filter λi=>cm i==τ+1) 67;obtain⟨h1,h2⟩:=mem_filter.mp hi;have h2:cm i=τ+1:=by simpa using h2
     refine⟨i,h1,by omega,?_⟩;have e2:(S.filter λx=>decide (cm i<=cm x/\cm x<=τ+1))=S.filter λx=>cm x==τ+1:=fc λx=>by omega
     rw[e2,e];omega
    .refine⟨j,hj,by omega,?_⟩;rw[sl_fil S τ (cm j) hc,vr];omega
def Fit(ln cm:Nat->Nat)(S:List Nat)(t:Nat):Prop:=∀j∈S,sl ln (S.filter λi=>decide (cm j<=cm i))+cm j<=t
def Vr{S:List Nat}{t:Nat}(h:Fit ln cm S t):vr ln cm S t=0:=by
 rcases bL (ln:=ln) (cm:=cm) S t with z|⟨j,hj,_,hb⟩
 .exact z
 .have h1:=h j hj;have:∀L:List Nat,sl ln (L.filter λi=>decide (cm j<=cm i/\cm i<=t))<=sl ln (L.filter λi=>decide (cm j<=cm i)):=λL=>by
   induction L with
   |nil=>exact gm _
   |cons x r ih=>
    simp only[ic];by_cases h2:cm j<=cm x
    .rw[i9 h2];by_cases h3:cm x<=t
     .rw[i9 ⟨h2,h3⟩];simp only[i3,sl,gq,hJ]at ih ⊢;omega
     .rw[i6 (λz=>h3 z.2)];simp only[i3,Bool.false_eq_true,ip,sl,gq,hJ]at ih ⊢;omega
    .rw[i6 h2,i6 (λz=>h2 z.1)];simpa using ih
  have:=this S;omega
def Ow{G:Nat->Nat->Nat}{t τ:Nat}(H:Hist n ln cm G t)(ht:τ<=t){S:List Nat}(nd:S.Nodup)(hS:∀i∈S,i<n)(l1:∀i∈S,1<=ln i)(F:Fit ln cm S τ):S.length<=((71 n).filter λj=>decide (cm j<=τ/\G τ j=0)).length:=by
 obtain⟨Y,n1,n2,n3,n4⟩:=main H nd hS τ ht;rw[Vr F]at n4;have z:=K4 (f:=G τ) (S:=Y) 67;have e:(S.filter λi=>decide (cm i<=τ))=S:=List.filter_eq_self.mpr λi hi=>by
  have:=F i hi;simp only[iU];omega
 rw[e]at n3;rw[<- n3];exact Jf n1 λy hy=>by simp[(n2 y hy).1,(n2 y hy).2,z y hy]
end S7
namespace L2
open PySem PySem.W PyProof.Rows
def feE{K:Frag}{e:Df}{n:Str}{s:Stmt}(h:Ea.Fe K n s)(hn:e.x=n:=by rfl)(hs:e.st=s:=by rfl):Fe K e:=by subst hn;subst hs;exact h
def flE{K:Frag}{e:Df}{n:Str}{s:Stmt}{p:Addr}(h:Ea.Fl K n s p)(hn:e.x=n:=by rfl)(hs:e.st=s:=by rfl):Fla K e p:=by subst hn;subst hs;exact h
def zsE{K:Frag}(h:Ea.Zs K):Zs K:=h
end L2
namespace T52
open PySem L2
abbrev Ia:Stmt:=top 5
def Mg:FnScope ["thing"] ["thing"] (AC Ia):=An 89
@[reducible] def O5:MS:=(AZ (DJ (Cg .int 81) (GX (Cg .bool 81))))
def DF:FD:=mkF 1 1 O5
abbrev EJ:Df:=⟨"is_number",Ia,["thing"],1,DF⟩
abbrev HE:Stmt:=top 6
def KA:FnScope ["many","thing"] ["many","thing"] (AC HE):=An 89
@[reducible] def Ll:MS:=(AZ (DJ (Cg .tuple 108) (mOp gEq (mCB (f1 true BH) (A2 108 A6)) 81)))
def Bb:FD:=mkF 2 2 Ll
abbrev Cb:Df:=⟨"is_tuple_of",HE,["many","thing"],1,Bb⟩
abbrev IZ:Stmt:=top 8
def Mf:FnScope ["cost","days"] ["cost","days"] (AC IZ):=An 89
@[reducible] def O4:MS:=(AB (Au (mOr (AJ (mOp gEq (mOp gIx 81 107) (mC (.str "ends")))) (AJ (mOp gEq (mOp gIx 81 107) (mC (.str "steps")))))
 BO
 Ah)
 (AZ (mOp MC (B7 (A2 (mOp gIx 81 107) (A2 (mOp Ai (mOp gIx 81 94) 108) A6))) (KK 81 (IJ (mC (.int 2))) F2))))
def EM:FD:=mkF 2 2 O4
abbrev Fw:Df:=⟨"later_due",IZ,["cost","days"],1,EM⟩
abbrev Hb:Stmt:=top 9
def LY:FnScope ["cost","days"] ["cost","days"] (AC Hb):=An 89
@[reducible] def NA:MS:=(AB (Au (AJ (mOp gEq (mOp gIx 81 107) (mC (.str "ends"))))
 BO
 Ah)
 (AB (Au (AJ (mOp gEq (mOp gIx 81 107) (mC (.str "steps"))))
  (AZ (B7 (A2 (mC (.str "steps")) (A2 (B3 B6 (Ae 2 [1] (Ay (mOp gIx 81 94)) (Bu 2 (AR (AG 0) (AR (AG 1) Bv))) BE (B7 (A2 (mOp Ai 81 (A1 2)) (A2 108 A6))))) A6))))
  Ah)
 (AZ (A8 0 EM (A2 81 (A2 108 A6))))))
def Dx:FD:=mkF 2 2 NA
abbrev FL:Df:=⟨"moved_cost",Hb,["cost","days"],2,Dx⟩
abbrev IX:Stmt:=top 11
def Md:FnScope ["works","some"] ["works","some"] (AC IX):=An 89
@[reducible] def O2:MS:=(AZ (B3 Gf (Ae 1 [0] (Bw 108) (AG 0) BE (mOp gIx (mOp gIx 108 81) 107))))
def EL:FD:=mkF 2 2 O2
abbrev Fv:Df:=⟨"length_of",IX,["works","some"],1,EL⟩
abbrev HA:Stmt:=top 12
def K6:FnScope ["works","coming"] ["works"] (AC HA):=An 89
@[reducible] def Lh:MS:=(AB (AI 1 (mOp gIx (mOp gIx 81 107) 94))
 (AB (Au (BU (B3 J0 (Ae 1 [1] (Ay 81) (AG 0) BE (mOp gEq (mOp gIx 81 94) 108))))
  (AZ 108)
  Ah)
 (AZ (mC .non))))
def DM:FD:=mkF 1 2 Lh
abbrev Ei:Df:=⟨"same_coming",HA,["works"],1,DM⟩
abbrev Ha:Stmt:=top 13
def LX:FnScope ["works","coming"] ["works"] (AC Ha):=An 89
@[reducible] def N9:MS:=(AB (AI 1 (A8 0 DM (A2 81 A6)))
 (AB (Au (AJ (Bh false 108))
  BO
  Ah)
 (AZ 108)))
def Dw:FD:=mkF 1 2 N9
abbrev FK:Df:=⟨"one_coming",Ha,["works"],2,Dw⟩
abbrev Dj:Stmt:=top 14
def G7:FnScope ["works","word"] ["works","word"] (AC Dj):=An 89
@[reducible] def GW:MS:=(Au (BU (B3 Gg (Ae 1 [1] (Ay 81) (AG 0) BE (mOp gNe (mOp gIx (mOp gIx 81 (mC (.int 2))) 107) 108))))
 BO
 Ah)
def Av:FD:=mkF 2 2 GW
abbrev Bi:Df:=⟨"refuse_other_costs",Dj,["works","word"],1,Av⟩
abbrev IV:Stmt:=top 15
def Mb:FnScope ["work"] ["work"] (AC IV):=An 89
@[reducible] def O0:MS:=(AZ (mOp gIx (mOp gIx 81 (mC (.int 2))) (Do 94)))
def Bk:FD:=mkF 1 1 O0
abbrev EI:Df:=⟨"weight_of",IV,["work"],1,Bk⟩
abbrev HZ:Stmt:=top 16
def LW:FnScope ["works","weight"] ["works"] (AC HZ):=An 89
@[reducible] def N8:MS:=(AB (AI 1 (A8 0 Bk (A2 (mOp gIx 81 107) A6)))
 (AB (Au (BU (B3 Gg (Ae 1 [1] (Ay 81) (AG 0) BE (mOp gNe (A8 0 Bk (A2 81 A6)) 108))))
  BO
  Ah)
 (AZ 108)))
def C2:FD:=mkF 1 2 N8
abbrev Ds:Df:=⟨"one_weight",HZ,["works"],2,C2⟩
abbrev HD:Stmt:=top 18
def K9:FnScope ["works","coming"] ["works"] (AC HD):=An 89
@[reducible] def Lk:MS:=(AB (AI 1 (A8 0 Dw (A2 81 A6)))
 (AB (B5 (A8 0 Av (A2 81 (A2 (mC (.str "miss")) A6))))
 (AZ 108)))
def Ba:FD:=mkF 1 2 Lk
abbrev C7:Df:=⟨"late_coming",HD,["works"],3,Ba⟩
abbrev Ks:Stmt:=top 19
def Pm:FnScope ["works"] ["works"] (AC Ks):=An 89
@[reducible] def SB:MS:=(AZ (B8 (Oo (A2 (mCB (f1 true BH) (A2 81 A6)) A6) [0] (B7 (A2 (mOp gIx (mOp gIx (mOp gIx 108 81) (mC (.int 2))) 94) (A2 81 A6))))))
def De:FD:=mkF 1 1 SB
abbrev Dc:Df:=⟨"by_dues",Ks,["works"],4,De⟩
abbrev HF:Stmt:=top 20
def KB:FnScope ["works"] ["works"] (AC HF):=An 89
@[reducible] def Lm:MS:=(AZ (B3 Gf (Ae 1 [] (Ay 81) (AG 0) BE (A8 0 Bk (A2 81 A6)))))
def CA:FD:=mkF 1 1 Lm
abbrev Cc:Df:=⟨"full_weight",HF,["works"],2,CA⟩
abbrev Kp:Stmt:=top 21
def Pi:FnScope ["one","other"] ["one","other"] (AC Kp):=An 89
@[reducible] def S9:MS:=(AZ (KL (Bh false 108) (DJ (Bh true 81) (mOp gLe 81 108))))
def Cv:FD:=mkF 2 2 S9
abbrev Ec:Df:=⟨"no_more",Kp,["one","other"],1,Cv⟩
abbrev HY:Stmt:=top 22
def LV:FnScope ["row","work","w","length","coming","word","due","weight","end"] ["row","work","w"] (AC HY):=An 89
@[reducible] def N7:MS:=(AB (Iy 108 (Bu 3 (AR (AG 3) (AR (AG 4) (AR (Bu 3 (AR (AG 5) (AR (AG 6) (AR (AG 7) Bv)))) Bv)))))
 (AB (Au (mOr (AJ (mOp gLt (A1 2) (A1 7))) (AJ (Bh false (mOp gIx 81 (mOp BJ (A1 2) (A1 7))))))
  (AZ (mC .non))
  Ah)
 (AB (AI 8 (mOp Ai (mOp gIx 81 (mOp BJ (A1 2) (A1 7))) (A1 3)))
 (AZ (mIf (AJ (mOp gLe (A1 8) (A1 6))) (A1 8) (mC .non))))))
def Cu:FD:=mkF 3 9 N7
abbrev Dr:Df:=⟨"put_behind",HY,["row","work","w"],1,Cu⟩
abbrev Er:Stmt:=top 23
def HW:FnScope ["table"] ["table"] (AC Er):=An 89
@[reducible] def IU:MS:=(AZ (B3 Hu (Ae 2 [] (DI (Ay (mOp gIx 81 (Do 94)))) (Bu 2 (AR (AG 0) (AR (AG 1) Bv))) (AJ (Bh true 108)) 81)))
def Be:FD:=mkF 1 1 IU
abbrev CJ:Df:=⟨"greatest_weight",Er,["table"],1,Be⟩
abbrev FW:Stmt:=top 24
def Ik:FnScope ["works","thing","path","many","k","row","w","entry"] ["works","thing","path"] (AC FW):=An 89
@[reducible] def Jg:MS:=(AB (Au (Cm (BU (A8 0 Bb (A2 (mOp Ai (mCB (f1 true BH) (A2 81 A6)) 94) (A2 108 A6)))))
 BO
 Ah)
 (AB (AI 3 (mOp Ai (A8 0 CA (A2 81 A6)) 94))
 (CS (DI (Ay 108)) (Bu 2 (AR (AG 4) (AR (AG 5) Bv)))
  (AB (Au (Cm (BU (A8 0 Bb (A2 (A1 3) (A2 (A1 5) A6)))))
  BO
  Ah)
 (CS (DI (Ay (A1 5))) (Bu 2 (AR (AG 6) (AR (AG 7) Bv)))
  (Au (Ef (AJ (Bh true (A1 7))) (Cm (BU (A8 0 DF (A2 (A1 7) A6)))))
  BO
  Ah))))))
def CF:FD:=mkF 3 8 Jg
abbrev Ch:Df:=⟨"look_at_shape",FW,["works","thing","path"],3,CF⟩
abbrev HC:Stmt:=top 25
def K8:FnScope ["work","above","row","path","w","entry"] ["work","above","row","path"] (AC HC):=An 89
@[reducible] def Lj:MS:=(CS (DI (Ay (A1 2))) (Bu 2 (AR (AG 4) (AR (AG 5) Bv)))
 (AB (Au (Cm (BU (A8 0 Cv (A2 (A1 5) (A2 (mOp gIx 108 (A1 4)) A6)))))
 BO
 Ah)
 (Au (Cm (BU (A8 0 Cv (A2 (A1 5) (A2 (A8 0 Cu (A2 108 (A2 81 (A2 (A1 4) A6)))) A6)))))
  BO
  Ah)))
def DO:FD:=mkF 4 6 Lj
abbrev Ej:Df:=⟨"look_at_row",HC,["work","above","row","path"],2,DO⟩
abbrev FB:Stmt:=top 26
def IT:FnScope ["works","table","path","k","j"] ["works","table","path"] (AC FB):=An 89
@[reducible] def Iw:MS:=(AB (Au (Cm (BU (A8 0 Cv (A2 (mOp gIx (mOp gIx 108 107) 107) (A2 (A8 0 Ba (A2 81 A6)) A6)))))
 BO
 Ah)
 (CS (GC (Bw (A8 0 De (A2 81 A6)))) (Bu 2 (AR (AG 3) (AR (AG 4) Bv)))
  (B5 (A8 0 DO (A2 (mOp gIx 81 (A1 4)) (A2 (mOp gIx 108 (mOp BJ (A1 3) 94)) (A2 (mOp gIx 108 (A1 3)) (A2 (mOp MC (A1 2) (B7 (A2 (A1 3) A6))) A6))))))))
def C3:FD:=mkF 3 5 Iw
abbrev CZ:Df:=⟨"look_at_places",FB,["works","table","path"],5,C3⟩
abbrev Hc:Stmt:=top 27
def LZ:FnScope ["works","thing"] ["works","thing"] (AC Hc):=An 89
@[reducible] def NB:MS:=(AB (B5 (A8 0 Ba (A2 81 A6)))
 (AB (B5 (A8 0 CF (A2 81 (A2 108 (A2 (B7 A6) A6)))))
 (AB (B5 (A8 0 C3 (A2 81 (A2 108 (A2 (B7 A6) A6)))))
 (AZ (mOp BJ (A8 0 CA (A2 81 A6)) (A8 0 Be (A2 108 A6)))))))
def CN:FD:=mkF 2 2 NB
abbrev FM:Df:=⟨"lets_table",Hc,["works","thing"],6,CN⟩
abbrev JU:Stmt:=top 29
def Nw:FnScope ["above","work","row","w","kept","more"] ["above","work"] (AC JU):=An 89
@[reducible] def QD:MS:=(AB (AI 2 (B8 (Cf A6)))
 (AB (CS (DI (Ay 81)) (Bu 2 (AR (AG 3) (AR (AG 4) Bv)))
  (AB (AI 5 (A8 0 Cu (A2 81 (A2 108 (A2 (A1 3) A6)))))
 (B5 (mMt BP (A1 2) (A2 (mIf (BU (A8 0 Cv (A2 (A1 4) (A2 (A1 5) A6)))) (A1 4) (A1 5)) A6)))))
 (AZ (mCB (f1 true B6) (A2 (A1 2) A6)))))
def Ez:FD:=mkF 2 6 QD
abbrev Gs:Df:=⟨"next_row",JU,["above","work"],2,Ez⟩
abbrev JT:Stmt:=top 30
def Nv:FnScope ["works","coming","rows","j"] ["works"] (AC JT):=An 89
@[reducible] def QC:MS:=(AB (AI 1 (A8 0 Ba (A2 81 A6)))
 (AB (AI 2 (B8 (Cf (A2 (mOp Ai (B7 (A2 108 A6)) (II (B7 (A2 (mC .non) A6)) (A8 0 CA (A2 81 A6)))) A6))))
 (AB (CS (Bw (A8 0 De (A2 81 A6))) (AG 3)
  (B5 (mMt BP (A1 2) (A2 (A8 0 Ez (A2 (mOp gIx (A1 2) (Do 94)) (A2 (mOp gIx 81 (A1 3)) A6))) A6))))
 (AZ (mCB (f1 true B6) (A2 (A1 2) A6))))))
def Bj:FD:=mkF 1 4 QC
abbrev Ex:Df:=⟨"table_of",JT,["works"],5,Bj⟩
abbrev Ic:Stmt:=top 32
def Mj:FnScope ["pieces","work","begin","end"] ["pieces","work","begin","end"] (AC Ic):=An 89
@[reducible] def O7:MS:=(Au (Ef (BU 81) (Ef (AJ (mOp gEq (mOp gIx (mOp gIx 81 (Do 94)) 107) 108)) (AJ (mOp gEq (mOp gIx (mOp gIx 81 (Do 94)) (mC (.int 2))) (A1 2)))))
 (Eu 81 (Do 94) (B7 (A2 108 (A2 (mOp gIx (mOp gIx 81 (Do 94)) 94) (A2 (A1 3) A6)))))
 (B5 (mMt BP 81 (A2 (B7 (A2 108 (A2 (A1 2) (A2 (A1 3) A6)))) A6))))
def DG:FD:=mkF 4 4 O7
abbrev Fy:Df:=⟨"add_piece",Ic,["pieces","work","begin","end"],1,DG⟩
abbrev HB:Stmt:=top 33
def K7:FnScope ["works","begins","rank","left","pieces","t","undone","work","stop"] ["works","begins","rank"] (AC HB):=An 89
@[reducible] def Li:MS:=(AB (AI 3 (B8 (Ae 1 [] (Ay 81) (AG 0) BE (mOp gIx 81 107))))
 (AB (AI 4 (B8 (Cf A6)))
 (AB (AI 5 107)
 (AB (FF (BU (mCB (f1 false Jm) (A2 (A1 3) A6)))
  (AB (AI 6 (B8 (Ae 1 [3] (Ee (A2 (mCB (f1 true BH) (A2 81 A6)) A6)) (AG 0) (AJ (mOp gGt (mOp gIx 108 81) 107)) 81)))
 (AB (AI 5 (mCB Gp (A2 (A1 5) (A2 (B3 DR (Ae 1 [1] (Bw (A1 6)) (AG 0) BE (mOp gIx 108 81))) A6))))
 (AB (AI 7 (FG (B8 (Ae 1 [1,5] (Bw (A1 6)) (AG 0) (AJ (mOp gLe (mOp gIx 108 81) (A1 2))) 81)) [2,3] (B7 (A2 (Dq 108 (A2 81 (A2 (mOp gIx (A1 2) 81) A6))) (A2 81 A6)))))
 (AB (AI 8 (B3 DR (Ix (B8 (Cf (A2 (mOp Ai (A1 5) (mOp gIx (A1 3) (A1 7))) A6))) (B8 (Ae 1 [1,5] (Bw (A1 6)) (AG 0) (AJ (mOp gGt (mOp gIx 108 81) (A1 2))) (mOp gIx 108 81))))))
 (AB (B5 (D7 DG (A2 (A1 4) (A2 (A1 7) (A2 (A1 5) (A2 (A1 8) A6))))))
 (AB (GY (A1 3) (A1 7) (mOp BJ (A1 8) (A1 5)) (λi j=>i-j))
 (AI 5 (A1 8)))))))))
 (AZ (mCB (f1 true B6) (A2 (A1 4) A6)))))))
def DN:FD:=mkF 3 9 Li
abbrev DK:Df:=⟨"ranked_plan",HB,["works","begins","rank"],4,DN⟩
abbrev Ko:Stmt:=top 35
def Ph:FnScope ["works","coming","kept","j"] ["works"] (AC Ko):=An 89
@[reducible] def S8:MS:=(AB (AI 1 (A8 0 Ba (A2 81 A6)))
 (AB (B5 (A8 0 C2 (A2 81 A6)))
 (AB (AI 2 (B8 (Cf A6)))
 (AB (CS (Bw (A8 0 De (A2 81 A6))) (AG 3)
  (AB (B5 (mMt BP (A1 2) (A2 (A1 3) A6)))
 (Au (AJ (mOp gGt (mOp Ai 108 (A8 1 EL (A2 81 (A2 (A1 2) A6)))) (mOp gIx (mOp gIx (mOp gIx 81 (A1 3)) (mC (.int 2))) 94)))
  (B5 (mMt GE (A1 2) (A2 (FH (λn m=>decide (n>m)) (A1 2) [0] (mOp gIx (mOp gIx 108 81) 107)) A6)))
  Ah)))
 (AZ (B7 (A2 (B3 B6 (Bl (Bw (A1 2)))) (A2 (B3 B6 (Ae 1 [2] (Ee (A2 (mCB (f1 true BH) (A2 81 A6)) A6)) (AG 0) (AJ (mOp (gIn true) 81 108)) 81)) A6))))))))
def Fm:FD:=mkF 1 4 S8
abbrev Fi:Df:=⟨"put_out",Ko,["works"],5,Fm⟩
abbrev Kq:Stmt:=top 37
def Pj:FnScope ["works","plan","ends","work","begin","end"] ["works","plan"] (AC Kq):=An 89
@[reducible] def HR:MS:=(AB (AI 2 (B8 (Ae 1 [] (Ay 81) (AG 0) BE 107)))
 (AB (CS (Ay 108) (Bu 3 (AR (AG 3) (AR (AG 4) (AR (AG 5) Bv))))
  (Eu (A1 2) (A1 3) (A1 5)))
 (AZ (mCB (f1 true B6) (A2 (A1 2) A6)))))
def F_ends_of:FD:=mkF 2 6 HR
abbrev Fj:Df:=⟨"ends_of",Kq,["works","plan"],1,F_ends_of⟩
abbrev Mk:Stmt:=top 39
def Qz:FnScope ["works","t"] ["works","t"] (AC Mk):=An 89
@[reducible] def Uf:MS:=(AZ (B3 B6 (Ae 3 [1] (Ay 81) (Bu 3 (AR (AG 0) (AR (AG 1) (AR (AG 2) Bv)))) BE (B7 (A2 81 (A2 107 (A2 (B7 (A2 (mC (.str "miss")) (A2 (mOp BJ (A1 3) 108) (A2 94 A6)))) A6)))))))
def DU:FD:=mkF 2 2 Uf
abbrev E9:Df:=⟨"turned",Mk,["works","t"],1,DU⟩
abbrev Kr:Stmt:=top 40
def Pk:FnScope ["works","t"] ["works","t"] (AC Kr):=An 89
@[reducible] def SA:MS:=(AZ (mCB (f1 true BH) (A2 (mOp gIx (A8 0 Fm (A2 (A8 0 DU (A2 81 (A2 108 A6))) A6)) 107) A6)))
def Cz:FD:=mkF 2 2 SA
abbrev Hw:Df:=⟨"done_by",Kr,["works","t"],6,Cz⟩
abbrev Hh:Stmt:=top 41
def Ld:FnScope ["works"] ["works"] (AC Hh):=An 89
@[reducible] def NF:MS:=(AB (B5 (A8 0 Av (A2 81 (A2 (mC (.str "ends")) A6))))
 (AZ (A8 0 C2 (A2 81 A6))))
def Cy:FD:=mkF 1 1 NF
abbrev Du:Df:=⟨"end_weight",Hh,["works"],3,Cy⟩
abbrev IY:Stmt:=top 42
def Me:FnScope ["works"] ["works"] (AC IY):=An 89
@[reducible] def O3:MS:=(AB (B5 (A8 0 Cy (A2 81 A6)))
 (AZ (D7 DN (A2 81 (A2 (B8 (Ae 1 [] (Ay 81) (AG 0) BE (mOp gIx 81 94))) (A2 Ji A6))))))
def CI:FD:=mkF 1 1 O3
abbrev DD:Df:=⟨"left_plan",IY,["works"],5,CI⟩
abbrev Hg:Stmt:=top 43
def Lc:FnScope ["works","ends"] ["works"] (AC Hg):=An 89
@[reducible] def NE:MS:=(AB (AI 1 (B8 (Bl (Ay (A8 0 F_ends_of (A2 81 (A2 (A8 0 CI (A2 81 A6)) A6)))))))
 (AZ (B3 B6 (Ae 1 [0] (Bw 108) (AG 0) BE (B7 (A2 81 (A2 (A8 0 Bj (A2 (A8 0 DU (A2 108 (A2 (mOp BJ 81 94) A6))) A6)) A6)))))))
def Cw:FD:=mkF 1 2 NE
abbrev FP:Df:=⟨"ends_paper",Hg,["works"],6,Cw⟩
abbrev DV:Stmt:=top 45
def Fo:FnScope ["works","k","entry"] ["works","k","entry"] (AC DV):=An 89
@[reducible] def GB:MS:=(AB (Au (mOr (Cm (BU (A8 0 Bb (A2 (mC (.int 2)) (A2 (A1 2) A6))))) (Cm (BU (A8 0 DF (A2 (mOp gIx (A1 2) 107) A6)))))
 BO
 Ah)
 (B5 (A8 0 CF (A2 (A8 0 DU (A2 81 (A2 (mOp BJ (mOp gIx (A1 2) 107) 94) A6))) (A2 (mOp gIx (A1 2) 94) (A2 (B7 (A2 108 (A2 94 A6))) A6))))))
def BW:FD:=mkF 3 3 GB
abbrev CL:Df:=⟨"look_at_entry_shape",DV,["works","k","entry"],4,BW⟩
abbrev FX:Stmt:=top 46
def Il:FnScope ["works","k","entry","moment","table"] ["works","k","entry"] (AC FX):=An 89
@[reducible] def Jh:MS:=(AB (Iy (A1 2) (Bu 2 (AR (AG 3) (AR (AG 4) Bv))))
 (AB (B5 (A8 0 C3 (A2 (A8 0 DU (A2 81 (A2 (mOp BJ (A1 3) 94) A6))) (A2 (A1 4) (A2 (B7 (A2 108 (A2 94 A6))) A6)))))
 (Au (AJ (mOp gGt (A8 0 Be (A2 (A1 4) A6)) 108))
  BO
  Ah)))
def Ci:FD:=mkF 3 5 Jh
abbrev Dt:Df:=⟨"look_at_entry",FX,["works","k","entry"],6,Ci⟩
abbrev IW:Stmt:=top 47
def Mc:FnScope ["works","thing","weight","k","entry"] ["works","thing"] (AC IW):=An 89
@[reducible] def O1:MS:=(AB (AI 2 (A8 0 Cy (A2 81 A6)))
 (AB (Au (Cm (BU (A8 0 Bb (A2 (mCB (f1 true BH) (A2 81 A6)) (A2 108 A6)))))
  BO
  Ah)
 (AB (CS (DI (Ay 108)) (Bu 2 (AR (AG 3) (AR (AG 4) Bv)))
  (B5 (A8 0 BW (A2 81 (A2 (A1 3) (A2 (A1 4) A6))))))
 (AB (CS (DI (Ay 108)) (Bu 2 (AR (AG 3) (AR (AG 4) Bv)))
  (B5 (A8 0 Ci (A2 81 (A2 (A1 3) (A2 (A1 4) A6))))))
 (AZ (mOp Eg (A1 2) (B3 Gf (Ae 2 [] (Ay 108) (Bu 2 (AR (AG 0) (AR (AG 1) Bv))) BE 81))))))))
def EK:FD:=mkF 2 5 O1
abbrev Fu:Df:=⟨"lets_ends",IW,["works","thing"],7,EK⟩
abbrev Ml:Stmt:=top 49
def R8:FnScope ["_law_script"] ["_law_script"] (AC Ml):=An 89
@[reducible] def Ug:MS:=(AZ (M7 [((mC (.str "cells")),(B8 (Hs (NG 81 F2 (IJ (mC (.int 63))))))),((mC (.str "at")),107),((mC (.str "rest")),107),((mC (.str "count")),107)]))
def Gy:FD:=mkF 1 1 Ug
abbrev JA:Df:=⟨"_law_source",Ml,["_law_script"],1,Gy⟩
abbrev R9:Stmt:=top 50
def W1:FnScope ["_law_source_here","_law_many","_law_found","_law_cells","_law_cell","_law_mixed"] ["_law_source_here","_law_many"] (AC R9):=An 89
@[reducible] def aZ:MS:=(AB (Fd 81 (mC (.str "count")) (mOp Ai (mOp CY 81 (mC (.str "count"))) 94))
 (AB (Au (AJ (mOp gGt (mOp CY 81 (mC (.str "rest"))) 107))
  (AB (AI 2 (mOp Gj (mOp CY 81 (mC (.str "rest"))) 108))
 (AB (Fd 81 (mC (.str "rest")) (mOp Gk (mOp CY 81 (mC (.str "rest"))) 108))
 (AZ (A1 2))))
  Ah)
 (AB (AI 3 (mOp CY 81 (mC (.str "cells"))))
 (AB (AI 4 (mIf (AJ (Dp true (A1 3) (Cf A6))) (mOp gIx (A1 3) (mOp Gj (mOp CY 81 (mC (.str "at"))) (mCB (f1 true BH) (A2 (A1 3) A6)))) (mC (.int 11))))
 (AB (Fd 81 (mC (.str "at")) (mOp Ai (mOp CY 81 (mC (.str "at"))) 94))
 (AB (Au (Ef (AJ (mOp gGe (A1 4) (mOp Ut (mC (.int 10)) (mC (.int 18))))) (AJ (mOp gLe (mOp CY 81 (mC (.str "at"))) (mCB (f1 true BH) (A2 (A1 3) A6)))))
  (AB (Fd 81 (mC (.str "rest")) (mOp Gk (A1 4) 108))
 (AZ (mOp Gj (A1 4) 108)))
  Ah)
 (AB (AI 5 (mOp Ai (mOp Gj (A1 4) (mC (.int 1073741827))) (mOp Eg (mC (.int 611953)) (mOp CY 81 (mC (.str "count"))))))
 (AB (AI 5 (mOp Gj (mOp Ai (mOp Ai (mOp Eg (A1 5) (A1 5)) (mOp Eg (mC (.int 3)) (mOp CY 81 (mC (.str "count"))))) (mC (.int 7))) (mC (.int 2147483543))))
 (AB (AI 5 (mOp Gj (mOp Ai (mOp Ai (mOp Eg (A1 5) (A1 5)) (mOp Eg (mC (.int 69069)) (mOp CY 81 (mC (.str "count"))))) 94) (mC (.int 2147483497))))
 (AZ (mOp Gj (mOp Gk (A1 5) (mC (.int 256))) 108)))))))))))
def Af:FD:=mkF 2 6 aZ
abbrev FJ:Df:=⟨"_law_pick",R9,["_law_source_here","_law_many"],1,Af⟩
abbrev He:Stmt:=top 51
def La:FnScope ["_law_source_here","_law_most","_law_many","_law_coming","_law_longest","_law_heaviest","_law_span","_law_works","_law_k","_law_way","_law_length","_law_due","_law_weight","_law_work"] ["_law_source_here","_law_most"] (AC He):=An 89
@[reducible] def NC:MS:=(AB (AI 2 (mOp Ai 94 (A8 2 Af (A2 81 (A2 108 A6)))))
 (AB (AI 3 (A8 2 Af (A2 81 (A2 (mC (.int 61)) A6))))
 (AB (AI 4 (GZ (Cf (A2 (mC (.int 20)) (A2 (mC (.int 5)) (A2 (mC (.int 2)) A6)))) (A8 2 Af (A2 81 (A2 (mC (.int 3)) A6)))))
 (AB (AI 5 (GZ (Cf (A2 (mC (.int 9)) (A2 (mC (.int 3)) (A2 94 A6)))) (A8 2 Af (A2 81 (A2 (mC (.int 3)) A6)))))
 (AB (AI 6 (mOp Ai (mC (.int 2)) (mOp Gk (mOp Eg (A1 2) (A1 4)) (mOp Ai 94 (A8 2 Af (A2 81 (A2 (mC (.int 2)) A6)))))))
 (AB (AI 7 (B8 (Cf A6)))
 (AB (CS (Ee (A2 (A1 2) A6)) (AG 8)
  (AB (AI 9 (A8 2 Af (A2 81 (A2 (mC (.int 6)) A6))))
 (AB (AI 10 (mOp Ai 94 (A8 2 Af (A2 81 (A2 (A1 4) A6)))))
 (AB (AI 11 (mOp Ai (mOp BJ (A1 3) 94) (A8 2 Af (A2 81 (A2 (A1 6) A6)))))
 (AB (AI 12 (A8 2 Af (A2 81 (A2 (mOp Ai (A1 5) 94) A6))))
 (AB (Au (AJ (mOp gEq (A1 9) 107))
  (AI 11 (mOp BJ (A8 2 Af (A2 81 (A2 (mC (.int 500)) A6))) (mC (.int 99))))
  Ah)
 (AB (Au (Ef (AJ (mOp gEq (A1 9) 94)) (AJ (mOp gGt (A1 8) 107)))
  (AI 11 (mOp gIx (mOp gIx (mOp gIx (A1 7) (A8 2 Af (A2 81 (A2 (A1 8) A6)))) (mC (.int 2))) 94))
  Ah)
 (AB (AI 13 (B7 (A2 (A1 10) (A2 (A1 3) (A2 (B7 (A2 (mC (.str "miss")) (A2 (A1 11) (A2 (A1 12) A6)))) A6)))))
 (AB (Au (Ef (AJ (mOp gEq (A1 9) (mC (.int 2)))) (AJ (mOp gGt (A1 8) 107)))
  (AI 13 (mOp gIx (A1 7) (A8 2 Af (A2 81 (A2 (A1 8) A6)))))
  Ah)
 (B5 (mMt BP (A1 7) (A2 (A1 13) A6))))))))))))
 (AZ (mCB (f1 true B6) (A2 (A1 7) A6))))))))))
def Dy:FD:=mkF 2 14 NC
abbrev FN:Df:=⟨"_law_late_works",He,["_law_source_here","_law_most"],2,Dy⟩
abbrev Ib:Stmt:=top 52
def Mi:FnScope ["_law_source_here","_law_most","_law_many","_law_longest","_law_latest","_law_weight","_law_works","_law_k","_law_way","_law_work"] ["_law_source_here","_law_most"] (AC Ib):=An 89
@[reducible] def O6:MS:=(AB (AI 2 (mOp Ai 94 (A8 2 Af (A2 81 (A2 108 A6)))))
 (AB (AI 3 (GZ (Cf (A2 (mC (.int 20)) (A2 (mC (.int 6)) (A2 (mC (.int 2)) A6)))) (A8 2 Af (A2 81 (A2 (mC (.int 3)) A6)))))
 (AB (AI 4 (GZ (Cf (A2 (mC (.int 61)) (A2 (mC (.int 12)) (A2 94 A6)))) (A8 2 Af (A2 81 (A2 (mC (.int 3)) A6)))))
 (AB (AI 5 (A8 2 Af (A2 81 (A2 (mC (.int 10)) A6))))
 (AB (AI 6 (B8 (Cf A6)))
 (AB (CS (Ee (A2 (A1 2) A6)) (AG 7)
  (AB (AI 8 (A8 2 Af (A2 81 (A2 (mC (.int 5)) A6))))
 (AB (AI 9 (B7 (A2 (mOp Ai 94 (A8 2 Af (A2 81 (A2 (A1 3) A6)))) (A2 (A8 2 Af (A2 81 (A2 (A1 4) A6))) (A2 (B7 (A2 (mC (.str "ends")) (A2 (A1 5) A6))) A6)))))
 (AB (Au (Ef (AJ (mOp gEq (A1 8) 107)) (AJ (mOp gGt (A1 7) 107)))
  (AI 9 (mOp gIx (A1 6) (A8 2 Af (A2 81 (A2 (A1 7) A6)))))
  Ah)
 (B5 (mMt BP (A1 6) (A2 (A1 9) A6)))))))
 (AZ (mCB (f1 true B6) (A2 (A1 6) A6)))))))))
def EN:FD:=mkF 2 10 O6
abbrev Fx:Df:=⟨"_law_end_works",Ib,["_law_source_here","_law_most"],2,EN⟩
abbrev KC:Stmt:=top 53
def Tc:FnScope ["_law_one","_law_due"] ["_law_one","_law_due"] (AC KC):=An 89
@[reducible] def Xu(GL:FD):MS:=(AB (Au (AJ (Bh false 108))
 (AZ (Bh false 81))
 Ah)
 (AB (Au (BU (Cg .tuple 108))
  (AB (Au (mOr (Cm (BU (Cg .tuple 81))) (AJ (mOp gNe (mCB (f1 true BH) (A2 81 A6)) (mCB (f1 true BH) (A2 108 A6)))))
  (AZ (mC (.bl false)))
  Ah)
 (AZ (B3 J0 (Ae 2 [] (KJ (Ay 81) (Ay 108)) (Bu 2 (AR (AG 0) (AR (AG 1) Bv))) BE (A8 0 GL (A2 81 (A2 108 A6)))))))
  Ah)
 (AB (Au (BU (Cg .str 108))
  (AZ (DJ (Cg .str 81) (mOp gEq 81 108)))
  Ah)
 (AZ (DJ (Cg .int 81) (DJ (GX (Cg .bool 81)) (mOp gEq 81 108)))))))
def F4:Nat->FD
 |0=>λ_ _=>none
 |n+1=>mkF 2 2 (Xu (F4 n))
abbrev GL:FD:=F4 4
abbrev Kc:Df:=⟨"_law_alike",KC,["_law_one","_law_due"],4,GL⟩
abbrev RJ:Stmt:=top 54
def W2:FnScope ["_law_source_here","_law_many","_law_pool","_law_drawn","_law_k"] ["_law_source_here","_law_many"] (AC RJ):=An 89
@[reducible] def aa:MS:=(AB (AI 2 (B8 (Hq (A2 108 A6))))
 (AB (AI 3 (B8 (Cf A6)))
 (AB (CS (Ee (A2 108 A6)) (AG 4)
  (B5 (mMt BP (A1 3) (A2 (mMt GF (A1 2) (A2 (A8 2 Af (A2 81 (A2 (mCB (f1 true BH) (A2 (A1 2) A6)) A6))) A6)) A6))))
 (AZ (A1 3)))))
def GK:FD:=mkF 2 5 aa
abbrev Jq:Df:=⟨"_law_line",RJ,["_law_source_here","_law_many"],2,GK⟩
abbrev Gz:Stmt:=top 55
def K5:FnScope ["_law_works"] ["_law_works"] (AC Gz):=An 89
@[reducible] def Lg:MS:=(AZ (B8 (Bl (Ay (A8 0 F_ends_of (A2 81 (A2 (A8 0 CI (A2 81 A6)) A6)))))))
def C9:FD:=mkF 1 1 Lg
abbrev Eh:Df:=⟨"_law_sorted_ends",Gz,["_law_works"],6,C9⟩
abbrev Hf:Stmt:=top 56
def Lb:FnScope ["_law_source_here","_law_works","_law_days","_law_drawn","_law_moved","_law_other","_law_table","_law_due","_law_tells"] ["_law_source_here"] (AC Hf):=An 89
@[reducible] def ND:MS:=(AB (AI 1 (A8 2 Dy (A2 81 (A2 (mC (.int 8)) A6))))
 (AB (AI 2 (mOp BJ (A8 2 Af (A2 81 (A2 (mC (.int 61)) A6))) (mOp gIx (mOp gIx 108 107) 94)))
 (AB (AI 3 (A8 2 GK (A2 81 (A2 (mCB (f1 true BH) (A2 108 A6)) A6))))
 (AB (AI 4 (B3 B6 (Ae 3 [2] (Ay 108) (Bu 3 (AR (AG 0) (AR (AG 1) (AR (AG 2) Bv)))) BE (B7 (A2 81 (A2 (mOp Ai 108 (A1 3)) (A2 (A8 0 Dx (A2 (A1 2) (A2 (A1 3) A6))) A6)))))))
 (AB (AI 5 (B3 B6 (Ae 1 [1] (Bw (A1 3)) (AG 0) BE (mOp gIx 108 81))))
 (AB (AI 6 (A8 0 Bj (A2 108 A6)))
 (AB (AI 7 (B3 B6 (Ae 1 [2] (Ay (A1 6)) (AG 0) BE (B3 B6 (Ae 1 [1] (Ay 81) (AG 0) BE (mIf (AJ (Bh false 81)) (mC .non) (mOp Ai 81 108)))))))
 (AB (Au (mOr (Cm (BU (A8 0 GL (A2 (A8 0 Bj (A2 (A1 4) A6)) (A2 (A1 7) A6))))) (Cm (BU (A8 0 GL (A2 (mOp gIx (A8 0 Bj (A2 (A1 5) A6)) (Do 94)) (A2 (mOp gIx (A1 6) (Do 94)) A6))))))
  (AZ (mC (.bl false)))
  Ah)
 (AB (AI 8 (A8 0 CN (A2 108 (A2 (A1 6) A6))))
 (AZ (DJ (mOp gEq (A8 0 CN (A2 (A1 4) (A2 (A1 7) A6))) (A1 8)) (mOp gEq (A8 0 CN (A2 (A1 5) (A2 (A8 0 Bj (A2 (A1 5) A6)) A6))) (A1 8)))))))))))))
def Dz:FD:=mkF 1 9 ND
abbrev FO:Df:=⟨"_law_late_stays",Hf,["_law_source_here"],7,Dz⟩
abbrev OT:Stmt:=top 57
def Ta:FnScope ["_law_works","_law_found"] ["_law_works"] (AC OT):=An 89
@[reducible] def Xr:MS:=(AB (AI 1 (mC .non))
 (AB (M6 (AI 1 (A8 0 EK (A2 81 (A2 (A8 0 Cw (A2 81 A6)) A6)))))
 (AZ 108)))
def EB:FD:=mkF 1 2 Xr
abbrev Kb:Df:=⟨"_law_shown",OT,["_law_works"],8,EB⟩
abbrev VD:Stmt:=top 58
def Yn:FnScope ["_law_script","_law_source_here","_law_works","_law_comings","_law_days","_law_drawn","_law_moved","_law_other","_law_ends","_law_turn","_law_t","_law_many","_law_tells"] ["_law_script"] (AC VD):=An 89
@[reducible] def cU:MS:=(AB (AI 1 (D7 Gy (A2 81 A6)))
 (AB (Au (Cm (BU (A8 2 Dz (A2 108 A6))))
  (AZ (mC (.bl false)))
  Ah)
 (AB (AI 2 (A8 2 EN (A2 108 (A2 (mC (.int 8)) A6))))
 (AB (AI 3 (B8 (Ae 1 [] (Ay (A1 2)) (AG 0) BE (mOp gIx 81 94))))
 (AB (AI 4 (mOp BJ (A8 2 Af (A2 108 (A2 (mOp BJ (mC (.int 61)) (mOp BJ (mCB (f1 true Hu) (A2 (A1 3) A6)) (mCB (f1 false DR) (A2 (A1 3) A6)))) A6))) (mCB (f1 false DR) (A2 (A1 3) A6))))
 (AB (AI 5 (A8 2 GK (A2 108 (A2 (mCB (f1 true BH) (A2 (A1 2) A6)) A6))))
 (AB (AI 6 (B3 B6 (Ae 3 [4] (Ay (A1 2)) (Bu 3 (AR (AG 0) (AR (AG 1) (AR (AG 2) Bv)))) BE (B7 (A2 81 (A2 (mOp Ai 108 (A1 3)) (A2 (A1 2) A6)))))))
 (AB (AI 7 (B3 B6 (Ae 1 [2] (Bw (A1 5)) (AG 0) BE (mOp gIx 108 81))))
 (AB (AI 8 (A8 0 C9 (A2 (A1 2) A6)))
 (AB (Au (mOr (AJ (Dp true (A8 0 C9 (A2 (A1 6) A6)) (Ae 1 [4] (Bw (A1 8)) (AG 0) BE (mOp Ai 81 108)))) (AJ (mOp (KR true) (A8 0 C9 (A2 (A1 7) A6)) (A1 8))))
  (AZ (mC (.bl false)))
  Ah)
 (AB (CS (Ee (A2 (mC (.int 3)) A6)) (AG 9)
  (AB (AI 10 (mOp BJ (A8 2 Af (A2 108 (A2 (mC (.int 120)) A6))) (mC (.int 10))))
 (AB (AI 11 (A8 0 Cz (A2 (A1 2) (A2 (A1 10) A6))))
 (Au (mOr (AJ (mOp gNe (A8 0 Cz (A2 (A1 6) (A2 (mOp Ai (A1 10) (A1 4)) A6))) (A1 11))) (AJ (mOp gNe (A8 0 Cz (A2 (A1 7) (A2 (A1 10) A6))) (A1 11))))
  (AZ (mC (.bl false)))
  Ah))))
 (AB (AI 12 (A8 0 EB (A2 (A1 2) A6)))
 (AB (Au (mOr (AJ (Bh false (A1 12))) (AJ (mOp gNe (A8 0 EB (A2 (A1 6) A6)) (mOp Ai (A1 12) (mOp Eg (mOp Eg (mOp gIx (mOp gIx (mOp gIx (A1 2) 107) (mC (.int 2))) 94) (mCB (f1 true BH) (A2 (A1 2) A6))) (A1 4))))))
  (AZ (mC (.bl false)))
  Ah)
 (AZ (mOp gEq (A8 0 EB (A2 (A1 7) A6)) (A1 12))))))))))))))))
def Rw:FD:=mkF 1 13 cU
abbrev Qd:Df:=⟨"law",VD,["_law_script"],9,Rw⟩
set_option maxHeartbeats 0 in
def oks{E:EnK}(B:BltA E.mg):(Dn E EJ->Kn E EJ)/\
 (Dn E Cb->Kn E Cb)/\
 (Dn E Fw->Kn E Fw)/\
 (Dn E FL->Kn E Fw->Kn E FL)/\
 (Dn E Fv->Kn E Fv)/\
 (Dn E Ei->Kn E Ei)/\
 (Dn E FK->Kn E Ei->Kn E FK)/\
 (Dn E Bi->Kn E Bi)/\
 (Dn E EI->Kn E EI)/\
 (Dn E Ds->Kn E EI->Kn E Ds)/\
 (Dn E C7->Kn E FK->Kn E Bi->Kn E C7)/\
 (Dl E Dc ⟨58,41,58,70⟩->Kn E Dc)/\
 (Dn E Cc->Kn E EI->Kn E Cc)/\
 (Dn E Ec->Kn E Ec)/\
 (Dn E Dr->Kn E Dr)/\
 (Dn E CJ->Kn E CJ)/\
 (Dn E Ch->Kn E EJ->Kn E Cb->Kn E Cc->Kn E Ch)/\
 (Dn E Ej->Kn E Ec->Kn E Dr->Kn E Ej)/\
 (Dn E CZ->Kn E C7->Kn E Dc->Kn E Ec->Kn E Ej->Kn E CZ)/\
 (Dn E FM->Kn E C7->Kn E Cc->Kn E CJ->Kn E Ch->Kn E CZ->Kn E FM)/\
 (Dn E Gs->Kn E Ec->Kn E Dr->Kn E Gs)/\
 (Dn E Ex->Kn E C7->Kn E Dc->Kn E Cc->Kn E Gs->Kn E Ex)/\
 (Dn E Fy->Kn E Fy)/\
 (Dl E DK ⟨123,62,123,93⟩->Kn E Fy->Kn E DK)/\
 (Dl E Fi ⟨137,38,137,63⟩->Kn E Fv->Kn E Ds->Kn E C7->Kn E Dc->Kn E Fi)/\
 (Dn E Fj->Kn E Fj)/\
 (Dn E E9->Kn E E9)/\
 (Dn E Hw->Kn E Fi->Kn E E9->Kn E Hw)/\
 (Dn E Du->Kn E Bi->Kn E Ds->Kn E Du)/\
 (Dl E DD ⟨155,59,155,82⟩->Kn E DK->Kn E Du->Kn E DD)/\
 (Dn E FP->Kn E Ex->Kn E Fj->Kn E E9->Kn E DD->Kn E FP)/\
 (Dn E CL->Kn E EJ->Kn E Cb->Kn E Ch->Kn E E9->Kn E CL)/\
 (Dn E Dt->Kn E CJ->Kn E CZ->Kn E E9->Kn E Dt)/\
 (Dn E Fu->Kn E Cb->Kn E Du->Kn E CL->Kn E Dt->Kn E Fu)/\
 (Dn E JA->Kn E JA)/\
 (Dn E FJ->Kn E FJ)/\
 (Dn E FN->Kn E FJ->Kn E FN)/\
 (Dn E Fx->Kn E FJ->Kn E Fx)/\
 (Dn E Kc->Kn E Kc)/\
 (Dn E Jq->Kn E FJ->Kn E Jq)/\
 (Dn E Eh->Kn E Fj->Kn E DD->Kn E Eh)/\
 (Dn E FO->Kn E FL->Kn E FM->Kn E Ex->Kn E FJ->Kn E FN->Kn E Kc->Kn E Jq->Kn E FO)/\
 (Dn E Kb->Kn E FP->Kn E Fu->Kn E Kb)/\
 (Dn E Qd->Kn E Hw->Kn E JA->Kn E FJ->Kn E Fx->Kn E Jq->Kn E Eh->Kn E FO->Kn E Kb->Kn E Qd):=by
 refine⟨λD=>okK D Mg rfl rfl λ_ _ _ _ _ _ _ hr=>?_,
  λD=>okK D KA rfl rfl λ_ _ _ _ _ _ _ hr=>?_,
  λD=>okK D Mf rfl rfl λ_ _ _ _ _ _ _ hr=>?_,
  λD _=>okK D LY rfl rfl λ_ _ _ _ _ _ _ hr=>?_,
  λD=>okK D Md rfl rfl λ_ _ _ _ _ _ _ hr=>?_,
  λD=>okK D K6 rfl rfl λ_ _ _ _ _ _ _ hr=>?_,
  λD _=>okK D LX rfl rfl λ_ _ _ _ _ _ _ hr=>?_,
  λD=>okK D G7 rfl rfl λ_ _ _ _ _ _ _ hr=>?_,
  λD=>okK D Mb rfl rfl λ_ _ _ _ _ _ _ hr=>?_,
  λD _=>okK D LW rfl rfl λ_ _ _ _ _ _ _ hr=>?_,
  λD _ _=>okK D K9 rfl rfl λ_ _ _ _ _ _ _ hr=>?_,
  λD=>okL D Pm rfl rfl λ_ _ _ _ LC _ _ _ _ _ _ hcd hr=>?_,
  λD _=>okK D KB rfl rfl λ_ _ _ _ _ _ _ hr=>?_,
  λD=>okK D Pi rfl rfl λ_ _ _ _ _ _ _ hr=>?_,
  λD=>okK D LV rfl rfl λ_ _ _ _ _ _ _ hr=>?_,
  λD=>okK D HW rfl rfl λ_ _ _ _ _ _ _ hr=>?_,
  λD _ _ _=>okK D Ik rfl rfl λ_ _ _ _ _ _ _ hr=>?_,
  λD _ _=>okK D K8 rfl rfl λ_ _ _ _ _ _ _ hr=>?_,
  λD _ _ _ _=>okK D IT rfl rfl λ_ _ _ _ _ _ _ hr=>?_,
  λD _ _ _ _ _=>okK D LZ rfl rfl λ_ _ _ _ _ _ _ hr=>?_,
  λD _ _=>okK D Nw rfl rfl λ_ _ _ _ _ _ _ hr=>?_,
  λD _ _ _ _=>okK D Nv rfl rfl λ_ _ _ _ _ _ _ hr=>?_,
  λD=>okK D Mj rfl rfl λ_ _ _ _ _ _ _ hr=>?_,
  λD _=>okL D K7 rfl rfl λ_ _ _ _ LC _ _ _ _ _ _ hcd hr=>?_,
  λD _ _ _ _=>okL D Ph rfl rfl λ_ _ _ _ LC _ _ _ _ _ _ hcd hr=>?_,
  λD=>okK D Pj rfl rfl λ_ _ _ _ _ _ _ hr=>?_,
  λD=>okK D Qz rfl rfl λ_ _ _ _ _ _ _ hr=>?_,
  λD _ _=>okK D Pk rfl rfl λ_ _ _ _ _ _ _ hr=>?_,
  λD _ _=>okK D Ld rfl rfl λ_ _ _ _ _ _ _ hr=>?_,
  λD _ _=>okL D Me rfl rfl λ_ _ _ _ LC _ _ _ _ _ _ hcd hr=>?_,
  λD _ _ _ _=>okK D Lc rfl rfl λ_ _ _ _ _ _ _ hr=>?_,
  λD _ _ _ _=>okK D Fo rfl rfl λ_ _ _ _ _ _ _ hr=>?_,
  λD _ _ _=>okK D Il rfl rfl λ_ _ _ _ _ _ _ hr=>?_,
  λD _ _ _ _=>okK D Mc rfl rfl λ_ _ _ _ _ _ _ hr=>?_,
  λD=>okK D R8 rfl rfl λ_ _ _ _ _ _ _ hr=>?_,
  λD=>okK D W1 rfl rfl λ_ _ _ _ _ _ _ hr=>?_,
  λD _=>okK D La rfl rfl λ_ _ _ _ _ _ _ hr=>?_,
  λD _=>okK D Mi rfl rfl λ_ _ _ _ _ _ _ hr=>?_,
  λD=>Nat.rec (motive:=λn=>Kn E ⟨"_law_alike",KC,["_law_one","_law_due"],n,F4 n⟩) (ok0 D) (λn ih=>okK (j:=n) D Tc rfl 67 λ_ _ _ _ _ _ _ hr=>?_) 4,
  λD _=>okK D W2 rfl rfl λ_ _ _ _ _ _ _ hr=>?_,
  λD _ _=>okK D K5 rfl rfl λ_ _ _ _ _ _ _ hr=>?_,
  λD _ _ _ _ _ _ _=>okK D Lb rfl rfl λ_ _ _ _ _ _ _ hr=>?_,
  λD _ _=>okK D Ta rfl rfl λ_ _ _ _ _ _ _ hr=>?_,
  λD _ _ _ _ _ _ _ _=>okK D Yn rfl rfl λ_ _ _ _ _ _ _ hr=>?_⟩
 all_goals (refine' ⟨_,_⟩;rotate_left;repeat' (first
  |((with_reducible show QE _ _ _ _ _);first|exact qv _ _|(first|exact Zq _|exact Zh _|exact cD _|exact Zl _)|((with_reducible show QE _ _ _ _ (mOp _ _ _));first|((with_reducible show QE _ _ _ _ (mOp gIx _ _));refine' cA _ _ _)|((with_reducible show QE _ _ _ _ (mOp CY _ _));refine' X6 _ (Vb hr) _ _)|((with_reducible show QE _ _ _ _ (mOp Ai _ _));refine' GU _ ((Ru).or (N0 _)) (E5 Rf OY) _ _)|((with_reducible show QE _ _ _ _ (mOp BJ _ _));refine' GU _ aN ZC _ _)|((with_reducible show QE _ _ _ _ (mOp Eg _ _));refine' GU _ aR ZF _ _)|((with_reducible show QE _ _ _ _ (mOp Gj _ _));refine' GU _ aS ZG _ _)|((with_reducible show QE _ _ _ _ (mOp Gk _ _));refine' GU _ Xf Wa _ _)|((with_reducible show QE _ _ _ _ (mOp Ut _ _));refine' GU _ aO ZD _ _)|((with_reducible show QE _ _ _ _ (mOp MC _ _));refine' GU _ (((Ru).or (N0 _)).or (Xh _)) (E5 (E5 Rf OY) Wb) _ _)|((with_reducible show QE _ _ _ _ (mOp gLe _ _));refine' Mv _ VW VI _ _)|((with_reducible show QE _ _ _ _ (mOp gEq _ _));refine' Mv _ ((VX).or (Oi _ hr.units)) (E5 Rc Re) _ _)|((with_reducible show QE _ _ _ _ (mOp gNe _ _));refine' Mv _ ((VU).or (IH _ hr.units)) (E5 Ra Rb) _ _))|refine' Zf _ _|((with_reducible show QE _ _ _ _ (B8 _));refine' Zm _ _)|refine' Zn _ _|((with_reducible show QE _ _ _ _ (A8 _ _ _));first|refine' qcW _ (by assumption) hr _|refine' qcW _ (by assumption) (hr.in1.deeper _) _)|((with_reducible show QE _ _ _ _ (D7 _ _));refine' qcG (by assumption) hr _)|((with_reducible show QE _ _ _ _ (FH _ _ _ _));refine' c8 LC hcd hr B.max _ (λ_ _ _ _=>_))|((with_reducible show QE _ _ _ _ Ji);exact ZZ LC hcd)|((with_reducible show QE _ _ _ _ (Dq _ _));refine' UH _ (hr.in1.deeper _) _ _)|((with_reducible show QE _ _ _ _ (FG _ _ _));refine' ZY LC hcd hr B.min _ (λ_ _ _ _=>_))|((with_reducible show QE _ _ _ _ (B3 _ _));first|((with_reducible show QE _ _ _ _ (B3 J0 _));refine' Jc _ (LN _ rfl) RW B.all L2.bt_all _)|((with_reducible show QE _ _ _ _ (B3 Gg _));refine' Jc _ (LM _ rfl) RV B.any L2.bt_any _)|((with_reducible show QE _ _ _ _ (B3 Gf _));refine' Jc _ ((LI _ rfl).or (Jw _ rfl)) RP B.sum L2.bt_sum _)|((with_reducible show QE _ _ _ _ (B3 DR _));refine' Jc _ (LK _ rfl) RQ B.min L2.bt_min _)|((with_reducible show QE _ _ _ _ (B3 Hu _));refine' Jc _ ((LL _ rfl).or (Jx _ rfl)) RU B.max L2.bt_max _)|((with_reducible show QE _ _ _ _ (B3 B6 _));refine' cB _ (Ij _) Mp B.tuple L2.bt_tuple _))|((with_reducible show QE _ _ _ _ (mCB _ _));first|((with_reducible show QE _ _ _ _ (mCB (f1 _ J0) _));refine' FY _ (LN _ rfl) (Hj RW) B.all L2.bt_all _)|((with_reducible show QE _ _ _ _ (mCB (f1 _ Gg) _));refine' FY _ (LM _ rfl) (Hj RV) B.any L2.bt_any _)|((with_reducible show QE _ _ _ _ (mCB (f1 _ Gf) _));refine' FY _ ((LI _ rfl).or (Jw _ rfl)) (Hj RP) B.sum L2.bt_sum _)|((with_reducible show QE _ _ _ _ (mCB (f1 _ BH) _));refine' FY _ (Sm _) (Hj Z4) B.len L2.bt_len _)|((with_reducible show QE _ _ _ _ (mCB (f1 _ DR) _));refine' FY _ (LK _ rfl) (Hj RQ) B.min L2.bt_min _)|((with_reducible show QE _ _ _ _ (mCB (f1 _ Hu) _));refine' FY _ ((LL _ rfl).or (Jx _ rfl)) (Hj RU) B.max L2.bt_max _)|((with_reducible show QE _ _ _ _ (mCB (f1 _ Jm) _));refine' FY _ (Qj _ rfl) (Hj WH) B.any L2.bt_any _)|((with_reducible show QE _ _ _ _ (mCB Gp _));refine' FY _ (Sl rfl) WJ B.max L2.bt_max _)|((with_reducible show QE _ _ _ _ (mCB (f1 _ B6) _));refine' cC _ (Ij _) (Hj Mp) B.tuple L2.bt_tuple _))|((with_reducible show QE _ _ _ _ (GZ _ _));refine' Zo _ _ _)|((with_reducible show QE _ _ _ _ (KK _ _ _));refine' Zi _ _ _ _)|((with_reducible show QE _ _ _ _ (II _ _));refine' X2 _ _ _)|refine' UF _ _ _ _|((with_reducible show QE _ _ _ _ (mMt _ _ _));first|((with_reducible show QE _ _ _ _ (mMt BP _ _));refine' Q0 _ PySem.F.slot_list_append PySem.F.type_list_append Kw RO _ _)|((with_reducible show QE _ _ _ _ (mMt GF _ _));refine' Q0 _ PySem.F.slot_list_pop PySem.F.type_list_pop Ub Tl _ _)|((with_reducible show QE _ _ _ _ (mMt GE _ _));refine' Q0 _ PySem.F.slot_list_remove PySem.F.type_list_remove S3 RK _ _))|refine' X5 _ _|((with_reducible show QE _ _ _ _ (Cg _ _));first|((with_reducible show QE _ _ _ _ (Cg .int _));refine' Jb _ .int B.isinstance B.int _)|((with_reducible show QE _ _ _ _ (Cg .bool _));refine' Jb _ .bool B.isinstance B.bool _)|((with_reducible show QE _ _ _ _ (Cg .str _));refine' Jb _ .str B.isinstance B.str _)|((with_reducible show QE _ _ _ _ (Cg .tuple _));refine' Jb _ .tuple B.isinstance B.tuple _))|((with_reducible show QE _ _ _ _ (Bh _ _));first|refine' Zp _ _|refine' X3 _ _)|((with_reducible show QE _ _ _ _ (DJ _ _));refine' Zr _ _ _)|((with_reducible show QE _ _ _ _ (KL _ _));refine' c9 _ _ _)|((with_reducible show QE _ _ _ _ (GX _));refine' Zk _ _)|refine' Zj _ _)
  |refine' X7 _ _ _|exact Zt _
  |((with_reducible show QT _ _ _ _ _);first|((with_reducible show QT _ _ _ _ (AJ (mOp _ _ _)));first|((with_reducible show QT _ _ _ _ (AJ (mOp gLt _ _)));refine' EV _ cN bp _ _)|((with_reducible show QT _ _ _ _ (AJ (mOp gLe _ _)));refine' EV _ VW VI _ _)|((with_reducible show QT _ _ _ _ (AJ (mOp gGt _ _)));refine' EV _ cO bt _ _)|((with_reducible show QT _ _ _ _ (AJ (mOp gGe _ _)));refine' EV _ cP bu _ _)|((with_reducible show QT _ _ _ _ (AJ (mOp gEq _ _)));refine' EV _ ((VX).or (Oi _ hr.units)) (E5 Rc Re) _ _)|((with_reducible show QT _ _ _ _ (AJ (mOp gNe _ _)));refine' EV _ ((VU).or (IH _ hr.units)) (E5 Ra Rb) _ _)|((with_reducible show QT _ _ _ _ (AJ (mOp (gIn true) _ _)));refine' EV _ (Rt _) br _ _)|((with_reducible show QT _ _ _ _ (AJ (mOp (KR true) _ _)));refine' EV _ (IH _ hr.units) ZE _ _))|refine' ZO _ _|((with_reducible show QT _ _ _ _ (BU _));refine' U3 _ _)|((with_reducible show QT _ _ _ _ (Ef _ _));refine' QW.toT _)|((with_reducible show QT _ _ _ _ (mOr _ _));refine' QW.toT _)|((with_reducible show QT _ _ _ _ (AJ (Bh _ _)));first|refine' ZP _ _|refine' Wf _ _)|((with_reducible show QT _ _ _ _ (AJ (Dp _ _ _)));refine' Wg _ (aP _ hr.units) _ _))
  |refine' We _ _|refine' ZM _ _|refine' ZN _ _ _|refine' bw _ _ _
  |((with_reducible show QN _ _ _ _ _);first|((with_reducible show QN _ _ _ _ (EY _ _ _));refine' ZQ LC hcd hr B.sorted _ (λ_ _ _ _=>_))|refine' ZW _ _|((with_reducible show QN _ _ _ _ (Ae _ _ _ _ _ _));refine' qnA _ (λ_ _ _=>_) (λ_ _ _=>_) (λ_ _ _=>_))|((with_reducible show QN _ _ _ _ (Ix _ _));refine' ZX _ _ _)|((with_reducible show QN _ _ _ _ (NG _ _ _));refine' ZV _ _ _ _)|((with_reducible show QN _ _ _ _ (Bl _));first|(refine' Py _ B.sorted _;rotate_left;refine' Mu _ _)|refine' Pz _ B.sorted _)|((with_reducible show QN _ _ _ _ (Hq _));refine' UA _ B.list B.range _)|((with_reducible show QN _ _ _ _ (Hs _));refine' UB _ B.list _))
  |((with_reducible show QI _ _ _ _ _ _);first|((with_reducible show QI _ _ _ _ _ (Ee _));refine' Wy _ B.range _)|((with_reducible show QI _ _ _ _ _ (Ay _));refine' Zb _ _)|((with_reducible show QI _ _ _ _ _ (Bw _));refine' Wz _ _)|((with_reducible show QI _ _ _ _ _ (DI _));refine' UC _ B.enumerate (Mu _ _))|((with_reducible show QI _ _ _ _ _ (GC _));refine' UD _ B.enumerate _)|((with_reducible show QI _ _ _ _ _ (KJ _ _));refine' Za _ B.zip _ _))
  |refine' U5 _ B.range _
  |((with_reducible show QR _ _ _ _ _ _);first|((with_reducible show QR _ _ _ _ _ (Bw _));refine' Ws _ _)|((with_reducible show QR _ _ _ _ _ (Ay _));refine' Mu _ _))
  |exact qgA
  |refine' Zc _ rfl _
  |exact X0 _|refine' UE _ _ _
  |exact Ze _|refine' Zd _ _
  |exact Wv _|refine' Wu _ _
  |exact Wt _|refine' U8 _ _ _ _
  |((with_reducible show QSs _ _ _ _ _);first|((with_reducible show QSs _ _ _ _ (AB _ _));refine' U4 _ _ _)|(first|exact Wi _|refine' Wh _ _))
  |((with_reducible show QS _ _ _ _ _);first|((with_reducible show QS _ _ _ _ (AI _ (B8 (Ae _ _ _ _ _ _))));first|refine' dU _ (λ_ _ _=>_) (λ_ _ _=>_) (λ_ _ _=>_)|refine' qsA _)|((with_reducible show QS _ _ _ _ (AI _ _));refine' qsA _)|refine' bx _ _ _ _|refine' ZS _ _|refine' ZT _ rfl _ _ _|refine' Wq _ _|((with_reducible show QS _ _ _ _ (Fd _ _ _));refine' Wr _ (Vb hr) _ _ _)|((with_reducible show QS _ _ _ _ (Eu _ _ _));refine' Wo _ _ _ _)|refine' ZU _ _ _|refine' U6 _ _ _|exact Wn _|((with_reducible show QS _ _ _ _ BO);exact U7 _)|((with_reducible show QS _ _ _ _ (GY _ _ _ _));refine' Wp _ _ _ _ av)|((with_reducible show QS _ _ _ _ (M6 _));refine' Wj _))))
open Bd
structure Sp where
 cells:List Int
 a:Int
 rs:Int
 cn:Int
def Bq(t:Sp):List (Key×D):=[(.inr "cells",.mu 0),(.inr "at",.im (.int t.a)),(.inr "rest",.im (.int t.rs)),(.inr "count",.im (.int t.cn))]
def sp(t:Sp):Hd:=[.lst (t.cells.map λi=>.im 106),.dic (Bq t)]
@[simp] theorem sp0(t:Sp):(sp t)[0]?=some (.lst (t.cells.map λi=>.im 106)):=rfl
@[simp] theorem sp1(t:Sp):(sp t)[1]?=some (.dic (Bq t)):=rfl
@[simp] theorem gG(t t':Sp)(h:t'.cells=t.cells):(sp t).set 1 (.dic (Bq t'))=sp t':=by unfold sp;rw[h];rfl
def CU:(("cells":Str)="at")=False:=by simp[iq];decide
def C0:(("cells":Str)="rest")=False:=by simp[iq];decide
def BZ:(("cells":Str)="count")=False:=by simp[iq];decide
def CW:(("at":Str)="cells")=False:=by simp[iq];decide
def Cp:(("at":Str)="rest")=False:=by simp[iq];decide
def CV:(("at":Str)="count")=False:=by simp[iq];decide
def By:(("rest":Str)="cells")=False:=by simp[iq];decide
def Co:(("rest":Str)="at")=False:=by simp[iq];decide
def Bx:(("rest":Str)="count")=False:=by simp[iq];decide
def BY:(("count":Str)="cells")=False:=by simp[iq];decide
def CT:(("count":Str)="at")=False:=by simp[iq];decide
def Bz:(("count":Str)="rest")=False:=by simp[iq];decide
section
variable(t:Sp)(v:Int)
@[simp] theorem dN:Cj (Bq t) (.inr "cells")=some (.mu 0):=by simp[Cj,Bq]
@[simp] theorem gH:Cj (Bq t) (.inr "at")=some (.im (.int t.a)):=by simp[Cj,Bq,CU,C0,BZ,CW,Cp,CV,By,Co,Bx,BY,CT,Bz]
@[simp] theorem eG:Cj (Bq t) (.inr "rest")=some (.im (.int t.rs)):=by simp[Cj,Bq,CU,C0,BZ,CW,Cp,CV,By,Co,Bx,BY,CT,Bz]
@[simp] theorem dM:Cj (Bq t) (.inr "count")=some (.im (.int t.cn)):=by simp[Cj,Bq,CU,C0,BZ,CW,Cp,CV,By,Co,Bx,BY,CT,Bz]
@[simp] theorem fF:Dk (Bq t) (.inr "at") (.im (.int v))=Bq { t with a:=v }:=by simp[Dk,Bq,CU,C0,BZ,CW,Cp,CV,By,Co,Bx,BY,CT,Bz]
@[simp] theorem dL:Dk (Bq t) (.inr "rest") (.im (.int v))=Bq { t with rs:=v }:=by simp[Dk,Bq,CU,C0,BZ,CW,Cp,CV,By,Co,Bx,BY,CT,Bz]
@[simp] theorem dC:Dk (Bq t) (.inr "count") (.im (.int v))=Bq { t with cn:=v }:=by simp[Dk,Bq,CU,C0,BZ,CW,Cp,CV,By,Co,Bx,BY,CT,Bz]
@[simp] theorem fG:(Bq t).length=4:=rfl
end
def o1:DH 1073741827:=by unfold DH;decide
def o2:DH 2147483543:=by unfold DH;decide
def o3:DH 2147483497:=by unfold DH;decide
def o4:Jt 256:=by unfold Jt;decide
def o5(j:Int):Fa 611953 j:=D0 77 77
def o6(j:Int):Fa 3 j:=D0 77 77
def o7(j:Int):Fa 69069 j:=D0 77 77
def mx1(c n:Int):Int:=c%1073741827+611953*n
def mx2(x n:Int):Int:=(x*x+3*n+7)%2147483543
def mx3(x n:Int):Int:=(x*x+69069*n+1)%2147483497
def XN(τ:Sp)(many:Int)(h0:0<many)(h1:many<1073741824)(n0:0<=τ.cn)(n1:τ.cn<=100000):∃r τ',Af [.mu 1,.im (.int many)] (sp τ)=some (.im (.int r),sp τ')/\0<=r/\r<many/\τ'.cn=τ.cn+1:=by
 have hm:DH many:=h0;have hv:Jt many:=⟨h0,h1⟩
 by_cases hl:τ.rs>0
 .refine⟨τ.rs%many,{ τ with cn:=τ.cn+1,rs:=τ.rs/many },?_,(Et many h0).1,(Et many h0).2,rfl⟩;simp[Af,mkF,hl,hm,hv]
 .have key:∀cell:Int,(if τ.cells=[]then cell=11 else atI (τ.cells.map λi=>D.im 106) (τ.a%(τ.cells.length:Int))=some (.im (.int cell))) ->
   ∃r τ',Af [.mu 1,.im (.int many)] (sp τ)=some (.im (.int r),sp τ')/\0<=r/\r<many/\τ'.cn=τ.cn+1:=by
   intro cell hcell;have b1:=Et (x:=cell) 1073741827 77;have b2:=Et (x:=mx1 cell (τ.cn+1)*mx1 cell (τ.cn+1)+3*(τ.cn+1)+7) 2147483543 77;have c1:∀j,Fa (mx1 cell (τ.cn+1)) j:=λj=>D0 (by unfold mx1;omega) (by unfold mx1;omega);have c2:∀j,Fa (mx2 (mx1 cell (τ.cn+1)) (τ.cn+1)) j:=λj=>D0 (by unfold mx2;omega) (by unfold mx2;omega);by_cases hb:cell>=1000000000000000000/\τ.a+1<=(τ.cells.length:Int)
   .refine⟨cell%many,{ τ with cn:=τ.cn+1,a:=τ.a+1,rs:=cell/many },?_,(Et many h0).1,(Et many h0).2,rfl⟩;by_cases hc:τ.cells=[]
    .rw[gi hc]at hcell;subst hcell;omega
    .rw[gj hc]at hcell;have hl0:0<τ.cells.length:=DX hc;have hl0':DH (τ.cells.length:Int):=by unfold DH;omega
     simp[Af,mkF,hl,hm,hv,o1,o2,o3,o4,o5,o6,o7,po1,Dp,pyD,D3,DP,I.pys,GG,hc,hcell,hl0',hb.1,hb.2,BH]
   .refine⟨mx3 (mx2 (mx1 cell (τ.cn+1)) (τ.cn+1)) (τ.cn+1)/256%many,{ τ with cn:=τ.cn+1,a:=τ.a+1 },?_,(Et many h0).1,(Et many h0).2,rfl⟩;have hb':1000000000000000000<=cell->¬ τ.a+1<=(τ.cells.length:Int):=λa b=>hb ⟨a,b⟩;unfold mx1 at c1 c2;unfold mx2 at c2;unfold mx3 mx2 mx1;by_cases hc:τ.cells=[]
    .rw[gi hc]at hcell;subst hcell;simp only[Int.reduceMod]at c1 c2;simp[Af,mkF,hl,hm,hv,o1,o2,o3,o4,o5,o6,o7,po1,Dp,pyD,D3,DP,I.pys,GG,bK,hc,BH,c1,c2]
    .rw[gj hc]at hcell;have hl0:0<τ.cells.length:=DX hc;have hl0':DH (τ.cells.length:Int):=by unfold DH;omega
     by_cases hd:1000000000000000000<=cell
     .simp[Af,mkF,hl,hm,hv,o1,o2,o3,o4,o5,o6,o7,po1,Dp,pyD,D3,DP,I.pys,GG,hc,hcell,hl0',BH,c1,c2,hd,hb' hd]
     .simp[Af,mkF,hl,hm,hv,o1,o2,o3,o4,o5,o6,o7,po1,Dp,pyD,D3,DP,I.pys,GG,hc,hcell,hl0',BH,c1,c2,hd]
  by_cases hc:τ.cells=[]
  .exact key 11 (by rw[gi hc])
  .obtain⟨c,e⟩:=d4 hc τ.a;exact key c (by rw[gj hc];exact e)
def T(k:Nat)(a b:MO):Prop:=∃τ:Sp,0<=τ.cn/\τ.cn+k<=100000/\sp τ=[a,b]
def tap:Tap T Af where
 cl:=by
  rintro k a b ⟨τ,_,_,e⟩;cases e;simp[clO,Dd,Bq,G4,clD]
 le:=by
  rintro j k a b ⟨τ,h1,h2,e⟩ h;exact⟨τ,h1,by omega,e⟩
 pick:=by
  rintro k a b many ⟨τ,n0,n1,e⟩ h0 h1;obtain⟨r,τ',eq,p1,p2,c⟩:=XN τ many h0 h1 n0 (by push_cast at n1;omega);refine⟨r,.lst (τ'.cells.map λi=>.im 106),.dic (Bq τ'),p1,p2,?_,τ',by omega,by push_cast at n1;omega,rfl⟩;rw[<- e];exact eq
def TW(ns:List Int):WF Gy [.ro ns] [] λd x=>d=.mu 1/\∃a b,T 90000 a b/\x=[a,b]:=by
 obtain⟨cs,e⟩:=Uy ns none (some 63);exact⟨.mu 1,_,by simp[Gy,mkF,e,GA,Dk,CU,C0,BZ,CW,Cp,CV,By,Co,Bx,BY,CT,Bz];rfl,rfl,_,_,⟨⟨cs,0,0,0⟩,(show(0:Int)<=0 by decide),(show(0:Int)+(90000:Nat)<=100000 by decide),rfl⟩,rfl⟩
structure EW(w:Int)(ws:List Wk):Prop where
 n1:1<=68
 n8:68<=8
 w0:0<=w/\w<=9
 ea:∀z∈ws,(1<=z.len/\z.len<=20)/\(0<=z.com/\z.com<=60)/\z.cost=.ends w
abbrev wkD(z:Wk):D:=.im (Bg z)
def ER(ws:List Wk):(ws.map Bg).map D.im=ws.map wkD:=by simp
def at3{r:Int}(h0:0<=r)(h1:r<3)(x y z:D):∃d,(d=x∨d=y∨d=z)/\atI [x,y,z] r=some d:=by
 rcases(show r=0∨r=1∨r=2 by omega)with rfl|rfl|rfl
 .exact⟨x,.inl rfl,Ct _ _⟩
 .exact⟨y,.inr (.inl rfl),DT _ _ _⟩
 .exact⟨z,.inr (.inr rfl),Ep _ _ _ _⟩
abbrev Le(mo m lg lt w:Int)(z7 z8 z9:Option D):Ls:=[some (.mu 1),some (.im (.int mo)),some (.im (.int m)),some (.im (.int lg)),some (.im (.int lt)),some (.im (.int w)),some (.mu 2),z7,z8,z9]
inductive I_e(mo:Int)(n k:Nat)(lg lt w:Int)(r:List D)(ls:Ls)(hd:Hd):Prop
 |mk (j:Nat) (ws:List Wk) (a b:MO) (z7 z8 z9:Option D) (h0:r=Aj (j:Int) (k-j)) (h1:j<=k) (h2:68=j) (h3:∀z∈ws,(1<=z.len/\z.len<=20)/\(0<=z.com/\z.com<=60)/\z.cost=.ends w) (h4:ls=Le mo (k:Int) lg lt w z7 z8 z9) (h5:hd=[a,b,.lst (ws.map wkD)]) (h6:T (n+10*(k-j)) a b):I_e mo n k lg lt w r ls hd
inductive J_e(mo:Int)(n k j:Nat)(lg lt w:Int)(z8:Option D)(ws:List Wk)(f:Fl)(x:Hd):Prop
 |mk (z:Wk) (a b:MO) (h0:f=.nx (Le mo (k:Int) lg lt w (some (.im (.int (j:Int)))) z8 (some (wkD z)))) (h1:x=[a,b,.lst (ws.map wkD)]) (h2:(1<=z.len/\z.len<=20)/\(0<=z.com/\z.com<=60)/\z.cost=.ends w) (h3:T (n+10*(k-(j+1))) a b):J_e mo n k j lg lt w z8 ws f x
def OB(n:Nat){mo:Int}(hm1:1<=mo)(hm8:mo<=8):∀a b,T (n+100) a b->WF EN [.mu 1,.im (.int mo)] [a,b] λd x=>∃i a' b' g,d=.im i/\(∃ws w,i=Ac ws/\EW w ws)/\T n a' b'/\x=a'::b'::g:=by
 intro a b hT;unfold EN;refine AX rfl ?_;refine A9 (AF (A7 (AE ?_)));refine tap.draw hT rfl (by first|decide|omega) (by first|decide|omega) λm a b hT pm qm=>?_;refine BA (A5 (A9 (AF (G6 (CC (A3 (AE (A3 (AE (A3 (AE (A4 ⟨C1,?_⟩))))))))))));refine tap.draw hT rfl (by first|decide|omega) (by first|decide|omega) λr2 a b hT pr2 qr2=>?_;obtain⟨d2,hd2,ed2⟩:=at3 pr2 qr2 (.im (.int 20)) (.im (.int 6)) (.im (.int 2));refine⟨_,_,rfl,ed2,?_⟩;obtain⟨lg,rfl,hlg⟩:∃t,d2=.im (.int t)/\(2<=t/\t<=20):=by
  rcases hd2 with rfl|rfl|rfl<;>exact⟨_,rfl,by omega,by omega⟩
 refine A5 (A9 (AF (G6 (CC (A3 (AE (A3 (AE (A3 (AE (A4 ⟨C1,?_⟩)))))))))));refine tap.draw hT rfl (by first|decide|omega) (by first|decide|omega) λr3 a b hT pr3 qr3=>?_;obtain⟨d3,hd3,ed3⟩:=at3 pr3 qr3 (.im (.int 61)) (.im (.int 12)) (.im (.int 1));refine⟨_,_,rfl,ed3,?_⟩;obtain⟨lt,rfl,hlt⟩:∃t,d3=.im (.int t)/\(1<=t/\t<=61):=by
  rcases hd3 with rfl|rfl|rfl<;>exact⟨_,rfl,by omega,by omega⟩
 refine A5 (A9 (AF ?_));refine tap.draw hT rfl (by first|decide|omega) (by first|decide|omega) λw a b hT pw qw=>?_;refine A5 (A9 (AF (BC (CC (A4 ⟨DC,A5 (A9 (Bn (HK (A3 (A0 rfl (A4 ⟨_,rfl,?_⟩))))))⟩)))));refine⟨E3 67 67,?_⟩;obtain⟨k,hk⟩:=Int.eq_ofNat_of_zero_le (show 0<=1+m by omega);rw[hk,ik];change WP (BD _ _ _ _ (Le mo (k:Int) lg lt w none none none) [a,b,.lst []]) _;have hT:T (n+10*(k-0)) a b:=tap.le hT 67;refine Bo (I_e mo n k lg lt w) ⟨0,[],a,b,none,none,none,rfl,by omega,rfl,by simp,rfl,rfl,hT⟩ ?_ ?_
 .rintro d r ls hd ⟨j,ws,a,b,z7,z8,z9,er,hj,hl,hws,rfl,rfl,hT⟩;obtain⟨m',hm⟩:∃m,k-j=m+1:=by
   cases q:k-j with
   |zero=>rw[q]at er;cases er
   |succ m=>exact⟨m,rfl⟩
  rw[hm,Aj]at er;obtain⟨rfl,rfl⟩:=List.cons.inj er;have hT:T (n+10*(k-(j+1))+10) a b:=tap.le hT 67;refine⟨Le mo (k:Int) lg lt w (some (.im (.int (j:Int)))) z8 z9,rfl,?_⟩;refine A9 (AF ?_);refine tap.draw hT rfl (by first|decide|omega) (by first|decide|omega) λway a b hT pway qway=>?_;refine A5 (A9 (AF (B1 (A3 (A7 (AE ?_))))));refine tap.draw hT rfl (by first|decide|omega) (by first|decide|omega) λln a b hT pln qln=>?_;refine BA (A3 ?_);refine tap.draw hT rfl (by first|decide|omega) (by first|decide|omega) λcm a b hT pcm qcm=>?_;refine A3 (B1 (A3 (AE (A3 (A0 rfl (A4 ⟨DB,A4 ⟨C1,A5 ?_⟩⟩))))));change WS _ (Le mo (k:Int) lg lt w (some (.im (.int (j:Int)))) (some (.im (.int way))) (some (wkD ⟨1+ln,cm,.ends w⟩))) [a,b,.lst (ws.map wkD)] _;refine A9 (WP.mono (Q:=J_e mo n k j lg lt w (some (.im (.int way))) ws) (AW (EO (AK (A7 (A0 rfl (AE (CB ⟨_,rfl,?_⟩))))))) ?_)
  .have no:J_e mo n k j lg lt w (some (.im (.int way))) ws (.nx (Le mo (k:Int) lg lt w (some (.im (.int (j:Int)))) (some (.im (.int way))) (some (wkD ⟨1+ln,cm,.ends w⟩)))) [a,b,.lst (ws.map wkD)]:=⟨_,a,b,rfl,rfl,⟨⟨by show 1<=1+ln;omega,by show 1+ln<=20;omega⟩,⟨by show 0<=cm;omega,by show cm<=60;omega⟩,rfl⟩,tap.le hT 67⟩
   by_cases h1:way=0
   .rw[gi (by simpa using h1)];refine AK (A7 (A0 rfl (AE (Es ⟨_,rfl,λhc=>?_,λhc=>AO no⟩))));have hc:0<(j:Int):=by simpa using hc
    refine AF (A7 (A0 rfl ?_));refine tap.draw hT (many:=(j:Int)) (rest:=[.lst (ws.map wkD)]) 75 67 67 λr a b hT pr qr=>?_;obtain⟨i,hi⟩:=Int.eq_ofNat_of_zero_le pr;have hi':i<ws.length:=by omega
    exact AH (ds:=ws.map wkD) (e:=wkD ws[i]) rfl (Eo hi (by simp[hi'])) ⟨ws[i],a,b,rfl,rfl,hws _ (List.getElem_mem hi'),tap.le hT 67⟩
   .rw[gj (by simpa using h1)];exact⟨(λh=>by cases h),λ_=>AO no⟩
  rintro f x ⟨z,a,b,rfl,rfl,okz,hT⟩;refine A5 (Aq (Dh (A0 rfl ⟨⟨_,rfl⟩,A3 (A0 rfl (A4 (F5 rfl (Cq 79) ?_)))⟩)));exact⟨AQ _,j+1,ws++[z],a,b,_,_,_,by rw[show((j:Int)+1)=((j+1:Nat):Int) by omega,show m'=k-(j+1) by omega],by omega,by simp[hl],λy hy=>by rcases mem_append.mp hy with q|q;exact hws y q;rw[i4]at q;subst q;exact okz,rfl,by simp,hT⟩
 .rintro ls hd ⟨j,ws,a,b,z7,z8,z9,er,hj,hl,hws,rfl,rfl,hT⟩;have:j=k:=by
   cases q:k-j with
   |zero=>omega
   |succ m=>rw[q]at er;cases er
  subst this;refine A5 (AT (BI (A3 (A0 rfl (A4 (Bf (ds:=ws.map wkD) (z:=.im (Ac ws)) rfl ?_ ?_))))))
  .show some (AY (ws.map wkD))=_;rw[<- ER,Ax]
  .exact⟨_,a,b,_,rfl,⟨ws,w,rfl,⟨by omega,by omega,by omega,hws⟩⟩,tap.le hT 67,rfl⟩
def weight_w{z:Wk}{w:Int}(h:z.cost=.ends w):WF Bk [wkD z] [] λd x=>d=.im (.int w):=by
 unfold Bk;refine AX rfl ?_;unfold wkD Bg;rw[h];refine AT (A7 (A7 (A0 rfl (AE (AH rfl (Ep _ _ _ _) ?_)))));refine ES (AE ⟨_,rfl,?_⟩);refine AH (ds:=[.im (.str "ends"),.im (.int w)]) (e:=.im (.int w)) rfl ?_ rfl;rfl
def refuse_w{w:Int}{ws:List Wk}(W:EW w ws):WF Av [.im (Ac ws),.im (.str "ends")] [] λd x=>d=.im .non:=by
 have n8:=W.n8;unfold Av;refine AX rfl ?_;refine AW (B0 (B2 98));rw[ER];refine⟨AS 79,?_⟩;refine Ar wkD (λ_=>some (.im (.bl false))) (λ_ ls=>∃x,ls=[some x,some (.im (.str "ends"))]) _ (AQ _) ?_ ?_
 .rintro z hz ls hls;refine⟨[some (wkD z),some (.im (.str "ends"))],by rcases hls with rfl|⟨_,x,rfl⟩<;>rfl,⟨_,rfl⟩,Az ⟨rfl,?_⟩⟩;rw[gi rfl];unfold wkD Bg;rw[(W.ea z hz).2.2];refine⟨_,rfl,A7 (A7 (A7 (A0 rfl (AE (AH rfl (Ep _ _ _ _) (AE (AH (ds:=[.im (.str "ends"),.im (.int w)]) rfl (Ct _ _) (A0 rfl (JI ⟨rfl,?_⟩)))))))))⟩;simp
 have e:(ws.filterMap λ_=>some (D.im (.bl false)))=blD (ws.map λ_=>false):=by simp[blD]
 rw[e];refine⟨_,by rw[Gg,EA];rfl,_,rfl,?_⟩;exact⟨(λh=>by simp at h),λ_=>AO rfl⟩
def cQ{w:Int}{ws:List Wk}(W:EW w ws):WF C2 [.im (Ac ws)] [] λd x=>d=.im (.int w):=by
 have n8:=W.n8;have n1:=W.n1;unfold C2;refine AX rfl ?_;have e0:atI ((ws.map Bg).map D.im) 0=some (wkD ws[0]):=Eo (k:=0) rfl (by rw[List.getElem?_map,List.getElem?_map,List.getElem?_eq_getElem n1];rfl);refine A9 (AF (AA (A3 (A7 (A0 rfl (AE (AH rfl e0 (A4 ⟨by simp,(weight_w (W.ea _ (List.getElem_mem n1)).2.2).mono ?_⟩))))))));rintro d x rfl;refine⟨_,rfl,A5 ?_⟩;refine A9 (AW (B0 (B2 98)));rw[ER];refine⟨AS 79,?_⟩;refine Ar wkD (λ_=>some (.im (.bl false))) (λ_ ls=>∃x,ls=[some x,some (.im (.int w))]) _ (AQ _) ?_ ?_
 .rintro z hz ls hls;refine⟨[some (wkD z),some (.im (.int w))],by rcases hls with rfl|⟨_,x,rfl⟩<;>rfl,⟨_,rfl⟩,Az ⟨rfl,?_⟩⟩;rw[gi rfl];refine⟨_,rfl,A7 (AA (A3 (A0 rfl (A4 ⟨by simp,(weight_w (W.ea z hz).2.2).mono ?_⟩))))⟩;rintro d x rfl;refine⟨_,rfl,A0 rfl (EQ ⟨rfl,?_⟩)⟩;simp
 have e:(ws.filterMap λ_=>some (D.im (.bl false)))=blD (ws.map λ_=>false):=by simp[blD]
 rw[e];refine⟨_,by rw[Gg,EA];rfl,_,rfl,?_⟩;exact⟨(λh=>by simp at h),λ_=>AO (A5 (AT (A0 rfl rfl)))⟩
def Hv{w:Int}{ws:List Wk}(W:EW w ws):WF Cy [.im (Ac ws)] [] λd x=>d=.im (.int w):=by
 unfold Cy;refine AX rfl ?_;refine A9 (Aq (AA (A3 (A0 rfl (A3 (AE (A4 ⟨by simp,(refuse_w W).mono ?_⟩)))))));rintro d x rfl;refine⟨_,rfl,A5 ?_⟩;refine AT (AA (A3 (A0 rfl (A4 ⟨by simp,(cQ W).mono ?_⟩))));rintro d x rfl;exact⟨_,rfl,rfl⟩
abbrev Pc:=Pl.Pc
abbrev pcD(P:List Pc):List D:=P.map λp=>.im (Bc p)
def FS(P:List Pc)(k:Nat)(b e:Int):List Pc:=match P.getLast? with
 |some p=>if p.1=k/\p.2.2=b then P.dropLast++[(k,p.2.1,e)]else P++[(k,b,e)]
 |none=>P++[(k,b,e)]
def Ry(P:List Pc):P=[]∨∃P' p,P=P'++[p]:=by
 rcases List.eq_nil_or_concat P with h|⟨P',p,h⟩
 .exact .inl h
 .exact .inr ⟨P',p,by rw[h,List.concat_eq_append]⟩
def LS(P:List Pc)(p:Pc)(k:Nat)(b e:Int):FS (P++[p]) k b e=if p.1=k/\p.2.2=b then P++[(k,p.2.1,e)]else P++[p]++[(k,b,e)]:=by
 unfold FS;rw[List.getLast?_concat,List.dropLast_concat]
def OF{i:Nat}{P:List Pc}{hd:Hd}(eh:hd[i]?=some (.lst (pcD P)))(hl:P.length<=100)(k:Nat)(b e:Int):WF DG [.mu i,.im 95,.im (.int b),.im (.int e)] hd λd x=>d=.im .non/\x=hd.set i (.lst (pcD (FS P k b e))):=by
 have tr:D5 hd (.mu i)=some (!(pcD P).isEmpty):=by simp only[D5,eh]
 have sv:B4 hd (.mu i)=some (pcD P):=by simp[B4,Ab,Am,eh]
 unfold DG;refine AX rfl ?_;refine AW (EO (B0 (A0 rfl ⟨_,tr,?_⟩)));have app:∀{Q:Fl->Hd->Prop},Q (.nx [some (.mu i),some (.im 95),some (.im (.int b)),some (.im (.int e))]) (hd.set i (.lst (pcD (P++[(k,b,e)]))))->WS (B5 (mMt BP 81 (A2 (B7 (A2 108 (A2 (A1 2) (A2 (A1 3) A6)))) A6))) [some (.mu i),some (.im 95),some (.im (.int b)),some (.im (.int e))] hd Q:=λ{Q} q=>by
  refine Aq (Dh (A0 rfl ⟨⟨_,by rw[cg,eh]⟩,A3 (B1 (A3 (A0 rfl (A3 (A0 rfl (A3 (A0 rfl (A4 ⟨C1,A4 ?_⟩))))))))⟩));refine F5 eh (Cq 79) ?_;rw[show pcD (P++[(k,b,e)])=pcD P++[AY [.im 95,.im (.int b),.im (.int e)]] by show(P++[_]).map _=_;rw[iL];rfl]at q;exact q
 rcases Ry P with rfl|⟨P',p,rfl⟩
 .rw[gj 75];exact⟨(λh=>by cases h),λ_=>app ⟨rfl,rfl⟩⟩
 .rw[gi 75];rw[LS];have la:atI (pcD (P'++[p])) (-1)=some (.im (Bc p)):=by show atI ((P'++[p]).map _) (-1)=_;rw[iL];exact Gw _ _
  have gl:∀{j:Int} {v:D} {QE:D->Hd->Prop},atI [D.im (.int (p.1:Int)),.im (.int p.2.1),.im (.int p.2.2)] j=some v->QE v hd->WE (mOp gIx (mOp gIx 81 (Do 94)) (mC (.int j))) [some (.mu i),some (.im 95),some (.im (.int b)),some (.im (.int e))] hd QE:=λ{j v QE} ea q=>
   A7 (A7 (A0 rfl (ES (AE ⟨_,rfl,AH (ds:=pcD (P'++[p])) sv la (AE (AH (ds:=[D.im (.int (p.1:Int)),.im (.int p.2.1),.im (.int p.2.2)]) rfl ea q))⟩))))
  refine EO (AK (A7 (gl (Ct _ _) (A0 rfl (CB ⟨_,rfl,?_⟩)))));by_cases h1:p.1=k
  .rw[gi (by simp[h1])];refine AK (A7 (gl (Ep _ _ _ _) (A0 rfl (CB ⟨_,rfl,λh2=>?_,λh2=>?_⟩))))
   .have h2:p.2.2=b:=by simpa using h2
    rw[gi ⟨h1,h2⟩];refine K0 (B1 (A3 (A0 rfl (A3 (gl (DT _ _ _) (A3 (A0 rfl (A4 ⟨C1,A0 rfl (ES (AE ⟨_,rfl,?_⟩))⟩))))))));refine⟨i,-1,P'.length,pcD (P'++[p]),rfl,rfl,eh,?_,?_⟩
    .unfold ixN;rw[gj 77,gi 79]
     congr 1
     simp;omega
    .refine⟨rfl,?_⟩;show hd.set i (.lst (((P'++[p]).map _).set P'.length _))=hd.set i (.lst ((P'++[_]).map _));rw[iL,iL];simp[AY,BK,Bc]
   .have h2:¬ p.2.2=b:=by simpa using h2
    rw[gj (λh=>h2 h.2)];exact app ⟨rfl,rfl⟩
  .rw[gj 79,gj (λh=>h1 h.1)];exact⟨(λh=>by cases h),λ_=>app ⟨rfl,rfl⟩⟩
open PySem L2 Bd S7
theorem Ff(p:Pc)(j:Nat):∀(P:List Pc) (v:Int),Pl.last (P++[p]) j v=if p.1=j then p.2.2 else Pl.last P j v
 |[],v=>by simp[Pl.last]
 |q::r,v=>by rw[cons_append,Pl.last,Ff p j r,Pl.last]
theorem IN(q:Pc)(j:Nat):∀P:List Pc,Pl.dn (P++[q]) j=Pl.dn P j+(if q.1=j then q.2.2-q.2.1 else 0)
 |[]=>by simp[Pl.dn]
 |p::r=>by rw[cons_append,Pl.dn,Pl.dn,IN q j r];omega
structure Pcs(n:Nat)(cm:Nat->Nat)(P:List Pc)(t:Nat):Prop where
 pc:∀p∈P,p.1<n/\(cm p.1:Int)<=p.2.1/\p.2.1<p.2.2/\p.2.2<=(t:Int)
 pw:P.Pairwise λp q=>p.2.2<=q.2.1
def Pcs.add{n:Nat}{cm:Nat->Nat}{P:List Pc}{t b e k:Nat}(h:Pcs n cm P t)(hk:k<n)(hc:cm k<=b)(tb:t<=b)(be:b<e):Pcs n cm (FS P k (b:Int) (e:Int)) e/\(FS P k b e).length<=P.length+1/\(∀j,Pl.dn (FS P k b e) j=Pl.dn P j+if k=j then(e:Int)-b else 0)/\∀j,Pl.E (FS P k b e) j=if k=j then(e:Int)else Pl.E P j:=by
 have plain:Pcs n cm (P++[(k,(b:Int),(e:Int))]) e/\(P++[(k,(b:Int),(e:Int))]).length<=P.length+1/\(∀j,Pl.dn (P++[(k,(b:Int),(e:Int))]) j=Pl.dn P j+if k=j then(e:Int)-b else 0)/\∀j,Pl.E (P++[(k,(b:Int),(e:Int))]) j=if k=j then(e:Int)else Pl.E P j:=by
  refine⟨⟨λp hp=>?_,?_⟩,by simp,λj=>IN _ _ _,λj=>Ff _ _ _ _⟩
  .rcases mem_append.mp hp with q|q
   .have:=h.pc p q;exact⟨this.1,this.2.1,this.2.2.1,by omega⟩
   .rw[i4]at q;subst q;exact⟨hk,by show(cm k:Int)<=(b:Int);omega,by show(b:Int)<(e:Int);omega,by show(e:Int)<=(e:Int);omega⟩
  .rw[pairwise_append];refine⟨h.pw,List.pairwise_singleton _ _,λp hp q hq=>?_⟩;rw[i4]at hq;subst hq;have:=(h.pc p hp).2.2.2;show p.2.2<=(b:Int);omega
 rcases Ry P with rfl|⟨P',p,rfl⟩
 .exact plain
 .rw[LS];by_cases c:p.1=k/\p.2.2=(b:Int)
  .rw[gi c];obtain⟨c1,c2⟩:=c;have hp:=h.pc p 75;refine⟨⟨λx hx=>?_,?_⟩,by simp,λj=>?_,λj=>?_⟩
   .rcases mem_append.mp hx with q|q
    .have:=h.pc x (by simp[q]);exact⟨this.1,this.2.1,this.2.2.1,by omega⟩
    .rw[i4]at q;subst q;rw[c1]at hp;exact⟨hk,hp.2.1,by show p.2.1<(e:Int);omega,by show(e:Int)<=(e:Int);omega⟩
   .have pw:=h.pw;rw[pairwise_append]at pw ⊢;refine⟨pw.1,List.pairwise_singleton _ _,λx hx q hq=>?_⟩;rw[i4]at hq;subst hq;exact pw.2.2 x hx p 75
   .rw[IN,IN,c1];show Pl.dn P' j+(if k=j then(e:Int)-p.2.1 else 0)=_;split<;>omega
   .show Pl.last _ j 0=if k=j then(e:Int)else Pl.last _ j 0;rw[Ff,Ff,c1];show(if k=j then(e:Int)else _)=_;split<;>rfl
  .rw[gj c];exact plain
def Nf{p q:Nat->Bool}:∀{L:List Nat},(∀i∈L,p i=true->q i=true)->L.countP p<=L.countP q:=λh=>List.countP_mono_left h
theorem Nd{p q:Nat->Bool}:∀{L:List Nat},(∀i∈L,p i=true->q i=true)->(∃i∈L,q i=true/\p i=false)->L.countP p<L.countP q
 |[],_,h=>by obtain⟨_,h,_⟩:=h;cases h
 |x::r,h,⟨i,hi,h1,h2⟩=>by
  rw[List.countP_cons,List.countP_cons];rcases mem_cons.mp hi with rfl|hi
  .have:=Nf (p:=p) (q:=q) (L:=r) λj hj=>h j (by simp[hj]);rw[h1,h2];simp;omega
  .have ih:=Nd (p:=p) (q:=q) (L:=r) (λj hj=>h j (by simp[hj])) ⟨i,hi,h1,h2⟩;have hx:=h x 75;by_cases px:p x=true
   .rw[px,hx px];simp;omega
   .have px:p x=false:=by simpa using px
    rw[px];simp;split<;>omega
def mu(n:Nat)(cm lf:Nat->Nat)(t:Nat):Nat:=(71 n).countP (λj=>decide (0<lf j))+(71 n).countP (λj=>decide (0<lf j/\t<cm j))
structure St(n:Nat)(ln cm:Nat->Nat)(lf:Nat->Nat)(P:List Pc)(t:Nat)(G:Nat->Nat->Nat):Prop where
 H:Hist n ln cm G t
 gl:∀j,G t j=lf j
 ps:Pcs n cm P t
 dn:∀j,j<n->Pl.dn P j+(lf j:Int)=(ln j:Int)
 en:∀j,j<n->lf j=0->∀τ,τ<=t->(G τ j=0↔Pl.E P j<=(τ:Int))
structure Tn(n:Nat)(cm lf:Nat->Nat)(t t' k s:Nat):Prop where
 tt:t<=t'
 idle:t<t'->∀j,j<n->0<lf j->t'<=cm j
 kn:k<n
 k0:0<lf k
 kc:cm k<=t'
 km:∀j,j<n->0<lf j->cm j<=t'->lf k<lf j∨lf k=lf j/\k<=j
 s0:t'<s
 s1:s<=t'+lf k
 s2:∀j,j<n->0<lf j->t'<cm j->s<=cm j
 s3:s=t'+lf k∨∃j,j<n/\0<lf j/\t'<cm j/\s=cm j
theorem V5{n:Nat}{ln cm:Nat->Nat}{G:Nat->Nat->Nat}{t:Nat}(H:Hist n ln cm G t)(j:Nat):∀d τ,τ+d<=t->G (τ+d) j<=G τ j
 |0,τ,_=>gm _
 |d+1,τ,h=>by
  have ih:=V5 H j d τ 67;rcases H.st (τ+d) 67 with⟨_,e⟩|⟨k,_,_,_,_,e⟩
  .have:=e j;rw[show τ+(d+1)=τ+d+1 by omega];omega
  .have:=e j;rw[show τ+(d+1)=τ+d+1 by omega,this];split<;>omega
def St.turn{n:Nat}{ln cm lf:Nat->Nat}{P:List Pc}{t:Nat}{G:Nat->Nat->Nat}(S:St n ln cm lf P t G){t' k s:Nat}(X:Tn n cm lf t t' k s):
 (∃G',St n ln cm (λj=>if j=k then lf j-(s-t')else lf j) (FS P k (t':Int) (s:Int)) s G')/\(FS P k (t':Int) (s:Int)).length<=P.length+1/\mu n cm (λj=>if j=k then lf j-(s-t')else lf j) s<mu n cm lf t:=by
 obtain⟨p1,p2,p3,p4⟩:=S.ps.add X.kn X.kc X.tt X.s0;have tt:=X.tt;have s0:=X.s0;have s1:=X.s1;have k0:=X.k0;refine⟨⟨λτ j=>if τ<=t then G τ j else if j=k then lf j-(τ-t')else lf j,?_⟩,p2,?_⟩
 .have gt:∀τ,t<=τ->∀j,(if τ<=t then G τ j else if j=k then lf j-(τ-t')else lf j)=if j=k then lf j-(τ-t')else lf j:=λτ h j=>by
   by_cases q:τ<=t
   .have:τ=t:=by omega
    subst this;rw[gi q,S.gl];split
    .omega
    .rfl
   .rw[gj q]
  have Hn:Hist n ln cm (λτ j=>if τ<=t then G τ j else if j=k then lf j-(τ-t')else lf j) s:=by
   refine⟨λj=>(gi (iB _)).trans (S.H.g0 j),λτ hτ=>?_⟩
   try dsimp only
   by_cases a1:τ<t
   .have e1:∀j,(if τ<=t then G τ j else if j=k then lf j-(τ-t')else lf j)=G τ j:=λj=>gi 67;have e2:∀j,(if τ+1<=t then G (τ+1) j else if j=k then lf j-(τ+1-t')else lf j)=G (τ+1) j:=λj=>gi 67;simp only[e1,e2];exact S.H.st τ a1
   .simp only[gt τ 67,gt (τ+1) 67];by_cases a2:τ<t'
    .refine .inl ⟨λj hj hc=>?_,λj=>by split<;>omega⟩;have z:lf j=0:=by
      refine Classical.byContradiction λh0=>?_;have:=X.idle 67 j hj 67;omega
     split<;>omega
    .refine .inr ⟨k,X.kn,by have:=X.kc;omega,by rw[gi rfl];omega,λj hj hc h0=>?_,λj=>?_⟩
     .rw[gi rfl];by_cases q:j=k
      .subst q;rw[gi rfl];exact .inr ⟨rfl,gm _⟩
      .rw[gj q]at h0 ⊢;have:cm j<=t':=by
        refine Classical.byContradiction λh1=>?_;have:=X.s2 j hj h0 67;omega
       have:=X.km j hj h0 this;omega
     .by_cases q:j=k
      .rw[gi q,gi q,gi q];omega
      .rw[gj q,gj q,gj q]
  refine⟨Hn,λj=>?_,p1,λj hj=>?_,λj hj h0 τ hτ=>?_⟩
  .rw[gt s 67]
  .have h1:=S.dn j hj;have h2:=p3 j;by_cases q:j=k
   .subst q;rw[gi rfl]at h2 ⊢;omega
   .rw[gj (λe=>q e.symm)]at h2;rw[gj q];omega
  .have h2:=p4 j
   try dsimp only
   by_cases q:j=k
   .subst q;rw[gi rfl]at h0 h2;rw[h2];by_cases a1:τ<=t
    .rw[gi a1];have:=V5 S.H j (t-τ) τ 67;rw[show τ+(t-τ)=t by omega,S.gl]at this;constructor
     .intro z;omega
     .intro z;omega
    .rw[gj a1,gi rfl];constructor
     .intro z;omega
     .intro z;omega
   .rw[gj q]at h0;rw[gj (λe=>q e.symm)]at h2;rw[h2];by_cases a1:τ<=t
    .rw[gi a1];exact S.en j hj h0 τ a1
    .rw[gj a1,gj q];have:=(S.en j hj h0 t (gm _)).mp (by rw[S.gl];exact h0);constructor
     .intro _;omega
     .intro _;exact h0
 .unfold mu;dsimp only;have le1:(71 n).countP (λj=>decide (0<if j=k then lf j-(s-t')else lf j))<=(71 n).countP (λj=>decide (0<lf j)):=Nf λi hi h=>by
   simp only[iU]at h ⊢;split at h<;>omega
  have le2:(71 n).countP (λj=>decide ((0<if j=k then lf j-(s-t')else lf j)/\s<cm j))<=(71 n).countP (λj=>decide (0<lf j/\t<cm j)):=Nf λi hi h=>by
   simp only[iU]at h ⊢;refine⟨?_,by omega⟩;have:=h.1;split at this<;>omega
  rcases X.s3 with e|⟨j,jn,j0,jc,e⟩
  .have:(71 n).countP (λj=>decide (0<if j=k then lf j-(s-t')else lf j))<(71 n).countP (λj=>decide (0<lf j)):=by
    refine Nd (λi hi h=>?_) ⟨k,by simpa using X.kn,by simpa using k0,?_⟩
    .simp only[iU]at h ⊢;split at h<;>omega
    .simp only[jF,i3];omega
   omega
  .have:(71 n).countP (λj=>decide ((0<if j=k then lf j-(s-t')else lf j)/\s<cm j))<(71 n).countP (λj=>decide (0<lf j/\t<cm j)):=by
    refine Nd (λi hi h=>?_) ⟨j,by simpa using jn,by simp only[iU];omega,?_⟩
    .simp only[iU]at h ⊢;refine⟨?_,by omega⟩;have:=h.1;split at this<;>omega
    .simp only[jF];omega
   omega
def St.start(n:Nat)(ln cm:Nat->Nat)(h:∀j,j<n->1<=ln j):St n ln cm ln [] 0 λ_ j=>ln j:=by
 refine⟨⟨λj=>rfl,λτ h=>by omega⟩,λj=>rfl,⟨by simp,List.Pairwise.nil⟩,λj hj=>by simp[Pl.dn],λj hj h0=>by have:=h j hj;omega⟩
open S7
def Xm{ns:List Int}(hne:ns≠[]):∃m,DR (intD ns)=some (.im (.int m))/\m∈ns/\∀x∈ns,m<=x:=by
 have e:Al (intD ns)=some ns:=by
  clear hne
  induction ns with
  |nil=>rfl
  |cons n r ih=>simp[intD]at ih ⊢
 obtain⟨m1,m2⟩:=Fb hne;exact⟨E7 ns,by unfold DR;rw[e];simp[hne],m1,m2⟩
def Vj{mo mi me:ME}{f:Int->Int->Int}{ls:Ls}{hd:Hd}{QS:Fl->Hd->Prop}(h:WE mo ls hd λd x=>WE mi ls x λi y=>∃n k ds j v,d=.mu n/\i=.im (.int k)/\y[n]?=some (.lst ds)/\ixN 103 k=some j/\ds[j]?=some (.im (.int v))/\WE me ls y λr z=>∃u ds',r=.im (.int u)/\z[n]?=some (.lst ds')/\ds'.length=103/\QS (.nx ls) (z.set n (.lst (ds'.set j (.im (.int (f v u))))))):WS (GY mo mi me f) ls hd QS:=by
 obtain⟨d,x,e1,i,y,e2,n,k,ds,j,v,rfl,rfl,e3,e4,e5,r,z,e6,u,ds',rfl,e7,e8,q⟩:=h;refine⟨_,_,?_,q⟩;unfold GY;simp only[e1,gw,e2,e3,e4,e5,e6,e7,e8,i3]
def YY{ma mb:ME}{ls:Ls}{hd:Hd}{QA:List D->Hd->Prop}(h:WE ma ls hd λd x=>WE mb ls x λe y=>∃i j xs ys,d=.mu i/\e=.mu j/\y[i]?=some (.lst xs)/\y[j]?=some (.lst ys)/\CH (96+ys.length)/\QA (xs++ys) y):WA (Ix ma mb) ls hd QA:=by
 obtain⟨d,x,e1,e,y,e2,i,j,xs,ys,rfl,rfl,e3,e4,c,q⟩:=h;exact⟨_,_,by simp[Ix,e1,e2,e3,e4,c],q⟩
def lnN(ws:List Wk)(k:Nat):Nat:=(((ws[k]?).map Wk.len).getD 0).toNat
def cmN(ws:List Wk)(k:Nat):Nat:=(((ws[k]?).map Wk.com).getD 0).toNat
def D8{w:Int}{ws:List Wk}(W:EW w ws){k:Nat}(hk:k<68):(ws[k].len)=(lnN ws k:Int)/\1<=lnN ws k/\lnN ws k<=20:=by
 have:=(W.ea _ (List.getElem_mem hk)).1;simp only[lnN,List.getElem?_eq_getElem hk,i8,getD_some];omega
def FQ{w:Int}{ws:List Wk}(W:EW w ws){k:Nat}(hk:k<68):(ws[k].com)=(cmN ws k:Int)/\cmN ws k<=60:=by
 have:=(W.ea _ (List.getElem_mem hk)).2.1;simp only[cmN,List.getElem?_eq_getElem hk,i8,getD_some];omega
abbrev C5(n:Nat)(f:Nat->Nat):List D:=(71 n).map λk=>D.im (.int (f k:Int))
def row_at{n:Nat}{f:Nat->Nat}{k:Nat}(hk:k<n):atI (C5 n f) (k:Int)=some (.im (.int (f k:Int))):=Eo rfl (by simp[hk])
def W8{n:Nat}{f:Nat->Nat}{k v:Nat}(hk:k<n):(C5 n f).set k (.im (.int (v:Int)))=C5 n λj=>if j=k then v else f j:=by
 refine jh λi=>?_;by_cases hi:i<n
 .rw[List.getElem?_set];by_cases q:k=i
  .subst q;simp[hi]
  .rw[gj q];have q':¬ i=k:=λz=>q z.symm;simp[hi,q']
 .rw[List.getElem?_eq_none 79,List.getElem?_eq_none 79]
def KZ(p:Nat->Prop)[DecidablePred p](g:Nat->Nat)(L:List Nat):(L.filterMap λk=>if p k then some (D.im (.int (g k:Int)))else none)=((L.filter λk=>decide (p k)).map g).map λk:Nat=>D.im 95:=by
 induction L with
 |nil=>rfl
 |cons x r ih=>
  rw[iZ,ic];by_cases h:p x
  .rw[gi h,i9 h,gi rfl,ih];rfl
  .rw[gj h,i6 h,gj 75,ih]
def Ua(L:List Nat):(L.map λk:Nat=>D.im 95)=intD (L.map λk:Nat=>(k:Int)):=by simp[intD]
def On{L:List Nat}(h:L≠[]):∃m:Nat,DR (L.map λk:Nat=>D.im 95)=some (.im (.int (m:Int)))/\m∈L/\∀x∈L,m<=x:=by
 obtain⟨m,e,h1,h2⟩:=Xm (ns:=L.map λk:Nat=>(k:Int)) (by simpa using h);rw[<- Ua]at e;obtain⟨k,hk,rfl⟩:=mem_map.mp h1;exact⟨k,e,hk,λx hx=>by have:=h2 (x:Int) (mem_map.mpr ⟨x,hx,rfl⟩);omega⟩
abbrev Lr(ws:List Wk)(t:Nat)(z6 z7 z8:Option D):Ls:=[some (.im (Ac ws)),some (.mu 0),some (.fv 0 []),some (.mu 1),some (.mu 2),some (.im (.int (t:Int))),z6,z7,z8]
abbrev Hr(ws:List Wk)(lf:Nat->Nat)(P:List Pc)(g:Hd):Hd:=.lst (C5 68 (cmN ws))::.lst (C5 68 lf)::.lst (pcD P)::g
inductive I_r(ws:List Wk)(m:Nat)(ls:Ls)(hd:Hd):Prop
 |mk (lf:Nat->Nat) (P:List Pc) (t:Nat) (G:Nat->Nat->Nat) (g:Hd) (z6 z7 z8:Option D) (em:m=mu 68 (cmN ws) lf t) (el:ls=Lr ws t z6 z7 z8) (eh:hd=Hr ws lf P g) (S:St 68 (lnN ws) (cmN ws) lf P t G) (pl:P.length+m<=16):I_r ws m ls hd
def ck{ws:List Wk}{lf:Nat->Nat}{P:List Pc}{g:Hd}{k:Nat}(hk:k<68):(B7 (A2 (Dq 108 (A2 81 (A2 (mOp gIx (A1 2) 81) A6))) (A2 81 A6))) [some (.im 95),some (.fv 0 []),some (.mu 1)] (Hr ws lf P g)=some (.im (.tup [.int (lf k:Int),.int (k:Int)]),Hr ws lf P g):=by
 have w:WE (B7 (A2 (Dq 108 (A2 81 (A2 (mOp gIx (A1 2) 81) A6))) (A2 81 A6))) [some (.im 95),some (.fv 0 []),some (.mu 1)] (Hr ws lf P g) λd x=>d=.im (.tup [.int (lf k:Int),.int (k:Int)])/\x=Hr ws lf P g:=by
  refine B1 (A3 (T2 (A0 rfl ⟨rfl,A3 (A0 rfl (A3 (A7 (A0 rfl (A0 rfl (AH (ds:=C5 68 lf) rfl (row_at hk) (A4 ⟨_,_,rfl,A3 (A0 rfl (A4 ⟨DB,rfl,rfl⟩))⟩)))))))⟩)))
 obtain⟨d,x,e,rfl,rfl⟩:=w;exact e
def hnG{a b c:MO}{g:Hd}{x:MO}:(a::b::c::(g++[x]))[(a::b::c::g).length]?=some x:=by simp
def lvG{a b c:MO}{g:Hd}{ds:List D}:Am (a::b::c::(g++[.lst ds])) (.mu (a::b::c::g).length)=some ds:=by simp[Am]
abbrev Bt(L:List Nat):List D:=L.map λk:Nat=>D.im 95
def kfL(lf:Nat->Nat):D->Int×Int
 |.im (.int k)=>((lf k.toNat:Int),k)
 |_=>(0,0)
abbrev cV:MS:=(AB (AI 6 (B8 (Ae 1 [3] (Ee (A2 (mCB (f1 true BH) (A2 81 A6)) A6)) (AG 0) (AJ (mOp gGt (mOp gIx 108 81) 107)) 81)))
 (AB (AI 5 (mCB Gp (A2 (A1 5) (A2 (B3 DR (Ae 1 [1] (Bw (A1 6)) (AG 0) BE (mOp gIx 108 81))) A6))))
 (AB (AI 7 (FG (B8 (Ae 1 [1,5] (Bw (A1 6)) (AG 0) (AJ (mOp gLe (mOp gIx 108 81) (A1 2))) 81)) [2,3] (B7 (A2 (Dq 108 (A2 81 (A2 (mOp gIx (A1 2) 81) A6))) (A2 81 A6)))))
 (AB (AI 8 (B3 DR (Ix (B8 (Cf (A2 (mOp Ai (A1 5) (mOp gIx (A1 3) (A1 7))) A6))) (B8 (Ae 1 [1,5] (Bw (A1 6)) (AG 0) (AJ (mOp gGt (mOp gIx 108 81) (A1 2))) (mOp gIx 108 81))))))
 (AB (B5 (D7 DG (A2 (A1 4) (A2 (A1 7) (A2 (A1 5) (A2 (A1 8) A6))))))
 (AB (GY (A1 3) (A1 7) (mOp BJ (A1 8) (A1 5)) (λi j=>i-j))
 (AI 5 (A1 8))))))))
set_option maxHeartbeats 2000000 in
def Yd{w:Int}{ws:List Wk}(W:EW w ws){lf:Nat->Nat}{P:List Pc}{t:Nat}{G:Nat->Nat->Nat}{g:Hd}{z6 z7 z8:Option D}(S:St 68 (lnN ws) (cmN ws) lf P t G)(pl:P.length<=16)(some1:∃j,j<68/\0<lf j){Q:Fl->Hd->Prop}
 (hQ:∀t' k s g z6 z7 z8,Tn 68 (cmN ws) lf t t' k s->Q (.nx (Lr ws s z6 z7 z8)) (Hr ws (λj=>if j=k then lf j-(s-t')else lf j) (FS P k (t':Int) (s:Int)) g)):WS cV (Lr ws t z6 z7 z8) (Hr ws lf P g) Q:=by
 have n8:=W.n8;obtain⟨j0,j0n,j00⟩:=some1
 -- undone
 refine A9 (AF (BC (Ad (HK (A3 (BI (A3 (A0 rfl (A4 (Bf (ds:=(ws.map Bg).map D.im) (z:=.im (.int (ws.length:Int))) rfl (by simp[BH]) (A4 ⟨_,rfl,E3 67 67,?_⟩)))))))))));rw[ik,GT];refine⟨AS 79,?_⟩;refine Ar (xs:=71 68) (λk:Nat=>D.im 95) (λk=>if 0<lf k then some (.im (.int ((id k:Nat):Int)))else none) (λ_ ls=>∃x,ls=[some x,some (.mu 1)]) _ (AQ _) ?_ ?_
 .rintro k hk ls hls;have hk:k<ws.length:=by simpa using hk
  refine⟨[some (.im 95),some (.mu 1)],by rcases hls with rfl|⟨_,x,rfl⟩<;>rfl,⟨_,rfl⟩,?_⟩;refine AK (A7 (A7 (A0 rfl (A0 rfl (AH (ds:=C5 68 lf) rfl (row_at hk) (AE (Es ⟨_,rfl,rfl,?_⟩)))))));by_cases h:0<lf k
  .rw[gi (by simpa using h),gi h];exact⟨_,rfl,A0 rfl ⟨rfl,rfl⟩⟩
  .rw[gj (by simpa using h),gj h]
 rw[KZ (λk=>0<lf k) id,map_id];refine A5 ?_;have hU:∀k,k∈(71 68).filter (λk=>decide (0<lf k))↔k<68/\0<lf k:=λk=>by simp
 have lU:((71 68).filter λk=>decide (0<lf k)).length<=8:=by
  have:((71 68).filter λk=>decide (0<lf k)).length<=(71 68).length:=List.length_filter_le _ _;simp at this;omega
 generalize (71 68).filter (λk=>decide (0<lf k))=U at hU lU;have jU:j0∈U:=(hU j0).mpr ⟨j0n,j00⟩;have neU:U≠[]:=λh=>by rw[h]at jU;cases jU
 change WS _ (Lr ws t (some (.mu (Hr ws lf P g).length)) z7 z8) (Hr ws lf P (g++[.lst (Bt U)])) _
 -- t
 obtain⟨m,em,m1,m2⟩:=On (L:=U.map (cmN ws)) (by simpa using neU);refine A9 (AF (BI (A3 (A0 rfl (A3 (B2 (Ad (Dg (A0 rfl ⟨_,Bt U,rfl,hnG,AS 79,?_⟩)))))))));refine Ar (xs:=U) (λk:Nat=>D.im 95) (λk=>some (.im (.int (cmN ws k:Int)))) (λ_ ls=>∃x,ls=[some x,some (.mu 0)]) _ (by intro p hp;rw[i4]at hp;subst hp;exact hnG) ?_ ?_
 .rintro k hk ls hls;refine⟨[some (.im 95),some (.mu 0)],by rcases hls with rfl|⟨_,x,rfl⟩<;>rfl,⟨_,rfl⟩,Az ⟨rfl,?_⟩⟩;rw[gi rfl];exact⟨_,rfl,A7 (A0 rfl (A0 rfl (AH (ds:=C5 68 (cmN ws)) rfl (row_at ((hU k).mp hk).1) ⟨rfl,rfl⟩)))⟩
 have e1:(U.filterMap λk=>some (D.im (.int (cmN ws k:Int))))=(U.map (cmN ws)).map λk:Nat=>D.im 95:=by simp
 rw[e1];refine⟨_,em,A4 (K1 (A5 ?_))⟩;obtain⟨t',ht'⟩:∃t',t'=max t m:=⟨_,rfl⟩
 rw[show max (t:Int) (m:Int)=(t':Int) by omega];have mU:∃j,j<68/\0<lf j/\cmN ws j=m:=by
  obtain⟨j,hj,e⟩:=mem_map.mp m1;exact⟨j,((hU j).mp hj).1,((hU j).mp hj).2,e⟩
 have mle:∀j,j<68->0<lf j->m<=cmN ws j:=λj h1 h2=>m2 _ (mem_map.mpr ⟨j,(hU j).mpr ⟨h1,h2⟩,rfl⟩);generalize ea6:(Hr ws lf P g).length=a6;have ea6:a6=3+g.length:=by rw[<- ea6];simp;omega
 change WS _ (Lr ws t' (some (.mu a6)) z7 z8) _ _;have h6:∀(lf':Nat->Nat) (P':List Pc) (g':Hd),(Hr ws lf' P' (g++.lst (Bt U)::g'))[a6]?=some (.lst (Bt U)):=λlf' P' g'=>by rw[ea6,show 3+g.length=g.length+3 by omega];simp
 -- the work
 refine A9 (AF (T5 (BC (Ad (Dg (A0 rfl ⟨_,Bt U,rfl,h6 lf P [],AS 79,?_⟩))))));refine Ar (xs:=U) (λk:Nat=>D.im 95) (λk=>if cmN ws k<=t' then some (.im (.int ((id k:Nat):Int)))else none) (λ_ ls=>∃x,ls=[some x,some (.mu 0),some (.im (.int (t':Int)))]) _ (by intro p hp;rw[i4]at hp;subst hp;exact h6 lf P []) ?_ ?_
 .rintro k hk ls hls;refine⟨[some (.im 95),some (.mu 0),some (.im (.int (t':Int)))],by rcases hls with rfl|⟨_,x,rfl⟩<;>rfl,⟨_,rfl⟩,?_⟩;refine AK (A7 (A7 (A0 rfl (A0 rfl (AH (ds:=C5 68 (cmN ws)) rfl (row_at ((hU k).mp hk).1) (A0 rfl (JK ⟨_,rfl,rfl,?_⟩)))))));by_cases h:cmN ws k<=t'
  .rw[gi (by simpa using h),gi h];exact⟨_,rfl,A0 rfl ⟨rfl,rfl⟩⟩
  .rw[gj (by simpa using h),gj h]
 rw[KZ (λk=>cmN ws k<=t') id,map_id];have hV:∀k,k∈U.filter (λk=>decide (cmN ws k<=t'))↔(k<68/\0<lf k)/\cmN ws k<=t':=λk=>by rw[mem_filter,hU];simp
 have neV:U.filter (λk=>decide (cmN ws k<=t'))≠[]:=λh=>by
  obtain⟨j,h1,h2,h3⟩:=mU;have:=(hV j).mpr ⟨⟨h1,h2⟩,by omega⟩;rw[h]at this;cases this
 generalize U.filter (λk=>decide (cmN ws k<=t'))=V at hV neV;cases V with
 |nil=>exact absurd rfl neV
 |cons v0 vs=>
 obtain⟨g2,eg2⟩:∃g2,g2=g++[.lst (Bt U)]:=⟨_,rfl⟩
 rw[<- eg2];have h6':∀(lf':Nat->Nat) (P':List Pc) (g':Hd),(Hr ws lf' P' (g2++g'))[a6]?=some (.lst (Bt U)):=λlf' P' g'=>by rw[eg2,j9];exact h6 lf' P' g'
 refine⟨D.im (.int (v0:Int)),Bt vs,kfL lf,lvG,λy hy=>?_,?_⟩
 .have hy:y∈Bt (v0::vs):=hy;obtain⟨k,hk,rfl⟩:=mem_map.mp hy;have:=ck (ws:=ws) (lf:=lf) (P:=P) (g:=g2++[.lst (Bt (v0::vs))]) ((hV k).mp hk).1.1;simp only[kfL,ik];exact this
 have bm:=IB (kfL lf) (Bt vs) (D.im (.int (v0:Int)));generalize Cs (Bt vs) ((Bt vs).map (kfL lf)) (D.im (.int (v0:Int))) (kfL lf (D.im (.int (v0:Int))))=db at bm ⊢;obtain⟨b1,b2⟩:=bm;obtain⟨k,hk,rfl⟩:=mem_map.mp (show db∈Bt (v0::vs)from b1);have km:∀j∈v0::vs,lf k<lf j∨lf k=lf j/\k<=j:=λj hj=>by
  have:=b2 (D.im (.int (j:Int))) (show _∈Bt (v0::vs)from mem_map.mpr ⟨j,hj,rfl⟩);unfold leP ltZ at this;have:=of_decide_eq_false this;simp only[kfL,ik]at this;omega
 obtain⟨⟨kn,k0⟩,kc⟩:=(hV k).mp hk;refine A5 ?_;change WS _ (Lr ws t' (some (.mu a6)) (some (.im 95)) z8) (Hr ws lf P (g2++[.lst (Bt (v0::vs))])) _;generalize Bt (v0::vs)=vD;obtain⟨g3,eg3⟩:∃g3,g3=g2++[.lst vD]:=⟨_,rfl⟩
 rw[<- eg3];have h6a:∀(lf':Nat->Nat) (P':List Pc) (g':Hd),(Hr ws lf' P' (g3++g'))[a6]?=some (.lst (Bt U)):=λlf' P' g'=>by rw[eg3,j9];exact h6' lf' P' _
 -- the stop
 refine A9 (AF (B2 (YY (BC (CC (A3 (A7 (A0 rfl (A7 (A0 rfl (A0 rfl (AH (ds:=C5 68 lf) rfl (row_at kn) (BA (A4 ⟨FI,?_⟩))))))))))))));refine BC (Ad (Dg (A0 rfl ⟨_,Bt U,rfl,h6a lf P _,AS 79,?_⟩)));refine Ar (xs:=U) (λk:Nat=>D.im 95) (λk=>if t'<cmN ws k then some (.im (.int (cmN ws k:Int)))else none) (λ_ ls=>∃x,ls=[some x,some (.mu 0),some (.im (.int (t':Int)))]) _ (by intro p hp;rw[i4]at hp;subst hp;exact h6a lf P _) ?_ ?_
 .rintro j hj ls hls;refine⟨[some (.im (.int (j:Int))),some (.mu 0),some (.im (.int (t':Int)))],by rcases hls with rfl|⟨_,x,rfl⟩<;>rfl,⟨_,rfl⟩,?_⟩;refine AK (A7 (A7 (A0 rfl (A0 rfl (AH (ds:=C5 68 (cmN ws)) rfl (row_at ((hU j).mp hj).1) (A0 rfl (Es ⟨_,rfl,rfl,?_⟩)))))));by_cases h:t'<cmN ws j
  .rw[gi (by simpa using h),gi h];exact⟨_,rfl,A7 (A0 rfl (A0 rfl (AH (ds:=C5 68 (cmN ws)) rfl (row_at ((hU j).mp hj).1) ⟨rfl,rfl⟩)))⟩
  .rw[gj (by simpa using h),gj h]
 rw[KZ (λk=>t'<cmN ws k) (cmN ws)];have hB:∀x,x∈(U.filter λk=>decide (t'<cmN ws k)).map (cmN ws)↔∃j,j<68/\0<lf j/\t'<cmN ws j/\cmN ws j=x:=λx=>by
  rw[mem_map];constructor
  .rintro⟨j,hj,e⟩;obtain⟨h1,h2⟩:=mem_filter.mp hj;exact⟨j,((hU j).mp h1).1,((hU j).mp h1).2,by simpa using h2,e⟩
  .rintro⟨j,h1,h2,h3,e⟩;exact⟨j,mem_filter.mpr ⟨(hU j).mpr ⟨h1,h2⟩,by simpa using h3⟩,e⟩
 have lB:((U.filter λk=>decide (t'<cmN ws k)).map (cmN ws)).length<=8:=by
  rw[hX];exact ia (List.length_filter_le _ _) lU
 generalize (U.filter λk=>decide (t'<cmN ws k)).map (cmN ws)=B at hB lB;obtain⟨s,es,s1,s2⟩:=On (L:=(t'+lf k)::B) 75;refine⟨_,_,[.im (.int ((t':Int)+(lf k:Int)))],Bt B,rfl,rfl,(by rw[List.getElem?_append_left 75];simp),75,AS 79,?_⟩;have ecat:[D.im (.int ((t':Int)+(lf k:Int)))]++Bt B=((t'+lf k)::B).map λk:Nat=>D.im 95:=by simp
 rw[ecat];refine⟨_,es,A5 ?_⟩;have X:Tn 68 (cmN ws) lf t t' k s:=by
  refine⟨by omega,λh j h1 h2=>by have:=mle j h1 h2;omega,kn,k0,kc,λj h1 h2 h3=>km j ((hV j).mpr ⟨⟨h1,h2⟩,h3⟩),?_,s2 _ 75,λj h1 h2 h3=>s2 _ (gp _ ((hB _).mpr ⟨j,h1,h2,h3,rfl⟩)),?_⟩
  .rcases mem_cons.mp s1 with e|e
   .omega
   .obtain⟨j,_,_,h3,e⟩:=(hB s).mp e;omega
  .rcases mem_cons.mp s1 with e|e
   .exact .inl e
   .obtain⟨j,h1,h2,h3,e⟩:=(hB s).mp e;exact .inr ⟨j,h1,h2,h3,e.symm⟩
 obtain⟨g4,eg4⟩:∃g4,g4=g3++[MO.lst [.im (.int ((t':Int)+(lf k:Int)))],.lst (Bt B)]:=⟨_,rfl⟩
 have eh:(Hr ws lf P g3++[MO.lst [.im (.int ((t':Int)+(lf k:Int)))]])++[MO.lst (Bt B)]=Hr ws lf P g4:=by rw[eg4];simp
 rw[eh];clear eh eg4;change WS _ (Lr ws t' (some (.mu a6)) (some (.im 95)) (some (.im (.int (s:Int))))) (Hr ws lf P g4) _;refine A9 (Aq (F6 (A3 (A0 rfl (A3 (A0 rfl (A3 (A0 rfl (A3 (A0 rfl (A4 ((OF (P:=P) (i:=2) rfl 67 k (t':Int) (s:Int)).mono ?_))))))))))));rintro d x ⟨rfl,rfl⟩;refine A5 ?_;change WS _ _ (Hr ws lf (FS P k (t':Int) (s:Int)) g4) _;have ss:=X.s0;have s9:=X.s1;refine A9 (Vj (A0 rfl (A0 rfl ⟨1,(k:Int),C5 68 lf,k,(lf k:Int),rfl,rfl,rfl,?_,?_,A7 (A0 rfl (A0 rfl (BL ⟨_,C5 68 lf,rfl,rfl,rfl,A5 (AF (A0 rfl ?_))⟩)))⟩)))
 .unfold ixN;rw[gi 67,gi 79];simp
 .simp[kn]
 .have e9:(lf k:Int)-((s:Int)-(t':Int))=((lf k-(s-t'):Nat):Int):=by omega
  rw[e9,W8 kn];have e8:C5 68 (λj=>if j=k then lf k-(s-t')else lf j)=C5 68 (λj=>if j=k then lf j-(s-t')else lf j):=by
   refine ji λj _=>?_;dsimp only;by_cases q:j=k
   .subst q;rfl
   .rw[gj q,gj q]
  rw[e8];exact hQ t' k s g4 _ _ _ X
structure Lp(ws:List Wk)(P:List Pc):Prop where
 ex:∃lf t G,St 68 (lnN ws) (cmN ws) lf P t G/\∀j,j<68->lf j=0
 le:P.length<=16
def cT(n:Nat)(cm lf:Nat->Nat)(t:Nat):mu n cm lf t<=2*n:=by
 unfold mu;have h1:=List.countP_le_length (p:=λj=>decide (0<lf j)) (l:=71 n);have h2:=List.countP_le_length (p:=λj=>decide (0<lf j/\t<cm j)) (l:=71 n);simp only[List.length_range]at h1 h2;omega
def YN(n:Nat)(lf:Nat->Nat):Jm (C5 n lf)=some (.im (.bl (decide (∃j,j<n/\0<lf j)))):=by
 have e:C5 n lf=((71 n).map λk=>(lf k:Int)).map λi=>D.im 106:=by simp
 unfold Jm;rw[e,Db,i8]
 congr 3
 rw[Bool.eq_iff_iff];simp only[List.any_map,List.any_eq_true,List.mem_range,iU,Function.comp,bne_iff_ne];constructor
 .rintro⟨j,h1,h2⟩;exact⟨j,h1,by omega⟩
 .rintro⟨j,h1,h2⟩;exact⟨j,h1,by omega⟩
def Tu{w:Int}{ws:List Wk}(W:EW w ws):WF DN [.im (Ac ws),.mu 0,.fv 0 []] [.lst (C5 68 (cmN ws))] λd _=>∃P,d=.im (.tup (P.map Bc))/\Lp ws P:=by
 have n8:=W.n8;unfold DN;refine AX rfl ?_;refine A9 (AF (BC 98));rw[ER];refine⟨AS 79,?_⟩;refine Ar wkD (λz=>some (.im (.int z.len))) (λ_ ls=>∃x,ls=[some x]) _ (AQ _) ?_ ?_
 .rintro z hz ls hls;refine⟨[some (wkD z)],by rcases hls with rfl|⟨_,x,rfl⟩<;>rfl,⟨_,rfl⟩,Az ⟨rfl,?_⟩⟩;rw[gi rfl];exact⟨_,rfl,A7 (A0 rfl (AE (AH rfl (Ct _ _) ⟨rfl,rfl⟩)))⟩
 have e0:(ws.filterMap λz=>some (D.im (.int z.len)))=C5 68 (lnN ws):=by
  refine jh λi=>?_;by_cases hi:i<68
  .have:=(D8 W hi).1;simp[hi,this]
  .rw[List.getElem?_eq_none 79,List.getElem?_eq_none 79]
 rw[e0];refine A5 (A9 (AF (BC (CC (A4 ⟨DC,A5 ?_⟩)))));refine A9 (AF (AE (A5 ?_)));change WS _ (Lr ws 0 none none none) (Hr ws (lnN ws) [] []) _;have m0:=cT 68 (cmN ws) (lnN ws) 0;refine A9 (Sz (I_r ws) (n:=mu 68 (cmN ws) (lnN ws) 0) ⟨_,_,_,_,_,_,_,_,rfl,rfl,rfl,St.start _ _ _ λj hj=>(D8 W hj).2.1,by simp;omega⟩ ?_);rintro m ls hd ⟨lf,P,t,G,g,z6,z7,z8,em,rfl,rfl,S,pl⟩;refine B0 (BI (A3 (A0 rfl (A4 (Bf (ds:=C5 68 lf) rfl (YN 68 lf) ⟨_,rfl,?_⟩)))));by_cases h:∃j,j<68/\0<lf j
 .rw[gi (by simpa using h)];refine Yd W S 67 h λt' k s g z6 z7 z8 X=>?_;obtain⟨⟨G',S'⟩,l',m'⟩:=S.turn X;exact⟨_,by rw[em];exact m',_,_,_,G',g,_,_,_,rfl,rfl,rfl,S',by omega⟩
 .rw[gj (by simpa using h)];refine A5 (AT (BI (A3 (A0 rfl (A4 (Bf (ds:=pcD P) (z:=.im (.tup (P.map Bc))) rfl ?_ ?_))))))
  .show some (AY (pcD P))=_;rw[show pcD P=(P.map Bc).map D.im by simp,Ax]
  .exact⟨P,rfl,⟨lf,t,G,S,λj hj=>by
    refine Classical.byContradiction λq=>h ⟨j,hj,by omega⟩⟩,by omega⟩
def ah{w:Int}{ws:List Wk}(W:EW w ws):WF CI [.im (Ac ws)] [] λd _=>∃P,d=.im (.tup (P.map Bc))/\Lp ws P:=by
 have n8:=W.n8;unfold CI;refine AX rfl ?_;refine A9 (Aq (AA (A3 (A0 rfl (A4 ⟨by simp,(Hv W).mono ?_⟩)))));rintro d x rfl;refine⟨_,rfl,A5 ?_⟩;refine AT (F6 (A3 (A0 rfl (A3 (BC 98)))));rw[ER];refine⟨AS 79,?_⟩;refine Ar wkD (λz=>some (.im (.int z.com))) (λ_ ls=>∃x,ls=[some x]) _ (AQ _) ?_ ?_
 .rintro z hz ls hls;refine⟨[some (wkD z)],by rcases hls with rfl|⟨_,x,rfl⟩<;>rfl,⟨_,rfl⟩,Az ⟨rfl,?_⟩⟩;rw[gi rfl];exact⟨_,rfl,A7 (A0 rfl (AE (AH rfl (DT _ _ _) ⟨rfl,rfl⟩)))⟩
 have e0:(ws.filterMap λz=>some (D.im (.int z.com)))=C5 68 (cmN ws):=by
  refine jh λi=>?_;by_cases hi:i<68
  .have:=(FQ W hi).1;simp[hi,this]
  .rw[List.getElem?_eq_none 79,List.getElem?_eq_none 79]
 rw[e0];exact A3 (Vo (A4 ((Tu W).mono λd x h=>h)))
end T52
namespace T52.Tb
open PySem L2 Bd
structure Wm where
 len:Int
 com:Int
 due:Int
 wt:Int
def wmI(w:Wm):I:=.tup [.int w.len,.int w.com,.tup [.str "miss",.int w.due,.int w.wt]]
abbrev wmD(w:Wm):D:=.im (wmI w)
abbrev wmsI(ws:List Wm):I:=.tup (ws.map wmI)
def CD(ws:List Wm):(ws.map wmI).map D.im=ws.map wmD:=by rw[i5];rfl
def okM(B c:Int)(w:Wm):Prop:=(1<=w.len/\w.len<=20)/\w.com=c/\(-B<=w.due/\w.due<=B)/\0<=w.wt/\w.wt<=9
def okMs(B c:Int)(ws:List Wm):Prop:=ws≠[]/\68<=8/\(0<=c/\c<=60)/\∀w∈ws,okM B c w
def Fh(ns:List Int):Al (intD ns)=some ns:=by
 induction ns with
 |nil=>rfl
 |cons n r ih=>simp[intD]at ih ⊢
def FT{ws:List Wm}{k:Nat}(hk:k<68):atI (ws.map wmD) (k:Int)=some (wmD ws[k]):=Eo rfl (by simp[hk])
def V1{B c:Int}{ws:List Wm}(ok:okMs B c ws):WF Dw [.im (wmsI ws)] [] λd x=>d=.im (.int c):=by
 obtain⟨hne,hl8,hc,hws⟩:=ok;have hl0:0<ws.length:=DX hne;unfold Dw;refine AX rfl ?_;refine A9 (AF (AA (A3 (A0 rfl (A4 ⟨by simp,?_⟩)))));have e0:(ws[0]).com=c:=(hws _ (List.getElem_mem hl0)).2.1;have S:WF DM [.im (wmsI ws)] [] λd x=>d=.im (.int c):=by
  unfold DM;refine AX rfl ?_;refine A9 (AF (A7 (A7 (A0 rfl (AE (AH (by rw[ET,CD]) (FT (k:=0) hl0) ?_))))));refine AE (AH (ds:=[.im (.int (ws[0]).len),.im (.int (ws[0]).com),.im (.tup [.str "miss",.int (ws[0]).due,.int (ws[0]).wt])]) rfl (DT _ _ _) (A5 ?_));rw[e0];refine A9 (AW (B0 (B2 98)));rw[CD];refine⟨AS 79,?_⟩;refine Ar wmD (λ_=>some (.im (.bl true))) (λ_ ls=>∃x,ls=[some x,some (.im (.int c))]) _ (AQ _) ?_ ?_
  .rintro p hp ls hls;refine⟨[some (wmD p),some (.im (.int c))],by rcases hls with rfl|⟨_,x,rfl⟩<;>rfl,⟨_,rfl⟩,Az ⟨rfl,?_⟩⟩;rw[gi rfl];refine⟨_,rfl,A7 (A7 (A0 rfl (AE (AH (ds:=[.im (.int p.len),.im (.int p.com),.im (.tup [.str "miss",.int p.due,.int p.wt])]) rfl (DT _ _ _) (A0 rfl (CB ⟨rfl,?_⟩))))))⟩;simp[(hws p hp).2.1]
  have e:(ws.filterMap λ_=>some (D.im (.bl true)))=blD (ws.map λ_=>true):=by simp[blD]
  rw[e];refine⟨_,by rw[J0,EA];rfl,_,rfl,?_⟩;refine⟨λ_=>?_,(λh=>by simp at h)⟩;exact AT (A0 rfl rfl)
 refine S.mono ?_;rintro d x rfl;refine⟨_,rfl,A5 ?_⟩;refine A9 (AW (AK ?_));refine WP.eq (z:=.im (.bl false)) (h:=[]) (by simp[Bh]) ⟨_,rfl,(λh=>by cases h),λ_=>AO (A5 ?_)⟩;exact AT (A0 rfl rfl)
def refuse_w{B c:Int}{ws:List Wm}(ok:okMs B c ws):WF Av [.im (wmsI ws),.im (.str "miss")] [] λd x=>d=.im .non:=by
 have hl8:=ok.2.1;unfold Av;refine AX rfl ?_;refine AW (B0 (B2 98));rw[CD];refine⟨AS 79,?_⟩;refine Ar wmD (λ_=>some (.im (.bl false))) (λ_ ls=>∃x,ls=[some x,some (.im (.str "miss"))]) _ (AQ _) ?_ ?_
 .rintro p hp ls hls;refine⟨[some (wmD p),some (.im (.str "miss"))],by rcases hls with rfl|⟨_,x,rfl⟩<;>rfl,⟨_,rfl⟩,Az ⟨rfl,?_⟩⟩;rw[gi rfl];refine⟨_,rfl,A7 (A7 (A7 (A0 rfl (AE (AH (ds:=[.im (.int p.len),.im (.int p.com),.im (.tup [.str "miss",.int p.due,.int p.wt])]) rfl (Ep _ _ _ _) (AE (AH (ds:=[.im (.str "miss"),.im (.int p.due),.im (.int p.wt)]) rfl (Ct _ _) (A0 rfl (JI ⟨rfl,?_⟩)))))))))⟩;simp
 have e:(ws.filterMap λ_=>some (D.im (.bl false)))=blD (ws.map λ_=>false):=by simp[blD]
 rw[e];refine⟨_,by rw[Gg,EA];rfl,_,rfl,?_⟩;exact⟨(λh=>by simp at h),λ_=>AO rfl⟩
def Jj{B c:Int}{ws:List Wm}(ok:okMs B c ws):WF Ba [.im (wmsI ws)] [] λd x=>d=.im (.int c):=by
 unfold Ba;refine AX rfl ?_;refine A9 (AF (AA (A3 (A0 rfl (A4 ⟨by simp,(V1 ok).mono ?_⟩)))));rintro d x rfl;refine⟨_,rfl,A5 ?_⟩;refine A9 (Aq (AA (A3 (A0 rfl (A3 (AE (A4 ⟨by simp,(refuse_w ok).mono ?_⟩)))))));rintro d x rfl;exact⟨_,rfl,A5 (AT (A0 rfl rfl))⟩
def weight_w(p:Wm):WF Bk [wmD p] [] λd x=>d=.im (.int p.wt):=by
 unfold Bk;refine AX rfl ?_;refine AT (A7 (A7 (A0 rfl (AE (AH (ds:=[.im (.int p.len),.im (.int p.com),.im (.tup [.str "miss",.int p.due,.int p.wt])]) rfl (Ep _ _ _ _) ?_)))));refine ES (AE ⟨_,rfl,?_⟩);refine AH (ds:=[.im (.str "miss"),.im (.int p.due),.im (.int p.wt)]) (e:=.im (.int p.wt)) rfl ?_ rfl;rfl
abbrev fullW(ws:List Wm):Int:=(ws.map Wm.wt).sum
def NW{B c:Int}{ws:List Wm}(ok:okMs B c ws):WF CA [.im (wmsI ws)] [] λd x=>d=.im (.int (fullW ws)):=by
 have hl8:=ok.2.1;unfold CA;refine AX rfl ?_;refine AT (B2 98);rw[CD];refine⟨AS 79,?_⟩;refine Ar wmD (λw=>some (.im (.int w.wt))) (λ_ ls=>∃x,ls=[some x]) _ (AQ _) ?_ ?_
 .rintro p hp ls hls;refine⟨[some (wmD p)],by rcases hls with rfl|⟨_,x,rfl⟩<;>rfl,⟨_,rfl⟩,Az ⟨rfl,?_⟩⟩;rw[gi rfl];refine⟨_,rfl,AA (A3 (A0 rfl (A4 ⟨by simp[wmI],(weight_w p).mono ?_⟩)))⟩;rintro d y rfl;exact⟨_,rfl,rfl,rfl⟩
 have e:(ws.filterMap λw=>some (D.im (.int w.wt)))=intD (ws.map Wm.wt):=by simp[intD]
 rw[e];exact⟨_,by unfold Gf;rw[Fh];rfl,rfl⟩
def dueOf(ws:List Wm)(k:Nat):Int:=(ws[k]?.map Wm.due).getD 0
def duePs(ws:List Wm):List (Int×Int):=(71 68).map λk:Nat=>(dueOf ws k,(k:Int))
def ordI(ws:List Wm):List Int:=(CO (duePs ws)).map (·.2)
def Js{ws:List Wm}{k:Nat}(hk:k<68):(ws[k]).due=dueOf ws k:=by simp[dueOf,hk]
def due_ok{B c:Int}{ws:List Wm}(ok:okMs B c ws)(hB:B<=2000){k:Nat}(hk:k<68):pok (dueOf ws k,(k:Int)):=by
 have:=(ok.2.2.2 _ (List.getElem_mem hk)).2.2.1;rw[Js hk]at this;have:=ok.2.1;unfold pok;dsimp only;omega
def Rk{p q:Int×Int}(hp:pok p)(hq:pok q)(h:Ag p=Ag q):p=q:=by
 unfold pok at hp hq;unfold Ag at h;have:p.1=q.1:=by omega
 have:p.2=q.2:=by omega
 exact Prod.ext (by assumption) (by assumption)
def Rs{B c:Int}{ws:List Wm}(ok:okMs B c ws)(hB:B<=2000){ms:List Int}(pm:ms.Perm ((71 68).map λk:Nat=>(k:Int)))(pw:ms.Pairwise λa b=>Ag (dueOf ws a.toNat,a)<=Ag (dueOf ws b.toNat,b)):ms=ordI ws:=by
 have p1:(ms.map λn:Int=>(dueOf ws n.toNat,n)).Perm (duePs ws):=by
  have:=pm.map λn:Int=>(dueOf ws n.toNat,n)
  rw[i5]at this;exact this
 have p2:(CO (duePs ws)).Perm (duePs ws):=jg ..;have w2:(CO (duePs ws)).Pairwise λa b=>Ag a<=Ag b:=by
  have:=jq (le:=λa b:Int×Int=>decide (Ag a<=Ag b)) (by intro a b c h1 h2;simp at *;omega) (by intro a b;simp;omega) (duePs ws);exact this.imp 75
 have w1:(ms.map λn:Int=>(dueOf ws n.toNat,n)).Pairwise λa b=>Ag a<=Ag b:=pairwise_map.mpr pw;have okd:∀a∈duePs ws,pok a:=λa ha=>by
  obtain⟨k,hk,rfl⟩:=mem_map.mp ha;exact due_ok ok hB (by simpa using hk)
 have e:(ms.map λn:Int=>(dueOf ws n.toNat,n))=CO (duePs ws):=(p1.trans p2.symm).eq_of_pairwise (le:=λa b=>Ag a<=Ag b) (λa b ha hb h1 h2=>Rk (okd a (p1.mem_iff.mp ha)) (okd b (p2.mem_iff.mp hb)) (le_antisymm h1 h2)) w1 w2;unfold ordI;rw[<- e,i5];have:((λx:Int×Int=>x.2) ∘ λn:Int=>(dueOf ws n.toNat,n))=id:=rfl;rw[this,map_id]
def Hz{B c:Int}{ws:List Wm}(ok:okMs B c ws)(hB:B<=2000):WF De [.im (wmsI ws)] [] λd x=>d=.mu 0/\x=[.lst (intD (ordI ws))]:=by
 have hl8:=ok.2.1;unfold De;refine AX rfl ?_;refine AT (BC (Qr (A3 (BI (A3 (A0 rfl (A4 (Bf rfl rfl (A4 ⟨68,by simp,by omega,λn=>(dueOf ws n.toNat,n),λk hk=>due_ok ok hB hk,λa ha b hb e=>?_,λk hk=>?_,λms pm pw=>?_⟩)))))))))
 .have:=Rk (p:=(dueOf ws ((a:Int)).toNat,(a:Int))) (q:=(dueOf ws ((b:Int)).toNat,(b:Int))) (due_ok ok hB ha) (due_ok ok hB hb) e;have:=iw Prod.snd this;dsimp only at this;omega
 .have w:WE (B7 (A2 (mOp gIx (mOp gIx (mOp gIx 108 81) (mC (.int 2))) 94) (A2 81 A6))) [some (.im 95),some (.im (wmsI ws))] [] λd x=>d=CQ (dueOf ws k,(k:Int))/\x=[]:=by
   refine B1 (A3 (A7 (A7 (A7 (A0 rfl (A0 rfl (AH (by rw[ET,CD]) (FT hk) (AE (AH (ds:=[.im (.int (ws[k]).len),.im (.int (ws[k]).com),.im (.tup [.str "miss",.int (ws[k]).due,.int (ws[k]).wt])]) rfl (Ep _ _ _ _) (AE (AH (ds:=[.im (.str "miss"),.im (.int (ws[k]).due),.im (.int (ws[k]).wt)]) rfl (DT _ _ _) (A3 (A0 rfl (A4 ⟨DB,?_,rfl⟩))))))))))))));rw[Js hk];rfl
  obtain⟨d,x,e,rfl,rfl⟩:=w;exact e
 .rw[Rs ok hB pm pw];exact⟨rfl,rfl⟩
end T52.Tb
namespace Lt
def IsMin(E:List Int)(o:Option Int):Prop:=(o=none/\E=[])∨∃m,o=some m/\m∈E/\∀e∈E,m<=e
def IsMin.uniq{E:List Int}{o o':Option Int}(h:IsMin E o)(h':IsMin E o'):o=o':=by
 rcases h with⟨rfl,rfl⟩|⟨m,rfl,hm,hl⟩
 .rcases h' with⟨rfl,_⟩|⟨m,rfl,hm,_⟩
  .rfl
  .cases hm
 .rcases h' with⟨rfl,rfl⟩|⟨m',rfl,hm',hl'⟩
  .cases hm
  .have:=hl m' hm';have:=hl' m hm;have:m=m':=by omega
   rw[this]
def L8:IsMin [] none:=.inl ⟨rfl,rfl⟩
def gc(o:Option Int)(e:Int):Option Int:=match o with|none=>some e|some x=>if e<x then some e else some x
def comb(kept more:Option Int):Option Int:=match more with|none=>kept|some y=>match kept with|some x=>if x<=y then some x else some y|none=>some y
theorem IsMin.comb{A B:List Int}{o o':Option Int}(h:IsMin A o)(h':IsMin B o'):IsMin (A++B) (comb o o'):=by
 rcases h' with⟨rfl,rfl⟩|⟨y,rfl,hy,ly⟩
 .rw[iF];exact h
 .rcases h with⟨rfl,rfl⟩|⟨x,rfl,hx,lx⟩
  .exact .inr ⟨y,rfl,by simpa using hy,by simpa using ly⟩
  .unfold Lt.comb;dsimp only;split
   .exact .inr ⟨x,rfl,by simp[hx],λe he=>by rcases mem_append.mp he with q|q;exact lx e q;have:=ly e q;omega⟩
   .exact .inr ⟨y,rfl,by simp[hy],λe he=>by rcases mem_append.mp he with q|q;have:=lx e q;omega;exact ly e q⟩
def behind(l d:Int)(o:Option Int):Option Int:=match o with|none=>none|some x=>if x+l<=d then some (x+l)else none
theorem IsMin.behind{A:List Int}{o:Option Int}(l d:Int)(h:IsMin A o):IsMin ((A.map (·+l)).filter λe=>decide (e<=d)) (behind l d o):=by
 rcases h with⟨rfl,rfl⟩|⟨x,rfl,hx,lx⟩
 .exact L8
 .unfold Lt.behind;dsimp only;split
  .next q=>
   refine .inr ⟨x+l,rfl,mem_filter.mpr ⟨mem_map.mpr ⟨x,hx,rfl⟩,by simpa using q⟩,λe he=>?_⟩;obtain⟨z,hz,rfl⟩:=mem_map.mp (mem_filter.mp he).1;have:=lx z hz;omega
  .next q=>
   refine .inl ⟨rfl,List.filter_eq_nil_iff.mpr λe he=>?_⟩;obtain⟨z,hz,rfl⟩:=mem_map.mp he;have:=lx z hz;simp;omega
abbrev En:=Nat×Nat×Int
abbrev Wx:=Int×Int×Nat
def more(i:Nat)(w:Wx)(E:List En):List En:=(E.filter λe=>decide (e.2.2+w.1<=w.2.1)).map λe=>(i+1,e.2.1+w.2.2,e.2.2+w.1)
def AM(c:Int):List Wx->Nat->List En
 |_,0=>[(0,0,c)]
 |L,i+1=>AM c L i++(match L[i]? with|some w=>more i w (AM c L i)|none=>[])
def sel(w:Nat)(E:List En):List Int:=(E.filter λe=>decide (e.2.1=w)).map λe=>e.2.2
def OS(w:Nat)(E F:List En):sel w (E++F)=sel w E++sel w F:=by simp[sel]
def TZ(i:Nat)(x:Wx)(w:Nat)(E:List En):sel w (more i x E)=if w<x.2.2 then []else((sel (w-x.2.2) E).map (·+x.1)).filter λe=>decide (e<=x.2.1):=by
 induction E with
 |nil=>simp[more,sel]
 |cons e r ih=>
  have em:more i x (e::r)=(if e.2.2+x.1<=x.2.1 then [(i+1,e.2.1+x.2.2,e.2.2+x.1)]else [])++more i x r:=by
   unfold more;rw[ic];by_cases q:e.2.2+x.1<=x.2.1<;>simp[q]
  rw[em,OS,ih];by_cases hw:w<x.2.2
  .rw[gi hw,gi hw,iF];by_cases q:e.2.2+x.1<=x.2.1
   .have:¬ e.2.1+x.2.2=w:=by omega
    simp[q,sel,this]
   .simp[q,sel]
  .rw[gj hw,gj hw];have ec:sel (w-x.2.2) (e::r)=(if e.2.1=w-x.2.2 then [e.2.2]else [])++sel (w-x.2.2) r:=by
    unfold sel;rw[ic];by_cases q:e.2.1=w-x.2.2<;>simp[q]
   rw[ec,iL,filter_append]
   congr 1
   by_cases q1:e.2.2+x.1<=x.2.1
   .by_cases q2:e.2.1=w-x.2.2
    .have e3:w-x.2.2+x.2.2=w:=Nat.sub_add_cancel (Nat.le_of_not_lt hw);simp[q1,q2,sel,e3]
    .have:¬ e.2.1+x.2.2=w:=by omega
     simp[q1,q2,sel,this]
   .by_cases q2:e.2.1=w-x.2.2<;>simp[q1,q2,sel]
def Ap(x:Wx)(f:Nat->Option Int)(w:Nat):Option Int:=comb (f w) (if w<x.2.2 then none else behind x.1 x.2.1 (f (w-x.2.2)))
def next_min{c:Int}{L:List Wx}{i:Nat}{x:Wx}(hx:L[i]?=some x){f:Nat->Option Int}{w:Nat}(h:IsMin (sel w (AM c L i)) (f w))(h':¬ w<x.2.2->IsMin (sel (w-x.2.2) (AM c L i)) (f (w-x.2.2))):IsMin (sel w (AM c L (i+1))) (Ap x f w):=by
 have e:AM c L (i+1)=AM c L i++more i x (AM c L i):=by rw[AM,hx]
 rw[e,OS,TZ];unfold Ap;refine h.comb ?_;by_cases q:w<x.2.2
 .rw[gi q,gi q];exact L8
 .rw[gj q,gj q];exact(h' q).behind _ _
end Lt
namespace T52.Tb
open PySem L2 Bd
abbrev enD(q:D×Nat):D:=AY [.im (.int (q.2:Int)),q.1]
open Lt (IsMin comb behind Ap sel AM Wx)
def OI{is js:List I}{hd:Hd}{QE:D->Hd->Prop}(h0:is≠[])(h1:is.length+js.length<=100)(q:QE (.im (.tup (is++js))) hd):WP (Ai (.im (.tup is)) (.im (.tup js)) hd) QE:=by
 have cat:Vf (is.map D.im) (js.map D.im):=⟨by simpa using h0,AS 79⟩
 refine WP.eq (z:=.im (.tup (is++js))) (h:=hd) ?_ q;show(match KS (.im (.tup is)) (.im (.tup js)) hd with|some z=>some z|none=>Gm (.im (.tup is)) (.im (.tup js)) hd)=_;rw[show KS (.im (.tup is)) (.im (.tup js)) hd=none from rfl];unfold Gm;rw[show Ab (.im (.tup is))=some (is.map D.im)from rfl,show Ab (.im (.tup js))=some (js.map D.im)from rfl,gw,gw,gi cat,<- iL,Ax]
def T3{w:Nat}{F:List D->Hd->Option 104}{m:MA}{ls:Ls}{hd pre rest:Hd}{ds:List D}{QE:D->Hd->Prop}(e:m ls hd=some (ds,pre++rest))(hw:pre.length=w)(hc:Ao w ds=true)(hp:pre.all (clO w)=true)
 (hF:WF F ds pre λd x=>∃k es pre' g,d=.mu k/\w<=k/\x=pre'++g/\pre'.length=w/\pre'.all (clO w)=true/\x[k]?=some (.lst es)/\Ao w es=true/\QE (.mu (w+rest.length)) (pre'++rest++[.lst es])):WE (A8 w F m) ls hd QE:=by
 subst hw;obtain⟨d,x,e2,k,es,pre',g,rfl,hk,rfl,lp,cp,e3,c3,q⟩:=hF;refine⟨_,_,?_,q⟩;have t1:(pre++rest).take pre.length=pre:=by simp
 have t2:(pre'++g).take pre.length=pre':=by rw[<- lp];simp
 have t3:¬ k<pre.length:=by omega
 simp only[A8,e,gw,t1,hc,hp,e2,fin,t2,cp,gj t3,e3,c3,i3];simp
def HL{w:Nat}{F:List D->Hd->Option 104}{m:MA}{ls:Ls}{hd:Hd}{QE:D->Hd->Prop}(h:WA m ls hd λds x=>∃pre rest,x=pre++rest/\pre.length=w/\Ao w ds=true/\pre.all (clO w)=true/\WF F ds pre λd x=>∃k es pre' g,d=.mu k/\w<=k/\x=pre'++g/\pre'.length=w/\pre'.all (clO w)=true/\x[k]?=some (.lst es)/\Ao w es=true/\QE (.mu (w+rest.length)) (pre'++rest++[.lst es])):WE (A8 w F m) ls hd QE:=by
 obtain⟨ds,x,e,pre,rest,rfl,hw,hc,hp,hF⟩:=h;exact T3 e hw hc hp hF
def D6:Option Int->I|none=>.non|some x=>.int x
abbrev Aw(o:Option Int):D:=.im (D6 o)
def we_isN{neg:Bool}{ma:ME}{ls:Ls}{hd:Hd}{QE:D->Hd->Prop}(h:WE ma ls hd λd x=>∃o:Option Int,d=Aw o/\QE (.im (.bl (if o.isNone then !neg else neg))) x):WE (Bh neg ma) ls hd QE:=by
 obtain⟨d,x,e,o,rfl,q⟩:=h;refine⟨_,x,?_,q⟩;simp only[Bh,e,gw];cases o<;>rfl
def rowI(N:Nat)(f:Nat->Option Int):I:=.tup ((71 N).map λw=>D6 (f w))
def row_at{N:Nat}{f:Nat->Option Int}{w:Nat}(hw:w<N):atI (((71 N).map λw=>D6 (f w)).map D.im) (w:Int)=some (Aw (f w)):=Eo rfl (by simp[hw])
def wx(p:Wm):Wx:=(p.len,p.due,p.wt.toNat)
def VR{B c:Int}{p:Wm}(ok:okM B c p){N:Nat}(f:Nat->Option Int){w:Nat}(hw:w<N):WF Cu [.im (rowI N f),wmD p,.im (.int (w:Int))] [] λd x=>d=Aw (if w<(wx p).2.2 then none else behind (wx p).1 (wx p).2.1 (f (w-(wx p).2.2))):=by
 have h0:=ok.2.2.2;unfold Cu;refine AX rfl ?_;refine A9 (Qo (A0 rfl ⟨[some (.im (rowI N f)),some (wmD p),some (.im (.int (w:Int))),some (.im (.int p.len)),some (.im (.int p.com)),some (.im (.str "miss")),some (.im (.int p.due)),some (.im (.int p.wt)),none],rfl,A5 ?_⟩));refine A9 (AW (EC (AK (A7 (A0 rfl (A0 rfl (PB ⟨_,rfl,?_⟩)))))));by_cases q:w<(wx p).2.2
 .have q':(w:Int)<p.wt:=by unfold wx at q;dsimp only at q;omega
  rw[gi (by simpa using q'),gi q];exact⟨λ_=>AT (AE rfl),λh=>by cases h⟩
 .have q':¬ (w:Int)<p.wt:=by unfold wx at q;dsimp only at q;omega
  rw[gj (by simpa using q'),gj q];have ek:(w:Int)-p.wt=((w-(wx p).2.2:Nat):Int):=by unfold wx at q ⊢;dsimp only at q ⊢;omega
  have hk:w-(wx p).2.2<N:=by omega
  refine AK (we_isN (A7 (A0 rfl (A7 (A0 rfl (A0 rfl (BL ?_)))))));rw[ek];refine AH rfl (row_at hk) ⟨_,rfl,_,rfl,λh=>?_,λh=>AO (A5 ?_)⟩
  .have e:f (w-(wx p).2.2)=none:=by
    cases e:f (w-(wx p).2.2)with
    |none=>rfl
    |some x=>rw[e]at h;simp at h
   refine AT (AE ?_);rw[e];rfl
  .obtain⟨x,e⟩:∃x,f (w-(wx p).2.2)=some x:=by
    cases e:f (w-(wx p).2.2)with
    |none=>rw[e]at h;simp at h
    |some x=>exact⟨x,rfl⟩
   refine A9 (AF (A7 (A7 (A0 rfl (A7 (A0 rfl (A0 rfl (BL ?_))))))));rw[ek];refine AH rfl (row_at hk) ?_;rw[e];refine A0 rfl (BA (A5 (AT (Qq (AK (A7 (A0 rfl (A0 rfl (JK ⟨_,rfl,λh=>?_,λh=>?_⟩)))))))))
   .have h:x+p.len<=p.due:=by simpa using h
    refine A0 rfl ?_;unfold behind wx;dsimp only;rw[gi h];rfl
   .have h:¬ x+p.len<=p.due:=by simpa using h
    refine AE ?_;unfold behind wx;dsimp only;rw[gj h];rfl
def nm(one other:Option Int):Bool:=match other with|none=>true|some y=>match one with|some x=>decide (x<=y)|none=>false
def YK(a b:Option Int):comb a b=if nm a b=true then a else b:=by
 cases b with
 |none=>simp[comb,nm]
 |some y=>
  cases a with
  |none=>simp[comb,nm]
  |some x=>simp[comb,nm]
def FZ(a b:Option Int):WF Cv [Aw a,Aw b] [] λd x=>d=.im (.bl (nm a b)):=by
 unfold Cv;refine AX rfl ?_;refine AT (YW (AK (we_isN (A0 rfl ⟨b,rfl,_,rfl,?_⟩))));cases b with
 |none=>rfl
 |some y=>
  rw[gj 75];refine F0 (AK (we_isN (A0 rfl ⟨a,rfl,_,rfl,?_⟩)));cases a with
  |none=>rfl
  |some x=>
   rw[gi 75];exact A7 (A0 rfl (A0 rfl (JK rfl)))
inductive I_next_row_w(p:Wm)(N:Nat)(f:Nat->Option Int)(r:List D)(ls:Ls)(hd:Hd):Prop
 |mk (j:Nat) (z3 z4 z5:Option D) (h0:j<=N) (h1:r=(((List.range' j (N-j)).map λw=>Aw (f w)).zipIdx j).map enD) (h2:ls=[some (.im (rowI N f)),some (wmD p),some (.mu 0),z3,z4,z5]) (h3:hd=[.lst ((71 j).map λw=>Aw (Ap (wx p) f w))]):I_next_row_w p N f r ls hd
def Q8{B c:Int}{p:Wm}(ok:okM B c p){N:Nat}(hN:N<=100)(f:Nat->Option Int):WF Ez [.im (rowI N f),wmD p] [] λd x=>d=.im (rowI N (Ap (wx p) f)):=by
 unfold Ez;refine AX rfl ?_;refine A9 (AF (BC (CC (A4 ⟨DC,A5 ?_⟩))));refine A9 (Bn (E1 (BG (A0 rfl ⟨((71 N).map λw=>D6 (f w)).map D.im,rfl,?_⟩))));change WP (BD _ _ _ (((((71 N).map λw=>D6 (f w)).map D.im).zipIdx 0).map enD) [some (.im (rowI N f)),some (wmD p),some (.mu 0),none,none,none] [.lst []]) _;have e0:((71 N).map λw=>D6 (f w)).map D.im=(List.range' 0 (N-0)).map λw=>Aw (f w):=by rw[i5,List.range_eq_range',Nat.sub_zero];rfl
 rw[e0];refine Bo (I_next_row_w p N f) ⟨0,none,none,none,by omega,rfl,rfl,rfl⟩ ?_ ?_
 .rintro d r ls hd ⟨j,z3,z4,z5,hj,er,rfl,rfl⟩;obtain⟨m,hm⟩:∃m,N-j=m+1:=by
   cases q:N-j with
   |zero=>rw[q]at er;cases er
   |succ m=>exact⟨m,rfl⟩
  rw[hm,List.range'_succ,gq,ja,gq]at er;obtain⟨rfl,rfl⟩:=List.cons.inj er;refine⟨[some (.im (rowI N f)),some (wmD p),some (.mu 0),some (.im (.int (j:Int))),some (Aw (f j)),z5],rfl,?_⟩;refine A9 (AF (AA (A3 (A0 rfl (A3 (A0 rfl (A3 (A0 rfl (A4 ⟨by simp[wmI,rowI],(VR ok f 67).mono ?_⟩)))))))));rintro d x rfl;refine⟨_,rfl,A5 ?_⟩;refine Aq (Dh (A0 rfl ⟨⟨_,rfl⟩,A3 (VB (B0 (AA (A3 (A0 rfl (A3 (A0 rfl (A4 ⟨by simp,(FZ _ _).mono ?_⟩))))))))⟩));rintro d x rfl;refine⟨_,rfl,_,rfl,?_⟩;have fin:∀o:Option Int,o=Ap (wx p) f j->WA A6 [some (.im (rowI N f)),some (wmD p),some (.mu 0),some (.im (.int (j:Int))),some (Aw (f j)),some (Aw (if j<(wx p).2.2 then none else behind (wx p).1 (wx p).2.1 (f (j-(wx p).2.2))))] [.lst ((71 j).map λw=>Aw (Ap (wx p) f w))] λds y=>WP (BP (.mu 0) (Aw o::ds) y) λ_ x=>GOk x []/\I_next_row_w p N f ((((List.range' (j+1) m).map λw=>Aw (f w)).zipIdx (j+1)).map enD) [some (D.im (rowI N f)),some (wmD p),some (.mu 0),some (.im (.int (j:Int))),some (Aw (f j)),some (Aw (if j<(wx p).2.2 then none else behind (wx p).1 (wx p).2.1 (f (j-(wx p).2.2))))] x:=by
   rintro o rfl;refine A4 (F5 rfl (Cq 79) ⟨AQ _,j+1,_,_,_,by omega,by rw[show N-(j+1)=m by omega],rfl,?_⟩);rw[range_succ];simp
  have ec:Ap (wx p) f j=if nm (f j) (if j<(wx p).2.2 then none else behind (wx p).1 (wx p).2.1 (f (j-(wx p).2.2)))=true then f j else(if j<(wx p).2.2 then none else behind (wx p).1 (wx p).2.1 (f (j-(wx p).2.2))):=by
   unfold Ap;rw[YK]
  by_cases q:nm (f j) (if j<(wx p).2.2 then none else behind (wx p).1 (wx p).2.1 (f (j-(wx p).2.2)))=true
  .rw[gi q]at ec ⊢;exact A0 rfl (fin _ ec.symm)
  .rw[gj q]at ec ⊢;exact A0 rfl (fin _ ec.symm)
 .rintro ls hd ⟨j,z3,z4,z5,hj,er,rfl,rfl⟩;have:j=N:=by
   cases q:N-j with
   |zero=>omega
   |succ m=>rw[q]at er;cases er
  subst this;refine A5 (AT (BI (A3 (A0 rfl (A4 (Bf rfl rfl ?_))))));have e2:((71 j).map λw=>Aw (Ap (wx p) f w))=((71 j).map λw=>D6 (Ap (wx p) f w)).map D.im:=by rw[i5];rfl
  rw[e2,Ax];rfl
end T52.Tb
namespace T52.Tb
open PySem L2 Bd
open Lt (IsMin comb behind Ap sel AM Wx)
def tabI(n N:Nat)(f:Nat->Nat->Option Int):I:=.tup ((71 (n+1)).map λk=>rowI N (f k))
def wxs(ws:List Wm):List Wx:=(ordI ws).map λi=>(ws[i.toNat]?.map wx).getD (0,0,0)
def ord_perm(ws:List Wm):(ordI ws).Perm ((71 68).map λk:Nat=>(k:Int)):=by
 have p2:(CO (duePs ws)).Perm (duePs ws):=jg ..;have:=p2.map (·.2);unfold ordI;refine this.trans ?_;unfold duePs;rw[i5];exact .refl _
def ord_mem{ws:List Wm}{i:Int}(h:i∈ordI ws):∃k:Nat,k<68/\i=k:=by
 obtain⟨k,hk,rfl⟩:=mem_map.mp ((ord_perm ws).mem_iff.mp h);exact⟨k,by simpa using hk,rfl⟩
def ord_len(ws:List Wm):(ordI ws).length=ws.length:=by simpa using (ord_perm ws).length_eq
def fT(c:Int)(L:List Wx):Nat->Nat->Option Int
 |0,w=>if w=0 then some c else none
 |k+1,w=>match L[k]? with|some x=>Ap x (fT c L k) w|none=>none
theorem fT_min(c:Int)(L:List Wx):∀k,k<=L.length->∀w,IsMin (sel w (AM c L k)) (fT c L k w)
 |0,_,w=>by
  unfold fT AM sel;by_cases h:w=0
  .subst h;exact .inr ⟨c,by simp,by simp,by simp⟩
  .have:¬ (0=w):=λz=>h z.symm;simp only[gj h];exact .inl ⟨rfl,by simp[this]⟩
 |k+1,hk,w=>by
  have hx:L[k]?=some L[k]:=by simp[Nat.lt_of_succ_le hk]
  have ih:=fT_min c L k 67;have e:fT c L (k+1) w=Ap L[k] (fT c L k) w:=by rw[fT,hx]
  rw[e];exact Lt.next_min hx (ih w) λ_=>ih _
def dO(c:Int)(m:Nat)(L:List Wx):[I.int c]++(102 m [I.non]).flatten=(71 (m+1)).map λw=>D6 (fT c L 0 w):=by
 have e1:(102 m [I.non]).flatten=102 m I.non:=by
  induction m with
  |zero=>rfl
  |succ m ih=>rw[iQ,jf,ih,iQ];rfl
 rw[e1];refine ext_getElem 75 λi h1 h2=>?_;simp only[List.getElem_map,List.getElem_range];cases i with
 |zero=>rfl
 |succ i=>
  simp[fT,D6]
def KW{B c:Int}{ws:List Wm}(ok:okMs B c ws):0<=fullW ws/\fullW ws<=72:=by
 have:∀vs:List Wm,(∀w∈vs,okM B c w)->0<=fullW vs/\fullW vs<=9*vs.length:=by
  intro vs
  induction vs with
  |nil=>intro _;simp[fullW]
  |cons v r ih=>
   intro h;have:=ih λw hw=>h w (by simp[hw]);have:=(h v 75).2.2.2;simp only[fullW,gq,hJ,iH]at *;omega
 have:=this ws ok.2.2.2;have:=ok.2.1;omega
inductive I_table_of_w(c:Int)(ws:List Wm)(r:List D)(ls:Ls)(hd:Hd):Prop
 |mk (dn rest:List Int) (z3:Option D) (h0:ordI ws=dn++rest) (h1:r=intD rest) (h2:ls=[some (.im (wmsI ws)),some (.im (.int c)),some (.mu 0),z3]) (h3:hd=[.lst ((List.range (dn.length+1)).map λk=>D.im (rowI ((fullW ws).toNat+1) (fT c (wxs ws) k))),.lst (intD (ordI ws))]):I_table_of_w c ws r ls hd
def table_of_w{B c:Int}{ws:List Wm}(ok:okMs B c ws)(hB:B<=2000):WF Bj [.im (wmsI ws)] [] λd x=>d=.im (tabI 68 ((fullW ws).toNat+1) (fT c (wxs ws))):=by
 have hl8:=ok.2.1;have hf:=KW ok;unfold Bj;refine AX rfl ?_;refine A9 (AF (AA (A3 (A0 rfl (A4 ⟨by simp,(Jj ok).mono ?_⟩)))));rintro d x rfl;refine⟨_,rfl,A5 ?_⟩;refine A9 (AF (BC (CC (A3 (A7 (B1 (A3 (A0 rfl (A4 ⟨FI,?_⟩)))))))));refine Vm (B1 (A3 (AE (A4 ⟨FI,AA (A3 (A0 rfl (A4 ⟨by simp,(NW ok).mono ?_⟩)))⟩))));rintro d x rfl;refine⟨_,rfl,[.non],fullW ws,rfl,rfl,by simp,by omega,by simp;omega,?_⟩;rw[Ol];refine OI 75 79 ?_;rw[dO c _ (wxs ws)];refine A4 ⟨FI,A5 ?_⟩;change WS _ [some (.im (wmsI ws)),some (.im (.int c)),some (.mu 0),none] [.lst [.im (rowI ((fullW ws).toNat+1) (fT c (wxs ws) 0))]] _;refine A9 (Bn (Dg (HL (A3 (A0 rfl (A4 ⟨[],[.lst [.im (rowI ((fullW ws).toNat+1) (fT c (wxs ws) 0))]],rfl,rfl,by simp,rfl,(Hz ok hB).mono ?_⟩))))));rintro d x ⟨rfl,rfl⟩;refine⟨0,_,[],_,rfl,gm _,rfl,rfl,rfl,rfl,Dd _ _,1,intD (ordI ws),rfl,rfl,?_⟩;refine Bo (I_table_of_w c ws) ⟨[],ordI ws,none,rfl,rfl,rfl,rfl⟩ ?_ ?_
 .rintro d r ls hd ⟨dn,rest,z3,e1,er,rfl,rfl⟩;cases rest with
  |nil=>cases er
  |cons i rest=>
   obtain⟨rfl,rfl⟩:=List.cons.inj er;obtain⟨k,hk,rfl⟩:=ord_mem (ws:=ws) (i:=i) (by rw[e1];simp);have hle:dn.length<ws.length:=by have:=ord_len ws;rw[e1]at this;simp at this;omega
   have ex:(wxs ws)[dn.length]?=some (wx ws[k]):=by
    unfold wxs;rw[e1,List.getElem?_map,List.getElem?_append_right (gm _)];simp[hk]
   refine⟨[some (.im (wmsI ws)),some (.im (.int c)),some (.mu 0),some (.im 95)],rfl,?_⟩;refine Aq (Dh (A0 rfl ⟨⟨_,rfl⟩,A3 (AA (A3 (A7 (A0 rfl (ES (AE ⟨_,rfl,AH rfl (e:=.im (rowI ((fullW ws).toNat+1) (fT c (wxs ws) dn.length))) ?_ (A3 (A7 (A0 rfl (A0 rfl (AH (by rw[ET,CD]) (FT hk) (A4 ⟨by simp[wmI,rowI],(Q8 (ok.2.2.2 _ (List.getElem_mem hk)) 67 _).mono ?_⟩))))))⟩))))))⟩))
   .rw[range_succ,iL];exact Gw _ _
   rintro d x rfl;refine⟨_,rfl,A4 (F5 rfl (Cq 79) ?_)⟩;refine⟨by intro q hq;rw[i4]at hq;subst hq;rfl,dn++[(k:Int)],rest,_,by rw[e1];simp,rfl,rfl,?_⟩;have e2:Ap (wx ws[k]) (fT c (wxs ws) dn.length)=fT c (wxs ws) (dn.length+1):=by
    funext w
    rw[fT,ex]
   rw[e2];simp only[iM,iH,length_nil,Nat.zero_add];rw[range_succ (n:=dn.length+1),iL];rfl
 .rintro ls hd ⟨dn,rest,z3,e1,er,rfl,rfl⟩;have:rest=[]:=by cases rest with
   |nil=>rfl
   |cons t r=>cases er
  subst this;rw[iF]at e1;have hle:dn.length=ws.length:=by rw[<- e1];exact ord_len ws
  refine A5 (AT (BI (A3 (A0 rfl (A4 (Bf rfl rfl ?_))))));have e2:((71 (dn.length+1)).map λk=>D.im (rowI ((fullW ws).toNat+1) (fT c (wxs ws) k)))=((71 (dn.length+1)).map λk=>rowI ((fullW ws).toNat+1) (fT c (wxs ws) k)).map D.im:=by rw[i5];rfl
  rw[e2,Ax,hle];rfl
def number_w(x:Int):WF DF [.im (.int x)] [] λd _=>d=.im (.bl true):=by
 unfold DF;refine AX rfl ?_;refine AT (F0 (AK (Di (A0 rfl ⟨true,rfl,_,rfl,?_⟩))));rw[gi rfl];exact OJ (AK (Di (A0 rfl ⟨false,rfl,_,rfl,rfl⟩)))
def tuple_w{n:Int}{is:List I}(h:(is.length:Int)=n):WF Bb [.im (.int n),.im (.tup is)] [] λd _=>d=.im (.bl true):=by
 unfold Bb;refine AX rfl ?_;refine AT (F0 (AK (Di (A0 rfl ⟨true,rfl,_,rfl,?_⟩))));rw[gi rfl];refine A7 (BI (A3 (A0 rfl (A4 (Bf rfl rfl (A0 rfl (CB ?_)))))));simp[h]
inductive I_shape_w(pt:List I)(ws:List Wm)(n N:Nat)(f:Nat->Nat->Option Int)(r:List D)(ls:Ls)(hd:Hd):Prop
 |mk (dn rest:List Nat) (z4 z5 z6 z7:Option D) (h0:List.range (n+1)=dn++rest) (h1:r=((rest.map λk=>D.im (rowI N (f k))).zipIdx dn.length).map enD) (h2:ls=[some (.im (wmsI ws)),some (.im (tabI n N f)),some (.im (.tup pt)),some (.im (.int (N:Int))),z4,z5,z6,z7]) (h3:hd=[]):I_shape_w pt ws n N f r ls hd
def shape_w{pt:List I}{B c:Int}{ws:List Wm}(ok:okMs B c ws){n N:Nat}(hn:n=68)(hN:(N:Int)=fullW ws+1)(f:Nat->Nat->Option Int):WF CF [.im (wmsI ws),.im (tabI n N f),.im (.tup pt)] [] λd x=>d=.im .non:=by
 unfold CF;refine AX rfl ?_;refine A9 (AW (Bm (B0 (AA (A3 (A7 (BI (A3 (A0 rfl (A4 (Bf rfl rfl (AE (BA (A3 (A0 rfl (A4 ⟨by simp,(tuple_w (by simp[hn])).mono ?_⟩))))))))))))))) );rintro d x rfl;refine⟨_,rfl,_,rfl,(λh=>by cases h),λ_=>AO (A5 ?_)⟩;refine A9 (AF (A7 (AA (A3 (A0 rfl (A4 ⟨by simp,(NW ok).mono ?_⟩))))));rintro d x rfl;refine⟨_,rfl,AE (BA (A5 ?_))⟩;rw[<- hN];refine Bn (E1 (BG (A0 rfl ⟨(71 (n+1)).map λk=>D.im (rowI N (f k)),by simp[tabI],?_⟩)));change WP (BD _ _ _ ((((71 (n+1)).map λk=>D.im (rowI N (f k))).zipIdx 0).map enD) [some (.im (wmsI ws)),some (.im (tabI n N f)),some (.im (.tup pt)),some (.im (.int (N:Int))),none,none,none,none] []) _;refine Bo (I_shape_w pt ws n N f) ⟨[],_,none,none,none,none,rfl,rfl,rfl,rfl⟩ ?_ ?_
 .rintro d r ls hd ⟨dn,rest,z4,z5,z6,z7,e1,er,rfl,rfl⟩;cases rest with
  |nil=>cases er
  |cons k rest=>
   rw[gq,ja,gq]at er;obtain⟨rfl,rfl⟩:=List.cons.inj er;refine⟨[some (.im (wmsI ws)),some (.im (tabI n N f)),some (.im (.tup pt)),some (.im (.int (N:Int))),some (.im (.int (dn.length:Int))),some (.im (rowI N (f k))),z6,z7],rfl,?_⟩;refine A9 (AW (Bm (B0 (AA (A3 (A0 rfl (A3 (A0 rfl (A4 ⟨by simp[rowI],(tuple_w 75).mono ?_⟩)))))))));rintro d x rfl;refine⟨_,rfl,_,rfl,(λh=>by cases h),λ_=>AO (A5 ?_)⟩;refine Bn (E1 (BG (A0 rfl ⟨(71 N).map λw=>Aw (f k w),by simp[rowI],?_⟩)));change WP (BD _ _ _ ((((71 N).map λw=>Aw (f k w)).zipIdx 0).map enD) _ []) _;refine Bo (λr ls hd=>∃(dn' rest':List Nat) (z6 z7:Option D),r=((rest'.map λw=>Aw (f k w)).zipIdx dn'.length).map enD/\ls=[some (.im (wmsI ws)),some (.im (tabI n N f)),some (.im (.tup pt)),some (.im (.int (N:Int))),some (.im (.int (dn.length:Int))),some (.im (rowI N (f k))),z6,z7]/\hd=[]) ⟨[],_,z6,z7,rfl,rfl,rfl⟩ ?_ ?_
   .rintro d r ls hd ⟨dn',rest',z6,z7,er,rfl,rfl⟩;cases rest' with
    |nil=>cases er
    |cons w rest'=>
     rw[gq,ja,gq]at er;obtain⟨rfl,rfl⟩:=List.cons.inj er;have fin:∀r',r'=((rest'.map λw=>Aw (f k w)).zipIdx (dn'.length+1)).map enD->∃(dn'' rest'':List Nat) (y6 y7:Option D),r'=((rest''.map λw=>Aw (f k w)).zipIdx dn''.length).map enD/\[some (D.im (wmsI ws)),some (.im (tabI n N f)),some (.im (.tup pt)),some (.im (.int (N:Int))),some (.im (.int (dn.length:Int))),some (.im (rowI N (f k))),some (.im (.int (dn'.length:Int))),some (Aw (f k w))]=[some (.im (wmsI ws)),some (.im (tabI n N f)),some (.im (.tup pt)),some (.im (.int (N:Int))),some (.im (.int (dn.length:Int))),some (.im (rowI N (f k))),y6,y7]/\([]:Hd)=[]:=λr' e=>⟨dn'++[w],rest',_,_,by rw[e];simp,rfl,rfl⟩
     refine⟨[some (.im (wmsI ws)),some (.im (tabI n N f)),some (.im (.tup pt)),some (.im (.int (N:Int))),some (.im (.int (dn.length:Int))),some (.im (rowI N (f k))),some (.im (.int (dn'.length:Int))),some (Aw (f k w))],rfl,?_⟩;refine AW (EO (AK (we_isN (A0 rfl ⟨f k w,rfl,_,rfl,?_⟩))));cases hx:f k w with
     |none=>
      rw[gj 75];rw[hx]at fin;exact⟨(λh=>by cases h),λ_=>AO ⟨AQ _,fin _ rfl⟩⟩
     |some x=>
      rw[gi 75];rw[hx]at fin;refine Bm (B0 (AA (A3 (A0 rfl (A4 ⟨by simp[D6],(number_w x).mono ?_⟩)))));rintro d x rfl;exact⟨_,rfl,_,rfl,(λh=>by cases h),λ_=>AO ⟨AQ _,fin _ rfl⟩⟩
   .rintro ls hd ⟨dn',rest',z6,z7,er,rfl,rfl⟩;exact⟨AQ _,dn++[k],rest,_,_,_,_,by rw[e1];simp,by simp,rfl,rfl⟩
 .rintro ls hd ⟨dn,rest,z4,z5,z6,z7,e1,er,rfl,rfl⟩;rfl
def dZ(a b:Option Int):nm (comb a b) a=true:=by
 cases a with
 |none=>cases b<;>rfl
 |some x=>cases b with
  |none=>simp[comb,nm]
  |some y=>
   by_cases h:x<=y
   .simp[comb,h,nm]
   .simp[comb,h,nm];omega
def dY(a b:Option Int):nm (comb a b) b=true:=by
 cases b with
 |none=>cases a<;>rfl
 |some y=>cases a with
  |none=>simp[comb,nm]
  |some x=>
   by_cases h:x<=y
   .simp[comb,h,nm]
   .simp[comb,h,nm]
inductive I_look_row_w(p:Wm)(N:Nat)(f:Nat->Option Int)(i:I)(r:List D)(ls:Ls)(hd:Hd):Prop
 |mk (j:Nat) (z4 z5:Option D) (h0:j<=N) (h1:r=(((List.range' j (N-j)).map λw=>Aw (Ap (wx p) f w)).zipIdx j).map enD) (h2:ls=[some (wmD p),some (.im (rowI N f)),some (.im (rowI N (Ap (wx p) f))),some (.im i),z4,z5]) (h3:hd=[]):I_look_row_w p N f i r ls hd
def QK{B c:Int}{p:Wm}(ok:okM B c p){N:Nat}(hN:N<=100)(f:Nat->Option Int){i:I}:WF DO [wmD p,.im (rowI N f),.im (rowI N (Ap (wx p) f)),.im i] [] λd x=>d=.im .non:=by
 unfold DO;refine AX rfl ?_;refine Bn (E1 (BG (A0 rfl ⟨(List.range' 0 (N-0)).map λw=>Aw (Ap (wx p) f w),by rw[Nat.sub_zero,<- List.range_eq_range'];simp[rowI],?_⟩)));change WP (BD _ _ _ ((((List.range' 0 (N-0)).map λw=>Aw (Ap (wx p) f w)).zipIdx 0).map enD) [some (wmD p),some (.im (rowI N f)),some (.im (rowI N (Ap (wx p) f))),some (.im i),none,none] []) _;refine Bo (I_look_row_w p N f i) ⟨0,none,none,by omega,rfl,rfl,rfl⟩ ?_ ?_
 .rintro d r ls hd ⟨j,z4,z5,hj,er,rfl,rfl⟩;obtain⟨m,hm⟩:∃m,N-j=m+1:=by
   cases q:N-j with
   |zero=>rw[q]at er;cases er
   |succ m=>exact⟨m,rfl⟩
  rw[hm,List.range'_succ,gq,ja,gq]at er;obtain⟨rfl,rfl⟩:=List.cons.inj er;refine⟨[some (wmD p),some (.im (rowI N f)),some (.im (rowI N (Ap (wx p) f))),some (.im i),some (.im (.int (j:Int))),some (Aw (Ap (wx p) f j))],rfl,?_⟩;refine A9 (AW (Bm (B0 (AA (A3 (A0 rfl (A3 (A7 (A0 rfl (A0 rfl (AH rfl (row_at 67) (A4 ⟨by simp,(FZ _ _).mono ?_⟩))))))))))));rintro d x rfl;refine⟨_,rfl,_,rfl,(λh=>?_),λ_=>AO (A5 ?_)⟩
  .rw[Ap,dZ]at h;cases h
  refine AW (Bm (B0 (AA (A3 (A0 rfl (A3 (AA (A3 (A0 rfl (A3 (A0 rfl (A3 (A0 rfl (A4 ⟨by simp[wmI,rowI],(VR ok f 67).mono ?_⟩))))))))))))));rintro d x rfl;refine⟨_,rfl,A4 ⟨by simp,(FZ _ _).mono ?_⟩⟩;rintro d x rfl;refine⟨_,rfl,_,rfl,(λh=>?_),λ_=>AO ⟨AQ _,j+1,_,_,by omega,by rw[show N-(j+1)=m by omega],rfl,rfl⟩⟩;rw[Ap,dY]at h;cases h
 .rintro ls hd ⟨j,z4,z5,hj,er,rfl,rfl⟩;rfl
def wp_catN{is js:List I}{hd:Hd}{QE:D->Hd->Prop}(h1:is.length+js.length<=100)(q:QE (.im (.tup (is++js))) hd):WP (MC (.im (.tup is)) (.im (.tup js)) hd) QE:=by
 by_cases h0:is=[]
 .subst h0;refine WP.eq (z:=.im (.tup js)) (h:=hd) ?_ q;show(match Ai (.im (.tup [])) (.im (.tup js)) hd with|some z=>some z|none=>IM (.im (.tup [])) (.im (.tup js)) hd)=_;have e:Ai (.im (.tup [])) (.im (.tup js)) hd=none:=by
   show(match KS (.im (.tup [])) (.im (.tup js)) hd with|some z=>some z|none=>Gm (.im (.tup [])) (.im (.tup js)) hd)=_;rw[show KS (.im (.tup [])) (.im (.tup js)) hd=none from rfl];unfold Gm;rw[show Ab (.im (.tup []))=some []from rfl,show Ab (.im (.tup js))=some (js.map D.im)from rfl,gw,gw,gj (λz=>z.1 rfl)]
  rw[e];unfold IM;rw[show Ab (.im (.tup []))=some []from rfl,show Ab (.im (.tup js))=some (js.map D.im)from rfl,gw,gw,gi rfl,Ax]
 .obtain⟨d,x,e,q⟩:=OI (QE:=QE) h0 h1 q;refine⟨d,x,?_,q⟩;show(match Ai (.im (.tup is)) (.im (.tup js)) hd with|some z=>some z|none=>IM (.im (.tup is)) (.im (.tup js)) hd)=_;rw[e]
def MM{n N:Nat}{f:Nat->Nat->Option Int}{k:Nat}(hk:k<n+1):atI (((71 (n+1)).map λk=>rowI N (f k)).map D.im) (k:Int)=some (.im (rowI N (f k))):=Eo rfl (by simp[hk])
inductive I_places_w(pt:List I)(c:Int)(ws:List Wm)(N:Nat)(r:List D)(ls:Ls)(hd:Hd):Prop
 |mk (dn rest:List Int) (z3 z4:Option D) (h0:ordI ws=dn++rest) (h1:r=((intD rest).zipIdx dn.length).map (λq=>AY [.im (.int ((q.2:Int)+1)),q.1])) (h2:ls=[some (.im (wmsI ws)),some (.im (tabI 68 N (fT c (wxs ws)))),some (.im (.tup pt)),z3,z4]) (h3:hd=[.lst (intD (ordI ws))]):I_places_w pt c ws N r ls hd
def places_w{pt:List I}(hpt:pt.length<=9){B c:Int}{ws:List Wm}(ok:okMs B c ws)(hB:B<=2000){N:Nat}(hN:N<=100)(h0:0<N):WF C3 [.im (wmsI ws),.im (tabI 68 N (fT c (wxs ws))),.im (.tup pt)] [] λd x=>d=.im .non:=by
 have hl8:=ok.2.1;unfold C3;refine AX rfl ?_;refine A9 (AW (Bm (B0 (AA (A3 (A7 (A7 (A0 rfl (AE (AH rfl (MM (k:=0) 67) (AE (AH rfl (row_at (w:=0) h0) (A3 (AA (A3 (A0 rfl (A4 ⟨by simp,(Jj ok).mono ?_⟩)))))))))))))))));rintro d x rfl;refine⟨_,rfl,A4 ⟨by simp,(FZ (fT c (wxs ws) 0 0) (some c)).mono ?_⟩⟩;rintro d x rfl;refine⟨_,rfl,_,rfl,(λh=>?_),λ_=>AO (A5 ?_)⟩
 .simp[fT,nm]at h
 refine Bn (T1 (Dg (HL (A3 (A0 rfl (A4 ⟨[],[],rfl,rfl,by simp,rfl,(Hz ok hB).mono ?_⟩))))));rintro d x ⟨rfl,rfl⟩;refine⟨0,_,[],_,rfl,gm _,rfl,rfl,rfl,rfl,Dd _ _,0,intD (ordI ws),rfl,rfl,?_⟩;refine Bo (I_places_w pt c ws N) ⟨[],ordI ws,none,none,rfl,rfl,rfl,rfl⟩ ?_ ?_
 .rintro d r ls hd ⟨dn,rest,z3,z4,e1,er,rfl,rfl⟩;cases rest with
  |nil=>cases er
  |cons i rest=>
   rw[show intD (i::rest)=.im 106::intD rest from rfl,ja,gq]at er;obtain⟨rfl,rfl⟩:=List.cons.inj er;obtain⟨k,hk,rfl⟩:=ord_mem (ws:=ws) (i:=i) (by rw[e1];simp);have hle:dn.length<ws.length:=by have:=ord_len ws;rw[e1]at this;simp at this;omega
   have ex:(wxs ws)[dn.length]?=some (wx ws[k]):=by
    unfold wxs;rw[e1,List.getElem?_map,List.getElem?_append_right (gm _)];simp[hk]
   have e2:Ap (wx ws[k]) (fT c (wxs ws) dn.length)=fT c (wxs ws) (dn.length+1):=by
    funext w
    rw[fT,ex]
   refine⟨[some (.im (wmsI ws)),some (.im (tabI 68 N (fT c (wxs ws)))),some (.im (.tup pt)),some (.im (.int ((dn.length:Int)+1))),some (.im 95)],rfl,?_⟩;refine Aq (AA (A3 (A7 (A0 rfl (A0 rfl (AH (by rw[ET,CD]) (FT hk) (A3 (A7 (A0 rfl (A7 (A0 rfl (AE (BL ?_)))))))))))));rw[show(dn.length:Int)+1-1=(dn.length:Int) by omega];refine AH rfl (MM 67) (A3 (A7 (A0 rfl (A0 rfl ?_))));rw[show(dn.length:Int)+1=((dn.length+1:Nat):Int) by omega];refine AH rfl (MM 67) (A3 (A7 (A0 rfl (B1 (A3 (A0 rfl (A4 ⟨FI,?_⟩)))))));rw[Ol];refine wp_catN 79 (A4 ⟨by simp[wmI,rowI],?_⟩);rw[<- e2];refine(QK (ok.2.2.2 _ (List.getElem_mem hk)) hN _).mono ?_;rintro d x rfl;exact⟨_,rfl,by intro q hq;rw[i4]at hq;subst hq;rfl,dn++[(k:Int)],rest,_,_,by rw[e1];simp,by simp,rfl,rfl⟩
 .rintro ls hd ⟨dn,rest,z3,z4,e1,er,rfl,rfl⟩;rfl
def greatest_w{n N m:Nat}{f:Nat->Nat->Option Int}(hN:N<=100)(hm:m<N)(h1:(f n m).isSome=true)(h2:∀w,(f n w).isSome=true->w<=m):WF Be [.im (tabI n N f)] [] λd x=>d=.im (.int (m:Int)):=by
 unfold Be;refine AX rfl ?_;refine AT (B2 (Ad (E1 (BG (A7 (A0 rfl (ES (AE ⟨_,rfl,AH rfl (e:=.im (rowI N (f n))) ?_ ⟨(71 N).map λw=>Aw (f n w),by simp[rowI],?_⟩⟩))))))))
 .rw[i5,range_succ,iL];exact Gw _ _
 have ez:(((71 N).map λw=>Aw (f n w)).zipIdx.map λq=>AY [.im (.int (q.2:Int)),q.1])=(71 N).map λw:Nat=>D.im (.tup [.int (w:Int),D6 (f n w)]):=by
  refine ext_getElem 75 λi a b=>?_;simp
 rw[ez];refine⟨AS 79,?_⟩;refine Ar (λw:Nat=>D.im (.tup [.int (w:Int),D6 (f n w)])) (λw=>if(f n w).isSome=true then some (.im (.int (w:Int)))else none) (λ_ ls=>∃x y,ls=[some x,some y]) _ (AQ _) ?_ ?_
 .rintro w hw ls hls;refine⟨[some (.im (.int (w:Int))),some (Aw (f n w))],by rcases hls with rfl|⟨_,x,y,rfl⟩<;>rfl,⟨_,_,rfl⟩,?_⟩;refine AK (we_isN (A0 rfl ⟨f n w,rfl,_,rfl,rfl,?_⟩));cases hx:f n w with
  |none=>
   rw[gj 75];exact gj 75
  |some x=>
   rw[gi 75];exact⟨_,gi 75,A0 rfl ⟨rfl,rfl⟩⟩
 have ei:((71 N).filterMap λw:Nat=>if(f n w).isSome=true then some (D.im (.int (w:Int)))else none)=intD (((71 N).filter λw:Nat=>(f n w).isSome).map λw:Nat=>(w:Int)):=by
  generalize 71 N=L
  induction L with
  |nil=>rfl
  |cons x r ih=>
   rw[iZ,ic];by_cases h:(f n x).isSome=true
   .simp[h,intD]at ih ⊢;exact ih
   .simp[h,intD]at ih ⊢;exact ih
 rw[ei];have hmm:(m:Int)∈((71 N).filter λw:Nat=>(f n w).isSome).map λw:Nat=>(w:Int):=mem_map.mpr ⟨m,mem_filter.mpr ⟨by simpa using hm,h1⟩,rfl⟩;have hne:=List.ne_nil_of_mem hmm;refine⟨_,by unfold Hu;rw[Fh,gw,gj hne],?_⟩;have ms:=Fc hne;obtain⟨w,hw,ew⟩:=mem_map.mp ms.1;have h3:=ms.2 _ hmm;have h4:=h2 w (mem_filter.mp hw).2;have:FE (((71 N).filter λw:Nat=>(f n w).isSome).map λw:Nat=>(w:Int))=(m:Int):=by omega
 rw[this]
end T52.Tb
namespace T52
open PySem L2 Bd S7
def ay:F_ends_of=Bd.F_ends_of:=rfl
def Sb{ws:List Wk}{P:List Pl.Pc}(n8:68<=8)(hP:∀p∈P,p.1<68):WF F_ends_of [.im (Ac ws),.im (.tup (P.map Bc))] [] λd x=>d=.im (QU 105):=by
 obtain⟨g,e⟩:=Qc ws P hP 67;rw[Pl.ends_map]at e;exact WP.eq (ay ▸ e) rfl
def d6{n:Nat}{ln cm:Nat->Nat}{G:Nat->Nat->Nat}{t:Nat}(H:Hist n ln cm G t){τ:Nat}(h:τ<=t)(j:Nat):G τ j<=ln j:=by
 have:=V5 H j τ 0 67;rw[H.g0,Nat.zero_add]at this;exact this
theorem Yj{n:Nat}{ln cm:Nat->Nat}{G:Nat->Nat->Nat}{t C:Nat}(H:Hist n ln cm G t)(hC:∀j,j<n->cm j<=C):∀d,C+d<=t->(∀j,j<n->G (C+d) j=0)∨sl (G (C+d)) (71 n)+d<=sl ln (71 n)
 |0,h=>.inr (by have:=M1 (S:=71 n) λi _=>d6 H (τ:=C+0) h i;omega)
 |d+1,h=>by
  rcases H.st (C+d) 67 with⟨z,e⟩|⟨k,kn,kc,k0,kl,e⟩
  .exact .inl λj hj=>by rw[show C+(d+1)=C+d+1 by omega,e j];exact z j hj (by have:=hC j hj;omega)
  .rcases Yj H hC d 67 with q|q
   .exact absurd (q k kn) 67
   .refine .inr ?_;have:=Qw (f:=G (C+d)) (g:=G (C+d+1)) k0 e nodup_range (by simpa using kn);rw[show C+(d+1)=C+d+1 by omega];omega
def bc{n:Nat}{ln cm:Nat->Nat}{G:Nat->Nat->Nat}{t C:Nat}(H:Hist n ln cm G t)(hC:∀j,j<n->cm j<=C)(h:C+sl ln (71 n)<=t):∀j,j<n->G (C+sl ln (71 n)) j=0:=by
 rcases Yj H hC _ h with q|q
 .exact q
 .have q:sl (G (C+sl ln (71 n))) (71 n)=0:=by omega
  exact λj hj=>K4 q j (by simpa using hj)
def bR{n:Nat}{ln cm lf:Nat->Nat}{P:List Pc}{t C:Nat}{G:Nat->Nat->Nat}(S:St n ln cm lf P t G)(z:∀j,j<n->lf j=0)(hC:∀j,j<n->cm j<=C){j:Nat}(hj:j<n):Pl.E P j<=((C+sl ln (71 n):Nat):Int):=by
 by_cases h:C+sl ln (71 n)<=t
 .exact(S.en j hj (z j hj) _ h).mp (bc S.H hC h j hj)
 .have:=(S.en j hj (z j hj) t (gm _)).mp (by rw[S.gl];exact z j hj);omega
theorem MX{f:Nat->Nat}{B:Nat}:∀{L:List Nat},(∀i∈L,f i<=B)->sl f L<=B*L.length
 |[],_=>by simp[sl]
 |x::r,h=>by
  have h1:=h x 75;have ih:=MX (L:=r) λi hi=>h i (by simp[hi]);simp only[sl,gq,hJ,iH]at ih ⊢;rw[Nat.mul_succ];omega
def eF{w:Int}{ws:List Wk}(W:EW w ws){lf:Nat->Nat}{P:List Pc}{t:Nat}{G:Nat->Nat->Nat}(S:St 68 (lnN ws) (cmN ws) lf P t G)(z:∀j,j<68->lf j=0){j:Nat}(hj:j<68):Pl.E P j<=220:=by
 have h1:=bR S z (C:=60) (λj hj=>(FQ W hj).2) hj;have h2:=MX (f:=lnN ws) (B:=20) (L:=71 68) λi hi=>(D8 W (by simpa using hi)).2.2;have:=W.n8;rw[List.length_range]at h2;omega
def d9{w:Int}{ws:List Wk}(W:EW w ws){lf:Nat->Nat}{P:List Pc}{t:Nat}{G:Nat->Nat->Nat}(S:St 68 (lnN ws) (cmN ws) lf P t G)(z:∀j,j<68->lf j=0){j:Nat}(hj:j<68):1<=Pl.E P j:=by
 refine Classical.byContradiction λq=>?_;have:=(S.en j hj (z j hj) 0 (iB _)).mpr 67;rw[S.H.g0]at this;have:=(D8 W hj).2.1;omega
def tw(t:Int)(ws:List Wk):List Tb.Wm:=ws.map λw=>⟨w.len,0,t-w.com,1⟩
def BN(t:Int)(ws:List Wk):(tw t ws).length=ws.length:=by simp[tw]
def GN{w t:Int}{ws:List Wk}(W:EW w ws)(h0:-1000<=t)(h1:t<=1000):Tb.okMs 2000 0 (tw t ws):=by
 refine⟨λq=>?_,by rw[BN];exact W.n8,by omega,λw hw=>?_⟩
 .have e:=iw List.length q;rw[BN]at e;have:=W.n1;rw[e]at this;exact absurd this 77
 .obtain⟨v,hv,rfl⟩:=mem_map.mp hw;obtain⟨g1,g2,_⟩:=W.ea v hv;exact⟨g1,rfl,by dsimp only;omega,by dsimp only;omega⟩
def OL(t:Int)(ws:List Wk):Tb.fullW (tw t ws)=(ws.length:Int):=by
 unfold Tb.fullW tw
 induction ws with
 |nil=>rfl
 |cons x r ih=>simp only[gq,hJ,iH]at ih ⊢;omega
def GO{w t:Int}{ws:List Wk}(W:EW w ws):WF DU [.im (Ac ws),.im (.int t)] [] λd x=>d=.im (Tb.wmsI (tw t ws)):=by
 have hl:=W.n8;unfold DU;refine AX rfl ?_;refine AT (B2 98);rw[ER];refine⟨AS 79,?_⟩;refine Ar wkD (λw=>some (Tb.wmD ⟨w.len,0,t-w.com,1⟩)) (λ_ ls=>∃x y z,ls=[some x,some y,some z,some (.im (.int t))]) _ (AQ _) ?_ ?_
 .rintro w hw ls hls;refine⟨[some (.im (.int w.len)),some (.im (.int w.com)),some (.im (Ju w.cost)),some (.im (.int t))],by rcases hls with rfl|⟨_,x,y,z,rfl⟩<;>rfl,⟨_,_,_,rfl⟩,Az ⟨rfl,?_⟩⟩;rw[gi rfl];refine⟨_,rfl,B1 (A3 (A0 rfl (A3 (AE (A3 (B1 (A3 (AE (A3 (A7 (A0 rfl (A0 rfl (BL (A3 (AE (A4 ⟨C1,A4 ⟨C1,rfl,rfl⟩⟩))))))))))))))))⟩
 have e:(ws.filterMap λw=>some (Tb.wmD ⟨w.len,0,t-w.com,1⟩))=((tw t ws).map Tb.wmI).map D.im:=by simp[tw]
 rw[e];refine⟨_,rfl,?_⟩;rw[Ax]
open Lt (Wx En AM more sel IsMin)
def JH(ws:List Wk)(S:List Nat)(t:Int):Prop:=∀j∈S,(sl (lnN ws) (S.filter λi=>decide (cmN ws j<=cmN ws i)):Int)+(cmN ws j:Int)<=t
def ax(f:Nat->Nat)(p:Nat->Bool)(S:List Nat):sl f (S.filter p)<=sl f S:=by
 induction S with
 |nil=>exact gm _
 |cons x r ih=>
  rw[ic];split
  .simp only[sl,gq,hJ]at ih ⊢;omega
  .simp only[sl,gq,hJ]at ih ⊢;omega
def JP{L:List Int}(hs:L.Pairwise (·<=·)){i:Nat}{e τ:Int}(h:L[i]?=some e)(lt:τ<e):L.countP (λx=>decide (x<=τ))<=i:=by
 obtain⟨hi,rfl⟩:=84 h;have e1:L.countP (λx=>decide (x<=τ))=(L.take i).countP (λx=>decide (x<=τ))+(L.drop i).countP (λx=>decide (x<=τ)):=by rw[<- List.countP_append,j4]
 have e2:(L.drop i).countP (λx=>decide (x<=τ))=0:=by
  rw[List.countP_eq_zero];intro x hx;rw[iN hi]at hx;have pw:(L.drop i).Pairwise (·<=·):=hs.sublist (List.drop_sublist _ _);rw[iN hi]at pw;rcases mem_cons.mp hx with rfl|hx
  .simp;omega
  .have:=(pairwise_cons.mp pw).1 x hx;simp;omega
 have e3:=List.countP_le_length (p:=λx=>decide (x<=τ)) (l:=L.take i);rw[iG]at e3;omega
def few{n:Nat}{E:Nat->Int}{i:Nat}{e:Int}{τ:Nat}{p:Nat->Bool}(h:(As ((71 n).map E))[i]?=some e)(lt:(τ:Int)<e)(hp:∀j,j<n->p j=true->E j<=(τ:Int)):((71 n).filter p).length<=i:=by
 have h1:=JP (Br _) h lt;rw[(Aa _).countP_eq,List.countP_map]at h1;refine ia ?_ h1;rw[<- jj];exact List.countP_mono_left λj hj q=>by simpa using hp j (by simpa using hj) q
def Uw{w:Int}{ws:List Wk}(W:EW w ws){lf:Nat->Nat}{P:List Pc}{t:Nat}{G:Nat->Nat->Nat}(S0:St 68 (lnN ws) (cmN ws) lf P t G)(z:∀j,j<68->lf j=0){i:Nat}{e:Int}(h:(As 105)[i]?=some e){S:List Nat}(nd:S.Nodup)(hS:∀i∈S,i<68)(F:JH ws S (e-1)):S.length<=i:=by
 by_cases q:S=[]
 .subst q;simp
 .obtain⟨j,hj⟩:=List.exists_mem_of_ne_nil _ q;have e1:=F j hj;have hm:e∈(71 68).map (Pl.E P):=(Aa _).mem_iff.mp (ig h);obtain⟨k,hk,rfl⟩:=mem_map.mp hm;have hk:k<ws.length:=by simpa using hk
  have et:Pl.E P k<=(t:Int):=(S0.en k hk (z k hk) t (gm _)).mp (by rw[S0.gl,z k hk]);obtain⟨τ,eτ⟩:∃τ:Nat,Pl.E P k-1=(τ:Int):=⟨(Pl.E P k-1).toNat,by omega⟩
  have ht:τ<=t:=by omega
  refine ia (Ow S0.H ht nd hS (λi hi=>(D8 W (hS i hi)).2.1) λj hj=>?_) (few (τ:=τ) h 67 λj hj hp=>?_)
  .have:=F j hj;rw[eτ]at this;omega
  .have hp:cmN ws j<=τ/\G τ j=0:=by simpa using hp
   exact(S0.en j hj (z j hj) τ ht).mp hp.2
structure Fs(ws:List Wk)(T:Int)(dn:List Int)(m:Nat)(s:Int):Prop where
 ex:∃S:List Nat,S.Nodup/\(∀i∈S,(i:Int)∈dn)/\m=S.length/\s=(sl (lnN ws) S:Int)/\JH ws S T
def Fs.add{ws:List Wk}{T:Int}{dn:List Int}{m:Nat}{s:Int}(h:Fs ws T dn m s){k:Nat}(nk:(k:Int)∉dn)(le:∀i:Nat,(i:Int)∈dn->cmN ws k<=cmN ws i)(c:s+(lnN ws k:Int)<=T-(cmN ws k:Int)):Fs ws T (dn++[(k:Int)]) (m+1) (s+(lnN ws k:Int)):=by
 obtain⟨S,n1,n2,rfl,rfl,n4⟩:=h;have kS:k∉S:=λz=>nk (n2 k z);have tot:sl (lnN ws) (S++[k])=sl (lnN ws) S+lnN ws k:=by rw[MY];simp[sl]
 refine⟨S++[k],?_,λi hi=>?_,by simp,by rw[tot];simp,λj hj=>?_⟩
 .rw[nodup_append];exact⟨n1,by simp,λa ha b hb e=>by rw[i4]at hb;subst hb;subst e;exact kS ha⟩
 .rcases mem_append.mp hi with q|q
  .simp[n2 i q]
  .rw[i4]at q;subst q;simp
 .by_cases e:cmN ws j=cmN ws k
  .have:=ax (lnN ws) (λi=>decide (cmN ws j<=cmN ws i)) (S++[k]);rw[tot]at this;omega
  .have jS:j∈S:=by
    rcases mem_append.mp hj with q|q
    .exact q
    .rw[i4]at q;subst q;exact absurd rfl e
   have h1:=le j (n2 j jS);have h2:=n4 j jS;rw[filter_append,MY];have:[k].filter (λi=>decide (cmN ws j<=cmN ws i))=[]:=by
    rw[ic,i6 67];rfl
   rw[this];simpa [sl]using h2
def Fs.mono{ws:List Wk}{T:Int}{dn dn':List Int}{m:Nat}{s:Int}(h:Fs ws T dn m s)(hs:∀x∈dn,x∈dn'):Fs ws T dn' m s:=by
 obtain⟨S,n1,n2,n3⟩:=h;exact⟨S,n1,λi hi=>hs _ (n2 i hi),n3⟩
def JM{t:Int}{ws:List Wk}{k:Nat}(hk:k<68):(tw t ws)[k]?=some ⟨ws[k].len,0,t-ws[k].com,1⟩:=by simp[tw,hk]
def Jr{w t:Int}{ws:List Wk}(W:EW w ws){k:Nat}(hk:k<68):Tb.dueOf (tw t ws) k=t-(cmN ws k:Int):=by
 unfold Tb.dueOf;rw[JM hk,<- (FQ W hk).1];rfl
def Gu{B c:Int}{ws:List Tb.Wm}(ok:Tb.okMs B c ws)(hB:B<=2000):(Tb.ordI ws).Pairwise λa b=>Tb.dueOf ws a.toNat<=Tb.dueOf ws b.toNat:=by
 have w2:(CO (Tb.duePs ws)).Pairwise λa b=>Ag a<=Ag b:=HU _;have p2:(CO (Tb.duePs ws)).Perm (Tb.duePs ws):=JQ _;unfold Tb.ordI;rw[iI];refine w2.imp_of_mem λ{a b} ha hb hab=>?_
 have fa:∀a∈CO (Tb.duePs ws),Tb.dueOf ws a.2.toNat=a.1/\pok a:=λa ha=>by
  obtain⟨k,hk,rfl⟩:=mem_map.mp (p2.mem_iff.mp ha);exact⟨rfl,Tb.due_ok ok hB (by simpa using hk)⟩
 obtain⟨e1,o1⟩:=fa a ha;obtain⟨e2,o2⟩:=fa b hb;rw[e1,e2];unfold Ag at hab;unfold pok at o1 o2;omega
def Rr(ws:List Tb.Wm):(Tb.ordI ws).Nodup:=by
 refine(Tb.ord_perm ws).nodup_iff.mpr (List.Pairwise.map _ (λa b h=>?_) nodup_range);omega
theorem J8{w T:Int}{ws:List Wk}(W:EW w ws)(h0:-1000<=T)(h1:T<=1000):∀i,i<=68->∀e∈AM 0 (Tb.wxs (tw T ws)) i,Fs ws T ((110).take i) e.2.1 e.2.2
 |0,_,e,he=>by
  simp only[AM,i4]at he;subst he;exact⟨[],by simp,by simp,rfl,rfl,λj hj=>by cases hj⟩
 |i+1,hi,e,he=>by
  have ih:=J8 W h0 h1 i 67;have len:(110).length=ws.length:=by rw[Tb.ord_len,BN]
  have hlt:i<(110).length:=by omega
  obtain⟨k,hk,ek⟩:=Tb.ord_mem (ws:=tw T ws) (List.getElem_mem hlt);rw[BN]at hk;have et:(110).take (i+1)=(110).take i++[(k:Int)]:=by rw[List.take_succ_eq_append_getElem hlt,ek]
  have ed:Tb.ordI (tw T ws)=(110).take i++(k:Int)::(110).drop (i+1):=by
   rw[<- ek,<- iN hlt,j4]
  have ex:(Tb.wxs (tw T ws))[i]?=some ((lnN ws k:Int),T-(cmN ws k:Int),1):=by
   unfold Tb.wxs;rw[List.getElem?_map,List.getElem?_eq_getElem hlt,ek,i8,ik,JM hk];show some (Tb.wx ⟨ws[k].len,0,T-ws[k].com,1⟩)=_;rw[(D8 W hk).1,(FQ W hk).1];rfl
  rw[AM,ex]at he;rcases mem_append.mp he with he|he
  .rw[et];exact(ih e he).mono λx hx=>iE _ hx
  .unfold more at he;obtain⟨e0,h2,rfl⟩:=mem_map.mp he;obtain⟨h2,h3⟩:=mem_filter.mp h2;have nd:=Rr (tw T ws);have ri:=Gu (GN W h0 h1) 77;rw[ed]at nd ri;rw[et];refine(ih e0 h2).add (λz=>(nodup_append.mp nd).2.2 _ z _ 75 rfl) (λj hj=>?_) (by simpa using h3);have hj2:j<ws.length:=by
    obtain⟨k2,q1,q2⟩:=Tb.ord_mem (ws:=tw T ws) (List.mem_of_mem_take hj);rw[BN]at q1;omega
   have:=(pairwise_append.mp ri).2.2 _ hj (k:Int) 75;rw[ik,ik,Jr W hj2,Jr W hk]at this;omega
abbrev fN(t:Int)(ws:List Wk):Nat->Nat->Option Int:=Tb.fT 0 (Tb.wxs (tw t ws))
def wxs_len(t:Int)(ws:List Wk):(Tb.wxs (tw t ws)).length=ws.length:=by unfold Tb.wxs;rw[hX,Tb.ord_len,BN]
def SU{w T:Int}{ws:List Wk}(W:EW w ws)(h0:-1000<=T)(h1:T<=1000){m:Nat}(h:(fN T ws 68 m).isSome=true):∃S:List Nat,S.Nodup/\(∀i∈S,i<68)/\m=S.length/\JH ws S T:=by
 have q:=Tb.fT_min 0 (Tb.wxs (tw T ws)) 68 (by rw[wxs_len];exact gm _) m;rcases q with⟨q,_⟩|⟨x,_,hx,_⟩
 .rw[show fN T ws 68 m=none from q]at h;cases h
 .obtain⟨e,he,rfl⟩:=mem_map.mp hx;obtain⟨he,e2⟩:=mem_filter.mp he;obtain⟨S,n1,n2,n3,n4,n5⟩:=J8 W h0 h1 _ (gm _) e he;refine⟨S,n1,λi hi=>?_,by rw[<- n3];exact(iY e2).symm,n5⟩;obtain⟨k2,q1,q2⟩:=Tb.ord_mem (ws:=tw T ws) (List.mem_of_mem_take (n2 i hi));rw[BN]at q1;omega
def dh(T:Int)(ws:List Wk):(fN T ws 68 0).isSome=true:=by
 have q:=Tb.fT_min 0 (Tb.wxs (tw T ws)) 68 (by rw[wxs_len];exact gm _) 0;have mem:∀i,(0,0,(0:Int))∈AM 0 (Tb.wxs (tw T ws)) i:=λi=>by
  induction i with
  |zero=>simp[AM]
  |succ i ih=>rw[AM];exact iE _ ih
 rcases q with⟨_,q⟩|⟨x,q,_⟩
 .have:(0:Int)∈sel 0 (AM 0 (Tb.wxs (tw T ws)) 68):=mem_map.mpr ⟨_,mem_filter.mpr ⟨mem _,by simp⟩,rfl⟩;rw[q]at this;cases this
 .rw[show fN T ws 68 0=some x from q];rfl
theorem MJ(p:Nat->Bool):∀n,(∀w,p w=true->w<=n)->p 0=true->∃m,m<=n/\p m=true/\∀w,p w=true->w<=m
 |0,h,h0=>⟨0,gm _,h0,h⟩
 |n+1,h,h0=>by
  by_cases q:p (n+1)=true
  .exact⟨n+1,gm _,q,h⟩
  .obtain⟨m,h1,h2,h3⟩:=MJ p n (λw hw=>by
    have:=h w hw;by_cases e:w=n+1
    .subst e;exact absurd hw q
    .omega) h0
   exact⟨m,by omega,h2,h3⟩
end T52
namespace Lt
def lS(S:List Wx):Int:=(S.map λx=>x.1).sum
def wS(S:List Wx):Nat:=(S.map λx=>x.2.2).sum
inductive FitS(c:Int):List Wx->Prop
 |nil:FitS c []
 |snoc {S:List Wx} {x:Wx} (h:FitS c S) (e:c+lS S+x.1<=x.2.1):FitS c (S++[x])
def FitS.inv{c:Int}{S:List Wx}{x:Wx}(h:FitS c (S++[x])):FitS c S/\c+lS S+x.1<=x.2.1:=by
 generalize e:S++[x]=T at h;cases h with
 |nil=>simp at e
 |snoc h q=>
  obtain⟨rfl,e2⟩:=List.append_inj' e rfl;cases e2;exact⟨h,q⟩
def Jk(S U:List Wx):lS (S++U)=lS S+lS U:=by simp[lS,sum_append]
@[simp] theorem fJ:lS []=0:=rfl
@[simp] theorem fH(x:Wx):lS [x]=x.1:=by simp[lS]
@[simp] theorem fC:wS []=0:=rfl
@[simp] theorem fB(x:Wx):wS [x]=x.2.2:=by simp[wS]
def Qs(S U:List Wx):wS (S++U)=wS S+wS U:=by simp[wS]
def TV{α:Type}{S L:List α}{x:α}(h:List.Sublist S (L++[x])):List.Sublist S L∨∃S',S=S'++[x]/\List.Sublist S' L:=by
 obtain⟨A,B,rfl,hA,hB⟩:=List.sublist_append_iff.mp h;cases hB with
 |cons _ h=>cases h;exact .inl (by simpa using hA)
 |cons_cons _ h=>cases h;exact .inr ⟨A,rfl,hA⟩
theorem found_iff{c:Int}{L:List Wx}:∀n,n<=L.length->∀(w:Nat) (e:Int),(∃i,(i,w,e)∈AM c L n)↔∃S,List.Sublist S (L.take n)/\FitS c S/\w=wS S/\e=c+lS S
 |0,_,w,e=>by
  constructor
  .rintro⟨i,h⟩;rw[AM,i4]at h;cases h;exact⟨[],by simp,.nil,rfl,by simp⟩
  .rintro⟨S,h,_,rfl,rfl⟩;rw[List.take_zero,List.sublist_nil]at h;subst h;exact⟨0,by simp[AM]⟩
 |n+1,hn,w,e=>by
  have ih:=found_iff (c:=c) (L:=L) n 67;have hx:L[n]?=some L[n]:=by simp[Nat.lt_of_succ_le hn]
  have et:L.take (n+1)=L.take n++[L[n]]:=List.take_succ_eq_append_getElem hn;rw[et];constructor
  .rintro⟨i,h⟩;rw[AM,hx]at h;rcases mem_append.mp h with h|h
   .obtain⟨S,h1,h2⟩:=(ih w e).mp ⟨i,h⟩;exact⟨S,h1.trans (List.sublist_append_left _ _),h2⟩
   .unfold more at h;obtain⟨⟨i0,w0,e0⟩,h1,h2⟩:=mem_map.mp h;obtain⟨h1,h3⟩:=mem_filter.mp h1;cases h2;have h3:e0+L[n].1<=L[n].2.1:=iY h3;obtain⟨S,s1,s2,s3,s4⟩:=(ih w0 e0).mp ⟨i0,h1⟩;refine⟨S++[L[n]],s1.append (List.Sublist.refl _),.snoc s2 67,?_,?_⟩
    .rw[Qs];simp[s3]
    .rw[Jk];simp[s4];omega
  .rintro⟨S,h1,h2,rfl,rfl⟩;rw[AM,hx];rcases TV h1 with h1|⟨S',rfl,h4⟩
   .obtain⟨i,h⟩:=(ih _ _).mpr ⟨S,h1,h2,rfl,rfl⟩;exact⟨i,iE _ h⟩
   .obtain⟨h2,h3⟩:=h2.inv;obtain⟨i,h⟩:=(ih _ _).mpr ⟨S',h4,h2,rfl,rfl⟩;refine⟨n+1,gv _ ?_⟩;unfold more;refine mem_map.mpr ⟨_,mem_filter.mpr ⟨h,?_⟩,?_⟩
    .exact i9 h3
    .rw[Jk,Qs];simp;omega
def FitO(c:Int)(S:List Wx):Prop:=∀x∈S,c+lS (S.filter λy=>decide (y.2.1<=x.2.1))<=x.2.1
def Os{S U:List Wx}(h:S.Perm U):lS S=lS U:=by
 induction h with
 |nil=>rfl
 |cons x _ ih=>simp only[lS,gq,hJ]at ih ⊢;omega
 |swap x y l=>simp only[lS,gq,hJ];omega
 |trans _ _ a b=>exact a.trans b
def wS_perm{S U:List Wx}(h:S.Perm U):wS S=wS U:=by
 induction h with
 |nil=>rfl
 |cons x _ ih=>simp only[wS,gq,hJ]at ih ⊢;omega
 |swap x y l=>simp only[wS,gq,hJ];omega
 |trans _ _ a b=>exact a.trans b
def FitO.perm{c:Int}{S U:List Wx}(p:S.Perm U)(h:FitO c S):FitO c U:=λx hx=>by
 rw[<- Os (p.filter _)];exact h x (p.mem_iff.mpr hx)
def SI{S:List Wx}(h:∀x∈S,0<=x.1)(p:Wx->Bool):lS (S.filter p)<=lS S:=by
 induction S with
 |nil=>exact Int.le_refl _
 |cons x r ih=>
  have h0:=h x 75;have ih:=ih λy hy=>h y (by simp[hy]);rw[ic];simp only[lS]at ih ⊢;split<;>simp only[gq,hJ]<;>omega
def cj{S:List Wx}(h:∀x∈S,0<=x.1):0<=lS S:=by
 have:=SI h λ_=>false;rw[show S.filter (λ_=>false)=[]from List.filter_eq_nil_iff.mpr λ_ _=>by simp]at this;exact this
theorem KY{c:Int}:∀(n:Nat) (S:List Wx),S.length=n->(∀x∈S,0<=x.1)->(S.Pairwise λx y=>x.2.1<=y.2.1)->(FitS c S↔FitO c S)
 |0,S,e,_,_=>by
  have:S=[]:=List.eq_nil_of_length_eq_zero e;subst this;exact⟨λ_ x hx=>(by cases hx),λ_=>.nil⟩
 |n+1,S,e,h0,pw=>by
  have hne:S≠[]:=λz=>by subst z;cases e
  obtain⟨S',x,rfl⟩:∃S' x,S=S'++[x]:=⟨_,_,(List.dropLast_concat_getLast hne).symm⟩
  obtain⟨p1,_,p3⟩:=pairwise_append.mp pw;have p3:∀y∈S',y.2.1<=x.2.1:=λy hy=>p3 y hy x 75;have g0:∀y∈S',0<=y.1:=λy hy=>h0 y (by simp[hy]);have ih:=KY n S' (by simpa using e) g0 p1 (c:=c);have hx0:=h0 x 75;have all:(S'++[x]).filter (λy=>decide (y.2.1<=x.2.1))=S'++[x]:=by
   rw[List.filter_eq_self];intro y hy;rcases mem_append.mp hy with hy|hy
   .exact i9 (p3 y hy)
   .rw[i4]at hy;subst hy;exact i9 (Int.le_refl _)
  have ex:lS (S'++[x])=lS S'+x.1:=by rw[Jk];simp[lS]
  constructor
  .intro h;obtain⟨h1,h2⟩:=h.inv;intro y hy;rcases mem_append.mp hy with hy|hy
   .by_cases q:x.2.1<=y.2.1
    .have:=SI h0 λz=>decide (z.2.1<=y.2.1);have:=p3 y hy;omega
    .have h3:=ih.mp h1 y hy;rw[filter_append];have:[x].filter (λz=>decide (z.2.1<=y.2.1))=[]:=by simp[q]
     rw[this,iF];exact h3
   .rw[i4]at hy;subst hy;rw[all,ex];omega
  .intro h;refine .snoc (ih.mpr λy hy=>?_) ?_
   .have h3:=h y (by simp[hy]);rw[filter_append,Jk]at h3;have:=cj (S:=[x].filter λz=>decide (z.2.1<=y.2.1)) λz hz=>h0 z (by
     have:=(mem_filter.mp hz).1;simp at this;simp[this])
    omega
   .have h3:=h x 75;rw[all,ex]at h3;omega
def sel_mem{w:Nat}{E:List En}{e:Int}:e∈sel w E↔∃i,(i,w,e)∈E:=by
 unfold sel;constructor
 .intro h;obtain⟨⟨i,w',e'⟩,h1,rfl⟩:=mem_map.mp h;obtain⟨g1,g2⟩:=mem_filter.mp h1;have g2:w'=w:=iY g2;exact⟨i,g2 ▸ g1⟩
 .rintro⟨i,h⟩;exact mem_map.mpr ⟨_,mem_filter.mpr ⟨h,by simp⟩,rfl⟩
def IsMin.congr{E F:List Int}{o:Option Int}(h:IsMin E o)(q:∀e,e∈E↔e∈F):IsMin F o:=by
 rcases h with⟨h1,h2⟩|⟨m,h1,h2,h3⟩
 .refine .inl ⟨h1,List.eq_nil_iff_forall_not_mem.mpr λe he=>?_⟩;have:=(q e).mpr he;rw[h2]at this;cases this
 .exact .inr ⟨m,h1,(q m).mp h2,λe he=>h3 e ((q e).mpr he)⟩
def sel_perm{c:Int}{L M:List Wx}(p:L.Perm M)(h0:∀x∈L,0<=x.1)(hL:L.Pairwise λx y=>x.2.1<=y.2.1)(hM:M.Pairwise λx y=>x.2.1<=y.2.1)(w:Nat)(e:Int):e∈sel w (AM c L L.length)->e∈sel w (AM c M M.length):=by
 rw[sel_mem,sel_mem,found_iff _ (gm _),found_iff _ (gm _),take_length,take_length];rintro⟨S,h1,h2,rfl,rfl⟩;obtain⟨U,u1,u2⟩:=List.exists_perm_sublist h1 p;have s0:∀x∈S,0<=x.1:=λx hx=>h0 x (h1.subset hx);have u0:∀x∈U,0<=x.1:=λx hx=>s0 x (u1.mem_iff.mp hx);exact⟨U,u2,(KY _ U rfl u0 (hM.sublist u2)).mpr (((KY _ S rfl s0 (hL.sublist h1)).mp h2).perm u1.symm),(wS_perm u1).symm,by rw[Os u1]⟩
end Lt
namespace T52
open PySem L2 Bd S7
open Lt (Wx En AM more sel IsMin)
theorem sl_fil(f:Nat->Nat)(p:Nat->Bool):∀S:List Nat,sl f (S.filter p)=sl (λj=>if p j then f j else 0) S
 |[]=>rfl
 |x::r=>by
  have ih:=sl_fil f p r;rw[ic];by_cases h:p x=true
  .rw[gi h];simp only[sl,gq,hJ,h,i3]at ih ⊢;omega
  .rw[gj h];simp only[sl,gq,hJ,h]at ih ⊢;simpa using ih
theorem Qx(f g:Nat->Nat):∀S:List Nat,sl (λj=>f j+g j) S=sl f S+sl g S
 |[]=>rfl
 |x::r=>by
  have ih:=Qx f g r;simp only[sl,gq,hJ]at ih ⊢;omega
theorem Qv{k v:Nat}:∀{S:List Nat},S.Nodup->k∈S->sl (λj=>if j=k then v else 0) S=v
 |x::r,nd,h=>by
  obtain⟨n1,n2⟩:=nodup_cons.mp nd;by_cases e:x=k
  .subst e;have:sl (λj=>if j=x then v else 0) r=0:=by
    have:=GS (f:=λj=>if j=x then v else 0) (g:=λ_=>0) (S:=r) λi hi=>gj λq:i=x=>n1 (q ▸ hi);rw[this];clear this n1 n2 nd h
    induction r with
    |nil=>rfl
    |cons y r ih=>simpa [sl]using ih
   simp only[sl,gq,hJ,i3]at this ⊢;omega
  .have hr:k∈r:=by
    rcases mem_cons.mp h with q|q
    .exact absurd q.symm e
    .exact q
   have ih:=Qv (v:=v) n2 hr;simp only[sl,gq,hJ,gj e]at ih ⊢;omega
def NY(f:Nat->Nat){p q:Nat->Bool}{k:Nat}{S:List Nat}(nd:S.Nodup)(hk:k∈S)(h0:p k=false)(h:∀j,q j=(p j||decide (j=k))):sl f (S.filter q)=sl f (S.filter p)+f k:=by
 rw[sl_fil,sl_fil,<- Qv (v:=f k) nd hk,<- Qx];refine GS λj _=>?_;rw[h j];by_cases e:j=k
 .subst e;simp[h0]
 .simp[e]
def SF(S:List Nat):S.length=sl (λ_=>1) S:=by
 induction S with
 |nil=>rfl
 |cons x r ih=>simp only[sl,gq,hJ,iH]at ih ⊢;omega
def Yl(f:Nat->Nat){p q:Nat->Bool}:∀{S:List Nat},(∀j∈S,p j=true->q j=true)->sl f (S.filter p)<=sl f (S.filter q):=λ{S} h=>by
 rw[sl_fil,sl_fil];refine M1 λj hj=>?_;by_cases e:p j=true
 .rw[gi e,gi (h j hj e)];exact gm _
 .rw[gj e];exact iB _
theorem LD{w T:Int}{ws:List Wk}(W:EW w ws)(h0:-1000<=T)(h1:T<=1000){S:List Nat}(nd:S.Nodup)(hS:∀j∈S,j<68)(F:JH ws S T):∀i,i<=68->∃e∈AM 0 (Tb.wxs (tw T ws)) i,e.2.1=(S.filter λj:Nat=>decide ((j:Int)∈(110).take i)).length/\e.2.2=(sl (lnN ws) (S.filter λj:Nat=>decide ((j:Int)∈(110).take i)):Int)
 |0,_=>by
  have z:(S.filter λj:Nat=>decide ((j:Int)∈(110).take 0))=[]:=by
   rw[List.filter_eq_nil_iff];intro j _;simp
  rw[z];exact⟨(0,0,0),by simp[AM],rfl,rfl⟩
 |i+1,hi=>by
  obtain⟨e,he,e1,e2⟩:=LD W h0 h1 nd hS F i 67;have len:(110).length=ws.length:=by rw[Tb.ord_len,BN]
  have hlt:i<(110).length:=by omega
  obtain⟨k,hk,ek⟩:=Tb.ord_mem (ws:=tw T ws) (List.getElem_mem hlt);rw[BN]at hk;have et:(110).take (i+1)=(110).take i++[(k:Int)]:=by rw[List.take_succ_eq_append_getElem hlt,ek]
  have ed:Tb.ordI (tw T ws)=(110).take i++(k:Int)::(110).drop (i+1):=by
   rw[<- ek,<- iN hlt,j4]
  have ex:(Tb.wxs (tw T ws))[i]?=some ((lnN ws k:Int),T-(cmN ws k:Int),1):=by
   unfold Tb.wxs;rw[List.getElem?_map,List.getElem?_eq_getElem hlt,ek,i8,ik,JM hk];show some (Tb.wx ⟨ws[k].len,0,T-ws[k].com,1⟩)=_;rw[(D8 W hk).1,(FQ W hk).1];rfl
  have nd2:=Rr (tw T ws);have ri:=Gu (GN W h0 h1) 77;rw[ed]at nd2 ri;have nk:(k:Int)∉(110).take i:=λz=>(nodup_append.mp nd2).2.2 _ z _ 75 rfl;have pq:∀j:Nat,decide ((j:Int)∈(110).take (i+1))=(decide ((j:Int)∈(110).take i)||decide (j=k)):=λj=>by
   rw[et];by_cases e:j=k
   .simp[e]
   .have:¬ (j:Int)=(k:Int):=by omega
    simp[e,this]
  by_cases kS:k∈S
  .have s1:=NY (lnN ws) nd kS (i6 nk) pq;have s2:=NY (λ_=>1) nd kS (i6 nk) pq;rw[<- SF,<- SF]at s2;have le:sl (lnN ws) (S.filter λj:Nat=>decide ((j:Int)∈(110).take (i+1)))<=sl (lnN ws) (S.filter λj=>decide (cmN ws k<=cmN ws j)):=Yl _ λj hj hm=>by
    have hm:=iY hm;rw[et]at hm;rcases mem_append.mp hm with hm|hm
    .have:=(pairwise_append.mp ri).2.2 _ hm (k:Int) 75;rw[ik,ik,Jr W (hS j hj),Jr W hk]at this;exact i9 67
    .have:j=k:=by
      have:=mem_singleton.mp hm;omega
     subst this;exact i9 (gm _)
   have f1:=F k kS;refine⟨(i+1,e.2.1+1,e.2.2+(lnN ws k:Int)),?_,by rw[s2,e1],by rw[s1,e2];simp⟩;rw[AM,ex];refine gv _ ?_;unfold more;refine mem_map.mpr ⟨e,mem_filter.mpr ⟨he,?_⟩,rfl⟩;simp only[iU];omega
  .have eqf:(S.filter λj:Nat=>decide ((j:Int)∈(110).take (i+1)))=S.filter λj:Nat=>decide ((j:Int)∈(110).take i):=List.filter_congr λj hj=>by
    rw[pq j,i6 (show ¬ j=k from λe=>kS (e ▸ hj)),Bool.or_false]
   rw[eqf];exact⟨e,by rw[AM];exact iE _ he,e1,e2⟩
def SS{w T:Int}{ws:List Wk}(W:EW w ws)(h0:-1000<=T)(h1:T<=1000){S:List Nat}(nd:S.Nodup)(hS:∀j∈S,j<68)(F:JH ws S T):∃e∈AM 0 (Tb.wxs (tw T ws)) 68,e.2.1=S.length:=by
 obtain⟨e,he,e1,_⟩:=LD W h0 h1 nd hS F 68 (gm _);refine⟨e,he,?_⟩;rw[e1]
 congr 1
 rw[List.filter_eq_self];intro j hj;have len:(110).length=ws.length:=by rw[Tb.ord_len,BN]
 rw[<- len,take_length];refine i9 ((Tb.ord_perm _).mem_iff.mpr (mem_map.mpr ⟨j,?_,rfl⟩));rw[BN];simpa using hS j hj
structure Whole(ws:List Wk)(P:List Pl.Pc):Prop where
 pw:P.Pairwise λp q=>p.2.2<=q.2.1
 ea:∀p∈P,p.1<68/\(cmN ws p.1:Int)<=p.2.1/\p.2.1<p.2.2
 dn:∀k,k<68->Pl.dn P k=(lnN ws k:Int)
def Whole.ok{ws:List Wk}{P:List Pl.Pc}(O:Whole ws P):Pl.Ok 68 0 P:=⟨O.pw,λp hp=>⟨(O.ea p hp).1,by have:=(O.ea p hp).2.1;omega,(O.ea p hp).2.2⟩⟩
def Whole.has{w:Int}{ws:List Wk}(W:EW w ws){P:List Pl.Pc}(O:Whole ws P){k:Nat}(hk:k<68):∃p∈P,p.1=k:=by
 refine Classical.byContradiction λz=>?_;have h2:=Pl.dn_no (k:=k) (ps:=P) λp hp e=>z ⟨p,hp,e⟩;have h3:=O.dn k hk;have:=(D8 W hk).2.1;omega
def Whole.fit{w:Int}{ws:List Wk}(W:EW w ws){P:List Pl.Pc}(O:Whole ws P)(t:Int):JH ws ((71 68).filter λj=>decide (Pl.E P j<=t)) t:=by
 intro j hj;obtain⟨hj,ej⟩:=mem_filter.mp hj;have hj:j<ws.length:=by simpa using hj
 have ej:Pl.E P j<=t:=iY ej;generalize hD:((71 68).filter λj=>decide (Pl.E P j<=t)).filter (λi=>decide (cmN ws j<=cmN ws i))=D;have mD:∀i∈D,i<68/\Pl.E P i<=t/\cmN ws j<=cmN ws i:=λi hi=>by
  rw[<- hD]at hi;obtain⟨h1,h2⟩:=mem_filter.mp hi;obtain⟨h3,h4⟩:=mem_filter.mp h1;exact⟨by simpa using h3,iY h4,iY h2⟩
 have nD:D.Nodup:=by rw[<- hD];exact(nodup_range.filter _).filter _
 have hp:∀p∈P,decide (p.1∈D)=true->(cmN ws j:Int)<=p.2.1/\p.2.1<p.2.2/\p.2.2<=t:=λp hp hm=>by
  obtain⟨h1,h2,h3⟩:=mD _ (iY hm);have h4:=O.ea p hp;have h5:p.2.2<=Pl.E P p.1:=Pl.last_ge (v:=0) O.ok p hp rfl;exact⟨by omega,h4.2.2,by omega⟩
 have hcd:(cmN ws j:Int)<=t:=by
  obtain⟨p,hpP,rfl⟩:=O.has W hj;have h4:=O.ea p hpP;have h5:p.2.2<=Pl.E P p.1:=Pl.last_ge (v:=0) O.ok p hpP rfl;omega
 have tot:=Pl.tot_le (λp=>decide (p.1∈D)) (c:=(cmN ws j:Int)) (T:=t) O.pw hp hcd;have es:(D.map (Pl.dn P)).sum=(sl (lnN ws) D:Int):=by
  have:D.map (Pl.dn P)=D.map λk=>(lnN ws k:Int):=ji λk hk=>O.dn k (mD k hk).1;rw[this];clear this tot hp mD nD hD
  induction D with
  |nil=>rfl
  |cons x r ih=>simp only[sl,gq,hJ]at ih ⊢;omega
 have sd:=Pl.sum_dn nD P;rw[es]at sd;omega
end T52
namespace Mh
open Lt
def ins(l:Int):List Int->List Int
 |[]=>[l]
 |a::r=>if l<=a then l::a::r else a::ins l r
def pre(A:List Int)(k:Nat):Int:=(A.take k).sum
theorem KP(l:Int):∀A:List Int,(ins l A).length=A.length+1
 |[]=>rfl
 |a::r=>by
  unfold ins;split
  .rfl
  .simp[KP l r]
theorem ins_perm(l:Int):∀A:List Int,(ins l A).Perm (l::A)
 |[]=>.refl _
 |a::r=>by
  unfold ins;split
  .exact .refl _
  .exact((ins_perm l r).cons a).trans (List.Perm.swap l a r)
theorem ins_sorted(l:Int):∀{A:List Int},A.Pairwise (·<=·)->(ins l A).Pairwise (·<=·)
 |[],_=>by simp[ins]
 |a::r,h=>by
  unfold ins;obtain⟨h1,h2⟩:=pairwise_cons.mp h;split
  .next q=>
   refine pairwise_cons.mpr ⟨λx hx=>?_,h⟩;rcases mem_cons.mp hx with rfl|hx
   .exact q
   .have:=h1 x hx;omega
  .next q=>
   refine pairwise_cons.mpr ⟨λx hx=>?_,ins_sorted l h2⟩;rcases mem_cons.mp ((ins_perm l r).mem_iff.mp hx)with rfl|hx
   .omega
   .exact h1 x hx
def DQ(A:List Int):pre A 0=0:=by simp[pre]
def Cl(a:Int)(r:List Int)(k:Nat):pre (a::r) (k+1)=a+pre r k:=by simp[pre]
theorem Mw{l:Int}:∀{B:List Int} {k:Nat},(∀x∈B,l<=x)->k<B.length->pre B k+l<=pre B (k+1)
 |[],k,_,h=>by simp at h
 |b::r,0,hl,_=>by
  rw[Cl,DQ,DQ];have:=hl b 75;omega
 |b::r,k+1,hl,h=>by
  rw[Cl,Cl];have:=Mw (B:=r) (k:=k) (λx hx=>hl x (by simp[hx])) (by simpa using h);omega
theorem KI{l:Int}:∀{A:List Int} {k:Nat},A.Pairwise (·<=·)->k<=A.length->pre (ins l A) (k+1)=if k<A.length then min (pre A (k+1)) (pre A k+l)else pre A k+l
 |[],k,_,h=>by
  have:k=0:=by simpa using h
  subst this;simp[ins,pre]
 |a::r,k,hs,h=>by
  obtain⟨h1,h2⟩:=pairwise_cons.mp hs;unfold ins;split
  .next q=>
   rw[Cl];have all:∀x∈a::r,l<=x:=λx hx=>by
    rcases mem_cons.mp hx with rfl|hx
    .exact q
    .have:=h1 x hx;omega
   split
   .next c=>
    have:=Mw all c;omega
   .omega
  .next q=>
   rw[Cl];cases k with
   |zero=>
    rw[gi 75,Cl,DQ,DQ,DQ];omega
   |succ k=>
    rw[KI h2 (by simpa using h),Cl,Cl];by_cases c:k<r.length
    .rw[gi c,gi (by simpa using c)];omega
    .rw[gj c,gj (by simpa using c)];omega
def keep(d l:Int)(A:List Int):List Int:=if A.sum+l<=d then ins l A else(ins l A).dropLast
def tabl(A:List Int)(k:Nat):Option Int:=if k<=A.length then some (pre A k)else none
def Of(A:List Int):pre A A.length=A.sum:=by simp[pre]
def UN{A:List Int}(hp:∀x∈A,0<=x)(k:Nat):pre A k<=A.sum:=by
 have:A.sum=(A.take k).sum+(A.drop k).sum:=by rw[<- sum_append,j4]
 have nn:0<=(A.drop k).sum:=by
  have:∀B:List Int,(∀x∈B,0<=x)->0<=B.sum:=by
   intro B
   induction B with
   |nil=>intro _;simp
   |cons b r ih=>intro h;have:=ih λx hx=>h x (by simp[hx]);have:=h b 75;simp;omega
  exact this _ λx hx=>hp x (List.mem_of_mem_drop hx)
 unfold pre;omega
def step{A:List Int}{d l:Int}(hs:A.Pairwise (·<=·))(hp:∀x∈A,0<=x)(hl:0<=l)(hd:A≠[]->A.sum<=d)(k:Nat):Ap (l,d,1) (tabl A) k=tabl (keep d l A) k:=by
 unfold Ap;cases k with
 |zero=>
  have e:tabl (keep d l A) 0=some 0:=by simp[tabl,DQ]
  rw[e];simp[comb,tabl,DQ]
 |succ k=>
  have hk1:¬ (k+1<1):=by omega
  simp only[gj hk1,Nat.add_sub_cancel];have li:=KP l A;have lk:(keep d l A).length=if A.sum+l<=d then A.length+1 else A.length:=by
   unfold keep;split
   .exact li
   .simp[li]
  have pk:k+1<=(keep d l A).length->pre (keep d l A) (k+1)=pre (ins l A) (k+1):=by
   intro h;unfold keep at h ⊢;split
   .rfl
   .next c=>
    rw[gj c]at h;unfold pre;rw[List.dropLast_eq_take,List.take_take]
    congr 2
    simp[li]at h ⊢;omega
  by_cases c1:k+1<=A.length
  .have e1:tabl A (k+1)=some (pre A (k+1)):=gi c1;have e2:tabl A k=some (pre A k):=gi 67;have hk:k+1<=(keep d l A).length:=by rw[lk];split<;>omega
   have e3:tabl (keep d l A) (k+1)=some (min (pre A (k+1)) (pre A k+l)):=by
    unfold tabl;rw[gi hk,pk hk,KI hs 67,gi 67]
   rw[e1,e2,e3];unfold behind;dsimp only;have hne:A≠[]:=λz=>by rw[z]at c1;simp at c1
   have hm:=UN hp (k+1);have:=hd hne;split
   .unfold comb;dsimp only;split<;>(congr 1;omega)
   .unfold comb;dsimp only
    congr 1;omega
  .have e1:tabl A (k+1)=none:=gj c1;rw[e1];by_cases c2:k=A.length
   .subst c2;have e2:tabl A A.length=some A.sum:=by unfold tabl;rw[gi (gm _),Of]
    rw[e2];unfold behind;dsimp only;by_cases c3:A.sum+l<=d
    .have hk:A.length+1<=(keep d l A).length:=by rw[lk,gi c3];exact gm _
     rw[gi c3];unfold tabl;rw[gi hk,pk hk,KI hs (gm _),gj (iJ _),Of];rfl
    .have hk:¬ A.length+1<=(keep d l A).length:=by rw[lk,gj c3];omega
     rw[gj c3];unfold tabl;rw[gj hk];rfl
   .have e2:tabl A k=none:=gj 67;have hk:¬ k+1<=(keep d l A).length:=by rw[lk];split<;>omega
    rw[e2];unfold tabl;rw[gj hk];rfl
end Mh
namespace T52.Tb
open PySem L2 Bd
open Lt (En Wx AM more IsMin sel)
def T4{w:Nat}{F:List D->Hd->Option 104}{m:MA}{ls:Ls}{hd:Hd}{QE:D->Hd->Prop}(h:WA m ls hd λds x=>∃pre rest,x=pre++rest/\pre.length=w/\Ao w ds=true/\pre.all (clO w)=true/\WF F ds pre λd y=>∃i pre' g,d=.im i/\y=pre'++g/\pre'.length=w/\pre'.all (clO w)=true/\QE (.im i) (pre'++rest)):WE (A8 w F m) ls hd QE:=by
 obtain⟨ds,x,e,pre,rest,rfl,hw,hc,hp,d,y,e2,i,pre',g,rfl,rfl,lp,cp,q⟩:=h;exact⟨_,_,JC (w:=w) (pre:=pre) (pre':=pre') (rest:=rest) (g:=g) hw lp e hc hp cp e2,q⟩
def N1{B c:Int}{ws:List Wm}(ok:okMs B c ws)(h1:∀w∈ws,w.wt=1):WF C2 [.im (wmsI ws)] [] λd x=>d=.im (.int 1):=by
 obtain⟨hne,hl8,hc,hws⟩:=ok;have hl0:0<ws.length:=DX hne;unfold C2;refine AX rfl ?_;refine A9 (AF (AA (A3 (A7 (A0 rfl (AE (AH (by rw[ET,CD]) (FT (k:=0) hl0) (A4 ⟨by simp[wmI],(weight_w _).mono ?_⟩))))))));rintro d x rfl;refine⟨_,rfl,A5 ?_⟩;rw[h1 _ (List.getElem_mem hl0)];refine A9 (AW (B0 (B2 98)));rw[CD];refine⟨AS 79,?_⟩;refine Ar wmD (λ_=>some (.im (.bl false))) (λ_ ls=>∃x,ls=[some x,some (.im (.int 1))]) _ (AQ _) ?_ ?_
 .rintro p hp ls hls;refine⟨[some (wmD p),some (.im (.int 1))],by rcases hls with rfl|⟨_,x,rfl⟩<;>rfl,⟨_,rfl⟩,Az ⟨rfl,?_⟩⟩;rw[gi rfl];refine⟨_,rfl,A7 (AA (A3 (A0 rfl (A4 ⟨by simp[wmI],(weight_w p).mono ?_⟩))))⟩;rintro d y rfl;rw[h1 p hp];exact⟨_,rfl,A0 rfl (EQ ⟨rfl,by simp⟩)⟩
 have e:(ws.filterMap λ_=>some (D.im (.bl false)))=blD (ws.map λ_=>false):=by simp[blD]
 rw[e];refine⟨_,by rw[Gg,EA];rfl,_,rfl,?_⟩;exact⟨(λh=>by simp at h),λ_=>AO (A5 (AT (A0 rfl rfl)))⟩
def lnOf(ws:List Wm)(k:Nat):Int:=(ws[k]?.map Wm.len).getD 0
def Va{ws:List Wm}{k:Nat}(hk:k<68):(ws[k]).len=lnOf ws k:=by simp[lnOf,hk]
end T52.Tb
namespace Mh
def moore:List (Int×Int)->List Int->List Int
 |[],A=>A
 |(l,d)::r,A=>moore r (keep d l A)
def moore_snoc(L:List (Int×Int))(l d:Int):∀A,moore (L++[(l,d)]) A=keep d l (moore L A):=by
 induction L with
 |nil=>intro A;rfl
 |cons p r ih=>intro A;obtain⟨x,y⟩:=p;exact ih _
def NK{A:List Int}(hs:A.Pairwise (·<=·))(hne:A≠[]):∀x∈A,x<=A.getLast hne:=by
 intro x hx;have e:=List.dropLast_concat_getLast hne;rw[<- e]at hx;rcases mem_append.mp hx with q|q
 .rw[<- e]at hs;exact(pairwise_append.mp hs).2.2 x q _ 75
 .simp at q;omega
def drop_perm{α:Type}[DecidableEq α]{ks:List α}{f:α->Int}{A:List Int}{b:α}(hs:A.Pairwise (·<=·))(pm:(ks.map f).Perm A)(hb:b∈ks)(hm:∀x∈ks,f x<=f b):((ks.erase b).map f).Perm A.dropLast:=by
 have hne:A≠[]:=λz=>by
  have:=pm.length_eq;rw[z]at this;have:ks=[]:=by simpa using this
  rw[this]at hb;cases hb
 have p1:ks.Perm (b::ks.erase b):=List.perm_cons_erase hb;have p2:(f b::(ks.erase b).map f).Perm A:=((p1.map f).symm.trans pm)
 have e:f b=A.getLast hne:=by
  have h1:=NK hs hne (f b) (p2.mem_iff.mp gy);have h2:A.getLast hne<=f b:=by
   obtain⟨x,hx,ex⟩:=mem_map.mp (pm.mem_iff.mpr (List.getLast_mem hne));rw[<- ex];exact hm x hx
  omega
 have p3:A.Perm (f b::A.dropLast):=by
  have:=List.dropLast_concat_getLast hne;rw[<- e]at this
  conv=>lhs;rw[<- this]
  exact List.perm_append_comm
 exact(p2.trans p3).cons_inv
def O9{A:List Int}{d l:Int}(hs:A.Pairwise (·<=·)):(keep d l A).Pairwise (·<=·):=by
 unfold keep;split
 .exact ins_sorted l hs
 .exact(ins_sorted l hs).sublist (List.dropLast_sublist _)
theorem moore_sorted:∀(L:List (Int×Int)) {A:List Int},A.Pairwise (·<=·)->(moore L A).Pairwise (·<=·)
 |[],_,h=>h
 |(l,d)::r,_,h=>moore_sorted r (O9 h)
end Mh
namespace T52.Tb
open PySem L2 Bd
open Lt (En Wx AM more IsMin sel)
def Zx{L M:List Int}(h:L.Perm M):L.sum=M.sum:=by
 induction h with
 |nil=>rfl
 |cons x _ ih=>simp[ih]
 |swap x y l=>simp;omega
 |trans _ _ ih1 ih2=>exact ih1.trans ih2
theorem era(i:Int):∀L:List Int,L.eraseIdx (L.idxOf i)=L.erase i
 |[]=>rfl
 |y::r=>by
  rw[List.idxOf_cons,List.erase_cons];by_cases h:y=i
  .subst h;simp
  .have h1:(y==i)=false:=by simpa using h
   rw[h1];simp only[cond_false,List.eraseIdx_cons_succ,Bool.false_eq_true,ip];rw[era i r]
abbrev lnI(ws:List Wm)(i:Int):Int:=lnOf ws i.toNat
def lds(ws:List Wm)(L:List Int):List (Int×Int):=L.map λi=>(lnI ws i,dueOf ws i.toNat)
def wa_sorted{mi:MI}{ls:Ls}{hd:Hd}{QA:List D->Hd->Prop}(h:WI mi ls hd λp x=>∃ns:List Int,p.1=intD ns/\ns.length<64/\QA (intD (As ns)) x):WA (Bl mi) ls hd QA:=by
 obtain⟨p,x,e,ns,e1,hl,q⟩:=h;refine⟨_,_,?_,q⟩;simp only[Bl,e,gw,e1,Fh,hl,i3]
def SE{ws:List Wm}{ns:List Int}(hk:∀i∈ns,∃k:Nat,k<68/\i=k)(hl:ns.length<=100):WF EL [.im (wmsI ws),.mu 0] [.lst (intD ns)] λd x=>d=.im (.int (ns.map (lnI ws)).sum)/\x=[.lst (intD ns)]:=by
 unfold EL;refine AX rfl ?_;refine AT (B2 (Ad (Dg (A0 rfl ⟨0,intD ns,rfl,rfl,AS (by simp[intD];omega),?_⟩))));refine Ar (λi:Int=>D.im 106) (λi=>some (.im (.int (lnI ws i)))) (λ_ ls=>∃x,ls=[some x,some (.im (wmsI ws))]) _ (by intro q hq;rw[i4]at hq;subst hq;rfl) ?_ ?_
 .rintro i hi ls hls;obtain⟨k,hkn,rfl⟩:=hk i hi;refine⟨[some (.im 95),some (.im (wmsI ws))],by rcases hls with rfl|⟨_,x,rfl⟩<;>rfl,⟨_,rfl⟩,Az ⟨rfl,?_⟩⟩;rw[gi rfl];refine⟨_,rfl,A7 (A7 (A0 rfl (A0 rfl (AH (by rw[ET,CD]) (FT hkn) (AE (AH (ds:=[.im (.int (ws[k]).len),.im (.int (ws[k]).com),.im (.tup [.str "miss",.int (ws[k]).due,.int (ws[k]).wt])]) rfl (Ct _ _) ⟨rfl,?_⟩))))))⟩;rw[Va hkn];rfl
 have e:(ns.filterMap λi=>some (D.im (.int (lnI ws i))))=intD (ns.map (lnI ws)):=by simp[intD]
 rw[e];exact⟨_,by unfold Gf;rw[Fh];rfl,rfl,rfl⟩
def kfD(ws:List Wm):D->Int|.im (.int i)=>lnI ws i|_=>0
def put_out_w{ws:List Wm}(ok:okMs 2000 0 ws)(h1:∀w∈ws,w.wt=1):WF Fm [.im (wmsI ws)] [] λd x=>∃is js,d=.im (.tup [.tup is,js])/\is.length=(Mh.moore (lds ws (ordI ws)) []).length:=by
 have hl8:=ok.2.1;unfold Fm;refine AX rfl ?_;refine A9 (AF (AA (A3 (A0 rfl (A4 ⟨by simp,(Jj ok).mono ?_⟩)))));rintro d x rfl;refine⟨_,rfl,A5 ?_⟩;refine A9 (Aq (AA (A3 (A0 rfl (A4 ⟨by simp,(N1 ok h1).mono ?_⟩)))));rintro d x rfl;refine⟨_,rfl,A5 ?_⟩;refine A9 (AF (BC (CC (A4 ⟨DC,A5 ?_⟩))));change WS _ [some (.im (wmsI ws)),some (.im (.int 0)),some (.mu 0),none] [.lst []] _;refine A9 (Bn (Dg (HL (A3 (A0 rfl (A4 ⟨[],[.lst []],rfl,rfl,by simp,rfl,(Hz ok 77).mono ?_⟩))))));rintro d x ⟨rfl,rfl⟩;refine⟨0,_,[],_,rfl,gm _,rfl,rfl,rfl,rfl,Dd _ _,1,intD (ordI ws),rfl,rfl,?_⟩;refine Bo (λr ls hd=>∃(dn rest ns:List Int) (z3:Option D),ordI ws=dn++rest/\r=intD rest/\ls=[some (.im (wmsI ws)),some (.im (.int 0)),some (.mu 0),z3]/\hd=[.lst (intD ns),.lst (intD (ordI ws))]/\(∀i∈ns,i∈dn)/\ns.length<=dn.length/\(ns.map (lnI ws)).Perm (Mh.moore (lds ws dn) [])) ⟨[],ordI ws,[],none,rfl,rfl,rfl,rfl,by simp,by simp,.refl _⟩ ?_ ?_
 .rintro d r ls hd ⟨dn,rest,ns,z3,e1,er,rfl,rfl,hsub,hle,pm⟩;cases rest with
  |nil=>cases er
  |cons i rest=>
   obtain⟨rfl,rfl⟩:=List.cons.inj er;obtain⟨k,hk,rfl⟩:=ord_mem (ws:=ws) (i:=i) (by rw[e1];simp);have hdl:dn.length<ws.length:=by have:=ord_len ws;rw[e1]at this;simp at this;omega
   have hmem:∀i∈ns++[(k:Int)],∃k:Nat,k<68/\i=k:=λi hi=>by
    rcases mem_append.mp hi with q|q
    .exact ord_mem (by rw[e1];exact iE _ (hsub i q))
    .rw[i4]at q;exact⟨k,hk,q⟩
   have srt:=Mh.moore_sorted (lds ws dn) (A:=[]) .nil;have eL:lds ws (dn++[(k:Int)])=lds ws dn++[(lnI ws k,dueOf ws k)]:=by simp[lds]
   have eM:Mh.moore (lds ws (dn++[(k:Int)])) []=Mh.keep (dueOf ws k) (lnI ws k) (Mh.moore (lds ws dn) []):=by rw[eL,Mh.moore_snoc]
   have pm1:((ns++[(k:Int)]).map (lnI ws)).Perm (Mh.ins (lnI ws k) (Mh.moore (lds ws dn) [])):=by
    rw[iL];refine(List.perm_append_comm).trans ?_;exact((pm.cons _)).trans (Mh.ins_perm _ _).symm
   have hsum:((ns++[(k:Int)]).map (lnI ws)).sum=(Mh.moore (lds ws dn) []).sum+lnI ws k:=by
    have e2:=Zx pm;rw[iL,sum_append,e2];simp
   refine⟨[some (.im (wmsI ws)),some (.im (.int 0)),some (.mu 0),some (.im 95)],rfl,?_⟩;refine A9 (Aq (Dh (A0 rfl ⟨⟨_,rfl⟩,A3 (A0 rfl (A4 (F5 rfl (Cq (by simp[intD];omega)) (A5 ?_))))⟩)));have eh:([MO.lst (intD ns),.lst (intD (ordI ws))]:Hd).set 0 (.lst (intD ns++[.im 95]))=[.lst (intD (ns++[(k:Int)])),.lst (intD (ordI ws))]:=by simp[intD]
   rw[eh];refine AW (AK (A7 (A7 (A0 rfl (T4 (A3 (A0 rfl (A3 (A0 rfl (A4 ⟨[.lst (intD (ns++[(k:Int)]))],[.lst (intD (ordI ws))],rfl,rfl,by simp[wmI,clD],by simp[clO,Dd,intD],(SE hmem 79).mono ?_⟩))))))))));rintro d x ⟨rfl,rfl⟩;refine⟨_,[.lst (intD (ns++[(k:Int)]))],[],rfl,rfl,rfl,by simp[clO,Dd,intD],BA ?_⟩;refine A7 (A7 (A7 (A0 rfl (A0 rfl (AH (by rw[ET,CD]) (FT hk) (AE (AH (ds:=[.im (.int (ws[k]).len),.im (.int (ws[k]).com),.im (.tup [.str "miss",.int (ws[k]).due,.int (ws[k]).wt])]) rfl (Ep _ _ _ _) (AE (AH (ds:=[.im (.str "miss"),.im (.int (ws[k]).due),.im (.int (ws[k]).wt)]) rfl (DT _ _ _) (Es ⟨_,rfl,λh=>?_,λh=>?_⟩))))))))))
   .have h:(Mh.moore (lds ws dn) []).sum+lnI ws k>dueOf ws k:=by
     rw[Js hk,hsum]at h;have:=iY h;omega
    obtain⟨i0,is0,e0⟩:∃i0 is0,ns++[(k:Int)]=i0::is0:=by
     cases ns with
     |nil=>exact⟨_,_,rfl⟩
     |cons a r=>exact⟨_,_,rfl⟩
    have ks:=Mh.ins_sorted (lnI ws k) srt;have bm:=JD (kfD ws) (intD is0) (.im (.int i0));obtain⟨b,hb,eb⟩:∃b,b∈ns++[(k:Int)]/\DL (λn m=>decide (n>m)) (intD is0) ((intD is0).map (kfD ws)) (.im (.int i0)) (kfD ws (.im (.int i0)))=.im (.int b):=by
     have h2:DL (λn m=>decide (n>m)) (intD is0) ((intD is0).map (kfD ws)) (.im (.int i0)) (kfD ws (.im (.int i0)))∈intD (i0::is0):=bm.1;obtain⟨b,hb,eb⟩:=mem_map.mp h2;exact⟨b,by rw[e0];exact hb,eb.symm⟩
    have hbm:∀x∈ns++[(k:Int)],lnI ws x<=lnI ws b:=λx hx=>by
     have h3:=bm.2 (.im (.int x)) (by rw[e0]at hx;exact(show D.im (.int x)∈intD (i0::is0)from mem_map.mpr ⟨x,hx,rfl⟩));rw[eb]at h3;exact h3
    refine Aq (Dh (A0 rfl ⟨⟨_,rfl⟩,A3 (T6 (A0 rfl ⟨.im (.int i0),intD is0,kfD ws,?_,λy hy=>?_,?_⟩))⟩))
    .show some (intD (ns++[(k:Int)]))=_;rw[e0];rfl
    .obtain⟨x,hx,rfl⟩:=mem_map.mp (show y∈intD (i0::is0)from hy);obtain⟨kk,hkk,rfl⟩:=hmem x (by rw[e0];exact hx);have w:WE (mOp gIx (mOp gIx 108 81) 107) [some (.im (.int (kk:Int))),some (.im (wmsI ws))] [.lst (intD (ns++[(k:Int)])),.lst (intD (ordI ws))] λd x=>d=.im (.int (lnI ws kk))/\x=[.lst (intD (ns++[(k:Int)])),.lst (intD (ordI ws))]:=by
      refine A7 (A7 (A0 rfl (A0 rfl (AH (by rw[ET,CD]) (FT hkk) (AE (AH (ds:=[.im (.int (ws[kk]).len),.im (.int (ws[kk]).com),.im (.tup [.str "miss",.int (ws[kk]).due,.int (ws[kk]).wt])]) rfl (Ct _ _) ⟨?_,rfl⟩))))));rw[Va hkk];rfl
     obtain⟨d,x,e,rfl,rfl⟩:=w;exact e
    .rw[eb];refine A4 (Qp (ns:=ns++[(k:Int)]) rfl hb ?_);rw[era];refine⟨by intro q hq;rw[i4]at hq;subst hq;rfl,dn++[(k:Int)],rest,(ns++[(k:Int)]).erase b,_,by rw[e1];simp,rfl,rfl,rfl,λi hi=>?_,?_,?_⟩
     .rcases mem_append.mp (List.mem_of_mem_erase hi)with q|q
      .exact iE _ (hsub i q)
      .exact gv _ q
     .rw[List.length_erase_of_mem hb];simp;omega
     .rw[eM];unfold Mh.keep;rw[gj 67];exact Mh.drop_perm ks pm1 hb hbm
   .have h:¬ (Mh.moore (lds ws dn) []).sum+lnI ws k>dueOf ws k:=by
     rw[Js hk,hsum]at h;have:=of_decide_eq_false h;omega
    refine AO ⟨by intro q hq;rw[i4]at hq;subst hq;rfl,dn++[(k:Int)],rest,ns++[(k:Int)],_,by rw[e1];simp,rfl,rfl,rfl,λi hi=>?_,by simp;omega,?_⟩
    .rcases mem_append.mp hi with q|q
     .exact iE _ (hsub i q)
     .exact gv _ q
    .rw[eM];unfold Mh.keep;rw[gi 67];exact pm1
 .rintro ls hd ⟨dn,rest,ns,z3,e1,er,rfl,rfl,hsub,hle,pm⟩;have:rest=[]:=by cases rest with
   |nil=>rfl
   |cons t r=>cases er
  subst this;rw[iF]at e1;have hdl:dn.length=ws.length:=by rw[<- e1];exact ord_len ws
  refine A5 (AT (B1 (A3 (B2 (wa_sorted (Dg (A0 rfl ⟨0,intD ns,rfl,rfl,ns,rfl,by omega,_,rfl,?_⟩)))))));refine A3 (B2 (Ad (HK (A3 (BI (A3 (A0 rfl (A4 (Bf rfl rfl (A4 ⟨(ws.length:Int),by simp,E3 67 67,?_⟩))))))))));rw[ik,GT];refine⟨AS (by simp[C6];omega),?_⟩;refine Ar (λk:Nat=>D.im 95) (λk=>if ¬ (k:Int)∈ns then some (.im 95)else none) (λ_ ls=>∃x,ls=[some x,some (.mu 0)]) _ (AQ _) ?_ ?_
  .rintro k hk' ls hls;refine⟨[some (.im 95),some (.mu 0)],by rcases hls with rfl|⟨_,x,rfl⟩<;>rfl,⟨_,rfl⟩,?_⟩;refine AK (A7 (A0 rfl (A0 rfl (YR (xs:=ns) rfl ⟨_,rfl,rfl,?_⟩))));by_cases q:(k:Int)∈ns
   .rw[gj (by simp[q])];exact gj (λz=>z q)
   .rw[gi (by simp[q])];exact⟨_,gi q,A0 rfl ⟨rfl,rfl⟩⟩
  have ei:((71 68).filterMap λk:Nat=>if ¬ (k:Int)∈ns then some (D.im 95)else none)=intD (((71 68).filter λk:Nat=>decide (¬ (k:Int)∈ns)).map λk:Nat=>(k:Int)):=by
   generalize 71 68=L
   induction L with
   |nil=>rfl
   |cons x r ih=>
    rw[iZ,ic];by_cases h:(x:Int)∈ns
    .simp[h]at ih ⊢;exact ih
    .simp[h,intD]at ih ⊢;exact ih
  rw[ei];have mi:∀L:List Int,AY (intD L)=.im (.tup (L.map I.int)):=λL=>by
   have:intD L=(L.map I.int).map D.im:=by simp[intD]
   rw[this,Ax]
  refine⟨_,rfl,A4 ⟨DB,?_⟩⟩;rw[mi,mi,Xl];refine⟨_,_,rfl,?_⟩;rw[hX,(Aa ns).length_eq,e1,<- pm.length_eq,hX]
end T52.Tb
namespace Mh
open Lt
def Uo{A:List Int}{d l x:Int}(h:x∈keep d l A):x=l∨x∈A:=by
 have:x∈ins l A:=by
  unfold keep at h;split at h
  .exact h
  .exact(List.dropLast_sublist _).subset h
 exact mem_cons.mp ((ins_perm l A).mem_iff.mp this)
def cF{L M:List Int}(h:L.Perm M):L.sum=M.sum:=by
 induction h with
 |nil=>rfl
 |cons x _ ih=>simp[ih]
 |swap x y l=>simp;omega
 |trans _ _ ih1 ih2=>exact ih1.trans ih2
def Um{A:List Int}{d l:Int}(hs:A.Pairwise (·<=·))(hd:A≠[]->A.sum<=d)(hne:keep d l A≠[]):(keep d l A).sum<=d:=by
 unfold keep at hne ⊢;have e:=cF (ins_perm l A);rw[hJ]at e;split
 .next c=>omega
 .next c=>
  rw[gj c]at hne;have hA:A≠[]:=λz=>by rw[z]at hne;simp[ins]at hne
  have hi:ins l A≠[]:=λz=>by have:=KP l A;rw[z]at this;simp at this
  have e2:=List.dropLast_concat_getLast hi;have e3:(ins l A).sum=(ins l A).dropLast.sum+(ins l A).getLast hi:=by
   conv=>lhs;rw[<- e2]
   rw[sum_append];simp
  have:=NK (ins_sorted l hs) hi l ((ins_perm l A).mem_iff.mpr gy);have:=hd hA;omega
def toW(p:Int×Int):Wx:=(p.1,p.2,1)
theorem table_moore{L:List (Int×Int)}(hl:∀p∈L,0<=p.1)(hd:L.Pairwise λp q=>p.2<=q.2):∀k,k<=L.length->(∀w,IsMin (sel w (AM 0 (L.map toW) k)) (tabl (moore (L.take k) []) w))/\(∀x∈moore (L.take k) [],0<=x)/\(∀j,k<=j->∀q,L[j]?=some q->moore (L.take k) []≠[]->(moore (L.take k) []).sum<=q.2)
 |0,_=>by
  refine⟨λw=>?_,by simp[moore],λj _ q _ h=>by simp[moore]at h⟩;unfold AM sel;by_cases h:w=0
  .subst h;exact .inr ⟨0,by simp[tabl,moore,pre],by simp,by simp⟩
  .have h':¬ (0=w):=λz=>h z.symm;exact .inl ⟨by simp[tabl,moore,h],by simp[h']⟩
 |k+1,hk=>by
  obtain⟨ih1,ih2,ih3⟩:=table_moore hl hd k 67;have hkl:k<L.length:=by omega
  have ek:L[k]?=some L[k]:=List.getElem?_eq_getElem hkl;have et:L.take (k+1)=L.take k++[L[k]]:=by rw[List.take_succ,ek];rfl
  have em:moore (L.take (k+1)) []=keep (L[k]).2 (L[k]).1 (moore (L.take k) []):=by rw[et,moore_snoc]
  have hl0:=hl L[k] (List.getElem_mem hkl);have hs:=moore_sorted (L.take k) (A:=[]) .nil;have hle:=ih3 k (gm _) _ ek;refine⟨λw=>?_,λx hx=>?_,λj hj q hq hne=>?_⟩
  .have hx:(L.map toW)[k]?=some (toW L[k]):=by rw[List.getElem?_map,ek];rfl
   have:=Lt.next_min (c:=0) hx (f:=tabl (moore (L.take k) [])) (w:=w) (ih1 w) λ_=>ih1 _;rw[em,<- step hs ih2 hl0 hle w];exact this
  .rw[em]at hx;rcases Uo hx with rfl|hx
   .exact hl0
   .exact ih2 x hx
  .rw[em]at hne ⊢;have h1:=Um hs hle hne;have h2:(L[k]).2<=q.2:=by
    obtain⟨hjl,rfl⟩:=84 hq;exact List.pairwise_iff_getElem.mp hd k j hkl hjl 67
   omega
end Mh
namespace T52
open PySem L2 Bd S7
open Lt (Wx En AM more sel IsMin)
abbrev Cr(ws:List Wk)(P:List Pl.Pc)(t:Int):Nat:=((71 68).filter λj=>decide (Pl.E P j<=t)).length
def NI{w:Int}{ws:List Wk}(W:EW w ws){lf:Nat->Nat}{P:List Pc}{T:Nat}{G:Nat->Nat->Nat}(S0:St 68 (lnN ws) (cmN ws) lf P T G)(z:∀j,j<68->lf j=0){t:Int}{S:List Nat}(nd:S.Nodup)(hS:∀i∈S,i<68)(F:JH ws S t):S.length<=Cr ws P t:=by
 by_cases q:S=[]
 .subst q;simp
 .obtain⟨j,hj⟩:=List.exists_mem_of_ne_nil _ q;have e1:=F j hj;obtain⟨τ,eτ⟩:∃τ:Nat,t=(τ:Int):=⟨t.toNat,by omega⟩
  subst eτ;by_cases ht:τ<=T
  .refine ia (Ow S0.H ht nd hS (λi hi=>(D8 W (hS i hi)).2.1) λj hj=>?_) ?_
   .have:=F j hj;omega
   .unfold Cr;rw[<- jj,<- jj];refine List.countP_mono_left λj hj hp=>?_;have hj:j<ws.length:=by simpa using hj
    have hp:cmN ws j<=τ/\G τ j=0:=by simpa using hp
    exact i9 ((S0.en j hj (z j hj) τ ht).mp hp.2)
  .have all:((71 68).filter λj=>decide (Pl.E P j<=(τ:Int)))=71 ws.length:=List.filter_eq_self.mpr λj hj=>by
    have hj:j<ws.length:=by simpa using hj
    have:=(S0.en j hj (z j hj) T (gm _)).mp (by rw[S0.gl,z j hj]);exact i9 67
   unfold Cr;rw[all];exact Jf nd λx hx=>by simpa using hS x hx
def OD{w:Int}{ws:List Wk}(W:EW w ws){lf:Nat->Nat}{P:List Pc}{T:Nat}{G:Nat->Nat->Nat}(S0:St 68 (lnN ws) (cmN ws) lf P T G)(z:∀j,j<68->lf j=0){P':List Pl.Pc}(O:Whole ws P')(t:Int):Cr ws P' t<=Cr ws P t:=
 NI W S0 z (nodup_range.filter _) (λi hi=>by simpa using (mem_filter.mp hi).1) (O.fit W t)
abbrev mr(t:Int)(ws:List Wk):List Int:=Mh.moore (Tb.lds (tw t ws) (Tb.ordI (tw t ws))) []
def ak{w t:Int}{ws:List Wk}(W:EW w ws):(Tb.lds (tw t ws) (Tb.ordI (tw t ws))).map Mh.toW=Tb.wxs (tw t ws):=by
 unfold Tb.lds Tb.wxs;rw[i5];refine ji λi hi=>?_;obtain⟨k,hk,rfl⟩:=Tb.ord_mem hi;rw[BN]at hk;simp[Function.comp,Mh.toW,Tb.lnI,Tb.lnOf,Tb.dueOf,JM hk,Tb.wx]
def S4{w t:Int}{ws:List Wk}(W:EW w ws)(h0:-1000<=t)(h1:t<=1000):(∃e∈AM 0 (Tb.wxs (tw t ws)) 68,e.2.1=(mr t ws).length)/\∀e∈AM 0 (Tb.wxs (tw t ws)) 68,e.2.1<=(mr t ws).length:=by
 have ok:=GN W h0 h1;have hl:(Tb.lds (tw t ws) (Tb.ordI (tw t ws))).length=ws.length:=by simp[Tb.lds,Tb.ord_len,BN]
 have hp:∀p∈Tb.lds (tw t ws) (Tb.ordI (tw t ws)),0<=p.1:=λp hp=>by
  obtain⟨i,hi,rfl⟩:=mem_map.mp hp;obtain⟨k,hk,rfl⟩:=Tb.ord_mem hi;rw[BN]at hk;have:=(D8 W hk).1;simp[Tb.lnI,Tb.lnOf,JM hk];omega
 have ri:(Tb.lds (tw t ws) (Tb.ordI (tw t ws))).Pairwise λp q=>p.2<=q.2:=by
  unfold Tb.lds;rw[iI];exact Gu ok 77
 obtain⟨tm,_,_⟩:=Mh.table_moore hp ri 68 67;rw[List.take_of_length_le 67,ak W]at tm;generalize hE:AM 0 (Tb.wxs (tw t ws)) 68=E at *;show(∃e∈E,e.2.1=(Mh.moore (Tb.lds (tw t ws) (Tb.ordI (tw t ws))) []).length)/\∀e∈E,e.2.1<=(Mh.moore (Tb.lds (tw t ws) (Tb.ordI (tw t ws))) []).length;generalize hM:Mh.moore (Tb.lds (tw t ws) (Tb.ordI (tw t ws))) []=M at *;refine⟨?_,λe he=>Nat.le_of_not_lt λhlt=>?_⟩
 .have h1:=tm M.length;unfold Mh.tabl at h1;rw[gi (gm _)]at h1;rcases h1 with⟨h,_⟩|⟨m,_,hm,_⟩
  .cases h
  .obtain⟨e,he,rfl⟩:=mem_map.mp hm;exact⟨e,(mem_filter.mp he).1,by simpa using (mem_filter.mp he).2⟩
 .have h1:=tm e.2.1;unfold Mh.tabl at h1;rw[gj 67]at h1;rcases h1 with⟨_,h⟩|⟨m,h,_⟩
  .have:e.2.2∈sel e.2.1 E:=mem_map.mpr ⟨e,mem_filter.mpr ⟨he,by simp⟩,rfl⟩;rw[h]at this;cases this
  .cases h
def S5{w t:Int}{ws:List Wk}(W:EW w ws)(h0:-1000<=t)(h1:t<=1000){lf:Nat->Nat}{P:List Pc}{T:Nat}{G:Nat->Nat->Nat}(S0:St 68 (lnN ws) (cmN ws) lf P T G)(z:∀j,j<68->lf j=0)(O:Whole ws P):(mr t ws).length=Cr ws P t:=by
 obtain⟨⟨e,he,e1⟩,hm⟩:=S4 W h0 h1;refine Nat.le_antisymm ?_ ?_
 .obtain⟨S,n1,n2,n3,_,n5⟩:=J8 W h0 h1 _ (gm _) e he;rw[<- e1,n3];refine NI W S0 z n1 (λi hi=>?_) n5;obtain⟨k2,q1,q2⟩:=Tb.ord_mem (ws:=tw t ws) (List.mem_of_mem_take (n2 i hi));rw[BN]at q1;omega
 .obtain⟨e',he',e2⟩:=SS W h0 h1 (nodup_range.filter λj=>decide (Pl.E P j<=t)) (λi hi=>by simpa using (mem_filter.mp hi).1) (O.fit W t);have:=hm e' he';rw[e2]at this;exact this
def Sd{w t:Int}{ws:List Wk}(W:EW w ws)(h0:-1000<=t)(h1:t<=1000):WF Cz [.im (Ac ws),.im (.int t)] [] λd _=>d=.im (.int ((mr t ws).length:Int)):=by
 unfold Cz;refine AX rfl ?_;refine AT (BI (A3 (A7 (AA (A3 (AA (A3 (A0 rfl (A3 (A0 rfl (A4 ⟨by simp,(GO W).mono ?_⟩)))))))))));rintro d x rfl;refine⟨_,rfl,A4 ⟨by simp,(Tb.put_out_w (GN W h0 h1) (λw hw=>by obtain⟨v,_,rfl⟩:=mem_map.mp hw;rfl)).mono ?_⟩⟩;rintro d x ⟨is,js,rfl,hl⟩;refine⟨_,rfl,AE (AH (ds:=[.im (.tup is),.im js]) rfl (Ct _ _) (A4 (Bf rfl rfl ?_)))⟩;show _=_;rw[hX,hl]
def Nc{n:Nat}(E:Nat->Int)(t:Int):((71 n).filter λj=>decide (E j<=t)).length=(As ((71 n).map E)).countP λx=>decide (x<=t):=by
 rw[(Aa _).countP_eq,List.countP_map,<- jj];rfl
def bJ{L:List Int}(hs:L.Pairwise (·<=·)){i:Nat}{e:Int}(h:L[i]?=some e):i+1<=L.countP λx=>decide (x<=e):=by
 obtain⟨hi,rfl⟩:=84 h;have e1:L.countP (λx=>decide (x<=L[i]))=(L.take (i+1)).countP (λx=>decide (x<=L[i]))+(L.drop (i+1)).countP (λx=>decide (x<=L[i])):=by rw[<- List.countP_append,j4]
 have e2:(L.take (i+1)).countP (λx=>decide (x<=L[i]))=(L.take (i+1)).length:=by
  rw[List.countP_eq_length];intro x hx;obtain⟨j,hj,rfl⟩:=List.mem_iff_getElem.mp hx;rw[List.getElem_take];rw[iG]at hj;by_cases q:j=i
  .subst q;simp
  .exact i9 (List.pairwise_iff_getElem.mp hs j i 67 hi 67)
 rw[iG]at e2;omega
def Ym{n:Nat}{E E':Nat->Int}(h:∀t,((71 n).filter λj=>decide (E' j<=t)).length<=((71 n).filter λj=>decide (E j<=t)).length){i:Nat}{a b:Int}(ha:(As ((71 n).map E))[i]?=some a)(hb:(As ((71 n).map E'))[i]?=some b):a<=b:=by
 refine Int.not_lt.mp λq=>?_;have h1:=h b;rw[Nc,Nc]at h1;have h2:=bJ (Br _) hb;have h3:=JP (Br _) ha q;omega
open Tb (D6 Aw we_isN rowI tabI)
abbrev AL(n:Nat)(i:I):Prop:=WF (F4 n) [.im i,.im i] [] λd _=>d=.im (.bl true)
def bP(n:Nat)(o:Option Int):AL (n+1) (D6 o):=by
 unfold AL;unfold F4;refine AX rfl ?_;refine A9 (AW (AK (we_isN (A0 rfl ⟨o,rfl,_,rfl,λh=>?_,λh=>AO (A5 ?_)⟩))))
 .refine AT (we_isN (A0 rfl ⟨o,rfl,?_⟩));rw[h];rfl
 .cases o with
  |none=>simp at h
  |some x=>
   refine A9 (AW (B0 (Di (A0 rfl ⟨false,rfl,_,rfl,(λh=>by cases h),λ_=>AO (A5 ?_)⟩))));refine A9 (AW (B0 (Di (A0 rfl ⟨false,rfl,_,rfl,(λh=>by cases h),λ_=>AO (A5 ?_)⟩))));refine AT (F0 (AK (Di (A0 rfl ⟨true,rfl,_,rfl,?_⟩))));rw[gi rfl];refine F0 (AK (OJ (AK (Di (A0 rfl ⟨false,rfl,_,rfl,_,rfl,?_⟩)))));rw[gi (show(!false)=true from rfl)];refine A7 (A0 rfl (A0 rfl (CB ?_)));simp
def YT{ma mb:MI}{ls:Ls}{hd:Hd}{QI:List D×Gd->Hd->Prop}(h:WI ma ls hd λp x=>WI mb ls x λq y=>GOk y p.2/\QI (List.zipWith (λx y=>AY [x,y]) p.1 q.1,p.2++q.2) y):WI (KJ ma mb) ls hd QI:=by
 obtain⟨p,x,e1,q,y,e2,g,k⟩:=h;exact⟨_,_,by simp only[KJ,e1,gw,e2,g,i3],k⟩
def Vp{neg:Bool}{ma:ME}{ls:Ls}{hd:Hd}{QE:D->Hd->Prop}(h:WE ma ls hd λd x=>∃i:I,d=.im i/\i≠.non/\QE (.im (.bl neg)) x):WE (Bh neg ma) ls hd QE:=by
 obtain⟨d,x,e,i,rfl,hi,q⟩:=h;refine⟨_,x,?_,q⟩;unfold Bh;rw[e];cases i<;>first|rfl|exact absurd rfl hi
def Ss{n:Nat}{is:List I}(hl:is.length<=100)(h:∀i∈is,AL n i):AL (n+1) (.tup is):=by
 unfold AL;unfold F4;refine AX rfl ?_;refine A9 (AW (AK (Vp (A0 rfl ⟨_,rfl,(λq=>by cases q),_,rfl,(λq=>by cases q),λ_=>AO (A5 ?_)⟩))));refine A9 (AW (B0 (Di (A0 rfl ⟨true,rfl,_,rfl,λ_=>?_,(λh=>by cases h)⟩))));refine A9 (AW (EC (Bm (B0 (Di (A0 rfl ⟨true,rfl,_,rfl,?_⟩))))));rw[gj 75];refine AK (A7 (BI (A3 (A0 rfl (A4 (Bf rfl rfl (BI (A3 (A0 rfl (A4 (Bf rfl rfl (EQ ⟨_,rfl,?_⟩))))))))))));refine⟨(λh=>by simp at h),λ_=>AO (A5 ?_)⟩;refine AT (B2 (Ad (YT (BG (A0 rfl ⟨is.map D.im,rfl,BG (A0 rfl ⟨is.map D.im,rfl,AQ _,?_⟩)⟩)))));have ez:List.zipWith (λx y=>AY [x,y]) (is.map D.im) (is.map D.im)=is.map λi=>D.im (.tup [i,i]):=by
  clear hl h
  induction is with
  |nil=>rfl
  |cons i r ih=>simp[ih]
 rw[ez];refine⟨AS 79,?_⟩;refine Ar (λi=>D.im (.tup [i,i])) (λ_=>some (.im (.bl true))) (λ_ ls=>∃x y,ls=[some x,some y]) _ (AQ _) ?_ ?_
 .rintro i hi ls hls;refine⟨[some (.im i),some (.im i)],by rcases hls with rfl|⟨_,x,y,rfl⟩<;>rfl,⟨_,_,rfl⟩,Az ⟨rfl,?_⟩⟩;rw[gi rfl];refine⟨_,rfl,AA (A3 (A0 rfl (A3 (A0 rfl (A4 ⟨by simp,(h i hi).mono ?_⟩)))))⟩;rintro d x rfl;exact⟨_,rfl,rfl,rfl⟩
 have e:(is.filterMap λ_=>some (D.im (.bl true)))=blD (is.map λ_=>true):=by simp[blD]
 rw[e];refine⟨.im (.bl true),?_,rfl⟩;rw[J0,EA];simp
def Su(n:Nat){N:Nat}(hN:N<=100)(f:Nat->Option Int):AL (n+2) (rowI N f):=Ss 79 λi hi=>by
 obtain⟨w,_,rfl⟩:=mem_map.mp hi;exact bP n _
def bO{n N:Nat}(hn:n<=50)(hN:N<=100)(f:Nat->Nat->Option Int):AL 4 (tabI n N f):=Ss 79 λi hi=>by
 obtain⟨k,_,rfl⟩:=mem_map.mp hi;exact Su 1 hN _
def later_w{u w d:Int}:WF EM [.im (.tup [.str "miss",.int u,.int w]),.im (.int d)] [] λr _=>r=.im (.tup [.str "miss",.int (u+d),.int w]):=by
 unfold EM;refine AX rfl ?_;refine A9 (AW (EC (AK (A7 (A7 (A0 rfl (AE (AH (ds:=[.im (.str "miss"),.im (.int u),.im (.int w)]) rfl (Ct _ _) (AE (G5 ⟨_,rfl,?_⟩))))))))));rw[gj 77];refine AK (A7 (A7 (A0 rfl (AE (AH (ds:=[.im (.str "miss"),.im (.int u),.im (.int w)]) rfl (Ct _ _) (AE (G5 ⟨_,rfl,(λq=>absurd q 77),λ_=>AO (A5 ?_)⟩)))))));refine AT (A7 (B1 (A3 (A7 (A0 rfl (AE (AH (ds:=[.im (.str "miss"),.im (.int u),.im (.int w)]) rfl (Ct _ _) (A3 (A7 (A7 (A0 rfl (AE (AH (ds:=[.im (.str "miss"),.im (.int u),.im (.int w)]) rfl (DT _ _ _) (A0 rfl (BA (A4 ⟨DB,?_⟩))))))))))))))));refine YV (A0 rfl (Vl (AE ⟨_,rfl,bW ⟨[.im (.str "miss"),.im (.int u),.im (.int w)],rfl,?_⟩⟩)));exact Tb.wp_catN (is:=[.str "miss",.int (u+d)]) (js:=[.int w]) 75 rfl
def moved_w{u w d:Int}:WF Dx [.im (.tup [.str "miss",.int u,.int w]),.im (.int d)] [] λr _=>r=.im (.tup [.str "miss",.int (u+d),.int w]):=by
 unfold Dx;refine AX rfl ?_;refine A9 (AW (AK (A7 (A7 (A0 rfl (AE (AH (ds:=[.im (.str "miss"),.im (.int u),.im (.int w)]) rfl (Ct _ _) (AE (G5 ⟨_,rfl,(λq=>absurd q 77),λ_=>AO (A5 ?_)⟩)))))))));refine A9 (AW (AK (A7 (A7 (A0 rfl (AE (AH (ds:=[.im (.str "miss"),.im (.int u),.im (.int w)]) rfl (Ct _ _) (AE (G5 ⟨_,rfl,(λq=>absurd q 77),λ_=>AO (A5 ?_)⟩)))))))));refine AT (AA (A3 (A0 rfl (A3 (A0 rfl (A4 ⟨by simp,later_w.mono ?_⟩))))));rintro r x rfl;exact⟨_,rfl,rfl⟩
inductive I_ln(k n:Nat)(r:List D)(ls:Ls)(hd:Hd):Prop
 |mk (left seq:List Nat) (a b:MO) (z4:Option D) (h0:r=Aj (seq.length:Int) (n-seq.length)) (h1:ls=[some (.mu 1),some (.im (.int (n:Int))),some (.mu 2),some (.mu 3),z4]) (h2:hd=[a,b,.lst (C6 left),.lst (C6 seq)]) (h3:T (k+left.length) a b) (h4:(seq++left).Perm (71 n)):I_ln k n r ls hd
def ag(k:Nat)(n:Nat)(hn:n<=8):∀a b,T (k+20) a b->WF GK [.mu 1,.im (.int (n:Int))] [a,b] λd x=>∃(seq:List Nat) (a' b' c:MO),d=.mu 3/\x=[a',b',c,.lst (C6 seq)]/\T k a' b'/\seq.Perm (71 n):=by
 intro a b hT;unfold GK;refine AX rfl ?_;refine A9 (AF (BC (Vq rfl (Tg 67 67) (A5 ?_))));refine A9 (AF (BC (CC (A4 ⟨DC,A5 ?_⟩))));refine A9 (Bn (HK (A3 (A0 rfl (A4 ⟨_,rfl,E3 67 67,?_⟩)))));refine Bo (I_ln k n) (.mk (71 n) [] a b none 75 rfl ?_ (tap.le hT 79) 75) ?_ ?_
 .rw[ik,GT];rfl
 .intro d r ls hd hI;obtain⟨left,seq,a,b,z4,er,rfl,rfl,hT,pm⟩:=hI;have sl:seq.length+left.length=n:=by simpa using pm.length_eq
  obtain⟨m,hm⟩:∃m,n-seq.length=m+1:=by
   cases q:n-seq.length with
   |zero=>rw[q]at er;cases er
   |succ m=>exact⟨m,rfl⟩
  rw[hm,Aj]at er;obtain⟨rfl,rfl⟩:=List.cons.inj er;obtain⟨l,hl2⟩:∃l,left.length=l+1:=⟨left.length-1,by omega⟩
  rw[hl2]at hT;refine⟨[some (.mu 1),some (.im (.int (n:Int))),some (.mu 2),some (.mu 3),some (.im (.int (seq.length:Int)))],rfl,?_⟩;refine Aq (Dh (A0 rfl ⟨⟨_,rfl⟩,A3 (Dh (A0 rfl ⟨⟨_,rfl⟩,A3 ?_⟩))⟩));refine tap.draw (many:=(left.length:Int)) (rest:=[.lst (C6 left),.lst (C6 seq)]) hT (by simp[BH]) 67 67 λr a b hT pr qr=>?_;have hr:r.toNat<left.length:=by omega
  have e1:left[r.toNat]?=some left[r.toNat]:=by simp[hr]
  refine A4 (T0 rfl (E3 67 67) (Y6 (n:=(C6 left).length) pr 79) (by simp[e1];rfl) ?_);refine A4 (F5 rfl (Cq 79) ?_);refine⟨AQ _,left.eraseIdx r.toNat,seq++[left[r.toNat]],a,b,_,?_,rfl,?_,by rw[List.length_eraseIdx,gi hr];exact tap.le hT (show k+(left.length-1)<=k+l by omega),(Rn e1).trans pm⟩
  .rw[iM,List.length_singleton,show n-(seq.length+1)=m by omega];rfl
  .have er:(C6 left).eraseIdx r.toNat=C6 (left.eraseIdx r.toNat):=erase_map _ _ _;simp[er]
 .intro ls hd hI;obtain⟨left,seq,a,b,z4,er,rfl,rfl,hT,pm⟩:=hI;have sl:seq.length+left.length=n:=by simpa using pm.length_eq
  have:left=[]:=by
   cases q:n-seq.length with
   |zero=>exact List.eq_nil_of_length_eq_zero 67
   |succ m=>rw[q]at er;cases er
  subst this;rw[iF]at pm;exact A5 (AT (A0 rfl ⟨seq,a,b,_,rfl,rfl,tap.le hT 75,pm⟩))
end T52
namespace T52.Tb
open PySem L2 Bd
abbrev Lw(c lo hv sp:Int)(m:Int)(z8 z9 z10 z11 z12 z13:Option D):Ls:=[some (.mu 1),some (.im (.int 8)),some (.im (.int m)),some (.im (.int c)),some (.im (.int lo)),some (.im (.int hv)),some (.im (.int sp)),some (.mu 2),z8,z9,z10,z11,z12,z13]
inductive I_late_works_w(n k:Nat)(c lo hv sn:Int)(r:List D)(ls:Ls)(hd:Hd):Prop
 |mk (j:Nat) (ws:List Wm) (a b:MO) (z8 z9 z10 z11 z12 z13:Option D) (h0:r=Aj (j:Int) (k-j)) (h1:j<=k) (h2:68=j) (h3:(∀w∈ws,okM 500 c w)) (h4:ls=Lw c lo hv sn (k:Int) z8 z9 z10 z11 z12 z13) (h5:hd=[a,b,.lst (ws.map wmD)]) (h6:T (n+10*(k-j)) a b):I_late_works_w n k c lo hv sn r ls hd
inductive J_d1(c lo hv sn:Int)(k j n:Nat)(way ln wt:Int)(z13:Option D)(ws:List Wm)(f:Fl)(x:Hd):Prop
 |mk (due:Int) (a b:MO) (h0:f=Fl.nx (Lw c lo hv sn (k:Int) (some (.im (.int (j:Int)))) (some (.im (.int way))) (some (.im (.int (1+ln)))) (some (.im (.int due))) (some (.im (.int wt))) z13)) (h1:x=[a,b,.lst (ws.map wmD)]) (h2:(-500<=due/\due<=500)) (h3:T (n+10*(k-(j+1))+5) a b):J_d1 c lo hv sn k j n way ln wt z13 ws f x
inductive J_d2(c lo hv sn:Int)(k j n:Nat)(way ln wt:Int)(z13:Option D)(ws:List Wm)(f:Fl)(x:Hd):Prop
 |mk (due:Int) (a b:MO) (h0:f=Fl.nx (Lw c lo hv sn (k:Int) (some (.im (.int (j:Int)))) (some (.im (.int way))) (some (.im (.int (1+ln)))) (some (.im (.int due))) (some (.im (.int wt))) z13)) (h1:x=[a,b,.lst (ws.map wmD)]) (h2:(-500<=due/\due<=500)) (h3:T (n+10*(k-(j+1))+4) a b):J_d2 c lo hv sn k j n way ln wt z13 ws f x
inductive J_d3(c lo hv sn:Int)(k j n:Nat)(way ln due wt:Int)(ws:List Wm)(f:Fl)(x:Hd):Prop
 |mk (w:Wm) (a b:MO) (h0:f=Fl.nx (Lw c lo hv sn (k:Int) (some (.im (.int (j:Int)))) (some (.im (.int way))) (some (.im (.int (1+ln)))) (some (.im (.int due))) (some (.im (.int wt))) (some (wmD w)))) (h1:x=[a,b,.lst (ws.map wmD)]) (h2:okM 500 c w) (h3:T (n+10*(k-(j+1))+3) a b):J_d3 c lo hv sn k j n way ln due wt ws f x
def NJ(n:Nat):∀a b,T (n+100) a b->WF Dy [.mu 1,.im (.int 8)] [a,b] λd x=>∃i a' b' g,d=.im i/\(∃ws c,i=wmsI ws/\okMs 500 c ws)/\T n a' b'/\x=a'::b'::g:=by
 intro a b hT;unfold Dy;refine AX rfl ?_;refine A9 (AF (A7 (AE ?_)));refine tap.draw hT rfl (by first|decide|omega) (by first|decide|omega) λm a b hT pm qm=>?_;refine BA (A5 (A9 (AF ?_)));refine tap.draw hT rfl (by first|decide|omega) (by first|decide|omega) λc a b hT pc qc=>?_;refine A5 (A9 (AF (G6 (CC (A3 (AE (A3 (AE (A3 (AE (A4 ⟨C1,?_⟩)))))))))));refine tap.draw hT rfl (by first|decide|omega) (by first|decide|omega) λr2 a b hT pr2 qr2=>?_;obtain⟨d2,hd2,ed2⟩:=at3 pr2 qr2 (.im (.int 20)) (.im (.int 5)) (.im (.int 2));refine⟨_,_,rfl,ed2,?_⟩;obtain⟨lo,rfl,hlo⟩:∃t,d2=.im (.int t)/\(2<=t/\t<=20):=by
  rcases hd2 with rfl|rfl|rfl<;>exact⟨_,rfl,by omega,by omega⟩
 refine A5 (A9 (AF (G6 (CC (A3 (AE (A3 (AE (A3 (AE (A4 ⟨C1,?_⟩)))))))))));refine tap.draw hT rfl (by first|decide|omega) (by first|decide|omega) λr3 a b hT pr3 qr3=>?_;obtain⟨d3,hd3,ed3⟩:=at3 pr3 qr3 (.im (.int 9)) (.im (.int 3)) (.im (.int 1));refine⟨_,_,rfl,ed3,?_⟩;obtain⟨hv,rfl,hhv⟩:∃t,d3=.im (.int t)/\(1<=t/\t<=9):=by
  rcases hd3 with rfl|rfl|rfl<;>exact⟨_,rfl,by omega,by omega⟩
 refine A5 (A9 (AF (A7 (AE (A7 (A7 (A0 rfl (A0 rfl ?_))))))));refine JJ (D0 67 67) ?_;refine A7 (AE ?_);refine tap.draw hT rfl (by first|decide|omega) (by first|decide|omega) λr4 a b hT pr4 qr4=>?_;refine BA ?_;refine Vk ⟨by omega,by omega⟩ ?_;refine BA (A5 (A9 (AF (BC (CC (A4 ⟨DC,A5 (A9 (Bn (HK (A3 (A0 rfl (A4 ⟨_,rfl,?_⟩))))))⟩))))));have hsp:0<=(1+m)*lo/(1+r4)/\(1+m)*lo/(1+r4)<=160:=by
  have h1:0<=(1+m)*lo:=Int.mul_nonneg 67 67;have h2:(1+m)*lo<=8*lo:=Int.mul_le_mul_of_nonneg_right 67 67;refine⟨Int.ediv_nonneg h1 67,?_⟩;have:(1+m)*lo/(1+r4)<=(1+m)*lo:=Int.ediv_le_self _ h1;omega
 generalize hS:2+(1+m)*lo/(1+r4)=sn at *;refine⟨E3 67 67,?_⟩;obtain⟨k,hk⟩:=Int.eq_ofNat_of_zero_le (show 0<=1+m by omega);rw[hk,ik];change WP (BD _ _ _ _ (Lw c lo hv sn (k:Int) none none none none none none) [a,b,.lst []]) _;have hT:T (n+10*(k-0)) a b:=tap.le hT 67;refine Bo (I_late_works_w n k c lo hv sn) ⟨0,[],a,b,none,none,none,none,none,none,rfl,by omega,rfl,by simp,rfl,rfl,hT⟩ ?_ ?_
 .rintro d r ls hd ⟨j,ws,a,b,z8,z9,z10,z11,z12,z13,er,hj,hl,hws,rfl,rfl,hT⟩;obtain⟨m',hm⟩:∃m,k-j=m+1:=by
   cases q:k-j with
   |zero=>rw[q]at er;cases er
   |succ m=>exact⟨m,rfl⟩
  rw[hm,Aj]at er;obtain⟨rfl,rfl⟩:=List.cons.inj er;have hT:T (n+10*(k-(j+1))+10) a b:=tap.le hT 67;refine⟨Lw c lo hv sn (k:Int) (some (.im (.int (j:Int)))) z9 z10 z11 z12 z13,rfl,?_⟩;have atw:∀r:Int,0<=r->r<j->∃w∈ws,atI (ws.map wmD) r=some (wmD w):=by
   intro r h0 h1;obtain⟨i,hi⟩:=Int.eq_ofNat_of_zero_le h0;have hi':i<ws.length:=by omega
   exact⟨ws[i],List.getElem_mem hi',Eo hi (by simp[hi'])⟩
  refine A9 (AF ?_);refine tap.draw hT rfl (by first|decide|omega) (by first|decide|omega) λway a b hT pway qway=>?_;refine A5 (A9 (AF (A7 (AE ?_))));refine tap.draw hT rfl (by first|decide|omega) (by first|decide|omega) λln a b hT pln qln=>?_;refine BA (A5 (A9 (AF (A7 (A7 (A0 rfl (AE (BL ?_))))))));refine tap.draw hT rfl (by first|decide|omega) (by first|decide|omega) λdu a b hT pdu qdu=>?_;refine BA (A5 (A9 (AF ?_)));refine tap.draw hT (many:=hv+1) (rest:=[.lst (ws.map wmD)]) 75 67 67 λwt a b hT pwt qwt=>A5 ?_;change WS _ (Lw c lo hv sn (k:Int) (some (.im (.int (j:Int)))) (some (.im (.int way))) (some (.im (.int (1+ln)))) (some (.im (.int (c-1+du)))) (some (.im (.int wt))) z13) [a,b,.lst (ws.map wmD)] _
  -- the due
  refine A9 (WP.mono (Q:=J_d1 c lo hv sn k j n way ln wt z13 ws) (AW (AK (A7 (A0 rfl (AE (CB ⟨_,rfl,λhc=>?_,λhc=>AO ⟨_,a,b,rfl,rfl,by omega,tap.le hT 67⟩⟩)))))) ?_)
  .refine AF (A7 ?_);refine tap.draw hT rfl (by first|decide|omega) (by first|decide|omega) λr5 a b hT pr5 qr5=>?_;exact AE (BL ⟨r5-99,a,b,rfl,rfl,by omega,tap.le hT 67⟩)
  rintro f x ⟨due,a,b,rfl,rfl,hdu,hT⟩;refine A5 ?_;refine A9 (WP.mono (Q:=J_d2 c lo hv sn k j n way ln wt z13 ws) (AW (EO (AK (A7 (A0 rfl (AE (CB ⟨_,rfl,?_⟩))))))) ?_)
  .by_cases h1:way=1
   .rw[gi (by simpa using h1)];refine AK (A7 (A0 rfl (AE (Es ⟨_,rfl,λhc=>?_,λhc=>AO ⟨due,a,b,rfl,rfl,hdu,tap.le hT 67⟩⟩))));have hc:0<(j:Int):=by simpa using hc
    refine AF (A7 (A7 (A7 (A0 rfl ?_))));refine tap.draw hT (many:=(j:Int)) (rest:=[.lst (ws.map wmD)]) 75 67 67 λr a b hT pr qr=>?_;obtain⟨w,hw,ew⟩:=atw r pr qr;have okw:=hws w hw;refine AH rfl ew (AE (AH (ds:=[.im (.int w.len),.im (.int w.com),.im (.tup [.str "miss",.int w.due,.int w.wt])]) rfl (Ep _ _ _ _) (AE (AH (ds:=[.im (.str "miss"),.im (.int w.due),.im (.int w.wt)]) rfl (DT _ _ _) ⟨w.due,a,b,rfl,rfl,okw.2.2.1,hT⟩))))
   .rw[gj (by simpa using h1)];exact⟨(λh=>by cases h),λ_=>AO ⟨due,a,b,rfl,rfl,hdu,tap.le hT 67⟩⟩
  rintro f x ⟨due,a,b,rfl,rfl,hdu,hT⟩;refine A5 ?_;refine A9 (AF (B1 (A3 (A0 rfl (A3 (A0 rfl (A3 (B1 (A3 (AE (A3 (A0 rfl (A3 (A0 rfl (A4 ⟨C1,A4 ⟨C1,A5 ?_⟩⟩)))))))))))))));have okn:okM 500 c ⟨1+ln,c,due,wt⟩:=⟨by dsimp only;omega,rfl,hdu,by dsimp only;omega⟩
  have e0:AY [.im (.int (1+ln)),.im (.int c),AY [.im (.str "miss"),.im (.int due),.im (.int wt)]]=wmD ⟨1+ln,c,due,wt⟩:=rfl;rw[e0];change WS _ (Lw c lo hv sn (k:Int) (some (.im (.int (j:Int)))) (some (.im (.int way))) (some (.im (.int (1+ln)))) (some (.im (.int due))) (some (.im (.int wt))) (some (wmD ⟨1+ln,c,due,wt⟩))) [a,b,.lst (ws.map wmD)] _;refine A9 (WP.mono (Q:=J_d3 c lo hv sn k j n way ln due wt ws) (AW (EO (AK (A7 (A0 rfl (AE (CB ⟨_,rfl,?_⟩))))))) ?_)
  .by_cases h1:way=2
   .rw[gi (by simpa using h1)];refine AK (A7 (A0 rfl (AE (Es ⟨_,rfl,λhc=>?_,λhc=>AO ⟨_,a,b,rfl,rfl,okn,tap.le hT 67⟩⟩))));have hc:0<(j:Int):=by simpa using hc
    refine AF (A7 (A0 rfl ?_));refine tap.draw hT (many:=(j:Int)) (rest:=[.lst (ws.map wmD)]) 75 67 67 λr a b hT pr qr=>?_;obtain⟨w,hw,ew⟩:=atw r pr qr;exact AH rfl ew ⟨w,a,b,rfl,rfl,hws w hw,hT⟩
   .rw[gj (by simpa using h1)];exact⟨(λh=>by cases h),λ_=>AO ⟨_,a,b,rfl,rfl,okn,tap.le hT 67⟩⟩
  rintro f x ⟨w,a,b,rfl,rfl,okw,hT⟩;refine A5 (Aq (Dh (A0 rfl ⟨⟨_,rfl⟩,A3 (A0 rfl (A4 (F5 rfl (Cq 79) ?_)))⟩)));exact⟨AQ _,j+1,ws++[w],a,b,_,_,_,_,_,_,by rw[show((j:Int)+1)=((j+1:Nat):Int) by omega,show m'=k-(j+1) by omega],by omega,by simp[hl],λz hz=>by rcases mem_append.mp hz with q|q;exact hws z q;rw[i4]at q;subst q;exact okw,rfl,by simp,tap.le hT 67⟩
 .rintro ls hd ⟨j,ws,a,b,z8,z9,z10,z11,z12,z13,er,hj,hl,hws,rfl,rfl,hT⟩;have:j=k:=by
   cases q:k-j with
   |zero=>omega
   |succ m=>rw[q]at er;cases er
  subst this;refine A5 (AT (BI (A3 (A0 rfl (A4 (Bf rfl rfl ?_))))));rw[<- CD,Ax];exact⟨_,a,b,_,rfl,⟨ws,c,rfl,λz=>by rw[z]at hl;simp at hl;omega,by omega,by omega,hws⟩,tap.le hT 67,rfl⟩
end T52.Tb
namespace T52.Tb
open PySem L2 Bd
open Lt (IsMin comb behind Ap sel AM Wx lS wS FitS)
def mv(d:Int)(w:Wm):Wm:=⟨w.len,w.com+d,w.due+d,w.wt⟩
def VY{c d:Int}{ws:List Wm}(ok:okMs 500 c ws)(h0:0<=c+d)(h1:c+d<=60):okMs 600 (c+d) (ws.map (mv d)):=by
 obtain⟨n0,n8,c0,a⟩:=ok;refine⟨by simpa using n0,by simpa using n8,⟨h0,h1⟩,λw hw=>?_⟩;obtain⟨v,hv,rfl⟩:=mem_map.mp hw;obtain⟨a1,a2,a3,a4⟩:=a v hv;exact⟨a1,by show v.com+d=_;rw[a2],by show -600<=v.due+d/\v.due+d<=600;omega,a4⟩
def Rz{d:Int}{ws:List Wm}{k:Nat}(hk:k<68):dueOf (ws.map (mv d)) k=dueOf ws k+d:=by
 simp[dueOf,hk,mv]
def dW{B c:Int}{ws:List Wm}(ok:okMs B c ws)(hB:B<=2000):(ordI ws).Pairwise λa b=>Ag (dueOf ws a.toNat,a)<=Ag (dueOf ws b.toNat,b):=by
 have w2:(CO (duePs ws)).Pairwise λa b=>Ag a<=Ag b:=HU _;have p2:(CO (duePs ws)).Perm (duePs ws):=JQ _;unfold ordI;rw[iI];refine w2.imp_of_mem λ{a b} ha hb hab=>?_
 have fa:∀a∈CO (duePs ws),dueOf ws a.2.toNat=a.1:=λa ha=>by
  obtain⟨k,hk,rfl⟩:=mem_map.mp (p2.mem_iff.mp ha);rfl
 rw[fa a ha,fa b hb];exact hab
def aY{c d:Int}{ws:List Wm}(ok:okMs 500 c ws)(h0:0<=c+d)(h1:c+d<=60):ordI (ws.map (mv d))=ordI ws:=by
 have p:=ord_perm ws;refine(Rs (VY ok h0 h1) 77 (by simpa using p) ?_).symm;refine(dW ok 77).imp_of_mem λ{a b} ha hb hab=>?_
 obtain⟨i,hi,rfl⟩:=ord_mem ha;obtain⟨j,hj,rfl⟩:=ord_mem hb;rw[ik,ik]at hab ⊢;rw[Rz hi,Rz hj];unfold Ag at hab ⊢;dsimp only at hab ⊢;omega
abbrev up(d:Int)(x:Wx):Wx:=(x.1,x.2.1+d,x.2.2)
def N5{c d:Int}{ws:List Wm}(ok:okMs 500 c ws)(h0:0<=c+d)(h1:c+d<=60):wxs (ws.map (mv d))=(wxs ws).map (up d):=by
 unfold wxs;rw[aY ok h0 h1,i5];refine ji λi hi=>?_;obtain⟨k,hk,rfl⟩:=ord_mem hi;simp[hk,wx,mv,up]
abbrev sh(d:Int)(o:Option Int):Option Int:=o.map (·+d)
def W0(d:Int)(x:Wx)(f:Nat->Option Int)(w:Nat):Ap (up d x) (λw=>sh d (f w)) w=sh d (Ap x f w):=by
 unfold Ap;have hb:∀o:Option Int,behind x.1 (x.2.1+d) (sh d o)=sh d (behind x.1 x.2.1 o):=λo=>by
  cases o with
  |none=>rfl
  |some e=>
   simp only[sh,i8,behind];by_cases q:e+x.1<=x.2.1
   .rw[gi q,gi 67,i8,show e+d+x.1=e+x.1+d by omega]
   .rw[gj q,gj 67];rfl
 have hc:∀a b:Option Int,comb (sh d a) (sh d b)=sh d (comb a b):=λa b=>by
  cases a<;>cases b<;>simp only[sh,i8,Option.map_none,comb];split<;>split<;>first|rfl|omega
 by_cases q:w<x.2.2
 .rw[gi q,gi q];exact hc (f w) none
 .rw[gj q,gj q,hb,hc]
theorem M2(c d:Int)(L:List Wx):∀k w,fT (c+d) (L.map (up d)) k w=sh d (fT c L k w)
 |0,w=>by
  unfold fT;split<;>rfl
 |k+1,w=>by
  rw[fT,fT,List.getElem?_map];cases h:L[k]? with
  |none=>rfl
  |some x=>
   simp only[i8];rw[<- W0]
   congr 1
   funext w
   exact M2 c d L k w
def wxs_len(ws:List Wm):(wxs ws).length=ws.length:=by unfold wxs;rw[hX,ord_len]
def GM(ws:List Wm):(wxs ws).Perm (ws.map wx):=by
 unfold wxs;refine((ord_perm ws).map _).trans ?_;rw[i5];have:(71 68).map ((λi:Int=>(ws[i.toNat]?.map wx).getD (0,0,0)) ∘ λk:Nat=>(k:Int))=ws.map wx:=by
  apply ext_getElem
  .simp
  .intro i h1 h2;simp at h1;simp[h1]
 rw[this]
def IE{B c:Int}{ws:List Wm}(ok:okMs B c ws)(hB:B<=2000):(wxs ws).Pairwise λx y=>x.2.1<=y.2.1:=by
 unfold wxs;rw[iI];refine(Gu ok hB).imp_of_mem λ{a b} ha hb hab=>?_
 obtain⟨i,hi,rfl⟩:=ord_mem ha;obtain⟨j,hj,rfl⟩:=ord_mem hb;simpa [hi,hj,wx,dueOf]using hab
def OG{B c:Int}{ws:List Wm}(ok:okMs B c ws):∀x∈wxs ws,0<=x.1:=λx hx=>by
 obtain⟨w,hw,rfl⟩:=mem_map.mp ((GM ws).mem_iff.mp hx);have:=(ok.2.2.2 w hw).1.1;show 0<=w.len;omega
def SH{c:Int}{ws us:List Wm}(p:us.Perm ws)(ok:okMs 500 c ws)(ok':okMs 500 c us)(w:Nat):fT c (wxs us) us.length w=fT c (wxs ws) 68 w:=by
 have h1:=fT_min c (wxs us) (wxs us).length (gm _) w;have h2:=fT_min c (wxs ws) (wxs ws).length (gm _) w;have pp:(wxs us).Perm (wxs ws):=(GM us).trans ((p.map wx).trans (GM ws).symm);rw[wxs_len]at h1 h2;refine h1.uniq (h2.congr λe=>?_);rw[<- wxs_len us,<- wxs_len ws];exact⟨Lt.sel_perm pp.symm (OG ok) (IE ok 77) (IE ok' 77) w e,Lt.sel_perm pp (OG ok') (IE ok' 77) (IE ok 77) w e⟩
def Yh{S L:List Wx}(h:List.Sublist S L):wS S<=wS L:=by
 induction h with
 |slnil=>exact gm _
 |cons x _ ih=>simp only[wS,gq,hJ]at ih ⊢;omega
 |cons_cons x _ ih=>simp only[wS,gq,hJ]at ih ⊢;omega
def bZ{B c:Int}{ws:List Wm}(ok:okMs B c ws):∃m,m<=(fullW ws).toNat/\(fT c (wxs ws) 68 m).isSome=true/\∀w,(fT c (wxs ws) 68 w).isSome=true->w<=m:=by
 have fw:wS (wxs ws)=(fullW ws).toNat:=by
  rw[Lt.wS_perm (GM ws)];have hw:∀w∈ws,0<=w.wt:=λw hw=>(ok.2.2.2 w hw).2.2.2.1;clear ok;have:(wS (ws.map wx):Int)=fullW ws:=by
   induction ws with
   |nil=>rfl
   |cons x r ih=>
    have ih:=ih λw h=>hw w (by simp[h]);have:=hw x 75;simp only[wS,gq,hJ,fullW,wx]at ih ⊢;omega
  omega
 have is:∀w,(fT c (wxs ws) 68 w).isSome=true↔∃e,e∈sel w (AM c (wxs ws) (wxs ws).length):=λw=>by
  have h:=fT_min c (wxs ws) (wxs ws).length (gm _) w;rw[wxs_len]at h ⊢;rcases h with⟨h1,h2⟩|⟨m,h1,h2,_⟩
  .rw[h1,h2];simp
  .rw[h1];exact⟨λ_=>⟨m,h2⟩,λ_=>rfl⟩
 refine MJ (λw=>(fT c (wxs ws) 68 w).isSome) _ (λw h=>?_) ?_
 .obtain⟨e,he⟩:=(is w).mp h;rw[Lt.sel_mem,Lt.found_iff _ (gm _)]at he;obtain⟨S,h1,_,rfl,_⟩:=he;rw[take_length]at h1;rw[<- fw];exact Yh h1
 .refine(is 0).mpr ⟨c,?_⟩;rw[Lt.sel_mem,Lt.found_iff _ (gm _)];exact⟨[],by simp,.nil,rfl,by simp⟩
end T52.Tb
namespace T52.Tb
open PySem L2 Bd
open Lt (IsMin comb behind Ap sel AM Wx)
def NH{B c:Int}{ws:List Wm}(ok:okMs B c ws)(hB:B<=2000){m:Nat}(hm:m<=(fullW ws).toNat)(h1:(fT c (wxs ws) 68 m).isSome=true)(h2:∀w,(fT c (wxs ws) 68 w).isSome=true->w<=m):WF CN [.im (wmsI ws),.im (tabI 68 ((fullW ws).toNat+1) (fT c (wxs ws)))] [] λd x=>d=.im (.int (fullW ws-m)):=by
 have hf:=KW ok;have hcl:∀f:Nat->Nat->Option Int,Ao 0 [D.im (wmsI ws),.im (tabI 68 ((fullW ws).toNat+1) f),.im (.tup [])]=true:=λf=>by simp
 unfold CN;refine AX rfl ?_;refine A9 (Aq (AA (A3 (A0 rfl (A4 ⟨by simp,(Jj ok).mono ?_⟩)))));rintro d x rfl;refine⟨_,rfl,A5 ?_⟩;refine A9 (Aq (AA (A3 (A0 rfl (A3 (A0 rfl (A3 (B1 (A4 ⟨DC,A4 ⟨hcl _,(shape_w (pt:=[]) ok rfl 67 _).mono ?_⟩⟩)))))))));rintro d x rfl;refine⟨_,rfl,A5 ?_⟩;refine A9 (Aq (AA (A3 (A0 rfl (A3 (A0 rfl (A3 (B1 (A4 ⟨DC,A4 ⟨hcl _,(places_w (pt:=[]) 75 ok hB 67 67).mono ?_⟩⟩)))))))));rintro d x rfl;refine⟨_,rfl,A5 ?_⟩;refine AT (A7 (AA (A3 (A0 rfl (A4 ⟨by simp,(NW ok).mono ?_⟩)))));rintro d x rfl;refine⟨_,rfl,AA (A3 (A0 rfl (A4 ⟨by simp,(greatest_w 67 67 h1 h2).mono ?_⟩)))⟩;rintro d x rfl;exact⟨_,rfl,BL rfl⟩
def tap_callL{n c:Nat}{a b:MO}{rest:Hd}{ls:Ls}{m:MA}{QE:D->Hd->Prop}(hT:T (n+c) a b){F:List D->Hd->Option 104}{as:List D}{hd:Hd}{R:List D->Prop}(e:m ls hd=some (.mu 1::as,a::b::rest))(ha:Ao 2 as=true)
 (hF:∀a b,T (n+c) a b->WF F (.mu 1::as) [a,b] λd x=>∃k es a' b' g,d=.mu k/\2<=k/\x=a'::b'::g/\x[k]?=some (.lst es)/\Ao 2 es=true/\T n a' b'/\R es)
 (q:∀es a' b',T n a' b'->R es->QE (.mu (2+rest.length)) (a'::b'::rest++[.lst es])):WE (A8 2 F m) ls hd QE:=by
 obtain⟨d,x,e2,k,es,a',b',g,rfl,hk,rfl,e3,c3,hT',hR⟩:=hF a b hT;refine⟨_,_,?_,q es a' b' hT' hR⟩;have t3:¬ k<2:=by omega
 have h1:=tap.cl hT;have h2:=tap.cl hT';simp[A8,e,ha,h1,e2,fin,h2,t3,e3,c3]
theorem P5(w:Nat):∀seq:List Nat,Ao w (C6 seq)=true
 |[]=>rfl
 |k::r=>by
  have:=P5 w r;simp[C6,Ao,clD]at this ⊢;exact this
def lineL(n m:Nat)(hm:m<=8):∀a b,T (n+20) a b->WF GK [.mu 1,.im (.int (m:Int))] [a,b] λd x=>∃k es a' b' g,d=.mu k/\2<=k/\x=a'::b'::g/\x[k]?=some (.lst es)/\Ao 2 es=true/\T n a' b'/\∃seq:List Nat,es=C6 seq/\seq.Perm (71 m):=by
 intro a b hT;refine(ag n m hm a b hT).mono ?_;rintro d x ⟨seq,a',b',c,rfl,rfl,hT',pm⟩;exact⟨3,C6 seq,a',b',[c,.lst (C6 seq)],rfl,by omega,rfl,rfl,P5 _ _,hT',seq,rfl,pm⟩
def byN{α:Type}(d:α)(ws:List α)(seq:List Nat):List α:=seq.map λk=>(ws[k]?).getD d
def byN_perm{α:Type}{d:α}{ws:List α}{seq:List Nat}(p:seq.Perm (71 68)):(byN d ws seq).Perm ws:=by
 unfold byN;refine(p.map _).trans ?_;have:(71 68).map (λk=>(ws[k]?).getD d)=ws:=by
  apply ext_getElem
  .simp
  .intro i h1 h2;simp at h1;simp[h1]
 rw[this]
def Xi{us ws:List Wm}{B c:Int}(p:us.Perm ws)(ok:okMs B c ws):okMs B c us:=by
 obtain⟨h1,h2,h3,h4⟩:=ok;refine⟨λz=>h1 ?_,by rw[p.length_eq];exact h2,h3,λw hw=>h4 w (p.mem_iff.mp hw)⟩;subst z;exact p.symm.eq_nil
def Oq(n N:Nat)(f:Nat->Nat->Option Int):atI (((71 (n+1)).map λk=>rowI N (f k)).map D.im) (-1)=some (.im (rowI N (f n))):=by
 rw[i5,range_succ,iL];exact Gw _ _
abbrev Lt9(ws:List Wm)(d:Int)(z3 z4 z5 z6 z7 z8:Option D):Ls:=[some (.mu 1),some (.im (wmsI ws)),some (.im (.int d)),z3,z4,z5,z6,z7,z8]
def SN{us ws:List Wm}(p:us.Perm ws):fullW us=fullW ws:=Zx (p.map _)
def KU(d:Int)(ws:List Wm):fullW (ws.map (mv d))=fullW ws:=by
 unfold fullW;rw[i5];rfl
set_option maxHeartbeats 1000000 in
def late_stays_w(n:Nat):∀a b,T (n+200) a b->WF Dz [.mu 1] [a,b] λd x=>∃i a' b' g,d=.im i/\i=.bl true/\T n a' b'/\x=a'::b'::g:=by
 intro a b hT;unfold Dz;refine AX rfl ?_;have hT:T (n+100+100) a b:=hT;refine A9 (AF ?_);refine tap.call hT (as:=[.im (.int 8)]) (rest:=[]) rfl rfl (NJ _) ?_;rintro i a b hT ⟨ws,c,rfl,ok⟩;have n1:0<ws.length:=List.length_pos_iff.mpr ok.1;have n8:=ok.2.1;have hT:T (n+20+1) a b:=tap.le hT 67;refine A5 (A9 (AF (A7 ?_)));refine tap.draw hT rfl (by first|decide|omega) (by first|decide|omega) λr a b hT pr qr=>?_;have cm:=(ok.2.2.2 _ (List.getElem_mem n1)).2.1;refine A7 (A7 (A0 rfl (AE (AH (ds:=(ws.map wmI).map D.im) rfl (Eo (k:=0) rfl (by simp[n1]:((ws.map wmI).map D.im)[0]?=some (wmD ws[0]))) (AE (AH (ds:=[.im (.int (ws[0]).len),.im (.int (ws[0]).com),.im (.tup [.str "miss",.int (ws[0]).due,.int (ws[0]).wt])]) rfl (DT _ _ _) (BL (A5 ?_))))))));rw[cm];obtain⟨d,hd⟩:∃d,d=r-c:=⟨_,rfl⟩
 rw[<- hd];have d0:0<=c+d:=by omega
 have d1:c+d<=60:=by omega
 refine A9 (AF ?_);refine tap_callL hT (as:=[.im (.int (ws.length:Int))]) (rest:=[]) (by simp[BH]) 75 (lineL _ _ n8) ?_;rintro es a b hT ⟨seq,rfl,pm⟩;have hs:∀k∈seq,k<ws.length:=λk hk=>by simpa using pm.mem_iff.mp hk
 have sl:seq.length=ws.length:=by simpa using pm.length_eq
 refine A5 ?_;change WS _ (Lt9 ws d (some (.mu 2)) none none none none none) [a,b,.lst (C6 seq)] _
 -- moved
 refine A9 (AF (B2 98));rw[CD];refine⟨AS 79,?_⟩;refine Ar wmD (λw=>some (wmD (mv d w))) (λ_ ls=>∃x y z,ls=[some x,some y,some z,some (.im (.int d))]) _ (AQ _) ?_ ?_
 .rintro w hw ls hls;refine⟨[some (.im (.int w.len)),some (.im (.int w.com)),some (.im (.tup [.str "miss",.int w.due,.int w.wt])),some (.im (.int d))],by rcases hls with rfl|⟨_,x,y,z,rfl⟩<;>rfl,⟨_,_,_,rfl⟩,Az ⟨rfl,?_⟩⟩;rw[gi rfl];refine⟨_,rfl,B1 (A3 (A0 rfl (A3 (A7 (A0 rfl (A0 rfl (BA (A3 (AA (A3 (A0 rfl (A3 (A0 rfl (A4 ⟨by simp,moved_w.mono ?_⟩))))))))))))))⟩;rintro e x rfl;exact⟨_,rfl,A4 ⟨C1,rfl,rfl⟩⟩
 have e:(ws.filterMap λw=>some (wmD (mv d w)))=((ws.map (mv d)).map wmI).map D.im:=by simp
 rw[e];refine⟨_,rfl,A5 ?_⟩;rw[Ax];have okm:=VY ok d0 d1
 -- other
 refine A9 (AF (B2 (Ad (Dg (A0 rfl ⟨2,C6 seq,rfl,rfl,AS 79,?_⟩)))));obtain⟨us,hu⟩:∃us,us=byN ws[0] ws seq:=⟨_,rfl⟩
 have pu:us.Perm ws:=by rw[hu];exact byN_perm pm
 refine Ar (xs:=seq) (λk:Nat=>D.im 95) (λk=>some (wmD ((ws[k]?).getD ws[0]))) (λ_ ls=>∃x,ls=[some x,some (.im (wmsI ws))]) _ (λp hp=>by rw[i4]at hp;subst hp;rfl) ?_ ?_
 .rintro k hk ls hls;have hk:=hs k hk;refine⟨[some (.im 95),some (.im (wmsI ws))],by rcases hls with rfl|⟨_,x,rfl⟩<;>rfl,⟨_,rfl⟩,Az ⟨rfl,?_⟩⟩;rw[gi rfl];refine⟨_,rfl,A7 (A0 rfl (A0 rfl (AH (ds:=(ws.map wmI).map D.im) rfl (Eo rfl (by simp[hk]:((ws.map wmI).map D.im)[k]?=some (wmD ((ws[k]?).getD ws[0])))) ⟨rfl,rfl⟩)))⟩
 have e:(seq.filterMap λk=>some (wmD ((ws[k]?).getD ws[0])))=(us.map wmI).map D.im:=by rw[hu];simp[byN]
 rw[e];refine⟨_,rfl,A5 ?_⟩;rw[Ax];clear e;have oku:=Xi pu ok;have fu:=SN pu;have lu:=pu.length_eq;have hN:=(KW ok)
 obtain⟨N,eN⟩:∃N,N=(fullW ws).toNat+1:=⟨_,rfl⟩
 have t1:=table_of_w ok 77;have t2:=table_of_w okm 77;have t3:=table_of_w oku 77;have et:tabI (ws.map (mv d)).length ((fullW (ws.map (mv d))).toNat+1) (fT (c+d) (wxs (ws.map (mv d))))=tabI 68 N λk w=>sh d (fT c (wxs ws) k w):=by
  rw[N5 ok d0 d1,KU,hX,eN]
  congr 1
  funext k w
  exact M2 c d (wxs ws) k w
 obtain⟨m,m1,m2,m3⟩:=bZ ok;have l1:=NH ok 77 m1 m2 m3;have l2:=NH okm 77 (m:=m) (by rw[KU];exact m1) (by rw[N5 ok d0 d1,hX,M2];simpa using m2) (by rw[N5 ok d0 d1,hX];intro w hw;rw[M2]at hw;exact m3 w (by simpa using hw));have lp:=SH pu ok oku;have l3:=NH oku 77 (m:=m) (by rw[fu];exact m1) (by rw[lp];exact m2) (by intro w hw;rw[lp]at hw;exact m3 w hw);have er:rowI N (fT c (wxs us) us.length)=rowI N (fT c (wxs ws) 68):=by
  congr 1
  funext w
  exact lp w
 rw[et]at t2 l2;rw[KU]at l2;rw[fu,<- eN]at t3 l3;rw[<- eN]at t1 l1;generalize hF:fT c (wxs ws)=F at *;generalize hU:fT c (wxs us)=U at *;have nN:N<=100:=by omega
 -- the tables
 refine A9 (AF (AA (A3 (A0 rfl (A4 ⟨by simp,t1.mono ?_⟩)))));rintro e x rfl;refine⟨_,rfl,A5 ?_⟩;refine A9 (AF (B2 98));rw[show((List.range (68+1)).map λk=>rowI N (F k)).map D.im=(List.range (68+1)).map λk=>D.im (rowI N (F k)) by simp];refine⟨AS 79,?_⟩;refine Ar (xs:=71 (68+1)) (λk=>D.im (rowI N (F k))) (λk=>some (D.im (rowI N λw=>sh d (F k w)))) (λ_ ls=>∃x,ls=[some x,some (.im (.int d))]) _ (AQ _) ?_ ?_
 .rintro k hk ls hls;refine⟨[some (.im (rowI N (F k))),some (.im (.int d))],by rcases hls with rfl|⟨_,x,rfl⟩<;>rfl,⟨_,rfl⟩,Az ⟨rfl,?_⟩⟩;rw[gi rfl];refine⟨_,rfl,B2 98⟩;rw[show((List.range N).map λw=>D6 (F k w)).map D.im=(List.range N).map λw=>Aw (F k w) by simp];refine⟨AS 79,?_⟩;refine Ar (xs:=71 N) (λw=>Aw (F k w)) (λw=>some (Aw (sh d (F k w)))) (λ_ ls=>∃x,ls=[some x,some (.im (.int d))]) _ (AQ _) ?_ ?_
  .rintro w hw ls hls;refine⟨[some (Aw (F k w)),some (.im (.int d))],by rcases hls with rfl|⟨_,x,rfl⟩<;>rfl,⟨_,rfl⟩,Az ⟨rfl,?_⟩⟩;rw[gi rfl];refine⟨_,rfl,Qq (AK (we_isN (A0 rfl ⟨F k w,rfl,_,rfl,?_⟩)))⟩;cases F k w with
   |none=>exact⟨λ_=>AE ⟨rfl,rfl⟩,λh=>by cases h⟩
   |some v=>exact⟨λh=>(by cases h),λ_=>A7 (A0 rfl (A0 rfl (BA ⟨rfl,rfl⟩)))⟩
  have e:((71 N).filterMap λw=>some (Aw (sh d (F k w))))=((71 N).map λw=>D6 (sh d (F k w))).map D.im:=by simp
  rw[e];refine⟨_,rfl,?_⟩;rw[Ax];exact⟨rfl,rfl⟩
 have e:((71 (68+1)).filterMap λk=>some (D.im (rowI N λw=>sh d (F k w))))=((71 (68+1)).map λk=>rowI N λw=>sh d (F k w)).map D.im:=by simp
 rw[e];refine⟨_,rfl,A5 ?_⟩;rw[Ax];clear e;change WS _ (Lt9 ws d (some (.mu 2)) (some (.im (wmsI (ws.map (mv d))))) (some (.im (wmsI us))) (some (.im (tabI 68 N F))) (some (.im (tabI 68 N λk w=>sh d (F k w)))) none) [a,b,.lst (C6 seq)] _;refine A9 (AW (EC (Bm (B0 (AA (A3 (AA (A3 (A0 rfl (A4 ⟨by simp,t2.mono ?_⟩))))))))));rintro e x rfl;refine⟨_,rfl,A3 (A0 rfl (A4 ⟨by simp,(bO 67 nN _).mono ?_⟩))⟩;rintro e x rfl;refine⟨_,rfl,_,rfl,?_⟩;rw[gj 75];refine Bm (B0 (AA (A3 (A7 (AA (A3 (A0 rfl (A4 ⟨by simp,t3.mono ?_⟩))))))));rintro e x rfl;refine⟨_,rfl,ES (AE ⟨_,rfl,AH rfl (e:=.im (rowI N (F 68))) (by rw[<- er];exact Oq _ _ _) (A3 (A7 (A0 rfl (ES (AE ⟨_,rfl,AH rfl (e:=.im (rowI N (F 68))) (Oq _ _ _) (A4 ⟨by simp,(Su 2 nN _).mono ?_⟩)⟩)))))⟩)⟩;rintro e x rfl;refine⟨_,rfl,_,rfl,(λh=>by cases h),λ_=>AO (A5 ?_)⟩;refine A9 (AF (AA (A3 (A0 rfl (A3 (A0 rfl (A4 ⟨by simp,l1.mono ?_⟩)))))));rintro e x rfl;refine⟨_,rfl,A5 ?_⟩;refine AT (F0 (AK (A7 (AA (A3 (A0 rfl (A3 (A0 rfl (A4 ⟨by simp,l2.mono ?_⟩)))))))));rintro e x rfl;refine⟨_,rfl,A0 rfl (CB ⟨_,rfl,?_⟩)⟩;rw[gi 75];refine A7 (AA (A3 (A0 rfl (A3 (AA (A3 (A0 rfl (A4 ⟨by simp,t3.mono ?_⟩))))))));rintro e x rfl;refine⟨_,rfl,A4 ⟨by simp,l3.mono ?_⟩⟩;rintro e x rfl;refine⟨_,rfl,A0 rfl (CB ?_)⟩;exact⟨_,a,b,_,rfl,by simp,tap.le hT 67,rfl⟩
end T52.Tb
namespace T52
open PySem L2 Bd S7
def wa_sorted{mi:MI}{ls:Ls}{hd:Hd}{QA:List D->Hd->Prop}(h:WI mi ls hd λp x=>∃ns:List Int,p.1=intD ns/\ns.length<64/\QA (intD (As ns)) x):WA (Bl mi) ls hd QA:=by
 obtain⟨p,x,e,ns,e1,hl,q⟩:=h;refine⟨_,_,?_,q⟩;simp only[Bl,e,gw,e1,show Al (intD ns)=some ns from Db ns,hl,i3]
abbrev HP(t:Int)(ws:List Wk):I:=Tb.tabI 68 (68+1) (fN t ws)
abbrev DS(ws:List Wk)(e:Int):I:=.tup [.int e,HP (e-1) ws]
abbrev Q5(ws:List Wk)(es:List Int):I:=.tup (es.map (DS ws))
def Vt{w t:Int}{ws:List Wk}(W:EW w ws)(h0:-1000<=t)(h1:t<=1000):WF Bj [.im (Tb.wmsI (tw t ws))] [] λd _=>d=.im (HP t ws):=by
 refine(Tb.table_of_w (GN W h0 h1) 77).mono ?_;rintro d x rfl;rw[BN,OL,ik]
structure Pq(ws:List Wk)(es:List Int):Prop where
 ln:es.length=68
 rg:∀e∈es,1<=e/\e<=220
 fw:∀k e,es[k]?=some e->∀m,(fN (e-1) ws 68 m).isSome=true->m<=k
def Na{w:Int}{ws:List Wk}(W:EW w ws){P:List Pl.Pc}(hp:WF CI [.im (Ac ws)] [] λd _=>d=.im (.tup (P.map Bc)))(hP:∀p∈P,p.1<68)(rg:∀j,j<68->1<=Pl.E P j/\Pl.E P j<=220):WF Cw [.im (Ac ws)] [] λd _=>d=.im (Q5 ws (As 105)):=by
 have n8:=W.n8;unfold Cw;refine AX rfl ?_;refine A9 (AF (BC (wa_sorted (BG (AA (A3 (A0 rfl (A3 (AA (A3 (A0 rfl (A4 ⟨by simp,hp.mono ?_⟩))))))))))));rintro d x rfl;refine⟨_,rfl,A4 ⟨by simp,(Sb n8 hP).mono ?_⟩⟩;rintro d x rfl;refine⟨_,rfl,_,rfl,(71 68).map (Pl.E P),by simp[intD],by simp;omega,A5 ?_⟩;have rg2:∀e∈As 105,1<=e/\e<=220:=λe he=>by
  obtain⟨j,hj,rfl⟩:=mem_map.mp ((Aa _).mem_iff.mp he);exact rg j (by simpa using hj)
 have ln2:(As 105).length=ws.length:=by rw[(Aa _).length_eq];simp
 generalize As 105=es at rg2 ln2;refine AT (B2 (Ad (Dg (A0 rfl ⟨0,intD es,rfl,rfl,AS (by simp[intD];omega),?_⟩))));refine Ar (xs:=es) (λe:Int=>D.im (.int e)) (λe=>some (.im (DS ws e))) (λ_ ls=>∃x,ls=[some x,some (.im (Ac ws))]) _ (by intro p hp;rw[i4]at hp;subst hp;rfl) ?_ ?_
 .rintro e he ls hls;obtain⟨e1,e2⟩:=rg2 e he;refine⟨[some (.im (.int e)),some (.im (Ac ws))],by rcases hls with rfl|⟨_,x,rfl⟩<;>rfl,⟨_,rfl⟩,Az ⟨rfl,?_⟩⟩;rw[gi rfl];refine⟨_,rfl,B1 (A3 (A0 rfl (A3 (AA (A3 (AA (A3 (A0 rfl (A3 (A7 (A0 rfl (AE (BL (A4 ⟨by simp,(GO W).mono ?_⟩))))))))))))))⟩;rintro d x rfl;refine⟨_,rfl,A4 ⟨by simp,(Vt W 67 67).mono ?_⟩⟩;rintro d x rfl;exact⟨_,rfl,A4 ⟨DB,rfl,rfl⟩⟩
 have e:(es.filterMap λe=>some (D.im (DS ws e)))=(es.map (DS ws)).map D.im:=by simp
 rw[e];refine⟨_,rfl,?_⟩;rw[Ax]
def OA{w:Int}{ws:List Wk}(W:EW w ws){e:Int}(h1:1<=e)(h2:e<=220)(k:Nat):WF BW [.im (Ac ws),.im 95,.im (DS ws e)] [] λd _=>d=.im .non:=by
 unfold BW;refine AX rfl ?_;refine A9 (AW (EC (Bm (B0 (AA (A3 (AE (A3 (A0 rfl (A4 ⟨by simp,(Tb.tuple_w (n:=2) (is:=[.int e,HP (e-1) ws]) rfl).mono ?_⟩))))))))));rintro d x rfl;refine⟨_,rfl,_,rfl,?_⟩;rw[gj 75];refine Bm (B0 (AA (A3 (A7 (A0 rfl (AE (AH (ds:=[.im (.int e),.im (HP (e-1) ws)]) rfl (Ct _ _) (A4 ⟨by simp,(Tb.number_w e).mono ?_⟩))))))));rintro d x rfl;refine⟨_,rfl,_,rfl,(λh=>by cases h),λ_=>AO (A5 ?_)⟩;refine Aq (AA (A3 (AA (A3 (A0 rfl (A3 (A7 (A7 (A0 rfl (AE (AH (ds:=[.im (.int e),.im (HP (e-1) ws)]) rfl (Ct _ _) (AE (BL (A4 ⟨by simp,(GO W).mono ?_⟩))))))))))))));rintro d x rfl;refine⟨_,rfl,A3 (A7 (A0 rfl (AE (AH (ds:=[.im (.int e),.im (HP (e-1) ws)]) rfl (DT _ _ _) (A3 (B1 (A3 (A0 rfl (A3 (AE (A4 ⟨DB,A4 ⟨by simp,?_⟩⟩)))))))))))⟩;refine(Tb.shape_w (pt:=[.int (k:Int),.int 1]) (GN W 67 67) (n:=68) (N:=68+1) (BN _ _).symm (by rw[OL];omega) (fN (e-1) ws)).mono ?_;rintro d x rfl;exact⟨_,rfl,rfl⟩
def cw{w:Int}{ws:List Wk}(W:EW w ws){e:Int}(h1:1<=e)(h2:e<=220){k:Nat}(hf:∀m,(fN (e-1) ws 68 m).isSome=true->m<=k):WF Ci [.im (Ac ws),.im 95,.im (DS ws e)] [] λd _=>d=.im .non:=by
 have n8:=W.n8;have ok:=GN W (t:=e-1) 67 67;obtain⟨m,hm,m1,m2⟩:=MJ (λm=>(fN (e-1) ws 68 m).isSome) 68 (λm hm=>by
  obtain⟨S,n1,n2,rfl,_⟩:=SU W 67 67 hm;have:=Jf n1 (L:=71 68) λx hx=>by simpa using n2 x hx
  simpa using this) (dh _ _)
 have mk:=hf m m1;unfold Ci;refine AX rfl ?_;refine A9 (Qo (A0 rfl ⟨[some (.im (Ac ws)),some (.im 95),some (.im (DS ws e)),some (.im (.int e)),some (.im (HP (e-1) ws))],rfl,A5 ?_⟩));refine A9 (Aq (AA (A3 (AA (A3 (A0 rfl (A3 (A7 (A0 rfl (AE (BL (A4 ⟨by simp,(GO W).mono ?_⟩))))))))))));rintro d x rfl;refine⟨_,rfl,A3 (A0 rfl (A3 (B1 (A3 (A0 rfl (A3 (AE (A4 ⟨DB,A4 ⟨by simp,?_⟩⟩))))))))⟩;have q:=Tb.places_w (pt:=[.int (k:Int),.int 1]) 75 ok 77 (N:=68+1) 67 67;rw[BN]at q;refine q.mono ?_;rintro d x rfl;refine⟨_,rfl,A5 ?_⟩;refine AW (AK (A7 (AA (A3 (A0 rfl (A4 ⟨by simp,(Tb.greatest_w (n:=68) (N:=68+1) (m:=m) (f:=fN (e-1) ws) 67 67 m1 m2).mono ?_⟩))))));rintro d x rfl;exact⟨_,rfl,A0 rfl (Es ⟨_,rfl,(λh=>absurd h 79),λ_=>AO rfl⟩)⟩
abbrev Lq(ws:List Wk)(es:List Int)(w:Int)(z3 z4:Option D):Ls:=[some (.im (Ac ws)),some (.im (Q5 ws es)),some (.im (.int w)),z3,z4]
abbrev enI(ws:List Wk)(q:Int×Nat):D:=AY [.im (.int (q.2:Int)),.im (DS ws q.1)]
inductive I_lq(ws:List Wk)(es:List Int)(w:Int)(r:List D)(ls:Ls)(hd:Hd):Prop
 |mk (z3 z4:Option D) (h1:∀d∈r,∃(k:Nat) (e:Int),es[k]?=some e/\d=enI ws (e,k)) (h2:ls=Lq ws es w z3 z4) (h3:hd=[]):I_lq ws es w r ls hd
def Sc{ws:List Wk}{es:List Int}:∀d∈((es.map (DS ws)).map D.im).zipIdx.map λq=>AY [.im (.int (q.2:Int)),q.1],∃(k:Nat) (e:Int),es[k]?=some e/\d=enI ws (e,k):=λd hd=>by
 obtain⟨⟨x,i⟩,hq,rfl⟩:=mem_map.mp hd;have:=List.mem_zipIdx_iff_getElem?.mp hq;simp only[i5,List.getElem?_map,map_eq_some_iff]at this;obtain⟨e,h1,rfl⟩:=this;exact⟨i,e,h1,rfl⟩
def O8{w:Int}{ws:List Wk}(W:EW w ws){es:List Int}(Q:Pq ws es):WF EK [.im (Ac ws),.im (Q5 ws es)] [] λd _=>d=.im (.int (w*es.sum)):=by
 have n8:=W.n8;have ln:=Q.ln;unfold EK;refine AX rfl ?_;refine A9 (AF (AA (A3 (A0 rfl (A4 ⟨by simp,(Hv W).mono ?_⟩)))));rintro d x rfl;refine⟨_,rfl,A5 ?_⟩;refine A9 (AW (Bm (B0 (AA (A3 (BI (A3 (A0 rfl (A4 (Bf (ds:=(ws.map Bg).map D.im) (z:=.im (.int (ws.length:Int))) rfl (by simp[BH]) (A3 (A0 rfl (A4 ⟨by simp,(Tb.tuple_w (n:=(ws.length:Int)) (is:=es.map (DS ws)) (by simp[ln])).mono ?_⟩)))))))))))));rintro d x rfl;refine⟨_,rfl,_,rfl,(λh=>by cases h),λ_=>AO (A5 ?_)⟩;refine A9 (Bn (E1 (BG (A0 rfl ⟨_,rfl,?_⟩))));refine Bo (I_lq ws es w) (.mk none none Sc rfl rfl) ?_ ?_
 .intro d r ls hd hI;obtain⟨z3,z4,hr,rfl,rfl⟩:=hI;obtain⟨k,e,he,rfl⟩:=hr d 75;obtain⟨e1,e2⟩:=Q.rg e (ig he);refine⟨Lq ws es w (some (.im 95)) (some (.im (DS ws e))),rfl,?_⟩;refine Aq (AA (A3 (A0 rfl (A3 (A0 rfl (A3 (A0 rfl (A4 ⟨by simp,(OA W e1 e2 k).mono ?_⟩))))))));rintro d x rfl;exact⟨_,rfl,AQ _,.mk _ _ (λd hd=>hr d (by simp[hd])) rfl rfl⟩
 intro ls hd hI;obtain⟨z3,z4,hr,rfl,rfl⟩:=hI;refine A5 (A9 (Bn (E1 (BG (A0 rfl ⟨_,rfl,?_⟩)))));refine Bo (I_lq ws es w) (.mk _ _ Sc rfl rfl) ?_ ?_
 .intro d r ls hd hI;obtain⟨z3,z4,hr,rfl,rfl⟩:=hI;obtain⟨k,e,he,rfl⟩:=hr d 75;obtain⟨e1,e2⟩:=Q.rg e (ig he);refine⟨Lq ws es w (some (.im 95)) (some (.im (DS ws e))),rfl,?_⟩;refine Aq (AA (A3 (A0 rfl (A3 (A0 rfl (A3 (A0 rfl (A4 ⟨by simp,(cw W e1 e2 (Q.fw k e he)).mono ?_⟩))))))));rintro d x rfl;exact⟨_,rfl,AQ _,.mk _ _ (λd hd=>hr d (by simp[hd])) rfl rfl⟩
 intro ls hd hI;obtain⟨z3,z4,hr,rfl,rfl⟩:=hI;refine A5 (AT (A7 (A0 rfl (B2 (Ad (BG (A0 rfl ⟨_,rfl,AS 79,?_⟩)))))));rw[show(es.map (DS ws)).map D.im=es.map λe=>D.im (DS ws e) by simp];refine Ar (xs:=es) (λe=>D.im (DS ws e)) (λe=>some (.im (.int e))) (λ_ ls=>∃x y,ls=[some x,some y]) _ (AQ _) ?_ ?_
 .rintro e he ls hls;refine⟨[some (.im (.int e)),some (.im (HP (e-1) ws))],by rcases hls with rfl|⟨_,x,y,rfl⟩<;>rfl,⟨_,_,rfl⟩,Az ⟨rfl,?_⟩⟩;rw[gi rfl];exact⟨_,rfl,A0 rfl ⟨rfl,rfl⟩⟩
 have e9:(es.filterMap λe=>some (D.im (.int e)))=intD es:=by simp[intD]
 rw[e9];refine⟨.im (.int es.sum),by unfold Gf;rw[show Al (intD es)=some es from Db es];rfl,JJ (D0 ?_ ?_) rfl⟩
 .have:=W.w0;omega
 .have:=W.w0;omega
open PySem L2 Bd S7
def Jd{L M:List Int}(h:L.Perm M):L.sum=M.sum:=by
 induction h with
 |nil=>rfl
 |cons x _ ih=>simp only[hJ,ih]
 |swap x y l=>simp only[hJ];omega
 |trans _ _ a b=>exact a.trans b
def dJ{w:Int}{ws:List Wk}(W:EW w ws){QE:D->Hd->Prop}{ls:Ls}{hd:Hd}{i:Nat}(h:ls[i]?=some (some (D.im (Ac ws))))(q:QE (.im (.int w)) hd):WE (mOp gIx (mOp gIx (mOp gIx (A1 i) 107) (mC (.int 2))) 94) ls hd QE:=by
 have n1:=W.n1;have h0:0<ws.length:=by omega
 have ec:(ws[0]).cost=.ends w:=(W.ea _ (List.getElem_mem h0)).2.2;refine A7 (A7 (A7 (A0 h (AE (AH (ds:=(ws.map Bg).map D.im) rfl (Eo (k:=0) rfl (by simp[h0]:((ws.map Bg).map D.im)[0]?=some (wkD ws[0]))) (AE (AH (ds:=[.im (.int (ws[0]).len),.im (.int (ws[0]).com),.im (Ju (ws[0]).cost)]) rfl (Ep _ _ _ _) (AE ?_))))))));rw[ec];exact AH (ds:=[.im (.str "ends"),.im (.int w)]) rfl (DT _ _ _) q
def Vz{w:Int}{ws:List Wk}(W:EW w ws){es:List Int}(Q:Pq ws es)(pp:WF Cw [.im (Ac ws)] [] λd _=>d=.im (Q5 ws es)):WF EB [.im (Ac ws)] [] λd _=>d=.im (.int (w*es.sum)):=by
 unfold EB;refine AX rfl ?_;refine A9 (AF (AE (A5 (A9 (Vi (AF (AA (A3 (A0 rfl (A3 (AA (A3 (A0 rfl (A4 ⟨by simp,pp.mono ?_⟩))))))))))))));rintro d x rfl;refine⟨_,rfl,A4 ⟨by simp,(O8 W Q).mono ?_⟩⟩;rintro d x rfl;exact⟨_,rfl,A5 (AT (A0 rfl rfl))⟩
def Whole.left{ws:List Wk}{lf:Nat->Nat}{P:List Pc}{t:Nat}{G:Nat->Nat->Nat}(S:St 68 (lnN ws) (cmN ws) lf P t G)(z:∀j,j<68->lf j=0):Whole ws P:=
 ⟨S.ps.pw,λp hp=>⟨(S.ps.pc p hp).1,(S.ps.pc p hp).2.1,(S.ps.pc p hp).2.2.1⟩,λk hk=>by have:=S.dn k hk;rw[z k hk]at this;omega⟩
structure Lf(w:Int)(ws:List Wk)(P:List Pl.Pc):Prop where
 O:Whole ws P
 se:WF C9 [.im (Ac ws)] [] λd x=>∃k,d=.mu k/\x[k]?=some (.lst (intD (As 105)))
 sh:WF EB [.im (Ac ws)] [] λd _=>d=.im (.int (w*(105).sum))
 db:∀t:Int,-1000<=t->t<=1000->WF Cz [.im (Ac ws),.im (.int t)] [] λd _=>d=.im (.int (Cr ws P t:Int))
 mx:∀P',Whole ws P'->∀t,Cr ws P' t<=Cr ws P t
def QL{w:Int}{ws:List Wk}(W:EW w ws):∃P,Lf w ws P:=by
 have n8:=W.n8;obtain⟨dP,xP,eP,P,rfl,lp⟩:=ah W;obtain⟨⟨lf,t,G,S,z⟩,pl⟩:=lp;have hp:WF CI [.im (Ac ws)] [] λd _=>d=.im (.tup (P.map Bc)):=⟨_,_,eP,rfl⟩
 have hP:∀p∈P,p.1<ws.length:=λp hp=>(S.ps.pc p hp).1;have rg:∀j,j<68->1<=Pl.E P j/\Pl.E P j<=220:=λj hj=>⟨d9 W S z hj,eF W S z hj⟩
 have O:=Whole.left S z;have es:(As 105).sum=(105).sum:=Jd (Aa _);have Q:Pq ws (As 105):=by
  have r2:∀e∈As 105,1<=e/\e<=220:=λe he=>by
   obtain⟨j,hj,rfl⟩:=mem_map.mp ((Aa _).mem_iff.mp he);exact rg j (by simpa using hj)
  refine⟨by rw[(Aa _).length_eq];simp,r2,λk e he m hm=>?_⟩;have:=r2 e (ig he);obtain⟨S',n1,n2,rfl,n5⟩:=SU W 67 67 hm;exact Uw W S z he n1 n2 n5
 have pp:=Na W hp hP rg;have sh:=Vz W Q pp;rw[es]at sh;refine⟨P,O,?_,sh,λt h0 h1=>?_,λP' O' t=>OD W S z O' t⟩
 .unfold C9;refine AX rfl ?_;refine AT (BC (wa_sorted (BG (AA (A3 (A0 rfl (A3 (AA (A3 (A0 rfl (A4 ⟨by simp,hp.mono ?_⟩)))))))))));rintro d x rfl;refine⟨_,rfl,A4 ⟨by simp,(Sb n8 hP).mono ?_⟩⟩;rintro d x rfl;exact⟨_,rfl,_,rfl,(71 68).map (Pl.E P),by simp[intD],by simp;omega,0,rfl,rfl⟩
 .have c:=S5 W h0 h1 S z O;refine(Sd W h0 h1).mono ?_;rintro d x rfl;rw[c]
theorem NL(f:Nat->Nat)(v:Int->Int){n:Nat}(inj:∀a b,a<n->b<n->f a=f b->a=b){k:Nat}(hk:k<n):∀(P:List Pl.Pc) (u:Int),(∀p∈P,p.1<n)->Pl.last (P.map λp=>(f p.1,v p.2.1,v p.2.2)) (f k) (v u)=v (Pl.last P k u)
 |[],u,_=>rfl
 |p::r,u,h=>by
  rw[gq,Pl.last,Pl.last];have ih:=NL f v inj hk r (if p.1=k then p.2.2 else u) λq hq=>h q (by simp[hq]);rw[<- ih]
  congr 1
  by_cases e:p.1=k
  .rw[gi e,gi (by rw[e])]
  .rw[gj e,gj λq=>e (inj _ _ (h p 75) hk q)]
theorem NM{k:Nat}:∀{P:List Pl.Pc} (u v:Int),(∃p∈P,p.1=k)->Pl.last P k u=Pl.last P k v
 |[],u,v,h=>by obtain⟨p,hp,_⟩:=h;cases hp
 |p::r,u,v,h=>by
  rw[Pl.last,Pl.last];by_cases e:p.1=k
  .rw[gi e,gi e]
  .rw[gj e,gj e];refine NM u v ?_;obtain⟨q,hq,e2⟩:=h;rcases mem_cons.mp hq with rfl|hq
   .exact absurd e2 e
   .exact⟨q,hq,e2⟩
theorem Se(f:Nat->Nat)(d:Int){n:Nat}(inj:∀a b,a<n->b<n->f a=f b->a=b){k:Nat}(hk:k<n):∀(P:List Pl.Pc),(∀p∈P,p.1<n)->Pl.dn (P.map λp=>(f p.1,p.2.1+d,p.2.2+d)) (f k)=Pl.dn P k
 |[],_=>rfl
 |p::r,h=>by
  rw[gq,Pl.dn,Pl.dn,Se f d inj hk r λq hq=>h q (by simp[hq])]
  congr 1
  by_cases e:p.1=k
  .rw[gi e,gi (by rw[e])];show p.2.2+d-(p.2.1+d)=_;omega
  .rw[gj e,gj λq=>e (inj _ _ (h p 75) hk q)]
structure Like(d:Int)(f g:Nat->Nat)(ws us:List Wk):Prop where
 n:us.length=68
 fg:∀k,k<68->f k<68/\g (f k)=k
 gf:∀k,k<68->g k<68/\f (g k)=k
 ln:∀k,k<68->lnN us (f k)=lnN ws k
 cm:∀k,k<68->(cmN us (f k):Int)=cmN ws k+d
def Like.back{d:Int}{f g:Nat->Nat}{ws us:List Wk}(h:Like d f g ws us):Like (-d) g f us ws:=by
 refine⟨h.n.symm,λk hk=>?_,λk hk=>?_,λk hk=>?_,λk hk=>?_⟩<;>rw[h.n]at hk
 .rw[h.n];exact h.gf k hk
 .rw[h.n];exact h.fg k hk
 .have:=h.ln (g k) (h.gf k hk).1;rw[(h.gf k hk).2]at this;exact this.symm
 .have:=h.cm (g k) (h.gf k hk).1;rw[(h.gf k hk).2]at this;omega
def Like.inj{d:Int}{f g:Nat->Nat}{ws us:List Wk}(h:Like d f g ws us)(a b:Nat)(ha:a<68)(hb:b<68)(e:f a=f b):a=b:=by
 rw[<- (h.fg a ha).2,<- (h.fg b hb).2,e]
abbrev mvP(d:Int)(f:Nat->Nat)(P:List Pl.Pc):List Pl.Pc:=P.map λp=>(f p.1,p.2.1+d,p.2.2+d)
def Like.whole{d:Int}{f g:Nat->Nat}{ws us:List Wk}(h:Like d f g ws us){P:List Pl.Pc}(O:Whole ws P):Whole us (mvP d f P):=by
 have hP:∀p∈P,p.1<ws.length:=λp hp=>(O.ea p hp).1;refine⟨?_,λq hq=>?_,λk hk=>?_⟩
 .rw[iI];exact O.pw.imp λ{a b} q=>by show a.2.2+d<=b.2.1+d;omega
 .obtain⟨p,hp,rfl⟩:=mem_map.mp hq;obtain⟨a1,a2,a3⟩:=O.ea p hp;refine⟨by rw[h.n];exact(h.fg _ a1).1,?_,?_⟩
  .show(cmN us (f p.1):Int)<=p.2.1+d;rw[h.cm _ a1];omega
  .show p.2.1+d<p.2.2+d;omega
 .rw[h.n]at hk;obtain⟨b1,b2⟩:=h.gf k hk;have e1:=Se f d h.inj b1 P hP;have e2:=h.ln (g k) b1;rw[b2]at e1 e2;rw[e1,O.dn _ b1,e2]
theorem Like.E{w d:Int}{f g:Nat->Nat}{ws us:List Wk}(h:Like d f g ws us)(W:EW w ws){P:List Pl.Pc}(O:Whole ws P){k:Nat}(hk:k<68):Pl.E (mvP d f P) (f k)=Pl.E P k+d:=by
 have hP:∀p∈P,p.1<ws.length:=λp hp=>(O.ea p hp).1;have e:=NL f (·+d) h.inj hk P (-d) hP;rw[show -d+d=0 by omega]at e;show Pl.last _ _ 0=Pl.last P k 0+d;rw[e,NM (-d) 0 (O.has W hk)]
def Like.map_perm{d:Int}{f g:Nat->Nat}{ws us:List Wk}(h:Like d f g ws us):((71 68).map f).Perm (71 68):=by
 refine(List.perm_ext_iff_of_nodup ?_ nodup_range).mpr λk=>?_
 .rw[List.Nodup,iI];refine nodup_range.imp_of_mem λ{a b} ha hb ne q=>ne (h.inj a b (by simpa using ha) (by simpa using hb) q)
 .constructor
  .intro q;obtain⟨a,ha,rfl⟩:=mem_map.mp q;simpa using (h.fg a (by simpa using ha)).1
  .intro q;have hk:k<ws.length:=by simpa using q
   exact mem_map.mpr ⟨g k,by simpa using (h.gf k hk).1,(h.gf k hk).2⟩
def Like.cnt{w d:Int}{f g:Nat->Nat}{ws us:List Wk}(h:Like d f g ws us)(W:EW w ws){P:List Pl.Pc}(O:Whole ws P)(t:Int):Cr us (mvP d f P) (t+d)=Cr ws P t:=by
 unfold Cr;rw[h.n,<- jj,<- jj,<- h.map_perm.countP_eq,List.countP_map];refine List.countP_congr λk hk=>?_;have hk:k<ws.length:=by simpa using hk
 simp only[Function.comp];rw[h.E W O hk];simp
def Like.eq{w d:Int}{f g:Nat->Nat}{ws us:List Wk}(h:Like d f g ws us)(W:EW w ws)(U:EW w us){P Q:List Pl.Pc}(L:Lf w ws P)(M:Lf w us Q)(t:Int):Cr us Q (t+d)=Cr ws P t:=by
 refine Nat.le_antisymm ?_ ?_
 .have e:=h.back.cnt U M.O (t+d);rw[show t+d+-d=t by omega]at e;rw[<- e];exact L.mx _ (h.back.whole M.O) t
 .rw[<- h.cnt W L.O t];exact M.mx _ (h.whole L.O) (t+d)
def Like.sorted{w d:Int}{f g:Nat->Nat}{ws us:List Wk}(h:Like d f g ws us)(W:EW w ws)(U:EW w us){P Q:List Pl.Pc}(L:Lf w ws P)(M:Lf w us Q):As ((71 us.length).map (Pl.E Q))=(As 105).map (·+d):=by
 have e0:(As 105).map (·+d)=As ((71 68).map λk=>Pl.E P k+d):=by
  refine List.Perm.eq_of_pairwise (le:=(·<=·)) (λa b _ _ h1 h2=>le_antisymm h1 h2) ?_ (Br _) ?_
  .rw[iI];exact(Br _).imp λ{a b} q=>by omega
  .refine((Aa _).map _).trans ?_;rw[i5];exact(Aa _).symm
 rw[e0,h.n];have ce:∀t,((71 68).filter λj=>decide (Pl.E Q j<=t)).length=((71 68).filter λj=>decide (Pl.E P j+d<=t)).length:=λt=>by
  have:=h.eq W U L M (t-d);rw[show t-d+d=t by omega]at this;unfold Cr at this;rw[h.n]at this;rw[this]
  congr 1
  refine List.filter_congr λj _=>?_
  congr 1
  exact propext ⟨λq=>by omega,λq=>by omega⟩
 have l1:(As ((71 68).map (Pl.E Q))).length=ws.length:=by rw[(Aa _).length_eq];simp
 have l2:(As ((71 68).map λk=>Pl.E P k+d)).length=ws.length:=by rw[(Aa _).length_eq];simp
 refine ext_getElem (by rw[l1,l2]) λi h1 h2=>?_;have a1:=List.getElem?_eq_getElem h1;have a2:=List.getElem?_eq_getElem h2;exact le_antisymm (Ym (λt=>le_of_eq (ce t).symm) a1 a2) (Ym (λt=>le_of_eq (ce t)) a2 a1)
def X8{hd:Hd}{k:Nat}{ns:List Int}(e:hd[k]?=some (.lst (intD ns))):pyD hd (.mu k)=some (.list (ns.map PyData.int)):=by
 show(match hd[k]? with|some (.lst ds)=>(BK ds).map λis=>PyData.list (I.pys is)|_=>none)=_;rw[e];show(BK (ns.map λi=>D.im 106)).map _=_;rw[D3,i8,DP]
theorem Gv:∀ns:List Int,PyData.depthAll (ns.map PyData.int)=0
 |[]=>by simp[PyData.depthAll]
 |n::r=>by simp[PyData.depthAll,PyData.depth,Gv r]
def Ga(ns:List Int):(PyData.list (ns.map PyData.int)).canLay0=true:=by
 rw[PyData.canLay0]
 induction ns with
 |nil=>rfl
 |cons x r ih=>simp[PyData.canLayAll0,PyData.canLay0]at ih ⊢;try exact ih
theorem J9:∀as bs:List Int,PyData.eqvAll (as.map PyData.int) (bs.map PyData.int)=decide (as=bs)
 |[],[]=>by simp[PyData.eqvAll]
 |[],b::r=>by simp[PyData.eqvAll]
 |a::r,[]=>by simp[PyData.eqvAll]
 |a::r,b::s=>by
  have ih:=J9 r s;simp only[gq,PyData.eqvAll,PyData.eqv,ih];by_cases h:a=b
  .subst h;simp
  .simp[h]
def Vn{ma:ME}{ml:MA}{ls:Ls}{hd:Hd}{QE:D->Hd->Prop}(h:WE ma ls hd λd x=>WA ml ls x λds y=>∃as bs:List Int,pyD y d=some (.list (as.map PyData.int))/\ds=intD bs/\QE (.im (.bl (!decide (as=bs)))) y):WE (Dp true ma ml) ls hd QE:=by
 obtain⟨d,x,e1,ds,y,e2,as,bs,e3,rfl,q⟩:=h;refine⟨_,y,?_,q⟩;unfold Dp;rw[e1];simp only[gw,e2,e3];simp only[intD,D3,gw,DP];unfold Ka;rw[gi ⟨Ga as,Ga bs,by simp[PyData.depth,Gv]⟩];simp[PyData.eqv,J9]
def HM{F:List D->Hd->Option 104}{m:MA}{ls:Ls}{hd:Hd}{QE:D->Hd->Prop}(h:WA m ls hd λds rest=>Ao 0 ds=true/\WF F ds [] λd x=>∃k es,d=.mu k/\x[k]?=some (.lst es)/\Ao 0 es=true/\QE (.mu rest.length) (rest++[.lst es])):WE (A8 0 F m) ls hd QE:=by
 obtain⟨ds,rest,e,hc,d,x,e2,k,es,rfl,e3,c3,q⟩:=h;refine⟨_,_,?_,q⟩;have t3:¬ k<0:=by omega
 simp only[A8,e,gw,List.take_zero,hc,e2,fin,gj t3,e3,c3,i3];simp
theorem IQ(w:Nat):∀ns:List Int,Ao w (intD ns)=true
 |[]=>rfl
 |k::r=>by
  have:=IQ w r;simp[intD,Ao,clD]at this ⊢;exact this
def Od{hd:Hd}{k:Nat}{ns:List Int}(e:hd[k]?=some (.lst (intD ns))):pyN 30 hd (.mu k)=some (.list (ns.map PyData.int)):=by
 show(match hd[k]? with|some (.lst ds)=>(FR (ds.map (pyN 29 hd))).map PyData.list|_=>none)=_;rw[e];dsimp only;have:FR ((intD ns).map (pyN 29 hd))=some (ns.map PyData.int):=by
  clear e
  induction ns with
  |nil=>rfl
  |cons x r ih=>
   show FR (pyN 29 hd (.im (.int x))::((intD r).map (pyN 29 hd)))=_;rw[show pyN 29 hd (.im (.int x))=some (.int x)from rfl];unfold FR;rw[ih];rfl
 rw[this];rfl
def mvk(d:Int)(z:Wk):Wk:=⟨z.len,z.com+d,z.cost⟩
def aX{w d:Int}{ws:List Wk}(W:EW w ws)(h:∀z∈ws,0<=z.com+d/\z.com+d<=60):EW w (ws.map (mvk d)):=by
 refine⟨by simpa using W.n1,by simpa using W.n8,W.w0,λz hz=>?_⟩;obtain⟨y,hy,rfl⟩:=mem_map.mp hz;exact⟨(W.ea y hy).1,h y hy,(W.ea y hy).2.2⟩
def Xw{w d:Int}{ws:List Wk}(W:EW w ws)(U:EW w (ws.map (mvk d))):Like d id id ws (ws.map (mvk d)):=by
 refine⟨by simp,λk hk=>⟨hk,rfl⟩,λk hk=>⟨hk,rfl⟩,λk hk=>?_,λk hk=>?_⟩
 .simp[lnN,hk,mvk]
 .have e1:=(FQ W hk).1;have e2:=(FQ U (k:=k) (by simpa using hk)).1;show((cmN (ws.map (mvk d)) k:Nat):Int)=_;rw[<- e1,<- e2];simp[mvk]
def YD{w:Int}{us ws:List Wk}(p:us.Perm ws)(W:EW w ws):EW w us:=
 ⟨by rw[p.length_eq];exact W.n1,by rw[p.length_eq];exact W.n8,W.w0,λz hz=>W.ea z (p.mem_iff.mp hz)⟩
def Xx{d0:Wk}{ws:List Wk}{seq:List Nat}(pm:seq.Perm (71 68)):Like 0 (λk=>seq.idxOf k) (λi=>(seq[i]?).getD 0) ws (Tb.byN d0 ws seq):=by
 have sl:seq.length=ws.length:=by simpa using pm.length_eq
 have nd:seq.Nodup:=pm.nodup_iff.mpr nodup_range;have mem:∀k,k<68->k∈seq:=λk hk=>pm.mem_iff.mpr (by simpa using hk);have lt:∀k,k<68->seq.idxOf k<seq.length:=λk hk=>List.idxOf_lt_length_iff.mpr (mem k hk);have at_:∀k,k<68->seq[seq.idxOf k]?=some k:=λk hk=>by
  rw[List.getElem?_eq_getElem (lt k hk)];simp
 have by_:∀k,k<68->(Tb.byN d0 ws seq)[seq.idxOf k]?=ws[k]? := λk hk=>by
  unfold Tb.byN;rw[List.getElem?_map,at_ k hk];simp[hk]
 refine⟨by simp[Tb.byN,sl],λk hk=>⟨by have:=lt k hk;omega,?_⟩,λi hi=>?_,λk hk=>?_,λk hk=>?_⟩
 .show(seq[seq.idxOf k]?).getD 0=k;rw[at_ k hk];rfl
 .have h2:i<seq.length:=by omega
  have e:(seq[i]?).getD 0=seq[i]:=by simp[h2]
  show(seq[i]?).getD 0<68/\seq.idxOf ((seq[i]?).getD 0)=i;rw[e];refine⟨by simpa using pm.mem_iff.mp (List.getElem_mem h2),?_⟩;have hm:seq[i]∈seq:=List.getElem_mem h2;have hl:=List.idxOf_lt_length_iff.mpr hm;refine(List.getElem?_inj (i:=seq.idxOf seq[i]) (j:=i) hl nd).mp ?_;rw[List.getElem?_eq_getElem hl,List.getElem?_eq_getElem h2];simp
 .unfold lnN;rw[by_ k hk]
 .unfold cmN;rw[by_ k hk];omega
abbrev Lx(ns:List Int)(ws ms us:List Wk)(d:Int)(z9 z10 z11 z12:Option D):Ls:=[some (.ro ns),some (.mu 1),some (.im (Ac ws)),some (.mu 2),some (.im (.int d)),some (.mu 3),some (.im (Ac ms)),some (.im (Ac us)),some (.mu 4),z9,z10,z11,z12]
inductive I_l5(ns:List Int)(ws ms us:List Wk)(d:Int)(R:Hd)(r:List D)(ls:Ls)(hd:Hd):Prop
 |mk (j:Nat) (a b:MO) (z9 z10 z11:Option D) (h0:j<=3) (h1:r=Aj (j:Int) (3-j)) (h2:ls=Lx ns ws ms us d z9 z10 z11 none) (h3:hd=a::b::R) (h4:T (3-j) a b):I_l5 ns ws ms us d R r ls hd
set_option maxHeartbeats 2000000 in
def ci(ns:List Int):WF Rw [.ro ns] [] λd x=>d=.im (.bl true):=by
 unfold Rw;refine AX rfl ?_;refine A9 (AF (F6 (A3 (A0 rfl (A4 ((TW ns).mono ?_))))));rintro d x ⟨rfl,a,b,hT,rfl⟩;have hT:T (1000+200) a b:=tap.le hT 67;refine A5 (A9 (AW (Bm (B0 ?_))));refine tap.call hT (as:=[]) (rest:=[]) rfl rfl (Tb.late_stays_w _) ?_;rintro i a b hT rfl;refine⟨_,rfl,(λh=>by cases h),λ_=>AO (A5 ?_)⟩;have hT:T (500+100) a b:=tap.le hT 67;refine A9 (AF ?_);refine tap.call hT (as:=[.im (.int 8)]) (rest:=[]) rfl rfl (OB _ 77 77) ?_;rintro i a b hT ⟨ws,w,rfl,W⟩;have n1:=W.n1;have n8:=W.n8;refine A5 (A9 (AF (BC 98)));rw[ER];refine⟨AS 79,?_⟩;refine Ar wkD (λz=>some (.im (.int z.com))) (λ_ ls=>∃x,ls=[some x]) _ (AQ _) ?_ ?_
 .rintro z hz ls hls;refine⟨[some (wkD z)],by rcases hls with rfl|⟨_,x,rfl⟩<;>rfl,⟨_,rfl⟩,Az ⟨rfl,?_⟩⟩;rw[gi rfl];exact⟨_,rfl,A7 (A0 rfl (AE (AH (ds:=[.im (.int z.len),.im (.int z.com),.im (Ju z.cost)]) rfl (DT _ _ _) ⟨rfl,rfl⟩)))⟩
 obtain⟨L,hL⟩:∃L,L=ws.map Wk.com:=⟨_,rfl⟩
 have e:(ws.filterMap λz=>some (D.im (.int z.com)))=intD L:=by rw[hL];simp[intD]
 rw[e];have Lne:L≠[]:=λz=>by rw[hL]at z;have:=iw List.length z;simp at this;subst this;simp at n1
 have mx:=Fc Lne;have mn:=Fb Lne;have Lr:∀x∈L,0<=x/\x<=60:=λx hx=>by
  rw[hL]at hx;obtain⟨z,hz,rfl⟩:=mem_map.mp hx;exact(W.ea z hz).2.1
 have r1:=Lr _ mx.1;have r2:=Lr _ mn.1;have r3:=mx.2 _ mn.1;refine A5 (A9 (AF (A7 ?_)));have hA:WA (A2 108 (A2 (mOp BJ (mC (.int 61)) (mOp BJ (mCB (f1 true Hu) (A2 (A1 3) A6)) (mCB (f1 false DR) (A2 (A1 3) A6)))) A6)) [some (.ro ns),some (.mu 1),some (.im (Ac ws)),some (.mu 2),none,none,none,none,none,none,none,none,none] [a,b,.lst (intD L)] λds x=>ds=[.mu 1,.im (.int (61-(FE L-E7 L)))]/\x=[a,b,.lst (intD L)]:=
  A3 (A0 rfl (A3 (A7 (AE (A7 (BI (A3 (A0 rfl (A4 (Bf (ds:=intD L) (z:=.im (.int (FE L))) rfl (by unfold Hu;rw[show Al (intD L)=some L from Db _,gw,gj Lne]) (BI (A3 (A0 rfl (A4 (Bf (ds:=intD L) (z:=.im (.int (E7 L))) rfl (by unfold DR;rw[show Al (intD L)=some L from Db _,gw,gj Lne]) (BL (BL (A4 ⟨rfl,rfl⟩))))))))))))))))))
 obtain⟨ds,x,eA,rfl,rfl⟩:=hA;have hT:T (480+20) a b:=tap.le hT 67;have hT:T (498+1+1) a b:=tap.le hT 67;refine tap.draw (n:=499) hT (rest:=[.lst (intD L)]) eA 67 67 λr a b hT pr qr=>?_;refine BI (A3 (A0 rfl (A4 (Bf (ds:=intD L) (z:=.im (.int (E7 L))) rfl (by unfold DR;rw[show Al (intD L)=some L from Db _,gw,gj Lne]) (BL (A5 ?_))))));obtain⟨d,hd⟩:∃d,d=r-E7 L:=⟨_,rfl⟩
 rw[<- hd];have dr:-60<=d/\d<=60:=by omega
 have U1:EW w (ws.map (mvk d)):=aX W λz hz=>by
  have h1:=mn.2 z.com (by rw[hL];exact List.mem_map_of_mem hz);have h2:=mx.2 z.com (by rw[hL];exact List.mem_map_of_mem hz);omega
 have hT:T (470+20) a b:=tap.le hT 67;refine A9 (AF ?_);refine Tb.tap_callL hT (as:=[.im (.int (ws.length:Int))]) (rest:=[.lst (intD L)]) (by simp[BH]) 75 (Tb.lineL _ _ n8) ?_;rintro es a b hT ⟨seq,rfl,pm⟩;have hs:∀k∈seq,k<ws.length:=λk hk=>by simpa using pm.mem_iff.mp hk
 have sl:seq.length=ws.length:=by simpa using pm.length_eq
 refine A5 ?_;refine A9 (AF (B2 98));rw[ER];refine⟨AS 79,?_⟩;refine Ar wkD (λz=>some (wkD (mvk d z))) (λ_ ls=>∃x y z,ls=[some x,some y,some z,some (.im (.int d))]) _ (AQ _) ?_ ?_
 .rintro z hz ls hls;refine⟨[some (.im (.int z.len)),some (.im (.int z.com)),some (.im (Ju z.cost)),some (.im (.int d))],by rcases hls with rfl|⟨_,x,y,z,rfl⟩<;>rfl,⟨_,_,_,rfl⟩,Az ⟨rfl,?_⟩⟩;rw[gi rfl];exact⟨_,rfl,B1 (A3 (A0 rfl (A3 (A7 (A0 rfl (A0 rfl (BA (A3 (A0 rfl (A4 ⟨C1,rfl,rfl⟩))))))))))⟩
 have e:(ws.filterMap λz=>some (wkD (mvk d z)))=((ws.map (mvk d)).map Bg).map D.im:=by simp
 rw[e];refine⟨_,rfl,A5 ?_⟩;rw[Ax];refine A9 (AF (B2 (Ad (Dg (A0 rfl ⟨3,C6 seq,rfl,rfl,AS 79,?_⟩)))));have n1':0<ws.length:=by omega
 obtain⟨us,hu⟩:∃us,us=Tb.byN ws[0] ws seq:=⟨_,rfl⟩
 have pu:us.Perm ws:=by rw[hu];exact Tb.byN_perm pm
 refine Ar (xs:=seq) (λk:Nat=>D.im 95) (λk=>some (wkD ((ws[k]?).getD ws[0]))) (λ_ ls=>∃x,ls=[some x,some (.im (Ac ws))]) _ (λp hp=>by rw[i4]at hp;subst hp;rfl) ?_ ?_
 .rintro k hk ls hls;have hk:=hs k hk;refine⟨[some (.im 95),some (.im (Ac ws))],by rcases hls with rfl|⟨_,x,rfl⟩<;>rfl,⟨_,rfl⟩,Az ⟨rfl,?_⟩⟩;rw[gi rfl];refine⟨_,rfl,A7 (A0 rfl (A0 rfl (AH (ds:=(ws.map Bg).map D.im) rfl (Eo rfl (by simp[hk]:((ws.map Bg).map D.im)[k]?=some (wkD ((ws[k]?).getD ws[0])))) ⟨rfl,rfl⟩)))⟩
 have e:(seq.filterMap λk=>some (wkD ((ws[k]?).getD ws[0])))=(us.map Bg).map D.im:=by rw[hu];simp[Tb.byN]
 rw[e];refine⟨_,rfl,A5 ?_⟩;rw[Ax];clear e;have U2:EW w us:=YD pu W;have k1:=Xw W U1;have k2:=Xx (d0:=ws[0]) pm;rw[<- hu]at k2;obtain⟨P,lp⟩:=QL W;obtain⟨P1,lp1⟩:=QL U1;obtain⟨P2,lp2⟩:=QL U2;have s1:=k1.sorted W U1 lp lp1;have s2:=k2.sorted W U2 lp lp2;have c1:=k1.eq W U1 lp lp1;have c2:=k2.eq W U2 lp lp2;have z0:(As 105).map (·+0)=As 105:=by simp
 rw[z0]at s2;have su1:((71 (ws.map (mvk d)).length).map (Pl.E P1)).sum=(105).sum+68*d:=by
  rw[<- Jd (Aa _),s1,<- Jd (Aa ((List.range 68).map (Pl.E P)))];have:∀M:List Int,(M.map (·+d)).sum=M.sum+M.length*d:=λM=>by
   induction M with
   |nil=>simp
   |cons x r ih=>rw[gq,hJ,hJ,ih,iH];push_cast;rw[Int.add_mul];omega
  rw[this,(Aa _).length_eq];simp
 have su2:((71 us.length).map (Pl.E P2)).sum=(105).sum:=by
  rw[<- Jd (Aa _),s2,Jd (Aa _)]
 have se0:=lp.se;have se1:=lp1.se;have se2:=lp2.se;rw[s1]at se1;rw[s2]at se2;generalize hS:As 105=S at *;have lS:S.length=ws.length:=by rw[<- hS,(Aa _).length_eq];simp
 refine A9 (AF (HM (A3 (A0 rfl (A4 ⟨by simp,se0.mono ?_⟩)))));rintro e x ⟨k,rfl,ek⟩;refine⟨k,_,rfl,ek,IQ _ _,A5 ?_⟩;refine A9 (AW (EC (AK (Vn (HM (A3 (A0 rfl (A4 ⟨by simp,se1.mono ?_⟩))))))));rintro e x ⟨k,rfl,ek⟩;refine⟨k,_,rfl,ek,IQ _ _,Ad (Dg (A0 rfl ⟨4,intD S,rfl,rfl,AS (by simp[intD];omega),?_⟩))⟩;refine Ar (xs:=S) (λe:Int=>D.im (.int e)) (λe=>some (.im (.int (e+d)))) (λ_ ls=>∃x,ls=[some x,some (.im (.int d))]) _ (by intro p hp;rw[i4]at hp;subst hp;rfl) ?_ ?_
 .rintro e he ls hls;refine⟨[some (.im (.int e)),some (.im (.int d))],by rcases hls with rfl|⟨_,x,rfl⟩<;>rfl,⟨_,rfl⟩,Az ⟨rfl,?_⟩⟩;rw[gi rfl];exact⟨_,rfl,A7 (A0 rfl (A0 rfl (BA ⟨rfl,rfl⟩)))⟩
 refine⟨S.map (·+d),S.map (·+d),X8 rfl,by simp[intD],_,rfl,?_⟩;rw[gj 75];refine AK (A7 (HM (A3 (A0 rfl (A4 ⟨by simp,se2.mono ?_⟩)))));rintro e x ⟨k,rfl,ek⟩;refine⟨k,_,rfl,ek,IQ _ _,A0 rfl (YS (Od rfl) (Od rfl) ⟨Ga _,Ga _,by simp[PyData.depth,Gv]⟩ ⟨_,rfl,(λh=>absurd h (by simp[PyData.eqv,J9])),λ_=>AO (A5 ?_)⟩)⟩;clear se0 se1 se2 s1 s2 eA e;have c2:∀t,Cr us P2 t=Cr ws P t:=λt=>by
  have:=c2 t
  rwa [Int.add_zero]at this
 obtain⟨ms,hm⟩:∃ms,ms=ws.map (mvk d):=⟨_,rfl⟩
 rw[<- hm]at U1 lp1 c1 su1 k1;obtain⟨R,hR⟩:∃R:Hd,R=[.lst (intD L),.lst (C6 seq),.lst (intD S),.lst (intD (S.map (·+d))),.lst (intD S)]:=⟨_,rfl⟩
 refine A9 (Bn (HK (A3 (AE (A4 ⟨_,rfl,E3 77 77,?_⟩)))));rw[<- hm];have eh:∀a b:MO,a::b::R=[a,b,.lst (intD L),.lst (C6 seq),.lst (intD S),.lst (intD (S.map (·+d))),.lst (intD S)]:=λa b=>by rw[hR]
 change WP (BD _ _ _ (Aj 0 3) (Lx ns ws ms us d none none none none) [a,b,.lst (intD L),.lst (C6 seq),.lst (intD S),.lst (intD (S.map (·+d))),.lst (intD S)]) _;rw[<- eh];clear eh hR;refine Bo (I_l5 ns ws ms us d R) (.mk 0 a b none none none 67 rfl rfl rfl (tap.le hT 67)) ?_ ?_
 .intro e r ls hd hI;obtain⟨j,a,b,z9,z10,z11,hj,er,rfl,rfl,hT⟩:=hI;obtain⟨m,hm⟩:∃m,3-j=m+1:=by
   cases q:3-j with
   |zero=>rw[q]at er;cases er
   |succ m=>exact⟨m,rfl⟩
  rw[hm,Aj]at er;obtain⟨rfl,rfl⟩:=List.cons.inj er;rw[hm]at hT;refine⟨Lx ns ws ms us d (some (.im (.int (j:Int)))) z10 z11 none,rfl,?_⟩;refine A9 (AF (A7 ?_));refine tap.draw hT (rest:=R) rfl 77 77 λr a b hT pr qr=>AE (BL (A5 ?_));obtain⟨t,ht⟩:∃t,t=r-10:=⟨_,rfl⟩
  rw[<- ht];refine A9 (AF (AA (A3 (A0 rfl (A3 (A0 rfl (A4 ⟨by simp,(lp.db t 67 67).mono ?_⟩)))))));rintro e x rfl;refine⟨_,rfl,A5 ?_⟩;refine AW (EC (AK (A7 (AA (A3 (A0 rfl (A3 (A7 (A0 rfl (A0 rfl (BA (A4 ⟨by simp,(lp1.db (t+d) 67 67).mono ?_⟩))))))))))));rintro e x rfl;refine⟨_,rfl,A0 rfl (EQ ⟨_,rfl,?_⟩)⟩;rw[c1,gj 75];refine AK (A7 (AA (A3 (A0 rfl (A3 (A0 rfl (A4 ⟨by simp,(lp2.db t 67 67).mono ?_⟩)))))));rintro e x rfl;refine⟨_,rfl,A0 rfl (EQ ⟨_,rfl,?_⟩)⟩;rw[c2];exact⟨(λh=>absurd h 75),λ_=>AO ⟨AQ _,.mk (j+1) a b _ _ _ 67 (by rw[show((j:Int)+1)=((j+1:Nat):Int) by omega,show m=3-(j+1) by omega]) rfl rfl (tap.le hT 67)⟩⟩
 .intro ls hd hI;obtain⟨j,a,b,z9,z10,z11,hj,er,rfl,rfl,hT⟩:=hI;refine A5 (A9 (AF (AA (A3 (A0 rfl (A4 ⟨by simp,lp.sh.mono ?_⟩))))));rintro e x rfl;refine⟨_,rfl,A5 ?_⟩;generalize hs:(105).sum=s at *;have w0:=W.w0;obtain⟨q,hq⟩:∃q,q=w*(ws.length:Int):=⟨_,rfl⟩
  have q0:0<=q:=by rw[hq];exact Int.mul_nonneg w0.1 67
  have q1:q<=9*8:=by rw[hq];exact Int.mul_le_mul w0.2 67 67 67
  have e1:w*((71 ms.length).map (Pl.E P1)).sum=w*s+q*d:=by rw[su1,Int.mul_add,hq,Int.mul_assoc]
  refine A9 (AW (EC (AK (Tb.we_isN (A0 rfl ⟨some (w*s),rfl,_,rfl,?_⟩)))));rw[gj 75];refine AK (A7 (AA (A3 (A0 rfl (A4 ⟨by simp,lp1.sh.mono ?_⟩)))));rintro e x rfl;refine⟨_,rfl,A7 (A0 rfl (A7 (A7 (dJ W rfl (BI (A3 (A0 rfl (A4 (Bf (ds:=(ws.map Bg).map D.im) (z:=.im (.int (ws.length:Int))) rfl (by simp[BH]) (JJ (D0 67 67) (A0 rfl (JJ (by rw[<- hq];exact D0 67 67) (BA (EQ ⟨_,rfl,?_⟩))))))))))))))⟩;rw[e1,hq];refine⟨(λh=>absurd h 75),λ_=>AO (A5 ?_)⟩;refine AT (A7 (AA (A3 (A0 rfl (A4 ⟨by simp,lp2.sh.mono ?_⟩)))));rintro e x rfl;refine⟨_,rfl,A0 rfl (CB ?_)⟩;rw[su2];simp
def law_eq(ns:List Int):∃hd,Rw [.ro ns] []=some (.im (.bl true),hd):=by
 obtain⟨d,x,e,rfl⟩:=ci ns;exact⟨x,e⟩
open PySem L2 PySem.W PyProof.Rows
abbrev xS:Xs:=[("by_dues",((("by_dues":Str)++".<locals>.")++"<lambda>"),58,41),("put_out",((("put_out":Str)++".<locals>.")++"<lambda>"),137,38),("ranked_plan",((("ranked_plan":Str)++".<locals>.")++"<lambda>"),123,62),("left_plan",((("left_plan":Str)++".<locals>.")++"<lambda>"),155,59)]
def all_mk{l:OpenLaw}{w:World}{K:Frag}{h:Heap}{mg:Str->Option Value}{fa:Addr}{c P:Str->Addr}(X:K.In h)(G:h.Ns mainGlobals mg)(hfa:mg "law"=some (.ref fa))(hx:HX xS mg h c P)(F:Qm K):HG l w K xS mg c P fa Qd:=by
 obtain⟨Z,h0,h1,h2,h3,h4,h5,h6,h7,h10,h11,h12,h13,h14,h15,h16,h17,h19,h21,h22,h23,h24,h25,h26,h27,h28,h29,h30,h31,h32,h33,h34,h35,h36,h37,h38,h39,h40,h41,h42,h43,p8,p9,p18,p20,h8,h9,h18,h20,tn⟩:=F;have B:=(zsE Z).blt X G;have nd:((Ck (BR K (tbs xS P))).map (·.1)).Nodup:=cS (ps:=[p8,p9,p18,p20]) (by show [P "by_dues",P "put_out",P "ranked_plan",P "left_plan"]=_;rw[((flE (e:=Dc) h8).code X G hx (.head _)).1,((flE (e:=Fi) h9).code X G hx (.tail _ (.head _))).1,((flE (e:=DK) h18).code X G hx (.tail _ (.tail _ (.head _)))).1,((flE (e:=DD) h20).code X G hx (.tail _ (.tail _ (.tail _ (.head _))))).1]) tn;refine Ur X G hfa hx (feE h0) bd1 rfl λbase hd bl=>?_;obtain⟨o_is_number,o_is_tuple_of,o_later_due,o_moved_cost,o_length_of,o_same_coming,o_one_coming,o_refuse_other_costs,o_weight_of,o_one_weight,o_late_coming,o_by_dues,o_full_weight,o_no_more,o_put_behind,o_greatest_weight,o_look_at_shape,o_look_at_row,o_look_at_places,o_lets_table,o_next_row,o_table_of,o_add_piece,o_ranked_plan,o_put_out,o_ends_of,o_turned,o_done_by,o_end_weight,o_left_plan,o_ends_paper,o_look_at_entry_shape,o_look_at_entry,o_lets_ends,o_source,o_pick,o_late_works,o_end_works,o_alike,o_line,o_sorted_ends,o_late_stays,o_shown,o_law⟩:=oks (E:=enM l w K xS P mg base) B;have g1:=o_length_of ((feE h1).dn X G hx bd2 l w base);have g2:=o_weight_of ((feE h2).dn X G hx bd1 l w base);have g3:=o_one_weight ((feE h3).dn X G hx bd1 l w base) g2;have g4:=o_same_coming ((feE h4).dn X G hx bd1 l w base);have g5:=o_one_coming ((feE h5).dn X G hx bd1 l w base) g4;have g6:=o_refuse_other_costs ((feE h6).dn X G hx bd2 l w base);have g7:=o_late_coming ((feE h7).dn X G hx bd1 l w base) g5 g6;have g8:=o_by_dues ((flE h8).dl X G hx bd1 (.head _) l w hd bl nd rfl);have g9:=o_put_out ((flE h9).dl X G hx bd1 (.tail _ (.head _)) l w hd bl nd rfl) g1 g3 g7 g8;have g10:=o_turned ((feE h10).dn X G hx bd2 l w base);have g11:=o_done_by ((feE h11).dn X G hx bd2 l w base) g9 g10;have g12:=o_source ((feE h12).dn X G hx bd1 l w base);have g13:=o_pick ((feE h13).dn X G hx bd2 l w base);have g14:=o_end_works ((feE h14).dn X G hx bd2 l w base) g13;have g15:=o_line ((feE h15).dn X G hx bd2 l w base) g13;have g16:=o_ends_of ((feE h16).dn X G hx bd2 l w base);have g17:=o_add_piece ((feE h17).dn X G hx bd4 l w base);have g18:=o_ranked_plan ((flE h18).dl X G hx bd3 (.tail _ (.tail _ (.head _))) l w hd bl nd rfl) g17;have g19:=o_end_weight ((feE h19).dn X G hx bd1 l w base) g6 g3;have g20:=o_left_plan ((flE h20).dl X G hx bd1 (.tail _ (.tail _ (.tail _ (.head _)))) l w hd bl nd rfl) g18 g19;have g21:=o_sorted_ends ((feE h21).dn X G hx bd1 l w base) g16 g20;have g22:=o_later_due ((feE h22).dn X G hx bd2 l w base);have g23:=o_moved_cost ((feE h23).dn X G hx bd2 l w base) g22;have g24:=o_full_weight ((feE h24).dn X G hx bd1 l w base) g2;have g25:=o_greatest_weight ((feE h25).dn X G hx bd1 l w base);have g26:=o_is_number ((feE h26).dn X G hx bd1 l w base);have g27:=o_is_tuple_of ((feE h27).dn X G hx bd2 l w base);have g28:=o_look_at_shape ((feE h28).dn X G hx bd3 l w base) g26 g27 g24;have g29:=o_no_more ((feE h29).dn X G hx bd2 l w base);have g30:=o_put_behind ((feE h30).dn X G hx bd3 l w base);have g31:=o_look_at_row ((feE h31).dn X G hx bd4 l w base) g29 g30;have g32:=o_look_at_places ((feE h32).dn X G hx bd3 l w base) g7 g8 g29 g31;have g33:=o_lets_table ((feE h33).dn X G hx bd2 l w base) g7 g24 g25 g28 g32;have g34:=o_next_row ((feE h34).dn X G hx bd2 l w base) g29 g30;have g35:=o_table_of ((feE h35).dn X G hx bd1 l w base) g7 g8 g24 g34;have g36:=o_late_works ((feE h36).dn X G hx bd2 l w base) g13;have g37:=o_alike ((feE h37).dn X G hx bd2 l w base);have g38:=o_late_stays ((feE h38).dn X G hx bd1 l w base) g23 g33 g35 g13 g36 g37 g15;have g39:=o_ends_paper ((feE h39).dn X G hx bd1 l w base) g35 g16 g10 g20;have g40:=o_look_at_entry_shape ((feE h40).dn X G hx bd3 l w base) g26 g27 g28 g10;have g41:=o_look_at_entry ((feE h41).dn X G hx bd3 l w base) g25 g32 g10;have g42:=o_lets_ends ((feE h42).dn X G hx bd2 l w base) g27 g19 g40 g41;have g43:=o_shown ((feE h43).dn X G hx bd1 l w base) g39 g42;exact o_law ((feE h0).dn X G hx bd1 l w base) g11 g12 g13 g14 g15 g21 g38 g43
end T52
theorem PySem.Challenge.cw_benchdays_k52_whole_moved_and_renumbered_holds : PySem.Challenge.rw_benchdays_k52_whole_moved_and_renumbered.Holds := by
 refine T52.early λK F d hd hdf=>L2.walkL T52.xS (l:=PySem.Challenge.rw_benchdays_k52_whole_moved_and_renumbered) (n:=63) (k:=9) (F:=T52.Rw) rfl 77 hdf ⟨rfl,by decide,by decide,rfl⟩ (by intro x hx;simp only[T52.xS,gu,iu,ir]at hx;rcases hx with rfl|rfl|rfl|rfl<;>exact⟨_,rfl⟩) T52.law_eq (λw h Y=>Y) λw mg fa h c P X G hmg hx=>?_;rw[hd]at hmg;exact T52.all_mk X G hmg hx (F w)
