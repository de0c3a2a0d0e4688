import PyProof.Rows.All
import Wide.All
import OpenK.AllK
import Wide.FinOn
import Lean
import PyProof.EqAt
import PyProof.EqKinds
import PyProof.TupleCall
import KE.KSortKey
import PyProof.ListMulRoad
import PyProof.Draws
import PyProof.EnumMake
import PyProof.ListNew
import KE.KRevIter
import KE.KMinKey
import PyProof.TupleKey
import PySem.Challenge.RW_benchdays_k48_whole_least_left_is_best
set_option Elab.async false
set_option linter.all false
set_option maxRecDepth 100000
noncomputable section
open PySem.W(Frag fnOf OpenLaw keepIn codeIn)
set_option hygiene false in
local macro_rules | `(tactic| and_intros) => `(tactic| intro ρ σ H hd ls Q d hd' hR hL hm hQ)
open List(mem_cons mem_filter mem_append nodup_cons of_mem_zip any_cons mem_map all_eq_true mem_singleton mem_iff_getElem? nodup_append map_snd_zip pairwise_map set_cons_succ set_cons_zero map_take map_id nodup_range pairwise_cons sum_append pairwise_append range_succ)
open Option(isSome_iff_exists none_or getD_some map_eq_some_iff)
open Nat(lt_trans)
def gF{α β:Type _}{o:Option α}{f:α->Option β}{b:β}(h:o.bind f=some b):∃a,o=some a/\f a=some b:=Option.bind_eq_some_iff.mp h
def gG{α β:Type _}{o:Option α}{f:α->β}{b:β}(h:o.map f=some b):∃a,o=some a/\f a=b:=Option.map_eq_some_iff.mp h
def gb:=@PySem.wpAny_bind
def gc:=@if_pos
def gf:=@if_neg
def gg:=@Nat.le_refl
def gh:=@PySem.wpAny_pure
def gi:=@List.mem_cons_of_mem
def gj:=@List.mem_cons
def gm:=@List.map_cons
def gn:=@List.mem_append_right
def gp:=@List.mem_cons_self
def gq:=@Option.bind_some
def gu:=@List.size_toArray
def gv:=@Nat.ne_of_lt
def gw:=@if_true
def gy:=@List.length_map
def gz:=@PySem.wpAny_mono
def gH:=@List.map_map
def gJ:=@List.mem_of_getElem?
def gK:=@List.mem_singleton
def gL:=@List.sum_cons
def gM:=@decide_eq_false
def gN:=@decide_eq_true
def gO:=@List.lookup_cons
def gP:=@List.filter_cons
def gQ:=@Nat.le_trans
def gR:=@Option.map_some
def gT:=@if_false
def gU:=@Nat.lt_of_lt_of_le
def gV:=@Int.toNat_natCast
def gW:=@Nat.zero_le
def gX:=@PySem.wpAny_holding
def gY:=@PySem.sizeLine_eq
def gZ:=@eq_iff_iff
def hJ:=@or_false
def hX:=@List.length_cons
def hZ:=@List.not_mem_nil
def i3:=@congrArg
def i4:=@List.append_nil
def i5:=@Nat.ne_of_gt
def i6:=@List.length_take
def i7:=@Nat.lt_irrefl
def i8:=@PySem.wpAny_seqItems
def i9:=@List.mem_append_left
def ia:=@of_decide_eq_true
def ic:=@List.filterMap_cons
def ie:=@List.length_append
def ig:=@List.drop_eq_getElem_cons
def ik:=@List.map_append
def il:=@Nat.le_of_lt
def ip:=@Nat.le_succ
def iq:=@PySem.wpAny_field
def ir:=@PySem.wpAny_letGo
def iu:=@PySem.wpAny_tryCatch
def iw:=@List.replicate_succ
def iA:=@List.map_nil
def iB:=@List.find?_cons
def iC:=@PySem.typeIs_int
def iD:=@PySem.codeAny_builtin
def iE:=@decide_eq_true_eq
def iF:=@List.cons_append
def iG:=@List.ext_getElem?
def iH:=@List.pairwise_map
def iI:=@PySem.wpAny_truthy_bool
def iJ:=@List.length_nil
def iK:=@List.lookup_append
def iL:=@List.take_append_drop
def iM:=@PySem.wpAny_standAt
def iN:=@PySem.wpAny_Call_Name_kw
def iO:=@PySem.plainId_quiet
def iP:=@PyProof.Rows.get?_update_seq
def iQ:=@List.append_assoc
def iR:=@List.nil_append
def iS:=@List.zipIdx_cons
def iT:=@Nat.lt_succ_of_lt
def iU:=@PySem.codeAny_mono
def iV:=@PySem.call_meets
def iW:=@PyProof.Rows.listUpdate_at
def iX:=@PySem.wpAny_newList
def iY:=@List.flatten_cons
def iZ:=@List.mergeSort_perm
def j3:=@List.map_congr_left
def j4:=@Nat.lt_succ_self
def j5:=@Nat.le_add_right
def j6:=@PySem.wpAny_passesOwn
def j7:=@PySem.wpAny_call_entry
def j8:=@List.pairwise_mergeSort
def j9:=@List.length_filter_le
def ja:=@PySem.wpAny_newObj_type
def jb:=@PySem.wpAny_setField_rec
def jd:=@PySem.wpAny_updateSeq
def je:=@PySem.wpAny_eqBool_int
def jf:=@PySem.wpAny_execs_nil
def jg:=@PySem.wpAny_pyNext_list_item
def jh:=@PySem.nums_intItems
def ji:=@PySem.wpAny_callSpecial?_slot
def jj:=@PySem.wpAny_evalAll_cons
def jk:=@PySem.wpAny_evalAll_nil
def jl:=@PySem.wpAny_pyIter_enum
def jm:=@decide_eq_false_iff_not
set_option compiler.extract_closed false
local macro_rules | `(tactic| omega) => `(tactic| first | lia | omega (config := {}))
namespace Ea
open PySem PySem.W
noncomputable def dA(s:Stmt):Arguments:=match s with
 |.FunctionDef _ a _ _ _ _ _ _ _ _=>a
 |_=>{ posonlyargs:=[],args:=[],vararg:=none,kwonlyargs:=[],kw_defaults:=[],kwarg:=none,defaults:=[] }
noncomputable def dB(s:Stmt):List Stmt:=match s with
 |.FunctionDef _ _ b _ _ _ _ _ _ _=>b
 |_=>[]
noncomputable def dS(s:Stmt):Scope:=match s with
 |.FunctionDef _ _ _ _ _ _ sc _ _ _=>sc
 |_=>{ kind:=.function,names:=[],isGenerator:=false,isCoroutine:=false }
noncomputable def tO(o:Obj):Option Addr:=match o.data with
 | .fields vs=>(match (vs[11]?:Option Value)with
  |some (Value.ref P)=>some P
  | _=>none)
 |_=>none
def At(K:Frag)(n:Str)(s:Stmt)(f:Addr)(cd:Value):Prop:=∃oc kV dc pm ct od an sl,nsIn K mainGlobals n=some (some (.ref f))/\K.lookup f=some ⟨oc,od,.func (fnOf n n (dA s) (dB s) (dS s) .none kV dc pm an cd ct),sl⟩/\codeIn K cd n=true/\keepIn K (.ref f)=true
def Fe(K:Frag)(n:Str)(s:Stmt):Prop:=∃f cd,At K n s f cd
def Fl(K:Frag)(n:Str)(s:Stmt)(p:Addr):Prop:=∃f ca ob,At K n s f (.ref ca)/\K.lookup ca=some ob/\tO ob=some p
section
variable{K:Frag}{n:Str}{s:Stmt}{f ca p:Addr}{oc kV dc pm cd ct:Value}{od an:Option Addr}{sl:Array (Option Value)}{ob:Obj}
def feI(a:nsIn K mainGlobals n=some (some (.ref f)))(l:K.lookup f=some ⟨oc,od,.func (fnOf n n (dA s) (dB s) (dS s) .none kV dc pm an cd ct),sl⟩)(c:codeIn K cd n=true)(k:keepIn K (.ref f)=true):Fe K n s:=⟨f,cd,_,_,_,_,_,_,_,_,a,l,c,k⟩
def flI(a:nsIn K mainGlobals n=some (some (.ref f)))(l:K.lookup f=some ⟨oc,od,.func (fnOf n n (dA s) (dB s) (dS s) .none kV dc pm an cd ct),sl⟩)(c:codeIn K cd n=true)(k:keepIn K (.ref f)=true)(u:cd=.ref ca)(t:K.lookup ca=some ob)(v:tO ob=some p):Fl K n s p:=by
 subst u;exact⟨f,ca,ob,⟨_,_,_,_,_,_,_,_,a,l,c,k⟩,t,v⟩
end
noncomputable abbrev bA:List Str:=["list","tuple","len","range","repr","sum","min","max","abs","all","any","sorted","zip","isinstance","int","bool","str","set","enumerate","reversed","dict"]
def Zs(K:Frag):Prop:=∀n∈bA,nsIn K mainGlobals n=some none
def Zg(K:Frag)(l:List Str):Prop:=∀n∈l,nsIn K mainGlobals n=some none
def zs0{K:Frag}:Zg K []:=λ_ h=>nomatch h
def zs1{K:Frag}{n:Str}{l:List Str}(h:nsIn K mainGlobals n=some none)(r:Zg K l):Zg K (n::l):=λm hm=>by
 rcases mem_cons.mp hm with rfl|hm
 .exact h
 .exact r m hm
end Ea
namespace L2
open PySem
noncomputable def cY(nm:Str)(p:Addr×Obj):Bool:=match p.2.data with
 |.cls cd=>cd.name==nm
 |_=>false
noncomputable def cZ(K:Frag)(nm:Str):Option Addr:=(K.find? (cY nm)).map (·.1)
end L2
namespace Ea
open PySem PySem.W
section
variable{K:Frag}{nm:Str}{s:Stmt}{fs:List Str}{C fI N:Addr}{nm' q:Str}{bs bm sub:List Value}{sn:List Str}{ab:Bool}{col:Option Bool}{dd od an:Option Addr}{k0 k1 k2 k3 k5:Option Value}{oc kV dc pm cd ct:Value}{sl:Array (Option Value)}
def na1{f:Str}(h:findIn K (.ref C) f=some none)(r:∀f∈fs,findIn K (.ref C) f=some none):∀g∈f::fs,findIn K (.ref C) g=some none:=λg hg=>by
 rcases mem_cons.mp hg with rfl|hg
 .exact h
 .exact r g hg
end
end Ea
namespace Hl
open PySem PySem.W PyProof.Rows
noncomputable def PN(p:Program)(w:World)(m:Nat)(ann:Option Value):Nat->SharedT->Thread->Option SharedT
 |0,_,_=>none
 |n+1,s,t=>match through t with
  |true=>some s
  |false=>match stepOk m ann t with
   |false=>none
   |true=>match stepT (denote treeTable) p w s t with
    |some (s',t')=>PN p w m ann n s' t'
    |none=>none
theorem OR{p:Program}{w:World}{m:Nat}{ann:Option Value}:∀{n:Nat} {s s':SharedT} {t:Thread},PN p w m ann n s t=some s'->topRun treeTable p w m ann n s.abs t=some s'.abs
 |0,_,_,_,h=>by cases h
 |n+1,s,s',t,h=>by
  rw[PN]at h;rw[topRun];cases h1:through t with
  |true=>rw[h1]at h;cases h;rfl
  |false=>
   rw[h1]at h;cases h2:stepOk m ann t with
   |false=>rw[h2]at h;cases h
   |true=>
    rw[h2]at h;cases h3:stepT (denote treeTable) p w s t with
    |none=>rw[h3]at h;cases h
    |some r=>obtain⟨s2,t2⟩:=r;rw[h3]at h;rw[stepT_spec h3];exact OR h
noncomputable def V3:Nat->List Obj->BT->BT
 |_,[],t=>t
 |n,o::r,t=>V3 (n+1) r (t.ins n o)
noncomputable def bT(P:Params):BT:=V3 0 (boot_heap P).objs.toList .nil
def b9(P:Params):absHeap (bT P) 11 (boot_heap P).life=boot_heap P:=by kernel_rfl
def dh(P:Params):((boot_heap P).isNs mainGlobals,(boot_heap P).nsMap mainGlobals "__annotations__")=(true,some (.ref 6)):=by kernel_rfl
variable{p q:Program}{loose:List Str}{Xt:Shared->Bool}{α:Type}{Yf:Shared->α}{Ya:World->α}{N M:Nat}
noncomputable def aN(p q:Program)(loose:List Str)(Xt:Shared->Bool)(Yf:Shared->α)(M:Nat)(w:World)(os:OsState):=
 match PN p w 11 (some (.ref 6)) M ⟨bT w.params,11,(boot_heap w.params).life,Array.mk [],boot_drawn,boot_toks,os⟩ (topStub p)with
 | some s=>(match staticsOk (importedModules p.main.body) (boot_heap w.params) s.abs.heap&&namesBound p s.abs.heap&&gensDone s.abs&&laidKept (boot_heap w.params) s.abs.heap with
  |true=>some (openSeen q loose (importedModules p.main.body) Xt true s.abs,Yf s.abs)
  | false=>none)
 |none=>none
def left(e:opening p=plainProg p.main.scope.names)(f:∀s,fenceModules? p s=some s)(hN:Nat.ble 600 N=true)(hM:Nat.ble M N=true)(h:∀w os,aN p q loose Xt Yf M w os=some (openGood q loose,Ya w)):LeftO p q loose Xt Yf Ya N:=λw=>by
 obtain⟨⟨hp,gs,d,k,os⟩,e1,e2⟩:=gG (boot_open e hN f w);simp only[Prod.mk.injEq]at e2;obtain⟨rfl,rfl,rfl,rfl⟩:=e2;have hl:=h w os;unfold aN at hl;split at hl
 .next s hs=>
  have r:=topRun_mono (N-M) _ _ _ _ (OR hs);rw[show M+(N-M)=N by have:=Nat.le_of_ble_eq_true hM;omega]at r;have ea:(SharedT.mk (bT w.params) 11 (boot_heap w.params).life (Array.mk []) boot_drawn boot_toks os).abs=⟨boot_heap w.params,Array.mk [],boot_drawn,boot_toks,os⟩:=by
   show Shared.mk (absHeap (bT w.params) 11 (boot_heap w.params).life) _ _ _ _=_;rw[b9]
  rw[ea]at r;obtain⟨z1,z2⟩:=Prod.mk.inj (dh w.params);have z3:(boot_heap w.params).objs.size=11:=rfl;split at hl
  .next c=>
   show((fencedOpening treeTable p w N).bind (topFrom treeTable p w N)).map _=_;rw[e1,gq];have t:topFrom treeTable p w N ⟨boot_heap w.params,Array.mk [],boot_drawn,boot_toks,os⟩=some s.abs:=by
    unfold topFrom;dsimp only;rw[z1,z2,z3,r];show(match staticsOk (importedModules p.main.body) (boot_heap w.params) s.abs.heap&&namesBound p s.abs.heap&&gensDone s.abs&&laidKept (boot_heap w.params) s.abs.heap with|true=>some s.abs|false=>none)=_;rw[c]
   rw[t];exact hl
  .cases hl
 .cases hl
end Hl
namespace T48
open PySem PySem.W PyProof.Rows Ea
noncomputable def top(i:Nat):Stmt:=PySem.Challenge.pw_benchdays_k48_whole_least_left_is_best.main.body.getD i (.Pass ⟨0,0,0,0⟩)
noncomputable def vw:PySem.Program:={ PySem.Challenge.pw_benchdays_k48_whole_least_left_is_best with main:={ PySem.Challenge.pw_benchdays_k48_whole_least_left_is_best.main with body:=[1,2,3,5,6,8,9,11,12,13,14,15,16,18,19,21,22,23,24,25,26,27,28,29,31,32,34,36,38,39,40,41,42,44,45,47,48,49,51,52,53,54,55,56,57,58,59].map top } }
def Qq(K:Frag):Prop:=Zs K/\Fe K "law" (top 59)/\Fe K "length_of" (top 11)/\Fe K "weight_of" (top 15)/\Fe K "one_weight" (top 16)/\Fe K "same_coming" (top 12)/\Fe K "one_coming" (top 13)/\Fe K "refuse_other_costs" (top 14)/\Fe K "late_coming" (top 21)/\Fe K "turned" (top 38)/\Fe K "done_by" (top 39)/\Fe K "add_piece" (top 18)/\Fe K "end_weight" (top 40)/\Fe K "steps_at" (top 8)/\Fe K "cost_at" (top 9)/\Fe K "costs_of" (top 44)/\Fe K "worth" (top 45)/\Fe K "_law_source" (top 51)/\Fe K "_law_pick" (top 52)/\Fe K "_law_end_works" (top 53)/\Fe K "_law_wishes" (top 54)/\Fe K "_law_plan" (top 55)/\Fe K "_law_plan_ends" (top 56)/\Fe K "_law_ended" (top 57)/\Fe K "full_weight" (top 23)/\Fe K "no_more" (top 24)/\Fe K "put_behind" (top 25)/\Fe K "next_row" (top 31)/\Fe K "table_of" (top 32)/\Fe K "ends_of" (top 36)/\Fe K "ends_paper" (top 42)/\Fe K "is_tuple_of" (top 6)/\Fe K "is_number" (top 5)/\Fe K "look_at_shape" (top 27)/\Fe K "look_at_entry_shape" (top 47)/\Fe K "greatest_weight" (top 26)/\Fe K "look_at_row" (top 28)/\Fe K "look_at_places" (top 29)/\Fe K "look_at_entry" (top 48)/\Fe K "lets_ends" (top 49)/\Fe K "_law_shown" (top 58)/\∃p8 p9 p13 p15,Fl K "by_dues" (top 22) p8/\Fl K "put_out" (top 34) p9/\Fl K "ranked_plan" (top 19) p13/\Fl K "left_plan" (top 41) p15/\([p8,p9,p13,p15]:List Addr).Nodup
def dO{K:Frag}{p8 p9 p13 p15:Addr}(z:Zs K)(h0:Fe K "law" (top 59))(h1:Fe K "length_of" (top 11))(h2:Fe K "weight_of" (top 15))(h3:Fe K "one_weight" (top 16))(h4:Fe K "same_coming" (top 12))(h5:Fe K "one_coming" (top 13))(h6:Fe K "refuse_other_costs" (top 14))(h7:Fe K "late_coming" (top 21))(h10:Fe K "turned" (top 38))(h11:Fe K "done_by" (top 39))(h12:Fe K "add_piece" (top 18))(h14:Fe K "end_weight" (top 40))(h16:Fe K "steps_at" (top 8))(h17:Fe K "cost_at" (top 9))(h18:Fe K "costs_of" (top 44))(h19:Fe K "worth" (top 45))(h20:Fe K "_law_source" (top 51))(h21:Fe K "_law_pick" (top 52))(h22:Fe K "_law_end_works" (top 53))(h23:Fe K "_law_wishes" (top 54))(h24:Fe K "_law_plan" (top 55))(h25:Fe K "_law_plan_ends" (top 56))(h26:Fe K "_law_ended" (top 57))(h27:Fe K "full_weight" (top 23))(h28:Fe K "no_more" (top 24))(h29:Fe K "put_behind" (top 25))(h30:Fe K "next_row" (top 31))(h31:Fe K "table_of" (top 32))(h32:Fe K "ends_of" (top 36))(h33:Fe K "ends_paper" (top 42))(h34:Fe K "is_tuple_of" (top 6))(h35:Fe K "is_number" (top 5))(h36:Fe K "look_at_shape" (top 27))(h37:Fe K "look_at_entry_shape" (top 47))(h38:Fe K "greatest_weight" (top 26))(h39:Fe K "look_at_row" (top 28))(h40:Fe K "look_at_places" (top 29))(h41:Fe K "look_at_entry" (top 48))(h42:Fe K "lets_ends" (top 49))(h43:Fe K "_law_shown" (top 58))(h8:Fl K "by_dues" (top 22) p8)(h9:Fl K "put_out" (top 34) p9)(h13:Fl K "ranked_plan" (top 19) p13)(h15:Fl K "left_plan" (top 41) p15)(tn:([p8,p9,p13,p15]:List Addr).Nodup):Qq K:=⟨z,h0,h1,h2,h3,h4,h5,h6,h7,h10,h11,h12,h14,h16,h17,h18,h19,h20,h21,h22,h23,h24,h25,h26,h27,h28,h29,h30,h31,h32,h33,h34,h35,h36,h37,h38,h39,h40,h41,h42,h43,_,_,_,_,h8,h9,h13,h15,tn⟩
local macro_rules | `(tactic| o_head $H) => `(tactic| (refine holds_open (r := PySem.Challenge.rw_benchdays_k48_whole_least_left_is_best.row) (q := T48.vw) (loose := []) (Xt := λ s => xlAt T48.vw [] s && recOk (RowW.records (OpenRow.toRowW PySem.Challenge.rw_benchdays_k48_whole_least_left_is_best.row)) s) (XP := XL T48.vw []) (Yf := Hook.obs $H) (Ya := Hook.val $H) (YP := Hook.says $H) (N := 100000) ?hl (Hook.of $H) (Hook.keeps $H) (λ s e => xl_of s (Bool.and_eq_true_iff.mp e).1) XL.keeps (by rfl) (by rfl) (by rfl) (λ s e => recFacts_of (Bool.and_eq_true_iff.mp e).2) (by rfl) (by first | assumption | decide +kernel) (by decide +kernel) ⟨rfl, rfl, rfl, rfl, rfl, by decide +kernel⟩ ?hw ?hc; (case hl => exact Hl.left (M := 10000) (by rfl) (λ s => by rfl) (by decide) (by decide) λ w os => by kernel_rfl)))
set_option maxRecDepth 100000 in
set_option maxHeartbeats 0 in
def early(hG:∀(K:Params->Frag),(∀w:World,Qq (K w.params))->∀d:DefRec,d.name="law"->d.params.defaults=[]->WalkO T48.vw [] (XL T48.vw []) (λw h=>(K w.params).In h) PySem.Challenge.rw_benchdays_k48_whole_least_left_is_best.row.toRowW d [] (λf vs=>PySem.call f vs)):PySem.Challenge.rw_benchdays_k48_whole_least_left_is_best.Holds:=by
 w_on;o_law;k_head;(case hw=>w_witness2)
 k_fill
 refine λw s₀ s₁ mg mb G Y=>hG _ ?F _ rfl rfl w s₀ s₁ mg mb G (km_in_of Y)
 case F=>
  intro w;refine' dO ?z ?h0 ?h1 ?h2 ?h3 ?h4 ?h5 ?h6 ?h7 ?h10 ?h11 ?h12 ?h14 ?h16 ?h17 ?h18 ?h19 ?h20 ?h21 ?h22 ?h23 ?h24 ?h25 ?h26 ?h27 ?h28 ?h29 ?h30 ?h31 ?h32 ?h33 ?h34 ?h35 ?h36 ?h37 ?h38 ?h39 ?h40 ?h41 ?h42 ?h43 ?h8 ?h9 ?h13 ?h15 ?tn
  case z=>(refine' zs1 _ (zs1 _ (zs1 _ (zs1 _ (zs1 _ (zs1 _ (zs1 _ (zs1 _ (zs1 _ (zs1 _ (zs1 _ (zs1 _ (zs1 _ (zs1 _ (zs1 _ (zs1 _ (zs1 _ (zs1 _ (zs1 _ (zs1 _ (zs1 _ (zs0)))))))))))))))))))))<;>k_is)
  case h0|h1|h2|h3|h4|h5|h6|h7|h10|h11|h12|h14|h16|h17|h18|h19|h20|h21|h22|h23|h24|h25|h26|h27|h28|h29|h30|h31|h32|h33|h34|h35|h36|h37|h38|h39|h40|h41|h42|h43=>(refine' feI ?a ?l ?c ?k;case a|l|c|k=>k_is)
  case h8|h9|h13|h15=>(refine' flI ?a ?l ?c ?k ?u ?t ?v;(case a|l|c|k=>k_is);(case u=>rfl);(case t=>k_is);(case v=>rfl))
  case tn=>decide
end T48
set_option hygiene false in
local macro_rules|`(66)=>`(s.heap.objs.size)|`(67)=>`(by omega)|`(68)=>`(ws.length)|`(69)=>`(model X.prog X.w)|`(71)=>`(List.range)|`(73)=>`(Heap.get?_push_of_some)|`(74)=>`(X.env.qual++"<lambda>")|`(75)=>`(s.heap.push { cls:=.type "list_iterator",data:=.fields #[.ref l,.int 0 0] })|`(77)=>`(by simp)|`(78)=>`(List.getElem?_eq_some_iff.mp)|`(79)=>`(by simp;omega)|`(81)=>`(Addr×Obj)|`(83)=>`(k==NameKind.free&&env.scope.kind==.function&&env.kindOf n==some .cell)|`(84)=>`(x1.trans R1 x2)|`(85)=>`(A0 0)|`(86)=>`(upd H2 s2.heap.objs.size (.lst []))|`(87)=>`(AS X.env.cells scope.names [])|`(89)=>`(Heap.get?_push_size)|`(90)=>`((false,eval e X.env))|`(91)=>`(Heap.lt_size)|`(92)=>`(by kernel_rfl)|`(94)=>`(.int (k:Int))|`(95)=>`(.ListComp elt [⟨tg,iter,ifs,0⟩] scope pos)|`(96)=>`(List.replicate)|`(97)=>`(model prog w)|`(98)=>`(by decide)|`(99)=>`(mC (.int 1))|`(101)=>`(mC (.int 0))|`(102)=>`(vs.toArray)|`(103)=>`(Int×Int)
namespace L2
open PySem PySem.Spec PyProof.Rows
noncomputable abbrev Key:=Sum Int Str
noncomputable def ID:Key->Value->Bool
 |.inl k,v=>Value.isInt k v
 |.inr x,v=>Value.isStrOf x v
noncomputable def dM(w:World):Key->Int
 |.inl k=>hashInt k
 |.inr x=>hashStr w x
def BU:∀{k:Key} {v:Value},ID k v=true->(∃i t,k=Sum.inl i/\v=Value.int i t)∨(∃x t,k=Sum.inr x/\v=Value.str x t)
 |.inl i,v,h=>by
  obtain⟨t,e⟩:=Value.isInt_shape (k:=i) (v:=v) h;exact .inl ⟨i,t,rfl,e⟩
 |.inr x,v,h=>by
  obtain⟨t,e⟩:=Value.isStrOf_shape (x:=x) (v:=v) h;exact .inr ⟨x,t,rfl,e⟩
def SN(i:Int)(t:Tok):ID (.inl i) (.int i t)=true:=by simp[ID,Value.isInt]
def SM(x:Str)(t:Tok):ID (.inr x) (.str x t)=true:=by simp[ID,Value.isStrOf]
def aT(a b:Int):decide ((Sum.inl a:Key)=Sum.inl b)=(a==b):=by
 by_cases e:a=b
 .subst e;simp
 .have h:¬ (Sum.inl a:Key)=Sum.inl b:=λq=>e (Sum.inl.inj q);rw[gM h];exact(beq_eq_false_iff_ne.mpr e).symm
def aQ(a b:Str):decide ((Sum.inr a:Key)=Sum.inr b)=decide (a=b):=by
 by_cases e:a=b
 .subst e;simp
 .have h:¬ (Sum.inr a:Key)=Sum.inr b:=λq=>e (Sum.inr.inj q);rw[gM h,gM e]
def aS(a:Int)(b:Str):decide ((Sum.inl a:Key)=Sum.inr b)=false:=gM (λq=>nomatch q)
def aR(a:Str)(b:Int):decide ((Sum.inr a:Key)=Sum.inl b)=false:=gM (λq=>nomatch q)
noncomputable def BH(prog:Program)(w:World):PySem.KeyKind prog w Key where
 is:=ID
 hash:=dM w
 inj:=λv a b ha hb=>by
  rcases BU ha with⟨i,t,rfl,rfl⟩|⟨x,t,rfl,rfl⟩
  .rcases BU hb with⟨j,u,rfl,e⟩|⟨y,u,rfl,e⟩
   .injection e with e1 _;rw[e1]
   .exact nomatch e
  .rcases BU hb with⟨j,u,rfl,e⟩|⟨y,u,rfl,e⟩
   .exact nomatch e
   .injection e with e1 _;rw[e1]
 byValue:=λk v h=>by
  rcases BU h with⟨i,t,rfl,rfl⟩|⟨x,t,rfl,rfl⟩<;>rfl
 pyHash:=λhv h=>by
  rcases BU hv with⟨i,t,rfl,rfl⟩|⟨x,t,rfl,rfl⟩
  .exact wpAny_pyHash_int h
  .exact wpAny_pyHash_str h
 eqBool:=λhu hv h=>by
  rcases BU hu with⟨i,t,rfl,rfl⟩|⟨x,t,rfl,rfl⟩
  .rcases BU hv with⟨j,u,rfl,rfl⟩|⟨y,u,rfl,rfl⟩
   .rw[aT]at h;exact je h
   .rw[aS]at h;exact SeqAt.EqAt.int_str i t y u _ _ _ _ h
  .rcases BU hv with⟨j,u,rfl,rfl⟩|⟨y,u,rfl,rfl⟩
   .rw[aR]at h;exact SeqAt.EqAt.str_int x t j u _ _ _ _ h
   .rw[aQ]at h;exact wpAny_eqBool_str h
 «strs»:=λk x t v h=>by
  rcases BU h with⟨i,u,rfl,e⟩|⟨y,u,rfl,e⟩
  .exact nomatch e
  .injection e with e1 _
   subst e1;cases v<;>rfl
def O4(prog:Program)(w:World)(i:Int)(t:Tok):(BH prog w).is (.inl i) (.int i t)=true:=SN i t
def O3(prog:Program)(w:World)(x:Str)(t:Tok):(BH prog w).is (.inr x) (.str x t)=true:=SM x t
inductive V where
 |non|bl (b:Bool)|int (i:Int)|str (x:Str)|byt (b:Array UInt8)|flt (b:UInt64)|ref (a:Addr)|ty (n:String)
 deriving DecidableEq
noncomputable def RelV:V->Value->Prop
 |.non,u=>u=Value.none
 |.bl b,u=>u=Value.bool b
 |.int i,u=>∃t,u=Value.int i t
 |.str x,u=>∃t,u=Value.str x t
 |.byt b,u=>∃t,u=Value.bytes b t
 |.flt b,u=>∃t,u=Value.float b t
 |.ref a,u=>u=Value.ref a
 |.ty n,u=>u=Value.type n
abbrev Vals:List V->List Value->Prop:=Paired RelV
theorem Vals.length{xs:List V}{us:List Value}(r:Vals xs us):xs.length=us.length:=Paired.length r
theorem Vals.get:∀{xs:List V} {us:List Value} {i:Nat} {x:V},Vals xs us->xs[i]?=some x->∃u,us[i]?=some u/\RelV x u
 |_,_,_,_,.nil,e=>by simp at e
 |_,_,0,_,.cons r _,e=>by simp at e;subst e;exact⟨_,rfl,r⟩
 |_,_,i+1,x,.cons _ t,e=>by
  obtain⟨u,h1,h2⟩:=Vals.get (i:=i) (x:=x) t (by simpa using e);exact⟨u,by simpa using h1,h2⟩
theorem Vals.set{x:V}{u:Value}(r:RelV x u):∀{xs:List V} {us:List Value} (i:Nat),Vals xs us->Vals (xs.set i x) (us.set i u)
 |_,_,_,.nil=>.nil
 |_,_,0,.cons _ t=>.cons r t
 |_,_,i+1,.cons q t=>.cons q (Vals.set r i t)
theorem Vals.append:∀{xs ys:List V} {us ws:List Value},Vals xs us->Vals ys ws->Vals (xs++ys) (us++ws)
 |_,_,_,_,.nil,s=>s
 |_,_,_,_,.cons r t,s=>.cons r (Vals.append t s)
theorem Vals.take:∀{xs:List V} {us:List Value} (n:Nat),Vals xs us->Vals (xs.take n) (us.take n)
 |_,_,0,_=>.nil
 |_,_,_+1,.nil=>.nil
 |_,_,n+1,.cons r t=>.cons r (Vals.take n t)
theorem Vals.drop:∀{xs:List V} {us:List Value} (n:Nat),Vals xs us->Vals (xs.drop n) (us.drop n)
 |_,_,0,r=>r
 |_,_,_+1,.nil=>.nil
 |_,_,n+1,.cons _ t=>Vals.drop n t
noncomputable def RelO:Option V->Option Value->Prop
 |some v,some u=>RelV v u
 |none,none=>True
 |_,_=>False
def KV{κ:Type}:List (κ×V)->List (κ×Value)->Prop:=Paired λ(p:κ×V) (q:κ×Value)=>p.1=q.1/\RelV p.2 q.2
noncomputable def kV:Key->V
 |.inl i=>.int i
 |.inr x=>.str x
inductive HO where
 /-- a list -/
 |lst (xs:List V)
 /-- a tuple (never changes) -/
 |tup (xs:List V)
 /-- a dict whose keys are ints and texts;one whose keys are tuples of ints and texts (the empty one is both) -/
 |dK (kvs:List (Key×V))|dT (kvs:List (List Key×V))
 /-- a set of ints: its members,its size -/
 |set (S:Int->Bool) (n:Nat)
 /-- an instance of the class at C,its dict at dx,its attributes -/
 |ins (C dx:Addr) (fs:List (Str×V))
 /-- the dict of the instance at x -/
 |own (x:Addr)
 /-- the dict of an exception -/
 |xd (fs:List (Str×V))
 /-- a bound method,f of x -/
 |met (f x:Addr)
 /-- a range object lo,lo+1,.. below hi -/
 |rng (lo hi:Int)
 /-- a thing that is known to the object (the script;a dict while a loop walks it): read,never written while it is so -/
 |frz (o:Obj) (u:HO)
 /-- a code object's table -/
 |tbl (ps:Array Value)
 /-- any other thing,by what is true of its one object (a def of one's own: SetO a S n:=HO.ext λh=>..) -/
 |ext (φ:Heap->Prop)
noncomputable abbrev Hp:=Addr->Option HO
noncomputable def upd(H:Hp)(a:Addr)(o:HO):Hp:=λb=>if b=a then some o else H b
def AK{H:Hp}{a:Addr}{o:HO}:upd H a o a=some o:=by unfold upd;rw[gc rfl]
def AE{H:Hp}{a b:Addr}{o:HO}(h:b≠a):upd H a o b=H b:=by unfold upd;rw[gf h]
def cC{H:Hp}{a b:Addr}{o u:HO}(h:H a=some o)(h':H b=some u)(d:o≠u):a≠b:=by
 intro e;subst e;rw[h]at h';exact d (Option.some.inj h')
def AR{H:Hp}{a b:Addr}{o:HO}(h:H a=some o)(h':H b=none):a≠b:=by
 intro e;subst e;rw[h]at h';cases h'
def IsTupD(h:Heap)(a:Addr)(items:Array Value):Prop:=∃o,h.get? a=some o/\o.cls=.type "tuple"/\(∃n,o.data=.seq items n)/\o.dict=none
def IsTupD.t{h:Heap}{a:Addr}{items:Array Value}(x:IsTupD h a items):IsTup h a items:=let ⟨o,e,c,d,_⟩:=x;⟨o,e,c,d⟩
def IsTupD.new(h:Heap)(items:Array Value):IsTupD (h.push { cls:=.type "tuple",data:=.seq items }) h.objs.size items:=⟨_,89 _ rfl,rfl,⟨_,rfl⟩,rfl⟩
section
variable(P:Program)(w:World)
noncomputable def ObjOk(H:Hp)(h:Heap)(a:Addr):HO->Prop
 |.lst xs=>xs.length<=sizeLine/\∃(its:List Value) (n:Nat),Vals xs its/\h.get? a=some { cls:=.type "list",data:=.seq its.toArray n }
 |.tup xs=>xs.length<=sizeLine/\∃its:List Value,Vals xs its/\IsTupD h a its.toArray
 |.dK kvs=>kvs.length<=sizeLine/\(a==sysModules)=false/\∃vs,KV kvs vs/\h.DictOf (BH P w) a vs
 |.dT kvs=>kvs.length<=sizeLine/\(a==sysModules)=false/\∃xs:List (List Key×Addr×Value),
  Paired (λ(p:List Key×V) (q:List Key×Addr×Value)=>p.1=q.1/\H q.2.1=some (.tup (p.1.map kV))/\RelV p.2 q.2.2) kvs xs /\
  ∃o es ep,h.get? a=some o/\o.ExactDict/\o.data=.dict es ep/\es.toList=xs.map (entryOfKey (tupleKind (BH P w)))/\(xs.map (·.1)).Nodup
 |.set S n=>h.SetOf (intKind P w) a S n
 |.ins C dx fs=>H dx=some (.own a)/\fs.length<=1000/\dx≠a/\h.get? a=some (PySem.W.instObj C dx)/\
  ∃mA,h.Ns1 dx mA/\(∀f,RelO (fs.lookup f) (mA f))/\PySem.Within mA (fs.map (·.1))
 |.own _=>∃o,h.get? a=some o
 |.xd fs=>∃mA,h.Ns1 a mA/\∀f,RelO (fs.lookup f) (mA f)
 |.rng lo hi=>∃t u v,h.get? a=some { cls:=.type "range",data:=.fields #[.int lo t,.int hi u,.int 1 v] }
 |.frz o u=>h.get? a=some o/\ObjOk H h a u
 |.tbl ps=>h.get? a=some { cls:=.none,data:=.fields ps }
 |.met f x=>h.get? a=some (PySem.W.methodObj (.ref f) (.ref x))
 |.ext φ=>φ h/\(∃o,h.get? a=some o)/\∀h1 h2:Heap,φ h1->(∀o,h1.get? a=some o->h2.get? a=some o)->φ h2
def HOk(H:Hp)(h:Heap):Prop:=∀a o,H a=some o->ObjOk P w H h a o
end
section
variable{P:Program}{w:World}{H H':Hp}{h h':Heap}{a:Addr}{o:HO}
def ObjOk.lt(x:ObjOk P w H h a o):a<h.objs.size:=by
 cases o with
 |lst xs=>obtain⟨_,_,_,_,e⟩:=x;exact 91 e
 |tup xs=>obtain⟨_,_,_,o,e,_⟩:=x;exact 91 e
 |dK kvs=>obtain⟨_,_,_,_,o,_,_,e,_⟩:=x;exact 91 e
 |dT kvs=>obtain⟨_,_,_,_,o,_,_,e,_⟩:=x;exact 91 e
 |set S n=>obtain⟨o,_,_,_,e,_⟩:=x;exact 91 e
 |ins C dx fs=>obtain⟨_,_,_,e,_⟩:=x;exact 91 e
 |own y=>obtain⟨_,e⟩:=x;exact 91 e
 |xd fs=>obtain⟨_,⟨_,_,_,e,_⟩,_⟩:=x;exact 91 e
 |rng lo hi=>obtain⟨_,_,_,e⟩:=x;exact 91 e
 |frz ob u=>obtain⟨e,_⟩:=x;exact 91 e
 |tbl ps=>exact 91 (show h.get? a=some _ from x)
 |met f y=>exact 91 (show h.get? a=some _ from x)
 |ext φ=>obtain⟨_,⟨_,e⟩,_⟩:=x;exact 91 e
theorem Paired.mapP{α β:Type}{F G:α->β->Prop}:∀{l₁:List α} {l₂:List β},Paired F l₁ l₂->(∀a b,F a b->G a b)->Paired G l₁ l₂
 |_,_,.nil,_=>.nil
 |_,_,.cons r t,f=>.cons (f _ _ r) (Paired.mapP t f)
def ObjOk.stay(x:ObjOk P w H h a o)(k:∀b u,(b=a∨H b=some (.own a))->h.get? b=some u->h'.get? b=some u)
 (ho:∀b,H b=some (.own a)->H' b=some (.own a)) (ht:∀b xs,H b=some (.tup xs)->H' b=some (.tup xs)):ObjOk P w H' h' a o:=by
 induction o with
 |lst xs=>obtain⟨z,its,n,r,e⟩:=x;exact⟨z,its,n,r,k _ _ (.inl rfl) e⟩
 |tup xs=>obtain⟨z,its,r,ob,e,c⟩:=x;exact⟨z,its,r,ob,k _ _ (.inl rfl) e,c⟩
 |dK kvs=>obtain⟨z,y,vs,r,ob,es,ep,e,c⟩:=x;exact⟨z,y,vs,r,ob,es,ep,k _ _ (.inl rfl) e,c⟩
 |dT kvs=>
  obtain⟨z,y,xs,r,ob,es,ep,e,c⟩:=x;exact⟨z,y,xs,Paired.mapP r λp q z=>⟨z.1,ht _ _ z.2.1,z.2.2⟩,ob,es,ep,k _ _ (.inl rfl) e,c⟩
 |set S n=>obtain⟨ob,es,ep,t,e,c⟩:=x;exact⟨ob,es,ep,t,k _ _ (.inl rfl) e,c⟩
 |ins C dx fs=>
  obtain⟨d,z,ne,e,mA,⟨od,es,ep,e2,c⟩,r⟩:=x;exact⟨ho _ d,z,ne,k _ _ (.inl rfl) e,mA,⟨od,es,ep,k _ _ (.inr d) e2,c⟩,r⟩
 |own y=>obtain⟨ob,e⟩:=x;exact⟨ob,k _ _ (.inl rfl) e⟩
 |xd fs=>obtain⟨mA,⟨od,es,ep,e,c⟩,r⟩:=x;exact⟨mA,⟨od,es,ep,k _ _ (.inl rfl) e,c⟩,r⟩
 |rng lo hi=>obtain⟨t,u,v,e⟩:=x;exact⟨t,u,v,k _ _ (.inl rfl) e⟩
 |frz ob u ih=>obtain⟨e,q⟩:=x;exact⟨k _ _ (.inl rfl) e,ih q⟩
 |tbl ps=>
  have e:h.get? a=some { cls:=.none,data:=.fields ps }:=x;show h'.get? a=some { cls:=.none,data:=.fields ps };exact k a _ (.inl rfl) e
 |met f y=>
  have e:h.get? a=some (PySem.W.methodObj (.ref f) (.ref y)):=x;show h'.get? a=some (PySem.W.methodObj (.ref f) (.ref y));exact k a _ (.inl rfl) e
 |ext φ=>obtain⟨p,⟨o,e⟩,st⟩:=x;exact⟨st _ _ p λo q=>k _ _ (.inl rfl) q,⟨o,k _ _ (.inl rfl) e⟩,st⟩
theorem HOk.lt(x:HOk P w H h)(e:H a=some o):a<h.objs.size:=(x a o e).lt
def HOk.fresh(x:HOk P w H h)(e:h.objs.size<=a):H a=none:=by
 cases q:H a with
 |none=>rfl
 |some u=>exact absurd (gU (x.lt q) e) (i7 _)
def HOk.kept(x:HOk P w H h)(k:∀b u,h.get? b=some u->h'.get? b=some u):HOk P w H h':=λa o e=>
 (x a o e).stay (λb u _ q=>k b u q) (λ_ q=>q) λ_ _ q=>q
def HOk.laid(x:HOk P w H h)(k:∀b u,h.get? b=some u->h'.get? b=some u)(hp:h.objs.size<=a)(new:ObjOk P w (upd H a o) h' a o):HOk P w (upd H a o) h':=λb u e=>by
 have hn:=x.fresh hp;by_cases hb:b=a
 .subst hb;rw[AK]at e;cases e;exact new
 .rw[AE hb]at e;exact(x b u e).stay (λc v _ q=>k c v q) (λc q=>by rw[AE (AR q hn)];exact q) λc xs q=>by rw[AE (AR q hn)];exact q
end
def Rd(H:Hp)(a:Addr)(u:HO):Prop:=H a=some u∨∃o,H a=some (.frz o u)
def Rd.ok{P:Program}{w:World}{H:Hp}{h:Heap}{a:Addr}{u:HO}(r:Rd H a u)(x:HOk P w H h):ObjOk P w H h a u:=by
 rcases r with r|⟨o,r⟩
 .exact x a u r
 .obtain⟨_,q⟩:=x a _ r;exact q
noncomputable def Mut:Option HO->Prop
 |some (.lst _)=>True
 |some (.dK _)=>True
 |some (.dT _)=>True
 |some (.set _ _)=>True
 |some (.ins _ _ _)=>True
 |some (.ext _)=>True
 |_=>False
section
variable{P:Program}{w:World}{H:Hp}{h h':Heap}{x e:Addr}{o':HO}
def HOk.write(ok:HOk P w H h)(mu:Mut (H x))(he:e=x∨H e=some (.own x))(k:∀b u,b≠e->h.get? b=some u->h'.get? b=some u)(heo:∃u,h'.get? e=some u)
 (new:ObjOk P w (upd H x o') h' x o'):HOk P w (upd H x o') h':=λb u q=>by
 have nown:∀c y,H c=some (.own y)->c≠x:=λc y r z=>by subst z;rw[r]at mu;exact mu
 have ntup:∀c xs,H c=some (.tup xs)->c≠x:=λc xs r z=>by subst z;rw[r]at mu;exact mu
 by_cases hb:b=x
 .subst hb;rw[AK]at q;cases q;exact new
 .rw[AE hb]at q;by_cases hbe:b=e
  .have q':H b=some (.own x):=by
    rcases he with z|z
    .exact absurd (hbe.trans z) hb
    .rw[hbe];exact z
   rw[q]at q';cases q';obtain⟨v,hv⟩:=heo;exact⟨v,by rw[hbe];exact hv⟩
  .refine(ok b u q).stay (λc v hc r=>k c v ?_ r) (λc r=>by rw[AE (nown c b r)];exact r) λc xs r=>by rw[AE (ntup c xs r)];exact r
   rcases hc with rfl|hc
   .exact hbe
   .rintro rfl;rcases he with z|z
    .exact nown c b hc z
    .rw[hc]at z;cases z;exact hb rfl
end
structure Un(fs ex:List Addr)(H H':Hp)(h h':Heap):Prop where
 keep:∀b o,h.get? b=some o->H b=none->b∉fs->b∉ex->h'.get? b=some o
 slot:∀b o,h.get? b=some o->H b=none->b∈fs->b∉ex->∃sl,h'.get? b=some { o with slots:=sl }
 free:∀b o,h.get? b=some o->H b=none->b∉ex->H' b=none
 there:∀b o,h.get? b=some o->b∉ex->∃o',h'.get? b=some o'
 tups:∀b xs,H b=some (.tup xs)->H' b=some (.tup xs)
 frzs:∀b o u,H b=some (.frz o u)->H' b=some (.frz o u)
 tbls:∀b ps,H b=some (.tbl ps)->∃more,H' b=some (.tbl (ps++more))
section
variable{fs fs' ex ex':List Addr}{H H1 H2:Hp}{h h1 h2 h':Heap}{a x e:Addr}{o:HO}
def Un.any(u:Un fs ex H H1 h h1){b:Addr}{ob:Obj}(q:h.get? b=some ob)(n:H b=none)(hx:b∉ex):∃sl,h1.get? b=some { ob with slots:=sl }:=by
 by_cases hb:b∈fs
 .exact u.slot b ob q n hb hx
 .exact⟨ob.slots,u.keep b ob q n hb hx⟩
def Un.kept(k:∀b u,h.get? b=some u->h'.get? b=some u):Un fs ex H H h h':=
 ⟨λb ob q _ _ _=>k b ob q,λb ob q _ _ _=>⟨ob.slots,k b ob q⟩,λ_ _ _ n _=>n,λb ob q _=>⟨ob,k b ob q⟩,λ_ _ q=>q,λ_ _ _ q=>q,λ_ ps q=>⟨#[],by rw[q];simp⟩⟩
def Un.refl:Un fs ex H H h h:=Un.kept λ_ _ q=>q
def Un.laid(k:∀b u,h.get? b=some u->h'.get? b=some u)(hp:h.objs.size<=a)(hn:H a=none):Un fs ex H (upd H a o) h h' where
 keep:=λb u q _ _ _=>k b u q
 slot:=λb u q _ _ _=>⟨u.slots,k b u q⟩
 free:=λb u q n _=>by rw[AE (gv (gU (Heap.lt_size q) hp))];exact n
 there:=λb u q _=>⟨u,k b u q⟩
 tups:=λb xs q=>by rw[AE (AR q hn)];exact q
 frzs:=λb u xs q=>by rw[AE (AR q hn)];exact q
 tbls:=λb ps q=>⟨#[],by rw[AE (AR q hn),q];simp⟩
def Un.write(mu:Mut (H x))(he:e=x∨H e=some (.own x))(k:∀b u,b≠e->h.get? b=some u->h'.get? b=some u)(heo:∃u,h'.get? e=some u):Un fs ex H (upd H x o) h h':=by
 have hx:∀b,H b=none->b≠x:=λb n z=>by subst z;rw[n]at mu;exact mu
 have hb:∀b,H b=none->b≠e:=λb n z=>by
  subst z;rcases he with r|r
  .exact hx b n r
  .rw[n]at r;cases r
 have hm:∀b u,H b=some u->¬ Mut (some u)->b≠x:=λb u q nm z=>by subst z;rw[q]at mu;exact nm mu
 refine⟨λb u q n _ _=>k b u (hb b n) q,λb u q n _ _=>⟨u.slots,k b u (hb b n) q⟩,λb u q n _=>by rw[AE (hx b n)];exact n,λb u q _=>?_,
  λb xs q=>by rw[AE (hm b _ q λz=>z)];exact q,λb u xs q=>by rw[AE (hm b _ q λz=>z)];exact q,λb ps q=>⟨#[],by rw[AE (hm b _ q λz=>z),q];simp⟩⟩
 by_cases hbe:b=e
 .subst hbe;exact heo
 .exact⟨u,k b u hbe q⟩
end
noncomputable def trk(h:Heap)(H:Hp):List Addr:=(71 h.objs.size).filter λa=>(H a).isSome
noncomputable def Gc(h:Heap)(H:Hp):Heap:=PySem.W.hideAll h (trk h H)
def SQ(h:Heap)(H:Hp):(Gc h H).objs.size=h.objs.size:=PySem.W.hideAll_size _ _
def Uh{h:Heap}{H:Hp}{b:Addr}{o:Obj}(e:h.get? b=some o)(n:H b=none):(Gc h H).get? b=some o:=
 PySem.W.hideAll_get _ e λhm=>by
  have q:(H b).isSome=true:=(mem_filter.mp hm).2;rw[n]at q;simp at q
def XY{h:Heap}{H:Hp}{b:Addr}{o:Obj}(e:(Gc h H).get? b=some o):h.get? b=some o/\H b=none:=by
 have e':h.get? b=some o:=PySem.W.of_hideAll (trk h H) e;refine⟨e',?_⟩;cases q:H b with
 |none=>rfl
 |some x=>
  have hm:b∈trk h H:=mem_filter.mpr ⟨List.mem_range.mpr (91 e'),by simp[q]⟩;have z:(Gc h H).get? b=none:=PySem.W.hideAll_none (trk h H) hm;rw[z]at e;cases e
noncomputable def YC(g h:Heap)(L:Addr):List 81:=(71 h.objs.size).filterMap λa=>if a=L∨(g.get? a).isSome=true then none else(h.get? a).map λo=>(a,o)
noncomputable def rest(g h:Heap)(L d:Addr):List 81:=(YC g h L).filter λp=>decide (p.1≠d)
structure Mod(K:Frag)(mg:Str->Option Value)(base:Heap):Prop where
 kin:K.In base
 glob:base.Ns mainGlobals mg
 blt:∃mb,base.Ns builtinsNs mb/\∀x:Str,x≠"__name__"->mb x=bootBuiltins x
 nolimit:base.NoLimit
structure Cx where
 prog:Program
 w:World
 K:Frag
 mg:Str->Option Value
 base:Heap
 A:Around
 N:List Str
 s₀:Shared
 H₀:Hp
 env:Env
 outer:List Env
 stack:List Env
 ex:List Addr
 fn:Str->Bool
 calm:Bool
 pn:List 81
 xe:Value->Shared->Prop
noncomputable def frs(l:List Env):List Addr:=l.filterMap (·.frame)
noncomputable abbrev Cx.fs(X:Cx):List Addr:=frs X.outer
def Vis(sc:Scope)(x:Str):Prop:=sc.names.lookup x=some .local∨sc.names.lookup x=some .cell∨sc.names.lookup x=some .free
def Loc(sc:Scope)(x:Str):Prop:=sc.names.lookup x=some .local∨sc.names.lookup x=some .cell
def dk(env:Env)(h:Heap)(m:Str->Option Value)(x:Str)(u:Value):Prop:=
 (env.kindOf x=some .local/\m x=some u)∨((env.kindOf x=some .cell∨env.kindOf x=some .free)/\∃c,env.cells.lookup x=some c/\h.IsCell c (some u))
structure Cx.Ok(X:Cx):Prop where
 mod:Mod X.K X.mg X.base
 kind:X.env.scope.kind=.function
 glob:X.env.globals=mainGlobals
 blt:X.env.builtins=builtinsNs
 above:X.s₀.heap.objs.size<=X.env.locals
 inj:∀x y c,X.env.cells.lookup x=some c->X.env.cells.lookup y=some c->x=y
 has:∀x,(X.env.kindOf x=some .cell∨X.env.kindOf x=some .free)->∃c,X.env.cells.lookup x=some c
 cab:∀x c,X.fn x=true->X.env.cells.lookup x=some c->X.s₀.heap.objs.size<=c
 hd:X.calm=true->X.A.handled=none
 frames:X.A.frames=some X.stack
 stk:X.stack=X.outer∨(X.stack=X.env::X.outer/\X.env.frame=some X.env.locals)
 exf:∀b∈X.ex,b≠X.env.locals/\∀x c,X.env.cells.lookup x=some c->c≠b
 bs:∀b o,X.base.get? b=some o->X.s₀.heap.get? b=some o/\X.H₀ b=none
 bsz:X.base.objs.size<=X.s₀.heap.objs.size
 noex:∀b o,X.base.get? b=some o->b∉X.ex
 exfs:∀b∈X.ex,b∉X.fs
 funs:X.s₀.heap.FunFrames X.base X.outer
 frf:∀b∈X.fs,X.H₀ b=none
structure Inv(X:Cx)(pins:List 81)(σ:List (Option V))(H:Hp)(s:Shared):Prop where
 ok:X.Ok
 os:s.os=X.s₀.os
 bare:AllBare s.gens
 base:Un X.fs X.ex X.H₀ H X.s₀.heap s.heap
 loc:∃m,s.heap.Ns X.env.locals m/\∀(i:Nat) (x:Str) (v:V),X.N[i]?=some x->σ[i]?=some (some v)->Vis X.env.scope x->∃u,RelV v u/\dk X.env s.heap m x u
 cell:∀x c,X.env.cells.lookup x=some c->∃v,s.heap.IsCell c v
 free:H X.env.locals=none
 freeC:∀x c,X.env.cells.lookup x=some c->H c=none
 pin:∀p∈X.pn++pins,s.heap.get? p.1=some p.2/\H p.1=none/\p.1≠X.env.locals/\p.1∉X.fs/\∀v,p.2.data≠.cell v
 hok:HOk X.prog X.w H s.heap
 len:σ.length=X.N.length
section
variable{X:Cx}{pins:List 81}{σ:List (Option V)}{H H':Hp}{s:Shared}{h':Heap}
def Cx.Ok.nofr(ok:X.Ok){b:Addr}{o:Obj}(e:X.base.get? b=some o):b∉X.fs:=λhb=>by
 have:=(ok.funs.mem hb).1;rw[e]at this;cases this
theorem Inv.bs(I:Inv X pins σ H s):∀b o,X.base.get? b=some o->s.heap.get? b=some o/\H b=none:=λb o e=>
 ⟨I.base.keep b o (I.ok.bs b o e).1 (I.ok.bs b o e).2 (I.ok.nofr e) (I.ok.noex b o e),I.base.free b o (I.ok.bs b o e).1 (I.ok.bs b o e).2 (I.ok.noex b o e)⟩
def Inv.bk(I:Inv X pins σ H s):∀b o,X.base.get? b=some o->s.heap.get? b=some o:=λb o e=>(I.bs b o e).1
theorem Inv.mod(I:Inv X pins σ H s):Mod X.K X.mg X.base:=I.ok.mod
def Inv.kIn(I:Inv X pins σ H s):X.K.In s.heap:=I.ok.mod.kin.keeps I.bk
theorem Inv.nolimit(I:Inv X pins σ H s):s.heap.NoLimit:=I.ok.mod.nolimit.keeps I.bk
theorem Inv.lt(I:Inv X pins σ H s):X.env.locals<s.heap.objs.size:=let ⟨_,hn,_⟩:=I.loc;hn.lt
def Inv.sz(I:Inv X pins σ H s):X.s₀.heap.objs.size<=s.heap.objs.size:=gQ I.ok.above (il I.lt)
def Inv.nofs(I:Inv X pins σ H s){a:Addr}(h:66<=a):a∉X.fs:=λhb=>by
 obtain⟨_,o,ho,_⟩:=I.ok.funs.mem hb;exact absurd (gU (91 ho) (gQ I.sz h)) (i7 _)
def Inv.cne(I:Inv X pins σ H s):∀x c,X.env.cells.lookup x=some c->c≠X.env.locals:=λx c e z=>by
 obtain⟨v,o,ho,hd⟩:=I.cell x c e;obtain⟨m,⟨o',es,ep,ho',hd',_⟩,_⟩:=I.loc;rw[z,ho']at ho;cases ho;rw[hd']at hd;cases hd
theorem Inv.funs(I:Inv X pins σ H s):s.heap.FunFrames X.base X.outer:=by
 have all:∀(l:List Env),(∀b∈frs l,b∈X.fs)->X.s₀.heap.FunFrames X.base l->s.heap.FunFrames X.base l:=by
  intro l
  induction l with
  |nil=>intro _ _;trivial
  |cons env r ih=>
   intro hs hl;obtain⟨hk,⟨L,o,hf,hn,ho,hd⟩,hr⟩:=hl;have hL:L∈X.fs:=hs L (by unfold frs;rw[ic,hf];exact gp);obtain⟨sl,e⟩:=I.base.slot L o ho (I.ok.frf L hL) hL λz=>I.ok.exfs L z hL;exact⟨hk,⟨L,_,hf,hn,e,hd⟩,ih (λb hb=>hs b (by unfold frs;rw[ic,hf];exact gi _ hb)) hr⟩
 exact all X.outer (λ_ hb=>hb) I.ok.funs
theorem Inv.stack(I:Inv X pins σ H s):s.heap.FunFrames X.base X.stack:=by
 rcases I.ok.stk with e|⟨e,hf⟩
 .rw[e];exact I.funs
 .rw[e];obtain⟨m,hn,_⟩:=I.loc;refine .cons (by rw[I.ok.kind];decide) hf hn ?_ I.funs;exact Heap.get?_none_of_le (gQ I.ok.bsz I.ok.above)
def Inv.stkSub(I:Inv X pins σ H s):∀b∈frs X.stack,b∈X.env.locals::X.fs:=λb hb=>by
 rcases I.ok.stk with e|⟨e,hf⟩
 .rw[e]at hb;exact gi _ hb
 .rw[e]at hb;unfold frs at hb;rw[ic,hf]at hb;exact hb
def Inv.stkFree(I:Inv X pins σ H s):∀b∈frs X.stack,H b=none:=λb hb=>by
 rcases mem_cons.mp (I.stkSub b hb)with e|hb
 .rw[e];exact I.free
 .obtain⟨_,o,ho,_⟩:=I.ok.funs.mem hb;exact I.base.free b o ho (I.ok.frf b hb) λz=>I.ok.exfs b z hb
def Inv.step{g':Array GenState}{t':Nat}{d':Drawn}{ch:List Addr}(I:Inv X pins σ H s)
 (hch:∀b∈ch,(b∈X.ex∨X.s₀.heap.objs.size<=b)/\b≠X.env.locals/\(∀x c,X.env.cells.lookup x=some c->c≠b)/\∀p∈X.pn++pins,p.1≠b)
 (keep:∀b o,b≠X.env.locals->b∉X.fs->b∉ch->s.heap.get? b=some o->H b=none->h'.get? b=some o)
 (slot:∀b o,b≠X.env.locals->b∈X.fs->b∉ch->s.heap.get? b=some o->H b=none->∃sl,h'.get? b=some { o with slots:=sl }) (free:∀b o,b∉ch->s.heap.get? b=some o->H b=none->H' b=none)
 (there:∀b o,b∉ch->s.heap.get? b=some o->∃o',h'.get? b=some o')
 (tups:∀b xs,H b=some (.tup xs)->H' b=some (.tup xs)) (frzs:∀b o u,H b=some (.frz o u)->H' b=some (.frz o u)) (tbls:∀b ps,H b=some (.tbl ps)->∃more,H' b=some (.tbl (ps++more)))
 (ns:∀m,s.heap.Ns X.env.locals m->h'.Ns X.env.locals m) (hok:HOk X.prog X.w H' h') (hg:AllBare g'):
 Inv X pins σ H' { s with heap:=h',gens:=g',drawn:=d',toks:=t' }:=by
 have neL:∀b o,X.s₀.heap.get? b=some o->b≠X.env.locals:=λb o e=>gv (gU (91 e) I.ok.above);have neC:∀b o,X.s₀.heap.get? b=some o->b∉X.ex->b∉ch:=λb o e hx hb=>by
  rcases(hch b hb).1 with z|z
  .exact hx z
  .exact absurd (gU (91 e) z) (i7 _)
 have cellK:∀x c,X.env.cells.lookup x=some c->∀v,s.heap.IsCell c v->h'.IsCell c v:=λx c e v ⟨o,ho,hd⟩=>by
  have nch:c∉ch:=λz=>(hch c z).2.2.1 x c e rfl;by_cases hc:c∈X.fs
  .obtain⟨sl,q⟩:=slot c o (I.cne x c e) hc nch ho (I.freeC x c e);exact⟨_,q,hd⟩
  .exact⟨o,keep c o (I.cne x c e) hc nch ho (I.freeC x c e),hd⟩
 refine⟨I.ok,I.os,hg,⟨λb o e n hb hx=>?_,λb o e n hb hx=>?_,λb o e n hx=>?_,λb o e hx=>?_,λb xs e=>tups b xs (I.base.tups b xs e),λb o xs e=>frzs b o xs (I.base.frzs b o xs e),λb ps e=>?_⟩,?_,λx c e=>?_,?_,λx c e=>?_,λp hp=>?_,hok,I.len⟩
 .exact keep b o (neL b o e) hb (neC b o e hx) (I.base.keep b o e n hb hx) (I.base.free b o e n hx)
 .obtain⟨sl,e1⟩:=I.base.slot b o e n hb hx;obtain⟨sl',e2⟩:=slot b _ (neL b o e) hb (neC b o e hx) e1 (I.base.free b o e n hx);exact⟨sl',e2⟩
 .obtain⟨o',e1⟩:=I.base.there b o e hx;exact free b o' (neC b o e hx) e1 (I.base.free b o e n hx)
 .obtain⟨o',e1⟩:=I.base.there b o e hx;exact there b o' (neC b o e hx) e1
 .obtain⟨m1,e1⟩:=I.base.tbls b ps e;obtain⟨m2,e2⟩:=tbls b _ e1;exact⟨m1++m2,by rw[e2,Array.append_assoc]⟩
 .obtain⟨m,hn,hl⟩:=I.loc;refine⟨m,ns m hn,λi x v e1 e2 e3=>?_⟩;obtain⟨u,r,l⟩:=hl i x v e1 e2 e3;refine⟨u,r,?_⟩;rcases l with l|⟨k,c,e,z⟩
  .exact .inl l
  .exact .inr ⟨k,c,e,cellK x c e _ z⟩
 .obtain⟨v,z⟩:=I.cell x c e;exact⟨v,cellK x c e v z⟩
 .obtain⟨m,⟨o,_,_,ho,_⟩,_⟩:=I.loc;exact free _ o (λz=>(hch _ z).2.1 rfl) ho I.free
 .obtain⟨v,o,ho,hd⟩:=I.cell x c e;exact free c o (λz=>(hch c z).2.2.1 x c e rfl) ho (I.freeC x c e)
 .obtain⟨e,n,ne,nf,d⟩:=I.pin p hp;have nch:p.1∉ch:=λz=>(hch p.1 z).2.2.2 p hp rfl;exact⟨keep p.1 p.2 ne nf nch e n,free p.1 p.2 nch e n,ne,nf,d⟩
def Inv.un{t':Nat}(I:Inv X pins σ H s)(u:Un X.fs [] H H' s.heap h')(hok:HOk X.prog X.w H' h'):Inv X pins σ H' { s with heap:=h',toks:=t' }:=by
 obtain⟨m,⟨o,es,ep,ho,r⟩,_⟩:=id I.loc;obtain⟨sl,hL⟩:=u.any ho I.free 77;exact I.step (g':=s.gens) (d':=s.drawn) (ch:=[]) (λ_ z=>nomatch z) (λb o _ hb _ e n=>u.keep b o e n hb 77) (λb o _ hb _ e n=>u.slot b o e n hb 77) (λb o _ e n=>u.free b o e n 77) (λb o _ e=>u.there b o e 77) u.tups u.frzs u.tbls (λm' hm=>by
  obtain⟨o',es',ep',ho',r'⟩:=hm;rw[ho]at ho';cases ho';exact⟨_,es',ep',hL,r'⟩) hok I.bare
def Inv.call{g':Array GenState}{t':Nat}{d':Drawn}{ch:List Addr}(I:Inv X pins σ H s)(u:Un (frs X.stack) ch H H' s.heap h')(hok:HOk X.prog X.w H' h')(hg:AllBare g')
 (hch:∀b∈ch,(b∈X.ex∨X.s₀.heap.objs.size<=b)/\b≠X.env.locals/\(∀x c,X.env.cells.lookup x=some c->c≠b)/\∀p∈X.pn++pins,p.1≠b):
 Inv X pins σ H' { s with heap:=h',gens:=g',drawn:=d',toks:=t' }:=by
 obtain⟨m,⟨o,es,ep,ho,r⟩,_⟩:=id I.loc;obtain⟨sl,hL⟩:=u.any ho I.free λz=>(hch _ z).2.1 rfl;exact I.step (ch:=ch) hch (λb o hL hb hc e n=>u.keep b o e n (λz=>(mem_cons.mp (I.stkSub b z)).elim hL hb) hc) (λb o _ _ hc e n=>u.any e n hc) (λb o hc e n=>u.free b o e n hc) (λb o hc e=>u.there b o e hc) u.tups u.frzs u.tbls (λm' hm=>by
  obtain⟨o',es',ep',ho',r'⟩:=hm;rw[ho]at ho';cases ho';exact⟨_,es',ep',hL,r'⟩) hok hg
def Inv.turned{t':Nat}{it:Addr}(I:Inv X pins σ H s)(k:∀b o,b≠it->s.heap.get? b=some o->h'.get? b=some o)(hn:H it=none)(hL:it≠X.env.locals)
 (h1:it∈X.ex∨X.s₀.heap.objs.size<=it) (h2:∀x c,X.env.cells.lookup x=some c->c≠it) (h3:∀p∈X.pn++pins,p.1≠it):Inv X pins σ H { s with heap:=h',toks:=t' }:=by
 have nit:∀b u,H b=some u->b≠it:=λb u e z=>by rw[z,hn]at e;cases e
 refine I.step (g':=s.gens) (d':=s.drawn) (ch:=[it]) (λb hb=>?_) (λb o _ _ hc e _=>k b o (λz=>hc (by simp[z])) e) (λb o _ _ hc e _=>⟨o.slots,k b o (λz=>hc (by simp[z])) e⟩) (λ_ _ _ _ n=>n)
  (λb o hc e=>⟨o,k b o (λz=>hc (by simp[z])) e⟩) (λ_ _ e=>e) (λ_ _ _ e=>e) (λb ps e=>⟨#[],by rw[e];simp⟩) (λm hm=>?_) (λb u e=>?_) I.bare
 .have e:b=it:=by simpa using hb
  subst e;exact⟨h1,hL,h2,h3⟩
 .obtain⟨o,es,ep,ho,r⟩:=hm;exact⟨o,es,ep,k _ o (Ne.symm hL) ho,r⟩
 .refine(I.hok b u e).stay (λc v hc q=>k c v ?_ q) (λ_ q=>q) λ_ _ q=>q;rcases hc with z|z
  .rw[z];exact nit b u e
  .exact nit c _ z
def Inv.tok(I:Inv X pins σ H s)(t:Nat):Inv X pins σ H { s with toks:=t }:=I.un (h':=s.heap) (t':=t) Un.refl I.hok
theorem Inv.kept{t':Nat}(I:Inv X pins σ H s)(k:∀b u,s.heap.get? b=some u->h'.get? b=some u):Inv X pins σ H { s with heap:=h',toks:=t' }:=I.un (Un.kept k) (I.hok.kept k)
theorem Inv.laid{a:Addr}{o:HO}{t':Nat}(I:Inv X pins σ H s)(k:∀b u,s.heap.get? b=some u->h'.get? b=some u)(hp:66<=a)(new:ObjOk X.prog X.w (upd H a o) h' a o):
 Inv X pins σ (upd H a o) { s with heap:=h',toks:=t' }:=I.un (Un.laid k hp (I.hok.fresh hp)) (I.hok.laid k hp new)
theorem Inv.write{x e:Addr}{o:HO}{t':Nat}(I:Inv X pins σ H s)(mu:Mut (H x))(he:e=x∨H e=some (.own x))(k:∀b u,b≠e->s.heap.get? b=some u->h'.get? b=some u)(heo:∃u,h'.get? e=some u)
 (new:ObjOk X.prog X.w (upd H x o) h' x o):Inv X pins σ (upd H x o) { s with heap:=h',toks:=t' }:=I.un (Un.write mu he k heo) (I.hok.write mu he k heo new)
def Inv.pins_of{pins':List 81}(I:Inv X pins σ H s)(h:∀p∈pins',s.heap.get? p.1=some p.2/\H p.1=none/\p.1≠X.env.locals/\p.1∉X.fs/\∀v,p.2.data≠.cell v):Inv X pins' σ H s:=
 ⟨I.ok,I.os,I.bare,I.base,I.loc,I.cell,I.free,I.freeC,λp hp=>(mem_append.mp hp).elim (λz=>I.pin p (i9 _ z)) (h p),I.hok,I.len⟩
def N6{N:List Str}(hN:N.Nodup){i j:Nat}{x:Str}(a:N[i]?=some x)(b:N[j]?=some x):i=j:=by
 obtain⟨h1,e1⟩:=78 a;obtain⟨h2,e2⟩:=78 b;exact(List.getElem_inj hN).mp (e1.trans e2.symm)
def Km{M:Model}{A:Around}{E:Value->Shared->Prop}{i:Nat}{x:Str}{v:V}{u:Value}{Q:Unit->Shared->Prop}(I:Inv X pins σ H s)(hN:X.N.Nodup)(hi:X.N[i]?=some x)(hx:Loc X.env.scope x)(r:RelV v u)
 (h:∀s',Inv X pins (σ.set i (some v)) H s'->(∃a,Heap.SameBut a s.heap s'.heap/\(a=X.env.locals∨X.env.cells.lookup x=some a))->Q () s') (hf:X.fn x=true∨X.env.scope.names.lookup x=some .local:=by first|exact .inl rfl|exact .inr rfl|assumption):wpAny M A (storeName X.env x u) Q E s:=by
 obtain⟨m,hn,hl⟩:=id I.loc;have hcls:(X.env.scope.kind==.class||(X.env.scope.kind==.module&&X.env.locals != X.env.globals))=false:=by rw[I.ok.kind];rfl
 have hiσ:i<σ.length:=by rw[I.len];exact(78 hi).1
 have cne:=I.cne;have tracked:∀{a:Addr} {h':Heap},(∃o,s.heap.get? a=some o/\H a=none)->Heap.SameBut a s.heap h'->HOk X.prog X.w H h':=λ{a h'} ha hs b ob e=>by
  obtain⟨_,_,hfree⟩:=ha;refine(I.hok b ob e).stay (λc w' hc q=>(hs.2 c ?_).trans q) (λ_ q=>q) λ_ _ q=>q;rintro rfl;rcases hc with rfl|hc
  .rw[hfree]at e;cases e
  .rw[hfree]at hc;cases hc
 rcases hx with hk|hk
 .refine wpAny_storeName_local hk hn (λh' hn' hs=>?_) hcls;obtain⟨oL,_,_,hoL,_⟩:=id hn;refine h _ ⟨I.ok,I.os,I.bare,⟨λb o e n hb hx=>?_,λb o e n hb hx=>?_,I.base.free,λb o e hx=>?_,I.base.tups,I.base.frzs,I.base.tbls⟩,⟨_,hn',λj y v' e1 e2 e3=>?_⟩,λy c e=>?_,I.free,I.freeC,λp hp=>?_,tracked ⟨oL,hoL,I.free⟩ hs,by simpa using I.len⟩ ⟨_,hs,.inl rfl⟩
  .exact(hs.2 b (gv (gU (91 e) I.ok.above))).trans (I.base.keep b o e n hb hx)
  .obtain⟨sl,e1⟩:=I.base.slot b o e n hb hx;exact⟨sl,(hs.2 b (gv (gU (91 e) I.ok.above))).trans e1⟩
  .obtain⟨o',e1⟩:=I.base.there b o e hx;exact⟨o',(hs.2 b (gv (gU (91 e) I.ok.above))).trans e1⟩
  .by_cases hj:j=i
   .subst hj;rw[hi]at e1;cases e1;rw[List.getElem?_set_self hiσ]at e2;cases e2;exact⟨u,r,.inl ⟨hk,by simp⟩⟩
   .rw[List.getElem?_set_ne (Ne.symm hj)]at e2;obtain⟨u',r',q⟩:=hl j y v' e1 e2 e3;refine⟨u',r',?_⟩;rcases q with⟨k,e⟩|⟨k,c,e,z⟩
    .refine .inl ⟨k,?_⟩;have:y≠x:=λe=>hj (N6 hN e1 (e ▸ hi));simp[this,e]
    .exact .inr ⟨k,c,e,z.sameBut hs (cne y c e)⟩
  .obtain⟨w',z⟩:=I.cell y c e;exact⟨w',z.sameBut hs (cne y c e)⟩
  .obtain⟨e,n,ne,nf,d⟩:=I.pin p hp;exact⟨(hs.2 p.1 ne).trans e,n,ne,nf,d⟩
 .have hfn:X.fn x=true:=by
   rcases hf with z|z
   .exact z
   .rw[z]at hk;cases hk
  obtain⟨c,hc⟩:=I.ok.has x (.inl hk);obtain⟨w',z⟩:=I.cell x c hc;refine wpAny_storeName_cell I.ok.kind hk hc z (λh' hc' hs=>?_);obtain⟨oc,hoc,hocd⟩:=id z;refine h { s with heap:=h' } ⟨I.ok,I.os,I.bare,⟨λb o e n hb hx=>?_,λb o e n hb hx=>?_,I.base.free,λb o e hx=>?_,I.base.tups,I.base.frzs,I.base.tbls⟩,⟨m,hn.sameBut hs (Ne.symm (cne x c hc)),λj y v' e1 e2 e3=>?_⟩,λy c' e=>?_,I.free,I.freeC,λp hp=>?_,tracked ⟨oc,hoc,I.freeC x c hc⟩ hs,by simpa using I.len⟩ ⟨c,hs,.inr hc⟩
  .exact(hs.2 b (gv (gU (91 e) (I.ok.cab x c hfn hc)))).trans (I.base.keep b o e n hb hx)
  .obtain⟨sl,e1⟩:=I.base.slot b o e n hb hx;exact⟨sl,(hs.2 b (gv (gU (91 e) (I.ok.cab x c hfn hc)))).trans e1⟩
  .obtain⟨o',e1⟩:=I.base.there b o e hx;exact⟨o',(hs.2 b (gv (gU (91 e) (I.ok.cab x c hfn hc)))).trans e1⟩
  .by_cases hj:j=i
   .subst hj;rw[hi]at e1;cases e1;rw[List.getElem?_set_self hiσ]at e2;cases e2;exact⟨u,r,.inr ⟨.inl hk,c,hc,hc'⟩⟩
   .rw[List.getElem?_set_ne (Ne.symm hj)]at e2;obtain⟨u',r',q⟩:=hl j y v' e1 e2 e3;refine⟨u',r',?_⟩;rcases q with q|⟨k,c',e,z'⟩
    .exact .inl q
    .refine .inr ⟨k,c',e,z'.sameBut hs ?_⟩;rintro rfl;exact hj (N6 hN e1 (I.ok.inj _ _ _ e hc ▸ hi))
  .by_cases hcc:c'=c
   .subst hcc;exact⟨_,hc'⟩
   .obtain⟨w2,z2⟩:=I.cell y c' e;exact⟨w2,z2.sameBut hs hcc⟩
  .obtain⟨e,n,ne,nf,d⟩:=I.pin p hp;refine⟨(hs.2 p.1 ?_).trans e,n,ne,nf,d⟩;intro q;rw[q,hoc]at e;have q':oc=p.2:=Option.some.inj e;exact d w' (by rw[<- q'];exact hocd)
def MQ{M:Model}{A:Around}{E:Value->Shared->Prop}{i:Nat}{x:Str}{v:V}{u:Value}{Q:Unit->Shared->Prop}(I:Inv X pins σ H s)(hN:X.N.Nodup)(hi:X.N[i]?=some x)(hx:Loc X.env.scope x)(r:RelV v u)
 (h:∀s',Inv X pins (σ.set i (some v)) H s'->Q () s') (hf:X.fn x=true∨X.env.scope.names.lookup x=some .local:=by first|exact .inl rfl|exact .inr rfl|assumption):wpAny M A (storeName X.env x u) Q E s:=
 Km I hN hi hx r (λs' I' _=>h s' I') hf
def Inv.call'{s':Shared}{ch:List Addr}(I:Inv X pins σ H s)(ho:s'.os=s.os)(u:Un (frs X.stack) ch H H' s.heap s'.heap)(hok:HOk X.prog X.w H' s'.heap)(hg:AllBare s'.gens)
 (hch:∀b∈ch,(b∈X.ex∨X.s₀.heap.objs.size<=b)/\b≠X.env.locals/\(∀x c,X.env.cells.lookup x=some c->c≠b)/\∀p∈X.pn++pins,p.1≠b):Inv X pins σ H' s':=by
 obtain⟨h',g',d',t',o'⟩:=s';have e:o'=s.os:=ho;subst e;exact I.call (g':=g') (t':=t') (d':=d') u hok hg hch
end
noncomputable abbrev XK:=Value->Option Addr->Hp->Prop
noncomputable abbrev St:=List (Option V)
noncomputable abbrev VK:=V->Hp->Prop
noncomputable abbrev TE:=St->Hp->VK->Prop
noncomputable abbrev TT:=St->Hp->(Bool->Hp->Prop)->Prop
noncomputable abbrev TA:=St->Hp->(List V->Hp->Prop)->Prop
structure Ends where
 nx:St->Hp->Prop
 rt:VK
 bk:St->Hp->Prop:=λ_ _=>False
 ct:St->Hp->Prop:=λ_ _=>False
noncomputable abbrev TS:=Ends->St->Hp->Prop
def EP(X:Cx)(pins:List 81)(σ:St)(Q:VK)(u:Value)(s':Shared):Prop:=∃v H',Inv X pins σ H' s'/\RelV v u/\Q v H'
def TP(X:Cx)(pins:List 81)(σ:St)(Q:Bool->Hp->Prop)(b:Bool)(s':Shared):Prop:=∃H',Inv X pins σ H' s'/\Q b H'
def AP(X:Cx)(pins:List 81)(σ:St)(Q:List V->Hp->Prop)(us:List Value)(s':Shared):Prop:=∃vs H',Inv X pins σ H' s'/\Vals vs us/\Q vs H'
def SP(X:Cx)(pins:List 81)(D:Ends)(f:Flow)(s':Shared):Prop:=
 match f with
 |.next=>∃σ' H',Inv X pins σ' H' s'/\D.nx σ' H'
 |.brk=>∃σ' H',Inv X pins σ' H' s'/\D.bk σ' H'
 |.cont=>∃σ' H',Inv X pins σ' H' s'/\D.ct σ' H'
 |.ret u=>∃v σ' H',Inv X pins σ' H' s'/\RelV v u/\D.rt v H'
def PE(X:Cx)(e:Expr)(t:TE):Prop:=
 ∀(pins:List 81) (s:Shared) (σ:St) (H:Hp) (Q:VK),Inv X pins σ H s->t σ H Q->wpAny 69 X.A (eval e X.env) (EP X pins σ Q) X.xe s
def PT(X:Cx)(e:Expr)(t:TT):Prop:=
 ∀(pins:List 81) (s:Shared) (σ:St) (H:Hp) (Q:Bool->Hp->Prop),Inv X pins σ H s->t σ H Q->wpAny 69 X.A (isTrue e X.env (eval e X.env)) (TP X pins σ Q) X.xe s
def PW(X:Cx)(e:Expr)(t:TT):Prop:=
 ∀(whole:Sem Value) (pins:List 81) (s:Shared) (σ:St) (H:Hp) (Q:Bool->Hp->Prop),Inv X pins σ H s->t σ H Q->wpAny 69 X.A (isTrue e X.env whole) (TP X pins σ Q) X.xe s
def PW.pt{X:Cx}{e:Expr}{t:TT}(h:PW X e t):PT X e t:=h _
def PA(X:Cx)(es:List Expr)(t:TA):Prop:=
 ∀(pos:Pos) (pins:List 81) (s:Shared) (σ:St) (H:Hp) (Q:List V->Hp->Prop),Inv X pins σ H s->t σ H Q->wpAny 69 X.A (spliced (backTo pos (starEach es X.env))) (AP X pins σ Q) X.xe s
def PS(X:Cx)(st:Stmt)(t:TS):Prop:=
 ∀(pins:List 81) (s:Shared) (σ:St) (H:Hp) (D:Ends),Inv X pins σ H s->t D σ H->wpAny 69 X.A (exec st X.env) (SP X pins D) X.xe s
def PSs(X:Cx)(st:List Stmt)(t:TS):Prop:=
 ∀(pins:List 81) (s:Shared) (σ:St) (H:Hp) (D:Ends),Inv X pins σ H s->t D σ H->wpAny 69 X.A (execs st X.env) (SP X pins D) X.xe s
def thn{α:Type}{t:Sem α}{Q Q':α->Shared->Prop}{M:Model}{A:Around}{E:Value->Shared->Prop}{s:Shared}(h:wpAny M A t Q E s)(hQ:∀a s,Q a s->Q' a s):wpAny M A t Q' E s:=gz h hQ λ_ _ x=>x
section
variable{X:Cx}
def bin{a b:Expr}{ta tb:TE}(ha:PE X a ta)(hb:PE X b tb){pins:List 81}{s:Shared}{σ:St}{H:Hp}{R:V->V->Hp->Prop}(I:Inv X pins σ H s)(h:ta σ H λx H1=>tb σ H1 λy H2=>R x y H2)
 {α:Type} {Q:α->Shared->Prop} {f:Value->Value->Sem α}
 (hf:∀v u s2 x y H2,Inv X pins σ H2 s2->RelV x v->RelV y u->R x y H2->wpAny 69 X.A (f v u) Q X.xe s2):
 wpAny 69 X.A (eval a X.env) (λv s₁=>wpAny 69 X.A (eval b X.env) (λu s₂=>wpAny 69 X.A (f v u) Q X.xe s₂) X.xe s₁) X.xe s:=by
 refine thn (ha pins s σ H _ I h) λv s1 ⟨x,H1,I1,r1,q1⟩=>?_;refine thn (hb pins s1 σ H1 _ I1 q1) λu s2 ⟨y,H2,I2,r2,q2⟩=>?_;exact hf v u s2 x y H2 I2 r1 r2 q2
noncomputable def PQ(i:Nat):TE:=λσ H Q=>∃v,σ[i]?=some (some v)/\Q v H
noncomputable def tC(v:V):TE:=λ_ H Q=>Q v H
def Ry{i:Nat}{x:Str}{pos:Pos}(hN:X.N[i]?=some x)(hv:Vis X.env.scope x)(hd:(x==("__debug__":Str))=false:=by decide)(hcd:(x==("__classdict__":Str))=false:=by decide):PE X (.Name x pos) (PQ i):=by
 intro pins s σ H Q I h;obtain⟨v,e,h⟩:=h;obtain⟨m,hn,hl⟩:=I.loc;obtain⟨u,r,l⟩:=hl i x v hN e hv;have fin:EP X pins σ Q u s:=⟨v,H,I,r,h⟩
 rcases l with⟨hk,hm⟩|⟨hk,c,hc,hcell⟩
 .exact wpAny_Name (wpAny_loadName_local I.ok.kind hk hn hm fin) hd
 .rcases hk with hk|hk
  .exact wpAny_Name (wpAny_loadName_cell I.ok.kind hk hc hcell fin) hd
  .exact wpAny_Name (wpAny_loadName_free I.ok.kind hk hc hcell fin hcd) hd
def Zx{i j pos}:PE X (.Constant (.int i) j pos) (tC (.int i)):=λ_ _ _ H _ I h=>wpAny_Constant_int ⟨.int i,H,I.tok _,⟨_,rfl⟩,h⟩
def bu{b j pos}:PE X (.Constant (.bool b) j pos) (tC (.bl b)):=λ_ _ _ H _ I h=>Constant_bool ⟨.bl b,H,I,rfl,h⟩
def Zu{j pos}:PE X (.Constant .none j pos) (tC .non):=λ_ _ _ H _ I h=>Constant_none ⟨.non,H,I,rfl,h⟩
def Zq{x j pos}:PE X (.Constant (.str x) j pos) (tC (.str x)):=λ_ _ _ H _ I h=>Calls.Constant_str ⟨.str x,H,I.tok _,⟨_,rfl⟩,h⟩
def Gl(X:Cx)(x:Str):Prop:=X.env.kindOf x=some .globalImplicit
def Xj{E:Value->Shared->Prop}{pins:List 81}{s:Shared}{σ:St}{H:Hp}{x:Str}{u:Value}{pos:Pos}{Q:Value->Shared->Prop}(I:Inv X pins σ H s)(hg:Gl X x)(hm:X.mg x=some u)(h:Q u s)
 (hd:(x==("__debug__":Str))=false:=by decide):wpAny 69 X.A (eval (.Name x pos) X.env) Q E s:=
 Calls.Name_function_global I.ok.kind hg (Calls.loadGlobal_global (by rw[I.ok.glob];exact I.mod.glob.keeps I.bk) hm h) hd
def CT{E:Value->Shared->Prop}{pins:List 81}{s:Shared}{σ:St}{H:Hp}{x:Str}{u:Value}{pos:Pos}{Q:Value->Shared->Prop}(I:Inv X pins σ H s)(hg:Gl X x)(hm:X.mg x=none)(hv:bootBuiltins x=some u)(h:Q u s)
 (hn:x≠"__name__":=by decide) (hd:(x==("__debug__":Str))=false:=by decide):wpAny 69 X.A (eval (.Name x pos) X.env) Q E s:=by
 obtain⟨mb,h1,h2⟩:=I.mod.blt;exact Calls.Name_function_global I.ok.kind hg (Calls.loadGlobal_builtin (by rw[I.ok.glob];exact I.mod.glob.keeps I.bk) hm (by rw[I.ok.blt];exact h1.keeps I.bk) ((h2 x hn).trans hv) h) hd
variable{a b:Expr}{ta tb:TE}{pos:Pos}
def PC(X:Cx)(op:CmpOp)(a b:Expr)(t:TE):Prop:=
 ∀(pins:List 81) (s:Shared) (σ:St) (H:Hp) (Q:VK),Inv X pins σ H s->t σ H Q ->
   wpAny 69 X.A (eval a X.env) (λv s₁=>wpAny 69 X.A (eval b X.env) (λu s₂=>wpAny 69 X.A (compareOp op v u) (EP X pins σ Q) X.xe s₂) X.xe s₁) X.xe s
def N7(b:Expr){op:CmpOp}(h:op≠.In)(h2:op≠.NotIn):behindInMarks op b=false:=by
 have e1:(op==CmpOp.In)=false:=by cases op<;>first|rfl|exact absurd rfl h
 have e2:(op==CmpOp.NotIn)=false:=by cases op<;>first|rfl|exact absurd rfl h2
 cases b<;>simp[behindInMarks,e1,e2]
noncomputable def PY(ta:TE):TE:=λσ H Q=>ta σ H λx H1=>Q (.bl (decide (x=.non))) H1
noncomputable def Lx(ta:TE):TE:=λσ H Q=>ta σ H λx H1=>Q (.bl (!decide (x=.non))) H1
def RelV.none_iff{x:V}{v:Value}(r:RelV x v):(v==Value.none)=decide (x=.non):=by
 cases x with
 |non=>cases r;rfl
 |bl _=>cases r;rfl
 |int _=>obtain⟨t,rfl⟩:=r;rfl
 |str _=>obtain⟨t,rfl⟩:=r;rfl
 |byt _=>obtain⟨t,rfl⟩:=r;rfl
 |flt _=>obtain⟨t,rfl⟩:=r;rfl
 |ref _=>cases r;rfl
 |ty _=>cases r;rfl
def S3{j pos'}(ha:PE X a ta):PC X .Is a (.Constant .none j pos') (PY ta):=by
 intro pins s σ H Q I h;refine thn (ha pins s σ H _ I h) λv s1 ⟨x,H1,I1,r1,q1⟩=>?_;exact Constant_none (is_none_gen ⟨.bl _,H1,I1,by rw[r1.none_iff];rfl,q1⟩)
def On{j pos'}(ha:PE X a ta):PC X .IsNot a (.Constant .none j pos') (Lx ta):=by
 intro pins s σ H Q I h;refine thn (ha pins s σ H _ I h) λv s1 ⟨x,H1,I1,r1,q1⟩=>?_;exact Constant_none (isnot_none_gen ⟨.bl _,H1,I1,by rw[r1.none_iff];rfl,q1⟩)
noncomputable def tB(t:TE):TT:=λσ H Q=>t σ H λx H1=>∃c,x=.bl c/\Q c H1
def Rz{op:CmpOp}{t:TE}(h:PC X op a b t)(h1:behindInMarks op b=false:=by first|exact N7 _ 98 98|rfl):PE X (.Compare a [op] [b] pos) t:=λpins s σ H Q I hw=>wpAny_Compare1 (h pins s σ H Q I hw) h1
def Rp{op:CmpOp}{t:TE}(h:PC X op a b t)(h1:behindInMarks op b=false:=by first|exact N7 _ 98 98|rfl):PT X (.Compare a [op] [b] pos) (tB t):=by
 intro pins s σ H Q I hw;refine wpAny_isTrue_Compare1 (thn (h pins s σ H _ I hw) λv s1 h1=>thn h1 λu s2 h2=>thn h2 λc s3 ⟨x,H1,I1,r1,q1⟩=>?_) h1;obtain⟨d,rfl,q⟩:=q1;cases r1;exact iI ⟨H1,I1,q⟩
variable{tA tB':TT}{rest:List Expr}
noncomputable def TK(t u:TT):TT:=λσ H Q=>t σ H λc H1=>if c=true then u σ H1 Q else Q false H1
noncomputable def tOr(t u:TT):TT:=λσ H Q=>t σ H λc H1=>if c=true then Q true H1 else u σ H1 Q
noncomputable def TC(t:TT):TT:=λσ H Q=>t σ H λc H1=>Q (!c) H1
def Wy(ha:PT X a tA):PW X (.BoolOp .And [a] pos) tA:=by
 intro wh pins s σ H Q I h;refine isTrue_and (thn (ha pins s σ H Q I h) λc s1 e=>?_);cases c with
 |true=>exact isTrue_and_nil e
 |false=>exact e
def Zb(ha:PT X a tA):PW X (.BoolOp .Or [a] pos) tA:=by
 intro wh pins s σ H Q I h;refine isTrue_or (thn (ha pins s σ H Q I h) λc s1 e=>?_);cases c with
 |false=>exact isTrue_or_nil e
 |true=>exact e
def Zc(ha:PT X a tA)(hb:PW X (.BoolOp .And (b::rest) pos) tB'):PW X (.BoolOp .And (a::b::rest) pos) (TK tA tB'):=by
 intro wh pins s σ H Q I h;refine isTrue_and (thn (ha pins s σ H _ I h) λc s1 ⟨H1,I1,q1⟩=>?_);cases c with
 |true=>exact hb wh pins s1 σ H1 Q I1 q1
 |false=>exact⟨H1,I1,q1⟩
def bn(ha:PT X a tA)(hb:PW X (.BoolOp .Or (b::rest) pos) tB'):PW X (.BoolOp .Or (a::b::rest) pos) (tOr tA tB'):=by
 intro wh pins s σ H Q I h;refine isTrue_or (thn (ha pins s σ H _ I h) λc s1 ⟨H1,I1,q1⟩=>?_);cases c with
 |true=>exact⟨H1,I1,q1⟩
 |false=>exact hb wh pins s1 σ H1 Q I1 q1
def Zd(ha:PT X a tA):PT X (.UnaryOp .Not a pos) (TC tA):=by
 intro pins s σ H Q I h;exact isTrue_not (ha pins s σ H (λc H1=>Q (!c) H1) I h)
noncomputable def Pe(ta tb:TE):TE:=λσ H Q=>ta σ H λx H1=>∃c,x=.bl c/\if c=true then tb σ H1 Q else Q (.bl false) H1
noncomputable def TB(ta tb:TE):TE:=λσ H Q=>ta σ H λx H1=>∃c,x=.bl c/\if c=true then Q (.bl true) H1 else tb σ H1 Q
noncomputable def PU(ta:TE):TE:=λσ H Q=>ta σ H λx H1=>∃c,x=.bl c/\Q (.bl (!c)) H1
def Zr{op}{t:TE}(h:PE X a t):PE X (.BoolOp op [a] pos) t:=λpins s σ H Q I hw=>BoolOp_one (h pins s σ H Q I hw)
def Zy(ha:PE X a ta)(hb:PE X (.BoolOp .And (b::rest) pos) tb):PE X (.BoolOp .And (a::b::rest) pos) (Pe ta tb):=by
 intro pins s σ H Q I h;refine BoolOp_and (thn (ha pins s σ H _ I h) λv s1 ⟨x,H1,I1,r1,q1⟩=>?_);obtain⟨c,rfl,q1⟩:=q1;cases r1;refine iI ?_;cases c with
 |true=>exact hb pins s1 σ H1 Q I1 q1
 |false=>exact⟨.bl false,H1,I1,rfl,q1⟩
def br(ha:PE X a ta)(hb:PE X (.BoolOp .Or (b::rest) pos) tb):PE X (.BoolOp .Or (a::b::rest) pos) (TB ta tb):=by
 intro pins s σ H Q I h;refine BoolOp_or (thn (ha pins s σ H _ I h) λv s1 ⟨x,H1,I1,r1,q1⟩=>?_);obtain⟨c,rfl,q1⟩:=q1;cases r1;refine iI ?_;cases c with
 |false=>exact hb pins s1 σ H1 Q I1 q1
 |true=>exact⟨.bl true,H1,I1,rfl,q1⟩
def Zt(ha:PE X a ta):PE X (.UnaryOp .Not a pos) (PU ta):=by
 intro pins s σ H Q I h;refine UnaryOp_ (thn (ha pins s σ H _ I h) λv s1 ⟨x,H1,I1,r1,q1⟩=>?_);obtain⟨c,rfl,q1⟩:=q1;cases r1;exact not_of (iI ⟨.bl (!c),H1,I1,rfl,q1⟩)
noncomputable def tIf(t:TT)(ta tb:TE):TE:=λσ H Q=>t σ H λc H1=>if c=true then ta σ H1 Q else tb σ H1 Q
def UN{c:Expr}(hc:PT X c tA)(ha:PE X a ta)(hb:PE X b tb):PE X (.IfExp c a b pos) (tIf tA ta tb):=by
 intro pins s σ H Q I h;refine wpAny_IfExp (thn (hc pins s σ H _ I h) λd s1 ⟨H1,I1,q1⟩=>?_);cases d with
 |true=>exact ha pins s1 σ H1 Q I1 q1
 |false=>exact hb pins s1 σ H1 Q I1 q1
end
def SqL(K:Frag)(H:Hp)(a:Addr)(xs:List V):Prop:=
 Rd H a (.lst xs) ∨
  ∃(o:Obj) (its:Array Value) (n:Nat),K.lookup a=some o/\o.cls=.type "list"/\o.dict=none/\o.data=.seq its n/\its.size<=sizeLine/\Vals xs its.toList
def SqT(K:Frag)(H:Hp)(a:Addr)(xs:List V):Prop:=
 Rd H a (.tup xs) ∨
  ∃(o:Obj) (its:Array Value) (n:Nat),K.lookup a=some o/\o.cls=.type "tuple"/\o.dict=none/\o.data=.seq its n/\its.size<=sizeLine/\Vals xs its.toList
noncomputable def di:Value->Option V
 |.none=>some .non
 |.bool b=>some (.bl b)
 |.int i _=>some (.int i)
 |.str x _=>some (.str x)
 |.bytes b _=>some (.byt b)
 |.float b _=>some (.flt b)
 |.ref a=>some (.ref a)
 |.type n=>some (.ty n)
 |_=>none
def RelV.abs{x:V}{u:Value}(r:RelV x u):di u=some x:=by
 cases x with
 |non=>cases r;rfl
 |bl _=>cases r;rfl
 |int _=>obtain⟨t,rfl⟩:=r;rfl
 |str _=>obtain⟨t,rfl⟩:=r;rfl
 |byt _=>obtain⟨t,rfl⟩:=r;rfl
 |flt _=>obtain⟨t,rfl⟩:=r;rfl
 |ref _=>cases r;rfl
 |ty _=>cases r;rfl
theorem RelV.inj{x y:V}{u:Value}(r:RelV x u)(q:RelV y u):x=y:=Option.some.inj (r.abs.symm.trans q.abs)
theorem Vals.inj:∀{xs ys:List V} {us:List Value},Vals xs us->Vals ys us->xs=ys
 |_,_,_,.nil,.nil=>rfl
 |_,_,_,.cons r t,.cons r' t'=>by rw[r.inj r',Vals.inj t t']
section
variable{X:Cx}{pins:List 81}{σ:St}{H:Hp}{s:Shared}{a:Addr}{xs ys:List V}
def SqL.of{K:Frag}(h:H a=some (.lst xs)):SqL K H a xs:=.inl (.inl h)
def SqT.of{K:Frag}(h:H a=some (.tup xs)):SqT K H a xs:=.inl (.inl h)
def Inv.list(I:Inv X pins σ H s)(h:SqL X.K H a xs):∃its:List Value,Vals xs its/\PlainL s.heap a its.toArray/\xs.length<=sizeLine:=by
 rcases h with h|⟨o,its,n,hk,hc,hd,hs,hz,r⟩
 .obtain⟨z,its,n,r,e⟩:=h.ok I.hok;exact⟨its,r,⟨_,n,e,rfl,rfl,rfl⟩,z⟩
 .refine⟨its.toList,r,⟨o,n,I.kIn a o hk,hc,hd,by simpa using hs⟩,?_⟩;have e:=r.length;simp only[Array.length_toList]at e;omega
def Inv.tuple(I:Inv X pins σ H s)(h:SqT X.K H a xs):∃its:List Value,Vals xs its/\IsTup s.heap a its.toArray/\xs.length<=sizeLine:=by
 rcases h with h|⟨o,its,n,hk,hc,_,hs,hz,r⟩
 .obtain⟨z,its,r,p⟩:=h.ok I.hok;exact⟨its,r,p.t,z⟩
 .refine⟨its.toList,r,⟨o,I.kIn a o hk,hc,n,by simpa using hs⟩,?_⟩;have e:=r.length;simp only[Array.length_toList]at e;omega
def Inv.list_inj(I:Inv X pins σ H s)(h:SqL X.K H a xs)(h':SqL X.K H a ys):xs=ys:=by
 obtain⟨its,r,⟨o,n,e,_,_,d⟩,_⟩:=I.list h;obtain⟨its',r',⟨o',n',e',_,_,d'⟩,_⟩:=I.list h';rw[e]at e';cases e';rw[d]at d'
 injection d' with d1 _
 have:its=its':=by simpa using i3 Array.toList d1
 subst this;exact r.inj r'
def Inv.tuple_inj(I:Inv X pins σ H s)(h:SqT X.K H a xs)(h':SqT X.K H a ys):xs=ys:=by
 obtain⟨its,r,⟨o,e,_,n,d⟩,_⟩:=I.tuple h;obtain⟨its',r',⟨o',e',_,n',d'⟩,_⟩:=I.tuple h';rw[e]at e';cases e';rw[d]at d'
 injection d' with d1 _
 have:its=its':=by simpa using i3 Array.toList d1
 subst this;exact r.inj r'
end
noncomputable abbrev Cx.wish(X:Cx)(E:Value->Shared->Prop):Cx:={ X with xe:=E }
noncomputable abbrev Cx.nox(X:Cx):Cx:=X.wish λ_ _=>False
theorem Cx.Ok.wish{X:Cx}(ok:X.Ok)(E:Value->Shared->Prop):(X.wish E).Ok:=
 ⟨ok.mod,ok.kind,ok.glob,ok.blt,ok.above,ok.inj,ok.has,ok.cab,ok.hd,ok.frames,ok.stk,ok.exf,ok.bs,ok.bsz,ok.noex,ok.exfs,ok.funs,ok.frf⟩
def Cx.Ok.unwish{X:Cx}{E:Value->Shared->Prop}(ok:(X.wish E).Ok):X.Ok:=
 ⟨ok.mod,ok.kind,ok.glob,ok.blt,ok.above,ok.inj,ok.has,ok.cab,ok.hd,ok.frames,ok.stk,ok.exf,ok.bs,ok.bsz,ok.noex,ok.exfs,ok.funs,ok.frf⟩
section
variable{X:Cx}{pins:List 81}{σ:St}{H:Hp}{s:Shared}{E:Value->Shared->Prop}
theorem Inv.wish(I:Inv X pins σ H s)(E:Value->Shared->Prop):Inv (X.wish E) pins σ H s:=⟨I.ok.wish E,I.os,I.bare,I.base,I.loc,I.cell,I.free,I.freeC,I.pin,I.hok,I.len⟩
theorem Inv.unwish(I:Inv (X.wish E) pins σ H s):Inv X pins σ H s:=⟨I.ok.unwish,I.os,I.bare,I.base,I.loc,I.cell,I.free,I.freeC,I.pin,I.hok,I.len⟩
theorem SP.unwish{D:Ends}{f:Flow}{s':Shared}(h:SP (X.wish E) pins D f s'):SP X pins D f s':=by
 cases f with
 |next=>obtain⟨σ',H',I,q⟩:=h;exact⟨σ',H',I.unwish,q⟩
 |brk=>obtain⟨σ',H',I,q⟩:=h;exact⟨σ',H',I.unwish,q⟩
 |cont=>obtain⟨σ',H',I,q⟩:=h;exact⟨σ',H',I.unwish,q⟩
 |ret u=>obtain⟨v,σ',H',I,r,q⟩:=h;exact⟨v,σ',H',I.unwish,r,q⟩
theorem PSs.nox{st:List Stmt}{t:TS}(h:PSs X.nox st t):PSs X st t:=λpins s σ H D I hw=>
 gz (h pins s σ H D (I.wish _) hw) (λ_ _ q=>q.unwish) λ_ _ z=>False.elim z
end
section
variable{X:Cx}{st:Stmt}{rest:List Stmt}{t u:TS}{e:Expr}{te:TE}{pos:Pos}
noncomputable def JK:TS:=λD σ H=>D.nx σ H
noncomputable def T8(t u:TS):TS:=λD σ H=>t { D with nx:=u D } σ H
def X0:PSs X [] JK:=λ_ _ σ H _ I h=>jf ⟨σ,H,I,h⟩
def UC(h1:PS X st t)(h2:PSs X rest u):PSs X (st::rest) (T8 t u):=by
 intro pins s σ H D I h;refine wpAny_execs_cons (thn (h1 pins s σ H { D with nx:=u D } I h) λf s1 q=>?_);cases f with
 |next=>
  obtain⟨σ',H',I',q⟩:=q;exact h2 pins s1 σ' H' D I' q
 |ret v=>exact q
 |brk=>exact q
 |cont=>exact q
def Wz(h1:PS X st t):PSs X [st] t:=by
 intro pins s σ H D I h;refine wpAny_execs_cons (thn (h1 pins s σ H D I h) λf s1 q=>?_);cases f with
 |next=>exact jf q
 |ret v=>exact q
 |brk=>exact q
 |cont=>exact q
def X3:PS X (.Pass pos) JK:=λ_ _ σ H _ I h=>wpAny_Pass ⟨σ,H,I,h⟩
def Inv.quiet{pins:List 81}{σ:St}{H:Hp}{s:Shared}(I:Inv X pins σ H s):interactive X.env=false:=by simp[interactive,I.ok.kind]
noncomputable def PZ(te:TE):TS:=λD σ H=>te σ H λ_ H1=>D.nx σ H1
def X4(he:PE X e te)(hs:swapsWith e none pos.line X.env=pure false:=by rfl):PS X (.Expr e pos) (PZ te):=by
 intro pins s σ H D I h;exact wpAny_Expr_any (thn (he pins s σ H _ I h) λv s1 ⟨x,H1,I1,r1,q1⟩=>⟨σ,H1,I1,q1⟩) I.quiet hs
noncomputable def T9(te:TE):TS:=λD σ H=>te σ H D.rt
def Zf(he:PE X e te):PS X (.Return (some e) pos) (T9 te):=by
 intro pins s σ H D I h;exact wpAny_Return_some (thn (he pins s σ H _ I h) λv s1 ⟨x,H1,I1,r1,q1⟩=>⟨x,σ,H1,I1,r1,q1⟩)
noncomputable def TH(c:TT)(t u:TS):TS:=λD σ H=>c σ H λb H1=>if b=true then t D σ H1 else u D σ H1
def bp{c:Expr}{a b:List Stmt}{tc:TT}(hc:PT X c tc)(ha:PSs X a t)(hb:PSs X b u):PS X (.If c a b pos) (TH tc t u):=by
 intro pins s σ H D I h;refine wpAny_If (thn (hc pins s σ H _ I h) λd s1 ⟨H1,I1,q1⟩=>?_);cases d with
 |true=>exact ha pins s1 σ H1 D I1 q1
 |false=>exact hb pins s1 σ H1 D I1 q1
noncomputable def MM:TS:=λ_ _ _=>False
def UE:PS X st MM:=λ_ _ _ _ _ _ h=>h.elim
end
noncomputable abbrev TG:=V->St->Hp->(St->Hp->Prop)->Prop
noncomputable abbrev TGs:=List V->St->Hp->(St->Hp->Prop)->Prop
def PG(X:Cx)(target:Expr)(t:TG):Prop:=
 ∀(pins:List 81) (s:Shared) (σ:St) (H:Hp) (v:V) (u:Value) (Q:St->Hp->Prop),Inv X pins σ H s->RelV v u->t v σ H Q ->
   wpAny 69 X.A (assign target X.env u) (λ_ s'=>∃σ' H',Inv X pins σ' H' s'/\Q σ' H') X.xe s
def PGs(X:Cx)(ts:List Expr)(t:TGs):Prop:=
 ∀(pins:List 81) (s:Shared) (σ:St) (H:Hp) (vs:List V) (us:List Value) (Q:St->Hp->Prop),Inv X pins σ H s->Vals vs us->t vs σ H Q ->
   wpAny 69 X.A (assignInOrder ((assignEach ts X.env).map (·.2)) us) (λ_ s'=>∃σ' H',Inv X pins σ' H' s'/\Q σ' H') X.xe s
noncomputable abbrev Nu:=V->V->V->Hp->(Hp->Prop)->Prop
def V0(X:Cx)(t:Nu):Prop:=
 ∀(pins:List 81) (s:Shared) (σ:St) (H:Hp) (o i v:V) (ov iv u:Value) (Q:Hp->Prop),Inv X pins σ H s->RelV o ov->RelV i iv->RelV v u->t o i v H Q ->
   wpAny 69 X.A (setItem ov iv u) (λ_ s'=>∃H',Inv X pins σ H' s'/\Q H') X.xe s
noncomputable abbrev TIp:=V->V->Hp->VK->Prop
def PIp(X:Cx)(op:Operator)(t:TIp):Prop:=
 ∀(pins:List 81) (s:Shared) (σ:St) (H:Hp) (x y:V) (v u:Value) (Q:VK),Inv X pins σ H s->RelV x v->RelV y u->t x y H Q ->
   wpAny 69 X.A (inplaceOp op v u) (EP X pins σ Q) X.xe s
section
variable{X:Cx}{pos:Pos}
noncomputable def EF(i:Nat):TG:=λv σ H Q=>Q (σ.set i (some v)) H
def XG{i:Nat}{x:Str}(hN:X.N.Nodup)(hi:X.N[i]?=some x)(hx:Loc X.env.scope x)(hf:X.fn x=true∨X.env.scope.names.lookup x=some .local:=by first|exact .inl rfl|exact .inr rfl|assumption):PG X (.Name x pos) (EF i):=by
 intro pins s σ H v u Q I r h;exact wpAny_assign_Name (MQ I hN hi hx r (λs' I'=>⟨_,H,I',h⟩) hf)
noncomputable def Ul:TGs:=λvs σ H Q=>vs=[]/\Q σ H
noncomputable def Qd(t:TG)(u:TGs):TGs:=λvs σ H Q=>∃v r,vs=v::r/\t v σ H λσ' H'=>u r σ' H' Q
def XE:PGs X [] Ul:=by
 intro pins s σ H vs us Q I r h;obtain⟨e,h⟩:=h;subst e;cases r;exact assignInOrder_nil ⟨σ,H,I,h⟩
def UK{e:Expr}{es:List Expr}{t:TG}{u:TGs}(h1:PG X e t)(h2:PGs X es u)
 (hs:(assignEach (e::es) X.env).map (·.2)=assign e X.env::(assignEach es X.env).map (·.2):=by rfl):PGs X (e::es) (Qd t u):=by
 intro pins s σ H vs us Q I r h;obtain⟨v,vr,e1,h⟩:=h;subst e1;cases r with
 |cons r rr=>
  rw[hs];refine assignInOrder_cons (thn (h1 pins s σ H _ _ _ I r h) λ_ s1 ⟨σ1,H1,I1,q1⟩=>?_);exact h2 pins s1 σ1 H1 _ _ Q I1 rr q1
noncomputable def Qc(K:Frag)(n:Nat)(t:TGs):TG:=λv σ H Q=>∃a xs,v=.ref a/\SqT K H a xs/\xs.length=n/\t xs σ H Q
def Zl{es:List Expr}{k:Nat}{t:TGs}{n:Nat}(hc:X.calm=true)(h:PGs X es t)
 (hn:(assignEach es X.env).length=n:=by rfl) (hst:(assignEach es X.env).findIdx? (·.1)=none:=by rfl):PG X (.Tuple es k pos) (Qc X.K n t):=by
 intro pins s σ H v u Q I r hw;obtain⟨a,xs,e1,hq,hl,hw⟩:=hw;subst e1;cases r;obtain⟨its,rv,ht,hz⟩:=I.tuple hq;refine assign_Tuple_tuple (I.ok.hd hc) ht (by simp[hn,<- hl,rv.length]) hst λh' hx=>?_;have I1:Inv X pins σ H { s with heap:=h' }:=I.kept (t':=s.toks) λb o e=>hx b o (gv (91 e)) e;exact h pins _ σ H xs _ Q I1 (by simpa using rv) hw
noncomputable def Uj(to ti:TE)(t:Nu):TG:=λv σ H Q=>to σ H λo H1=>ti σ H1 λi H2=>t o i v H2 λH3=>Q σ H3
def Zm{o i:Expr}{to ti:TE}{t:Nu}(ho:PE X o to)(hi:PE X i ti)(hs:V0 X t)
 (ha:∀v,assign (.Subscript o i pos) X.env v=(do
  let ov <- holding [v] (eval o X.env)
  let iv <- holding [v,ov] (eval i X.env)
  standAt pos
  holding [v,ov,iv] (setItem ov iv v)
  release [v,ov,iv] []):=by intro _;rfl):PG X (.Subscript o i pos) (Uj to ti t):=by
 intro pins s σ H v u Q I r h;rw[ha];refine gb (gX (thn (ho pins s σ H _ I h) λov s1 ⟨x,H1,I1,r1,q1⟩=>?_));refine gb (gX (thn (hi pins s1 σ H1 _ I1 q1) λiv s2 ⟨y,H2,I2,r2,q2⟩=>?_));refine gb (iM (gb (gX (thn (hs pins s2 σ H2 x y v ov iv u _ I2 r1 r2 r q2) λ_ s3 ⟨H3,I3,q3⟩=>?_))));exact wpAny_release ⟨σ,H3,I3,q3⟩
noncomputable def Ey(te:TE)(g:TG):TS:=λD σ H=>te σ H λx H1=>g x σ H1 D.nx
def Rq{tg e:Expr}{te:TE}{g:TG}(he:PE X e te)(hg:PG X tg g)(hs:swapsWithSole [tg] e pos.line X.env=pure false:=by rfl)(hw:swappedStores [tg] e X.env=pure none:=by rfl)
 (h1:(assignEach [tg] X.env).map (·.2)=[assign tg X.env]:=by rfl):PS X (.Assign [tg] e pos) (Ey te g):=by
 intro pins s σ H D I h;refine wpAny_Assign_stores (thn (he pins s σ H _ I h) λv s1 ⟨x,H1,I1,r1,q1⟩=>?_) hs hw;rw[h1];exact thn (hg pins s1 σ H1 x v _ I1 r1 q1) λ_ s2 q=>q
def Ze{i:Nat}{x:Str}{e:Expr}{te:TE}{pos':Pos}(hN:X.N.Nodup)(hi:X.N[i]?=some x)(hx:Loc X.env.scope x)(he:PE X e te)(hs:swapsWith e (some (.Name x pos')) pos.line X.env=pure false:=by rfl)(hf:X.fn x=true∨X.env.scope.names.lookup x=some .local:=by first|exact .inl rfl|exact .inr rfl|assumption):
 PS X (.Assign [.Name x pos'] e pos) (Ey te (EF i)):=by
 intro pins s σ H D I h;refine wpAny_Assign_Name (thn (he pins s σ H _ I h) λv s1 ⟨y,H1,I1,r1,q1⟩=>?_) hs;exact MQ I1 hN hi hx r1 (λs2 I2=>⟨_,H1,I2,q1⟩) hf
noncomputable def Pd(to ti te:TE)(tget:V->V->Hp->VK->Prop)(tip:TIp)(tset:Nu):TS:=λD σ H=>to σ H λo H1=>ti σ H1 λi H2=>tget o i H2 λx H3=>te σ H3 λy H4=>tip x y H4 λz H5=>tset o i z H5 λH6=>D.nx σ H6
def bB(X:Cx)(t:V->V->Hp->VK->Prop):Prop:=
 ∀(pins:List 81) (s:Shared) (σ:St) (H:Hp) (o i:V) (ov iv:Value) (Q:VK),Inv X pins σ H s->RelV o ov->RelV i iv->t o i H Q ->
   wpAny 69 X.A (getItem ov iv) (EP X pins σ Q) X.xe s
def X6{o i e:Expr}{to ti te:TE}{tget:V->V->Hp->VK->Prop}{tip:TIp}{tset:Nu}{op:Operator}{tpos:Pos}(ho:PE X o to)(hi:PE X i ti)(hg:bB X tget)(he:PE X e te)(hp:PIp X op tip)(hs:V0 X tset)
 (ha:∀ov iv new,augStore i ov iv new=(do holding [new,ov,iv] (setItem ov iv new);release [new,ov,iv] [];pure .next):=by intros;rfl):PS X (.AugAssign (.Subscript o i tpos) op e pos) (Pd to ti te tget tip tset):=by
 intro pins s σ H D I h;refine wpAny_AugAssign_SubscriptAny (thn (ho pins s σ H _ I h) λov s1 ⟨x1,H1,I1,r1,q1⟩=>?_) ha;refine thn (hi pins s1 σ H1 _ I1 q1) λiv s2 ⟨x2,H2,I2,r2,q2⟩=>?_;refine thn (hg pins s2 σ H2 x1 x2 ov iv _ I2 r1 r2 q2) λold s3 ⟨x3,H3,I3,r3,q3⟩=>?_;refine thn (he pins s3 σ H3 _ I3 q3) λv s4 ⟨x4,H4,I4,r4,q4⟩=>?_;refine thn (hp pins s4 σ H4 x3 x4 old v _ I4 r3 r4 q4) λnew s5 ⟨x5,H5,I5,r5,q5⟩=>?_;exact thn (hs pins s5 σ H5 x1 x2 x5 ov iv new _ I5 r1 r2 r5 q5) λ_ s6 ⟨H6,I6,q6⟩=>⟨σ,H6,I6,q6⟩
noncomputable def ipI(f:Int->Int->Int):TIp:=λx y H Q=>∃i j,x=.int i/\y=.int j/\Q (.int (f i j)) H
def aX:PIp X .Sub (ipI λi j=>i-j):=by
 intro pins s σ H x y v u Q I r1 r2 h;obtain⟨i,j,e1,e2,q⟩:=h;subst e1;subst e2;obtain⟨t,rfl⟩:=r1;obtain⟨t',rfl⟩:=r2;exact isub_int ⟨.int _,H,I.tok _,⟨_,rfl⟩,q⟩
end
section
variable{X:Cx}{pos:Pos}
noncomputable def ML(c:TT)(tb:TS):TS:=λD σ H=>∃W:Nat->St->Hp->Prop,(∃m,W m σ H)/\∀m σ H,W m σ H ->
 c σ H λb H1=>if b=true then ∃N:St->Hp->Prop,(∀σ' H',N σ' H'->∃m',m'<m/\W m' σ' H')/\tb { D with nx:=N,ct:=N,bk:=D.nx } σ H1 else D.nx σ H1
def UD{c:Expr}{body:List Stmt}{tc:TT}{tb:TS}(hp:PassesOwn 69 X.A X.env X.xe)(hc:PT X c tc)(hb:PSs X body tb):PS X (.While c body [] pos) (ML tc tb):=by
 intro pins s σ H D I h;obtain⟨W,⟨m0,w0⟩,turn⟩:=h;refine wpAny_While (codeAny_whileLoop (λn s'=>∃σ' H',Inv X pins σ' H' s'/\W n σ' H') ?_ m0 ⟨σ,H,I,w0⟩);rintro n s1 ⟨σ1,H1,I1,w1⟩;refine j6 hp (thn (hc pins s1 σ1 H1 _ I1 (turn n σ1 H1 w1)) λb s2 ⟨H2,I2,q2⟩=>?_);cases b with
 |true=>
  obtain⟨N,hN,q2⟩:=q2;rw[gc rfl];refine j6 hp (thn (hb pins s2 σ1 H2 _ I2 q2) λf s3 q3=>?_);cases f with
  |next=>
   obtain⟨σ3,H3,I3,n3⟩:=q3;obtain⟨m',hm,w3⟩:=hN σ3 H3 n3;exact⟨m',hm,σ3,H3,I3,w3⟩
  |cont=>
   obtain⟨σ3,H3,I3,n3⟩:=q3;obtain⟨m',hm,w3⟩:=hN σ3 H3 n3;exact⟨m',hm,σ3,H3,I3,w3⟩
  |brk=>exact q3
  |ret v=>exact q3
 |false=>
  rw[gf Bool.false_ne_true];exact jf ⟨σ1,H2,I2,q2⟩
end
structure It where
 go:Nat->Hp->Prop
 yld:Nat->Hp->V->Hp->Prop
 stop:Nat->Hp->Prop
def FpOk(X:Cx)(pins:List 81)(H:Hp)(b:Addr):Prop:=
 H b=none/\b≠X.env.locals/\b∉X.fs/\(b∈X.ex∨X.s₀.heap.objs.size<=b)/\(∀x c,X.env.cells.lookup x=some c->c≠b)/\∀p∈X.pn++pins,p.1≠b
def Inv.fpOk{X:Cx}{pins:List 81}{σ:St}{H H':Hp}{s:Shared}{b:Addr}(I:Inv X pins σ H s)(hb:66<=b)(hn:H' b=none):FpOk X pins H' b:=by
 refine⟨hn,i5 (gU I.lt hb),I.nofs hb,.inr (gQ I.sz hb),λx c e z=>?_,λp hp z=>?_⟩
 .obtain⟨v,q⟩:=I.cell x c e;exact absurd (gU q.lt (by rw[z];exact hb)) (i7 _)
 .exact absurd (gU (91 (I.pin p hp).1) (by rw[z];exact hb)) (i7 _)
structure Turn(P:Program)(w:World)(K:Frag)(tg:Expr)(J:It)(fp:List Addr)(it:Addr)(tn:Nat->Heap->Prop):Prop where
 mem:it∈fp
 obj:∀i h,tn i h->∀b∈fp,∃o,h.get? b=some o/\∀v,o.data≠.cell v
 keep:∀i h h',tn i h->(∀b∈fp,∀o,h.get? b=some o->h'.get? b=some o)->tn i h'
 item:∀(X:Cx),X.prog=P->X.w=w->X.K=K->X.calm=true->∀(i:Nat) (pins:List 81) (s:Shared) (σ:St) (H:Hp) (E:Value->Shared->Prop),Inv X pins σ H s->(∀b∈fp,FpOk X pins H b)->tn i s.heap->J.go i H ->
  wpAny (model P w) X.A (pyNext (.ref it)) (λr s1=>∃u,r=some u /\
   wpAny (model P w) X.A (letOwnedTupleGo tg (.ref it) u) (λ_ s2=>∃x H',Inv X pins σ H' s2/\RelV x u/\J.yld i H x H'/\tn (i+1) s2.heap/\∀b∈fp,H' b=none) E s1) E s
 done:∀(X:Cx),X.prog=P->X.w=w->X.K=K->X.calm=true->∀(i:Nat) (pins:List 81) (s:Shared) (σ:St) (H:Hp) (E:Value->Shared->Prop),Inv X pins σ H s->(∀b∈fp,FpOk X pins H b)->tn i s.heap->J.stop i H ->
  wpAny (model P w) X.A (pyNext (.ref it)) (λr s1=>r=none/\Inv X pins σ H s1) E s
 self:∀(A:Around) (i:Nat) (s:Shared) (Q:Value->Shared->Prop) (E:Value->Shared->Prop),tn i s.heap->Q (.ref it) s->wpAny (model P w) A (pyIter (.ref it)) Q E s
noncomputable abbrev TI:=St->Hp->(It->Hp->Prop)->Prop
def PIE(X:Cx)(pins:List 81)(σ:St)(tg:Expr)(R:It->Hp->Prop)(itv:Value)(s2:Shared):Prop:=
 ∃(it:Addr) (fp:List Addr) (tn:Nat->Heap->Prop) (J:It) (H':Hp),itv=.ref it/\Inv X pins σ H' s2/\Turn X.prog X.w X.K tg J fp it tn/\tn 0 s2.heap/\(∀b∈fp,FpOk X pins H' b)/\R J H'
def PI(X:Cx)(tg iter:Expr)(wi:TI):Prop:=
 ∀(pins:List 81) (s:Shared) (σ:St) (H:Hp) (R:It->Hp->Prop),Inv X pins σ H s->wi σ H R ->
   wpAny 69 X.A (eval iter X.env) (λv s1=>wpAny 69 X.A (pyIter v) (PIE X pins σ tg R) X.xe s1) X.xe s
def Qb{M:Model}{A:Around}{E:Value->Shared->Prop}{s:Shared}{tg:Expr}{it:Addr}{u:Value}{o:Obj}{n:String}{vs:Array Value}{Q:Unit->Shared->Prop}(ho:s.heap.get? it=some o)(hc:o.cls=.type n)(hd:o.data=.fields vs)
 (hn:["enumerate","zip","dict_itemiterator","dict_reverseitemiterator","odict_iterator","itertools.zip_longest","itertools.pairwise"].contains n=false) (hQ:Q () s):wpAny M A (letOwnedTupleGo tg (.ref it) u) Q E s:=by
 unfold letOwnedTupleGo;cases tg<;>first
  |exact gh hQ
  | (cases u<;>first
   |exact gh hQ
   | (refine gb (wpAny_load ho ?_)
      rw[hc,hd];show wpAny M A (if(["enumerate","zip","dict_itemiterator","dict_reverseitemiterator","odict_iterator","itertools.zip_longest","itertools.pairwise"].contains n&&vs[0]?==some (rawInt _))=true then _ else _) Q E s;rw[gf (by intro h;rw[hn,Bool.false_and]at h;cases h)];exact gh hQ))
noncomputable def Itl(K:Frag)(a:Addr):It:=
 ⟨λi H=>∃xs x,SqL K H a xs/\xs[i]?=some x,λi H x H'=>H'=H/\∀xs,SqL K H a xs->xs[i]?=some x,λi H=>∃xs,SqL K H a xs/\xs.length<=i⟩
noncomputable def Itt(K:Frag)(a:Addr):It:=
 ⟨λi H=>∃xs x,SqT K H a xs/\xs[i]?=some x,λi H x H'=>H'=H/\∀xs,SqT K H a xs->xs[i]?=some x,λi H=>∃xs,SqT K H a xs/\xs.length<=i⟩
noncomputable def Itr(lo:Int)(n:Nat):It:=⟨λi _=>i<n,λi H x H'=>H'=H/\x=.int (lo+i),λi _=>n<=i⟩
def Qx{P:Program}{w:World}{K:Frag}{tg:Expr}(a it:Addr):Turn P w K tg (Itl K a) [it] it (λi h=>h.IsListIter it a i) where
 mem:=by simp
 obj:=λi h st b hb=>by
  have e:b=it:=by simpa using hb
  subst e;obtain⟨o,e,c,d⟩:=st;exact⟨o,e,λv z=>by rw[d]at z;cases z⟩
 keep:=λi h h' st k=>st.at λo e=>k it 77 o e
 item:=by
  intro X hP hw hK hc i pins s σ H E I hf st hg;subst hP hw hK;obtain⟨xs,x,hq,hx⟩:=hg;obtain⟨its,rv,p,hz⟩:=I.list hq;obtain⟨u,hu,ru⟩:=rv.get hx;obtain⟨f0,f1,f2,f3,f4,f5⟩:=hf it 77;refine jg st p.isList (x:=u) (by simpa using hu) λh' st' sb=>?_;have I1:Inv X pins σ H { s with heap:=h' }:=I.turned (t':=s.toks) (λb o hb e=>(sb.2 b hb).trans e) f0 f1 f3 f4 f5;obtain⟨o,e,c,d⟩:=id st';exact⟨u,rfl,Qb (s:={ s with heap:=h' }) e c d 98 ⟨x,H,I1,ru,⟨rfl,λys hy=>by rw[I.list_inj hy hq];exact hx⟩,st',λb hb=>(hf b hb).1⟩⟩
 done:=by
  intro X hP hw hK hc i pins s σ H E I hf st hg;subst hP hw hK;obtain⟨xs,hq,hx⟩:=hg;obtain⟨its,rv,p,hz⟩:=I.list hq;obtain⟨f0,f1,f2,f3,f4,f5⟩:=hf it 77;have hl:=rv.length;exact wpAny_pyNext_list_end (I.ok.hd hc) st p.isList 79 λh' eb=>⟨rfl,I.turned (t':=s.toks) (λb o hb e=>eb b o hb e) f0 f1 f3 f4 f5⟩
 self:=λ_ _ _ _ _ st h=>wpAny_pyIter_listiter st h
def PJ{P:Program}{w:World}{K:Frag}{tg:Expr}(a it:Addr):Turn P w K tg (Itt K a) [it] it (λi h=>h.IsTupleIter it a i) where
 mem:=by simp
 obj:=λi h st b hb=>by
  have e:b=it:=by simpa using hb
  subst e;obtain⟨o,e,c,d⟩:=st;exact⟨o,e,λv z=>by rw[d]at z;cases z⟩
 keep:=λi h h' st k=>st.at λo e=>k it 77 o e
 item:=by
  intro X hP hw hK hc i pins s σ H E I hf st hg;subst hP hw hK;obtain⟨xs,x,hq,hx⟩:=hg;obtain⟨its,rv,p,hz⟩:=I.tuple hq;obtain⟨u,hu,ru⟩:=rv.get hx;obtain⟨f0,f1,f2,f3,f4,f5⟩:=hf it 77;refine wpAny_pyNext_tuple_item st (show s.heap.IsTuple a its.toArray from p) (x:=u) (by simpa using hu) λh' st' sb=>?_;have I1:Inv X pins σ H { s with heap:=h' }:=I.turned (t':=s.toks) (λb o hb e=>(sb.2 b hb).trans e) f0 f1 f3 f4 f5;obtain⟨o,e,c,d⟩:=id st';exact⟨u,rfl,Qb (s:={ s with heap:=h' }) e c d 98 ⟨x,H,I1,ru,⟨rfl,λys hy=>by rw[I.tuple_inj hy hq];exact hx⟩,st',λb hb=>(hf b hb).1⟩⟩
 done:=by
  intro X hP hw hK hc i pins s σ H E I hf st hg;subst hP hw hK;obtain⟨xs,hq,hx⟩:=hg;obtain⟨its,rv,p,hz⟩:=I.tuple hq;obtain⟨f0,f1,f2,f3,f4,f5⟩:=hf it 77;have hl:=rv.length;exact wpAny_pyNext_tuple_end (I.ok.hd hc) st (show s.heap.IsTuple a its.toArray from p) 79 λh' eb=>⟨rfl,I.turned (t':=s.toks) (λb o hb e=>eb b o hb e) f0 f1 f3 f4 f5⟩
 self:=λ_ _ _ _ _ st h=>wpAny_pyIter_tupleiter st h
def PK{P:Program}{w:World}{K:Frag}{tg:Expr}(it:Addr)(lo:Int)(n:Nat):Turn P w K tg (Itr lo n) [it] it (λi h=>IsRangeIter h it (lo+(i:Nat)*1) ((n:Int)-(i:Nat)) 1) where
 mem:=by simp
 obj:=λi h st b hb=>by
  have e:b=it:=by simpa using hb
  subst e;exact⟨_,st,λv z=>by
   have z':Data.fields _=Data.cell v:=z;cases z'⟩
 keep:=λi h h' st k=>k it 77 _ st
 item:=by
  intro X hP hw hK hc i pins s σ H E I hf st hg;subst hP hw hK;obtain⟨f0,f1,f2,f3,f4,f5⟩:=hf it 77;have W:=Walks.range (prog:=X.prog) (w:=X.w) (I.ok.hd hc) it lo 1 n;refine W.item i s _ _ hg st λv h' tk hv st' kk=>?_;obtain⟨t,rfl⟩:=hv;have I1:Inv X pins σ H { s with heap:=h',toks:=tk }:=I.turned (λb o hb e=>kk b o (by simpa using hb) e) f0 f1 f3 f4 f5;refine⟨_,rfl,Qb (s:={ s with heap:=h',toks:=tk }) (n:="range_iterator") st' rfl rfl 98 ⟨.int (lo+i),H,I1,⟨t,?_⟩,⟨rfl,rfl⟩,st',λb hb=>(hf b hb).1⟩⟩;rw[Int.mul_one]
 done:=by
  intro X hP hw hK hc i pins s σ H E I hf st hg;subst hP hw hK;obtain⟨f0,f1,f2,f3,f4,f5⟩:=hf it 77;exact wpAny_pyNext_range_end (I.ok.hd hc) st (by have:n<=i:=hg;omega) λh' eb=>⟨rfl,I.turned (t':=s.toks) (λb o hb e=>eb b o hb e) f0 f1 f3 f4 f5⟩
 self:=λ_ _ _ _ _ st h=>wpAny_pyIter_rangeiter st h
section
variable{X:Cx}{tg:Expr}
noncomputable def IF(K:Frag)(tl:TE):TI:=λσ H R=>tl σ H λx H1=>∃a,x=.ref a/\(∃xs,SqL K H1 a xs)/\R (Itl K a) H1
noncomputable def QY(K:Frag)(tl:TE):TI:=λσ H R=>tl σ H λx H1=>∃a,x=.ref a/\(∃xs,SqT K H1 a xs)/\R (Itt K a) H1
def XD{l:Expr}{tl:TE}(hl:PE X l tl):PI X tg l (IF X.K tl):=by
 intro pins s σ H R I h;refine thn (hl pins s σ H _ I h) λv s1 ⟨x,H1,I1,r1,q1⟩=>?_;obtain⟨a,e,⟨xs,hq⟩,q⟩:=q1;subst e;cases r1;obtain⟨its,rv,p,hz⟩:=I1.list hq;refine wpAny_pyIter_list p.isList ?_;refine⟨s1.heap.objs.size,[s1.heap.objs.size],_,_,H1,rfl,I1.kept (t':=s1.toks) λb o e=>73 _ e,Qx a _,⟨_,89 _ rfl,rfl,rfl⟩,λb hb=>?_,q⟩;have e:b=s1.heap.objs.size:=by simpa using hb
 subst e;exact I1.fpOk (gg _) (I1.hok.fresh (gg _))
def Zk{l:Expr}{tl:TE}(hl:PE X l tl):PI X tg l (QY X.K tl):=by
 intro pins s σ H R I h;refine thn (hl pins s σ H _ I h) λv s1 ⟨x,H1,I1,r1,q1⟩=>?_;obtain⟨a,e,⟨xs,hq⟩,q⟩:=q1;subst e;cases r1;obtain⟨its,rv,p,hz⟩:=I1.tuple hq;refine wpAny_pyIter_tuple (show s1.heap.IsTuple a its.toArray from p) ?_;refine⟨s1.heap.objs.size,[s1.heap.objs.size],_,_,H1,rfl,I1.kept (t':=s1.toks) λb o e=>73 _ e,PJ a _,⟨_,89 _ rfl,rfl,rfl⟩,λb hb=>?_,q⟩;have e:b=s1.heap.objs.size:=by simpa using hb
 subst e;exact I1.fpOk (gg _) (I1.hok.fresh (gg _))
def Ms{pins:List 81}{σ:St}{H:Hp}{s:Shared}{R:It->Hp->Prop}{E:Value->Shared->Prop}{lo hi:Int}{t u v:Tok}{tk:Nat}(I:Inv X pins σ H s)(h1:-(2^62)<=lo)(h2:lo<2^62)(h3:-(2^62)<=hi)(h4:hi<2^62)
 (q:R (Itr lo (hi-lo).toNat) H):wpAny 69 X.A (pyIter (.ref 66)) (PIE X pins σ tg R) E { s with heap:=s.heap.push { cls:=.type "range",data:=.fields #[.int lo t,.int hi u,.int 1 v] },toks:=tk }:=by
 refine wpAny_pyIter_range (IsRange.new ..) (small_one h1 h2 h3 h4) ?_;have I1:Inv X pins σ H { s with heap:=s.heap.push { cls:=.type "range",data:=.fields #[.int lo t,.int hi u,.int 1 v] },toks:=tk }:=I.kept λb o e=>73 _ e;refine⟨(s.heap.push { cls:=.type "range",data:=.fields #[.int lo t,.int hi u,.int 1 v] }).objs.size,[(s.heap.push { cls:=.type "range",data:=.fields #[.int lo t,.int hi u,.int 1 v] }).objs.size],_,_,H,rfl,
  I1.kept (t':=tk) λb o e=>73 _ e,PK _ lo (hi-lo).toNat,?_,λb hb=>?_,q⟩
 .have e1:lo+((0:Nat):Int)*1=lo:=by simp
  have e2:(((hi-lo).toNat:Nat):Int)-((0:Nat):Int)=Builtin.Range.rangeSize lo hi 1:=by rw[rangeSize_one];split<;>omega
  show IsRangeIter _ _ (lo+((0:Nat):Int)*1) ((((hi-lo).toNat:Nat):Int)-((0:Nat):Int)) 1;rw[e1,e2];exact 89 _ rfl
 .have e:b=(s.heap.push { cls:=.type "range",data:=.fields #[.int lo t,.int hi u,.int 1 v] }).objs.size:=by simpa using hb
  subst e;exact I1.fpOk (gg _) (I1.hok.fresh (gg _))
noncomputable def Qa(ta:TA):TI:=λσ H R=>ta σ H λvs H1=>∃j:Int,vs=[.int j]/\-(2^62)<=j/\j<2^62/\R (Itr 0 j.toNat) H1
noncomputable def QZ(ta:TA):TI:=λσ H R=>ta σ H λvs H1=>∃i j:Int,vs=[.int i,.int j]/\(-(2^62)<=i/\i<2^62/\-(2^62)<=j/\j<2^62)/\R (Itr i (j-i).toNat) H1
def Ru{a:Expr}{ta:TA}{p pos:Pos}(hg:Gl X "range")(hm:X.mg "range"=none)(ha:PA X [a] ta)(hs:starEach [a] X.env=[(false,eval a X.env)]:=by rfl):PI X tg (.Call (.Name "range" p) [a] [] pos) (Qa ta):=by
 intro pins s σ H R I h;refine Call_ (CT I hg hm boot_range (PyProof.Rows.callWith_type1 (thn (ha pos pins s σ H _ I h) λus s1 ⟨vs,H1,I1,r1,q1⟩=>?_) hs rfl));obtain⟨j,e,q1,q2,q⟩:=q1;subst e;cases r1 with
 |cons r rr=>
  cases rr;obtain⟨t,rfl⟩:=r;exact call_range_1 (Ms I1 67 67 q1 q2 (by simpa using q))
def Rt{a b:Expr}{ta:TA}{p pos:Pos}(hg:Gl X "range")(hm:X.mg "range"=none)(ha:PA X [a,b] ta)(hs:starEach [a,b] X.env=[(false,eval a X.env),(false,eval b X.env)]:=by rfl)(hs2:starEach [b] X.env=[(false,eval b X.env)]:=by rfl):
 PI X tg (.Call (.Name "range" p) [a,b] [] pos) (QZ ta):=by
 intro pins s σ H R I h;refine Call_ (CT I hg hm boot_range (PyProof.Rows.callWith_type1 (thn (ha pos pins s σ H _ I h) λus s1 ⟨vs,H1,I1,r1,q1⟩=>?_) (by rw[hs,hs2]) (by rw[hs2];rfl)));obtain⟨i,j,e,⟨q1,q2,q3,q4⟩,q⟩:=q1;subst e;cases r1 with
 |cons r rr=>
  cases rr with
  |cons r' rr=>
   cases rr;obtain⟨t,rfl⟩:=r;obtain⟨t',rfl⟩:=r';exact call_range_2 (Ms I1 q1 q2 q3 q4 q)
noncomputable def TJ(wi:TI)(g:TG)(tb:TS):TS:=λD σ H=>wi σ H λJ H1=>∃W:Nat->Nat->St->Hp->Prop,(∃m,W 0 m σ H1)/\∀i m σ H,W i m σ H ->
 (J.stop i H/\D.nx σ H)∨(J.go i H/\∃N:St->Hp->Prop,(∀σ' H',N σ' H'->∃m',m'<m/\W (i+1) m' σ' H')/\∀x H',J.yld i H x H'->g x σ H' λσ2 H2=>tb { D with nx:=N,ct:=N,bk:=D.nx } σ2 H2)
noncomputable def Fw(fp:List Addr)(h:Heap):List 81:=fp.filterMap λb=>(h.get? b).map λo=>(b,o)
def Cs{fp:List Addr}{h:Heap}{b:Addr}{o:Obj}(hb:b∈fp)(e:h.get? b=some o):(b,o)∈Fw fp h:=List.mem_filterMap.mpr ⟨b,hb,by rw[e];rfl⟩
def S8{fp:List Addr}{h:Heap}{p:Addr×Obj}(hp:p∈Fw fp h):p.1∈fp/\h.get? p.1=some p.2:=by
 obtain⟨b,hb,e⟩:=List.mem_filterMap.mp hp;cases q:h.get? b with
 |none=>rw[q]at e;cases e
 |some o=>
  rw[q]at e;have e':(b,o)=p:=Option.some.inj e;subst e';exact⟨hb,q⟩
def Inv.pinned{pins:List 81}{σ:St}{H:Hp}{s:Shared}{fp:List Addr}(I:Inv X pins σ H s)(hf:∀b∈fp,FpOk X pins H b)(ho:∀b∈fp,∃o,s.heap.get? b=some o/\∀v,o.data≠.cell v):Inv X (pins++Fw fp s.heap) σ H s:=
 I.pins_of λp hp=>(mem_append.mp hp).elim (λz=>I.pin p (gn _ z)) λz=>by
  obtain⟨hb,e⟩:=S8 z;obtain⟨f0,f1,f2,_⟩:=hf p.1 hb;obtain⟨o,e',d⟩:=ho p.1 hb;rw[e]at e';cases e';exact⟨e,f0,f1,f2,d⟩
def Inv.unpinned{pins pl:List 81}{σ:St}{H:Hp}{s:Shared}(I:Inv X (pins++pl) σ H s):Inv X pins σ H s:=I.pins_of λp hp=>I.pin p (gn _ (i9 _ hp))
def Zh{iter:Expr}{body:List Stmt}{wi:TI}{g:TG}{tb:TS}{pos:Pos}(hp:PassesOwn 69 X.A X.env X.xe)(hc:X.calm=true)(hi:PI X tg iter wi)(hg:PG X tg g)(hb:PSs X body tb)
 (hs:∀x,foldedSetIterable iter X.env x=pure x:=by intro _;rfl):PS X (.For tg iter body [] pos) (TJ wi g tb):=by
 intro pins s σ H D I h;refine wpAny_For (thn (hi pins s σ H _ I h) λv s1 h1=>thn h1 λitv s2 h2=>?_) hs;obtain⟨it,fp,tn,J,H2,e,I2,T,st2,f2,W,⟨m0,w0⟩,turn⟩:=h2;subst e
 -- what stays true of the iterator's objects through the loop
 have stat:∀{H':Hp},(∀b∈fp,H' b=none)->∀b∈fp,FpOk X pins H' b:=λhn b hb=>⟨hn b hb,(f2 b hb).2⟩
 refine codeAny_forLoop_any (λn s'=>∃i σ' H',Inv X pins σ' H' s'/\tn i s'.heap/\(∀b∈fp,H' b=none)/\W i n σ' H') ?_ m0 ⟨0,σ,H2,I2,st2,λb hb=>(f2 b hb).1,w0⟩;rintro n s3 ⟨i,σ3,H3,I3,st3,fr3,w3⟩;rcases turn i n σ3 H3 w3 with⟨stop,qn⟩|⟨go,N,hN,step⟩
 .refine j6 hp (thn (T.done X rfl rfl rfl hc i pins s3 σ3 H3 X.xe I3 (stat fr3) st3 stop) λr s4 ⟨hr,I4⟩=>?_);subst hr;exact jf ⟨σ3,H3,I4,qn⟩
 .refine j6 hp (thn (T.item X rfl rfl rfl hc i pins s3 σ3 H3 X.xe I3 (stat fr3) st3 go) λr s4 ⟨u,hr,h4⟩=>?_);subst hr;refine j6 hp (thn h4 λ_ s5 ⟨x,H5,I5,r5,y5,st5,fr5⟩=>?_);have I5':=I5.pinned (stat fr5) (T.obj _ _ st5);refine j6 hp (thn (hg _ s5 σ3 H5 x u _ I5' r5 (step x H5 y5)) λ_ s6 ⟨σ6,H6,I6,q6⟩=>?_);refine j6 hp (thn (hb _ s6 σ6 H6 _ I6 q6) λf s7 q7=>?_);have again:∀{σ7:St} {H7:Hp},Inv X (pins++Fw fp s5.heap) σ7 H7 s7->N σ7 H7->∃m,m<n/\∃i σ' H',Inv X pins σ' H' s7/\tn i s7.heap/\(∀b∈fp,H' b=none)/\W i m σ' H':=λ{σ7 H7} I7 n7=>by
   obtain⟨m',hm,w7⟩:=hN σ7 H7 n7;refine⟨m',hm,i+1,σ7,H7,I7.unpinned,T.keep _ _ _ st5 λb hb o e=>(I7.pin (b,o) (gn _ (gn _ (Cs hb e)))).1,λb hb=>?_,w7⟩;obtain⟨o,e,d⟩:=T.obj _ _ st5 b hb;exact(I7.pin (b,o) (gn _ (gn _ (Cs hb e)))).2.1
  cases f with
  |next=>obtain⟨σ7,H7,I7,n7⟩:=q7;exact again I7 n7
  |cont=>obtain⟨σ7,H7,I7,n7⟩:=q7;exact again I7 n7
  |brk=>obtain⟨σ7,H7,I7,q7⟩:=q7;exact⟨σ7,H7,I7.unpinned,q7⟩
  |ret v=>obtain⟨x7,σ7,H7,I7,r7,q7⟩:=q7;exact⟨x7,σ7,H7,I7.unpinned,r7,q7⟩
end
noncomputable abbrev R2:=V->V->Hp->VK->Prop
def OpR(X:Cx)(f:Value->Value->Sem Value)(r:R2):Prop:=
 ∀(pins:List 81) (s:Shared) (σ:St) (H:Hp) (x y:V) (v u:Value) (Q:VK),Inv X pins σ H s->RelV x v->RelV y u->r x y H Q ->
   wpAny 69 X.A (f v u) (EP X pins σ Q) X.xe s
def UnR(X:Cx)(f:Value->Sem Value)(r:V->Hp->VK->Prop):Prop:=
 ∀(pins:List 81) (s:Shared) (σ:St) (H:Hp) (x:V) (v:Value) (Q:VK),Inv X pins σ H s->RelV x v->r x H Q ->
   wpAny 69 X.A (f v) (EP X pins σ Q) X.xe s
def CallR(X:Cx)(f:Value)(r:List V->Hp->VK->Prop):Prop:=
 ∀(pins:List 81) (s:Shared) (σ:St) (H:Hp) (xs:List V) (us:List Value) (Q:VK),Inv X pins σ H s->Vals xs us->r xs H Q ->
   wpAny 69 X.A (call f us) (EP X pins σ Q) X.xe s
def dj(X:Cx)(r:V->Hp->(Bool->Hp->Prop)->Prop):Prop:=
 ∀(pins:List 81) (s:Shared) (σ:St) (H:Hp) (x:V) (v:Value) (Q:Bool->Hp->Prop),Inv X pins σ H s->RelV x v->r x H Q ->
   wpAny 69 X.A (truthy v) (TP X pins σ Q) X.xe s
noncomputable def tOp(r:R2)(ta tb:TE):TE:=λσ H Q=>ta σ H λx H1=>tb σ H1 λy H2=>r x y H2 Q
noncomputable def tUn(r:V->Hp->VK->Prop)(ta:TE):TE:=λσ H Q=>ta σ H λx H1=>r x H1 Q
noncomputable def rI(C:Int->Int->Prop)(g:Int->Int->V):R2:=λx y H Q=>∃i j,x=.int i/\y=.int j/\C i j/\Q (g i j) H
noncomputable def rI0(g:Int->Int->V):R2:=λx y H Q=>∃i j,x=.int i/\y=.int j/\Q (g i j) H
def rU(g:Int->V):V->Hp->VK->Prop:=λx H Q=>∃i,x=.int i/\Q (g i) H
section
variable{X:Cx}{a b c:Expr}{ta tb tc:TE}{pos:Pos}
def Ux(ha:PE X a ta)(hb:PE X b tb){pins:List 81}{s:Shared}{σ:St}{H:Hp}{R:V->V->Hp->Prop}(I:Inv X pins σ H s)
 (h:ta σ H λx H1=>tb σ H1 λy H2=>R x y H2) {Q:Value->Shared->Prop} {f:Value->Value->Sem Value}
 (hf:∀v u s2 x y H2,Inv X pins σ H2 s2->RelV x v->RelV y u->R x y H2->wpAny 69 X.A (f v u) Q X.xe s2):
 wpAny 69 X.A (eval a X.env) (λv s₁=>wpAny 69 X.A (eval b X.env) (λu s₂=>wpAny 69 X.A (f v u) Q X.xe s₂) X.xe s₁) X.xe s:=by
 refine thn (ha pins s σ H _ I h) λv s1 ⟨x,H1,I1,r1,q1⟩=>?_;refine thn (hb pins s1 σ H1 _ I1 q1) λu s2 ⟨y,H2,I2,r2,q2⟩=>?_;exact hf v u s2 x y H2 I2 r1 r2 q2
def M3{op:Operator}{r:R2}(ho:OpR X (binaryOp op) r)(ha:PE X a ta)(hb:PE X b tb):PE X (.BinOp a op b pos) (tOp r ta tb):=by
 intro pins s σ H Q I h;exact wpAny_BinOp (Ux ha hb I h λv u s2 x y H2 I2 rx ry q=>ho pins s2 σ H2 x y v u Q I2 rx ry q)
def bq{op:UnaryOp}{r:V->Hp->VK->Prop}(ho:UnR X (unaryOp op) r)(ha:PE X a ta):PE X (.UnaryOp op a pos) (tUn r ta):=by
 intro pins s σ H Q I h;exact UnaryOp_ (thn (ha pins s σ H _ I h) λv s1 ⟨x,H1,I1,r1,q1⟩=>ho pins s1 σ H1 x v Q I1 r1 q1)
def opI{f:Value->Value->Sem Value}{C:Int->Int->Prop}{g:Int->Int->Int}
 (rule:∀(i j:Int) (t u:Tok) (s:Shared) (Q:Value->Shared->Prop) (E:Value->Shared->Prop),C i j->Q (.int (g i j) s.toks) { s with toks:=s.toks+1 }->wpAny 69 X.A (f (.int i t) (.int j u)) Q E s):
 OpR X f (rI C λi j=>.int (g i j)):=by
 intro pins s σ H x y v u Q I rx ry h;obtain⟨i,j,rfl,rfl,hc,q⟩:=h;obtain⟨t,rfl⟩:=rx;obtain⟨t',rfl⟩:=ry;exact rule i j t t' s _ _ hc ⟨.int (g i j),H,I.tok _,⟨_,rfl⟩,q⟩
def aH{f:Value->Value->Sem Value}{g:Int->Int->Int}
 (rule:∀(i j:Int) (t u:Tok) (s:Shared) (Q:Value->Shared->Prop) (E:Value->Shared->Prop),Q (.int (g i j) s.toks) { s with toks:=s.toks+1 }->wpAny 69 X.A (f (.int i t) (.int j u)) Q E s):
 OpR X f (rI0 λi j=>.int (g i j)):=by
 intro pins s σ H x y v u Q I rx ry h;obtain⟨i,j,rfl,rfl,q⟩:=h;obtain⟨t,rfl⟩:=rx;obtain⟨t',rfl⟩:=ry;exact rule i j t t' s _ _ ⟨.int (g i j),H,I.tok _,⟨_,rfl⟩,q⟩
def QC{f:Value->Value->Sem Value}{g:Int->Int->Bool}
 (rule:∀(i j:Int) (t u:Tok) (s:Shared) (Q:Value->Shared->Prop) (E:Value->Shared->Prop),Q (.bool (g i j)) s->wpAny 69 X.A (f (.int i t) (.int j u)) Q E s):
 OpR X f (rI0 λi j=>.bl (g i j)):=by
 intro pins s σ H x y v u Q I rx ry h;obtain⟨i,j,rfl,rfl,q⟩:=h;obtain⟨t,rfl⟩:=rx;obtain⟨t',rfl⟩:=ry;exact rule i j t t' s _ _ ⟨.bl (g i j),H,I,rfl,q⟩
def bE(i j:Int):Prop:=0<j/\j<1073741824
def bD(i j:Int):Prop:=0<=j/\j<=1000000/\i.natAbs<2^64
def CMul(i j:Int):Prop:=(-(2^64)<i/\i<2^64)∨(-(2^64)<j/\j<2^64)
def CMul.ok{i j:Int}(h:CMul i j):IntMulOk i j:=by
 rcases h with⟨h1,h2⟩|⟨h1,h2⟩
 .exact .of_left (intBits_le_64 h1 h2)
 .exact .of_right (intBits_le_64 h1 h2)
def S6:OpR X (binaryOp .Add) (rI0 λi j=>.int (i+j)):=aH λ_ _ _ _ _ _ _ q=>add_int q
def a8:OpR X (binaryOp .Sub) (rI0 λi j=>.int (i-j)):=aH λ_ _ _ _ _ _ _ q=>sub_int q
def aD:OpR X (binaryOp .Mult) (rI CMul λi j=>.int (i*j)):=opI λ_ _ _ _ _ _ _ hc q=>mul_int q hc.ok
def XU:OpR X (binaryOp .FloorDiv) (rI bE λi j=>.int (i/j)):=opI λi j _ _ _ _ _ hc q=>by
 have h1:(0:Int)<j:=hc.1;have h2:j<1073741824:=hc.2;exact floordiv_int 67 (by rw[Int.fdiv_eq_ediv_of_nonneg i 67];exact q) (.inl (PyProof.noPylong_small 67))
def aE:OpR X (binaryOp .Mod) (rI (λ_ j=>0<j) λi j=>.int (i%j)):=opI λi j _ _ _ _ _ hc q=>by
 have h1:(0:Int)<j:=hc;exact mod_int' 67 (by rw[Int.fmod_eq_emod_of_nonneg i 67];exact q)
def aA:OpR X (binaryOp .Pow) (rI bD λi j=>.int (i^j.toNat)):=opI λ_ _ _ _ _ _ _ hc q=>pow_int_small hc.1 hc.2.1 hc.2.2 q
def unI{f:Value->Sem Value}{g:Int->Int}
 (rule:∀(i:Int) (t:Tok) (s:Shared) (Q:Value->Shared->Prop) (E:Value->Shared->Prop),Q (.int (g i) s.toks) { s with toks:=s.toks+1 }->wpAny 69 X.A (f (.int i t)) Q E s):
 UnR X f (rU λi=>.int (g i)):=by
 intro pins s σ H x v Q I rx h;obtain⟨i,rfl,q⟩:=h;obtain⟨t,rfl⟩:=rx;exact rule i t s _ _ ⟨.int (g i),H,I.tok _,⟨_,rfl⟩,q⟩
def YK:UnR X (unaryOp .USub) (rU λi=>.int (-i)):=unI λ_ _ _ _ _ q=>neg_int q
end
noncomputable def MZ:V->V->Bool
 |.non,.non=>true|.non,.int _=>true|.int _,.non=>true|.non,.bl _=>true|.bl _,.non=>true|.non,.str _=>true|.str _,.non=>true
 |.int _,.int _=>true|.bl _,.bl _=>true|.str _,.str _=>true|.byt _,.byt _=>true
 |.int _,.str _=>true|.str _,.int _=>true|.bl _,.str _=>true|.str _,.bl _=>true
 |_,_=>false
noncomputable def rEq:R2:=λx y H Q=>MZ x y=true/\Q (.bl (decide (x=y))) H
noncomputable def rNe:R2:=λx y H Q=>MZ x y=true/\Q (.bl (!decide (x=y))) H
def P6{i j:Int}:decide (V.int i=V.int j)=(i==j):=by
 rw[Bool.eq_iff_iff];simp
def Sd{i j:Bool}:decide (V.bl i=V.bl j)=(i==j):=by
 rw[Bool.eq_iff_iff];simp
def P5{i j:Str}:decide (V.str i=V.str j)=(i==j):=by
 rw[Bool.eq_iff_iff];simp
def P7{i j:Array UInt8}:decide (V.byt i=V.byt j)=(i.toList==j.toList):=by
 rw[Bool.eq_iff_iff];cases i;cases j;simp
section
variable{X:Cx}{a b c:Expr}{ta tb tc:TE}{pos:Pos}
def Ag{pins:List 81}{σ:St}{H:Hp}{s:Shared}{Q:VK}{k k':Bool}(I:Inv X pins σ H s)(q:Q (.bl k) H)(e:k=k'):EP X pins σ Q (.bool k') s:=by
 subst e;exact⟨.bl k,H,I,rfl,q⟩
def VO:OpR X (compareOp .Eq) rEq:=by
 intro pins s σ H x y v u Q I rx ry h;obtain⟨hs,q⟩:=h;cases x with
 |non=>
  cases rx;cases y with
  |non=>cases ry;exact PySem.EqNone.eq_none_none (Ag I q 77)
  |bl j=>cases ry;exact PySem.EqNone.eq_none_bool (Ag I q 77)
  |int j=>obtain⟨t',rfl⟩:=ry;exact PySem.EqNone.eq_none_int (Ag I q 77)
  |str j=>obtain⟨t',rfl⟩:=ry;exact PySem.EqNone.eq_none_str (Ag I q 77)
  |_=>exact absurd (show false=true from hs) Bool.false_ne_true
 |bl i=>
  cases rx;cases y with
  |non=>cases ry;exact PySem.EqNone.eq_bool_none (Ag I q 77)
  |bl j=>cases ry;exact eq_bool (Ag I q Sd)
  |str j=>obtain⟨t',rfl⟩:=ry;exact PySem.EqMixed.eq_bool_str (Ag I q 77)
  |_=>exact absurd (show false=true from hs) Bool.false_ne_true
 |int i=>
  obtain⟨t,rfl⟩:=rx;cases y with
  |non=>cases ry;exact PySem.EqNone.eq_int_none (Ag I q 77)
  |int j=>obtain⟨t',rfl⟩:=ry;exact eq_int (Ag I q P6)
  |str j=>obtain⟨t',rfl⟩:=ry;exact PySem.EqMixed.eq_int_str (Ag I q 77)
  |_=>exact absurd (show false=true from hs) Bool.false_ne_true
 |str i=>
  obtain⟨t,rfl⟩:=rx;cases y with
  |non=>cases ry;exact PySem.EqNone.eq_str_none (Ag I q 77)
  |bl j=>cases ry;exact PySem.EqMixed.eq_str_bool (Ag I q 77)
  |int j=>obtain⟨t',rfl⟩:=ry;exact PySem.EqMixed.eq_str_int (Ag I q 77)
  |str j=>obtain⟨t',rfl⟩:=ry;exact eq_str (Ag I q P5)
  |_=>exact absurd (show false=true from hs) Bool.false_ne_true
 |byt i=>
  obtain⟨t,rfl⟩:=rx;cases y with
  |byt j=>obtain⟨t',rfl⟩:=ry;exact PySem.W.eq_bytes (Ag I q P7)
  |_=>exact absurd (show false=true from hs) Bool.false_ne_true
 |_=>cases y<;>exact absurd (show false=true from hs) Bool.false_ne_true
def VM:OpR X (compareOp .NotEq) rNe:=by
 intro pins s σ H x y v u Q I rx ry h;obtain⟨hs,q⟩:=h;cases x with
 |non=>
  cases rx;cases y with
  |non=>cases ry;exact PySem.EqNone.ne_none_none (Ag I q 77)
  |bl j=>cases ry;exact PySem.EqNone.ne_none_bool (Ag I q 77)
  |int j=>obtain⟨t',rfl⟩:=ry;exact PySem.EqNone.ne_none_int (Ag I q 77)
  |str j=>obtain⟨t',rfl⟩:=ry;exact PySem.EqNone.ne_none_str (Ag I q 77)
  |_=>exact absurd (show false=true from hs) Bool.false_ne_true
 |bl i=>
  cases rx;cases y with
  |non=>cases ry;exact PySem.EqNone.ne_bool_none (Ag I q 77)
  |bl j=>cases ry;exact ne_bool (Ag I q (i3 not Sd))
  |str j=>obtain⟨t',rfl⟩:=ry;exact PySem.EqMixed.ne_bool_str (Ag I q 77)
  |_=>exact absurd (show false=true from hs) Bool.false_ne_true
 |int i=>
  obtain⟨t,rfl⟩:=rx;cases y with
  |non=>cases ry;exact PySem.EqNone.ne_int_none (Ag I q 77)
  |int j=>obtain⟨t',rfl⟩:=ry;exact ne_int (Ag I q (i3 not P6))
  |str j=>obtain⟨t',rfl⟩:=ry;exact PySem.EqMixed.ne_int_str (Ag I q 77)
  |_=>exact absurd (show false=true from hs) Bool.false_ne_true
 |str i=>
  obtain⟨t,rfl⟩:=rx;cases y with
  |non=>cases ry;exact PySem.EqNone.ne_str_none (Ag I q 77)
  |bl j=>cases ry;exact PySem.EqMixed.ne_str_bool (Ag I q 77)
  |int j=>obtain⟨t',rfl⟩:=ry;exact PySem.EqMixed.ne_str_int (Ag I q 77)
  |str j=>obtain⟨t',rfl⟩:=ry;exact ne_str (Ag I q (i3 not P5))
  |_=>exact absurd (show false=true from hs) Bool.false_ne_true
 |byt i=>
  obtain⟨t,rfl⟩:=rx;cases y with
  |byt j=>obtain⟨t',rfl⟩:=ry;exact PySem.W.ne_bytes (Ag I q (i3 not P7))
  |_=>exact absurd (show false=true from hs) Bool.false_ne_true
 |_=>cases y<;>exact absurd (show false=true from hs) Bool.false_ne_true
def c8:OpR X (compareOp .Lt) (rI0 λi j=>.bl (decide (i<j))):=QC λ_ _ _ _ _ _ _ q=>lt_int q
def VN:OpR X (compareOp .LtE) (rI0 λi j=>.bl (decide (i<=j))):=QC λ_ _ _ _ _ _ _ q=>le_int q
def c9:OpR X (compareOp .Gt) (rI0 λi j=>.bl (decide (j<i))):=QC λ_ _ _ _ _ _ _ q=>gt_int q
def cA:OpR X (compareOp .GtE) (rI0 λi j=>.bl (decide (j<=i))):=QC λ_ _ _ _ _ _ _ q=>ge_int q
def OpR.or{f:Value->Value->Sem Value}{r r':R2}(h:OpR X f r)(h':OpR X f r'):OpR X f (λx y H Q=>r x y H Q∨r' x y H Q):=by
 intro pins s σ H x y v u Q I rx ry q;rcases q with q|q
 .exact h pins s σ H x y v u Q I rx ry q
 .exact h' pins s σ H x y v u Q I rx ry q
def N5(b:Expr){op:CmpOp}(h:op≠.In:=by decide)(h2:op≠.NotIn:=by decide):behindInMarks op b=false:=by
 have e1:(op==CmpOp.In)=false:=by cases op<;>first|rfl|exact absurd rfl h
 have e2:(op==CmpOp.NotIn)=false:=by cases op<;>first|rfl|exact absurd rfl h2
 cases b<;>simp[behindInMarks,e1,e2]
def XR{op:CmpOp}{r:R2}(ho:OpR X (compareOp op) r)(ha:PE X a ta)(hb:PE X b tb)(hm:behindInMarks op b=false):PE X (.Compare a [op] [b] pos) (tOp r ta tb):=by
 intro pins s σ H Q I h;exact wpAny_Compare1 (Ux ha hb I h λv u s2 x y H2 I2 rx ry q=>ho pins s2 σ H2 x y v u Q I2 rx ry q) hm
noncomputable def Lv(t:TE):TT:=λσ H Q=>t σ H λx H'=>∃k,x=.bl k/\Q k H'
def Ol{op:CmpOp}{r:R2}(ho:OpR X (compareOp op) r)(ha:PE X a ta)(hb:PE X b tb)(hm:behindInMarks op b=false):PT X (.Compare a [op] [b] pos) (Lv (tOp r ta tb)):=by
 intro pins s σ H Q I h;refine wpAny_isTrue_Compare1 (thn (ha pins s σ H _ I h) λv s1 ⟨x,H1,I1,r1,q1⟩=>thn (hb pins s1 σ H1 _ I1 q1) λu s2 ⟨y,H2,I2,r2,q2⟩=>
  thn (ho pins s2 σ H2 x y v u _ I2 r1 r2 q2) λc s3 ⟨z,H3,I3,r3,k,e,q3⟩=>?_) hm
 subst e;cases r3;exact iI ⟨H3,I3,q3⟩
def Nt(K:Frag)(x:V)(H:Hp)(k:Bool):Prop:=
 match x with
 |.non=>k=false
 |.bl b=>k=b
 |.int i=>k=(i != 0)
 |.str y=>y.length<=sizeLine/\k=((y.length:Int) != 0)
 |.byt y=>y.size<=sizeLine/\k=((y.size:Int) != 0)
 |.ref p=>(∃xs,SqL K H p xs/\k=!xs.isEmpty)∨(∃xs,SqT K H p xs/\k=!xs.isEmpty)∨∃kvs,H p=some (.dK kvs)/\k=!kvs.isEmpty
 |_=>False
def QU{κ:Type}{kvs:List (κ×V)}{vs:List (κ×Value)}(r:KV kvs vs):(!vs.isEmpty)=!kvs.isEmpty:=by
 cases r<;>rfl
def Ji{xs:List V}{its:List Value}(r:Vals xs its):(!its.toArray.isEmpty)=!xs.isEmpty:=by
 cases r<;>simp
def G5:(sizeLine:Nat)<2^63:=by rw[gY];decide
def YN:dj X (λx H Q=>∃k,Nt X.K x H k/\Q k H):=by
 intro pins s σ H x v Q I rx h;obtain⟨k,e,q⟩:=h;have hl:=G5;have hs:sizeLine=16777216:=gY;cases x with
 |non=>
  cases rx;have e':k=false:=e;subst e';exact truthy_none ⟨H,I,q⟩
 |bl b=>
  cases rx;have e':k=b:=e;subst e';exact iI ⟨H,I,q⟩
 |int i=>
  obtain⟨t,rfl⟩:=rx;have e':k=(i != 0):=e;subst e';exact PySem.P.truthy_int ⟨H,I,q⟩
 |str y=>
  obtain⟨t,rfl⟩:=rx;obtain⟨hy,e'⟩:y.length<=sizeLine/\k=((y.length:Int) != 0):=e;subst e';exact PySem.P.truthy_str 67 ⟨H,I.tok _,q⟩
 |byt y=>
  obtain⟨t,rfl⟩:=rx;obtain⟨hy,e'⟩:y.size<=sizeLine/\k=((y.size:Int) != 0):=e;subst e';exact PySem.W.truthy_bytes 67 ⟨H,I.tok _,q⟩
 |ref p=>
  cases rx;have e':(∃xs,SqL X.K H p xs/\k=!xs.isEmpty)∨(∃xs,SqT X.K H p xs/\k=!xs.isEmpty)∨∃kvs,H p=some (.dK kvs)/\k=!kvs.isEmpty:=e;rcases e' with⟨xs,hx,e'⟩|⟨xs,hx,e'⟩|⟨kvs,hx,e'⟩
  .subst e';obtain⟨its,r,pl,hz⟩:=I.list hx;have hlen:=r.length;exact wpAny_truthy_list pl.isList (by simp only[gu];omega) ⟨H,I.tok _,by rw[Ji r];exact q⟩
  .subst e';obtain⟨its,r,pl,hz⟩:=I.tuple hx;have hlen:=r.length;exact truthy_tuple pl (by simp only[gu];omega) ⟨H,I.tok _,by rw[Ji r];exact q⟩
  .subst e';obtain⟨hz,hS,vs,r,m⟩:kvs.length<=sizeLine/\(p==sysModules)=false/\∃vs,KV kvs vs/\s.heap.DictOf (BH X.prog X.w) p vs:=I.hok p _ hx;have hlen:kvs.length=vs.length:=Paired.length r;exact wpAny_truthy_dict hS m 67 ⟨H,I.tok _,by rw[QU r];exact q⟩
 |_=>exact(show False from e).elim
def UB(ha:PE X a ta)(he:∀whole,isTrue a X.env whole=(do let v <- whole;standAt a.pos;holding [v] (truthy v))):
 PT X a (λσ H Q=>ta σ H λx H'=>∃k,Nt X.K x H' k/\Q k H'):=by
 intro pins s σ H Q I h;exact isTrue_plain (thn (ha pins s σ H _ I h) λv s1 ⟨x,H1,I1,r1,q1⟩=>YN pins s1 σ H1 x v Q I1 r1 q1) (he _)
def Bi{x:V}{us:List Value}(r:Vals [x] us):∃u,us=[u]/\RelV x u:=by
 cases r with
 |cons r1 r2=>cases r2;exact⟨_,rfl,r1⟩
def PH{x y:V}{us:List Value}(r:Vals [x,y] us):∃u w',us=[u,w']/\RelV x u/\RelV y w':=by
 cases r with
 |cons r1 r2=>
  cases r2 with
  |cons r3 r4=>cases r4;exact⟨_,_,rfl,r1,r3⟩
def Si(hc:X.calm=true):CallR X (.builtin "max") (λxs H Q=>∃i j,xs=[.int i,.int j]/\Q (.int (if j>i then j else i)) H):=by
 intro pins s σ H xs us Q I r h;obtain⟨i,j,rfl,q⟩:=h;obtain⟨u,w',rfl,⟨t,rfl⟩,⟨t',rfl⟩⟩:=PH r;refine max_two_ints (I.ok.hd hc) λh' tk k=>⟨_,H,I.kept k,?_,q⟩
 by_cases hj:j>i
 .rw[gc hj,gc hj];exact⟨_,rfl⟩
 .rw[gf hj,gf hj];exact⟨_,rfl⟩
end
def RelO.some_of{v:V}{o:Option Value}(r:RelO (some v) o):∃u,o=some u/\RelV v u:=by
 cases o with
 |none=>exact(show False from r).elim
 |some u=>exact⟨u,rfl,r⟩
structure Room(k:Nat)(A:Around):Prop where
 hd:A.handled=none
 dp:A.depth+3*k+5<recursionLimit
 un:A.units+16*k+200<cLine
 gd:A.guards=some []
def Room.mono{j k:Nat}{A:Around}(r:Room k A)(h:j<=k):Room j A:=⟨r.hd,by have:=r.dp;omega,by have:=r.un;omega,r.gd⟩
theorem Room.deeper{k:Nat}{A:Around}(r:Room (k+1) A)(env:Env):Room k (A.deeper env):=
 ⟨r.hd,by have:=r.dp;show A.depth+1+3*k+5<_;omega,by have:=r.un;show A.units+3+16*k+200<_;omega,by first|exact r.gd|(simpa [Around.deeper,Around.under,Code.guards,Code.isGuard,pushGuards]using r.gd)⟩
theorem Room.in1{k:Nat}{A:Around}(r:Room (k+1) A):Room k A.in1:=
 ⟨r.hd,by have:=r.dp;show A.depth+3*k+5<_;omega,by have:=r.un;show A.units+1+16*k+200<_;omega,r.gd⟩
theorem Room.depth{k:Nat}{A:Around}(r:Room k A):A.depth<recursionLimit:=by have:=r.dp;omega
theorem Room.units{k:Nat}{A:Around}(r:Room k A):A.units+64<cLine:=by have:=r.un;omega
def Room.units0{k:Nat}{A:Around}(r:Room k A):A.units<cLine:=by have:=r.un;omega
noncomputable def BZ:TA:=λ_ H Q=>Q [] H
noncomputable def Ax(ta:TE)(tr:TA):TA:=λσ H Q=>ta σ H λx H1=>tr σ H1 λxs H2=>Q (x::xs) H2
section
variable{X:Cx}{e:Expr}{es:List Expr}{te:TE}{t:TA}{pos:Pos}
def C1:PA X [] BZ:=λ_ _ _ _ H Q I h=>Calls.spliced_nil ⟨[],H,I,.nil,h⟩
def BQ(ha:PE X e te)(hr:PA X es t)(hs:starEach (e::es) X.env=90::starEach es X.env:=by rfl):PA X (e::es) (Ax te t):=by
 intro pos pins s σ H Q I h;rw[hs];show wpAny _ _ (spliced (90::backTo pos (starEach es X.env))) _ _ s;refine Calls.spliced_cons (thn (ha pins s σ H _ I h) λu s1 ⟨x,H1,I1,r1,q1⟩=>?_);exact thn (hr pos pins s1 σ H1 _ I1 q1) λus s2 ⟨xs,H2,I2,r2,q2⟩=>⟨x::xs,H2,I2,.cons r1 r2,q2⟩
noncomputable def T7(t:TA):TE:=λσ H Q=>t σ H λxs H1=>xs.length<=sizeLine/\∀p,H1 p=none->Q (.ref p) (upd H1 p (.tup xs))
noncomputable def TD(t:TA):TE:=λσ H Q=>t σ H λxs H1=>xs.length<=sizeLine/\∀p,H1 p=none->Q (.ref p) (upd H1 p (.lst xs))
def Zp{x1}(h:PA X es t):PE X (.Tuple es x1 pos) (T7 t):=by
 intro pins s σ H Q I hq;refine wpAny_Tuple_spliced (thn (h pos pins s σ H _ I hq) λus s1 ⟨xs,H1,I1,r,z,q⟩=>⟨by rw[<- r.length];exact z,?_⟩);have hf:H1 s1.heap.objs.size=none:=I1.hok.fresh (gg _);refine⟨.ref s1.heap.objs.size,upd H1 s1.heap.objs.size (.tup xs),I1.laid (t':=s1.toks) (λb u e=>73 _ e) (gg _) ?_,rfl,q _ hf⟩;exact⟨z,us,r,⟨_,89 _ rfl,rfl,⟨_,rfl⟩,rfl⟩⟩
def Zv(h:PA X es t):PE X (.List es pos) (TD t):=by
 intro pins s σ H Q I hq;refine wpAny_List_spliced (thn (h pos pins s σ H _ I hq) λus s1 ⟨xs,H1,I1,r,z,q⟩=>⟨by rw[<- r.length];exact z,?_⟩);have hf:H1 s1.heap.objs.size=none:=I1.hok.fresh (gg _);refine⟨.ref s1.heap.objs.size,upd H1 s1.heap.objs.size (.lst xs),I1.laid (t':=s1.toks) (λb u e=>73 _ e) (gg _) ?_,rfl,q _ hf⟩;exact⟨z,us,0,r,89 _ rfl⟩
end
noncomputable abbrev Sp:=List V->Hp->VK->XK->Prop
noncomputable abbrev CXT:=List Env->Hp->Shared->XK->Value->Shared->Prop
structure Env0(P:Program)(w:World)(K:Frag)(mg:Str->Option Value)(base:Heap)(A:Around)(outer:List Env)(s:Shared)(H:Hp):Prop where
 frames:A.frames=some outer
 mod:Mod K mg base
 bs:∀b o,base.get? b=some o->s.heap.get? b=some o/\H b=none
 bsz:base.objs.size<=66
 funs:s.heap.FunFrames base outer
 frf:∀b∈frs outer,H b=none
 hok:HOk P w H s.heap
 bare:AllBare s.gens
def CE(outer:List Env)(P:Program)(w:World)(H:Hp)(s:Shared)(Q:VK)(u:Value)(s':Shared):Prop:=
 ∃v H',s'.os=s.os/\AllBare s'.gens/\Un (frs outer) [] H H' s.heap s'.heap/\HOk P w H' s'.heap/\RelV v u/\Q v H'
def CR(CX:CXT)(outer:List Env)(P:Program)(w:World)(H:Hp)(s:Shared)(Q:VK)(E:XK)(r:Result)(s':Shared):Prop:=
 match r with
 |.ok (.ret u)=>CE outer P w H s Q u s'
 |.ok _=>False
 |.error e=>CX outer H s E e s'
structure FnOk(P:Program)(w:World)(K:Frag)(mg:Str->Option Value)(base:Heap)(CX:CXT)(k:Nat)(f:Addr)(fd:FuncData)(ps:List Str)(sp:Sp):Prop where
 len:∀vs H Q E,sp vs H Q E->vs.length=ps.length
 run:∀(A:Around) (outer:List Env) (s:Shared) (H:Hp) (args:Args) (us:List Value) (vs:List V) (Q:VK) (E:XK),Room k A->Env0 P w K mg base A outer s H->BindsTo s fd args (ps.zip us)->Vals vs us->sp vs H Q E ->
  codeAny (model P w) A (.call (.ref f) args) (CR CX outer P w H s Q E) s
theorem FnOk.mono{P:Program}{w:World}{K:Frag}{mg:Str->Option Value}{base:Heap}{CX:CXT}{j k:Nat}{f:Addr}{fd:FuncData}{ps:List Str}{sp:Sp}(F:FnOk P w K mg base CX j f fd ps sp)(h:j<=k):
 FnOk P w K mg base CX k f fd ps sp:=⟨F.len,λA outer s H args us vs Q E hr=>F.run A outer s H args us vs Q E (hr.mono h)⟩
section
variable{X:Cx}{pins:List 81}{σ:St}{H:Hp}{s s':Shared}
def Inv.env0(I:Inv X pins σ H s):Env0 X.prog X.w X.K X.mg X.base X.A X.stack s H:=
 ⟨I.ok.frames,I.ok.mod,I.bs,gQ I.ok.bsz I.sz,I.stack,I.stkFree,I.hok,I.bare⟩
def Inv.after{Q:VK}{u:Value}(I:Inv X pins σ H s)(h:CE X.stack X.prog X.w H s Q u s'):EP X pins σ Q u s':=by
 obtain⟨v,H',os,bare,un,hok,r,q⟩:=h;obtain⟨hh,g,d,t,os'⟩:=s';obtain rfl:os'=s.os:=os;exact⟨v,H',I.call (h':=hh) (g':=g) (d':=d) (t':=t) (ch:=[]) un hok bare (λb z=>absurd z 77),r,q⟩
end
noncomputable def FI(sp:Sp)(dvs:List V)(E:XK)(t:TA):TE:=λσ H Q=>t σ H λvs H1=>sp (vs++dvs) H1 Q E
def Binds(K:Frag)(fd:FuncData)(ps:List Str)(ds:List Value):Prop:=
 ∀(s:Shared) (us:List Value),K.In s.heap->(us++ds).length=ps.length->BindsTo s fd ⟨us,[]⟩ (ps.zip (us++ds))
def Binds.all{K:Frag}{fd:FuncData}{ps:List Str}(h:∀us:List Value,us.length=ps.length->bindArgs fd ⟨us,[]⟩=pure (ps.zip us)):Binds K fd ps []:=λs us _ hl=>by
 rw[i4]at hl ⊢;exact .of_eq (h us hl)
def Nw(CX:CXT)(X:Cx)(E:XK):Prop:=∀(pins:List 81) (σ:St) (H:Hp) (s:Shared) (e:Value) (s':Shared),Inv X pins σ H s->CX X.stack H s E e s'->X.xe e s'
section
variable{X:Cx}{CX:CXT}{k:Nat}{f C:Addr}{fd:FuncData}{ps:List Str}{sp:Sp}{dvs:List V}{ds:List Value}{E:XK}{x m:Str}{p pos apos:Pos}{e o:Expr}{es:List Expr}{ta:TE}{t:TA}
def YW{pins:List 81}{σ:St}{H:Hp}{s:Shared}{Q:VK}{us:List Value}{vs:List V}(F:FnOk X.prog X.w X.K X.mg X.base CX k f fd ps sp)(hr:Room k X.A)(hb:Binds X.K fd ps ds)(hd:Vals dvs ds)(hx:Nw CX X E)
 (I:Inv X pins σ H s) (r:Vals vs us) (h:sp (vs++dvs) H Q E):wpAny 69 X.A (call (.ref f) us) (EP X pins σ Q) X.xe s:=by
 have r2:Vals (vs++dvs) (us++ds):=r.append hd;have hl:(us++ds).length=ps.length:=by rw[<- r2.length];exact F.len _ _ _ _ h
 refine wpAny_call (iU (F.run X.A X.stack s H ⟨us,[]⟩ (us++ds) (vs++dvs) Q E hr I.env0 (hb s us I.kIn hl) r2 h) λr s' hq=>?_);cases r with
 |error e=>exact hx pins σ H s e s' I hq
 |ok fl=>
  cases fl with
  |ret u=>exact I.after hq
  |next=>exact False.elim hq
  |brk=>exact False.elim hq
  |cont=>exact False.elim hq
def XS(F:FnOk X.prog X.w X.K X.mg X.base CX k f fd ps sp)(hr:Room k X.A)(hg:Gl X x)(hm:X.mg x=some (.ref f))(hk:keepIn X.K (.ref f)=true)(hb:Binds X.K fd ps ds)(hd:Vals dvs ds)(hx:Nw CX X E)
 (ha:PA X (e::es) t) (hdb:(x==("__debug__":Str))=false:=by decide) (he:starEach (e::es) X.env=90::starEach es X.env:=by rfl) (hpl:(backTo pos (starEach es X.env)).any (·.1)=false:=by rfl):
 PE X (.Call (.Name x p) (e::es) [] pos) (FI sp dvs E t):=by
 intro pins s σ H Q I h;refine iN (Xj I hg hm ?_ hdb);refine PySem.W.callWith_K (h₀:=X.base) I.ok.mod.kin hk (thn (ha pos pins s σ H _ I h) λus s1 ⟨vs,H1,I1,r,q⟩=>⟨I1.kIn,?_⟩) he hpl;exact YW F hr hb hd hx I1 r q
end
structure FnScope(N P:List Str)(sc:Scope):Prop where
 kind:sc.kind=.function
 co:sc.isCoroutine=false
 gen:sc.isGenerator=false
 nd:N.Nodup
 pre:N.take P.length=P
 par:∀x∈P,sc.names.lookup x=some .local∨sc.names.lookup x=some .cell
 nofree:∀y∈sc.names,y.2≠.free
theorem LS{kindOf:Str->Option NameKind}{x:Str}:∀{binds:List (Str×Value)} {m:Str->Option Value},(∀v,(x,v)∉binds)->bindL kindOf binds m x=m x
 |[],_,_=>rfl
 |(n,v)::r,m,h=>by
   unfold bindL;rw[LS λw hw=>h w (gi _ hw)];split
   .have:x≠n:=by rintro rfl;exact h v gp
    simp[this]
   .rfl
theorem LV{kindOf:Str->Option NameKind}{x:Str}:∀{binds:List (Str×Value)} {m:Str->Option Value},(∀v,(x,v)∉binds)->bindC kindOf binds m x=m x
 |[],_,_=>rfl
 |(n,v)::r,m,h=>by
   unfold bindC;rw[LV λw hw=>h w (gi _ hw)];split
   .rfl
   .have:x≠n:=by rintro rfl;exact h v gp
    simp[this]
theorem LU{kindOf:Str->Option NameKind}{x:Str}{v:Value}:∀{P:List Str} {vs:List Value} {i:Nat} {m:Str->Option Value},P.Nodup->P[i]?=some x->vs[i]?=some v->kindOf x=some .local ->
 bindL kindOf (P.zip vs) m x=some v
 |[],_,_,_,_,h,_,_=>by simp at h
 |_::_,[],_,_,_,_,h,_=>by simp at h
 |p::P,w::vs,0,m,nd,h1,h2,hk=>by
  simp at h1 h2;subst h1;subst h2;show bindL kindOf ((p,w)::P.zip vs) m p=_;unfold bindL;rw[LS λv hv=>(nodup_cons.mp nd).1 (of_mem_zip hv).1,gc hk];simp
 |p::P,w::vs,i+1,m,nd,h1,h2,hk=>by
  show bindL kindOf ((p,w)::P.zip vs) m x=_;unfold bindL;exact LU (i:=i) (nodup_cons.mp nd).2 (by simpa using h1) (by simpa using h2) hk
theorem LW{kindOf:Str->Option NameKind}{x:Str}{v:Value}:∀{P:List Str} {vs:List Value} {i:Nat} {m:Str->Option Value},P.Nodup->P[i]?=some x->vs[i]?=some v->kindOf x≠some .local ->
 bindC kindOf (P.zip vs) m x=some v
 |[],_,_,_,_,h,_,_=>by simp at h
 |_::_,[],_,_,_,_,h,_=>by simp at h
 |p::P,w::vs,0,m,nd,h1,h2,hk=>by
  simp at h1 h2;subst h1;subst h2;show bindC kindOf ((p,w)::P.zip vs) m p=_;unfold bindC;rw[LV λv hv=>(nodup_cons.mp nd).1 (of_mem_zip hv).1,gf hk];simp
 |p::P,w::vs,i+1,m,nd,h1,h2,hk=>by
  show bindC kindOf ((p,w)::P.zip vs) m x=_;unfold bindC;exact LW (i:=i) (nodup_cons.mp nd).2 (by simpa using h1) (by simpa using h2) hk
noncomputable def start(N:List Str)(vs:List V):St:=vs.map some++96 (N.length-vs.length) none
noncomputable def Fp(CX:CXT)(P:Program)(w:World)(K:Frag)(mg:Str->Option Value)(base:Heap)(N:List Str)(qual:Str)(scope:Scope)(f:Addr)(cd:Value)(A:Around)(outer:List Env)(s:Shared)(H:Hp)(E:XK):Cx where
 prog:=P
 w:=w
 K:=K
 mg:=mg
 base:=base
 A:=A.deeper (envOfC qual scope 66 f cd)
 N:=N
 s₀:=s
 H₀:=H
 env:=envOfC qual scope 66 f cd
 outer:=outer
 stack:=envOfC qual scope 66 f cd::outer
 ex:=[]
 calm:=true
 fn:=λ_=>true
 pn:=[]
 xe:=λe s'=>wpAny (model P w) (A.deeper (envOfC qual scope 66 f cd)) (leaving (envOfC qual scope 66 f cd) e) (λ_ s''=>CX outer H s E e s'') (λe' s''=>CX outer H s E e' s'') s'
def Ni{sc:Scope}{n:Nat}{x:Str}(h:sc.names.lookup x=some .cell):∃c,(cellsFrom n sc.names []).lookup x=some c:=by
 have q:=PySem.W.cellsFrom_some sc.names n [] (.inl h);exact isSome_iff_exists.mp q
def SO{CX:CXT}{P:Program}{w:World}{K:Frag}{mg:Str->Option Value}{base:Heap}{N ps:List Str}{qual:Str}{scope:Scope}{f:Addr}{cd:Value}{A:Around}{outer:List Env}{s s1:Shared}{H:Hp}{E:XK}{us:List Value}{vs:List V}
 (S:FnScope N ps scope) (hd:A.handled=none) (e0:Env0 P w K mg base A outer s H) (hl:vs.length=ps.length) (r:Vals vs us)
 (x:InCallC s 66 (bindL (envOfC qual scope 66 f cd).kindOf (ps.zip us) λ_=>none) (cellsFrom (66+1) scope.names []) (bindC (envOfC qual scope 66 f cd).kindOf (ps.zip us) λ_=>none) s1):
 Inv (Fp CX P w K mg base N qual scope f cd A outer s H E) [] (start N vs) H s1:=by
 have hpl:ps.length<=N.length:=by have:=i3 List.length S.pre;rw[i6]at this;omega
 obtain⟨h1,tk,rfl,hk⟩:=x.done;have noA:∀b:Addr,b∉(Fp CX P w K mg base N qual scope f cd A outer s H E).ex:=λb z=>absurd (show b∈([]:List Addr)from z) 77;refine⟨⟨e0.mod,S.kind,rfl,rfl,gg _,λy z c h1 h2=>?_,λy hy=>?_,λy c _ h=>?_,λ_=>hd,Around.frames_deeper e0.frames,.inr ⟨rfl,rfl⟩,λb z=>absurd z (noA b),e0.bs,e0.bsz,λb _ _=>noA b,λb z=>absurd z (noA b),e0.funs,e0.frf⟩,
  rfl,e0.bare,Un.kept hk,⟨_,x.toInCall.ns,λi y v h1 h2 h3=>?_⟩,λy c h=>⟨_,x.cell y c h⟩,e0.hok.fresh (gg _),λy c h=>?_,λp hp=>absurd (show p∈([]:List 81)from hp) 77,e0.hok.kept hk,?_⟩
 .exact name_of_addr x.apart (PySem.mem_of_lookup h1) (PySem.mem_of_lookup h2)
 .have hy:scope.names.lookup y=some .cell∨scope.names.lookup y=some .free:=hy;rcases hy with hy|hy
  .exact Ni hy
  .exact absurd rfl (S.nofree _ (PySem.mem_of_lookup hy))
 .exact il (x.above y c (PySem.mem_of_lookup h))
 .have hi:i<vs.length:=by
   unfold start at h2;by_cases hi:i<vs.length
   .exact hi
   .rw[List.getElem?_append_right (by simpa using hi)]at h2;rw[List.getElem?_replicate]at h2;split at h2<;>cases h2
  have ha:vs[i]?=some v:=by
   unfold start at h2;rw[List.getElem?_append_left (by simpa using hi),List.getElem?_map]at h2;cases e:vs[i]? with
   |none=>rw[e]at h2;cases h2
   |some a=>rw[e]at h2;cases h2;rfl
  obtain⟨u,hu,rv⟩:=r.get ha;have hp:ps[i]?=some y:=by
   rw[<- S.pre,List.getElem?_take_of_lt 67];exact h1
  have ndP:ps.Nodup:=by rw[<- S.pre];exact S.nd.sublist (List.take_sublist _ _)
  refine⟨u,rv,?_⟩;rcases S.par y (gJ hp)with k|k
  .exact .inl ⟨k,LU ndP hp hu k⟩
  .obtain⟨c,e⟩:=Ni (n:=66+1) k;refine .inr ⟨.inl k,c,e,?_⟩;have q:=x.cell y c e;rw[LW ndP hp hu (by show scope.names.lookup y≠_;rw[k];decide)]at q;exact q
 .exact e0.hok.fresh (il (x.above y c (PySem.mem_of_lookup h)))
 .unfold start;show _=N.length;rw[ie,gy,List.length_replicate];omega
def VS{CX:CXT}{P:Program}{w:World}{K:Frag}{mg:Str->Option Value}{base:Heap}{k:Nat}{f:Addr}{name qual:Str}{params:Arguments}{body:List Stmt}{scope:Scope}{dV kV doc pm cdv ct oc:Value}{an od:Option Addr}
 {osl:Array (Option Value)} {N ps:List Str} {sp:Sp} (lk:K.lookup f=some ⟨oc,od,.func (fnOf name qual params body scope dV kV doc pm an cdv ct),osl⟩) (hcd:codeIn K cdv qual=true) (S:FnScope N ps scope)
 (len:∀vs H Q E,sp vs H Q E->vs.length=ps.length)
 (hbody:∀(A:Around) (outer:List Env) (s:Shared) (H:Hp) (vs:List V) (Q:VK) (E:XK),Room k (A.deeper (envOfC qual scope 66 f cdv))->sp vs H Q E ->
  ∃t,PSs (Fp CX P w K mg base N qual scope f cdv A outer s H E) body t/\t { nx:=λ_ H'=>Q .non H',rt:=Q } (start N vs) H):
 FnOk P w K mg base CX (k+1) f (fnOf name qual params body scope dV kV doc pm an cdv ct) ps sp:=by
 refine⟨len,λA outer s H args us vs Q E hr e0 hb r hsp=>?_⟩;have hl:=len _ _ _ _ hsp;have KX:K.In s.heap:=e0.mod.kin.keeps λb o e=>(e0.bs b o e).1;have lim:s.heap.NoLimit:=e0.mod.nolimit.keeps λb o e=>(e0.bs b o e).1;have hkind:∀y∈ps.zip us,scope.names.lookup y.1=some .local∨(scope.names.lookup y.1=some .cell/\((cellsFrom (66+1) scope.names []).lookup y.1).isSome=true):=λ⟨n,v⟩ hy=>by
  rcases S.par n (of_mem_zip hy).1 with q|q
  .exact .inl q
  .exact .inr ⟨q,PySem.W.cellsFrom_some _ _ _ (.inl q)⟩
 refine codeAny_call_function hr.depth (KX _ _ lk) rfl S.co S.gen rfl (PySem.W.codeRec_of KX hcd) (hb _ _ _ _ ?_);refine wpAny_newFunctionEnv_cells S.kind hkind λenv he s1 x=>?_;subst he;refine⟨lim.keeps x.toInCall.keep,codeAny_func ?_⟩;obtain⟨t,ht,hq⟩:=hbody A outer s H vs Q E (hr.deeper _) hsp;have I:Inv (Fp CX P w K mg base N qual scope f cdv A outer s H E) [] (start N vs) H s1:=SO S hr.hd e0 hl r x;refine gz (ht [] s1 (start N vs) H _ I hq) (λfl s' hs=>?_) λe s' hs=>hs;have fin:∀{σ':St} {H':Hp} {v:V} {u:Value},Inv (Fp CX P w K mg base N qual scope f cdv A outer s H E) [] σ' H' s'->RelV v u->Q v H'->CE outer P w H s Q u s':=
  λ{σ' H' v u} J rv q=>⟨v,H',J.os,J.bare,J.base,J.hok,rv,q⟩
 cases fl with
 |ret u=>
  obtain⟨v,σ',H',J,rv,q⟩:=hs;exact fin J rv q
 |next=>
  obtain⟨σ',H',J,q⟩:=hs;exact fin (v:=V.non) (u:=Value.none) J rfl q
 |brk=>
  obtain⟨_,_,_,q⟩:=hs;exact False.elim q
 |cont=>
  obtain⟨_,_,_,q⟩:=hs;exact False.elim q
section
variable{X:Cx}{x:Str}{p pos:Pos}{e:Expr}{es:List Expr}{t:TA}{id T:String}{r:List V->Hp->VK->Prop}
noncomputable def tCB(r:List V->Hp->VK->Prop)(t:TA):TE:=λσ H Q=>t σ H λvs H1=>r vs H1 Q
def F2(hc:CallR X (.builtin id) r)(hg:Gl X x)(hm:X.mg x=none)(hv:bootBuiltins x=some (.builtin id))(ha:PA X (e::es) t)(hn:x≠"__name__":=by decide)(hdb:(x==("__debug__":Str))=false:=by decide)
 (he:starEach (e::es) X.env=90::starEach es X.env:=by rfl) (hpl:(backTo pos (starEach es X.env)).any (·.1)=false:=by rfl):PE X (.Call (.Name x p) (e::es) [] pos) (tCB r t):=by
 intro pins s σ H Q I h;refine iN (CT I hg hm hv ?_ hn hdb);exact PyProof.Rows.callWith_builtin1 (thn (ha pos pins s σ H _ I h) λus s1 ⟨vs,H1,I1,r1,q1⟩=>hc pins s1 σ H1 vs us Q I1 r1 q1) he hpl
def DQ(hc:CallR X (.type T) r)(hg:Gl X x)(hm:X.mg x=none)(hv:bootBuiltins x=some (.type T))(ha:PA X (e::es) t)(hn:x≠"__name__":=by decide)(hdb:(x==("__debug__":Str))=false:=by decide)
 (he:starEach (e::es) X.env=90::starEach es X.env:=by rfl) (hpl:(backTo pos (starEach es X.env)).any (·.1)=false:=by rfl):PE X (.Call (.Name x p) (e::es) [] pos) (tCB r t):=by
 intro pins s σ H Q I h;refine iN (CT I hg hm hv ?_ hn hdb);exact PyProof.Rows.callWith_type1 (thn (ha pos pins s σ H _ I h) λus s1 ⟨vs,H1,I1,r1,q1⟩=>hc pins s1 σ H1 vs us Q I1 r1 q1) he hpl
end
end L2
namespace HT
open PySem PyProof.Rows
section
variable{prog:Program}{w:World}{A:Around}{E:Value->Shared->Prop}{s:Shared}
def cat_tup{t b:Addr}{vs ws:List Value}{Q:Value->Shared->Prop}(ht:IsTup s.heap t 102)(hb:IsTup s.heap b ws.toArray)(hv:vs≠[])
 (h1:ws=[]->Q (.ref t) s) (h2:ws≠[]->Q (.ref 66) { s with heap:=s.heap.push { cls:=.type "tuple",data:=.seq (vs++ws).toArray } })
 (hsz:vs.length+68<=sizeLine):wpAny 97 A (binaryOp .Add (.ref t) (.ref b)) Q E s:=by
 obtain⟨⟨cls,dd,data,sl⟩,ho,hc,n,hd⟩:=id ht;obtain⟨⟨cls2,dd2,data2,sl2⟩,ho2,hc2,n2,hd2⟩:=id hb;simp only at hc hd hc2 hd2;subst hc hd hc2 hd2;have e:102++ws.toArray=(vs++ws).toArray:=by simp
 by_cases hw:ws=[]
 .exact concat_meets ⟨_,ho,rfl⟩ ⟨_,ho2,rfl⟩ noFill_tuple_add seq_tuple_add PySem.F.slot_tuple_add PySem.F.entry_tuple_add (PySem.F.args_tuple_add_2 _ _)
   (tuple_addW1 t b 102 ws.toArray n n2 dd dd2 sl sl2 (by simpa using hv) (by simp[hw])) ⟨ho,ho2,h1 hw⟩
 .refine concat_meets ⟨_,ho,rfl⟩ ⟨_,ho2,rfl⟩ noFill_tuple_add seq_tuple_add PySem.F.slot_tuple_add PySem.F.entry_tuple_add (PySem.F.args_tuple_add_2 _ _)
   (tuple_addW2 t b 102 ws.toArray n n2 dd dd2 sl sl2 (by simpa using hv) (by simpa using hw) (by rw[gu,gu];exact hsz)) ⟨ho,ho2,?_⟩
  rw[e];exact h2 hw
noncomputable def sIx(n d:Nat):Option Int->Nat
 |none=>d
 |some v=>if v<0 then(v+(n:Int)).toNat else min v.toNat n
def sIx_none(n d:Nat):sIx n d none=d:=rfl
def sIx_nat(n d k:Nat):sIx n d (some (k:Int))=min k n:=by
 show(if(k:Int)<0 then((k:Int)+(n:Int)).toNat else min (k:Int).toNat n)=min k n;rw[gf 67,gV]
end
end HT
namespace L2
open PySem PySem.Spec PyProof.Rows
noncomputable abbrev TO:=St->Hp->(Option Int->Hp->Prop)->Prop
def PO(X:Cx)(e:Option Expr)(t:TO):Prop:=
 ∀(pins:List 81) (s:Shared) (σ:St) (H:Hp) (Q:Option Int->Hp->Prop),Inv X pins σ H s->t σ H Q ->
   wpAny 69 X.A (evalPart e X.env) (λu s'=>∃o H',Inv X pins σ H' s'/\IsPart u o/\Q o H') X.xe s
noncomputable def K3:TO:=λ_ H Q=>Q none H
noncomputable def PR(t:TE):TO:=λσ H Q=>t σ H λx H1=>∃i,x=.int i/\Q (some i) H1
section
variable{X:Cx}{e:Expr}{te:TE}{lo hi:Option Expr}{tl th:TO}{pos p2:Pos}
def X9:PO X none K3:=by
 intro pins s σ H Q I h;rw[evalPart_none];exact gh ⟨none,H,I,.none,h⟩
def X8(h:PE X e te):PO X (some e) (PR te):=by
 intro pins s σ H Q I hw;rw[evalPart_some];refine thn (h pins s σ H _ I hw) λu s1 ⟨x,H1,I1,r1,q1⟩=>?_;obtain⟨i,rfl,q⟩:=q1;obtain⟨t,rfl⟩:=r1;exact⟨some i,H1,I1,.int i t,q⟩
def SlR(X:Cx)(r:V->Option Int->Option Int->Hp->VK->Prop):Prop:=
 ∀(pins:List 81) (s:Shared) (σ:St) (H:Hp) (x:V) (v vl vu:Value) (lo hi:Option Int) (sl:Addr) (Q:VK),Inv X pins σ H s->RelV x v->s.heap.IsSliceOf sl vl vu .none->IsPart vl lo->IsPart vu hi->r x lo hi H Q ->
   ∃T id,typeLookup (.type T) "__getitem__"=pure (some (.builtin id))/\s.TypeIs v T/\wpAny 69 X.A (getItem v (.ref sl)) (EP X pins σ Q) X.xe s
noncomputable def tSl(r:V->Option Int->Option Int->Hp->VK->Prop)(te:TE)(tl th:TO):TE:=λσ H Q=>te σ H λx H1=>tl σ H1 λl H2=>th σ H2 λu H3=>r x l u H3 Q
def UM{r:V->Option Int->Option Int->Hp->VK->Prop}(hr:SlR X r)(he:PE X e te)(hl:PO X lo tl)(hu:PO X hi th):PE X (.Subscript e (.Slice lo hi none p2) pos) (tSl r te tl th):=by
 intro pins s σ H Q I h;refine Subscript_ (thn (he pins s σ H _ I h) λv s1 ⟨x,H1,I1,r1,q1⟩=>?_);refine wpAny_Slice (thn (hl pins s1 σ H1 _ I1 q1) λvl s2 ⟨l,H2,I2,pl,q2⟩=>thn (hu pins s2 σ H2 _ I2 q2) λvu s3 ⟨u,H3,I3,pu,q3⟩=>?_);rw[evalPart_none];refine gh ?_;have I4:Inv X pins σ H3 { s3 with heap:=s3.heap.push { cls:=.type "slice",data:=.fields #[vl,vu,.none] } }:=I3.kept (t':=s3.toks) λb ob q=>73 _ q;obtain⟨T,id,hT,ht,hg⟩:=hr pins { s3 with heap:=s3.heap.push { cls:=.type "slice",data:=.fields #[vl,vu,.none] } } σ H3 x v vl vu l u s3.heap.objs.size Q I4 r1 (Heap.IsSliceOf.new ..) pl pu q3;show wpAny 69 X.A (subscriptTail e (.Slice lo hi none p2) v (.ref s3.heap.objs.size)) (EP X pins σ Q) X.xe { s3 with heap:=s3.heap.push { cls:=.type "slice",data:=.fields #[vl,vu,.none] } };exact tail_any (ops:=[.ref s3.heap.objs.size,v]) ht hT hg (by with_unfolding_all rfl)
noncomputable def J8(xs:List V)(lo hi:Option Int):List V:=(xs.drop (HT.sIx xs.length 0 lo)).take (HT.sIx xs.length xs.length hi-HT.sIx xs.length 0 lo)
def OI(xs:List V)(lo hi:Option Int):(J8 xs lo hi).length<=xs.length:=by
 unfold J8;rw[i6,List.length_drop];omega
noncomputable def Q2(K:Frag):R2:=λx y H Q=>∃a b xs ys,x=.ref a/\y=.ref b/\SqT K H a xs/\SqT K H b ys/\xs≠[]/\xs.length+ys.length<=sizeLine /\
 (ys=[]->Q (.ref a) H)/\(ys≠[]->∀p,H p=none->Q (.ref p) (upd H p (.tup (xs++ys))))
def Vals.nil_iff{xs:List V}{us:List Value}(r:Vals xs us):us=[]↔xs=[]:=by
 cases r with
 |nil=>simp
 |cons _ _=>simp
def XV:OpR X (binaryOp .Add) (Q2 X.K):=by
 intro pins s σ H x y v u Q I rx ry h;obtain⟨a,b,xs,ys,rfl,rfl,ha,hb,hx,hz,q1,q2⟩:=h;cases rx;cases ry;obtain⟨its,r1,p1,_⟩:=I.tuple ha;obtain⟨its2,r2,p2,_⟩:=I.tuple hb;refine HT.cat_tup p1 p2 (λz=>hx (r1.nil_iff.mp z)) (λz=>⟨.ref a,H,I,rfl,q1 (r2.nil_iff.mp z)⟩) (λz=>?_) (by rw[<- r1.length,<- r2.length];exact hz);refine⟨.ref 66,_,I.laid (t':=s.toks) (o:=.tup (xs++ys)) (λb ob q=>73 _ q) (gg _) ?_,rfl,q2 (λw=>z (r2.nil_iff.mpr w)) _ (I.hok.fresh (gg _))⟩;exact⟨by rw[ie];exact hz,_,r1.append r2,IsTupD.new _ _⟩
end
noncomputable def ixN(n:Nat)(i:Int):Option Nat:=if 0<=i then(if i<n then some i.toNat else none)else if -(n:Int)<=i then some (i+n).toNat else none
noncomputable def atI{α:Type}(xs:List α)(i:Int):Option α:=(ixN xs.length i).bind λj=>xs[j]?
def KO{n:Nat}{i:Int}{j:Nat}(h:ixN n i=some j):seqIndex? i n=some j/\j<n/\-(n:Int)<=i/\i<n:=by
 unfold ixN at h;by_cases h0:0<=i
 .rw[gc h0]at h;by_cases h1:i<n
  .rw[gc h1]at h;have e:i.toNat=j:=Option.some.inj h;exact⟨by rw[seqIndex_of h0 h1,e],by omega,by omega,h1⟩
  .rw[gf h1]at h;cases h
 .rw[gf h0]at h;by_cases h1:-(n:Int)<=i
  .rw[gc h1]at h;have e:(i+n).toNat=j:=Option.some.inj h;exact⟨by rw[seqIndex_neg 67 h1,e],by omega,h1,by omega⟩
  .rw[gf h1]at h;cases h
def Kh{α:Type}{xs:List α}{i:Int}{v:α}(h:atI xs i=some v):∃j,seqIndex? i xs.length=some j/\xs[j]?=some v/\j<xs.length/\-(xs.length:Int)<=i/\i<xs.length:=by
 unfold atI at h;cases e:ixN xs.length i with
 |none=>rw[e]at h;cases h
 |some j=>
  rw[e]at h;obtain⟨h1,h2,h3,h4⟩:=KO e;exact⟨j,h1,h,h2,h3,h4⟩
def Cu{α:Type}{xs:List α}{j:Nat}{v:α}(h:xs[j]?=some v):atI xs (j:Int)=some v:=by
 have hj:j<xs.length:=(78 h).1;have e:ixN xs.length (j:Int)=some j:=by
  unfold ixN;rw[gc 67,gc 67];simp
 unfold atI;rw[e];exact h
def JC{α:Type}(xs:List α)(v:α):atI (xs++[v]) (-1)=some v:=by
 have hl:(xs++[v]).length=xs.length+1:=by simp
 have e:ixN (xs++[v]).length (-1)=some xs.length:=by
  unfold ixN;rw[hl,gf 98,gc 67]
  congr 1
  omega
 unfold atI;rw[e];show(xs++[v])[xs.length]?=some v;simp
def Kj(b:Expr):Prop:=∀o i,subscripted b false o i=operate [o,i] (getItem o i)
def IxR(X:Cx)(r:R2):Prop:=
 ∀(value slice:Expr) (pins:List 81) (s:Shared) (σ:St) (H:Hp) (x y:V) (v u:Value) (Q:VK),Inv X pins σ H s->RelV x v->RelV y u->r x y H Q ->
   subscripted slice false v u=operate [v,u] (getItem v u)->wpAny 69 X.A (subscriptTail value slice v u) (EP X pins σ Q) X.xe s
def MtR(X:Cx)(id:String)(r:V->List V->Hp->VK->Prop):Prop:=
 ∀(pins:List 81) (s:Shared) (σ:St) (H:Hp) (x:V) (xs:List V) (v:Value) (us:List Value) (Q:VK),Inv X pins σ H s->RelV x v->Vals xs us->r x xs H Q ->
   wpAny 69 X.A (call (.builtin id) (v::us)) (EP X pins σ Q) X.xe s
section
variable{X:Cx}{a b:Expr}{ta tb:TE}{pos:Pos}
def IxR.or{r r':R2}(h:IxR X r)(h':IxR X r'):IxR X (λx y H Q=>r x y H Q∨r' x y H Q):=by
 intro value slice pins s σ H x y v u Q I rx ry q hs;rcases q with q|q
 .exact h value slice pins s σ H x y v u Q I rx ry q hs
 .exact h' value slice pins s σ H x y v u Q I rx ry q hs
def VI{r:R2}(hr:IxR X r)(ha:PE X a ta)(hb:PE X b tb)(hs:Kj b):PE X (.Subscript a b pos) (tOp r ta tb):=by
 intro pins s σ H Q I h;exact Subscript_ (Ux ha hb I h λv u s2 x y H2 I2 rx ry q=>hr a b pins s2 σ H2 x y v u Q I2 rx ry q (hs _ _))
noncomputable def KF(K:Frag):R2:=λx y H Q=>∃p xs i v,x=.ref p/\y=.int i/\SqL K H p xs/\atI xs i=some v/\Q v H
noncomputable def Tr(K:Frag):R2:=λx y H Q=>∃p xs i v,x=.ref p/\y=.int i/\SqT K H p xs/\atI xs i=some v/\Q v H
def Xo:IxR X (KF X.K):=by
 intro value slice pins s σ H x y v u Q I rx ry h hs;obtain⟨p,xs,i,z,rfl,rfl,hq,he,q⟩:=h;cases rx;obtain⟨t,rfl⟩:=ry;obtain⟨its,r,pl,hz⟩:=I.list hq;obtain⟨j,h1,h2,h3,h4,h5⟩:=Kh he;obtain⟨w,ew,rw'⟩:=r.get h2;have hl:=r.length;have hn:=G5;have fin:EP X pins σ Q w s:=⟨z,H,I,rw',q⟩
 by_cases h0:0<=i
 .have hj:i.toNat=j:=by
   rw[seqIndex_of h0 h5]at h1;exact Option.some.inj h1
  exact item_listR pl.isList h0 67 (by rw[hj];simpa using ew) fin hs
 .have hj:(i+(its.toArray.size:Int)).toNat=j:=by
   rw[seqIndex_neg 67 h4]at h1;rw[gu,<- hl];exact Option.some.inj h1
  exact subscriptTail_builtinR (x:=w) pl.isList.typeIs slot_list_getitem.lookup
   (wpAny_getItem_list_neg (Q:=λr s'=>r=w/\EP X pins σ Q r s') pl.isList 67 (by rw[gu]<;>omega) 67 (by rw[hj];simpa using ew) ⟨rfl,fin⟩) hs
def aU:IxR X (Tr X.K):=by
 intro value slice pins s σ H x y v u Q I rx ry h hs;obtain⟨p,xs,i,z,rfl,rfl,hq,he,q⟩:=h;cases rx;obtain⟨t,rfl⟩:=ry;obtain⟨its,r,pl,hz⟩:=I.tuple hq;obtain⟨j,h1,h2,h3,h4,h5⟩:=Kh he;obtain⟨w,ew,rw'⟩:=r.get h2;have hl:=r.length;have hn:=G5;have fin:EP X pins σ Q w s:=⟨z,H,I,rw',q⟩
 exact subscriptTail_builtinR (x:=w) pl.typeIs slot_tuple_getitem.lookup
  (getItem_tuple (j:=j) (Q:=λr s'=>r=w/\EP X pins σ Q r s') pl 67 67 (by rw[gu,<- hl];exact h1) (by simpa using ew) ⟨rfl,fin⟩) hs
def QH(its:List Value)(n j:Nat)(u:Value):Obj.mapSeq (·.setIfInBounds j u) { cls:=.type "list",data:=.seq its.toArray n }={ cls:=.type "list",data:=.seq (its.set j u).toArray n }:=by
 simp[Obj.mapSeq]
theorem Inv.lst{pins:List 81}{σ:St}{H:Hp}{s:Shared}{p:Addr}{xs:List V}(I:Inv X pins σ H s)(h:H p=some (.lst xs)):
 ∃(its:List Value) (n:Nat),Vals xs its/\s.heap.get? p=some { cls:=.type "list",data:=.seq its.toArray n }/\xs.length<=sizeLine:=by
 obtain⟨z,its,n,r,e⟩:=I.hok p _ h;exact⟨its,n,r,e,z⟩
def Inv.lstUpd{pins:List 81}{σ:St}{H:Hp}{s:Shared}{p:Addr}{xs ys:List V}{its its':List Value}{n n':Nat}{f:Obj->Obj}(I:Inv X pins σ H s)(h:H p=some (.lst xs))
 (ho:s.heap.get? p=some { cls:=.type "list",data:=.seq its.toArray n }) (hf:f { cls:=.type "list",data:=.seq its.toArray n }={ cls:=.type "list",data:=.seq its'.toArray n' }) (r:Vals ys its') (hz:ys.length<=sizeLine) (t:Nat):
 Inv X pins σ (upd H p (.lst ys)) { s with heap:=s.heap.update p f,toks:=t }:=by
 have e:(s.heap.update p f).get? p=some { cls:=.type "list",data:=.seq its'.toArray n' }:=by
  rw[Heap.get?_update_self f ho (by rw[hf]<;>rfl),hf]
 refine I.write (x:=p) (e:=p) (by rw[h];trivial) (.inl rfl) (λb u hb q=>(Heap.get?_update_other _ _ (Ne.symm hb)).trans q) ⟨_,e⟩ ?_;exact⟨hz,its',n',r,e⟩
def JW:V->V->V->Hp->(Hp->Prop)->Prop:=λo i v H Q=>∃p xs k j,o=.ref p/\i=.int k/\H p=some (.lst xs)/\ixN xs.length k=some j/\Q (upd H p (.lst (xs.set j v)))
def MY:V0 X JW:=by
 intro pins s σ H o i v ov iv u Q I ro ri rv h;obtain⟨p,xs,k,j,rfl,rfl,hp,hj,q⟩:=h;cases ro;obtain⟨t,rfl⟩:=ri;obtain⟨its,n,r,ho,hz⟩:=I.lst hp;obtain⟨h1,h2,h3,h4⟩:=KO hj;have hl:=r.length;have hn:=G5;have I':Inv X pins σ (upd H p (.lst (xs.set j v))) { s with heap:=s.heap.update p (Obj.mapSeq (·.setIfInBounds j u)) }:=
  I.lstUpd hp ho (QH its n j u) (r.set rv j) (by rw[List.length_set];exact hz) s.toks
 by_cases h0:0<=k
 .have hk:k.toNat=j:=by
   rw[seqIndex_of h0 h4]at h1;exact Option.some.inj h1
  exact PySem.W.ki_setAt ho h0 67 (by rw[gu,<- hl];exact h4) (by rw[hk];exact⟨_,I',q⟩)
 .have hk:(k+(its.toArray.size:Int)).toNat=j:=by
   rw[seqIndex_neg 67 h3]at h1;rw[gu,<- hl];exact Option.some.inj h1
  exact PySem.W.ki_setBack ho 67 (by rw[gu,<- hl];exact h3) 67 (by rw[hk];exact⟨_,I',q⟩)
def MV(lo hi:Option Int)(n:Nat):(sliceBounds lo hi none n).1=((HT.sIx n 0 lo:Nat):Int)/\(sliceBounds lo hi none n).2.1=((HT.sIx n n hi:Nat):Int)/\(sliceBounds lo hi none n).2.2=1:=by
 refine⟨?_,?_,rfl⟩
 .cases lo with
  |none=>simp[sliceBounds,HT.sIx]
  |some i=>
   simp only[sliceBounds,HT.sIx,Option.getD_none,show(1:Int)>0 by decide,gw];by_cases h:i<0
   .simp only[h,gw]<;>omega
   .simp only[h,gT]<;>omega
 .cases hi with
  |none=>simp[sliceBounds,HT.sIx]
  |some i=>
   simp only[sliceBounds,HT.sIx,Option.getD_none,show(1:Int)>0 by decide,gw];by_cases h:i<0
   .simp only[h,gw]<;>omega
   .simp only[h,gT]<;>omega
def LY(its:List Value)(lo hi:Option Int):slicePick its.toArray lo hi none=((its.drop (HT.sIx its.length 0 lo)).take (HT.sIx its.length its.length hi-HT.sIx its.length 0 lo)).toArray:=by
 obtain⟨h1,h2,h3⟩:=MV lo hi its.toArray.size;unfold slicePick;rw[h1,h2,h3];simp only[sliceRange_one,pick_run,gu]<;>rfl
def Pz(K:Frag):V->Option Int->Option Int->Hp->VK->Prop:=λx lo hi H Q=>∃a xs,x=.ref a/\SqL K H a xs/\∀p,H p=none->Q (.ref p) (upd H p (.lst (J8 xs lo hi)))
def Vn:SlR X (Pz X.K):=by
 intro pins s σ H x v vl vu lo hi sl Q I rx hs pl pu h;obtain⟨a,xs,rfl,hx,q⟩:=h;cases rx;obtain⟨its,r,ht,hz⟩:=I.list hx;have hlen:=r.length;refine⟨"list",_,slot_list_getitem.lookup,ht.isList.typeIs,?_⟩;refine wpAny_getItem_list_slice ht.isList hs pl pu .none 77 ?_ (by rw[gu]<;>omega);rw[LY,<- hlen];refine⟨.ref 66,_,I.laid (t':=s.toks) (o:=.lst (J8 xs lo hi)) (λb ob q=>73 _ q) (gg _) ?_,rfl,q _ (I.hok.fresh (gg _))⟩;exact⟨gQ (OI xs lo hi) hz,_,0,(r.drop (HT.sIx xs.length 0 lo)).take (HT.sIx xs.length xs.length hi-HT.sIx xs.length 0 lo),89 _ rfl⟩
noncomputable def EG:V->Bool
 |.non=>true
 |.bl _=>true
 |.int _=>true
 |.str _=>true
 |_=>false
noncomputable def eqV:V->V->Bool
 |.non,.non=>true
 |.bl a,.bl b=>a==b
 |.bl a,.int b=>(if a then 1 else 0)==b
 |.int a,.bl b=>a==(if b then 1 else 0)
 |.int a,.int b=>a==b
 |.str a,.str b=>a==b
 |_,_=>false
def ax{A:Around}{s:Shared}{y x:V}{u v:Value}(ry:RelV y u)(rx:RelV x v)(fy:EG y=true)(fx:EG x=true):SeqAt.EqAt A s u v (eqV y x):=by
 cases y with
 |non=>
  cases ry;cases x with
  |non=>cases rx;exact SeqAt.EqAt.same _
  |bl b=>cases rx;exact SeqAt.EqAt.none_bool b
  |int b=>obtain⟨t,rfl⟩:=rx;exact SeqAt.EqAt.none_int b t
  |str b=>obtain⟨t,rfl⟩:=rx;exact SeqAt.EqAt.none_str b t
  |_=>exact absurd (show false=true from fx) Bool.false_ne_true
 |bl a=>
  cases ry;cases x with
  |non=>cases rx;exact SeqAt.EqAt.bool_none a
  |bl b=>cases rx;exact SeqAt.EqAt.bool_bool a b
  |int b=>obtain⟨t,rfl⟩:=rx;exact SeqAt.EqAt.bool_int a b t
  |str b=>obtain⟨t,rfl⟩:=rx;exact SeqAt.EqAt.bool_str a b t
  |_=>exact absurd (show false=true from fx) Bool.false_ne_true
 |int a=>
  obtain⟨t',rfl⟩:=ry;cases x with
  |non=>cases rx;exact SeqAt.EqAt.int_none a t'
  |bl b=>cases rx;exact SeqAt.EqAt.int_bool a t' b
  |int b=>obtain⟨t,rfl⟩:=rx;exact SeqAt.EqAt.int_int a t' b t
  |str b=>obtain⟨t,rfl⟩:=rx;exact SeqAt.EqAt.int_str a t' b t
  |_=>exact absurd (show false=true from fx) Bool.false_ne_true
 |str a=>
  obtain⟨t',rfl⟩:=ry;cases x with
  |non=>cases rx;exact SeqAt.EqAt.str_none a t'
  |bl b=>cases rx;exact SeqAt.EqAt.str_bool a t' b
  |int b=>obtain⟨t,rfl⟩:=rx;exact SeqAt.EqAt.str_int a t' b t
  |str b=>obtain⟨t,rfl⟩:=rx;exact SeqAt.EqAt.str_str a t' b t
  |_=>exact absurd (show false=true from fx) Bool.false_ne_true
 |_=>exact absurd (show false=true from fy) Bool.false_ne_true
noncomputable def eqU(x:V)(u:Value):Bool:=match u with
 |.none=>eqV .non x
 |.bool b=>eqV (.bl b) x
 |.int i _=>eqV (.int i) x
 |.str z _=>eqV (.str z) x
 |_=>false
def SY{x y:V}{u:Value}(r:RelV y u)(f:EG y=true):eqU x u=eqV y x:=by
 cases y with
 |non=>cases r;rfl
 |bl b=>cases r;rfl
 |int i=>obtain⟨t,rfl⟩:=r;rfl
 |str z=>obtain⟨t,rfl⟩:=r;rfl
 |_=>exact absurd (show false=true from f) Bool.false_ne_true
theorem Ki{x:V}:∀{xs:List V} {us:List Value},Vals xs us->xs.all EG=true->us.any (eqU x)=xs.any λy=>eqV y x
 |_,_,.nil,_=>rfl
 |y::xs,u::us,.cons r t,f=>by
  rw[List.all_cons,Bool.and_eq_true]at f;rw[any_cons,any_cons,SY r f.1,Ki t f.2]
theorem Io{A:Around}{s:Shared}{x:V}{v:Value}(rx:RelV x v)(fx:EG x=true):∀{xs:List V} {us:List Value},Vals xs us->xs.all EG=true->∀u∈us,SeqAt.EqAt A s u v (eqU x u)
 |_,_,.nil,_=>λu hu=>by cases hu
 |y::xs,u::us,.cons r t,f=>λu' hu=>by
  rw[List.all_cons,Bool.and_eq_true]at f;rcases mem_cons.mp hu with rfl|hu
  .rw[SY r f.1];exact ax r rx f.1 fx
  .exact Io rx fx t f.2 u' hu
noncomputable def inV(x:V)(xs:List V):Bool:=xs.any λy=>eqV y x
noncomputable def rIn(K:Frag)(neg:Bool):R2:=λx y H Q=>∃p xs,y=.ref p/\(SqL K H p xs∨SqT K H p xs)/\EG x=true/\xs.all EG=true/\Q (.bl (if neg then !inV x xs else inV x xs)) H
def N1:OpR X (compareOp .NotIn) (rIn X.K true):=by
 intro pins s σ H x y v u Q I rx ry h;obtain⟨p,xs,rfl,hq,fx,fs,q⟩:=h;cases ry;rcases hq with hq|hq
 .obtain⟨its,r,pl,hz⟩:=I.list hq;refine SeqAt.notIn_listAt (eqU x) pl.isList (λw hw=>Io rx fx r fs w (by simpa using hw)) ⟨.bl _,H,I,rfl,?_⟩;rw[show its.toArray.any (eqU x)=its.any (eqU x) by simp,Ki r fs];exact q
 .obtain⟨its,r,pl,hz⟩:=I.tuple hq;refine SeqAt.notIn_tupleAt (eqU x) pl (λw hw=>Io rx fx r fs w (by simpa using hw)) ⟨.bl _,H,I,rfl,?_⟩;rw[show its.toArray.any (eqU x)=its.any (eqU x) by simp,Ki r fs];exact q
def Nn:CallR X (.builtin "len") (λxs H Q=>∃p ys,xs=[.ref p]/\(SqL X.K H p ys∨SqT X.K H p ys)/\Q (.int ys.length) H):=by
 intro pins s σ H xs us Q I r h;obtain⟨p,ys,rfl,hq,q⟩:=h;obtain⟨u,rfl,rx⟩:=Bi r;cases rx;have hn:=G5;rcases hq with hq|hq
 .obtain⟨its,r',pl,hz⟩:=I.list hq;have hlen:=r'.length;exact Calls.call_len_list pl.isList (by simp only[gu]<;>omega) ⟨.int ys.length,H,I.tok _,⟨s.toks+1,by rw[gu,hlen]⟩,q⟩
 .obtain⟨its,r',pl,hz⟩:=I.tuple hq;have hlen:=r'.length;exact len_tuple pl (by simp only[gu]<;>omega) ⟨.int ys.length,H,I.tok _,⟨s.toks+1,by rw[gu,hlen]⟩,q⟩
def CallR.or{f:Value}{r r':List V->Hp->VK->Prop}(h:CallR X f r)(h':CallR X f r'):CallR X f (λxs H Q=>r xs H Q∨r' xs H Q):=by
 intro pins s σ H xs us Q I rs q;rcases q with q|q
 .exact h pins s σ H xs us Q I rs q
 .exact h' pins s σ H xs us Q I rs q
def Nm:CallR X (.type "list") (λxs H Q=>∃p ys,xs=[.ref p]/\(SqL X.K H p ys∨SqT X.K H p ys)/\∀l,H l=none->Q (.ref l) (upd H l (.lst ys))):=by
 intro pins s σ H xs us Q I r h;obtain⟨p,ys,rfl,hq,q⟩:=h;obtain⟨u,rfl,rx⟩:=Bi r;cases rx;have fin:∀(its:List Value),Vals ys its->ys.length<=sizeLine->∀(h':Heap) (c':Nat),(∀b o',s.heap.get? b=some o'->h'.get? b=some o') ->
  h'.get? 66=some { cls:=.type "list",dict:=none,data:=.seq its.toArray c',slots:=#[] }->EP X pins σ Q (.ref 66) { s with heap:=h' }:=λits r' hz h' c' kp e=>
  ⟨.ref 66,_,I.laid (t':=s.toks) kp (gg _) (show ObjOk X.prog X.w _ h' _ (.lst ys)from⟨hz,its,c',r',e⟩),rfl,q _ (I.hok.fresh (gg _))⟩
 rcases hq with hq|hq
 .obtain⟨its,r',pl,hz⟩:=I.list hq;have hlen:=r'.length;obtain⟨o,ho,hc,n,hd⟩:=pl.isList;exact call_list_seq p (.inl rfl) ho hc hd (λh' c' kp e=>fin its r' hz h' c' kp e) (by simp only[gu]<;>omega)
 .obtain⟨its,r',pl,hz⟩:=I.tuple hq;have hlen:=r'.length;obtain⟨o,ho,hc,n,hd⟩:=pl;exact call_list_seq p (.inr rfl) ho hc hd (λh' c' kp e=>fin its r' hz h' c' kp e) (by simp only[gu]<;>omega)
def Ll:CallR X (.type "tuple") (λxs H Q=>∃p ys,xs=[.ref p]/\((SqL X.K H p ys/\∀l,H l=none->Q (.ref l) (upd H l (.tup ys)))∨(SqT X.K H p ys/\Q (.ref p) H))):=by
 intro pins s σ H xs us Q I r h;obtain⟨p,ys,rfl,h⟩:=h;obtain⟨u,rfl,rx⟩:=Bi r;cases rx;rcases h with⟨hq,q⟩|⟨hq,q⟩
 .obtain⟨its,r',pl,hz⟩:=I.list hq;have hlen:=r'.length;refine call_tuple_list pl.isList (λh' kp=>?_) (by simp only[gu]<;>omega);have I1:Inv X pins σ H { s with heap:=h' }:=I.kept (t':=s.toks) kp;have I2:Inv X pins σ (upd H h'.objs.size (.tup ys)) { s with heap:=h'.push { cls:=.type "tuple",data:=.seq its.toArray } }:=
   I1.laid (t':=s.toks) (λb o e=>73 _ e) (gg _) (show ObjOk X.prog X.w _ _ _ (.tup ys)from⟨hz,its,r',IsTupD.new _ _⟩)
  exact⟨.ref h'.objs.size,_,I2,rfl,q _ (I1.hok.fresh (gg _))⟩
 .obtain⟨its,r',pl,hz⟩:=I.tuple hq;exact call_tuple_same pl ⟨.ref p,H,I,rfl,q⟩
def tyV(K:Frag)(T:String)(x:V)(H:Hp):Prop:=match x with
 |.str _=>T="str"
 |.int _=>T="int"
 |.ref p=>(T="list"/\∃xs,SqL K H p xs)∨(T="tuple"/\∃o,K.lookup p=some o/\o.cls=.type "tuple"/\o.dict=none) ∨
  (T="dict"/\((∃kvs,H p=some (.dK kvs))∨∃kvs,H p=some (.dT kvs)))∨(T="set"/\∃S n,H p=some (.set S n))
 |_=>False
def YL{pins:List 81}{σ:St}{H:Hp}{s:Shared}{T:String}{x:V}{v:Value}(I:Inv X pins σ H s)(r:RelV x v)(ty:tyV X.K T x H):
 s.TypeIs v T/\∀a,v=.ref a->∃ob,s.heap.get? a=some ob/\ob.dict=none:=by
 cases x with
 |str z=>
  obtain⟨t,rfl⟩:=r;cases(show T="str" from ty);exact⟨typeIs_str s z t,λ_ e=>nomatch e⟩
 |int i=>
  obtain⟨t,rfl⟩:=r;cases(show T="int" from ty);exact⟨iC s i t,λ_ e=>nomatch e⟩
 |ref p=>
  cases r;rcases ty with⟨rfl,xs,hq⟩|⟨rfl,o,hk,hc,hd⟩|⟨rfl,hk⟩|⟨rfl,S,n,hk⟩
  .obtain⟨its,_,pl,_⟩:=I.list hq;refine⟨pl.isList.typeIs,λa e=>?_⟩;cases e;obtain⟨o,n,e,c,hd,_⟩:=pl;exact⟨o,e,hd⟩
  .refine⟨⟨o,I.kIn p o hk,hc⟩,λa e=>?_⟩;cases e;exact⟨o,I.kIn _ o hk,hd⟩
  .have z:∃o,s.heap.get? p=some o/\o.ExactDict:=by
    rcases hk with⟨kvs,hk⟩|⟨kvs,hk⟩
    .obtain⟨_,_,_,_,o,_,_,e,ex,_⟩:=I.hok p _ hk;exact⟨o,e,ex⟩
    .obtain⟨_,_,_,_,o,_,_,e,ex,_⟩:=I.hok p _ hk;exact⟨o,e,ex⟩
   obtain⟨o,e,ex⟩:=z;refine⟨⟨o,e,ex.1⟩,λa e2=>?_⟩;cases e2;exact⟨o,e,ex.2.1⟩
  .obtain⟨o,_,_,_,e,ex,_⟩:=I.hok p _ hk;refine⟨⟨o,e,ex.1⟩,λa e2=>?_⟩;cases e2;exact⟨o,e,ex.2.1⟩
 |_=>exact False.elim ty
noncomputable def tBM(K:Frag)(T:String)(r:V->List V->Hp->VK->Prop)(to:TE)(t:TA):TE:=λσ H Q=>to σ H λx H1=>tyV K T x H1/\t σ H1 λxs H2=>r x xs H2 Q
variable{o e:Expr}{es:List Expr}{to:TE}{t:TA}{name:Str}{apos cpos:Pos}{T id:String}{r:V->List V->Hp->VK->Prop}
def bt(pa:PlainAttrs T)(slot:Slot T name id)(hty:typeOf (.builtin id)=pure (.type "method_descriptor"))(hm:MtR X id r)(ho:PE X o to)(ha:PA X (e::es) t)
 (hbase:attributeBase o name X.env (eval o X.env)=eval o X.env:=by rfl)
 (hfew:((backTo cpos (starEach (e::es) X.env)).all (λx=>!x.1)&&(backToKw cpos (keywordEach [] X.env)).all (λx=>x.1.isSome)
  && decide ((e::es).length+([]:List Keyword).length+(if([]:List Keyword).isEmpty then 0 else 1)<30))=true:=by rfl)
 (hline:(apos.endLine==cpos.line)=true:=by rfl) (hs:starEach (e::es) X.env=90::starEach es X.env:=by rfl) (hplain:(backTo cpos (starEach es X.env)).any (·.1)=false:=by rfl):
 PE X (.Call (.Attribute o name apos) (e::es) [] cpos) (tBM X.K T r to t):=by
 intro pins s σ H Q I h;refine wpAny_Call_method_late hbase hfew hline rfl (thn (ho pins s σ H _ I h) λv s1 ⟨x,H1,I1,r1,ty,q1⟩=>?_);obtain⟨h1,h2⟩:=YL I1 r1 ty;refine⟨T,id,pa,slot,hty,h1,h2,?_⟩;have hA:=ha cpos pins s1 σ H1 _ I1 q1;rw[hs]at hA ⊢;refine Calls.callWith_builtin (by show(false||(backTo cpos (starEach es X.env)).any (·.1))=false;rw[hplain]<;>rfl) (Calls.evalArgs_plain ?_);exact thn hA λus s2 ⟨vs,H2,I2,r2,q2⟩=>hm pins s2 σ H2 x vs v us Q I2 r1 r2 q2
end
def MtM(X:Cx)(id:String)(r:V->List V->Hp->VK->Prop):Prop:=
 ∀(pins:List 81) (s:Shared) (σ:St) (H:Hp) (x:V) (xs:List V) (v:Value) (us:List Value) (Q:VK),Inv X pins σ H s->RelV x v->Vals xs us->r x xs H Q ->
   wpAny 69 X.A (call (.builtin id) (v::us)) (EP X pins σ Q) X.xe s
def Vals.one:∀{x:V} {us:List Value},Vals [x] us->∃u,us=[u]/\RelV x u
 |_,_,.cons r .nil=>⟨_,rfl,r⟩
theorem Vals.eraseIdx:∀{xs:List V} {us:List Value} (i:Nat),Vals xs us->Vals (xs.eraseIdx i) (us.eraseIdx i)
 |_,_,_,.nil=>.nil
 |_,_,0,.cons _ t=>t
 |_,_,i+1,.cons r t=>.cons r (Vals.eraseIdx i t)
theorem Vals.rep{xs:List V}{us:List Value}(h:Vals xs us):∀k:Nat,Vals (96 k xs).flatten (96 k us).flatten
 |0=>.nil
 |k+1=>by
  rw[iw,iw,iY,iY];exact Vals.append h (Vals.rep h k)
theorem Kz{α:Type}:∀(l:List α) (i:Nat),(l.eraseIdx i).length<=l.length
 |[],_=>gg _
 |_::_,0=>ip _
 |_::r,i+1=>Nat.succ_le_succ (Kz r i)
theorem Hi(its:List Value):∀(k:Nat) (acc:List Value),
 List.foldl (λx1 x2=>x1++x2) acc.toArray (96 k its.toArray)=(acc++(96 k its).flatten).toArray
 |0,acc=>by simp
 |k+1,acc=>by
  have e:acc.toArray++its.toArray=(acc++its).toArray:=by simp
  have e2:(acc++its)++(96 k its).flatten=acc++(96 (k+1) its).flatten:=by
   rw[iw,iY,iQ]
  rw[<- e2,<- Hi its k (acc++its),<- e,iw,List.foldl_cons]
section
variable{X:Cx}{pins:List 81}{σ:St}{H:Hp}{s:Shared}{l b:Addr}{xs ys zs:List V}
def Inv.lset{its its':List Value}{n:Nat}{f:Array Value->Array Value}{t':Nat}(I:Inv X pins σ H s)(hH:H l=some (.lst xs))
 (e:s.heap.get? l=some { cls:=.type "list",data:=.seq its.toArray n }) (hf:f its.toArray=its'.toArray) (hv:Vals ys its') (hz:ys.length<=sizeLine):
 Inv X pins σ (upd H l (.lst ys)) { s with heap:=s.heap.update l (Obj.mapSeq f),toks:=t' }:=by
 have q:=PySem.IsL.update e f;rw[hf]at q;refine I.write (x:=l) (e:=l) (by rw[hH];exact trivial) (.inl rfl) (λb' u hb hu=>(Heap.get?_update_other s.heap (Obj.mapSeq f) (Ne.symm hb)).trans hu) ⟨_,q⟩ ?_;exact⟨hz,its',_,hv,q⟩
def Inv.lnew{its:List Value}{t':Nat}(I:Inv X pins σ H s)(hv:Vals ys its)(hz:ys.length<=sizeLine):
 Inv X pins σ (upd H 66 (.lst ys)) { s with heap:=s.heap.push { cls:=.type "list",data:=.seq its.toArray },toks:=t' }:=
 I.laid (λ_ _ q=>73 _ q) (gg _) ⟨hz,its,0,hv,89 _ rfl⟩
theorem Inv.fresh(I:Inv X pins σ H s):H 66=none:=I.hok.fresh (gg _)
def Inv.lstM(I:Inv X pins σ H s)(hH:H l=some (.lst xs)):xs.length<=sizeLine/\∃(its:List Value) (n:Nat),Vals xs its/\xs.length=its.length/\s.heap.get? l=some { cls:=.type "list",data:=.seq its.toArray n }:=by
 obtain⟨z,its,n,r,e⟩:=I.hok l _ hH;exact⟨z,its,n,r,r.length,e⟩
def N4{n:Nat}(h:n<=sizeLine):Builtin.List.listTooLong n=false:=by
 unfold Builtin.List.listTooLong;exact gM 67
end
section
variable{X:Cx}
def Oj:V->List V->Hp->VK->Prop:=λx vs H Q=>∃l xs y,x=.ref l/\vs=[y]/\H l=some (.lst xs)/\xs.length<sizeLine/\Q .non (upd H l (.lst (xs++[y])))
def Kw:MtM X "list.append" Oj:=by
 intro pins s σ H x vs v us Q I rx rv h;obtain⟨l,xs,y,rfl,rfl,hH,hz,q⟩:=h;cases rx;obtain⟨u,rfl,ru⟩:=rv.one;obtain⟨z,its,n,r,hl,e⟩:=I.lstM hH;refine iV F.slot_list_append ⟨_,e,rfl⟩ F.entry_list_append (F.args_list_append_2 _ _) (PySem.list_append l its.toArray n u (by rw[gu];omega)) ⟨e,?_⟩;refine⟨.non,_,I.lset (its':=its++[u]) hH e 77 (r.append (.cons ru .nil)) ?_,rfl,q⟩;rw[ie,List.length_singleton];omega
def WO:V->List V->Hp->VK->Prop:=λx vs H Q=>∃l b xs zs,x=.ref l/\vs=[.ref b]/\H l=some (.lst xs)/\H b=some (.lst zs)/\xs.length+zs.length<=sizeLine/\Q .non (upd H l (.lst (xs++zs)))
def cr:MtM X "list.extend" WO:=by
 intro pins s σ H x vs v us Q I rx rv h;obtain⟨l,b,xs,zs,rfl,rfl,hH,hB,hz,q⟩:=h;cases rx;obtain⟨u,rfl,ru⟩:=rv.one;cases ru;obtain⟨z,its,n,r,hl,e⟩:=I.lstM hH;obtain⟨z2,its2,n2,r2,hl2,e2⟩:=I.lstM hB;have hsz:its.toArray.size+its2.toArray.size<=sizeLine:=by rw[gu,gu];omega
 have hlong:¬ (!its.toArray.isEmpty&&Builtin.List.listTooLong (its.toArray.size+its2.toArray.size))=true:=by
  rw[N4 hsz,Bool.and_false];exact Bool.false_ne_true
 refine iV F.slot_list_extend ⟨_,e,rfl⟩ F.entry_list_extend (F.args_list_extend_2 _ _)
  (AutoSeq1.list_extend_list_list_0 l its.toArray n b its2.toArray n2 hlong (by rw[gu];omega) 67) ⟨e,e2,?_⟩
 refine⟨.non,_,I.lset (its':=its++its2) hH e 77 (r.append r2) ?_,rfl,q⟩;rw[ie];omega
def Ro:V->List V->Hp->VK->Prop:=λx vs H Q=>∃l xs i k y,x=.ref l/\vs=[.int i]/\H l=some (.lst xs)/\-(2^63)<=i/\i<2^63/\seqIndex? i xs.length=some k/\xs[k]?=some y/\Q y (upd H l (.lst (xs.eraseIdx k)))
def UT:MtM X "list.pop" Ro:=by
 intro pins s σ H x vs v us Q I rx rv h;obtain⟨l,xs,i,k,y,rfl,rfl,hH,h1,h2,hk,hy,q⟩:=h;cases rx;obtain⟨u,rfl,ru⟩:=rv.one;obtain⟨t,rfl⟩:=ru;obtain⟨z,its,n,r,hl,e⟩:=I.lstM hH;obtain⟨w,hw,rw'⟩:=r.get hy;refine iV F.slot_list_pop ⟨_,e,rfl⟩ F.entry_list_pop (F.args_list_pop_2 _ _)
  (MeetsSeq.list_pop_at l its.toArray n i t k w (fitsIndex_both h1 h2) (by rw[gu,<- hl];exact hk) (by rw[<- Array.getElem?_toList];exact hw) (by rw[gu];omega)) ⟨e,?_⟩
 refine⟨y,_,I.lset (its':=its.eraseIdx k) hH e ?_ (r.eraseIdx k) ?_,rw',q⟩
 .show its.toArray.eraseIdxIfInBounds k=(its.eraseIdx k).toArray;rw[List.eraseIdxIfInBounds_toArray]
 .have:=Kz xs k;omega
noncomputable def Tt:R2:=λx y H Q=>∃l b xs zs,x=.ref l/\y=.ref b/\H l=some (.lst xs)/\H b=some (.lst zs)/\xs.length+zs.length<=sizeLine/\∀p,H p=none->Q (.ref p) (upd H p (.lst (xs++zs)))
def aG:OpR X (binaryOp .Add) Tt:=by
 intro pins s σ H x y v u Q I rx ry h;obtain⟨l,b,xs,zs,rfl,rfl,hH,hB,hz,q⟩:=h;cases rx;cases ry;obtain⟨z,its,n,r,hl,e⟩:=I.lstM hH;obtain⟨z2,its2,n2,r2,hl2,e2⟩:=I.lstM hB;refine PySem.P.add_list e e2 ?_ (by rw[gu,gu];omega);have ea:its.toArray++its2.toArray=(its++its2).toArray:=by simp
 rw[ea];exact⟨.ref _,_,I.lnew (t':=s.toks) (r.append r2) (by rw[ie];omega),rfl,q _ I.fresh⟩
noncomputable def To:R2:=λx y H Q=>∃l k xs,x=.ref l/\y=.int k/\H l=some (.lst xs)/\-(2^63)<=k/\k<2^63/\xs.length*k.toNat<=sizeLine /\
 ∀p,H p=none->Q (.ref p) (upd H p (.lst (96 k.toNat xs).flatten))
def Ox{α:Type}(xs:List α)(k:Nat):(96 k xs).flatten.length=k*xs.length:=by
 induction k with
 |zero=>simp
 |succ k ih=>rw[iw,iY,ie,ih,Nat.succ_mul,Nat.add_comm]
def a9:OpR X (binaryOp .Mult) To:=by
 intro pins s σ H x y v u Q I rx ry h;obtain⟨l,k,xs,rfl,rfl,hH,h1,h2,hz,q⟩:=h;cases rx;obtain⟨t,rfl⟩:=ry;obtain⟨z,its,n,r,hl,e⟩:=I.lstM hH;have hlen:its.toArray.size*k.toNat<=sizeLine:=by rw[gu,<- hl];exact hz
 have hcap:¬ its.toArray.size*k.toNat>(2^63-1)/8:=by
  have:(sizeLine:Nat)<=(2^63-1)/8:=by decide
  omega
 have hfit:¬ (!Builtin.List.listFitsIndex k)=true:=by
  rw[fitsIndex_both h1 h2];exact Bool.false_ne_true
 have hlong:¬ Builtin.List.listTooLong (its.toArray.size*k.toNat)=true:=by
  rw[N4 hlen];exact Bool.false_ne_true
 have hnew:List.foldl (λx1 x2=>x1++x2) #[] (96 (if its.toArray.isEmpty=true then 0 else k.toNat) its.toArray)=(96 k.toNat its).flatten.toArray:=by
  have f0:∀m:Nat,List.foldl (λx1 x2=>x1++x2) #[] (96 m its.toArray)=(96 m its).flatten.toArray:=λm=>by
   have:=Hi its m [];rw[iR]at this;exact this
  rw[f0];cases its with
  |nil=>simp
  |cons a r'=>rw[gf 77]
 refine wpAny_binaryOp_repeat_ref (T:="list") (U:="int") 98 ⟨_,e,rfl⟩ (λs'=>iC s' k t) noFill_list_mul F.fills_int_mul F.slot_int_rmul repeat_list F.slot_int_index.lookup
  (iV F.slot_int_rmul (iC s k t) F.entry_int_rmul (F.args_int_rmul_2 _ _) (int___rmul___int_list k t l its.toArray n)
   ⟨e,rfl,⟨_,e,rfl⟩,iV F.slot_list_mul ⟨_,e,rfl⟩ F.entry_list_mul (F.args_list_mul_2 _ _) (AutoListH.list___mul___list_int_3 l its.toArray n k t hfit hcap hlong) ⟨e,?_⟩⟩)
 rw[hnew];exact⟨.ref _,_,I.lnew (t':=s.toks) (r.rep k.toNat) (by rw[Ox,Nat.mul_comm];exact hz),rfl,q _ I.fresh⟩
end
end L2
namespace Att
open PySem PySem.W PySem.Calls PyProof.Rows
def Jj{P:Params}{h:Heap}:∀(ns:List Int) (vs:List Value),WellAll P h vs (ns.map WData.int)->IntsAre vs ns:=by
 intro ns
 induction ns with
 |nil=>
  intro vs w;rw[iA]at w;cases w;exact .nil
 |cons n ns ih=>
  intro vs w;rw[gm]at w;cases w with
  |cons a b=>
   cases a;exact .cons _ _ (ih _ b)
def RO{l:OpenLaw}{n:Nat}(hn:l.most=some n){P:Params}{h:Heap}{args:List WData}{vals:List Value}
 (hpre:l.row.toRowW.claim.pre args=true) (hwl:WellAll P h vals args):
 ∃a vs ns,vals=[Value.ref a]/\args=[WData.list (ns.map WData.int)]/\h.get? a=some { cls:=.type "list",data:=.seq 102 }/\IntsAre vs ns/\ns.length<=n:=by
 have hsh:WShape.hasAll [] args [.list .int]=true:=(pre_splitW hpre).1;have hc:l.pre.holds [] { args:=args }=true:=(pre_splitW hpre).2;obtain⟨d,r,rfl,h1,h2⟩:=hasAllW_cons hsh;obtain rfl:=hasAllW_nil h2;obtain⟨xs,rfl,h3⟩:=hasW_list h1;obtain⟨ns,rfl⟩:=items_int h3;have hlen:ns.length<=n:=by
  unfold OpenLaw.pre at hc;have h4:(WTm.not (.lt (.lit (.int (n:Int))) (.len (.arg 0)))).holds [] { args:=[.list (ns.map .int)] }=true:=by
   have h4:=(holds_andW hc).1;rw[hn]at h4;exact h4
  have h5:=condW_of h4 (w_not (w_lt w_lit (w_len_list (w_arg rfl))));rw[gy]at h5;refine Nat.le_of_not_lt λq=>?_;have q':(n:Int)<((ns.length:Nat):Int):=by omega
  first
   |(rw[gN q']at h5;exact absurd h5 98)
   |(simp at h5;omega)
 cases hwl with
 |cons w1 w2=>
  cases w2;cases w1 with
  |list ho hall=>exact⟨_,_,ns,rfl,rfl,ho,Jj ns _ hall,hlen⟩
def Rr(l:OpenLaw)(args:List WData):l.row.toRowW.claim.post args (.bool true) args=true:=
 postW_of (r:=l.row.toRowW) (X:=(true==true))
  (show WShape.has [] (.bool true) .bool=true by first|rfl|decide|simp[WShape.has,WShape.arms,WShape.armsAll])
  (show(WTm.eq .res (.lit (.bool true))).value [] { args:=args,res:=some (.bool true),after:=args }=some (.bool (true==true))from w_eq_bool (w_res rfl) w_lit) rfl
def attach_call{l:OpenLaw}{n:Nat}{q:Program}{loose:List Str}{XP:(Str->Option Value)->Heap->Prop}{YP:World->Heap->Prop}{d:DefRec}
 (hn:l.most=some n) (hdf:d.params.defaults=[])
 (call:∀(w:World) (s₀ s₁:Shared) (mg mb:Str->Option Value) (fa:Addr) (o:Obj) (pm cd doc:Value) (a:Addr) (vs:List Value) (ns:List Int),
  Ground q loose [] XP w s₀ mg mb s₁.heap->YP w s₁.heap ->
  s₁.heap.get? fa=some o->o.data=.func (docDef d.name d.params d.body d.scope pm cd doc)->s₁.heap.CodeRec cd d.name->mg d.name=some (.ref fa) ->
  s₁.heap.get? a=some { cls:=.type "list",data:=.seq 102 }->IntsAre vs ns->ns.length<=n->s₁.gens=#[] ->
  codeAny (model l.prog w) callerA (.call (.ref fa) ⟨[.ref a],[]⟩) (λr s'=>r=.ok (.ret (.bool true))/\OldK s₁.heap s'.heap/\s'.os=s₁.os/\AllBare s'.gens) s₁):
 WalkO q loose XP YP l.row.toRowW d [] (λf vs=>PySem.call f vs):=by
 intro w s₀ s₁ mg mb G Y fa o pm cd doc dV kV ho hd hcd hD hmg hg args vals as hpre hlay hrd hwl hlo;obtain rfl:dV=.none:=Dflts.none hD hdf;obtain rfl:kV=.none:=Dflts.noKw hD;obtain⟨a,vs,ns,rfl,rfl,hobj,hints,hlen⟩:=RO hn hpre hwl;refine enter_call (iU (call w s₀ s₁ mg mb fa o pm cd doc a vs ns G Y ho (fd_plain hd) hcd hmg hobj hints hlen hg) λr s' hq=>?_);obtain⟨rfl,h2,h3,h4⟩:=hq;exact⟨.inl ⟨.bool true,.bool true,[],rfl,λ_=>rfl,.bool true,Rr l _,λ_=>⟨List.Pairwise.nil,λ_ hm=>(nomatch hm)⟩⟩,h2,h3,h4⟩
end Att
namespace L2
open PySem PySem.Spec PyProof.Rows
theorem Kk:∀{vs:List Value} {ns:List Int},IntsAre vs ns->Vals (ns.map V.int) vs
 |_,_,.nil=>.nil
 |_,_,.cons n t h=>.cons ⟨t,rfl⟩ (Kk h)
noncomputable def Ca(s:Stmt):Arguments:=match s with
 |.FunctionDef _ a _ _ _ _ _ _ _ _=>a
 |_=>{ posonlyargs:=[],args:=[],vararg:=none,kwonlyargs:=[],kw_defaults:=[],kwarg:=none,defaults:=[] }
noncomputable def BR(s:Stmt):List Stmt:=match s with
 |.FunctionDef _ _ b _ _ _ _ _ _ _=>b
 |_=>[]
noncomputable def AA(s:Stmt):Scope:=match s with
 |.FunctionDef _ _ _ _ _ _ sc _ _ _=>sc
 |_=>{ kind:=.function,names:=[],isGenerator:=false,isCoroutine:=false }
noncomputable abbrev CX0:CXT:=λ_ _ _ _ _ _=>False
noncomputable abbrev E0:XK:=λ_ _ _=>False
def bw{X:Cx}:Nw CX0 X E0:=λ_ _ _ _ _ _ _ h=>h.elim
structure Fun(K:Frag)(x qual:Str)(st:Stmt)(f:Addr)(fd:FuncData):Prop where
 ex:∃(oc:Value) (od:Option Addr) (kV doc pm:Value) (an:Option Addr) (cdv ct:Value) (osl:Array (Option Value)),
  fd=fnOf x qual (Ca st) (BR st) (AA st) .none kV doc pm an cdv ct/\K.lookup f=some ⟨oc,od,.func fd,osl⟩/\codeIn K cdv qual=true
 kp:keepIn K (.ref f)=true
section
variable{P:Program}{w:World}{K:Frag}{mg:Str->Option Value}{base:Heap}
def Fun.ok{x qual:Str}{st:Stmt}{f:Addr}{fd:FuncData}{N ps:List Str}{k:Nat}{sp:Sp}(F:Fun K x qual st f fd)(S:FnScope N ps (AA st))(len:∀vs H Q E,sp vs H Q E->vs.length=ps.length)
 (hbody:∀(cdv:Value) (A:Around) (outer:List Env) (s:Shared) (H:Hp) (vs:List V) (Q:VK) (E:XK),Room k (A.deeper (envOfC qual (AA st) 66 f cdv))->sp vs H Q E ->
  ∃t,PSs (Fp CX0 P w K mg base N qual (AA st) f cdv A outer s H E).nox (BR st) t/\t { nx:=λ_ H'=>Q .non H',rt:=Q } (start N vs) H):FnOk P w K mg base CX0 (k+1) f fd ps sp:=by
 obtain⟨oc,od,kV,doc,pm,an,cdv,ct,osl,rfl,lk,hcd⟩:=F.ex;refine VS lk hcd S len λA outer s H vs Q E hr hsp=>?_;obtain⟨t,h,q⟩:=hbody cdv A outer s H vs Q E hr hsp;exact⟨t,h.nox,q⟩
def Fun.binds{x qual:Str}{st:Stmt}{f:Addr}{fd:FuncData}{ps:List Str}(F:Fun K x qual st f fd)
 (h:∀(kV doc pm:Value) (an:Option Addr) (cdv ct:Value) (us:List Value),us.length=ps.length->bindArgs (fnOf x qual (Ca st) (BR st) (AA st) .none kV doc pm an cdv ct) ⟨us,[]⟩=pure (ps.zip us)):Binds K fd ps []:=by
 obtain⟨oc,od,kV,doc,pm,an,cdv,ct,osl,rfl,lk,hcd⟩:=F.ex;exact .all (h kV doc pm an cdv ct)
def aY{x qual:Str}{st:Stmt}{f:Addr}{oc:Value}{od an:Option Addr}{osl:Array (Option Value)}{kV doc pm cdv ct:Value}(l:K.lookup f=some ⟨oc,od,.func (fnOf x qual (Ca st) (BR st) (AA st) .none kV doc pm an cdv ct),osl⟩)
 (c:codeIn K cdv qual=true) (k:keepIn K (.ref f)=true):Fun K x qual st f (fnOf x qual (Ca st) (BR st) (AA st) .none kV doc pm an cdv ct):=⟨⟨oc,od,kV,doc,pm,an,cdv,ct,osl,rfl,l,c⟩,k⟩
end
def VR{A:Around}{k:Nat}(hr:Room k A):A.units+1<cLine:=Nat.lt_of_le_of_lt (Nat.add_le_add_left (by decide:1<=64) _) hr.units
def HJ{n:Nat}(h:n<=1000):n<sizeLine:=Nat.lt_of_le_of_lt h 98
section
variable{κ:Type}[DecidableEq κ]
noncomputable def Dz(kvs:List (κ×V))(k:κ):Option V:=(kvs.find? λkv=>decide (kv.1=k)).map (·.2)
noncomputable def CF(kvs:List (κ×V))(k:κ)(v:V):List (κ×V):=
 if(kvs.any λkv=>decide (kv.1=k))=true then kvs.map (λkv=>if kv.1=k then(kv.1,v)else kv)else kvs++[(k,v)]
def Ew{p:κ×V}{r:List (κ×V)}{k:κ}(e:p.1=k):Dz (p::r) k=some p.2:=by simp[Dz,iB,e]
def Ex{p:κ×V}{r:List (κ×V)}{k:κ}(e:¬ p.1=k):Dz (p::r) k=Dz r k:=by simp[Dz,iB,e]
theorem MH(k:κ):∀kvs:List (κ×V),(kvs.any λkv=>decide (kv.1=k))=(Dz kvs k).isSome
 |[]=>rfl
 |p::r=>by
  rw[any_cons];by_cases e:p.1=k
  .simp only[Ew e,gN e,Bool.true_or,Option.isSome_some]
  .rw[Ex e,gM e,Bool.false_or];exact MH k r
def Ff(kvs:List (κ×V))(k:κ)(v:V):(CF kvs k v).length<=kvs.length+1:=by
 unfold CF;split
 .rw[gy];omega
 .rw[ie,hX,iJ];omega
def RelO.isSome_eq{o:Option V}{u:Option Value}(r:RelO o u):o.isSome=u.isSome:=by
 cases o with
 |none=>cases u with
  |none=>rfl
  |some _=>exact(show False from r).elim
 |some _=>cases u with
  |none=>exact(show False from r).elim
  |some _=>rfl
def KV.val{kvs:List (κ×V)}{vs:List (κ×Value)}(r:KV kvs vs)(k:κ):RelO (Dz kvs k) (valueAt vs k):=by
 unfold KV at r
 induction r with
 |nil=>exact True.intro
 |@cons p q ps qs h t ih=>
  obtain⟨h1,h2⟩:=h;by_cases e:p.1=k
  .have e':q.1=k:=h1.symm.trans e;have b:valueAt (q::qs) k=some q.2:=by simp[valueAt,iB,e']
   rw[Ew e,b];exact h2
  .have e':¬ q.1=k:=λz=>e (h1.trans z);have b:valueAt (q::qs) k=valueAt qs k:=by simp[valueAt,iB,e']
   rw[Ex e,b];exact ih
theorem KV.any{kvs:List (κ×V)}{vs:List (κ×Value)}(r:KV kvs vs)(k:κ):(kvs.any λkv=>decide (kv.1=k))=vs.any λkv=>decide (kv.1=k):=by
 unfold KV at r
 induction r with
 |nil=>rfl
 |cons h t ih=>rw[any_cons,any_cons,ih,h.1]
def KV.repl{kvs:List (κ×V)}{vs:List (κ×Value)}(r:KV kvs vs)(k:κ){y:V}{u:Value}(ry:RelV y u):
 KV (kvs.map λkv=>if kv.1=k then(kv.1,y)else kv) (vs.map λkv=>if kv.1=k then(kv.1,u)else kv):=by
 unfold KV at r ⊢
 induction r with
 |nil=>exact .nil
 |@cons p q ps qs h t ih=>
  rw[gm,gm];refine .cons ?_ ih;obtain⟨h1,h2⟩:=h;by_cases e:p.1=k
  .rw[gc e,gc (h1.symm.trans e)];exact⟨h1,ry⟩
  .rw[gf e,gf (λz=>e (h1.trans z))];exact⟨h1,h2⟩
def KV.put{kvs:List (κ×V)}{vs:List (κ×Value)}(r:KV kvs vs)(k:κ){y:V}{u:Value}(ry:RelV y u):KV (CF kvs k y) (stored vs k u):=by
 unfold CF stored;rw[r.any k];by_cases e:(vs.any λkv=>decide (kv.1=k))=true
 .rw[gc e,gc e];exact r.repl k ry
 .rw[gf e,gf e];exact Paired.snoc r ⟨rfl,ry⟩
theorem KV.length{kvs:List (κ×V)}{vs:List (κ×Value)}(r:KV kvs vs):kvs.length=vs.length:=Paired.length r
end
def M6{P:Program}{w:World}{k:Key}{u:Value}(r:RelV (kV k) u):(BH P w).is k u=true:=by
 cases k with
 |inl i=>obtain⟨t,e⟩:=(show ∃t,u=Value.int i t from r);subst e;exact O4 P w i t
 |inr x=>obtain⟨t,e⟩:=(show ∃t,u=Value.str x t from r);subst e;exact O3 P w x t
theorem L9{P:Program}{w:World}:∀{ks:List Key} {us:List Value},Vals (ks.map kV) us->ItemsAre (BH P w) ks us
 |[],_,r=>by rw[iA]at r;cases r;exact .nil
 |k::ks,_,r=>by
  rw[gm]at r;cases r with
  |cons h t=>exact .cons (M6 h) (L9 t)
abbrev KT(H:Hp):List (List Key×V)->List (List Key×Addr×Value)->Prop:=Paired λp q=>p.1=q.1/\H q.2.1=some (.tup (p.1.map kV))/\RelV p.2 q.2.2
def KT.val{H:Hp}{kvs:List (List Key×V)}{xs:List (List Key×Addr×Value)}(r:KT H kvs xs)(k:List Key):RelO (Dz kvs k) ((atKey xs k).map (·.2)):=by
 induction r with
 |nil=>exact True.intro
 |@cons p q ps qs h t ih=>
  obtain⟨h1,_,h2⟩:=h;by_cases e:p.1=k
  .have e':q.1=k:=h1.symm.trans e;have b:atKey (q::qs) k=some q.2:=by simp[atKey,iB,e']
   rw[Ew e,b];exact h2
  .have e':¬ q.1=k:=λz=>e (h1.trans z);have b:atKey (q::qs) k=atKey qs k:=by simp[atKey,iB,e']
   rw[Ex e,b];exact ih
def KT.repl{H:Hp}{kvs:List (List Key×V)}{xs:List (List Key×Addr×Value)}(r:KT H kvs xs)(k:List Key){y:V}{u:Value}(ry:RelV y u):
 KT H (kvs.map λkv=>if kv.1=k then(kv.1,y)else kv) (xs.map (putAt k u)):=by
 induction r with
 |nil=>exact .nil
 |@cons p q ps qs h t ih=>
  rw[gm,gm];refine .cons ?_ ih;obtain⟨h1,h2,h3⟩:=h;unfold putAt;by_cases e:p.1=k
  .rw[gc e,gc (h1.symm.trans e)];exact⟨h1,h2,ry⟩
  .rw[gf e,gf (λz=>e (h1.trans z))];exact⟨h1,h2,h3⟩
def KT.put{H:Hp}{kvs:List (List Key×V)}{xs:List (List Key×Addr×Value)}(r:KT H kvs xs)(k:List Key){b:Addr}{y:V}{u:Value}(hb:H b=some (.tup (k.map kV)))(ry:RelV y u):
 KT H (CF kvs k y) (storedH xs k b u):=by
 have e:(kvs.any λkv=>decide (kv.1=k))=(atKey xs k).isSome:=by
  rw[MH,(r.val k).isSome_eq,Option.isSome_map]
 unfold CF storedH;rw[e];by_cases q:(atKey xs k).isSome=true
 .rw[gc q,gc q];exact r.repl k ry
 .rw[gf q,gf q];exact Paired.snoc r ⟨rfl,hb,ry⟩
def KT.keeps{H H':Hp}{kvs:List (List Key×V)}{xs:List (List Key×Addr×Value)}(r:KT H kvs xs)(ht:∀b ys,H b=some (.tup ys)->H' b=some (.tup ys)):KT H' kvs xs:=
 Paired.mapP r λ_ _ z=>⟨z.1,ht _ _ z.2.1,z.2.2⟩
section
variable{P:Program}{w:World}{H:Hp}{h:Heap}{a:Addr}
def V8{u:HO}(ok:HOk P w H h)(e:Rd H a u):ObjOk P w H h a u:=e.ok ok
def Qi{kvs:List (Key×V)}(ok:HOk P w H h)(e:Rd H a (.dK kvs)):kvs.length<=sizeLine/\(a==sysModules)=false/\∃vs,KV kvs vs/\h.DictOf (BH P w) a vs:=
 show ObjOk P w H h a (.dK kvs)from V8 ok e
def VW{kvs:List (Key×V)}(ok:HOk P w H h)(e:H a=some (.dK kvs)):kvs.length<=sizeLine/\(a==sysModules)=false/\∃vs,KV kvs vs/\h.DictOf (BH P w) a vs:=Qi ok (.inl e)
def NK{ks:List Key}(ok:HOk P w H h)(e:H a=some (.tup (ks.map kV))):(tupleKind (BH P w)).is h ks a:=by
 obtain⟨_,its,r,o,h1,h2,⟨n,h3⟩,_⟩:=(show ObjOk P w H h a (.tup (ks.map kV))from ok a _ e)
 exact⟨o,its.toArray,n,h1,h2,h3,by simpa using L9 r⟩
def Qh{kvs:List (List Key×V)}(ok:HOk P w H h)(e:Rd H a (.dT kvs)):kvs.length<=sizeLine/\(a==sysModules)=false /\
 ∃xs,KT H kvs xs/\h.DictOfH (tupleKind (BH P w)) a xs:=by
 obtain⟨z,y,xs,r,o,es,ep,h1,h2,h3,h4,h5⟩:=(show ObjOk P w H h a (.dT kvs)from V8 ok e)
 refine⟨z,y,xs,r,o,es,ep,h1,h2,h3,h4,λx hx=>?_,h5⟩;have all:∀{l:List (List Key×V)} {m:List (List Key×Addr×Value)},KT H l m->∀x∈m,(tupleKind (BH P w)).is h x.1 x.2.1:=by
  intro l m q
  induction q with
  |nil=>intro x hx;exact nomatch hx
  |@cons p q ps qs hq t ih=>
   intro x hx;rcases mem_cons.mp hx with e|hx
   .subst e;exact NK ok (by rw[<- hq.1];exact hq.2.1)
   .exact ih x hx
 exact all r x hx
def cX{kvs:List (List Key×V)}(ok:HOk P w H h)(e:H a=some (.dT kvs)):kvs.length<=sizeLine/\(a==sysModules)=false /\
 ∃xs,KT H kvs xs/\h.DictOfH (tupleKind (BH P w)) a xs:=Qh ok (.inl e)
end
def DGet(H:Hp)(a:Addr)(y:V)(r:Option V):Prop:=
 (∃kvs k,Rd H a (.dK kvs)/\y=kV k/\r=Dz kvs k)∨∃kvs k b,Rd H a (.dT kvs)/\y=.ref b/\H b=some (.tup (k.map kV))/\r=Dz kvs k
def DPut(H:Hp)(a:Addr)(y v:V)(H':Hp):Prop:=
 (∃kvs k,H a=some (.dK kvs)/\y=kV k/\kvs.length<sizeLine/\H'=upd H a (.dK (CF kvs k v))) ∨
 ∃kvs k b,H a=some (.dT kvs)/\y=.ref b/\H b=some (.tup (k.map kV))/\kvs.length<sizeLine/\H'=upd H a (.dT (CF kvs k v))
theorem DGet.k{H:Hp}{a:Addr}{kvs:List (Key×V)}{k:Key}(e:H a=some (.dK kvs)):DGet H a (kV k) (Dz kvs k):=.inl ⟨kvs,k,.inl e,rfl,rfl⟩
theorem DPut.k{H:Hp}{a:Addr}{kvs:List (Key×V)}{k:Key}{v:V}(e:H a=some (.dK kvs))(hl:kvs.length<sizeLine):DPut H a (kV k) v (upd H a (.dK (CF kvs k v))):=.inl ⟨kvs,k,e,rfl,hl,rfl⟩
section
variable{X:Cx}{pins:List 81}{σ:St}{H:Hp}{s:Shared}{a:Addr}{y v:V}{u r:Value}{o:Option V}{A:Around}{E:Value->Shared->Prop}
def Inv.big(I:Inv X pins σ H s):sysModules<s.heap.objs.size:=by
 have h:mainGlobals<s.heap.objs.size:=(I.mod.glob.keeps I.bk).lt;exact lt_trans 98 h
def Sf{Q:Value->Shared->Prop}(hu:A.units+1<cLine)(I:Inv X pins σ H s)(g:DGet H a y (some v))(ry:RelV y u)(h:∀w' s',Inv X pins σ H s'->RelV v w'->Q w' s'):
 wpAny 69 A (getItem (.ref a) u) Q E s:=by
 rcases g with⟨kvs,k,e,ey,l⟩|⟨kvs,k,b,e,ey,eb,l⟩
 .subst ey;obtain⟨z,hd,vs,rel,dd⟩:=Qi I.hok e;obtain⟨w',hw,rw'⟩:=RelO.some_of (v:=v) (o:=valueAt vs k) (by rw[l];exact rel.val k);exact wpAny_getItem_of (M6 ry) dd.mapOf hw (h w' _ (I.tok _) rw')
 .subst ey;cases(show u=Value.ref b from ry);obtain⟨z,hd,xs,rel,dd⟩:=Qh I.hok e;obtain⟨w',hw,rw'⟩:=RelO.some_of (v:=v) (o:=(atKey xs k).map (·.2)) (by rw[l];exact rel.val k);obtain⟨p,hp,hp2⟩:=gG hw;refine wpAny_getItem_heap (tupleKind_room_in1 hu) (NK I.hok eb) dd hp ?_;rw[hp2];exact h w' _ (I.tok _) rw'
def Kc{h':Heap}{t':Nat}{ob:HO}(I:Inv X pins σ H s)(mu:Mut (H a))(hs:Heap.SameBut a s.heap h')(he:∃q,h'.get? a=some q)(new:ObjOk X.prog X.w (upd H a ob) h' a ob):
 Inv X pins σ (upd H a ob) { s with heap:=h',toks:=t' }:=
 I.write (x:=a) (e:=a) mu (.inl rfl) (λb q hb z=>(hs.2 b hb).trans z) he new
def Sc{P:Program}{w:World}{H':Hp}{h':Heap}{kvs:List (Key×V)}{vs:List (Key×Value)}(z:kvs.length<=sizeLine)(hd:(a==sysModules)=false)(rel:KV kvs vs)(dd:h'.DictOf (BH P w) a vs):
 ObjOk P w H' h' a (.dK kvs):=⟨z,hd,vs,rel,dd⟩
def Se{H':Hp}{Q:Unit->Shared->Prop}(hu:A.units+1<cLine)(I:Inv X pins σ H s)(g:DPut H a y v H')(ry:RelV y u)(rv:RelV v r)(h:∀s',Inv X pins σ H' s'->Q () s'):
 wpAny 69 A (setItem (.ref a) u r) Q E s:=by
 rcases g with⟨kvs,k,e,ey,l,eH⟩|⟨kvs,k,b,e,ey,eb,l,eH⟩
 .subst ey eH;obtain⟨z,hd,vs,rel,dd⟩:=VW I.hok e;have hz:vs.length<=sizeLine:=by rw[<- rel.length];exact z
  have hl:(CF kvs k v).length<=sizeLine:=by have:=Ff kvs k v;omega
  refine wpAny_setItem_pairs (hsz:=hz) (M6 ry) dd λh' dd' hs=>h _ ?_;have he:∃q,h'.get? a=some q:=let ⟨q,_,_,hq,_⟩:=dd';⟨q,hq⟩
  exact Kc I (by rw[e];exact True.intro) hs he (Sc hl hd (rel.put k rv) dd')
 .subst ey eH;cases(show u=Value.ref b from ry);obtain⟨z,hd,xs,rel,dd⟩:=cX I.hok e;have hz:xs.length<=sizeLine:=by rw[<- Paired.length rel];exact z
  have hl:(CF kvs k v).length<=sizeLine:=by have:=Ff kvs k v;omega
  refine wpAny_setItem_heap (hsz:=hz) (tupleKind_room_in1 hu) (NK I.hok eb) dd λh' dd' hs=>h _ ?_;obtain⟨q,es,ep,hq,h2,h3,h4,_,h5⟩:=dd';refine Kc I (by rw[e];exact True.intro) hs ⟨q,hq⟩ ⟨hl,hd,_,(rel.put k eb rv).keeps λc ys ec=>?_,q,es,ep,hq,h2,h3,h4,h5⟩;rw[AE (cC ec e (λz=>nomatch z))];exact ec
end
def V1(i:Expr):Prop:=∀ov iv,subscripted i false ov iv=operate [ov,iv] (getItem ov iv)
def Vl{prog:Program}{w:World}{A:Around}{E:Value->Shared->Prop}{s:Shared}{env:Env}{value slice:Expr}{pos:Pos}{T id:String}{Q:Value->Shared->Prop}
 (hl:typeLookup (.type T) "__getitem__"=pure (some (.builtin id))) (hs:V1 slice)
 (h:wpAny 97 A (eval value env) (λo s₁=>wpAny 97 A (eval slice env) (λi s₂=>s₂.TypeIs o T/\wpAny 97 A (getItem o i) Q E s₂) E s₁) E s):
 wpAny 97 A (eval (.Subscript value slice pos) env) Q E s:=by
 refine Subscript_ (gz h (λo s₁ h₁=>gz h₁ (λi s₂ h₂=>?_) λ_ _ x=>x) λ_ _ x=>x);obtain⟨hT,h₂⟩:=h₂;unfold subscriptTail;refine gb ?_;rw[getitemInPython_of_ne hT.not_modules];refine gb (wpAny_specialOf hT hl ?_);have fin:wpAny 97 A (subscripted slice false o i) (λr s₃=>wpAny 97 A (letTemporaryGo value o r >>= λ_=>pure r) Q E s₃) E s₂:=by
  rw[hs o i];exact wpAny_operating (gz h₂ (λr s₃ h₃=>gb (wpAny_letTemporaryGo (gh h₃))) λ_ _ x=>x)
 first
  |exact gh (gb fin)
  |exact gb (gh (gb fin))
  |exact gb fin
def OH{X:Cx}{pins:List 81}{σ:St}{H:Hp}{s:Shared}{a:Addr}{y:V}{o:Option V}(I:Inv X pins σ H s)(g:DGet H a y o):s.TypeIs (.ref a) "dict":=by
 rcases g with⟨kvs,k,e,_,_⟩|⟨kvs,k,b,e,_,_,_⟩
 .obtain⟨_,_,vs,_,dd⟩:=Qi I.hok e;exact dd.typeIs
 .obtain⟨_,_,xs,_,dd⟩:=Qh I.hok e;exact dd.typeIs
noncomputable def Pb(td ty:TE):TE:=λσ H Q=>td σ H λx H1=>ty σ H1 λy H2=>∃a v,x=.ref a/\DGet H2 a y (some v)/\Q v H2
noncomputable def Pr(td ty tv:TE):TS:=λD σ H=>tv σ H λv H1=>td σ H1 λx H2=>ty σ H2 λy H3=>∃a H4,x=.ref a/\DPut H3 a y v H4/\D.nx σ H4
section
variable{X:Cx}{o i e value:Expr}{pos pos' tpos:Pos}{td ty tv:TE}
def XN(hu:X.A.units+1<cLine)(ho:PE X o td)(hi:PE X i ty)(hs:V1 i):PE X (.Subscript o i pos) (Pb td ty):=by
 intro pins s σ H Q I h;refine Vl PySem.F.slot_dict_getitem.lookup hs (thn (ho pins s σ H _ I h) λu s1 ⟨x,H1,I1,rx,q1⟩=>thn (hi pins s1 σ H1 _ I1 q1) λiv s2 ⟨y,H2,I2,ry,a,v,ex,g,q2⟩=>?_);subst ex;obtain rfl:u=Value.ref a:=rx;exact⟨OH I2 g,Sf hu I2 g ry λw' s3 I3 rw'=>⟨v,H2,I3,rw',q2⟩⟩
def X5(hu:X.A.units+1<cLine)(ho:PE X o td)(hi:PE X i ty)(hv:PE X value tv)(hs:swapsWith value (some (.Subscript o i pos')) pos.line X.env=pure false):
 PS X (.Assign [.Subscript o i pos'] value pos) (Pr td ty tv):=by
 intro pins s σ H D I h;refine wpAny_Assign_Subscript (thn (hv pins s σ H _ I h) λr s1 ⟨v,H1,I1,rv,q1⟩=>thn (ho pins s1 σ H1 _ I1 q1) λu s2 ⟨x,H2,I2,rx,q2⟩=>thn (hi pins s2 σ H2 _ I2 q2) λiv s3 ⟨y,H3,I3,ry,a,H4,ex,g,q3⟩=>?_) hs;subst ex;obtain rfl:u=Value.ref a:=rx;exact Se hu I3 g ry rv λs4 I4=>⟨σ,H4,I4,q3⟩
end
def Uq{P:Program}{w:World}{H:Hp}(h:Heap)(hb:sysModules<h.objs.size):ObjOk P w H (h.push { cls:=.type "dict",data:=.dict #[] }) h.objs.size (.dK []):=
 ⟨gW _,beq_eq_false_iff_ne.mpr (Ne.symm (gv hb)),[],.nil,Heap.DictOf.new h⟩
noncomputable def HH:List (TE×TE)->St->Hp->(List (V×V)->Hp->Prop)->Prop
 |[],_,H,Q=>Q [] H
 |(tk,tv)::r,σ,H,Q=>tk σ H λx H1=>tv σ H1 λy H2=>HH r σ H2 λps H3=>Q ((x,y)::ps) H3
abbrev VV:List (V×V)->List (Value×Value)->Prop:=Paired λp q=>RelV p.1 q.1/\RelV p.2 q.2
def PPs(X:Cx)(pos:Pos)(keys:List (Option Expr))(values:List Expr)(trs:List (TE×TE)):Prop:=
 ∀(pins:List 81) (s:Shared) (σ:St) (H:Hp) (Q:List (V×V)->Hp->Prop),Inv X pins σ H s->HH trs σ H Q ->
   wpAny 69 X.A (evalPairs (pairTrees keys values X.env pos)) (λvs s'=>∃ps H',Inv X pins σ H' s'/\VV ps vs/\Q ps H') X.xe s
def X7{X:Cx}{pos:Pos}:PPs X pos [] [] []:=λpins s σ H Q I h=>pairTrees_nil_walk ⟨[],H,I,.nil,h⟩
def UG{X:Cx}{pos:Pos}{k v:Expr}{ks:List (Option Expr)}{vs:List Expr}{tk tv:TE}{trs:List (TE×TE)}(hk:PE X k tk)(hv:PE X v tv)(hr:PPs X pos ks vs trs):
 PPs X pos (some k::ks) (v::vs) ((tk,tv)::trs):=λpins s σ H Q I h=>
 pairTrees_cons_walk (thn (hk pins s σ H _ I h) λu s1 ⟨x,H1,I1,rx,q1⟩=>thn (hv pins s1 σ H1 _ I1 q1) λw2 s2 ⟨y,H2,I2,ry,q2⟩=>
  thn (hr pins s2 σ H2 _ I2 q2) λws s3 ⟨ps,H3,I3,rel,q3⟩=>⟨(x,y)::ps,H3,I3,.cons ⟨rx,ry⟩ rel,q3⟩)
noncomputable def EQ(kvs more:List (Key×V)):List (Key×V):=more.foldl (λacc kv=>CF acc kv.1 kv.2) kvs
def KV.merge:∀{more:List (Key×V)} {rs:List (Key×Value)} {kvs:List (Key×V)} {vs:List (Key×Value)},KV more rs->KV kvs vs->KV (EQ kvs more) (merged vs rs):=by
 intro more rs kvs vs r;unfold KV at r
 induction r generalizing kvs vs with
 |nil=>intro q;exact q
 |@cons p q ps qs h t ih=>
  intro r0;have e:KV (CF kvs p.1 p.2) (stored vs q.1 q.2):=by
   have:=r0.put p.1 h.2;rw[<- h.1];exact this
  exact ih e
theorem Gz:∀(more kvs:List (Key×V)),(EQ kvs more).length<=kvs.length+more.length
 |[],kvs=>by show kvs.length<=kvs.length+0;omega
 |p::r,kvs=>by
  have h1:=Gz r (CF kvs p.1 p.2);have h2:=Ff kvs p.1 p.2;show(EQ (CF kvs p.1 p.2) r).length<=_;rw[hX];omega
theorem Jt{P:Program}{w:World}:∀{kvs:List (Key×V)} {ws:List (Value×Value)},VV (kvs.map λkv=>(kV kv.1,kv.2)) ws->∃rs,Carries (BH P w) ws rs/\KV kvs rs
 |[],_,r=>by rw[iA]at r;cases r;exact⟨[],True.intro,.nil⟩
 |p::kvs,_,r=>by
  rw[gm]at r;cases r with
  |@cons a b as bs h t=>
   obtain⟨rs,c,q⟩:=Jt (P:=P) (w:=w) t;obtain⟨b1,b2⟩:=b;exact⟨(p.1,b2)::rs,⟨M6 h.1,rfl,c⟩,.cons ⟨rfl,h.2⟩ q⟩
noncomputable def Pa(trs:List (TE×TE)):TE:=λσ H Q=>∀p,H p=none->HH trs σ (upd H p (.dK [])) λps H2=>H2 p=some (.dK [])/\∃kvs:List (Key×V),ps=kvs.map (λkv=>(kV kv.1,kv.2))/\kvs.length<=15/\Q (.ref p) (upd H2 p (.dK (EQ [] kvs)))
def XM{X:Cx}{pos:Pos}{keys:List (Option Expr)}{values:List Expr}{trs:List (TE×TE)}(h:PPs X pos keys values trs)(hall:keys.all (·.isSome)=true)(hl:keys.length=values.length)(h0:keys≠[])
 (h15:keys.length<=15):PE X (.Dict keys values pos) (Pa trs):=by
 intro pins s σ H Q I q;have hn:=I.hok.fresh (gg 66);have I1:=I.laid (a:=66) (o:=.dK []) (h':=s.heap.push { cls:=.type "dict",data:=.dict #[] }) (t':=s.toks) (λ_ _ q=>73 _ q) (gg _) (Uq s.heap I.big);refine wpAny_Dict_walk (knd:=BH X.prog X.w) hall hl h0 h15 (thn (h pins _ σ _ _ I1 (q _ hn)) λws s2 ⟨ps,H2,I2,rel,e,kvs,ep,lk,q2⟩=>?_);subst ep;obtain⟨rs,c,rk⟩:=Jt (P:=X.prog) (w:=X.w) rel;obtain⟨z,hd,vs0,r0,dd⟩:=VW I2.hok e;cases r0;refine⟨rs,c,dd,λh' dd' hs=>⟨.ref 66,_,?_,rfl,q2⟩⟩;have hz:(EQ [] kvs).length<=sizeLine:=by
  have h1:=Gz kvs [];rw[iJ]at h1;rw[gY];omega
 have he:∃q,h'.get? 66=some q:=let ⟨q,_,_,hq,_⟩:=dd';⟨q,hq⟩
 exact Kc I2 (by rw[e];exact True.intro) hs he (Sc hz hd (rk.merge .nil) dd')
noncomputable def AS(cells:List (Str×Addr)):List (Str×NameKind)->List (Str×Addr)->List (Str×Addr)
 |[],acc=>acc
 |(n,k)::r,acc=>if k==.free then AS cells r ((n,(cells.lookup n).getD 0)::acc)else AS cells r acc
theorem GB{env:Env}(f:Str×NameKind->List (Str×Addr)->Sem (ForInStep (List (Str×Addr))))
 (hf:∀name kind cs,f (name,kind) cs=if(kind==NameKind.free)=true then(do let a <- cellOf env name;pure (ForInStep.yield ((name,a)::cs)))else pure (ForInStep.yield cs)):
 ∀(names:List (Str×NameKind)) (acc:List (Str×Addr)),(∀y∈names,y.2=.free->∃c,env.cells.lookup y.1=some c)->forIn names acc f=pure (AS env.cells names acc)
 |[],acc,_=>rfl
 |(n,k)::r,acc,hy=>by
   rw[List.forIn_cons,hf];have ih:=λa=>GB f hf r a λz hz=>hy z (gi _ hz);by_cases hk:(k==NameKind.free)=true
   .obtain⟨c,hc⟩:=hy (n,k) gp (by simpa using hk);have hc:env.cells.lookup n=some c:=hc;have e1:cellOf env n=pure c:=by unfold cellOf;rw[hc]
    rw[gc hk,e1];show forIn r ((n,c)::acc) f=_;have e2:AS env.cells ((n,k)::r) acc=AS env.cells r ((n,c)::acc):=by
     rw[AS,gc hk,hc];rfl
    rw[ih,e2]
   .rw[gf hk];show forIn r acc f=_;have e2:AS env.cells ((n,k)::r) acc=AS env.cells r acc:=by
     rw[AS,gf hk]
    rw[ih,e2]
def Ee{scope:Scope}{env:Env}(h:∀y∈scope.names,y.2=.free->∃c,env.cells.lookup y.1=some c):closureFor scope env=pure (AS env.cells scope.names []):=by
 unfold closureFor;dsimp only;rw[GB _ (λname kind cs=>rfl) scope.names [] h];rfl
theorem Dt{cells:List (Str×Addr)}:∀{names:List (Str×NameKind)} {acc:List (Str×Addr)},(∀y∈names,y.2=.free->∃c,cells.lookup y.1=some c)->(∀x c,acc.lookup x=some c->cells.lookup x=some c) ->
 ∀x c,(AS cells names acc).lookup x=some c->cells.lookup x=some c
 |[],_,_,ha,x,c,e=>ha x c e
 |(n,k)::r,acc,hy,ha,x,c,e=>by
   unfold AS at e;have hr:∀y∈r,y.2=.free->∃c,cells.lookup y.1=some c:=λz hz=>hy z (gi _ hz);by_cases hk:(k==NameKind.free)=true
   .rw[gc hk]at e;refine Dt hr (λz d q=>?_) x c e;obtain⟨c0,hc0⟩:=hy (n,k) gp (by simpa using hk);have hc0:cells.lookup n=some c0:=hc0;rw[gO]at q;by_cases hz:(z==n)=true
    .rw[hz,hc0]at q;have:z=n:=by simpa using hz
     subst this;simpa [hc0]using q
    .have hz':(z==n)=false:=by simpa using hz
     rw[hz']at q;exact ha z d q
   .rw[gf hk]at e;exact Dt hr ha x c e
theorem Ct{cells:List (Str×Addr)}:∀{names:List (Str×NameKind)} {acc:List (Str×Addr)} {x:Str},((acc.lookup x).isSome=true∨(x,NameKind.free)∈names)->((AS cells names acc).lookup x).isSome=true
 |[],_,_,h=>h.elim id λz=>by cases z
 |(n,k)::r,acc,x,h=>by
   unfold AS;by_cases hk:(k==NameKind.free)=true
   .rw[gc hk];refine Ct ?_;by_cases hx:(x==n)=true
    .exact .inl (by rw[gO,hx];rfl)
    .have hx':(x==n)=false:=by simpa using hx
     rcases h with h|h
     .exact .inl (by rw[gO,hx'];exact h)
     .rcases mem_cons.mp h with h|h
      .cases h;simp at hx
      .exact .inr h
   .rw[gf hk];refine Ct ?_;rcases h with h|h
    .exact .inl h
    .rcases mem_cons.mp h with h|h
     .cases h;simp at hk
     .exact .inr h
noncomputable def Cb:Nat->List (Str×NameKind)->List (Str×Addr)
 |_,[]=>[]
 |n,(x,k)::r=>if k==.cell then Cb (n+1) r++[(x,n)]else Cb n r
theorem By:∀(names:List (Str×NameKind)) (n:Nat) (acc:List (Str×Addr)),cellsFrom n names acc=Cb n names++acc
 |[],_,_=>rfl
 |(x,k)::r,n,acc=>by
   unfold cellsFrom Cb;by_cases hk:(k==NameKind.cell)=true
   .rw[gc hk,gc hk,By r (n+1),iQ];rfl
   .rw[gf hk,gf hk,By r n]
theorem Il:∀(names:List (Str×NameKind)) (n:Nat) (x:Str) (c:Addr),(Cb n names).lookup x=some c->(x,NameKind.cell)∈names
 |[],_,_,_,e=>by cases e
 |(y,k)::r,n,x,c,e=>by
   unfold Cb at e;by_cases hk:(k==NameKind.cell)=true
   .rw[gc hk]at e;have hk':k=.cell:=by simpa using hk
    rw[iK]at e;cases q:(Cb (n+1) r).lookup x with
    |some d=>exact gi _ (Il r _ x d q)
    |none=>
     rw[q]at e;simp only[none_or,gO]at e;by_cases hx:(x==y)=true
     .have:x=y:=by simpa using hx
      subst this;subst hk';exact gp
     .have hx':(x==y)=false:=by simpa using hx
      rw[hx']at e;cases e
   .rw[gf hk]at e;exact gi _ (Il r n x c e)
theorem Im:∀(names:List (Str×NameKind)) (n:Nat) (x:Str),(x,NameKind.cell)∈names->∃c,(Cb n names).lookup x=some c
 |[],_,_,h=>by cases h
 |(y,k)::r,n,x,h=>by
   unfold Cb;by_cases hk:(k==NameKind.cell)=true
   .rw[gc hk,iK];rcases mem_cons.mp h with h|h
    .obtain⟨rfl,rfl⟩:=Prod.mk.inj h;cases q:(Cb (n+1) r).lookup x with
     |some d=>exact⟨d,rfl⟩
     |none=>exact⟨n,by simp[gO]⟩
    .obtain⟨c,hc⟩:=Im r (n+1) x h;exact⟨c,by rw[hc];rfl⟩
   .rw[gf hk];rcases mem_cons.mp h with h|h
    .cases h;simp at hk
    .exact Im r n x h
noncomputable def Uw(scope:Scope)(C:Addr)(env:Env):Env:=
 { scope:=relabel scope env,locals:=C,globals:=env.globals,cells:=cellsFrom (C+1) scope.names (AS env.cells scope.names []),qual:=env.qual,func:=none,code:=env.code,frame:=env.frame,builtins:=env.builtins }
def Oq{M:Model}{A:Around}{E:Value->Shared->Prop}{s:Shared}{scope:Scope}{cl:List (Str×Addr)}{env:Env}{Q:Env->Shared->Prop}
 (hQ:∀h',(∀b o,s.heap.get? b=some o->h'.get? b=some o)->h'.Ns 66 (λ_=>none)->(∀x c,(Cb (66+1) scope.names).lookup x=some c->h'.IsCell c none/\66<c) ->
  ((Cb (66+1) scope.names).Pairwise λx y=>x.2≠y.2) ->
  Q { scope:=scope,locals:=66,globals:=env.globals,cells:=cellsFrom (66+1) scope.names cl,qual:=env.qual,func:=none,code:=env.code,frame:=env.frame,builtins:=env.builtins } { s with heap:=h' }):
 wpAny M A (newFunctionEnv scope env.globals cl [] env.qual none .none (some env)) Q E s:=by
 simp only[newFunctionEnv,Option.isSome_some,gw];refine gb (wpAny_alloc ?_);refine gb (wpAny_layCells _ (λname kind cells=>by cases hkc:kind==NameKind.cell<;>simp[hkc]) _ _ _ _ ?_);have ok:=cellsFrom_ok scope.names (s.heap.push { cls:=.type "dict",data:=.dict #[] }) (66+1) [] ⟨λ_ _ hm=>(nomatch hm),List.Pairwise.nil⟩ (by rw[Heap.size_push];exact gg _);rw[Heap.size_push,By,i4]at ok;rw[show({ s with heap:=s.heap.push { cls:=.type "dict",data:=.dict #[] } }:Shared).heap.objs.size=66+1 from Heap.size_push ..];refine gb (gh (gh ?_));exact hQ _ (λb o e=>pushCells_keeps _ _ b o (73 _ e)) ((Heap.Ns.new s.heap (.type "dict")).keeps (pushCells_keeps _ _)) (λx c hc=>⟨(ok.empty x c (mem_of_lookup hc)).1,(ok.empty x c (mem_of_lookup hc)).2⟩) ok.apart
theorem Kv:∀{names:List (Str×NameKind)} {x:Str} {k k':NameKind},(names.map (·.1)).Nodup->(x,k)∈names->(x,k')∈names->k=k'
 |[],_,_,_,_,h,_=>by cases h
 |(y,q)::r,x,k,k',nd,h,h'=>by
   have nd:(y::r.map (·.1)).Nodup:=nd;obtain⟨n1,n2⟩:=nodup_cons.mp nd;have out:∀{z:NameKind},(y,z)∈r->False:=λm=>n1 (mem_map.mpr ⟨_,m,rfl⟩);rcases mem_cons.mp h with e|e<;>rcases mem_cons.mp h' with e'|e'
   .cases e;cases e';rfl
   .cases e;exact(out e').elim
   .cases e';exact(out e).elim
   .exact Kv n2 e e'
theorem Gy{env:Env}{x:Str}:∀{names:List (Str×NameKind)},names.lookup x=some .free ->
 (names.map λ(n,k)=>if 83 then(n,NameKind.cell)else(n,k)).lookup x=some .cell ∨
 (names.map λ(n,k)=>if 83 then(n,NameKind.cell)else(n,k)).lookup x=some .free
 |[],h=>by simp at h
 |(n,k)::r,h=>by
   have ih:=@Gy env x r;show List.lookup x ((if 83=true then(n,NameKind.cell)else(n,k))::_)=_∨List.lookup x ((if 83=true then(n,NameKind.cell)else(n,k))::_)=_;cases hx:x==n with
   |true=>
    simp only[gO,hx]at h;cases h;by_cases hc:(NameKind.free==NameKind.free&&env.scope.kind==.function&&env.kindOf n==some .cell)=true
    .rw[gc hc];exact .inl (by simp only[gO,hx])
    .rw[gf hc];exact .inr (by simp only[gO,hx])
   |false=>
    simp only[gO,hx]at h;by_cases hc:83=true
    .rw[gc hc];simp only[gO,hx];exact ih h
    .rw[gf hc];simp only[gO,hx];exact ih h
theorem HW{env:Env}{x:Str}:∀{names:List (Str×NameKind)},
 ((names.map λ(n,k)=>if 83 then(n,NameKind.cell)else(n,k)).lookup x=some .cell ∨
 (names.map λ(n,k)=>if 83 then(n,NameKind.cell)else(n,k)).lookup x=some .free) ->
 names.lookup x=some .cell∨names.lookup x=some .free
 |[],h=>by simp at h
 |(n,k)::r,h=>by
   have ih:=@HW env x r;have h:List.lookup x ((if 83=true then(n,NameKind.cell)else(n,k))::_)=_∨List.lookup x ((if 83=true then(n,NameKind.cell)else(n,k))::_)=_:=h;cases hx:x==n with
   |true=>
    by_cases hc:83=true
    .have hk:k=.free:=by
      have:=(Bool.and_eq_true _ _ ▸ (Bool.and_eq_true _ _ ▸ hc).1:(k==NameKind.free)=true/\_).1;simpa using this
     exact .inr (by simp only[gO,hx,hk])
    .rw[gf hc]at h;simp only[gO,hx]at h ⊢;exact h
   |false=>
    simp only[gO,hx];refine ih ?_;by_cases hc:83=true
    .rw[gc hc]at h;simp only[gO,hx]at h;exact h
    .rw[gf hc]at h;simp only[gO,hx]at h;exact h
noncomputable def cCx(X:Cx)(N':List Str)(scope:Scope)(s:Shared)(H:Hp)(ex:List Addr):Cx:=
 { X with N:=N',s₀:=s,H₀:=H,env:=Uw scope s.heap.objs.size X.env,outer:=X.stack,ex:=ex,fn:=λx=>decide ((x,NameKind.cell)∈scope.names),pn:=[],xe:=λ_ _=>False }
structure CSc(X:Cx)(scope:Scope)(fr:List Str)(ix:List Nat):Prop where
 kind:scope.kind=.function
 nd:(scope.names.map (·.1)).Nodup
 free:(scope.names.all λy=>y.2 != .free||X.env.kindOf y.1==some .cell||X.env.kindOf y.1==some .free)=true
 frs:(fr.all λx=>scope.names.lookup x==some .free)=true
 ixs:fr.map some=ix.map λi=>X.N[i]?
 loc:(scope.names.all λy=>y.2 != .local||scope.names.lookup y.1==some .local)=true
noncomputable def Ht(n:Nat)(ix:List Nat)(σ:St):St:=96 n none++ix.map λi=>(σ[i]?).join
section
variable{X:Cx}{scope:Scope}{fr loc:List Str}{ix:List Nat}{pins:List 81}{σ:St}{H:Hp}{s:Shared}
def CSc.outer(S:CSc X scope fr ix){y:Str×NameKind}(hy:y∈scope.names)(e:y.2=.free):X.env.kindOf y.1=some .cell∨X.env.kindOf y.1=some .free:=by
 have h:=all_eq_true.mp S.free y hy;rw[e]at h;simpa using h
def CSc.clos(S:CSc X scope fr ix)(ok:X.Ok):∀y∈scope.names,y.2=.free->∃c,X.env.cells.lookup y.1=some c:=λy hy e=>ok.has y.1 (S.outer hy e)
def D6(S:CSc X scope fr ix)(ok:X.Ok){n:Nat}{x:Str}{c:Addr}(e:(cellsFrom n scope.names 87).lookup x=some c):
 (Cb n scope.names).lookup x=some c∨X.env.cells.lookup x=some c:=by
 rw[By,iK]at e;cases q:(Cb n scope.names).lookup x with
 |some d=>rw[q]at e;exact .inl e
 |none=>
  rw[q]at e;exact .inr (Dt (S.clos ok) (λ_ _ z=>by simp at z) x c e)
def NN(S:CSc X scope fr ix)(I:Inv X pins σ H s){ex:List Addr}(hex:∀b∈ex,FpOk X pins H b){h':Heap}(hk:∀b o,s.heap.get? b=some o->h'.get? b=some o)(hn:h'.Ns 66 λ_=>none)
 (ho:∀x c,(Cb (66+1) scope.names).lookup x=some c->h'.IsCell c none/\66<c) (ha:(Cb (66+1) scope.names).Pairwise λx y=>x.2≠y.2) (hlt:∀b∈ex,b<66):
 Inv (cCx X (loc++fr) scope s H ex) [] (Ht loc.length ix σ) H { s with heap:=h' }:=by
 have old:∀x c,X.env.cells.lookup x=some c->c<s.heap.objs.size:=λx c e=>let ⟨v,z⟩:=I.cell x c e;z.lt
 have lenix:fr.length=ix.length:=by simpa using i3 List.length S.ixs
 refine⟨⟨I.ok.mod,?_,I.ok.glob,I.ok.blt,gg _,?_,?_,?_,I.ok.hd,I.ok.frames,.inl rfl,?_,I.bs,gQ I.ok.bsz I.sz,?_,?_,I.stack,I.stkFree⟩,rfl,I.bare,Un.kept hk,⟨_,hn,?_⟩,?_,I.hok.fresh (gg _),?_,?_,I.hok.kept hk,?_⟩
 .exact S.kind
 .intro x y c e1 e2;rcases D6 S I.ok e1 with a|a<;>rcases D6 S I.ok e2 with b|b
  .exact name_of_addr ha (PySem.mem_of_lookup a) (PySem.mem_of_lookup b)
  .exact absurd (lt_trans (ho x c a).2 (old y c b)) (i7 _)
  .exact absurd (lt_trans (ho y c b).2 (old x c a)) (i7 _)
  .exact I.ok.inj x y c a b
 .intro x hx;rcases HW hx with e|e
  .exact isSome_iff_exists.mp (PySem.W.cellsFrom_some _ _ _ (.inl e))
  .exact isSome_iff_exists.mp (PySem.W.cellsFrom_some _ _ _ (.inr (Ct (.inr (PySem.mem_of_lookup e)))))
 .intro x c hf e;have hf:(x,NameKind.cell)∈scope.names:=ia hf;obtain⟨d,hd⟩:=Im scope.names (66+1) x hf;have e':(cellsFrom (66+1) scope.names 87).lookup x=some c:=e;rw[By,iK,hd]at e';cases e';exact il (ho x _ hd).2
 .intro b hb;refine⟨gv (hlt b hb),λx c e z=>?_⟩;rcases D6 S I.ok e with a|a
  .exact absurd (lt_trans (ho x c a).2 (by rw[z];exact hlt b hb)) (i7 _)
  .exact(hex b hb).2.2.2.2.1 x c a z
 .intro b o e hb;rcases(hex b hb).2.2.2.1 with z|z
  .exact I.ok.noex b o e z
  .exact absurd (gU (91 (I.ok.bs b o e).1) z) (i7 _)
 .intro b hb hf;rcases mem_cons.mp (I.stkSub b hf)with z|z
  .exact(hex b hb).2.1 z
  .exact(hex b hb).2.2.1 z
 .intro i x v e1 e2 e3;have e1:(loc++fr)[i]?=some x:=e1;unfold Ht at e2;by_cases hi:i<loc.length
  .rw[List.getElem?_append_left (by simpa using hi),List.getElem?_replicate]at e2;split at e2<;>cases e2
  .have hi':loc.length<=i:=Nat.not_lt.mp hi;rw[List.getElem?_append_right (by simpa using hi')]at e2;rw[List.getElem?_append_right hi']at e1;rw[List.length_replicate,List.getElem?_map]at e2;generalize hj:i-loc.length=j at e1 e2;have e4:(fr.map some)[j]?=some (some x):=by rw[List.getElem?_map,e1];rfl
   rw[S.ixs,List.getElem?_map]at e4;cases q:ix[j]? with
   |none=>rw[q]at e2;cases e2
   |some k=>
    rw[q]at e2 e4;have e2:(σ[k]?).join=some v:=Option.some.inj e2;have e4:X.N[k]?=some x:=Option.some.inj e4;have e5:σ[k]?=some (some v):=by
     cases w:σ[k]? with
     |none=>rw[w]at e2;cases e2
     |some z=>rw[w]at e2;simpa using e2
    have hfx:=all_eq_true.mp S.frs x (gJ e1);have hfx:scope.names.lookup x=some .free:=by simpa using hfx
    have hmem:=PySem.mem_of_lookup hfx;have hout:=S.outer hmem rfl;obtain⟨m,hm,hl⟩:=I.loc;obtain⟨u,r,l⟩:=hl k x v e4 e5 (.inr hout);refine⟨u,r,.inr ⟨Gy hfx,?_⟩⟩;rcases l with⟨kk,_⟩|⟨kk,c,ec,z⟩
    .rcases hout with w|w
     .rw[kk]at w;cases w
     .rw[kk]at w;cases w
    .have own0:(Cb (66+1) scope.names).lookup x=none:=by
      cases w:(Cb (66+1) scope.names).lookup x with
      |none=>rfl
      |some d=>exact absurd (Kv S.nd (Il _ _ _ _ w) hmem) 98
     have hc:(87).lookup x=some c:=by
      obtain⟨d,hd⟩:=isSome_iff_exists.mp (Ct (cells:=X.env.cells) (acc:=[]) (.inr hmem));have:=Dt (S.clos I.ok) (λ_ _ z=>by simp at z) x d hd;rw[ec]at this;cases this;exact hd
     refine⟨c,?_,z.keeps hk⟩;show(cellsFrom (66+1) scope.names 87).lookup x=some c;rw[By,iK,own0,hc];rfl
 .intro x c e;rcases D6 S I.ok e with a|a
  .exact⟨_,(ho x c a).1⟩
  .obtain⟨v,z⟩:=I.cell x c a;exact⟨v,z.keeps hk⟩
 .intro x c e;rcases D6 S I.ok e with a|a
  .exact I.hok.fresh (il (ho x c a).2)
  .exact I.freeC x c a
 .intro p hp;cases hp
 .unfold Ht;show _=(loc++fr).length;simp[lenix]
end
section
variable{prog:Program}{w:World}{A:Around}{R:Result->Shared->Prop}{s:Shared}
def Hs{elt target iter:Expr}{ifs:List Expr}{scope:Scope}{pos:Pos}{it acc:Value}{env:Env}(I:Nat->Shared->Prop)
 (turn:∀n s,I n s->wpAny 97 A (pyNext it) (λr s₁=>match r with
  |none=>R (.ok .next) s₁
  | some v=>wpAny 97 A (letOwnedTupleGo target it v) (λ_ s₁=>wpAny 97 A (assign target env v) (λ_ s₂=>
   wpAny 97 A (forIn ifs true λc r=>if r=true then do let ok <- isTrue c env (eval c env);pure (ForInStep.yield ok)else pure (ForInStep.yield r)) (λok s₃=>
    if ok=true then wpAny 97 A (eval elt env) (λx s₄=>
     wpAny 97 A (call (.builtin "list.append") [acc,x]) (λ_ s₅=>∃m,m<n/\I m s₅) (λ_ _=>False) s₄) (λ_ _=>False) s₃
    else ∃m,m<n/\I m s₃) (λ_ _=>False) s₂) (λ_ _=>False) s₁) (λ_ _=>False) s₁) (λ_ _=>False) s)
 (n:Nat) (h:I n s):
 codeAny 97 A (.compLoop (.ListComp elt [⟨target,iter,ifs,0⟩] scope pos) 0 it acc env) R s:=by
 refine codeAny_loop rfl I (λn s hI=>?_) n h;show wpAny _ A ((compTurn (.ListComp elt [⟨target,iter,ifs,0⟩] scope pos) 0 it acc env).onRaise (λx=>do noteFrame x env;theTreesLotGoes x)) _ _ s;refine wpAny_noted ?_;rw[compTurn_list];refine gb (iM (gb (gz (turn n s hI) (λr s₁ h₁=>?_) λ_ _ h'=>h'.elim)));cases r with
 |none=>exact gh h₁
 |some v=>
  refine gb (gz h₁ (λ_ s₁ h₁=>?_) λ_ _ h'=>h'.elim);refine gb (gz h₁ (λ_ s₂ h₂=>gb (gz h₂ (λok s₃ h₃=>?_) λ_ _ h'=>h'.elim)) λ_ _ h'=>h'.elim);cases ok with
  |false=>exact gh ⟨rfl,h₃⟩
  |true=>
   exact gb (gb (gz h₃ (λx s₄ h₄=>gb (gz h₄ (λ_ s₅ h₅=>gh (gh ⟨rfl,h₅⟩)) λ_ _ h'=>h'.elim)) λ_ _ h'=>h'.elim))
end
def PF(X:Cx)(ifs:List Expr)(t:TT):Prop:=
 ∀(pins:List 81) (s:Shared) (σ:St) (H:Hp) (Q:Bool->Hp->Prop),Inv X pins σ H s->t σ H Q ->
   wpAny 69 X.A (forIn ifs true λc r=>if r=true then do let ok <- isTrue c X.env (eval c X.env);pure (ForInStep.yield ok)else pure (ForInStep.yield r)) (TP X pins σ Q) X.xe s
noncomputable def T6:TT:=λ_ H Q=>Q true H
def Zo{X:Cx}:PF X [] T6:=λpins s σ H Q I h=>wpAny_tests_nil ⟨H,I,h⟩
def Zn{X:Cx}{c:Expr}{t:TT}(h:PT X c t):PF X [c] t:=λpins s σ H Q I q=>wpAny_tests_one (h pins s σ H Q I q)
def VY(J:It)(D:Addr)(σ0:St)(H0:Hp)(g:TG)(tf:TT)(te:TE)(Q:VK):Prop:=∃W:Nat->Nat->St->List V->Hp->Prop,
 (∃m,W 0 m σ0 [] (upd H0 D (.lst [])))/\∀i m σ ys H,W i m σ ys H->H D=some (.lst ys)/\
  ((J.stop i H/\Q (.ref D) H)∨(J.go i H/\ys.length<sizeLine/\∃N:St->List V->Hp->Prop,(∀σ' ys' H',N σ' ys' H'->∃m',m'<m/\W (i+1) m' σ' ys' H')/\
    ∀x H',J.yld i H x H'->g x σ H' λσ2 H2=>tf σ2 H2 λb H3=>
     if b=true then te σ2 H3 λv H4=>H4 D=some (.lst ys)/\N σ2 (ys++[v]) (upd H4 D (.lst (ys++[v])))
     else N σ2 ys H3))
noncomputable def GK(n:Nat)(ix:List Nat)(wi:TI)(g:TG)(tf:TT)(te:TE):TE:=λσ H Q=>wi σ H λJ H1=>∀D,H1 D=none->VY J D (Ht n ix σ) H1 g tf te Q
section
variable{X:Cx}
def Sk{pins:List 81}{σ:St}{H:Hp}{s:Shared}{D:Addr}{ys:List V}{x:V}{u:Value}{Q:Value->Shared->Prop}{E:Value->Shared->Prop}(I:Inv X pins σ H s)(hD:H D=some (.lst ys))(r:RelV x u)(hz:ys.length<sizeLine)
 (h:∀v s',Inv X pins σ (upd H D (.lst (ys++[x]))) s'->Q v s'):wpAny 69 X.A (call (.builtin "list.append") [.ref D,u]) Q E s:=by
 have I':=I.wish λ_ _=>False;have q:=Kw (X:=X.wish λ_ _=>False) pins s σ H (.ref D) [x] (.ref D) [u] (λv H'=>H'=upd H D (.lst (ys++[x]))) I' rfl (.cons r .nil) ⟨D,ys,x,rfl,rfl,hD,hz,rfl⟩;refine gz q (λv s' ⟨v',H',I2,_,e⟩=>?_) λ_ _ z=>False.elim z;subst e;exact h v s' I2.unwish
def XQ{elt tg iter:Expr}{ifs:List Expr}{scope:Scope}{pos:Pos}{loc fr:List Str}{ix:List Nat}{wi:TI}{g:TG}{tf:TT}{te:TE}(hc:X.calm=true)(S:CSc X scope fr ix)(hi:PI X tg iter wi)
 (hg:∀s H ex,PG (cCx X (loc++fr) scope s H ex) tg g) (hf:∀s H ex,PF (cCx X (loc++fr) scope s H ex) ifs tf) (he:∀s H ex,PE (cCx X (loc++fr) scope s H ex) elt te)
 (hs:∀x,foldedSetIterable iter X.env x=pure x:=by intro _;rfl):PE X 95 (GK loc.length ix wi g tf te):=by
 intro pins s σ H Q I h;rw[eval_ListComp];have hnames:∀y∈scope.names,y.2=.local->scope.names.lookup y.1=some .local:=λy hy e=>by
  have:=all_eq_true.mp S.loc y hy;rw[e]at this;simpa using this
 refine wpAny_comprehension_free (use:=none) rfl hs (Ee (S.clos I.ok)) S.kind hnames (thn (hi pins s σ H _ I h) λv s1 h1=>thn h1 λitv s2 h2=>?_);obtain⟨it,fp,tn,J,H2,rfl,I2,T,st2,f2,hW⟩:=h2;refine ja ?_;have fresh2:H2 s2.heap.objs.size=none:=I2.hok.fresh (gg _);have I3:=I2.lnew (its:=[]) (ys:=[]) (t':=s2.toks) .nil (gW _);obtain⟨W,⟨m0,w0⟩,turn⟩:=hW s2.heap.objs.size fresh2;have lt2:∀b∈fp,b<s2.heap.objs.size:=λb hb=>let ⟨o,e,_⟩:=T.obj 0 _ st2 b hb;91 e
 have f3:∀b∈fp,FpOk X pins 86 b:=λb hb=>⟨by rw[AE (gv (lt2 b hb))];exact(f2 b hb).1,(f2 b hb).2⟩
 have lt3:∀b∈fp,b<(s2.heap.push { cls:=.type "list",data:=.seq ([]:List Value).toArray }).objs.size:=λb hb=>by rw[Heap.size_push];exact iT (lt2 b hb)
 generalize hs3:({ s2 with heap:=s2.heap.push { cls:=.type "list",data:=.seq ([]:List Value).toArray } }:Shared)=s3 at *;have lt3:∀b∈fp,b<s3.heap.objs.size:=by rw[<- hs3];exact lt3
 have st3:tn 0 s3.heap:=T.keep _ _ _ st2 λb hb o e=>by rw[<- hs3];exact 73 _ e
 refine Oq λh' hk hn ho ha=>?_;have I4:=NN (loc:=loc) S I3 f3 hk hn ho ha lt3;have fpX:∀{H':Hp},(∀b∈fp,H' b=none)->∀b∈fp,FpOk (cCx X (loc++fr) scope s3 86 fp) [] H' b:=λhn b hb=>
  ⟨hn b hb,(I4.ok.exf b hb).1,I4.ok.exfs b hb,.inl hb,(I4.ok.exf b hb).2,λp hp=>by cases hp⟩
 have loop:codeAny 69 X.A (.compLoop 95 0 (.ref it) (.ref s2.heap.objs.size) (Uw scope s3.heap.objs.size X.env))
  (compPost 69 X.A X.xe none (EP X pins σ Q) (.ref s2.heap.objs.size) s3.heap.objs.size) { s3 with heap:=h' }:=by
  refine Hs (λn s'=>∃i σ' ys H',Inv (cCx X (loc++fr) scope s3 86 fp) [] σ' H' s'/\tn i s'.heap/\(∀b∈fp,H' b=none)/\W i n σ' ys H') ?_ m0
   ⟨0,_,[],_,I4,T.keep _ _ _ st3 λb hb o e=>hk b o e,λb hb=>(f3 b hb).1,w0⟩
  rintro n s5 ⟨i,σ5,ys,H5,I5,st5,fr5,w5⟩;obtain⟨hD,w5⟩:=turn i n σ5 ys H5 w5;rcases w5 with⟨stop,qn⟩|⟨go,hz,N,hN,step⟩
  .refine thn (T.done (cCx X (loc++fr) scope s3 86 fp) rfl rfl rfl hc i [] s5 σ5 H5 _ I5 (fpX fr5) st5 stop) λr s6 ⟨hr,I6⟩=>?_;subst hr;obtain⟨m,hm,_⟩:=I6.loc;refine⟨m,hm,λh'' hs=>?_⟩;have neC:∀b o,s3.heap.get? b=some o->b≠s3.heap.objs.size:=λb o e=>gv (91 e);have un:=I6.base;refine⟨.ref s2.heap.objs.size,H5,I3.call' (s':={ s6 with heap:=h'' }) (ch:=fp) I6.os ⟨λb o e n hb hx=>?_,λb o e n hb hx=>?_,un.free,λb o e hx=>?_,un.tups,un.frzs,un.tbls⟩ ?_ I6.bare ?_,rfl,qn⟩
   .exact(hs.2 b (neC b o e)).trans (un.keep b o e n hb hx)
   .obtain⟨sl,q⟩:=un.slot b o e n hb hx;exact⟨sl,(hs.2 b (neC b o e)).trans q⟩
   .obtain⟨o',q⟩:=un.there b o e hx;exact⟨o',(hs.2 b (neC b o e)).trans q⟩
   .intro b ob e;have hfree:H5 s3.heap.objs.size=none:=I6.free;refine(I6.hok b ob e).stay (λc w' hc q=>(hs.2 c ?_).trans q) (λ_ q=>q) λ_ _ q=>q;intro z;rcases hc with hc|hc
    .rw[<- hc,z,hfree]at e;cases e
    .rw[z,hfree]at hc;cases hc
   .intro b hb;obtain⟨_,a2,_,a4,a5,a6⟩:=f3 b hb;exact⟨a4,a2,a5,a6⟩
  .refine thn (T.item (cCx X (loc++fr) scope s3 86 fp) rfl rfl rfl hc i [] s5 σ5 H5 _ I5 (fpX fr5) st5 go) λr s6 ⟨u,hr,h6⟩=>?_;subst hr;refine thn h6 λ_ s7 ⟨x,H7,I7,r7,y7,st7,fr7⟩=>?_;have I7':=I7.pinned (fpX fr7) (T.obj _ _ st7);have keepI:∀{σ8:St} {H8:Hp} {s8:Shared},Inv (cCx X (loc++fr) scope s3 86 fp) ([]++Fw fp s7.heap) σ8 H8 s8->tn (i+1) s8.heap/\∀b∈fp,H8 b=none:=λ{σ8 H8 s8} I8=>by
    refine⟨T.keep _ _ _ st7 λb hb o e=>(I8.pin (b,o) (gn _ (gn _ (Cs hb e)))).1,λb hb=>?_⟩;obtain⟨o,e,d⟩:=T.obj _ _ st7 b hb;exact(I8.pin (b,o) (gn _ (gn _ (Cs hb e)))).2.1
   refine thn (hg s3 86 fp _ s7 σ5 H7 x u _ I7' r7 (step x H7 y7)) λ_ s8 ⟨σ8,H8,I8,q8⟩=>?_;refine thn (hf s3 86 fp _ s8 σ8 H8 _ I8 q8) λb s9 ⟨H9,I9,q9⟩=>?_;cases b with
   |false=>
    rw[gf Bool.false_ne_true]at q9 ⊢;obtain⟨m',hm,w9⟩:=hN _ _ _ q9;exact⟨m',hm,i+1,σ8,ys,H9,I9.unpinned,(keepI I9).1,(keepI I9).2,w9⟩
   |true=>
    rw[gc rfl]at q9 ⊢;refine thn (he s3 86 fp _ s9 σ8 H9 _ I9 q9) λe10 s10 ⟨v10,H10,I10,r10,hD10,n10⟩=>?_;obtain⟨m',hm,w10⟩:=hN _ _ _ n10;refine Sk (X:=cCx X (loc++fr) scope s3 86 fp) I10 hD10 r10 hz λ_ s11 I11=>?_;exact⟨m',hm,i+1,σ8,_,_,I11.unpinned,(keepI I11).1,(keepI I11).2,w10⟩
 exact codeAny_compStart_list loop (T.self X.A 0 _ _ _ (T.keep _ _ _ st3 λb hb o e=>hk b o e) loop)
end
section
variable{X:Cx}
def Ql{elt tg iter:Expr}{ifs:List Expr}{scope:Scope}{pos:Pos}{loc fr:List Str}{ix:List Nat}{g:TG}{tf:TT}{te:TE}{pins:List 81}{σ:St}{Q:VK}{it:Addr}{fp:List Addr}{tn:Nat->Heap->Prop}{J:It}{H2:Hp}{s2:Shared}{E:Value->Shared->Prop}
 {RR:Value->Addr->Result->Shared->Prop} (hc:X.calm=true) (S:CSc X scope fr ix)
 (hg:∀s H ex,PG (cCx X (loc++fr) scope s H ex) tg g) (hf:∀s H ex,PF (cCx X (loc++fr) scope s H ex) ifs tf) (he:∀s H ex,PE (cCx X (loc++fr) scope s H ex) elt te)
 (I2:Inv X pins σ H2 s2) (T:Turn X.prog X.w X.K tg J fp it tn) (st2:tn 0 s2.heap) (f2:∀b∈fp,FpOk X pins H2 b) (hW:∀D,H2 D=none->VY J D (Ht loc.length ix σ) H2 g tf te Q)
 (hfin:∀(s3 s6:Shared) (H5:Hp) (σ5:St) (D:Addr),Inv X pins σ (upd H2 D (.lst [])) s3->Inv (cCx X (loc++fr) scope s3 (upd H2 D (.lst [])) fp) [] σ5 H5 s6->(∀b∈fp,FpOk X pins (upd H2 D (.lst [])) b)->Q (.ref D) H5->RR (.ref D) s3.heap.objs.size (.ok .next) s6):
 wpAny 69 X.A (newList []) (λacc s₃=>wpAny 69 X.A (newFunctionEnv scope X.env.globals 87 [] X.env.qual none .none (some X.env)) (λcenv s₄=>
  codeAny 69 X.A (.compStart 95 0 (.ref it) acc { cenv with scope:=relabel scope X.env }) (RR acc cenv.locals) s₄) E s₃) E s2:=by
 refine ja ?_;have fresh2:H2 s2.heap.objs.size=none:=I2.hok.fresh (gg _);have I3:=I2.lnew (its:=[]) (ys:=[]) (t':=s2.toks) .nil (gW _);obtain⟨W,⟨m0,w0⟩,turn⟩:=hW s2.heap.objs.size fresh2;have lt2:∀b∈fp,b<s2.heap.objs.size:=λb hb=>let ⟨o,e,_⟩:=T.obj 0 _ st2 b hb;91 e
 have f3:∀b∈fp,FpOk X pins 86 b:=λb hb=>⟨by rw[AE (gv (lt2 b hb))];exact(f2 b hb).1,(f2 b hb).2⟩
 have lt3:∀b∈fp,b<(s2.heap.push { cls:=.type "list",data:=.seq ([]:List Value).toArray }).objs.size:=λb hb=>by rw[Heap.size_push];exact iT (lt2 b hb)
 generalize hs3:({ s2 with heap:=s2.heap.push { cls:=.type "list",data:=.seq ([]:List Value).toArray } }:Shared)=s3 at *;have lt3:∀b∈fp,b<s3.heap.objs.size:=by rw[<- hs3];exact lt3
 have st3:tn 0 s3.heap:=T.keep _ _ _ st2 λb hb o e=>by rw[<- hs3];exact 73 _ e
 refine Oq λh' hk hn ho ha=>?_;have I4:=NN (loc:=loc) S I3 f3 hk hn ho ha lt3;have fpX:∀{H':Hp},(∀b∈fp,H' b=none)->∀b∈fp,FpOk (cCx X (loc++fr) scope s3 86 fp) [] H' b:=λhn b hb=>
  ⟨hn b hb,(I4.ok.exf b hb).1,I4.ok.exfs b hb,.inl hb,(I4.ok.exf b hb).2,λp hp=>by cases hp⟩
 have loop:codeAny 69 X.A (.compLoop 95 0 (.ref it) (.ref s2.heap.objs.size) (Uw scope s3.heap.objs.size X.env))
  (RR (.ref s2.heap.objs.size) s3.heap.objs.size) { s3 with heap:=h' }:=by
  refine Hs (λn s'=>∃i σ' ys H',Inv (cCx X (loc++fr) scope s3 86 fp) [] σ' H' s'/\tn i s'.heap/\(∀b∈fp,H' b=none)/\W i n σ' ys H') ?_ m0
   ⟨0,_,[],_,I4,T.keep _ _ _ st3 λb hb o e=>hk b o e,λb hb=>(f3 b hb).1,w0⟩
  rintro n s5 ⟨i,σ5,ys,H5,I5,st5,fr5,w5⟩;obtain⟨hD,w5⟩:=turn i n σ5 ys H5 w5;rcases w5 with⟨stop,qn⟩|⟨go,hz,N,hN,step⟩
  .refine thn (T.done (cCx X (loc++fr) scope s3 86 fp) rfl rfl rfl hc i [] s5 σ5 H5 _ I5 (fpX fr5) st5 stop) λr s6 ⟨hr,I6⟩=>?_;subst hr;exact hfin s3 s6 H5 σ5 s2.heap.objs.size I3 I6 f3 qn
  .refine thn (T.item (cCx X (loc++fr) scope s3 86 fp) rfl rfl rfl hc i [] s5 σ5 H5 _ I5 (fpX fr5) st5 go) λr s6 ⟨u,hr,h6⟩=>?_;subst hr;refine thn h6 λ_ s7 ⟨x,H7,I7,r7,y7,st7,fr7⟩=>?_;have I7':=I7.pinned (fpX fr7) (T.obj _ _ st7);have keepI:∀{σ8:St} {H8:Hp} {s8:Shared},Inv (cCx X (loc++fr) scope s3 86 fp) ([]++Fw fp s7.heap) σ8 H8 s8->tn (i+1) s8.heap/\∀b∈fp,H8 b=none:=λ{σ8 H8 s8} I8=>by
    refine⟨T.keep _ _ _ st7 λb hb o e=>(I8.pin (b,o) (gn _ (gn _ (Cs hb e)))).1,λb hb=>?_⟩;obtain⟨o,e,d⟩:=T.obj _ _ st7 b hb;exact(I8.pin (b,o) (gn _ (gn _ (Cs hb e)))).2.1
   refine thn (hg s3 86 fp _ s7 σ5 H7 x u _ I7' r7 (step x H7 y7)) λ_ s8 ⟨σ8,H8,I8,q8⟩=>?_;refine thn (hf s3 86 fp _ s8 σ8 H8 _ I8 q8) λb s9 ⟨H9,I9,q9⟩=>?_;cases b with
   |false=>
    rw[gf Bool.false_ne_true]at q9 ⊢;obtain⟨m',hm,w9⟩:=hN _ _ _ q9;exact⟨m',hm,i+1,σ8,ys,H9,I9.unpinned,(keepI I9).1,(keepI I9).2,w9⟩
   |true=>
    rw[gc rfl]at q9 ⊢;refine thn (he s3 86 fp _ s9 σ8 H9 _ I9 q9) λe10 s10 ⟨v10,H10,I10,r10,hD10,n10⟩=>?_;obtain⟨m',hm,w10⟩:=hN _ _ _ n10;refine Sk (X:=cCx X (loc++fr) scope s3 86 fp) I10 hD10 r10 hz λ_ s11 I11=>?_;exact⟨m',hm,i+1,σ8,_,_,I11.unpinned,(keepI I11).1,(keepI I11).2,w10⟩
 exact codeAny_compStart_list loop (T.self X.A 0 _ _ _ (T.keep _ _ _ st3 λb hb o e=>hk b o e) loop)
def OL{scope:Scope}{N':List Str}{fp:List Addr}{pins:List 81}{σ σ5:St}{H3 H5:Hp}{s3 s6:Shared}{h'':Heap}(I3:Inv X pins σ H3 s3)(I6:Inv (cCx X N' scope s3 H3 fp) [] σ5 H5 s6)(f3:∀b∈fp,FpOk X pins H3 b)
 (hs:Heap.SameBut s3.heap.objs.size s6.heap h''):Inv X pins σ H5 { s6 with heap:=h'' }:=by
 have neC:∀b o,s3.heap.get? b=some o->b≠s3.heap.objs.size:=λb o e=>gv (91 e);have un:=I6.base;refine I3.call' (s':={ s6 with heap:=h'' }) (ch:=fp) I6.os ⟨λb o e n hb hx=>?_,λb o e n hb hx=>?_,un.free,λb o e hx=>?_,un.tups,un.frzs,un.tbls⟩ ?_ I6.bare ?_
 .exact(hs.2 b (neC b o e)).trans (un.keep b o e n hb hx)
 .obtain⟨sl,q⟩:=un.slot b o e n hb hx;exact⟨sl,(hs.2 b (neC b o e)).trans q⟩
 .obtain⟨o',q⟩:=un.there b o e hx;exact⟨o',(hs.2 b (neC b o e)).trans q⟩
 .intro b ob e;have hfree:H5 s3.heap.objs.size=none:=I6.free;refine(I6.hok b ob e).stay (λc w' hc q=>(hs.2 c ?_).trans q) (λ_ q=>q) λ_ _ q=>q;intro z;rcases hc with hc|hc
  .rw[<- hc,z,hfree]at e;cases e
  .rw[z,hfree]at hc;cases hc
 .intro b hb;obtain⟨_,a2,_,a4,a5,a6⟩:=f3 b hb;exact⟨a4,a2,a5,a6⟩
def X2{i:Nat}{y:Str}{elt tg iter:Expr}{ifs:List Expr}{scope:Scope}{pos spos py:Pos}{loc fr:List Str}{ix:List Nat}{wi:TI}{g:TG}{tf:TT}{te:TE}(hN:X.N.Nodup)(hiN:X.N[i]?=some y)(hy:X.env.scope.names.lookup y=some .local)
 (hc:X.calm=true) (S:CSc X scope fr ix) (hi:PI X tg iter wi)
 (hg:∀s H ex,PG (cCx X (loc++fr) scope s H ex) tg g) (hf:∀s H ex,PF (cCx X (loc++fr) scope s H ex) ifs tf) (he:∀s H ex,PE (cCx X (loc++fr) scope s H ex) elt te)
 (hsw:swapsWith 95 (some (.Name y py)) spos.line X.env=pure true:=by rfl) (hs:∀x,foldedSetIterable iter X.env x=pure x:=by intro _;rfl):
 PS X (.Assign [.Name y py] 95 spos) (Ey (GK loc.length ix wi g tf te) (EF i)):=by
 intro pins s σ H D I h;have hnames:∀y∈scope.names,y.2=.local->scope.names.lookup y.1=some .local:=λy hy e=>by
  have:=all_eq_true.mp S.loc y hy;rw[e]at this;simpa using this
 rw[exec_Assign_Name_used _ _ _ _ hsw];refine gb (iM (gb ?_));show wpAny _ _ (do let _ <- comprehension 95 scope X.env _ (newList []) false (eval iter X.env) (some (assign (.Name y py) X.env))) _ _ s;refine gb (gz (wpAny_comprehension_free (use:=some (assign (.Name y py) X.env)) (Q:=λ_ s'=>SP X pins D .next s') rfl hs (Ee (S.clos I.ok)) S.kind hnames
  (thn (hi pins s σ H _ I h) λv s1 h1=>thn h1 λitv s2 h2=>?_)) (λ_ s' hq=>gh (gh hq)) λ_ _ e=>e)
 obtain⟨it,fp,tn,J,H2,rfl,I2,T,st2,f2,hW⟩:=h2;refine Ql (RR:=λacc C=>compPost 69 X.A X.xe (some (assign (.Name y py) X.env)) (λ_ s'=>SP X pins D .next s') acc C) hc S hg hf he I2 T st2 f2 hW λs3 s6 H5 σ5 L I3 I6 f3 q=>?_;have J6:Inv X pins σ H5 s6:=OL (h'':=s6.heap) I3 I6 f3 (.refl ..);obtain⟨m,hm,_⟩:=I6.loc;have hm:s6.heap.Ns s3.heap.objs.size m:=hm;have hL:s3.heap.objs.size≠X.env.locals:=Ne.symm (gv I3.lt);show wpAny _ _ (assign (.Name y py) X.env (.ref L)) _ _ s6;refine wpAny_assign_Name (Km (v:=.ref L) J6 hN hiN (.inl hy) rfl (λs7 I7 ⟨a,sb,ha⟩=>?_) (.inr hy));have hca:s3.heap.objs.size≠a:=by
  rcases ha with rfl|ha
  .exact hL
  .obtain⟨v,z⟩:=I3.cell y a ha;exact Ne.symm (gv z.lt)
 refine⟨m,hm.sameBut sb hca,λh' hs'=>?_⟩;refine⟨_,H5,I7.turned (t':=s7.toks) (it:=s3.heap.objs.size) (λb o hb e=>(hs'.2 b hb).trans e) I6.free hL (.inr I3.sz) (λx c e z=>?_) (λp hp z=>?_),q⟩
 .obtain⟨v,w⟩:=I3.cell x c e;exact absurd w.lt (by rw[z];exact i7 _)
 .exact absurd (91 (I3.pin p hp).1) (by rw[z];exact i7 _)
end
mutual
noncomputable def Rep(K:Frag)(H:Hp):PyData->V->Prop
 |.none,v=>v=.non
 |.bool b,v=>v=.bl b
 |.int i,v=>v=.int i
 |.str x,v=>v=.str x
 |.list ds,v=>∃a xs,v=.ref a/\SqL K H a xs/\RepAll K H ds xs
 |.tuple ds,v=>∃a xs,v=.ref a/\SqT K H a xs/\RepAll K H ds xs
 |.dict _,_=>False
noncomputable def RepAll(K:Frag)(H:Hp):List PyData->List V->Prop
 |[],xs=>xs=[]
 |d::ds,xs=>∃x r,xs=x::r/\Rep K H d x/\RepAll K H ds r
end
section
variable{X:Cx}{pins:List 81}{σ:St}{H:Hp}{s:Shared}
mutual
theorem EO(I:Inv X pins σ H s):∀(d:PyData) (v:V) (u:Value),Rep X.K H d v->RelV v u->∃as,Reads s.heap u d as
 |.none,v,u,h,r=>by
  have h:v=.non:=by simpa only[Rep]using h
  subst h;cases r;exact⟨_,.none⟩
 |.bool b,v,u,h,r=>by
  have h:v=.bl b:=by simpa only[Rep]using h
  subst h;cases r;exact⟨_,.bool b⟩
 |.int i,v,u,h,r=>by
  have h:v=.int i:=by simpa only[Rep]using h
  subst h;obtain⟨t,rfl⟩:=r;exact⟨_,.int i t⟩
 |.str x,v,u,h,r=>by
  have h:v=.str x:=by simpa only[Rep]using h
  subst h;obtain⟨t,rfl⟩:=r;exact⟨_,.str x t⟩
 |.list ds,v,u,h,r=>by
  have h:∃a xs,v=.ref a/\SqL X.K H a xs/\RepAll X.K H ds xs:=by simpa only[Rep]using h
  obtain⟨a,xs,rfl,hq,ha⟩:=h;cases r;obtain⟨its,rv,⟨o,n,e,c,_,dd⟩,hz⟩:=I.list hq;obtain⟨as,q⟩:=F0 I ds xs its ha rv;exact⟨_,.list e c dd (by simpa using q)⟩
 |.tuple ds,v,u,h,r=>by
  have h:∃a xs,v=.ref a/\SqT X.K H a xs/\RepAll X.K H ds xs:=by simpa only[Rep]using h
  obtain⟨a,xs,rfl,hq,ha⟩:=h;cases r;obtain⟨its,rv,⟨o,e,c,n,dd⟩,hz⟩:=I.tuple hq;obtain⟨as,q⟩:=F0 I ds xs its ha rv;exact⟨_,.tuple e c dd (by simpa using q)⟩
 |.dict _,v,u,h,r=>by
  have h:False:=by simpa only[Rep]using h
  exact h.elim
theorem F0(I:Inv X pins σ H s):∀(ds:List PyData) (xs:List V) (us:List Value),RepAll X.K H ds xs->Vals xs us->∃as,ReadsAll s.heap us ds as
 |[],xs,us,h,r=>by
  have h:xs=[]:=by simpa only[RepAll]using h
  subst h;cases r;exact⟨_,.nil⟩
 |d::ds,xs,us,h,r=>by
  have h:∃x r,xs=x::r/\Rep X.K H d x/\RepAll X.K H ds r:=by simpa only[RepAll]using h
  obtain⟨x,rr,rfl,h1,h2⟩:=h;cases r with
  |cons r1 r2=>
   obtain⟨as,q1⟩:=EO I d _ _ h1 r1;obtain⟨bs,q2⟩:=F0 I ds _ _ h2 r2;exact⟨_,.cons q1 q2⟩
end
end
noncomputable def Stb:HO->Prop
 |.tup _=>True
 |.frz _ _=>True
 |.ext _=>True
 |.xd _=>True
 |_=>False
structure Grow(H H':Hp):Prop where
 keep:∀b o,Stb o->H b=some o->H' b=some o
theorem Grow.tup{H H':Hp}(g:Grow H H'):∀b xs,H b=some (.tup xs)->H' b=some (.tup xs):=λb _ h=>g.keep b _ trivial h
theorem Grow.frz{H H':Hp}(g:Grow H H'):∀b o u,H b=some (.frz o u)->H' b=some (.frz o u):=λb _ _ h=>g.keep b _ trivial h
def Grow.refl{H:Hp}:Grow H H:=⟨λ_ _ _ h=>h⟩
def Chg(H:Hp)(p:Addr):Prop:=∀o,Stb o->H p≠some o
def Grow.put{H H':Hp}{p:Addr}{o:HO}(a:Grow H H')(h:Chg H' p):Grow H (upd H' p o):=⟨λc u s e=>by
 have q:=a.keep c u s e;have n:c≠p:=λz=>h u s (by rw[<- z];exact q);rw[AE n];exact q⟩
theorem Chg.lst{H:Hp}{p:Addr}{xs:List V}(h:H p=some (.lst xs)):Chg H p:=λo s e=>by rw[h]at e;cases e;exact s
def Grow.sq{K:Frag}{H H':Hp}{a:Addr}{xs:List V}(g:Grow H H')(h:SqT K H a xs):SqT K H' a xs:=by
 rcases h with(h|⟨o,h⟩)|h
 .exact .inl (.inl (g.tup _ _ h))
 .exact .inl (.inr ⟨o,g.frz _ _ _ h⟩)
 .exact .inr h
mutual
/-- no list in it -/
noncomputable def Imm:PyData->Bool
 |.none|.bool _|.int _|.str _=>true
 |.list _=>false
 |.tuple ds=>Hy ds
 |.dict _=>false
noncomputable def Hy:List PyData->Bool
 |[]=>true
 |d::ds=>Imm d&&Hy ds
end
mutual
theorem Rep.grow{K:Frag}{H H':Hp}(g:Grow H H'):∀(d:PyData) (v:V),Imm d=true->Rep K H d v->Rep K H' d v
 |.none,v,_,h=>by simpa only[Rep]using h
 |.bool b,v,_,h=>by simpa only[Rep]using h
 |.int i,v,_,h=>by simpa only[Rep]using h
 |.str x,v,_,h=>by simpa only[Rep]using h
 |.list ds,v,m,h=>by simp[Imm]at m
 |.tuple ds,v,m,h=>by
  have h:∃a xs,v=.ref a/\SqT K H a xs/\RepAll K H ds xs:=by simpa only[Rep]using h
  obtain⟨a,xs,e,hq,ha⟩:=h;simp only[Rep];exact⟨a,xs,e,g.sq hq,RepAll.grow g ds xs (by simpa only[Imm]using m) ha⟩
 |.dict _,v,m,h=>by simp[Imm]at m
theorem RepAll.grow{K:Frag}{H H':Hp}(g:Grow H H'):∀(ds:List PyData) (xs:List V),Hy ds=true->RepAll K H ds xs->RepAll K H' ds xs
 |[],xs,_,h=>by simpa only[RepAll]using h
 |d::ds,xs,m,h=>by
  have h:∃x r,xs=x::r/\Rep K H d x/\RepAll K H ds r:=by simpa only[RepAll]using h
  obtain⟨x,r,e,h1,h2⟩:=h;have m:Imm d=true/\Hy ds=true:=by simpa [Hy]using m
  simp only[RepAll];exact⟨x,r,e,Rep.grow g d x m.1 h1,RepAll.grow g ds r m.2 h2⟩
end
section
variable{X:Cx}
noncomputable def Tq(K:Frag):R2:=λx y H Q=>∃d e,Rep K H d x/\Rep K H e y/\d.canLay0=true/\e.canLay0=true/\min d.depth e.depth<=60/\Q (.bl (!PyData.eqv d e)) H
noncomputable def Ts(K:Frag):R2:=λx y H Q=>∃d e,Rep K H d x/\Rep K H e y/\d.canLay0=true/\e.canLay0=true/\min d.depth e.depth<=60/\Q (.bl (PyData.eqv d e)) H
def aC(hu:X.A.units+64<cLine):OpR X (compareOp .NotEq) (Tq X.K):=by
 intro pins s σ H x y v u Q I rx ry h;obtain⟨d,e,h1,h2,c1,c2,hm,q⟩:=h;obtain⟨as,q1⟩:=EO I d x v h1 rx;obtain⟨bs,q2⟩:=EO I e y u h2 ry;exact PySem.SeqAt.compareNe_reads q1 q2 c1 c2 67 ⟨.bl _,H,I,rfl,q⟩
def aF(hu:X.A.units+64<cLine):OpR X (compareOp .Eq) (Ts X.K):=by
 intro pins s σ H x y v u Q I rx ry h;obtain⟨d,e,h1,h2,c1,c2,hm,q⟩:=h;obtain⟨as,q1⟩:=EO I d x v h1 rx;obtain⟨bs,q2⟩:=EO I e y u h2 ry;exact PySem.SeqAt.compareEq_reads q1 q2 c1 c2 67 ⟨.bl _,H,I,rfl,q⟩
theorem DT:∀{ns:List Int} {us:List Value},Vals (ns.map V.int) us->IntsAre us ns
 |[],_,.nil=>.nil
 |n::ns,_,.cons r t=>by obtain⟨k,rfl⟩:=r;exact .cons _ _ (DT t)
def Sh(hc:X.calm=true):CallR X (.builtin "sum") (λxs H Q=>∃(a:Addr) (ns:List Int),xs=[.ref a]/\SqL X.K H a (ns.map V.int)/\Q (.int ns.sum) H):=by
 intro pins s σ H xs us Q I r h;obtain⟨a,ns,rfl,hq,q⟩:=h;obtain⟨u,rfl,ru⟩:=Bi r;cases ru;obtain⟨its,rv,p,hz⟩:=I.list hq;have hi:=DT rv;obtain⟨xs,hx⟩:=hi.allInts.items;have hl':s.heap.IsList a (intItems xs):=hx ▸ p.isList;refine sum_intListG (I.ok.hd hc) hl' λh' tk t' hk=>?_;have e1:ns=xs.toList.map (·.1):=by
  rw[<- jh,<- hx];exact(show numsOf its.toArray.toList=ns from hi.numsOf).symm
 have e2:preSum (numAt xs) xs.size=ns.sum:=by
  rw[preSum_eq,List.take_of_length_le 77,e1]
 rw[e2];exact⟨.int ns.sum,H,I.kept hk,⟨_,rfl⟩,q⟩
end
end L2
namespace L2
open PySem PySem.Spec PyProof.Rows
section
variable(K:Frag){X:Cx}
def NM(hK:X.K=K:=by rfl):IxR X (KF K):=by subst hK;exact Xo
def P0(hK:X.K=K:=by rfl):IxR X (Tr K):=by subst hK;exact aU
def TN(hK:X.K=K:=by rfl):SlR X (Pz K):=by subst hK;exact Vn
def S5(hK:X.K=K:=by rfl):OpR X (compareOp .NotIn) (rIn K true):=by subst hK;exact N1
def Op(hu:X.A.units+64<cLine)(hK:X.K=K:=by rfl):OpR X (compareOp .Eq) (Ts K):=by subst hK;exact aF hu
def KH(hu:X.A.units+64<cLine)(hK:X.K=K:=by rfl):OpR X (compareOp .NotEq) (Tq K):=by subst hK;exact aC hu
def N2(hK:X.K=K:=by rfl):OpR X (binaryOp .Add) (Q2 K):=by subst hK;exact XV
def Z0:List V->Hp->VK->Prop:=λxs H Q=>∃p ys,xs=[.ref p]/\(SqL K H p ys∨SqT K H p ys)/\Q (.int ys.length) H
def LP(hK:X.K=K:=by rfl):CallR X (.builtin "len") (Z0 K):=by subst hK;exact Nn
def KD:List V->Hp->VK->Prop:=λxs H Q=>∃p ys,xs=[.ref p]/\(SqL K H p ys∨SqT K H p ys)/\∀l,H l=none->Q (.ref l) (upd H l (.lst ys))
def Qn(hK:X.K=K:=by rfl):CallR X (.type "list") (KD K):=by subst hK;exact Nm
def Mt:List V->Hp->VK->Prop:=λxs H Q=>∃p ys,xs=[.ref p]/\((SqL K H p ys/\∀l,H l=none->Q (.ref l) (upd H l (.tup ys)))∨(SqT K H p ys/\Q (.ref p) H))
def IZ(hK:X.K=K:=by rfl):CallR X (.type "tuple") (Mt K):=by subst hK;exact Ll
def VB:List V->Hp->VK->Prop:=λxs H Q=>∃(a:Addr) (ns:List Int),xs=[.ref a]/\SqL K H a (ns.map V.int)/\Q (.int ns.sum) H
def LL(hc:X.calm=true)(hK:X.K=K:=by rfl):CallR X (.builtin "sum") (VB K):=by subst hK;exact Sh hc
def Mz{tg l:Expr}{tl:TE}(hl:PE X l tl)(hK:X.K=K:=by rfl):PI X tg l (IF K tl):=by subst hK;exact XD hl
def XC{tg l:Expr}{tl:TE}(hl:PE X l tl)(hK:X.K=K:=by rfl):PI X tg l (QY K tl):=by subst hK;exact Zk hl
def XF{pos:Pos}{es:List Expr}{k:Nat}{t:TGs}{n:Nat}(hc:X.calm=true)(h:PGs X es t)(hK:X.K=K:=by rfl)
 (hn:(assignEach es X.env).length=n:=by rfl) (hst:(assignEach es X.env).findIdx? (·.1)=none:=by rfl):PG X (.Tuple es k pos) (Qc K n t):=by
 subst hK;exact Zl hc h hn hst
end
section
variable(K:Frag){X:Cx}
theorem Hv:∀{bs:List Bool} {us:List Value} {i:Nat} {v:Value},Vals (bs.map V.bl) us->us[i]?=some v->∃b,bs[i]?=some b/\v=.bool b
 |[],_,_,_,.nil,e=>by simp at e
 |b::bs,_,0,_,.cons r _,e=>by simp at e;subst e;exact⟨b,rfl,r⟩
 |b::bs,_,i+1,_,.cons _ t,e=>by
  obtain⟨c,h1,h2⟩:=Hv (i:=i) t (by simpa using e);exact⟨c,by simpa using h1,h2⟩
def Z2:List V->Hp->VK->Prop:=λxs H Q=>∃(a:Addr) (bs:List Bool),xs=[.ref a]/\SqL K H a (bs.map V.bl)/\Q (.bl (bs.all id)) H
def Z1:List V->Hp->VK->Prop:=λxs H Q=>∃(a:Addr) (bs:List Bool),xs=[.ref a]/\SqL K H a (bs.map V.bl)/\Q (.bl (bs.any id)) H
def LR(hc:X.calm=true)(hK:X.K=K:=by rfl):CallR X (.builtin "all") (Z2 K):=by
 subst hK;intro pins s σ H xs us Q I r h;obtain⟨a,bs,rfl,hq,q⟩:=h;obtain⟨u,rfl,ru⟩:=Bi r;cases ru;obtain⟨its,rv,p,hz⟩:=I.list hq;have hl:=p.isList;have hlen:=rv.length;have hlt:a<s.heap.objs.size:=by obtain⟨_,e,_⟩:=hl;exact 91 e
 refine call_all_walk (wpAny_pyIter_list hl ?_);refine⟨66,[66,a],[66],its.toArray.size,_,_,λi=>(bs[i]?).getD true,rfl,Walks.list (A:=X.A.in1) (I.ok.hd hc) _ a (gv hlt) its.toArray,
  ⟨⟨_,89 _ rfl,rfl,rfl⟩,hl.push _⟩,λi v s' Q' E' hP hQ=>?_,λh' tk hk=>?_⟩
 .obtain⟨b,e,rfl⟩:=Hv rv (by simpa using hP);simp only[e,getD_some]at hQ;exact iI hQ
 .have e:((71 its.toArray.size).all λi=>(bs[i]?).getD true)=bs.all id:=by
   rw[gu,<- hlen,gy];exact LSm.range_all bs
  rw[e];exact⟨.bl _,H,I.kept (LSm.kept_iter hk),rfl,q⟩
def LQ(hc:X.calm=true)(hK:X.K=K:=by rfl):CallR X (.builtin "any") (Z1 K):=by
 subst hK;intro pins s σ H xs us Q I r h;obtain⟨a,bs,rfl,hq,q⟩:=h;obtain⟨u,rfl,ru⟩:=Bi r;cases ru;obtain⟨its,rv,p,hz⟩:=I.list hq;have hl:=p.isList;have hlen:=rv.length;have hlt:a<s.heap.objs.size:=by obtain⟨_,e,_⟩:=hl;exact 91 e
 refine call_any_walk (wpAny_pyIter_list hl ?_);refine⟨66,[66,a],[66],its.toArray.size,_,_,λi=>(bs[i]?).getD false,rfl,Walks.list (A:=X.A.in1) (I.ok.hd hc) _ a (gv hlt) its.toArray,
  ⟨⟨_,89 _ rfl,rfl,rfl⟩,hl.push _⟩,λi v s' Q' E' hP hQ=>?_,λh' tk hk=>?_⟩
 .obtain⟨b,e,rfl⟩:=Hv rv (by simpa using hP);simp only[e,getD_some]at hQ;exact iI hQ
 .have e:((71 its.toArray.size).any λi=>(bs[i]?).getD false)=bs.any id:=by
   rw[gu,<- hlen,gy];exact LSm.range_any bs
  rw[e];exact⟨.bl _,H,I.kept (LSm.kept_iter hk),rfl,q⟩
def KC:List V->Hp->VK->Prop:=λxs H Q=>∃(a:Addr) (ns:List Int),xs=[.ref a]/\SqL K H a (ns.map V.int)/\ns.length<64/\∀(p:Addr) (ns':List Int),H p=none->ns'.Perm ns->ns'.Pairwise (·<=·)->Q (.ref p) (upd H p (.lst (ns'.map V.int)))
theorem K1:∀{ns:List Int} {us:List Value},IntsAre us ns->Vals (ns.map V.int) us
 |[],_,.nil=>.nil
 |_::_,_,.cons _ _ t=>.cons ⟨_,rfl⟩ (K1 t)
def Nl(hK:X.K=K:=by rfl):CallR X (.builtin "sorted") (KC K):=by
 subst hK;intro pins s σ H xs us Q I r h;obtain⟨a,ns,rfl,hq,h64,q⟩:=h;obtain⟨u,rfl,ru⟩:=Bi r;cases ru;obtain⟨its,rv,p,hz⟩:=I.list hq;have hlen:=rv.length;rw[gy]at hlen;refine sorted_ints p.isList (DT rv) 67 λout ns' a1 a2 a3=>?_;obtain⟨e,he⟩:=sortedAll_at s.heap its out;have hl':ns'.length=ns.length:=a2.length_eq;refine⟨.ref (66+1),_,I.laid (a:=66+1) (o:=.lst (ns'.map V.int)) (t':=s.toks) (λb o hb=>sortedAll_old hb) (ip _) ⟨?_,out.toList,e,K1 a1,he⟩,rfl,q _ _ (I.hok.fresh (ip _)) a2 a3⟩;rw[gy,hl'];exact il (HJ 67)
def VE:List V->Hp->VK->Prop:=λxs H Q=>∃(a:Addr) (ns:List Int),xs=[.ref a]/\SqL K H a (ns.map V.int)/\0<ns.length/\∀M:Int,M∈ns->(∀x∈ns,x<=M)->Q (.int M) H
def LO(hc:X.calm=true)(hK:X.K=K:=by rfl):CallR X (.builtin "max") (VE K):=by
 subst hK;intro pins s σ H xs us Q I r h;obtain⟨a,ns,rfl,hq,hne,q⟩:=h;obtain⟨u,rfl,ru⟩:=Bi r;cases ru;obtain⟨its,rv,p,hz⟩:=I.list hq;have hi:=DT rv;obtain⟨ys,e⟩:=hi.allInts.items;have hns:ns=ys.toList.map (·.1):=by
  rw[<- hi.numsOf,<- jh,<- e]
 have hsz:0<ys.size:=by
  have h3:=hne;rw[hns,gy,Array.length_toList]at h3;exact h3
 have hl:=p.isList;rw[e]at hl;refine max_intList (I.ok.hd hc) hl hsz λv h' tk hv hk=>?_;obtain⟨t,rfl⟩:=intItems_at hv;obtain⟨h1,h2⟩:=argBest_gt (numAt ys) (ys.size-1);refine⟨.int _,H,I.kept hk,⟨t,rfl⟩,q _ ?_ λx hx=>?_⟩
 .rw[hns,numAt_eq];exact getD_mem (by rw[gy,Array.length_toList];omega)
 .rw[hns]at hx;obtain⟨j,hj,rfl⟩:=mem_getD hx;rw[gy,Array.length_toList]at hj;rw[<- numAt_eq];exact h2 j 67
def VC:List V->Hp->VK->Prop:=λxs H Q=>∃(a:Addr) (ns:List Int),xs=[.ref a]/\SqL K H a (ns.map V.int)/\0<ns.length/\∀M:Int,M∈ns->(∀x∈ns,M<=x)->Q (.int M) H
def LN(hc:X.calm=true)(hK:X.K=K:=by rfl):CallR X (.builtin "min") (VC K):=by
 subst hK;intro pins s σ H xs us Q I r h;obtain⟨a,ns,rfl,hq,hne,q⟩:=h;obtain⟨u,rfl,ru⟩:=Bi r;cases ru;obtain⟨its,rv,p,hz⟩:=I.list hq;have hi:=DT rv;obtain⟨ys,e⟩:=hi.allInts.items;have hns:ns=ys.toList.map (·.1):=by
  rw[<- hi.numsOf,<- jh,<- e]
 have hsz:0<ys.size:=by
  have h3:=hne;rw[hns,gy,Array.length_toList]at h3;exact h3
 have hl:=p.isList;rw[e]at hl;refine min_intList (I.ok.hd hc) hl hsz λv h' tk hv hk=>?_;obtain⟨t,rfl⟩:=intItems_at hv;obtain⟨h1,h2⟩:=argBest_lt (numAt ys) (ys.size-1);refine⟨.int _,H,I.kept hk,⟨t,rfl⟩,q _ ?_ λx hx=>?_⟩
 .rw[hns,numAt_eq];exact getD_mem (by rw[gy,Array.length_toList];omega)
 .rw[hns]at hx;obtain⟨j,hj,rfl⟩:=mem_getD hx;rw[gy,Array.length_toList]at hj;rw[<- numAt_eq];exact h2 j 67
end
section
variable{prog:Program}{w:World}{A:Around}{E:Value->Shared->Prop}{s:Shared}{l:Addr}{xs:Array (Int×Tok)}
def HA{Q:Value->Shared->Prop}(hl:s.heap.IsTuple l (intItems xs))
 (h:∀s₂:Shared,s₂={ s with heap:=s.heap.push { cls:=.type "tuple_iterator",data:=.fields #[.ref l,.int 0 0] } } ->
  (s₂.heap.IsTupleIter 66 l 0/\s₂.heap.IsTuple l (intItems xs))->(∀b∈[66,l],b<s₂.heap.objs.size)->l≠66->Q (.ref 66) s₂):
 wpAny 97 A (pyIter (.ref l)) Q E s:=by
 have hlt:l<s.heap.objs.size:=by obtain⟨_,e,_⟩:=hl;exact 91 e
 refine wpAny_pyIter_tuple hl (h _ rfl ⟨⟨_,89 _ rfl,rfl,rfl⟩,hl.push _⟩ (λb hb=>?_) (gv hlt));show b<(s.heap.push _).objs.size;rw[Heap.size_push];rcases mem_cons.mp hb with rfl|hb
 .exact j4 _
 .rcases mem_cons.mp hb with rfl|hb
  .exact iT hlt
  .cases hb
def Ku{h':Heap}{o:Obj}(hk:∀b x,b∉[66]->(s.heap.push o).get? b=some x->h'.get? b=some x):∀b x,s.heap.get? b=some x->h'.get? b=some x:=
 λb x e=>hk b x (λhm=>by rw[mem_singleton.mp hm]at e;exact i7 _ (91 e)) (73 _ e)
def MP{Q:Value->Shared->Prop}(hh:A.handled=none)(hl:s.heap.IsTuple l (intItems xs))
 (h:∀h' tk t',(∀b o,s.heap.get? b=some o->h'.get? b=some o)->Q (.int (preSum (numAt xs) xs.size) t') { s with heap:=h',toks:=tk }):
 wpAny 97 A (call (.builtin "sum") [.ref l]) Q E s:=by
 refine call_sum_walkG (HA hl λs₂ e st hfp hlI=>?_);subst e;refine⟨_,_,_,_,_,_,numAt xs,rfl,Walks.tuple (A:=A.in1) hh _ l hlI (intItems xs),st,hfp,(λ_ _=>intItems_at),λh' tk t' hk=>?_⟩;have:=h h' tk t' (Ku hk);simpa [intItems]using this
def N9{Q:Value->Shared->Prop}(hh:A.handled=none)(hl:s.heap.IsTuple l (intItems xs))(hne:0<xs.size)
 (h:∀v h' tk,(intItems xs)[argBest (λi j=>decide (numAt xs i>numAt xs j)) (xs.size-1)]?=some v->(∀b o,s.heap.get? b=some o->h'.get? b=some o)->Q v { s with heap:=h',toks:=tk }):
 wpAny 97 A (call (.builtin "max") [.ref l]) Q E s:=by
 refine call_max_walk (HA hl λs₂ e st hfp hlI=>?_);subst e;refine⟨_,_,_,_,_,_,_,rfl,Walks.tuple (A:=A.in1) hh _ l hlI (intItems xs),st,hfp,by simpa [intItems]using hne,CmpOf.ints_gt (numAt xs) (λ_ _=>intItems_at),λv h' tk hP hk=>?_⟩;exact h v h' tk (by simpa [intItems]using hP) (Ku hk)
end
section
variable(K:Frag){X:Cx}
def VA:List V->Hp->VK->Prop:=λxs H Q=>∃(a:Addr) (ns:List Int),xs=[.ref a]/\SqT K H a (ns.map V.int)/\Q (.int ns.sum) H
def Ju(hc:X.calm=true)(hK:X.K=K:=by rfl):CallR X (.builtin "sum") (VA K):=by
 subst hK;intro pins s σ H xs us Q I r h;obtain⟨a,ns,rfl,hq,q⟩:=h;obtain⟨u,rfl,ru⟩:=Bi r;cases ru;obtain⟨its,rv,p,hz⟩:=I.tuple hq;have hi:=DT rv;obtain⟨xs,hx⟩:=hi.allInts.items;have hl':s.heap.IsTuple a (intItems xs):=hx ▸ (show s.heap.IsTuple a its.toArray from p);refine MP (I.ok.hd hc) hl' λh' tk t' hk=>?_;have e1:ns=xs.toList.map (·.1):=by
  rw[<- jh,<- hx];exact(show numsOf its.toArray.toList=ns from hi.numsOf).symm
 have e2:preSum (numAt xs) xs.size=ns.sum:=by
  rw[preSum_eq,List.take_of_length_le 77,e1]
 rw[e2];exact⟨.int ns.sum,H,I.kept hk,⟨_,rfl⟩,q⟩
def VD:List V->Hp->VK->Prop:=λxs H Q=>∃(a:Addr) (ns:List Int),xs=[.ref a]/\SqT K H a (ns.map V.int)/\0<ns.length/\∀M:Int,M∈ns->(∀x∈ns,x<=M)->Q (.int M) H
def Jv(hc:X.calm=true)(hK:X.K=K:=by rfl):CallR X (.builtin "max") (VD K):=by
 subst hK;intro pins s σ H xs us Q I r h;obtain⟨a,ns,rfl,hq,hne,q⟩:=h;obtain⟨u,rfl,ru⟩:=Bi r;cases ru;obtain⟨its,rv,p,hz⟩:=I.tuple hq;have hi:=DT rv;obtain⟨ys,e⟩:=hi.allInts.items;have hns:ns=ys.toList.map (·.1):=by
  rw[<- hi.numsOf,<- jh,<- e]
 have hsz:0<ys.size:=by
  have h3:=hne;rw[hns,gy,Array.length_toList]at h3;exact h3
 have hl:s.heap.IsTuple a (intItems ys):=e ▸ (show s.heap.IsTuple a its.toArray from p);refine N9 (I.ok.hd hc) hl hsz λv h' tk hv hk=>?_;obtain⟨t,rfl⟩:=intItems_at hv;obtain⟨h1,h2⟩:=argBest_gt (numAt ys) (ys.size-1);refine⟨.int _,H,I.kept hk,⟨t,rfl⟩,q _ ?_ λx hx=>?_⟩
 .rw[hns,numAt_eq];exact getD_mem (by rw[gy,Array.length_toList];omega)
 .rw[hns]at hx;obtain⟨j,hj,rfl⟩:=mem_getD hx;rw[gy,Array.length_toList]at hj;rw[<- numAt_eq];exact h2 j 67
end
structure DefAt(K:Frag)(mg:Str->Option Value)(x:Str)(st:Stmt)(f:Addr)(fd:FuncData)(ps:List Str):Prop where
 fn:Fun K x x st f fd
 mg:mg x=some (.ref f)
 bd:Binds K fd ps []
def VJ{X:Cx}{j k:Nat}{f:Addr}{fd:FuncData}{ps:List Str}{sp:Sp}{x:Str}{st:Stmt}{e:Expr}{es:List Expr}{t:TA}{p pos:Pos}(F:FnOk X.prog X.w X.K X.mg X.base CX0 j f fd ps sp)(hr:Room k X.A)(D:DefAt X.K X.mg x st f fd ps)(ha:PA X (e::es) t)
 (hjk:j<=k:=by decide) (hg:Gl X x:=by rfl) (hdb:(x==("__debug__":Str))=false:=by decide) (he:starEach (e::es) X.env=90::starEach es X.env:=by rfl) (hpl:(backTo pos (starEach es X.env)).any (·.1)=false:=by rfl):
 PE X (.Call (.Name x p) (e::es) [] pos) (FI sp [] E0 t):=
 XS (F.mono hjk) hr hg D.mg D.fn.kp D.bd .nil bw ha hdb he hpl
def P8:bootBuiltins "list"=some (.type "list"):=by decide +kernel
def bt_tuple:bootBuiltins "tuple"=some (.type "tuple"):=by decide +kernel
def bt_len:bootBuiltins "len"=some (.builtin "len"):=by decide +kernel
def bt_sum:bootBuiltins "sum"=some (.builtin "sum"):=by decide +kernel
def bt_min:bootBuiltins "min"=some (.builtin "min"):=by decide +kernel
def bt_max:bootBuiltins "max"=some (.builtin "max"):=by decide +kernel
def FX:bootBuiltins "sorted"=some (.builtin "sorted"):=by decide +kernel
def bt_all:bootBuiltins "all"=some (.builtin "all"):=by decide +kernel
def bt_any:bootBuiltins "any"=some (.builtin "any"):=by decide +kernel
def Lm:bootBuiltins "isinstance"=some (.builtin "isinstance"):=by decide +kernel
mutual
theorem IY:∀ns:List Int,PyData.canLayAll0 (ns.map PyData.int)=true
 |[]=>by simp[PyData.canLayAll0]
 |n::ns=>by simp[PyData.canLayAll0,PyData.canLay0,IY ns]
end
end L2
namespace L2
open PySem PySem.Spec PyProof.Rows PySem.W
noncomputable def lCx(X:Cx)(A:Around)(N':List Str)(qual:Str)(scope:Scope)(f:Addr)(cd:Value)(cl:List (Str×Addr))(s:Shared)(H:Hp):Cx:=
 { X with N:=N',s₀:=s,H₀:=H,A:=A.deeper (envX qual scope s.heap.objs.size f cd cl),env:=envX qual scope s.heap.objs.size f cd cl,outer:=X.stack,stack:=envX qual scope s.heap.objs.size f cd cl::X.stack,ex:=[],fn:=λ_=>false,calm:=true,pn:=[],xe:=λ_ _=>False }
structure LSc(scope:Scope)(p:Str):Prop where
 nocell:(scope.names.all λy=>y.2 != .cell)=true
 par:scope.names.lookup p=some .local
 co:scope.isCoroutine=false
 gen:scope.isGenerator=false
section
variable{X:Cx}{scope:Scope}{fr:List Str}{ix:List Nat}{pins:List 81}{σ:St}{H:Hp}{s:Shared}{p:Str}
def LSc.ne(L:LSc scope p):∀y∈scope.names,y.2≠.cell:=λy hy e=>by
 have:=all_eq_true.mp L.nocell y hy;rw[e]at this
 revert this;decide
def Xu(S:CSc X scope fr ix)(L:LSc scope p)(I:Inv X pins σ H s){A:Around}(hf:A.frames=X.A.frames)(hh:A.handled=none){qual:Str}{f:Addr}{cd:Value}{h':Heap}{x:V}{u:Value}{t':Nat}
 (hk:∀b o,s.heap.get? b=some o->h'.get? b=some o) (hn:h'.Ns 66 λy=>if y=p then some u else none) (r:RelV x u):
 Inv (lCx X A (p::fr) qual scope f cd 87 s H) [] (some x::ix.map λi=>(σ[i]?).join) H { s with heap:=h',toks:=t' }:=by
 have lenix:fr.length=ix.length:=by simpa using i3 List.length S.ixs
 have co:∀x c,(87).lookup x=some c->X.env.cells.lookup x=some c:=λx c e=>Dt (S.clos I.ok) (λ_ _ z=>by simp at z) x c e;refine⟨⟨I.ok.mod,S.kind,rfl,rfl,gg _,?_,?_,?_,λ_=>hh,Around.frames_deeper (hf.trans I.ok.frames),.inr ⟨rfl,rfl⟩,?_,I.bs,gQ I.ok.bsz I.sz,?_,?_,I.stack,I.stkFree⟩,rfl,I.bare,Un.kept hk,⟨_,hn,?_⟩,?_,I.hok.fresh (gg _),?_,?_,I.hok.kept hk,?_⟩
 .intro x y c e1 e2;exact I.ok.inj x y c (co x c e1) (co y c e2)
 .intro x hx;rcases hx with e|e
  .exact absurd rfl (L.ne (x,.cell) (PySem.mem_of_lookup e))
  .exact isSome_iff_exists.mp (Ct (.inr (PySem.mem_of_lookup e)))
 .intro x c hf;cases hf
 .intro b hb;cases hb
 .intro b o e hb;cases hb
 .intro b hb;cases hb
 .intro i y v e1 e2 e3;cases i with
  |zero=>
   have e1:some p=some y:=e1;have e2:some (some x)=some (some v):=e2;cases e1;cases e2;exact⟨u,r,.inl ⟨L.par,gc rfl⟩⟩
  |succ j=>
   have e1:fr[j]?=some y:=e1;have e2:(ix.map λi=>(σ[i]?).join)[j]?=some (some v):=e2;rw[List.getElem?_map]at e2;have e4:(fr.map some)[j]?=some (some y):=by rw[List.getElem?_map,e1];rfl
   rw[S.ixs,List.getElem?_map]at e4;cases q:ix[j]? with
   |none=>rw[q]at e2;cases e2
   |some k=>
    rw[q]at e2 e4;have e2:(σ[k]?).join=some v:=Option.some.inj e2;have e4:X.N[k]?=some y:=Option.some.inj e4;have e5:σ[k]?=some (some v):=by
     cases w:σ[k]? with
     |none=>rw[w]at e2;cases e2
     |some z=>rw[w]at e2;simpa using e2
    have hfx:=all_eq_true.mp S.frs y (gJ e1);have hfx:scope.names.lookup y=some .free:=by simpa using hfx
    have hmem:=PySem.mem_of_lookup hfx;have hout:=S.outer hmem rfl;obtain⟨m,hm,hl⟩:=I.loc;obtain⟨u',r',l⟩:=hl k y v e4 e5 (.inr hout);refine⟨u',r',.inr ⟨.inr hfx,?_⟩⟩;rcases l with⟨kk,_⟩|⟨kk,c,ec,z⟩
    .rcases hout with w|w
     .rw[kk]at w;cases w
     .rw[kk]at w;cases w
    .obtain⟨d,hd⟩:=isSome_iff_exists.mp (Ct (cells:=X.env.cells) (acc:=[]) (.inr hmem));have:=co y d hd;rw[ec]at this;cases this;exact⟨c,hd,z.keeps hk⟩
 .intro x c e;obtain⟨v,z⟩:=I.cell x c (co x c e);exact⟨v,z.keeps hk⟩
 .intro x c e;exact I.freeC x c (co x c e)
 .intro p hp;cases hp
 .show(_::_:List (Option V)).length=(p::fr).length;simp[lenix]
def Iu(S:CSc X scope fr ix)(L:LSc scope p)(I:Inv X pins σ H s){A:Around}(hf:A.frames=X.A.frames)(hr:Room 1 A){qual:Str}{f:Addr}{cd ctv pm:Value}{params:Arguments}{body:Expr}{x:V}{u:Value}{tb:TE}{Q:VK}
 (ho:s.heap.get? f=some { cls:=.type "function",data:=.func (kla_fn "<lambda>" qual params body scope 87 pm cd ctv) }) (hcd:s.heap.CodeRec cd qual)
 (hb:∀us:Value,bindArgs (kla_fn "<lambda>" qual params body scope 87 pm cd ctv) ⟨[us],[]⟩=pure [(p,us)])
 (he:∀(s:Shared) (H:Hp),PE (lCx X A (p::fr) qual scope f cd 87 s H) body tb) (r:RelV x u) (h:tb (some x::ix.map λi=>(σ[i]?).join) H Q):
 wpAny 69 A (call (.ref f) [u]) (EP X pins σ Q) (λ_ _=>False) s:=by
 refine wpAny_call (iU (R:=λres s'=>match res with|.ok (.ret u)=>EP X pins σ Q u s'|_=>False) (kla_callFunE hr.depth ho rfl L.co L.gen rfl hcd ?_) ?_)
 .rw[hb];refine gh ?_;refine wpAny_newFunctionEnv L.ne (λy hy=>by rw[gK]at hy;subst hy;exact L.par) (λh' hns hsb=>⟨?_,?_⟩) S.kind
  .have hk:∀b o,s.heap.get? b=some o->h'.get? b=some o:=λb o e=>(hsb.2 b (gv (91 e))).trans (73 _ e);exact I.nolimit.keeps hk
  .have hk:∀b o,s.heap.get? b=some o->h'.get? b=some o:=λb o e=>(hsb.2 b (gv (91 e))).trans (73 _ e);have hns':h'.Ns 66 λy=>if y=p then some u else none:=by
    have e:(λy=>([(p,u)]:List (Str×Value)).reverse.lookup y)=λy=>if y=p then some u else none:=by
     funext y
     simp only[List.reverse_cons,List.reverse_nil,iR,gO,List.lookup_nil];by_cases hy:y=p
     .subst hy;simp
     .have hb':(y==p)=false:=beq_eq_false_iff_ne.mpr hy;simp[hb',hy]
    rw[<- e];exact hns
   have J:=Xu (t':=s.toks+1) (qual:=qual) (f:=f) (cd:=cd) S L I hf hr.hd hk hns' r;refine kla_codeExpr (gz (he s H [] _ _ H Q J h) (λv s' hv=>?_) λ_ _ z=>z.elim);obtain⟨y,H',J',ry,q⟩:=hv;obtain⟨hh,g,d,t,os'⟩:=s';obtain rfl:os'=s.os:=J'.os;exact⟨y,H',I.call (h':=hh) (g':=g) (d':=d) (t':=t) (ch:=[]) J'.base J'.hok J'.bare (λb z=>absurd z 77),ry,q⟩
 .intro res s' hq;cases res with
  |error e=>exact hq
  |ok fl=>
   cases fl with
   |ret u=>exact hq
   |next=>exact hq
   |brk=>exact hq
   |cont=>exact hq
end
def cdF(c:Addr)(q:Str):Heap->Prop:=λh=>h.CodeRec (.ref c) q
def Cw(H:Hp)(q:Str)(pos:Pos)(ps:Array Value):Prop:=ps=#[]∨∃c,ps=#[rawInt pos.line,rawInt pos.col,.ref c]/\H c=some (.ext (cdF c q))
def TabStep(P:Addr)(q:Str)(pos:Pos)(H H':Hp):Prop:=H'=H∨∃c,H c=none/\c≠P/\H'=upd (upd H P (.tbl #[rawInt pos.line,rawInt pos.col,.ref c])) c (.ext (cdF c q))
structure LamAt(X:Cx)(c P:Addr):Prop where
 code:X.env.code=.ref c
 hd:CodeHd X.base c P
 bl:X.base.BuiltinsAt X.mg P
section
variable{X:Cx}{pins:List 81}{σ:St}{H:Hp}{s:Shared}{c P:Addr}{scope:Scope}{fr:List Str}{ix:List Nat}
def Xq(I:Inv X pins σ H s){q:Str}{ps:Array Value}{ps':Array Value}(hP:H P=some (.tbl ps)){c':Addr}{h':Heap}{t':Nat}(hx:∀b o,b≠P->s.heap.get? b=some o->h'.get? b=some o)(hc:66<=c')
 (hrec:h'.CodeRec (.ref c') q) (htb:h'.get? P=some (tabObj (ps++ps'))):Inv X pins σ (upd (upd H P (.tbl (ps++ps'))) c' (.ext (cdF c' q))) { s with heap:=h',toks:=t' }:=by
 have hcn:H c'=none:=I.hok.fresh hc;have hPc:P≠c':=AR hP hcn;have nP:∀b,H b=none->b≠P:=λb n z=>by subst z;rw[hP]at n;cases n
 have other:∀b,b≠P->b≠c'->upd (upd H P (.tbl (ps++ps'))) c' (.ext (cdF c' q)) b=H b:=λb h1 h2=>by rw[AE h2,AE h1]
 have ne':∀b u,H b=some u->b≠c':=λb u e=>AR e hcn;refine I.un (h':=h') (t':=t') ⟨λb o e n _ _=>hx b o (nP b n) e,λb o e n _ _=>⟨o.slots,hx b o (nP b n) e⟩,λb o e n _=>?_,λb o e _=>?_,λb xs e=>?_,λb o u e=>?_,λb qs e=>?_⟩ λb u e=>?_
 .rw[other b (nP b n) (gv (gU (Heap.lt_size e) hc))];exact n
 .by_cases z:b=P
  .subst z;exact⟨_,htb⟩
  .exact⟨o,hx b o z e⟩
 .rw[other b (λz=>by subst z;rw[hP]at e;cases e) (ne' b _ e)];exact e
 .rw[other b (λz=>by subst z;rw[hP]at e;cases e) (ne' b _ e)];exact e
 .by_cases z:b=P
  .subst z;rw[hP]at e;cases e;exact⟨ps',by rw[AE hPc,AK]⟩
  .exact⟨#[],by rw[other b z (ne' b _ e),e];simp⟩
 .by_cases z:b=c'
  .subst z;rw[AK]at e;cases e;obtain⟨c0,o,vs,t,e0,r⟩:=id hrec;cases e0;refine⟨hrec,⟨o,r.1⟩,λh1 h2 q1 k=>?_⟩;obtain⟨c1,o1,vs1,t1,e1,g1,r1⟩:=q1;cases e1;exact⟨_,o1,vs1,t1,rfl,k _ g1,r1⟩
  .by_cases z2:b=P
   .subst z2;rw[AE hPc,AK]at e;cases e;exact htb
   .rw[other b z2 z]at e;refine(I.hok b u e).stay (λd v hd q=>hx d v ?_ q) (λd q=>?_) λd xs q=>?_
    .rcases hd with rfl|hd
     .exact z2
     .intro y;subst y;rw[hP]at hd;cases hd
    .rw[other d (λy=>by subst y;rw[hP]at q;cases q) (ne' d _ q)];exact q
    .rw[other d (λy=>by subst y;rw[hP]at q;cases q) (ne' d _ q)];exact q
structure Made(X:Cx)(scope:Scope)(params:Arguments)(body:Expr)(P:Addr)(q:Str)(pos:Pos)(s:Shared)(H H':Hp)(f:Addr)(cd ctv:Value)(s':Shared):Prop where
 fn:s'.heap.get? f=some { cls:=.type "function",data:=.func (kla_fn "<lambda>" q params body scope 87 ((X.mg "__name__").getD .none) cd ctv) }
 cdc:∃c,cd=.ref c/\H' c=some (.ext (cdF c q))
 step:TabStep P q pos H H'
 new:66<=f
 fre:H' f=none
def GW(S:CSc X scope fr ix)(LA:LamAt X c P)(I:Inv X pins σ H s){A:Around}{E:Value->Shared->Prop}{params:Arguments}{body:Expr}{pos:Pos}{ps:Array Value}{Q:Value->Shared->Prop}(hdef:defaultsOf params X.env=([],[]))
 (hP:H P=some (.tbl ps)) (hg:Cw H 74 pos ps)
 (h:∀f cd ctv H' s',Inv X pins σ H' s'->Made X scope params body P 74 pos s H H' f cd ctv s'->Q (.ref f) s'):
 wpAny 69 A (eval (.Lambda params body scope pos) X.env) Q E s:=by
 have hcl:closureFor scope X.env=pure 87:=Ee (S.clos I.ok);have hns:=I.mod.glob.keeps I.bk;have hb:=LA.bl.keeps I.bk;have hcd:=LA.hd.keeps I.bk;have hobj:s.heap.get? P=some (tabObj ps):=I.hok P _ hP;have hgP:mainGlobals≠P:=λz=>by
  obtain⟨o,es,ep,e,hd,_⟩:=hns;rw[z,hobj]at e;cases e;cases hd
 refine kla_eval hdef ?_;rcases hg with rfl|⟨c',rfl,hc'⟩
 .refine kla_makeFunction hcl I.ok.glob hns LA.code hcd hobj trivial rfl hgP hb λc' ctv h' tk hx hge hlt hrec htb=>?_;have hx':∀b o,b≠P->s.heap.get? b=some o->(h'.push (kla_obj "<lambda>" 74 params body scope 87 ((X.mg "__name__").getD .none) c' ctv)).get? b=some o:=λb o n e=>73 _ (hx b o n e);have J:=Xq (t':=tk) I hP hx' hge (hrec.push _) (73 _ htb);refine h _ _ ctv _ _ J ⟨89 _ rfl,⟨c',rfl,AK⟩,.inr ⟨c',I.hok.fresh hge,(AR hP (I.hok.fresh hge)).symm,?_⟩,?_,?_⟩
  .simp
  .exact gQ hge (il hlt)
  .have hs:66<=h'.objs.size:=gQ hge (il hlt);rw[AE (i5 hlt),AE (i5 (gU (Heap.lt_size hobj) hs))];exact I.hok.fresh hs
 .have hrec:s.heap.CodeRec (.ref c') 74:=(I.hok c' _ hc').1;have hf:codeAmong pos (#[rawInt pos.line,rawInt pos.col,Value.ref c']:Array Value).toList=some (.ref c'):=by simp[codeAmong,rawInt]
  refine kla_makeFunctionHit hcl I.ok.glob hns LA.code hcd hobj (by simp[TriplesOk,rawInt]) hf hb λctv h' tk hk hsz=>?_;have hk':∀b o,s.heap.get? b=some o->(h'.push { cls:=.type "function",data:=.func (kla_fn "<lambda>" 74 params body scope 87 ((X.mg "__name__").getD .none) (.ref c') ctv) }).get? b=some o:=λb o e=>73 _ (hk b o e);exact h _ _ ctv _ _ (I.kept (t':=tk) hk') ⟨89 _ rfl,⟨c',rfl,hc'⟩,.inl rfl,hsz,I.hok.fresh hsz⟩
end
end L2
namespace L2
open PySem PySem.Spec PyProof.Rows
def Exo(h:Heap)(a C:Addr)(dx:Option Addr)(tb:Value):Prop:=∃vs sl,h.get? a=some ⟨.ref C,dx,.fields vs,sl⟩/\vs[1]?=some tb
structure Note(fs:List Addr)(a:Addr)(tb:Value)(h h':Heap):Prop where
 keep:∀b o,h.get? b=some o->b≠a->.ref b≠tb->b∉fs->h'.get? b=some o
 slot:∀b o,h.get? b=some o->b∈fs->∃sl,h'.get? b=some { o with slots:=sl }
 there:∀b o,h.get? b=some o->∃o',h'.get? b=some o'
end L2
namespace L2
open PySem PySem.Spec PyProof.Rows
open Builtin Builtin.ObjectAttr
def XO(a C:Addr)(dx:Option Addr)(h:Heap):Prop:=∃tb,Exo h a C dx tb
noncomputable def XdAt(H:Hp):Option Addr->List (Str×V)->Prop
 |none,fs=>fs=[]
 |some d,fs=>H d=some (.xd fs)
end L2
namespace L2
open PySem PySem.Spec PyProof.Rows
def XdAt.grow{H H':Hp}{dx:Option Addr}{fs:List (Str×V)}(g:Grow H H')(h:XdAt H dx fs):XdAt H' dx fs:=by
 cases dx with
 |none=>exact h
 |some d=>exact g.keep _ _ trivial h
def ExR(K:Frag)(nm:Str)(fs:List Str)(H:Hp)(a:Addr)(xs:List V):Prop:=∃C dx,cZ K nm=some C/\H a=some (.ext (XO a C dx))/\XdAt H dx (fs.zip xs)/\xs.length=fs.length
theorem ExR.grow{K:Frag}{nm:Str}{fs:List Str}{H H':Hp}{a:Addr}{xs:List V}(g:Grow H H')(h:ExR K nm fs H a xs):ExR K nm fs H' a xs:=
 let ⟨C,dx,h1,h2,h3,h4⟩:=h;⟨C,dx,h1,g.keep _ _ trivial h2,h3.grow g,h4⟩
end L2
namespace L2
open PySem PySem.Spec PyProof.Rows PySem.W
structure SndOk(q:Str)(params:Arguments)(scope:Scope)(body:Expr)(p1 p2:Str):Prop where
 ne:p1≠p2
 l1:LSc scope p1
 l2:LSc scope p2
 nofree:(scope.names.all λy=>y.2 != .free)=true
 kind:scope.kind=.function
 d1:(p2==("__debug__":Str))=false
 d2:(p2==("__classdict__":Str))=false
 bind:∀(cl:List (Str×Addr)) (pm cd ctv u v:Value),bindArgs (kla_fn "<lambda>" q params body scope cl pm cd ctv) ⟨[u,v],[]⟩=pure [(p1,u),(p2,v)]
def fnF(f c:Addr)(q:Str):Heap->Prop:=λh=>∃params scope p1 p2 pos pm ctv,h.get? f=some { cls:=.type "function",data:=.func (kla_fn "<lambda>" q params (.Name p2 pos) scope [] pm (.ref c) ctv) }/\SndOk q params scope (.Name p2 pos) p1 p2
def FvR(k:Nat)(H:Hp)(a:Addr)(xs:List V):Prop:=k=0/\xs=[]/\∃c q,H a=some (.ext (fnF a c q))/\H c=some (.ext (cdF c q))
def FvR.grow{k:Nat}{H H':Hp}{a:Addr}{xs:List V}(g:Grow H H')(h:FvR k H a xs):FvR k H' a xs:=
 let ⟨h1,h2,c,q,h3,h4⟩:=h;⟨h1,h2,c,q,g.keep _ _ trivial h3,g.keep _ _ trivial h4⟩
section
variable{X:Cx}{scope:Scope}{pins:List 81}{σ:St}{H:Hp}{s:Shared}{p1 p2:Str}
def Xr{q:Str}{params:Arguments}{body:Expr}(S:SndOk q params scope body p1 p2)(I:Inv X pins σ H s){A:Around}(hf:A.frames=X.A.frames)(hh:A.handled=none){qual:Str}{f:Addr}{cd:Value}{h':Heap}{x y:V}{u v:Value}{t':Nat}
 (hk:∀b o,s.heap.get? b=some o->h'.get? b=some o) (hn:h'.Ns 66 λz=>([(p1,u),(p2,v)]:List (Str×Value)).reverse.lookup z) (r:RelV x u) (r2:RelV y v):
 Inv (lCx X A [p1,p2] qual scope f cd [] s H) [] [some x,some y] H { s with heap:=h',toks:=t' }:=by
 refine⟨⟨I.ok.mod,S.kind,rfl,rfl,gg _,?_,?_,?_,λ_=>hh,Around.frames_deeper (hf.trans I.ok.frames),.inr ⟨rfl,rfl⟩,?_,I.bs,gQ I.ok.bsz I.sz,?_,?_,I.stack,I.stkFree⟩,rfl,I.bare,Un.kept hk,⟨_,hn,?_⟩,?_,I.hok.fresh (gg _),?_,?_,I.hok.kept hk,?_⟩
 .intro x y c e1 e2;cases e1
 .intro x hx;rcases hx with e|e
  .exact absurd rfl (S.l1.ne (x,.cell) (PySem.mem_of_lookup e))
  .have:=all_eq_true.mp S.nofree _ (PySem.mem_of_lookup e)
   revert this;simp
 .intro x c hf;cases hf
 .intro b hb;cases hb
 .intro b o e hb;cases hb
 .intro b hb;cases hb
 .intro i z w e1 e2 e3
  match i,e1,e2 with
  |0,e1,e2=>
   have e1:some p1=some z:=e1;have e2:some (some x)=some (some w):=e2;cases e1;cases e2;refine⟨u,r,.inl ⟨S.l1.par,?_⟩⟩;have hb:(p1==p2)=false:=beq_eq_false_iff_ne.mpr S.ne;simp[gO,hb]
  |1,e1,e2=>
   have e1:some p2=some z:=e1;have e2:some (some y)=some (some w):=e2;cases e1;cases e2;exact⟨v,r2,.inl ⟨S.l2.par,by simp[gO]⟩⟩
  |i+2,e1,e2=>cases e1
 .intro x c e;cases e
 .intro x c e;cases e
 .intro p hp;cases hp
 .rfl
def TM(I:Inv X pins σ H s){A:Around}(hf:A.frames=X.A.frames)(hr:Room 1 A){f c:Addr}{q:Str}{x y:V}{u v:Value}{Q:VK}(ho:H f=some (.ext (fnF f c q)))(hc:H c=some (.ext (cdF c q)))(rx:RelV x u)(ry:RelV y v)(h:Q y H):
 wpAny 69 A (call (.ref f) [u,v]) (EP X pins σ Q) (λ_ _=>False) s:=by
 obtain⟨params,scope,p1,p2,pos,pm,ctv,ho',S⟩:=(I.hok f _ ho).1;have hcd:s.heap.CodeRec (.ref c) q:=(I.hok c _ hc).1;have he:∀(s:Shared) (H:Hp),PE (lCx X A [p1,p2] q scope f (.ref c) [] s H) (.Name p2 pos) (PQ 1):=λs H=>Ry rfl (.inl S.l2.par) S.d1 S.d2;refine wpAny_call (iU (R:=λres s'=>match res with|.ok (.ret u)=>EP X pins σ Q u s'|_=>False) (kla_callFunE hr.depth ho' rfl S.l1.co S.l1.gen rfl hcd ?_) ?_)
 .rw[S.bind];refine gh ?_;refine wpAny_newFunctionEnv S.l1.ne (λy hy=>?_) (λh' hns hsb=>⟨?_,?_⟩) S.kind
  .rcases mem_cons.mp hy with rfl|hy
   .exact S.l1.par
   .rw[gK]at hy;subst hy;exact S.l2.par
  .have hk:∀b o,s.heap.get? b=some o->h'.get? b=some o:=λb o e=>(hsb.2 b (gv (91 e))).trans (73 _ e);exact I.nolimit.keeps hk
  .have hk:∀b o,s.heap.get? b=some o->h'.get? b=some o:=λb o e=>(hsb.2 b (gv (91 e))).trans (73 _ e);have J:=Xr (t':=s.toks+[(p1,u),(p2,v)].length) (qual:=q) (f:=f) (cd:=.ref c) S I hf hr.hd hk hns rx ry;refine kla_codeExpr (gz (he s H [] _ [some x,some y] H Q J ⟨y,rfl,h⟩) (λv s' hv=>?_) λ_ _ z=>z.elim);obtain⟨y,H',J',ry,q⟩:=hv;obtain⟨hh,g,d,t,os'⟩:=s';obtain rfl:os'=s.os:=J'.os;exact⟨y,H',I.call (h':=hh) (g':=g) (d':=d) (t':=t) (ch:=[]) J'.base J'.hok J'.bare (λb z=>absurd z 77),ry,q⟩
 .intro res s' hq;cases res with
  |error e=>exact hq
  |ok fl=>
   cases fl with
   |ret u=>exact hq
   |next=>exact hq
   |brk=>exact hq
   |cont=>exact hq
end
end L2
namespace L2
open PySem PySem.Spec PyProof.Rows
inductive I where
 |non|bl (b:Bool)|int (i:Int)|str (x:Str)|tup (ds:List I)
inductive D where
 |im (i:I)|mu (n:Nat)|tm (ds:List D)|ro (ns:List Int)|op (nm:Str) (fs:List Str) (ds:List D)|fv (k:Nat) (ds:List D)
inductive MO where
 |lst (ds:List D)|dic (kvs:List (Key×D))
noncomputable abbrev Hd:=List MO
noncomputable abbrev Ls:=List (Option D)
def RoL(K:Frag)(H:Hp)(a:Addr)(xs:List V):Prop:=(∃o,H a=some (.frz o (.lst xs))) ∨
 ∃(o:Obj) (its:Array Value) (n:Nat),K.lookup a=some o/\o.cls=.type "list"/\o.dict=none/\o.data=.seq its n/\its.size<=sizeLine/\Vals xs its.toList
def RoL.sq{K:Frag}{H:Hp}{a:Addr}{xs:List V}(h:RoL K H a xs):SqL K H a xs:=by
 rcases h with⟨o,h⟩|h
 .exact .inl (.inr ⟨o,h⟩)
 .exact .inr h
def RoL.grow{K:Frag}{H H':Hp}{a:Addr}{xs:List V}(g:Grow H H')(h:RoL K H a xs):RoL K H' a xs:=by
 rcases h with⟨o,h⟩|h
 .exact .inl ⟨o,g.frz _ _ _ h⟩
 .exact .inr h
def Bj(n:Nat):Prop:=n<=sizeLine
def Gg(n:Nat):Prop:=n<sizeLine
def EC(i j:Int):Prop:=(-(2^64)<i/\i<2^64)∨(-(2^64)<j/\j<2^64)
def Q8(i j:Int):Prop:=0<=j/\j<=1000000/\i.natAbs<2^64
def M8(j:Int):Prop:=0<j/\j<1073741824
def DB(j:Int):Prop:=0<j
def GN(j:Int):Prop:=-(2^62)<=j/\j<2^62
def Ps(i j:Int):Prop:=(-(2^62)<=i/\i<2^62)/\-(2^62)<=j/\j<2^62
def M0(j:Int):Prop:=j<2^24/\-(2^62)<=j
def V6(i j:Int):Prop:=(-(2^62)<=i/\i<2^62)/\(-(2^62)<=j/\j<2^62)/\(j-i).toNat<=2^24
def AT{n:Nat}(h:n<=1000000):Bj n:=gQ h (by rw[gY];decide)
def CN{n:Nat}(h:n<1000000):Gg n:=gU h (by rw[gY];decide)
def CB{i j:Int}(a:-1000000000000<=i)(b:i<=1000000000000):EC i j:=.inl ⟨by omega,by omega⟩
def E2{j:Int}(a:-1000000000000<=j)(b:j<=1000000000000):GN j:=⟨by omega,by omega⟩
def Vz{i j:Int}(a:-1000000000000<=i)(b:i<=1000000000000)(c:-1000000000000<=j)(d:j<=1000000000000):Ps i j:=⟨⟨by omega,by omega⟩,by omega,by omega⟩
def TZ{j:Int}(a:-1000000000000<=j)(b:j<=1000000):M0 j:=⟨by omega,by omega⟩
section
variable(K:Frag)
mutual
noncomputable def RI(H:Hp):I->V->Prop
 |.non,v=>v=.non
 |.bl b,v=>v=.bl b
 |.int i,v=>v=.int i
 |.str x,v=>v=.str x
 |.tup ds,v=>∃a xs,v=.ref a/\SqT K H a xs/\RIs H ds xs
noncomputable def RIs(H:Hp):List I->List V->Prop
 |[],xs=>xs=[]
 |d::ds,xs=>∃x r,xs=x::r/\RI H d x/\RIs H ds r
end
mutual
noncomputable def RD(ρ:List Addr)(H:Hp):D->V->Prop
 |.im i,v=>RI K H i v
 |.mu n,v=>∃a,ρ[n]?=some a/\v=.ref a
 |.tm ds,v=>∃a xs,v=.ref a/\SqT K H a xs/\RDs ρ H ds xs
 |.ro ns,v=>∃a,v=.ref a/\RoL K H a (ns.map V.int)
 |.op nm fs ds,v=>∃a xs,v=.ref a/\ExR K nm fs H a xs/\RDs ρ H ds xs
 |.fv k ds,v=>∃a xs,v=.ref a/\FvR k H a xs/\RDs ρ H ds xs
noncomputable def RDs(ρ:List Addr)(H:Hp):List D->List V->Prop
 |[],xs=>xs=[]
 |d::ds,xs=>∃x r,xs=x::r/\RD ρ H d x/\RDs ρ H ds r
end
noncomputable def RKs(ρ:List Addr)(H:Hp):List (Key×D)->List (Key×V)->Prop
 |[],xs=>xs=[]
 |d::ds,xs=>∃x r,xs=x::r/\x.1=d.1/\RD K ρ H d.2 x.2/\RKs ρ H ds r
noncomputable def RC(ρ:List Addr)(H:Hp):MO->HO->Prop
 |.lst ds,o=>∃xs,o=.lst xs/\RDs K ρ H ds xs
 |.dic kvs,o=>∃kv,o=.dK kv/\RKs K ρ H kvs kv
noncomputable def Lu:List Value->List (Addr×Str×Pos)
 |.ref P::.str q _::.int l _::.int c _::r=>(P,q,⟨l.toNat,c.toNat,0,0⟩)::Lu r
 |_=>[]
noncomputable def bJ(o:Obj):List (Addr×Str×Pos):=match o.cls,o.data with
 |.str _ _,.fields vs=>Lu vs.toList
 |_,_=>[]
noncomputable def Ch(K:Frag):List (Addr×Str×Pos):=match K.getLast? with
 |some p=>bJ p.2
 |none=>[]
def TabsOk(K:Frag)(H:Hp):Prop:=∀x∈Ch K,∃ps,H x.1=some (.tbl ps)/\Cw H x.2.1 x.2.2 ps
structure RH(ρ:List Addr)(H:Hp)(hd:Hd):Prop where
 len:ρ.length=hd.length
 nd:ρ.Nodup
 tabs:TabsOk K H
 ob:∀(n:Nat) (o:MO) (a:Addr),hd[n]?=some o->ρ[n]?=some a->∃ho,H a=some ho/\RC K ρ H o ho
structure RL(ρ:List Addr)(H:Hp)(ls:Ls)(σ:St):Prop where
 len:ls.length=σ.length
 ob:∀(i:Nat) (d:D),ls[i]?=some (some d)->∃v,σ[i]?=some (some v)/\RD K ρ H d v
end
structure Ext(ρ:List Addr)(H:Hp)(ρ':List Addr)(H':Hp):Prop where
 pre:∃r,ρ'=ρ++r/\∀b∈r,H b=none
 keep:∀b o,H b=some o->b∉ρ->(∀ps,o≠.tbl ps)->H' b=some o
 tab:∀b ps,H b=some (.tbl ps)->∃ps',H' b=some (.tbl ps')
def nt{o:HO}(h:match o with|.tbl _=>False|_=>True:=by trivial):∀ps,o≠.tbl ps:=λps e=>by subst e;exact h
theorem TabsOk.upd{K:Frag}{H:Hp}(t:TabsOk K H){a:Addr}{ho:HO}(h1:∀ps,H a≠some (.tbl ps))(h2:∀φ,H a≠some (.ext φ)):TabsOk K (upd H a ho):=λx hx=>by
 obtain⟨ps,e,g⟩:=t x hx;have ne:x.1≠a:=λz=>h1 ps (by rw[<- z];exact e);refine⟨ps,by rw[AE ne];exact e,?_⟩;rcases g with g|⟨c,g1,g2⟩
 .exact .inl g
 .have nc:c≠a:=λz=>h2 _ (by rw[<- z];exact g2);exact .inr ⟨c,g1,by rw[AE nc];exact g2⟩
section
variable{K:Frag}{ρ ρ' ρ1 ρ2:List Addr}{H H' H1 H2:Hp}{hd hd' hd1:Hd}
mutual
theorem RI.grow(g:Grow H H'):∀{i:I} {v:V},RI K H i v->RI K H' i v
 |.non,v,h=>by simpa only[RI]using h
 |.bl b,v,h=>by simpa only[RI]using h
 |.int b,v,h=>by simpa only[RI]using h
 |.str b,v,h=>by simpa only[RI]using h
 |.tup ds,v,h=>by
  simp only[RI]at h ⊢;obtain⟨a,xs,e,q,r⟩:=h;exact⟨a,xs,e,g.sq q,RIs.grow g r⟩
theorem RIs.grow(g:Grow H H'):∀{i:List I} {v:List V},RIs K H i v->RIs K H' i v
 |[],v,h=>by simpa only[RIs]using h
 |d::ds,v,h=>by
  simp only[RIs]at h ⊢;obtain⟨x,r,e,q,z⟩:=h;exact⟨x,r,e,q.grow g,RIs.grow g z⟩
end
def RH.mut(h:RH K ρ H hd){a:Addr}(m:a∈ρ):(∃xs,H a=some (.lst xs))∨∃kv,H a=some (.dK kv):=by
 obtain⟨n,e⟩:=mem_iff_getElem?.mp m;have hn:n<hd.length:=by rw[<- h.len];exact(78 e).1
 obtain⟨ho,e1,e2⟩:=h.ob n hd[n] a (by simp[hn]) e;cases q:hd[n]with
 |lst ds=>rw[q]at e2;obtain⟨xs,rfl,_⟩:=e2;exact .inl ⟨xs,e1⟩
 |dic ds=>rw[q]at e2;obtain⟨xs,rfl,_⟩:=e2;exact .inr ⟨xs,e1⟩
def RH.stb_out(h:RH K ρ H hd){a:Addr}{o:HO}(s:Stb o)(e:H a=some o):a∉ρ:=λm=>by
 rcases h.mut m with⟨y,z⟩|⟨y,z⟩<;>(rw[e]at z;cases z;exact s)
def YQ{o:HO}(s:Stb o):∀ps,o≠.tbl ps:=λps e=>by subst e;exact s
def Ext.grow(e:Ext ρ H ρ' H')(h:RH K ρ H hd):Grow H H':=⟨λb o s q=>e.keep b _ q (h.stb_out s q) (YQ s)⟩
def Ext.refl:Ext ρ H ρ H:=⟨⟨[],by simp,by simp⟩,λ_ _ h _ _=>h,λ_ ps h=>⟨ps,h⟩⟩
def Ext.trans(e:Ext ρ H ρ1 H1)(h0:RH K ρ1 H1 hd1)(e2:Ext ρ1 H1 ρ2 H2):Ext ρ H ρ2 H2:=by
 obtain⟨r1,rfl,f1⟩:=e.pre;obtain⟨r2,rfl,f2⟩:=e2.pre;refine⟨⟨r1++r2,by simp,λb m=>?_⟩,λb o q n t=>?_,λb ps q=>?_⟩
 .rcases mem_append.mp m with m|m
  .exact f1 b m
  .have z:=f2 b m;cases q:H b with
   |none=>rfl
   |some o=>
    by_cases n:b∈ρ
    .rcases h0.mut (i9 r1 n)with⟨y,w⟩|⟨y,w⟩<;>(rw[z]at w;cases w)
    .by_cases t:∃ps,o=.tbl ps
     .obtain⟨ps,rfl⟩:=t;obtain⟨ps',this⟩:=e.tab b ps q;rw[z]at this;cases this
     .have:=e.keep b o q n λps y=>t ⟨ps,y⟩;rw[z]at this;cases this
 .refine e2.keep b o (e.keep b o q n t) (λm=>?_) t;rcases mem_append.mp m with m|m
  .exact n m
  .have:=f1 b m;rw[q]at this;cases this
 .obtain⟨ps',q'⟩:=e.tab b ps q;exact e2.tab b ps' q'
mutual
theorem RD.mono(g:Grow H H')(r:List Addr):∀{d:D} {v:V},RD K ρ H d v->RD K (ρ++r) H' d v
 |.im i,v,h=>by simp only[RD]at h ⊢;exact h.grow g
 |.mu n,v,h=>by
  simp only[RD]at h ⊢;obtain⟨a,e,q⟩:=h;exact⟨a,by rw[List.getElem?_append_left (List.getElem?_eq_some_iff.mp e).1];exact e,q⟩
 |.tm ds,v,h=>by
  simp only[RD]at h ⊢;obtain⟨a,xs,e,q,z⟩:=h;exact⟨a,xs,e,g.sq q,RDs.mono g r z⟩
 |.ro ns,v,h=>by
  simp only[RD]at h ⊢;obtain⟨a,e,q⟩:=h;exact⟨a,e,q.grow g⟩
 |.op nm fs ds,v,h=>by
  simp only[RD]at h ⊢;obtain⟨a,xs,e,q,z⟩:=h;exact⟨a,xs,e,q.grow g,RDs.mono g r z⟩
 |.fv k ds,v,h=>by
  simp only[RD]at h ⊢;obtain⟨a,xs,e,q,z⟩:=h;exact⟨a,xs,e,q.grow g,RDs.mono g r z⟩
theorem RDs.mono(g:Grow H H')(r:List Addr):∀{d:List D} {v:List V},RDs K ρ H d v->RDs K (ρ++r) H' d v
 |[],v,h=>by simpa only[RDs]using h
 |d::ds,v,h=>by
  simp only[RDs]at h ⊢;obtain⟨x,r',e,q,z⟩:=h;exact⟨x,r',e,q.mono g r,RDs.mono g r z⟩
end
theorem RKs.mono(g:Grow H H')(r:List Addr):∀{d:List (Key×D)} {v:List (Key×V)},RKs K ρ H d v->RKs K (ρ++r) H' d v
 |[],v,h=>by simpa only[RKs]using h
 |d::ds,v,h=>by
  simp only[RKs]at h ⊢;obtain⟨x,r',e,q1,q,z⟩:=h;exact⟨x,r',e,q1,q.mono g r,RKs.mono g r z⟩
theorem RC.mono(g:Grow H H')(r:List Addr){o:MO}{ho:HO}(h:RC K ρ H o ho):RC K (ρ++r) H' o ho:=by
 cases o with
 |lst ds=>obtain⟨xs,e,q⟩:=h;exact⟨xs,e,q.mono g r⟩
 |dic ds=>obtain⟨xs,e,q⟩:=h;exact⟨xs,e,q.mono g r⟩
def RD.ext(h:RH K ρ H hd)(e:Ext ρ H ρ' H'){d:D}{v:V}(q:RD K ρ H d v):RD K ρ' H' d v:=by
 obtain⟨r,rfl,_⟩:=e.pre;exact q.mono (e.grow h) r
def RDs.ext(h:RH K ρ H hd)(e:Ext ρ H ρ' H'){d:List D}{v:List V}(q:RDs K ρ H d v):RDs K ρ' H' d v:=by
 obtain⟨r,rfl,_⟩:=e.pre;exact q.mono (e.grow h) r
theorem RL.ext(h:RH K ρ H hd)(e:Ext ρ H ρ' H'){ls:Ls}{σ:St}(q:RL K ρ H ls σ):RL K ρ' H' ls σ:=
 ⟨q.len,λi d z=>let ⟨v,a,b⟩:=q.ob i d z;⟨v,a,b.ext h e⟩⟩
theorem RDs.len:∀{ds:List D} {xs:List V},RDs K ρ H ds xs->xs.length=ds.length
 |[],xs,h=>by simp only[RDs]at h;rw[h];rfl
 |d::ds,xs,h=>by
  simp only[RDs]at h;obtain⟨x,r,rfl,_,z⟩:=h;simp[RDs.len z]
theorem RDs.get:∀{ds:List D} {xs:List V} {i:Nat} {d:D},RDs K ρ H ds xs->ds[i]?=some d->∃x,xs[i]?=some x/\RD K ρ H d x
 |[],xs,i,d,h,e=>by simp at e
 |d::ds,xs,0,e,h,q=>by
  simp only[RDs]at h;obtain⟨x,r,rfl,z,_⟩:=h;simp at q;subst q;exact⟨x,rfl,z⟩
 |d::ds,xs,i+1,e,h,q=>by
  simp only[RDs]at h;obtain⟨x,r,rfl,_,z⟩:=h;obtain⟨y,a,b⟩:=RDs.get (i:=i) z (by simpa using q);exact⟨y,by simpa using a,b⟩
def RDs.nil:RDs K ρ H [] []:=by simp[RDs]
def RDs.cons{d:D}{v:V}{ds:List D}{vs:List V}(h:RD K ρ H d v)(t:RDs K ρ H ds vs):RDs K ρ H (d::ds) (v::vs):=by
 simp only[RDs];exact⟨v,vs,rfl,h,t⟩
theorem RDs.app:∀{ds es:List D} {xs ys:List V},RDs K ρ H ds xs->RDs K ρ H es ys->RDs K ρ H (ds++es) (xs++ys)
 |[],es,xs,ys,h,t=>by simp only[RDs]at h;subst h;simpa using t
 |d::ds,es,xs,ys,h,t=>by
  simp only[RDs]at h;obtain⟨x,r,rfl,z,q⟩:=h;simp only[iF];exact .cons z (q.app t)
theorem RDs.set:∀{ds:List D} {xs:List V} {d:D} {v:V} (i:Nat),RDs K ρ H ds xs->RD K ρ H d v->RDs K ρ H (ds.set i d) (xs.set i v)
 |[],xs,d,v,i,h,t=>by simp only[RDs]at h;subst h;simp[RDs]
 |d::ds,xs,e,v,0,h,t=>by
  simp only[RDs]at h;obtain⟨x,r,rfl,z,q⟩:=h;simpa using RDs.cons t q
 |d::ds,xs,e,v,i+1,h,t=>by
  simp only[RDs]at h;obtain⟨x,r,rfl,z,q⟩:=h;simpa using RDs.cons z (q.set i t)
theorem RDs.drop:∀{ds:List D} {xs:List V} (n:Nat),RDs K ρ H ds xs->RDs K ρ H (ds.drop n) (xs.drop n)
 |ds,xs,0,h=>by simpa using h
 |[],xs,n+1,h=>by simp only[RDs]at h;subst h;simp[RDs]
 |d::ds,xs,n+1,h=>by
  simp only[RDs]at h;obtain⟨x,r,rfl,z,q⟩:=h;simpa using q.drop n
theorem RDs.take:∀{ds:List D} {xs:List V} (n:Nat),RDs K ρ H ds xs->RDs K ρ H (ds.take n) (xs.take n)
 |ds,xs,0,h=>by simp[RDs]
 |[],xs,n+1,h=>by simp only[RDs]at h;subst h;simp[RDs]
 |d::ds,xs,n+1,h=>by
  simp only[RDs]at h;obtain⟨x,r,rfl,z,q⟩:=h;simpa using RDs.cons z (q.take n)
theorem RIs.ds:∀{is:List I} {xs:List V},RIs K H is xs->RDs K ρ H (is.map D.im) xs
 |[],xs,h=>by simpa only[RIs,RDs,iA]using h
 |i::is,xs,h=>by
  simp only[RIs]at h;obtain⟨x,r,rfl,z,q⟩:=h;exact .cons (by simpa only[RD]using z) q.ds
theorem RDs.is:∀{is:List I} {xs:List V},RDs K ρ H (is.map D.im) xs->RIs K H is xs
 |[],xs,h=>by simpa only[RIs,RDs,iA]using h
 |i::is,xs,h=>by
  simp only[gm,RDs]at h;obtain⟨x,r,rfl,z,q⟩:=h;simp only[RIs];exact⟨x,r,rfl,by simpa only[RD]using z,q.is⟩
def RH.put(h:RH K ρ H hd){n:Nat}{a:Addr}(hn:ρ[n]?=some a){o:MO}{ho:HO}(c:RC K ρ H o ho):RH K ρ (upd H a ho) (hd.set n o)/\Ext ρ H ρ (upd H a ho):=by
 have ha:=h.mut (gJ hn);have n1:∀ps,H a≠some (.tbl ps):=λps e=>by rcases ha with⟨y,z⟩|⟨y,z⟩<;>(rw[e]at z;cases z)
 have n2:∀φ,H a≠some (.ext φ):=λps e=>by rcases ha with⟨y,z⟩|⟨y,z⟩<;>(rw[e]at z;cases z)
 have ex:Ext ρ H ρ (upd H a ho):=⟨⟨[],by simp,by simp⟩,λb o q m _=>by
  have:b≠a:=λz=>m (by rw[z];exact gJ hn);rw[AE this];exact q,λb ps q=>⟨ps,(AE (show b≠a from λz=>n1 ps (by rw[<- z];exact q))).trans q⟩⟩
 have gr:=ex.grow h;refine⟨⟨by simp[h.len],h.nd,h.tabs.upd n1 n2,λm o' b e1 e2=>?_⟩,ex⟩;have hm:m<hd.length:=by rw[<- h.len];exact(78 e2).1
 by_cases hmn:m=n
 .subst hmn;rw[hn]at e2;cases e2;rw[List.getElem?_set_self hm]at e1;cases e1;exact⟨ho,AK,by simpa using c.mono gr []⟩
 .rw[List.getElem?_set_ne (λz=>hmn z.symm)]at e1;obtain⟨ho',q1,q2⟩:=h.ob m o' b e1 e2;have:b≠a:=λz=>by
   subst z;have l1:=(78 e2).1;have l2:=(78 hn).1;exact hmn ((List.getElem?_inj l1 h.nd).mp (e2.trans hn.symm))
  exact⟨ho',by rw[AE this];exact q1,by simpa using q2.mono gr []⟩
theorem RH.lst(h:RH K ρ H hd){n:Nat}{a:Addr}{ds:List D}(hn:ρ[n]?=some a)(e:hd[n]?=some (.lst ds)):∃xs,H a=some (.lst xs)/\RDs K ρ H ds xs:=by
 obtain⟨ho,q,xs,rfl,r⟩:=h.ob n _ a e hn;exact⟨xs,q,r⟩
theorem RH.dic(h:RH K ρ H hd){n:Nat}{a:Addr}{ds:List (Key×D)}(hn:ρ[n]?=some a)(e:hd[n]?=some (.dic ds)):∃xs,H a=some (.dK xs)/\RKs K ρ H ds xs:=by
 obtain⟨ho,q,xs,rfl,r⟩:=h.ob n _ a e hn;exact⟨xs,q,r⟩
def RH.hid(h:RH K ρ H hd){a:Addr}(ha:H a=none){ho:HO}:RH K ρ (upd H a ho) hd/\Ext ρ H ρ (upd H a ho):=by
 have out:a∉ρ:=λm=>by rcases h.mut m with⟨y,z⟩|⟨y,z⟩<;>(rw[ha]at z;cases z)
 have ex:Ext ρ H ρ (upd H a ho):=⟨⟨[],by simp,by simp⟩,λb o q n _=>by rw[AE (AR q ha)];exact q,λb ps q=>⟨ps,by rw[AE (AR q ha)];exact q⟩⟩
 have gr:=ex.grow h;refine⟨⟨h.len,h.nd,h.tabs.upd (by simp[ha]) (by simp[ha]),λm o' b e1 e2=>?_⟩,ex⟩;obtain⟨ho',q1,q2⟩:=h.ob m o' b e1 e2;exact⟨ho',by rw[AE (AR q1 ha)];exact q1,by simpa using q2.mono gr []⟩
def RH.hput(h:RH K ρ H hd){a:Addr}(out:a∉ρ){xs:List V}{ho:HO}(hl:H a=some (.lst xs)):RH K ρ (upd H a ho) hd:=by
 have gr:Grow H (upd H a ho):=Grow.refl.put (.lst hl);refine⟨h.len,h.nd,h.tabs.upd (by simp[hl]) (by simp[hl]),λm o' b e1 e2=>?_⟩;obtain⟨ho',q1,q2⟩:=h.ob m o' b e1 e2;have:b≠a:=λz=>out (by rw[<- z];exact gJ e2);exact⟨ho',by rw[AE this];exact q1,by simpa using q2.mono gr []⟩
end
end L2
namespace L2
open PySem PySem.Spec PyProof.Rows
noncomputable abbrev ME:=Ls->Hd->Option (D×Hd)
noncomputable abbrev MT:=Ls->Hd->Option (Bool×Hd)
noncomputable abbrev MA:=Ls->Hd->Option (List D×Hd)
inductive Fl where
 |nx (ls:Ls)|rt (d:D)|bk (ls:Ls)|ct (ls:Ls)
noncomputable abbrev MS:=Ls->Hd->Option (Fl×Hd)
section
variable(K:Frag)
def RE(t:TE)(m:ME):Prop:=∀(ρ:List Addr) (σ:St) (H:Hp) (hd:Hd) (ls:Ls) (Q:VK) (d:D) (hd':Hd),RH K ρ H hd->RL K ρ H ls σ->m ls hd=some (d,hd') ->
 (∀ρ' H' v,Ext ρ H ρ' H'->RH K ρ' H' hd'->RD K ρ' H' d v->Q v H')->t σ H Q
def RT(t:TT)(m:MT):Prop:=∀(ρ:List Addr) (σ:St) (H:Hp) (hd:Hd) (ls:Ls) (Q:Bool->Hp->Prop) (d:Bool) (hd':Hd),RH K ρ H hd->RL K ρ H ls σ->m ls hd=some (d,hd') ->
 (∀ρ' H',Ext ρ H ρ' H'->RH K ρ' H' hd'->Q d H')->t σ H Q
def RA(t:TA)(m:MA):Prop:=∀(ρ:List Addr) (σ:St) (H:Hp) (hd:Hd) (ls:Ls) (Q:List V->Hp->Prop) (d:List D) (hd':Hd),RH K ρ H hd->RL K ρ H ls σ->m ls hd=some (d,hd') ->
 (∀ρ' H' v,Ext ρ H ρ' H'->RH K ρ' H' hd'->RDs K ρ' H' d v->Q v H')->t σ H Q
def RN(t:TE)(m:MA):Prop:=∀(ρ:List Addr) (σ:St) (H:Hp) (hd:Hd) (ls:Ls) (Q:VK) (d:List D) (hd':Hd),RH K ρ H hd->RL K ρ H ls σ->m ls hd=some (d,hd') ->
 (∀ρ' H' a xs,Ext ρ H ρ' H'->RH K ρ' H' hd'->H a=none->a∉ρ'->H' a=some (.lst xs)->RDs K ρ' H' d xs->Q (.ref a) H')->t σ H Q
noncomputable def cg(E:Ends)(ρ:List Addr)(H:Hp):Fl->Prop
 |.nx ls=>∀σ,RL K ρ H ls σ->E.nx σ H
 |.bk ls=>∀σ,RL K ρ H ls σ->E.bk σ H
 |.ct ls=>∀σ,RL K ρ H ls σ->E.ct σ H
 |.rt d=>∀v,RD K ρ H d v->E.rt v H
def RS(t:TS)(m:MS):Prop:=∀(ρ:List Addr) (σ:St) (H:Hp) (hd:Hd) (ls:Ls) (E:Ends) (f:Fl) (hd':Hd),RH K ρ H hd->RL K ρ H ls σ->m ls hd=some (f,hd') ->
 (∀ρ' H',Ext ρ H ρ' H'->RH K ρ' H' hd'->cg K E ρ' H' f)->t E σ H
def RB(r:R2)(f:D->D->Hd->Option (D×Hd)):Prop:=∀(ρ:List Addr) (H:Hp) (hd:Hd) (d e:D) (v u:V) (Q:VK) (z:D) (hd':Hd),RH K ρ H hd->RD K ρ H d v->RD K ρ H e u->f d e hd=some (z,hd') ->
 (∀ρ' H' w,Ext ρ H ρ' H'->RH K ρ' H' hd'->RD K ρ' H' z w->Q w H')->r v u H Q
def RF(r:List V->Hp->VK->Prop)(f:List D->Hd->Option (D×Hd)):Prop:=∀(ρ:List Addr) (H:Hp) (hd:Hd) (ds:List D) (vs:List V) (Q:VK) (z:D) (hd':Hd),RH K ρ H hd->RDs K ρ H ds vs->f ds hd=some (z,hd') ->
 (∀ρ' H' w,Ext ρ H ρ' H'->RH K ρ' H' hd'->RD K ρ' H' z w->Q w H')->r vs H Q
def RG(tp:Bool)(r:List V->Hp->VK->Prop)(g:List D->Option D):Prop:=∀(ρ:List Addr) (H:Hp) (hd:Hd) (a:Addr) (xs:List V) (ds:List D) (Q:VK) (z:D),RH K ρ H hd->(SqL K H a xs∨(tp=true/\SqT K H a xs))->RDs K ρ H ds xs->g ds=some z ->
 (∀H' w,Ext ρ H ρ H'->RH K ρ H' hd->RD K ρ H' z w->Q w H')->r [.ref a] H Q
end
structure QE(K:Frag)(X:Cx)(e:Expr)(t:TE)(m:ME):Prop where
 p:PE X e t
 r:RE K t m
structure QT(K:Frag)(X:Cx)(e:Expr)(t:TT)(m:MT):Prop where
 p:PT X e t
 r:RT K t m
structure QW(K:Frag)(X:Cx)(e:Expr)(t:TT)(m:MT):Prop where
 p:PW X e t
 r:RT K t m
structure QA(K:Frag)(X:Cx)(e:List Expr)(t:TA)(m:MA):Prop where
 p:PA X e t
 r:RA K t m
structure QN(K:Frag)(X:Cx)(e:Expr)(t:TE)(m:MA):Prop where
 p:PE X e t
 r:RN K t m
structure QS(K:Frag)(X:Cx)(e:Stmt)(t:TS)(m:MS):Prop where
 p:PS X e t
 r:RS K t m
structure QSs(K:Frag)(X:Cx)(e:List Stmt)(t:TS)(m:MS):Prop where
 p:PSs X e t
 r:RS K t m
noncomputable def Aa:D->Option (List D)
 |.im (.tup is)=>some (is.map .im)
 |.tm ds=>some ds
 |_=>none
noncomputable def Ai(hd:Hd):D->Option (List D)
 |.mu n=>match hd[n]? with
  |some (.lst ds)=>some ds
  |_=>none
 |.ro ns=>some (ns.map λn=>.im (.int n))
 |_=>none
noncomputable def Av(hd:Hd)(d:D):Option (List D):=match Aa d with
 |some ds=>some ds
 |none=>Ai hd d
noncomputable def BK:List D->Option (List I)
 |[]=>some []
 |.im i::r=>(BK r).map (i::·)
 |_::_=>none
noncomputable def AW(ds:List D):D:=match BK ds with
 |some is=>.im (.tup is)
 |none=>.tm ds
noncomputable def Am:List D->Option (List Int)
 |[]=>some []
 |.im (.int i)::r=>(Am r).map (i::·)
 |_::_=>none
noncomputable def C8:List D->Option (List Bool)
 |[]=>some []
 |.im (.bl i)::r=>(C8 r).map (i::·)
 |_::_=>none
section
variable{K:Frag}{ρ ρ':List Addr}{H H':Hp}{hd hd':Hd}
theorem Gn:∀{ds:List D} {is:List I},BK ds=some is->ds=is.map .im
 |[],is,h=>by simp[BK]at h;subst h;rfl
 |.im i::r,is,h=>by
  simp only[BK,map_eq_some_iff]at h;obtain⟨js,e,rfl⟩:=h;simp[Gn e]
 |.mu _::_,is,h=>by simp[BK]at h
 |.tm _::_,is,h=>by simp[BK]at h
 |.ro _::_,is,h=>by simp[BK]at h
 |.op _ _ _::_,is,h=>by simp[BK]at h
 |.fv _ _::_,is,h=>by simp[BK]at h
theorem C7:∀{ds:List D} {is:List Int},Am ds=some is->ds=is.map λi=>.im (.int i)
 |[],is,h=>by simp[Am]at h;subst h;rfl
 |.im (.int i)::r,is,h=>by
  simp only[Am,map_eq_some_iff]at h;obtain⟨js,e,rfl⟩:=h;simp[C7 e]
 |.im (.bl _)::_,is,h=>by simp[Am]at h
 |.im (.str _)::_,is,h=>by simp[Am]at h
 |.im .non::_,is,h=>by simp[Am]at h
 |.im (.tup _)::_,is,h=>by simp[Am]at h
 |.mu _::_,is,h=>by simp[Am]at h
 |.tm _::_,is,h=>by simp[Am]at h
 |.ro _::_,is,h=>by simp[Am]at h
 |.op _ _ _::_,is,h=>by simp[Am]at h
 |.fv _ _::_,is,h=>by simp[Am]at h
theorem Ke:∀{ds:List D} {is:List Bool},C8 ds=some is->ds=is.map λi=>.im (.bl i)
 |[],is,h=>by simp[C8]at h;subst h;rfl
 |.im (.bl i)::r,is,h=>by
  simp only[C8,map_eq_some_iff]at h;obtain⟨js,e,rfl⟩:=h;simp[Ke e]
 |.im (.int _)::_,is,h=>by simp[C8]at h
 |.im (.str _)::_,is,h=>by simp[C8]at h
 |.im .non::_,is,h=>by simp[C8]at h
 |.im (.tup _)::_,is,h=>by simp[C8]at h
 |.mu _::_,is,h=>by simp[C8]at h
 |.tm _::_,is,h=>by simp[C8]at h
 |.ro _::_,is,h=>by simp[C8]at h
 |.op _ _ _::_,is,h=>by simp[C8]at h
 |.fv _ _::_,is,h=>by simp[C8]at h
@[simp] theorem Sl(is:List I):BK (is.map .im)=some is:=by induction is<;>simp_all [BK]
@[simp] theorem EU(is:List Int):Am (is.map λi=>.im (.int i))=some is:=by induction is<;>simp_all [Am]
@[simp] theorem blsD_map(is:List Bool):C8 (is.map λi=>.im (.bl i))=some is:=by induction is<;>simp_all [C8]
theorem E3:∀{ns:List Int} {xs:List V},RDs K ρ H (ns.map λi=>.im (.int i)) xs->xs=ns.map V.int
 |[],xs,h=>by simpa [RDs]using h
 |n::ns,xs,h=>by
  simp only[gm,RDs,RD,RI]at h;obtain⟨x,r,rfl,rfl,z⟩:=h;rw[E3 z];rfl
theorem DS:∀{ns:List Int},RDs K ρ H (ns.map λi=>.im (.int i)) (ns.map V.int)
 |[]=>by simp[RDs]
 |n::ns=>by simp only[gm];exact .cons (by simp[RD,RI]) DS
theorem Mq:∀{ns:List Bool} {xs:List V},RDs K ρ H (ns.map λi=>.im (.bl i)) xs->xs=ns.map V.bl
 |[],xs,h=>by simpa [RDs]using h
 |n::ns,xs,h=>by
  simp only[gm,RDs,RD,RI]at h;obtain⟨x,r,rfl,rfl,z⟩:=h;rw[Mq z];rfl
theorem RD.tup{d:D}{v:V}{ds:List D}(h:RD K ρ H d v)(e:Aa d=some ds):∃a xs,v=.ref a/\SqT K H a xs/\RDs K ρ H ds xs:=by
 cases d with
 |im i=>
  cases i with
  |tup is=>
   simp only[Aa,Option.some.injEq]at e;subst e;simp only[RD,RI]at h;obtain⟨a,xs,rfl,q,r⟩:=h;exact⟨a,xs,rfl,q,r.ds⟩
  |_=>simp[Aa]at e
 |tm es=>
  simp only[Aa,Option.some.injEq]at e;subst e;simpa only[RD]using h
 |_=>simp[Aa]at e
theorem RD.lst{d:D}{v:V}{ds:List D}(hR:RH K ρ H hd)(h:RD K ρ H d v)(e:Ai hd d=some ds):∃a xs,v=.ref a/\SqL K H a xs/\RDs K ρ H ds xs:=by
 cases d with
 |mu n=>
  simp only[Ai]at e;simp only[RD]at h;obtain⟨a,hn,rfl⟩:=h;split at e
  .next q=>
   cases e;obtain⟨xs,e1,e2⟩:=hR.lst hn q;exact⟨a,xs,rfl,SqL.of e1,e2⟩
  .cases e
 |ro ns=>
  simp only[Ai,Option.some.injEq]at e;subst e;simp only[RD]at h;obtain⟨a,rfl,q⟩:=h;exact⟨a,_,rfl,q.sq,DS⟩
 |_=>simp[Ai]at e
def RD.seq{d:D}{v:V}{ds:List D}(hR:RH K ρ H hd)(h:RD K ρ H d v)(e:Av hd d=some ds):∃a xs,v=.ref a/\(SqL K H a xs∨SqT K H a xs)/\RDs K ρ H ds xs:=by
 unfold Av at e;split at e
 .next q=>
  cases e;obtain⟨a,xs,e1,e2,e3⟩:=h.tup q;exact⟨a,xs,e1,.inr e2,e3⟩
 .obtain⟨a,xs,e1,e2,e3⟩:=h.lst hR e;exact⟨a,xs,e1,.inl e2,e3⟩
def C4{ds:List D}{a:Addr}{xs:List V}(q:SqT K H a xs)(r:RDs K ρ H ds xs):RD K ρ H (AW ds) (.ref a):=by
 unfold AW;split
 .next e=>
  rw[Gn e]at r;simp only[RD,RI];exact⟨a,xs,rfl,q,r.is⟩
 .simp only[RD];exact⟨a,xs,rfl,q,r⟩
noncomputable def A0(i:Nat):ME:=λls hd=>match ls[i]? with
 |some (some d)=>some (d,hd)
 |_=>none
def Yp{i:Nat}:RE K (PQ i) (A0 i):=by
 and_intros;unfold A0 at hm;split at hm
 .next e=>
  cases hm;obtain⟨v,e1,e2⟩:=hL.ob i _ e;exact⟨v,e1,hQ ρ H v .refl hR e2⟩
 .cases hm
noncomputable def mC(i:I):ME:=λ_ hd=>some (.im i,hd)
def Pw{v:V}{i:I}(h:∀H,RI K H i v):RE K (tC v) (mC i):=by
 and_intros;cases hm;exact hQ ρ H v .refl hR (by simpa only[RD]using h H)
noncomputable def mOp(f:D->D->Hd->Option (D×Hd))(ma mb:ME):ME:=λls hd=>(ma ls hd).bind λp=>(mb ls p.2).bind λq=>f p.1 q.1 q.2
def M1{r:R2}{f:D->D->Hd->Option (D×Hd)}{ta tb:TE}{ma mb:ME}(hr:RB K r f)(ha:RE K ta ma)(hb:RE K tb mb):RE K (tOp r ta tb) (mOp f ma mb):=by
 and_intros;obtain⟨⟨d1,h1⟩,e1,hm⟩:=gF hm;obtain⟨⟨d2,h2⟩,e2,hm⟩:=gF hm;refine ha ρ σ H hd ls _ d1 h1 hR hL e1 λρ1 H1 v1 x1 R1 r1=>?_;refine hb ρ1 σ H1 h1 ls _ d2 h2 R1 (hL.ext hR x1) e2 λρ2 H2 v2 x2 R2 r2=>?_;exact hr ρ2 H2 h2 d1 d2 v1 v2 Q d hd' R2 (r1.ext R1 x2) r2 hm λρ' H' w x3 R3 r3=>hQ ρ' H' w ((84).trans R2 x3) R3 r3
noncomputable def E6(ta tb:MT):MT:=λls hd=>(ta ls hd).bind λp=>if p.1=true then tb ls p.2 else some (false,p.2)
noncomputable def mOr(ta tb:MT):MT:=λls hd=>(ta ls hd).bind λp=>if p.1=true then some (true,p.2)else tb ls p.2
noncomputable def E5(ta:MT):MT:=λls hd=>(ta ls hd).bind λp=>some (!p.1,p.2)
def Yb{ta tb:TT}{ma mb:MT}(ha:RT K ta ma)(hb:RT K tb mb):RT K (TK ta tb) (E6 ma mb):=by
 and_intros;obtain⟨⟨d1,h1⟩,e1,hm⟩:=gF hm;refine ha ρ σ H hd ls _ d1 h1 hR hL e1 λρ1 H1 x1 R1=>?_;cases d1 with
 |true=>
  rw[gc rfl]at hm ⊢;exact hb ρ1 σ H1 h1 ls Q d hd' R1 (hL.ext hR x1) hm λρ2 H2 x2 R2=>hQ ρ2 H2 84 R2
 |false=>
  rw[gf Bool.false_ne_true]at hm ⊢;cases hm;exact hQ ρ1 H1 x1 R1
def bM{ta tb:TT}{ma mb:MT}(ha:RT K ta ma)(hb:RT K tb mb):RT K (tOr ta tb) (mOr ma mb):=by
 and_intros;obtain⟨⟨d1,h1⟩,e1,hm⟩:=gF hm;refine ha ρ σ H hd ls _ d1 h1 hR hL e1 λρ1 H1 x1 R1=>?_;cases d1 with
 |true=>
  rw[gc rfl]at hm ⊢;cases hm;exact hQ ρ1 H1 x1 R1
 |false=>
  rw[gf Bool.false_ne_true]at hm ⊢;exact hb ρ1 σ H1 h1 ls Q d hd' R1 (hL.ext hR x1) hm λρ2 H2 x2 R2=>hQ ρ2 H2 84 R2
def YZ{ta:TT}{ma:MT}(ha:RT K ta ma):RT K (TC ta) (E5 ma):=by
 and_intros;obtain⟨⟨d1,h1⟩,e1,hm⟩:=gF hm;cases hm;exact ha ρ σ H hd ls _ d1 h1 hR hL e1 λρ1 H1 x1 R1=>hQ ρ1 H1 x1 R1
open Classical in
noncomputable def Cy(hd:Hd):D->Option Bool
 |.im .non=>some false
 |.im (.bl b)=>some b
 |.im (.int i)=>some (i != 0)
 |.im (.str x)=>if Bj x.length then some ((x.length:Int) != 0)else none
 |.im (.tup is)=>some (!is.isEmpty)
 |.tm is=>some (!is.isEmpty)
 |.ro ns=>some (!ns.isEmpty)
 |.op _ _ _=>none
 |.fv _ _=>none
 |.mu n=>match hd[n]? with
  |some (.lst ds)=>some (!ds.isEmpty)
  |some (.dic ds)=>some (!ds.isEmpty)
  |none=>none
def D3{α β:Type}{xs:List α}{ys:List β}(h:xs.length=ys.length):xs.isEmpty=ys.isEmpty:=by
 cases xs<;>cases ys<;>simp_all
theorem RKs.len:∀{ds:List (Key×D)} {xs:List (Key×V)},RKs K ρ H ds xs->xs.length=ds.length
 |[],xs,h=>by simp only[RKs]at h;rw[h];rfl
 |d::ds,xs,h=>by
  simp only[RKs]at h;obtain⟨x,r,rfl,_,_,z⟩:=h;simp[RKs.len z]
def Vj{d:D}{v:V}{b:Bool}(hR:RH K ρ H hd)(h:RD K ρ H d v)(e:Cy hd d=some b):Nt K v H b:=by
 cases d with
 |im i=>
  cases i with
  |non=>simp only[RD,RI]at h;subst h;simp only[Cy,Option.some.injEq]at e;subst e;exact rfl
  |bl c=>simp only[RD,RI]at h;subst h;simp only[Cy,Option.some.injEq]at e;subst e;exact rfl
  |int c=>simp only[RD,RI]at h;subst h;simp only[Cy,Option.some.injEq]at e;subst e;exact rfl
  |str c=>
   simp only[RD,RI]at h;subst h;simp only[Cy]at e;split at e
   .next z=>cases e;exact⟨z,rfl⟩
   .cases e
  |tup is=>
   obtain⟨a,xs,rfl,q,r⟩:=h.tup (ds:=is.map .im) rfl;simp only[Cy,Option.some.injEq]at e;subst e;exact .inr (.inl ⟨xs,q,by rw[D3 (show xs.length=is.length by simpa using r.len)]⟩)
 |tm ds=>
  obtain⟨a,xs,rfl,q,r⟩:=h.tup (ds:=ds) rfl;simp only[Cy,Option.some.injEq]at e;subst e;exact .inr (.inl ⟨xs,q,by rw[D3 r.len]⟩)
 |ro ns=>
  obtain⟨a,xs,rfl,q,r⟩:=h.lst hR (hd:=hd) (ds:=ns.map λn=>.im (.int n)) rfl;simp only[Cy,Option.some.injEq]at e;subst e;exact .inl ⟨xs,q,by rw[D3 (show xs.length=ns.length by simpa using r.len)]⟩
 |op _ _ _=>simp[Cy]at e
 |fv _ _=>simp[Cy]at e
 |mu n=>
  simp only[RD]at h;obtain⟨a,hn,rfl⟩:=h;simp only[Cy]at e;split at e
  .next q=>
   cases e;obtain⟨xs,e1,e2⟩:=hR.lst hn q;exact .inl ⟨xs,SqL.of e1,by rw[D3 e2.len]⟩
  .next q=>
   cases e;obtain⟨xs,e1,e2⟩:=hR.dic hn q;exact .inr (.inr ⟨xs,e1,by rw[D3 e2.len]⟩)
  .cases e
noncomputable def Bx(ma:ME):MT:=λls hd=>(ma ls hd).bind λp=>(Cy p.2 p.1).map (·,p.2)
def TW{ta:TE}{ma:ME}(ha:RE K ta ma):RT K (λσ H Q=>ta σ H λx H'=>∃k,Nt K x H' k/\Q k H') (Bx ma):=by
 and_intros;obtain⟨⟨d1,h1⟩,e1,hm⟩:=gF hm;obtain⟨b,e2,e3⟩:=gG hm;cases e3;exact ha ρ σ H hd ls _ d1 h1 hR hL e1 λρ1 H1 v x1 R1 r1=>⟨_,Vj R1 r1 e2,hQ ρ1 H1 x1 R1⟩
noncomputable def AF(ma:ME):MT:=λls hd=>(ma ls hd).bind λp=>match p.1 with
 |.im (.bl b)=>some (b,p.2)
 |_=>none
def Ep{ta:TE}{ma:ME}(ha:RE K ta ma):RT K (Lv ta) (AF ma):=by
 and_intros;obtain⟨⟨d1,h1⟩,e1,hm⟩:=gF hm;dsimp only at hm;split at hm
 .cases hm;exact ha ρ σ H hd ls _ _ _ hR hL e1 λρ1 H1 v x1 R1 r1=>⟨_,by simpa only[RD,RI]using r1,hQ ρ1 H1 x1 R1⟩
 .cases hm
def Yc{ta:TE}{ma:ME}(ha:RE K ta ma):RT K (tB ta) (AF ma):=Ep ha
noncomputable def mIf(c:MT)(ma mb:ME):ME:=λls hd=>(c ls hd).bind λp=>if p.1=true then ma ls p.2 else mb ls p.2
def bQ{tc:TT}{c:MT}{ta tb:TE}{ma mb:ME}(hc:RT K tc c)(ha:RE K ta ma)(hb:RE K tb mb):RE K (tIf tc ta tb) (mIf c ma mb):=by
 and_intros;obtain⟨⟨d1,h1⟩,e1,hm⟩:=gF hm;refine hc ρ σ H hd ls _ d1 h1 hR hL e1 λρ1 H1 x1 R1=>?_;cases d1 with
 |true=>
  rw[gc rfl]at hm ⊢;exact ha ρ1 σ H1 h1 ls Q d hd' R1 (hL.ext hR x1) hm λρ2 H2 v x2 R2 r2=>hQ ρ2 H2 v 84 R2 r2
 |false=>
  rw[gf Bool.false_ne_true]at hm ⊢;exact hb ρ1 σ H1 h1 ls Q d hd' R1 (hL.ext hR x1) hm λρ2 H2 v x2 R2 r2=>hQ ρ2 H2 v 84 R2 r2
noncomputable def FP(ma mb:ME):ME:=λls hd=>(AF ma ls hd).bind λp=>if p.1=true then mb ls p.2 else some (.im (.bl false),p.2)
noncomputable def KL(ma mb:ME):ME:=λls hd=>(AF ma ls hd).bind λp=>if p.1=true then some (.im (.bl true),p.2)else mb ls p.2
noncomputable def IB(ma:ME):ME:=λls hd=>(AF ma ls hd).bind λp=>some (.im (.bl (!p.1)),p.2)
def WJ{ta tb:TE}{ma mb:ME}(ha:RE K ta ma)(hb:RE K tb mb):RE K (Pe ta tb) (FP ma mb):=by
 and_intros;obtain⟨⟨d1,h1⟩,e1,hm⟩:=gF hm;refine Ep ha ρ σ H hd ls (λc H1=>if c=true then tb σ H1 Q else Q (.bl false) H1) d1 h1 hR hL e1 λρ1 H1 x1 R1=>?_;cases d1 with
 |true=>
  rw[gc rfl]at hm ⊢;exact hb ρ1 σ H1 h1 ls Q d hd' R1 (hL.ext hR x1) hm λρ2 H2 v x2 R2 r2=>hQ ρ2 H2 v 84 R2 r2
 |false=>
  rw[gf Bool.false_ne_true]at hm ⊢;cases hm;exact hQ ρ1 H1 _ x1 R1 (by simp[RD,RI])
def Yr{ta tb:TE}{ma mb:ME}(ha:RE K ta ma)(hb:RE K tb mb):RE K (TB ta tb) (KL ma mb):=by
 and_intros;obtain⟨⟨d1,h1⟩,e1,hm⟩:=gF hm;refine Ep ha ρ σ H hd ls (λc H1=>if c=true then Q (.bl true) H1 else tb σ H1 Q) d1 h1 hR hL e1 λρ1 H1 x1 R1=>?_;cases d1 with
 |true=>
  rw[gc rfl]at hm ⊢;cases hm;exact hQ ρ1 H1 _ x1 R1 (by simp[RD,RI])
 |false=>
  rw[gf Bool.false_ne_true]at hm ⊢;exact hb ρ1 σ H1 h1 ls Q d hd' R1 (hL.ext hR x1) hm λρ2 H2 v x2 R2 r2=>hQ ρ2 H2 v 84 R2 r2
def W8{ta:TE}{ma:ME}(ha:RE K ta ma):RE K (PU ta) (IB ma):=by
 and_intros;obtain⟨⟨d1,h1⟩,e1,hm⟩:=gF hm;cases hm;exact Ep ha ρ σ H hd ls (λc H1=>Q (.bl (!c)) H1) d1 h1 hR hL e1 λρ1 H1 x1 R1=>hQ ρ1 H1 _ x1 R1 (by simp[RD,RI])
noncomputable def A5:MA:=λ_ hd=>some ([],hd)
noncomputable def A2(ma:ME)(mr:MA):MA:=λls hd=>(ma ls hd).bind λp=>(mr ls p.2).bind λq=>some (p.1::q.1,q.2)
def Yz:RA K BZ A5:=by
 and_intros;cases hm;exact hQ ρ H [] .refl hR .nil
def WN{ta:TE}{tr:TA}{ma:ME}{mr:MA}(ha:RE K ta ma)(hr:RA K tr mr):RA K (Ax ta tr) (A2 ma mr):=by
 and_intros;obtain⟨⟨d1,h1⟩,e1,hm⟩:=gF hm;obtain⟨⟨d2,h2⟩,e2,hm⟩:=gF hm;cases hm;refine ha ρ σ H hd ls _ d1 h1 hR hL e1 λρ1 H1 v1 x1 R1 r1=>?_;exact hr ρ1 σ H1 h1 ls _ d2 _ R1 (hL.ext hR x1) e2 λρ2 H2 v2 x2 R2 r2=>hQ ρ2 H2 _ 84 R2 (.cons (r1.ext R1 x2) r2)
open Classical in
noncomputable def BW(ma:MA):ME:=λls hd=>(ma ls hd).bind λp=>if Bj p.1.length then some (AW p.1,p.2)else none
def Yq{t:TA}{m:MA}(h:RA K t m):RE K (T7 t) (BW m):=by
 and_intros;obtain⟨⟨d1,h1⟩,e1,hm⟩:=gF hm;dsimp only at hm;split at hm
 .next z=>
  cases hm;refine h ρ σ H hd ls _ d1 _ hR hL e1 λρ1 H1 v1 x1 R1 r1=>⟨by rw[r1.len];exact z,λp hp=>?_⟩
  obtain⟨R2,x2⟩:=R1.hid (ho:=.tup v1) hp;exact hQ ρ1 _ _ 84 R2 (C4 (SqT.of AK) (r1.ext R1 x2))
 .cases hm
open Classical in
noncomputable def C5(ma:MA):MA:=λls hd=>(ma ls hd).bind λp=>if Bj p.1.length then some (p.1,p.2)else none
def RH.out(hR:RH K ρ H hd){a:Addr}(h:H a=none):a∉ρ:=λm=>by rcases hR.mut m with⟨y,z⟩|⟨y,z⟩<;>(rw[h]at z;cases z)
theorem Ext.none(e:Ext ρ H ρ' H')(hR:RH K ρ H hd){a:Addr}(h:H' a=none)(hR':RH K ρ' H' hd'):H a=none:=by
 cases q:H a with
 |none=>rfl
 |some o=>
  by_cases m:a∈ρ
  .obtain⟨r,rfl,_⟩:=e.pre;exact absurd (i9 r m) (hR'.out h)
  .by_cases t:∃ps,o=.tbl ps
   .obtain⟨ps,rfl⟩:=t;obtain⟨ps',this⟩:=e.tab a ps q;rw[h]at this;cases this
   .rw[e.keep a o q m λps y=>t ⟨ps,y⟩]at h;cases h
def Yj{t:TA}{m:MA}(h:RA K t m):RN K (TD t) (C5 m):=by
 and_intros;obtain⟨⟨d1,h1⟩,e1,hm⟩:=gF hm;dsimp only at hm;split at hm
 .next z=>
  cases hm;refine h ρ σ H hd ls _ _ _ hR hL e1 λρ1 H1 v1 x1 R1 r1=>⟨by rw[r1.len];exact z,λp hp=>?_⟩
  obtain⟨R2,x2⟩:=R1.hid (ho:=.lst v1) hp;exact hQ ρ1 _ p v1 84 R2 (x1.none hR hp R1) (R1.out hp) AK (r1.ext R1 x2)
 .cases hm
noncomputable def Au(ml:MA):ME:=λls hd=>(ml ls hd).bind λp=>some (.mu p.2.length,p.2++[.lst p.1])
def RH.name(hR:RH K ρ H hd){a:Addr}{xs:List V}{ds:List D}(out:a∉ρ)(e:H a=some (.lst xs))(r:RDs K ρ H ds xs):RH K (ρ++[a]) H (hd++[.lst ds]):=by
 have mono:∀{o:MO} {ho:HO},RC K ρ H o ho->RC K (ρ++[a]) H o ho:=λc=>c.mono Grow.refl [a];refine⟨by simp[hR.len],?_,hR.tabs,λn o' b e1 e2=>?_⟩
 .rw[nodup_append];refine⟨hR.nd,by simp,λx hx y hy z=>?_⟩;simp at hy;subst hy;subst z;exact out hx
 .by_cases hn:n<ρ.length
  .rw[List.getElem?_append_left hn]at e2;rw[List.getElem?_append_left (by rw[<- hR.len];exact hn)]at e1;obtain⟨ho',q1,q2⟩:=hR.ob n o' b e1 e2;exact⟨ho',q1,mono q2⟩
  .have hn':n=ρ.length:=by
    have:=(78 e2).1;simp at this;omega
   subst hn';simp at e2;rw[hR.len]at e1;simp at e1;subst e1;subst e2;exact⟨_,e,mono ⟨xs,rfl,r⟩⟩
def Ext.name(e:Ext ρ H ρ' H'){a:Addr}(h:H a=Option.none):Ext ρ H (ρ'++[a]) H':=by
 obtain⟨r,rfl,f⟩:=e.pre;refine⟨⟨r++[a],by simp,λb m=>?_⟩,e.keep,e.tab⟩;rcases mem_append.mp m with m|m
 .exact f b m
 .simp at m;subst m;exact h
def Rg{t:TE}{m:MA}(h:RN K t m):RE K t (Au m):=by
 and_intros;obtain⟨⟨d1,h1⟩,e1,hm⟩:=gF hm;cases hm;refine h ρ σ H hd ls Q d1 h1 hR hL e1 λρ1 H1 a xs x1 R1 na oa ea r1=>?_;refine hQ (ρ1++[a]) H1 _ (x1.name na) (R1.name oa ea r1) ?_;simp only[RD];exact⟨a,by rw[<- R1.len];simp,rfl⟩
end
section
variable{K:Frag}{ρ ρ':List Addr}{H H':Hp}{hd hd':Hd}
noncomputable def fI(g:Int->Int->Option I):D->D->Hd->Option (D×Hd)
 |.im (.int i),.im (.int j),hd=>(g i j).map (.im ·,hd)
 |_,_,_=>none
def Px{C:Int->Int->Prop}{g:Int->Int->V}{f:Int->Int->Option I}(h:∀i j z,f i j=some z->C i j/\∀H,RI K H z (g i j)):RB K (rI C g) (fI f):=by
 intro ρ H hd d e v u Q z hd' hR h1 h2 hf hQ;unfold fI at hf;split at hf
 .simp only[RD,RI]at h1 h2;subst h1 h2;obtain⟨w,e1,e2⟩:=gG hf;cases e2;obtain⟨c,r⟩:=h _ _ _ e1;exact⟨_,_,rfl,rfl,c,hQ ρ H _ .refl hR (by simpa only[RD]using r H)⟩
 .cases hf
def Hz{g:Int->Int->V}{f:Int->Int->I}(h:∀i j H,RI K H (f i j) (g i j)):RB K (rI0 g) (fI λi j=>some (f i j)):=by
 intro ρ H hd d e v u Q z hd' hR h1 h2 hf hQ;unfold fI at hf;split at hf
 .simp only[RD,RI]at h1 h2;subst h1 h2;cases hf;exact⟨_,_,rfl,rfl,hQ ρ H _ .refl hR (by simpa only[RD]using h _ _ H)⟩
 .cases hf
noncomputable def Gh(f g:D->D->Hd->Option (D×Hd)):D->D->Hd->Option (D×Hd):=λd e hd=>match f d e hd with
 |some z=>some z
 |none=>g d e hd
def E4{r r':R2}{f g:D->D->Hd->Option (D×Hd)}(h:RB K r f)(h':RB K r' g):RB K (λx y H Q=>r x y H Q∨r' x y H Q) (Gh f g):=by
 intro ρ H hd d e v u Q z hd' hR h1 h2 hf hQ;unfold Gh at hf;split at hf
 .next q=>cases hf;exact .inl (h ρ H hd d e v u Q z hd' hR h1 h2 q hQ)
 .exact .inr (h' ρ H hd d e v u Q z hd' hR h1 h2 hf hQ)
noncomputable abbrev KR:D->D->Hd->Option (D×Hd):=fI λi j=>some (.int (i+j))
noncomputable abbrev CL:D->D->Hd->Option (D×Hd):=fI λi j=>some (.int (i-j))
def Rn:RB K (rI0 λi j=>.int (i+j)) KR:=Hz λ_ _ _=>by simp[RI]
def Yv:RB K (rI0 λi j=>.int (i-j)) CL:=Hz λ_ _ _=>by simp[RI]
open Classical in
noncomputable abbrev Cz:D->D->Hd->Option (D×Hd):=fI λi j=>if EC i j then some (.int (i*j))else none
def Yx:RB K (rI CMul λi j=>.int (i*j)) Cz:=Px λi j z h=>by
 split at h
 .next q=>cases h;exact⟨q,λ_=>by simp[RI]⟩
 .cases h
open Classical in
noncomputable abbrev Ge:D->D->Hd->Option (D×Hd):=fI λi j=>if DB j then some (.int (i%j))else none
def Yy:RB K (rI (λ_ j=>0<j) λi j=>.int (i%j)) Ge:=Px λi j z h=>by
 split at h
 .next q=>cases h;exact⟨q,λ_=>by simp[RI]⟩
 .cases h
open Classical in
noncomputable abbrev Jk:D->D->Hd->Option (D×Hd):=fI λi j=>if M8 j then some (.int (i/j))else none
def WK:RB K (rI bE λi j=>.int (i/j)) Jk:=Px λi j z h=>by
 split at h
 .next q=>cases h;exact⟨q,λ_=>by simp[RI]⟩
 .cases h
open Classical in
noncomputable abbrev Uk:D->D->Hd->Option (D×Hd):=fI λi j=>if Q8 i j then some (.int (i^j.toNat))else none
def Yw:RB K (rI bD λi j=>.int (i^j.toNat)) Uk:=Px λi j z h=>by
 split at h
 .next q=>cases h;exact⟨q,λ_=>by simp[RI]⟩
 .cases h
noncomputable abbrev gLt:D->D->Hd->Option (D×Hd):=fI λi j=>some (.bl (decide (i<j)))
noncomputable abbrev gLe:D->D->Hd->Option (D×Hd):=fI λi j=>some (.bl (decide (i<=j)))
noncomputable abbrev gGt:D->D->Hd->Option (D×Hd):=fI λi j=>some (.bl (decide (j<i)))
noncomputable abbrev gGe:D->D->Hd->Option (D×Hd):=fI λi j=>some (.bl (decide (j<=i)))
def bR:RB K (rI0 λi j=>.bl (decide (i<j))) gLt:=Hz λ_ _ _=>by simp[RI]
def V9:RB K (rI0 λi j=>.bl (decide (i<=j))) gLe:=Hz λ_ _ _=>by simp[RI]
def bV:RB K (rI0 λi j=>.bl (decide (j<i))) gGt:=Hz λ_ _ _=>by simp[RI]
def bW:RB K (rI0 λi j=>.bl (decide (j<=i))) gGe:=Hz λ_ _ _=>by simp[RI]
noncomputable def scI:I->Option V
 |.non=>some .non
 |.bl b=>some (.bl b)
 |.int i=>some (.int i)
 |.str x=>some (.str x)
 |.tup _=>none
def JN{i:I}{v w:V}(e:scI i=some w)(h:RI K H i v):v=w:=by
 cases i with
 |tup _=>simp[scI]at e
 |_=>simp only[scI,Option.some.injEq]at e;subst e;simpa only[RI]using h
noncomputable def Fh(neg:Bool):D->D->Hd->Option (D×Hd)
 |.im i,.im j,hd=>match scI i,scI j with
  |some x,some y=>if MZ x y=true then some (.im (.bl (if neg then !decide (x=y)else decide (x=y))),hd)else none
  |_,_=>none
 |_,_,_=>none
def Rl:RB K rEq (Fh false):=by
 intro ρ H hd d e v u Q z hd' hR h1 h2 hf hQ;unfold Fh at hf;split at hf
 .split at hf
  .next x y e1 e2=>
   split at hf
   .next s=>
    cases hf;simp only[RD]at h1 h2;rw[JN e1 h1,JN e2 h2];exact⟨s,hQ ρ H _ .refl hR (by simp[RD,RI])⟩
   .cases hf
  .cases hf
 .cases hf
def Rj:RB K rNe (Fh true):=by
 intro ρ H hd d e v u Q z hd' hR h1 h2 hf hQ;unfold Fh at hf;split at hf
 .split at hf
  .next x y e1 e2=>
   split at hf
   .next s=>
    cases hf;simp only[RD]at h1 h2;rw[JN e1 h1,JN e2 h2];exact⟨s,hQ ρ H _ .refl hR (by simp[RD,RI])⟩
   .cases hf
  .cases hf
 .cases hf
mutual
noncomputable def I.py:I->PyData
 |.non=>.none
 |.bl b=>.bool b
 |.int i=>.int i
 |.str x=>.str x
 |.tup ds=>.tuple (I.pys ds)
noncomputable def I.pys:List I->List PyData
 |[]=>[]
 |d::ds=>I.py d::I.pys ds
end
mutual
theorem RI.rep:∀{i:I} {v:V},RI K H i v->Rep K H i.py v
 |.non,v,h=>by simpa only[RI,I.py,Rep]using h
 |.bl _,v,h=>by simpa only[RI,I.py,Rep]using h
 |.int _,v,h=>by simpa only[RI,I.py,Rep]using h
 |.str _,v,h=>by simpa only[RI,I.py,Rep]using h
 |.tup ds,v,h=>by
  simp only[RI]at h;obtain⟨a,xs,e,q,r⟩:=h;simp only[I.py,Rep];exact⟨a,xs,e,q,RIs.rep r⟩
theorem RIs.rep:∀{i:List I} {v:List V},RIs K H i v->RepAll K H (I.pys i) v
 |[],v,h=>by simpa only[RIs,I.pys,RepAll]using h
 |d::ds,v,h=>by
  simp only[RIs]at h;obtain⟨x,r,e,q,z⟩:=h;simp only[I.pys,RepAll];exact⟨x,r,e,q.rep,RIs.rep z⟩
end
noncomputable def pyD(hd:Hd):D->Option PyData
 |.im i=>some i.py
 |.mu n=>match hd[n]? with
  |some (.lst ds)=>(BK ds).map λis=>.list (I.pys is)
  |_=>none
 |.ro ns=>some (.list (I.pys (ns.map I.int)))
 |_=>none
def Fv{d:D}{v:V}{p:PyData}(hR:RH K ρ H hd)(h:RD K ρ H d v)(e:pyD hd d=some p):Rep K H p v:=by
 cases d with
 |im i=>simp only[pyD,Option.some.injEq]at e;subst e;simp only[RD]at h;exact h.rep
 |mu n=>
  simp only[pyD]at e;simp only[RD]at h;obtain⟨a,hn,rfl⟩:=h;split at e
  .next q=>
   obtain⟨is,e1,rfl⟩:=gG e;obtain⟨xs,e2,e3⟩:=hR.lst hn q;rw[Gn e1]at e3;simp only[Rep];exact⟨a,xs,rfl,SqL.of e2,e3.is.rep⟩
  .cases e
 |ro ns=>
  simp only[pyD,Option.some.injEq]at e;subst e;obtain⟨a,xs,rfl,q,r⟩:=h.lst hR (hd:=hd) (ds:=ns.map λn=>.im (.int n)) rfl;simp only[Rep];refine⟨a,xs,rfl,q,RIs.rep (RDs.is (ρ:=ρ) ?_)⟩;rw[gH];exact r
 |tm _=>simp[pyD]at e
 |op _ _ _=>simp[pyD]at e
 |fv _ _=>simp[pyD]at e
noncomputable def KQ(neg:Bool):D->D->Hd->Option (D×Hd):=λd e hd=>match pyD hd d,pyD hd e with
 |some x,some y=>if x.canLay0=true/\y.canLay0=true/\min x.depth y.depth<=60 then some (.im (.bl (if neg then !PyData.eqv x y else PyData.eqv x y)),hd)else none
 |_,_=>none
def Rm:RB K (Ts K) (KQ false):=by
 intro ρ H hd d e v u Q z hd' hR h1 h2 hf hQ;unfold KQ at hf;split at hf
 .next e1 e2=>
  split at hf
  .next c=>cases hf;exact⟨_,_,Fv hR h1 e1,Fv hR h2 e2,c.1,c.2.1,c.2.2,hQ ρ H _ .refl hR (by simp[RD,RI])⟩
  .cases hf
 .cases hf
def Rk:RB K (Tq K) (KQ true):=by
 intro ρ H hd d e v u Q z hd' hR h1 h2 hf hQ;unfold KQ at hf;split at hf
 .next e1 e2=>
  split at hf
  .next c=>cases hf;exact⟨_,_,Fv hR h1 e1,Fv hR h2 e2,c.1,c.2.1,c.2.2,hQ ρ H _ .refl hR (by simp[RD,RI])⟩
  .cases hf
 .cases hf
noncomputable abbrev gEq:=Gh (Fh false) (KQ false)
noncomputable abbrev gNe:=Gh (Fh true) (KQ true)
noncomputable def gIx:D->D->Hd->Option (D×Hd)
 |d,.im (.int i),hd=>(Av hd d).bind λds=>(atI ds i).map (·,hd)
 |_,_,_=>none
def P9{α β:Type}{xs:List α}{ys:List β}{i:Int}{y:β}(h:xs.length=ys.length)(e:atI ys i=some y):∃(j:Nat),ys[j]?=some y/\∀x,xs[j]?=some x->atI xs i=some x:=by
 unfold atI at e;obtain⟨j,e1,e2⟩:=gF e;exact⟨j,e2,λx q=>by unfold atI;rw[h,e1];exact q⟩
noncomputable def M2(K:Frag):R2:=λx y H Q=>KF K x y H Q∨Tr K x y H Q
def bS:RB K (M2 K) gIx:=by
 intro ρ H hd d e v u Q z hd' hR h1 h2 hf hQ;unfold gIx at hf;split at hf
 .obtain⟨ds,e1,hf⟩:=gF hf;obtain⟨w,e2,e3⟩:=gG hf;cases e3;obtain⟨a,xs,rfl,q,r⟩:=h1.seq hR e1;simp only[RD,RI]at h2;subst h2;obtain⟨j,j1,j2⟩:=P9 r.len e2;obtain⟨x,x1,x2⟩:=r.get j1;rcases q with q|q
  .exact .inl ⟨a,xs,_,x,rfl,rfl,q,j2 x x1,hQ ρ H x .refl hR x2⟩
  .exact .inr ⟨a,xs,_,x,rfl,rfl,q,j2 x x1,hQ ρ H x .refl hR x2⟩
 .cases hf
noncomputable def FB(xs:List D)(lo hi:Option Int):List D:=(xs.drop (HT.sIx xs.length 0 lo)).take (HT.sIx xs.length xs.length hi-HT.sIx xs.length 0 lo)
def Y7{ds:List D}{xs:List V}{lo hi:Option Int}(r:RDs K ρ H ds xs):RDs K ρ H (FB ds lo hi) (J8 xs lo hi):=by
 unfold FB J8;rw[r.len];exact(r.drop _).take _
noncomputable abbrev MO1:=Ls->Hd->Option (Option Int×Hd)
def RO1(K:Frag)(t:TO)(m:MO1):Prop:=∀(ρ:List Addr) (σ:St) (H:Hp) (hd:Hd) (ls:Ls) (Q:Option Int->Hp->Prop) (d:Option Int) (hd':Hd),RH K ρ H hd->RL K ρ H ls σ->m ls hd=some (d,hd') ->
 (∀ρ' H',Ext ρ H ρ' H'->RH K ρ' H' hd'->Q d H')->t σ H Q
noncomputable def G0:MO1:=λ_ hd=>some (none,hd)
noncomputable def Jd(m:ME):MO1:=λls hd=>(m ls hd).bind λp=>match p.1 with
 |.im (.int i)=>some (some i,p.2)
 |_=>none
def Vy:RO1 K K3 G0:=by
 and_intros;cases hm;exact hQ ρ H .refl hR
def Vx{t:TE}{m:ME}(h:RE K t m):RO1 K (PR t) (Jd m):=by
 and_intros;obtain⟨⟨d1,h1⟩,e1,hm⟩:=gF hm;dsimp only at hm;split at hm
 .cases hm;exact h ρ σ H hd ls _ _ _ hR hL e1 λρ1 H1 v x1 R1 r1=>⟨_,by simpa only[RD,RI]using r1,hQ ρ1 H1 x1 R1⟩
 .cases hm
noncomputable def dL(m:ME)(ml mh:MO1):ME:=λls hd=>(m ls hd).bind λp=>(ml ls p.2).bind λl=>(mh ls l.2).bind λh=>(Aa p.1).bind λds=>
 if ¬ (HT.sIx ds.length 0 l.1=0/\HT.sIx ds.length ds.length h.1=ds.length)then some (AW (FB ds l.1 h.1),h.2)else none
noncomputable def KJ(m:ME)(ml mh:MO1):MA:=λls hd=>(m ls hd).bind λp=>(ml ls p.2).bind λl=>(mh ls l.2).bind λh=>(Ai h.2 p.1).bind λds=>some (FB ds l.1 h.1,h.2)
def Yh{t:TE}{tl th:TO}{m:ME}{ml mh:MO1}(h:RE K t m)(hl:RO1 K tl ml)(hh:RO1 K th mh):RN K (tSl (Pz K) t tl th) (KJ m ml mh):=by
 and_intros;obtain⟨⟨d1,h1⟩,e1,hm⟩:=gF hm;obtain⟨⟨d2,h2⟩,e2,hm⟩:=gF hm;obtain⟨⟨d3,h3⟩,e3,hm⟩:=gF hm;obtain⟨ds,e4,hm⟩:=gF hm;dsimp only at e2 e3 e4 hm;cases hm;refine h ρ σ H hd ls _ d1 h1 hR hL e1 λρ1 H1 v1 x1 R1 r1=>?_;refine hl ρ1 σ H1 h1 ls _ d2 h2 R1 (hL.ext hR x1) e2 λρ2 H2 x2 R2=>?_;refine hh ρ2 σ H2 h2 ls _ d3 _ R2 (hL.ext hR 84) e3 λρ3 H3 x3 R3=>?_;obtain⟨a,xs,rfl,q,r⟩:=RD.lst R3 ((r1.ext R1 x2).ext R2 x3) e4;refine⟨a,xs,rfl,q,λp hp=>?_⟩;obtain⟨R4,x4⟩:=R3.hid (ho:=.lst (J8 xs d2 d3)) hp;have x123:=(84).trans R2 x3;exact hQ ρ3 _ p _ (x123.trans R3 x4) R4 (x123.none hR hp R3) (R3.out hp) AK ((Y7 r).ext R3 x4)
noncomputable def mCB(f:List D->Hd->Option (D×Hd))(ma:MA):ME:=λls hd=>(ma ls hd).bind λp=>f p.1 p.2
def V7{r:List V->Hp->VK->Prop}{f:List D->Hd->Option (D×Hd)}{t:TA}{m:MA}(hr:RF K r f)(h:RA K t m):RE K (tCB r t) (mCB f m):=by
 and_intros;obtain⟨⟨d1,h1⟩,e1,hm⟩:=gF hm;refine h ρ σ H hd ls _ d1 h1 hR hL e1 λρ1 H1 v1 x1 R1 r1=>?_;exact hr ρ1 H1 h1 d1 v1 Q d hd' R1 r1 hm λρ' H' w x2 R2 r2=>hQ ρ' H' w 84 R2 r2
noncomputable def f1(tp:Bool)(g:List D->Option D):List D->Hd->Option (D×Hd)
 |[d],hd=>((if tp then Av hd d else Ai hd d)).bind λds=>(g ds).map (·,hd)
 |_,_=>none
def HV{tp:Bool}{r:List V->Hp->VK->Prop}{g:List D->Option D}(h:RG K tp r g):RF K r (f1 tp g):=by
 intro ρ H hd ds vs Q z hd' hR h1 hf hQ;unfold f1 at hf;split at hf
 .next d hd'=>
  obtain⟨es,e1,hf⟩:=gF hf;obtain⟨w,e2,e3⟩:=gG hf;cases e3;simp only[RDs]at h1;obtain⟨x,r,rfl,rx,rfl⟩:=h1;cases tp with
  |true=>
   rw[gc rfl]at e1;obtain⟨a,xs,rfl,q,rr⟩:=rx.seq hR e1;exact h ρ H hd a xs es Q z hR (q.imp id λq=>⟨rfl,q⟩) rr e2 λH' w x R r=>hQ ρ H' w x R r
  |false=>
   rw[gf Bool.false_ne_true]at e1;obtain⟨a,xs,rfl,q,rr⟩:=rx.lst hR e1;exact h ρ H hd a xs es Q z hR (.inl q) rr e2 λH' w x R r=>hQ ρ H' w x R r
 .cases hf
noncomputable def Ay(g:List D->Option D)(ml:MA):ME:=λls hd=>(ml ls hd).bind λp=>(g p.1).map (·,p.2)
def Ri{tp:Bool}{r:List V->Hp->VK->Prop}{g:List D->Option D}{t:TE}{m:MA}(hr:RG K tp r g)(h:RN K t m):RE K (tCB r (Ax t BZ)) (Ay g m):=by
 and_intros;obtain⟨⟨d1,h1⟩,e1,hm⟩:=gF hm;obtain⟨w,e2,e3⟩:=gG hm;cases e3;refine h ρ σ H hd ls _ d1 _ hR hL e1 λρ1 H1 a xs x1 R1 na oa ea r1=>?_;exact hr ρ1 H1 _ a xs d1 Q d R1 (.inl (SqL.of ea)) r1 e2 λH' w x R r=>hQ ρ1 H' w (x1.trans R1 x) R r
noncomputable def B7(ds:List D):Option D:=some (.im (.int ds.length))
def Rc:RG K true (Z0 K) B7:=by
 intro ρ H hd a xs ds Q z hR q r e hQ;cases e;refine⟨a,xs,rfl,q.imp id λq=>q.2,?_⟩;rw[r.len];exact hQ H _ .refl hR (by simp[RD,RI])
noncomputable def BB(ds:List D):Option D:=some (AW ds)
def Mp:RG K true (Mt K) BB:=by
 intro ρ H hd a xs ds Q z hR q r e hQ;cases e;refine⟨a,xs,rfl,?_⟩;rcases q with q|⟨_,q⟩
 .refine .inl ⟨q,λp hp=>?_⟩;obtain⟨R2,x2⟩:=hR.hid (ho:=.tup xs) hp;exact hQ _ _ x2 R2 (C4 (SqT.of AK) (r.ext hR x2))
 .exact .inr ⟨q,hQ H _ .refl hR (C4 q r)⟩
noncomputable def Dj(ds:List D):Option D:=(Am ds).map λns=>.im (.int ns.sum)
def dC(K:Frag):List V->Hp->VK->Prop:=λxs H Q=>VB K xs H Q∨VA K xs H Q
def RZ:RG K true (dC K) Dj:=by
 intro ρ H hd a xs ds Q z hR q r e hQ;obtain⟨ns,e1,rfl⟩:=gG e;rw[C7 e1]at r;have:=E3 r;subst this;rcases q with q|⟨_,q⟩
 .exact .inl ⟨a,ns,rfl,q,hQ H _ .refl hR (by simp[RD,RI])⟩
 .exact .inr ⟨a,ns,rfl,q,hQ H _ .refl hR (by simp[RD,RI])⟩
noncomputable def Ga(ds:List D):Option D:=(C8 ds).map λbs=>.im (.bl (bs.all id))
noncomputable def GZ(ds:List D):Option D:=(C8 ds).map λbs=>.im (.bl (bs.any id))
def Rf:RG K false (Z2 K) Ga:=by
 intro ρ H hd a xs ds Q z hR q r e hQ;obtain⟨ns,e1,rfl⟩:=gG e;rw[Ke e1]at r;have:=Mq r;subst this;rcases q with q|⟨q,_⟩
 .exact⟨a,ns,rfl,q,hQ H _ .refl hR (by simp[RD,RI])⟩
 .cases q
def Re:RG K false (Z1 K) GZ:=by
 intro ρ H hd a xs ds Q z hR q r e hQ;obtain⟨ns,e1,rfl⟩:=gG e;rw[Ke e1]at r;have:=Mq r;subst this;rcases q with q|⟨q,_⟩
 .exact⟨a,ns,rfl,q,hQ H _ .refl hR (by simp[RD,RI])⟩
 .cases q
noncomputable def GR:List Int->Int
 |[]=>0
 |[x]=>x
 |x::r=>if GR r>x then GR r else x
noncomputable def GQ:List Int->Int
 |[]=>0
 |[x]=>x
 |x::r=>if GQ r<x then GQ r else x
theorem Hc:∀{xs:List Int},xs≠[]->GR xs∈xs/\∀x∈xs,x<=GR xs
 |[],h=>absurd rfl h
 |[x],_=>by simp[GR]
 |x::y::r,_=>by
  obtain⟨h1,h2⟩:=Hc (xs:=y::r) 77;rw[GR];split
  .next h=>exact⟨gi _ h1,λz m=>by rcases mem_cons.mp m with rfl|m;omega;exact h2 z m⟩
  .next h=>exact⟨gp,λz m=>by rcases mem_cons.mp m with rfl|m;omega;exact Int.le_trans (h2 z m) 67⟩
  .simp
theorem Hb:∀{xs:List Int},xs≠[]->GQ xs∈xs/\∀x∈xs,GQ xs<=x
 |[],h=>absurd rfl h
 |[x],_=>by simp[GQ]
 |x::y::r,_=>by
  obtain⟨h1,h2⟩:=Hb (xs:=y::r) 77;rw[GQ];split
  .next h=>exact⟨gi _ h1,λz m=>by rcases mem_cons.mp m with rfl|m;omega;exact h2 z m⟩
  .next h=>exact⟨gp,λz m=>by rcases mem_cons.mp m with rfl|m;omega;exact Int.le_trans 67 (h2 z m)⟩
  .simp
noncomputable def Iv(ds:List D):Option D:=(Am ds).bind λns=>if ns=[]then none else some (.im (.int (GR ns)))
noncomputable def Fg(ds:List D):Option D:=(Am ds).bind λns=>if ns=[]then none else some (.im (.int (GQ ns)))
def dD(K:Frag):List V->Hp->VK->Prop:=λxs H Q=>VE K xs H Q∨VD K xs H Q
def DR{α:Type}{xs:List α}(h:xs≠[]):0<xs.length:=by cases xs<;>simp_all
def Rb:RG K true (dD K) Iv:=by
 intro ρ H hd a xs ds Q z hR q r e hQ;obtain⟨ns,e1,e⟩:=gF e;split at e
 .cases e
 .next hn=>
  cases e;rw[C7 e1]at r;have:=E3 r;subst this;have u:∀M:Int,M∈ns->(∀x∈ns,x<=M)->M=GR ns:=λM m1 m2=>by
   obtain⟨n1,n2⟩:=Hc hn;have:=n2 M m1;have:=m2 _ n1;omega
  rcases q with q|⟨_,q⟩
  .exact .inl ⟨a,ns,rfl,q,DR hn,λM m1 m2=>by rw[u M m1 m2];exact hQ H _ .refl hR (by simp[RD,RI])⟩
  .exact .inr ⟨a,ns,rfl,q,DR hn,λM m1 m2=>by rw[u M m1 m2];exact hQ H _ .refl hR (by simp[RD,RI])⟩
def Ra:RG K false (VC K) Fg:=by
 intro ρ H hd a xs ds Q z hR q r e hQ;obtain⟨ns,e1,e⟩:=gF e;split at e
 .cases e
 .next hn=>
  cases e;rw[C7 e1]at r;have:=E3 r;subst this;have u:∀M:Int,M∈ns->(∀x∈ns,M<=x)->M=GQ ns:=λM m1 m2=>by
   obtain⟨n1,n2⟩:=Hb hn;have:=n2 M m1;have:=m2 _ n1;omega
  rcases q with q|⟨q,_⟩
  .exact⟨a,ns,rfl,q,DR hn,λM m1 m2=>by rw[u M m1 m2];exact hQ H _ .refl hR (by simp[RD,RI])⟩
  .cases q
noncomputable def FU:List D->Hd->Option (D×Hd)
 |[.im (.int i),.im (.int j)],hd=>some (.im (.int (if j>i then j else i)),hd)
 |_,_=>none
noncomputable def VT:List D->Hd->Option (D×Hd)
 |[.im (.int i),.im (.int j)],hd=>some (.im (.int (if j<i then j else i)),hd)
 |_,_=>none
def W5:RF K (λxs H Q=>∃i j,xs=[.int i,.int j]/\Q (.int (if j>i then j else i)) H) FU:=by
 intro ρ H hd ds vs Q z hd' hR h1 hf hQ;unfold FU at hf;split at hf
 .cases hf;simp only[RDs,RD,RI]at h1;obtain⟨x,r,rfl,rfl,y,r2,rfl,rfl,rfl⟩:=h1;exact⟨_,_,rfl,hQ ρ H _ .refl hR (by simp[RD,RI])⟩
 .cases hf
noncomputable def dR:List D->Hd->Option (D×Hd)
 |[.im (.int i)],hd=>some (.im (.int (if i<0 then -i else i)),hd)
 |_,_=>none
noncomputable def cL(ma:ME):MA:=λls hd=>(ma ls hd).bind λp=>(Av p.2 p.1).map (·,p.2)
noncomputable def Hg(ml:MA):MA:=ml
def Te{t:TE}{m:MA}(h:RN K t m):RN K (tCB (KD K) (Ax t BZ)) (Hg m):=by
 and_intros;refine h ρ σ H hd ls _ d _ hR hL hm λρ1 H1 a xs x1 R1 na oa ea r1=>?_;refine⟨a,xs,rfl,.inl (SqL.of ea),λl hl=>?_⟩;obtain⟨R2,x2⟩:=R1.hid (ho:=.lst xs) hl;exact hQ ρ1 _ l xs 84 R2 (x1.none hR hl R1) (R1.out hl) AK (r1.ext R1 x2)
noncomputable def FT:I->Option V
 |.non=>some .non
 |.bl b=>some (.bl b)
 |.int i=>some (.int i)
 |.str x=>some (.str x)
 |.tup _=>none
noncomputable def CC:List D->Option (List V)
 |[]=>some []
 |.im i::r=>(FT i).bind λv=>(CC r).map (v::·)
 |_::_=>none
def NT{i:I}{v w:V}(e:FT i=some w)(h:RI K H i v):v=w/\EG w=true:=by
 cases i with
 |tup _=>simp[FT]at e
 |_=>simp only[FT,Option.some.injEq]at e;subst e;exact⟨by simpa only[RI]using h,rfl⟩
theorem LD:∀{ds:List D} {vs ws:List V},CC ds=some ws->RDs K ρ H ds vs->vs=ws/\ws.all EG=true
 |[],vs,ws,e,h=>by simp[CC]at e;subst e;simp only[RDs]at h;subst h;exact⟨rfl,rfl⟩
 |.im i::r,vs,ws,e,h=>by
  simp only[CC]at e;obtain⟨v,e1,e⟩:=gF e;obtain⟨us,e2,rfl⟩:=gG e;simp only[RDs,RD]at h;obtain⟨x,y,rfl,h1,h2⟩:=h;obtain⟨rfl,f1⟩:=NT e1 h1;obtain⟨rfl,f2⟩:=LD e2 h2;exact⟨rfl,by simp[f1,f2]⟩
 |.mu _::_,_,_,e,_=>by simp[CC]at e
 |.tm _::_,_,_,e,_=>by simp[CC]at e
 |.ro _::_,_,_,e,_=>by simp[CC]at e
 |.op _ _ _::_,_,_,e,_=>by simp[CC]at e
 |.fv _ _::_,_,_,e,_=>by simp[CC]at e
noncomputable def gIn(neg:Bool):D->D->Hd->Option (D×Hd)
 |.im i,e,hd=>(FT i).bind λx=>(Av hd e).bind λds=>(CC ds).map λxs=>(.im (.bl (if neg then !inV x xs else inV x xs)),hd)
 |_,_,_=>none
def bU{neg:Bool}:RB K (rIn K neg) (gIn neg):=by
 intro ρ H hd d e v u Q z hd' hR h1 h2 hf hQ;unfold gIn at hf;split at hf
 .obtain⟨x,e1,hf⟩:=gF hf;obtain⟨ds,e2,hf⟩:=gF hf;obtain⟨xs,e3,e4⟩:=gG hf;cases e4;simp only[RD]at h1;obtain⟨rfl,f1⟩:=NT e1 h1;obtain⟨a,ys,rfl,q,r⟩:=h2.seq hR e2;obtain⟨rfl,f2⟩:=LD e3 r;exact⟨a,ys,rfl,q,f1,f2,hQ ρ H _ .refl hR (by simp[RD,RI])⟩
 .cases hf
noncomputable def mMt(f:D->List D->Hd->Option (D×Hd))(mo:ME)(ma:MA):ME:=λls hd=>(mo ls hd).bind λp=>match Ai p.2 p.1 with
 |some _=>(ma ls p.2).bind λq=>f p.1 q.1 q.2
 |none=>none
def RM(K:Frag)(r:V->List V->Hp->VK->Prop)(f:D->List D->Hd->Option (D×Hd)):Prop:=∀(ρ:List Addr) (H:Hp) (hd:Hd) (d:D) (v:V) (ds:List D) (vs:List V) (Q:VK) (z:D) (hd':Hd),RH K ρ H hd->RD K ρ H d v->RDs K ρ H ds vs->f d ds hd=some (z,hd') ->
 (∀ρ' H' w,Ext ρ H ρ' H'->RH K ρ' H' hd'->RD K ρ' H' z w->Q w H')->r v vs H Q
def bP{r:V->List V->Hp->VK->Prop}{f:D->List D->Hd->Option (D×Hd)}{to:TE}{t:TA}{mo:ME}{ma:MA}(hr:RM K r f)(ho:RE K to mo)(ha:RA K t ma):RE K (tBM K "list" r to t) (mMt f mo ma):=by
 and_intros;obtain⟨⟨d1,h1⟩,e1,hm⟩:=gF hm;dsimp only at hm;split at hm
 .next e=>
  obtain⟨⟨d2,h2⟩,e2,hm⟩:=gF hm;refine ho ρ σ H hd ls _ d1 h1 hR hL e1 λρ1 H1 v x1 R1 r1=>⟨?_,?_⟩
  .obtain⟨a,xs,rfl,q,_⟩:=r1.lst R1 e;exact .inl ⟨rfl,xs,q⟩
  .exact ha ρ1 σ H1 h1 ls _ d2 h2 R1 (hL.ext hR x1) e2 λρ2 H2 vs x2 R2 r2=>hr ρ2 H2 h2 d1 v d2 vs Q d hd' R2 (r1.ext R1 x2) r2 hm λρ' H' w x3 R3 r3=>hQ ρ' H' w ((84).trans R2 x3) R3 r3
 .cases hm
open Classical in
noncomputable def BI:D->List D->Hd->Option (D×Hd)
 |.mu n,[x],hd=>match hd[n]? with
  |some (.lst ds)=>if Gg ds.length then some (.im .non,hd.set n (.lst (ds++[x])))else none
  |_=>none
 |_,_,_=>none
def RY:RM K Oj BI:=by
 intro ρ H hd d v ds vs Q z hd' hR h1 h2 hf hQ;unfold BI at hf;split at hf
 .split at hf
  .next q=>
   split at hf
   .next c=>
    cases hf;simp only[RD]at h1;obtain⟨a,hn,rfl⟩:=h1;simp only[RDs]at h2;obtain⟨x,r,rfl,rx,rfl⟩:=h2;obtain⟨xs,e1,e2⟩:=hR.lst hn q;obtain⟨R2,x2⟩:=hR.put hn (o:=.lst (_++[_])) (ho:=.lst (xs++[x])) ⟨_,rfl,e2.app (.cons rx .nil)⟩;exact⟨a,xs,x,rfl,rfl,e1,by rw[e2.len];exact c,hQ ρ _ _ x2 R2 (by simp[RD,RI])⟩
   .cases hf
  .cases hf
 .cases hf
end
end L2
namespace L2
open PySem PySem.Spec PyProof.Rows
section
variable{K:Frag}{ρ ρ':List Addr}{H H':Hp}{hd hd':Hd}
noncomputable def AU:MS:=λls hd=>some (.nx ls,hd)
def Oa:RS K JK AU:=by
 intro ρ σ H hd ls E f hd' hR hL hm hQ;cases hm;exact hQ ρ H .refl hR σ hL
noncomputable def A9(a b:MS):MS:=λls hd=>(a ls hd).bind λp=>match p.1 with
 |.nx ls1=>b ls1 p.2
 |f=>some (f,p.2)
def Yd{t u:TS}{a b:MS}(ha:RS K t a)(hb:RS K u b):RS K (T8 t u) (A9 a b):=by
 intro ρ σ H hd ls E f hd' hR hL hm hQ;obtain⟨⟨f1,h1⟩,e1,hm⟩:=gF hm;refine ha ρ σ H hd ls { E with nx:=u E } f1 h1 hR hL e1 λρ1 H1 x1 R1=>?_;cases f1 with
 |nx ls1=>
  intro σ1 L1;exact hb ρ1 σ1 H1 h1 ls1 E f hd' R1 L1 hm λρ2 H2 x2 R2=>hQ ρ2 H2 84 R2
 |bk ls1=>cases hm;exact hQ ρ1 H1 x1 R1
 |ct ls1=>cases hm;exact hQ ρ1 H1 x1 R1
 |rt d=>cases hm;exact hQ ρ1 H1 x1 R1
noncomputable def aM:MS:=λls hd=>some (.bk ls,hd)
noncomputable def cN:MS:=λls hd=>some (.ct ls,hd)
noncomputable def B5(m:ME):MS:=λls hd=>(m ls hd).bind λp=>some (.nx ls,p.2)
def Vu{t:TE}{m:ME}(h:RE K t m):RS K (PZ t) (B5 m):=by
 intro ρ σ H hd ls E f hd' hR hL hm hQ;obtain⟨⟨d1,h1⟩,e1,hm⟩:=gF hm;cases hm;exact h ρ σ H hd ls _ d1 _ hR hL e1 λρ1 H1 v x1 R1 r1=>hQ ρ1 H1 x1 R1 σ (hL.ext hR x1)
noncomputable def AN(m:ME):MS:=λls hd=>(m ls hd).bind λp=>some (.rt p.1,p.2)
def Ye{t:TE}{m:ME}(h:RE K t m):RS K (T9 t) (AN m):=by
 intro ρ σ H hd ls E f hd' hR hL hm hQ;obtain⟨⟨d1,h1⟩,e1,hm⟩:=gF hm;cases hm;exact h ρ σ H hd ls _ d1 _ hR hL e1 λρ1 H1 v x1 R1 r1=>hQ ρ1 H1 x1 R1 v r1
noncomputable def cJ:MS:=λ_ hd=>some (.rt (.im .non),hd)
noncomputable def Ae(c:MT)(a b:MS):MS:=λls hd=>(c ls hd).bind λp=>if p.1=true then a ls p.2 else b ls p.2
def bN{tc:TT}{t u:TS}{c:MT}{a b:MS}(hc:RT K tc c)(ha:RS K t a)(hb:RS K u b):RS K (TH tc t u) (Ae c a b):=by
 intro ρ σ H hd ls E f hd' hR hL hm hQ;obtain⟨⟨d1,h1⟩,e1,hm⟩:=gF hm;refine hc ρ σ H hd ls _ d1 h1 hR hL e1 λρ1 H1 x1 R1=>?_;cases d1 with
 |true=>
  rw[gc rfl]at hm ⊢;exact ha ρ1 σ H1 h1 ls E f hd' R1 (hL.ext hR x1) hm λρ2 H2 x2 R2=>hQ ρ2 H2 84 R2
 |false=>
  rw[gf Bool.false_ne_true]at hm ⊢;exact hb ρ1 σ H1 h1 ls E f hd' R1 (hL.ext hR x1) hm λρ2 H2 x2 R2=>hQ ρ2 H2 84 R2
noncomputable def Bh:MS:=λ_ _=>none
def TY:RS K MM Bh:=by
 intro ρ σ H hd ls E f hd' hR hL hm hQ;cases hm
noncomputable abbrev MG:=D->Ls->Hd->Option Ls
noncomputable abbrev MGs:=List D->Ls->Hd->Option Ls
def RGt(K:Frag)(t:TG)(m:MG):Prop:=∀(ρ:List Addr) (σ:St) (H:Hp) (hd:Hd) (ls ls':Ls) (d:D) (v:V) (Q:St->Hp->Prop),RH K ρ H hd->RL K ρ H ls σ->RD K ρ H d v->m d ls hd=some ls' ->
 (∀σ',RL K ρ H ls' σ'->Q σ' H)->t v σ H Q
def Nv(K:Frag)(t:TGs)(m:MGs):Prop:=∀(ρ:List Addr) (σ:St) (H:Hp) (hd:Hd) (ls ls':Ls) (d:List D) (v:List V) (Q:St->Hp->Prop),RH K ρ H hd->RL K ρ H ls σ->RDs K ρ H d v->m d ls hd=some ls' ->
 (∀σ',RL K ρ H ls' σ'->Q σ' H)->t v σ H Q
theorem RL.set{ls:Ls}{σ:St}{d:D}{v:V}(h:RL K ρ H ls σ)(i:Nat)(r:RD K ρ H d v):RL K ρ H (ls.set i (some d)) (σ.set i (some v)):=by
 refine⟨by simp[h.len],λj e q=>?_⟩;by_cases hij:i=j
 .subst hij;have hl:i<ls.length:=by
   have:=(78 q).1;simpa using this
  rw[List.getElem?_set_self hl]at q;cases q;exact⟨v,by rw[List.getElem?_set_self (by rw[<- h.len];exact hl)],r⟩
 .rw[List.getElem?_set_ne hij]at q;obtain⟨w,e1,e2⟩:=h.ob j e q;exact⟨w,by rw[List.getElem?_set_ne hij];exact e1,e2⟩
noncomputable def AD(i:Nat):MG:=λd ls _=>some (ls.set i (some d))
def KB{i:Nat}:RGt K (EF i) (AD i):=by
 intro ρ σ H hd ls ls' d v Q hR hL hd hm hQ;cases hm;exact hQ _ (hL.set i hd)
noncomputable def BF:MGs:=λds ls _=>match ds with
 |[]=>some ls
 |_=>none
noncomputable def AM(m:MG)(r:MGs):MGs:=λds ls hd=>match ds with
 |d::es=>(m d ls hd).bind λls1=>r es ls1 hd
 |[]=>none
def W3:Nv K Ul BF:=by
 intro ρ σ H hd ls ls' d v Q hR hL hd hm hQ;cases d with
 |nil=>
  simp only[RDs]at hd;subst hd;cases hm;exact⟨rfl,hQ _ hL⟩
 |cons a b=>cases hm
def Ti{t:TG}{u:TGs}{m:MG}{r:MGs}(h:RGt K t m)(h':Nv K u r):Nv K (Qd t u) (AM m r):=by
 intro ρ σ H hd ls ls' d v Q hR hL hd hm hQ;cases d with
 |nil=>cases hm
 |cons a b=>
  simp only[RDs]at hd;obtain⟨x,y,rfl,h1,h2⟩:=hd;obtain⟨ls1,e1,e2⟩:=gF hm;exact⟨x,y,rfl,h ρ σ H _ ls ls1 a x _ hR hL h1 e1 λσ1 L1=>h' ρ σ1 H _ ls1 ls' b y Q hR L1 h2 e2 hQ⟩
noncomputable def BE(n:Nat)(r:MGs):MG:=λd ls hd=>(Aa d).bind λds=>if ds.length=n then r ds ls hd else none
def Yo{n:Nat}{u:TGs}{r:MGs}(h':Nv K u r):RGt K (Qc K n u) (BE n r):=by
 intro ρ σ H hd ls ls' d v Q hR hL hd hm hQ;obtain⟨ds,e1,hm⟩:=gF hm;split at hm
 .next c=>
  obtain⟨a,xs,rfl,q,rr⟩:=hd.tup e1;exact⟨a,xs,rfl,q,by rw[rr.len];exact c,h' ρ σ H _ ls ls' ds xs Q hR hL rr hm hQ⟩
 .cases hm
noncomputable def Ir(m:ME)(g:MG):MS:=λls hd=>(m ls hd).bind λp=>(g p.1 ls p.2).map λls'=>(.nx ls',p.2)
def Mm{t:TE}{m:ME}{g:TG}{n:MG}(h:RE K t m)(hg:RGt K g n):RS K (Ey t g) (Ir m n):=by
 intro ρ σ H hd ls E f hd' hR hL hm hQ;obtain⟨⟨d1,h1⟩,e1,hm⟩:=gF hm;obtain⟨ls',e2,e3⟩:=gG hm;cases e3;exact h ρ σ H hd ls _ d1 _ hR hL e1 λρ1 H1 v x1 R1 r1=>hg ρ1 σ H1 _ ls ls' d1 v _ R1 (hL.ext hR x1) r1 e2 λσ' L'=>hQ ρ1 H1 x1 R1 σ' L'
noncomputable abbrev AI(i:Nat)(m:ME):MS:=Ir m (AD i)
noncomputable def QL(ix:List Nat)(ma:MA):MS:=λls hd=>(ma ls hd).bind λp=>if p.1.length=ix.length then some (.nx ((ix.zip p.1).foldl (λl q=>l.set q.1 (some q.2)) ls),p.2)else none
noncomputable def cK(i j k:Nat)(ma:MA):MS:=QL [k,j,i] (λls hd=>(ma ls hd).map λp=>(p.1.reverse,p.2))
noncomputable abbrev Gd:=List (Nat×List D)
noncomputable abbrev MI:=Ls->Hd->Option ((List D×Gd)×Hd)
def GOk(hd:Hd)(g:Gd):Prop:=∀p∈g,hd[p.1]?=some (.lst p.2)
@[simp] theorem AJ(hd:Hd):GOk hd []:=λp h=>by cases h
def Nr(K:Frag)(ρ:List Addr)(H:Hp)(J:It)(ds:List D)(g:Gd):Prop:=∀(ρ2:List Addr) (H2:Hp) (hd2:Hd),Ext ρ H ρ2 H2->RH K ρ2 H2 hd2->GOk hd2 g ->
 ∀i:Nat,(i<ds.length->J.go i H2/\∀x H3,J.yld i H2 x H3->∃ρ3 d,Ext ρ2 H2 ρ3 H3/\ρ3=ρ2/\RH K ρ3 H3 hd2/\ds[i]?=some d/\RD K ρ3 H3 d x)/\(i=ds.length->J.stop i H2)
def RIt(K:Frag)(t:TI)(m:MI):Prop:=∀(ρ:List Addr) (σ:St) (H:Hp) (hd:Hd) (ls:Ls) (Q:It->Hp->Prop) (d:List D) (g:Gd) (hd':Hd),RH K ρ H hd->RL K ρ H ls σ->m ls hd=some ((d,g),hd') ->
 (∀ρ' H' J,Ext ρ H ρ' H'->RH K ρ' H' hd'->GOk hd' g->Nr K ρ' H' J d g->Q J H')->t σ H Q
def PB{a:Addr}{xs:List V}{ds:List D}(hR:RH K ρ H hd)(q:SqT K H a xs)(r:RDs K ρ H ds xs)(g:Gd):Nr K ρ H (Itt K a) ds g:=by
 intro ρ2 H2 hd2 x2 R2 _ i;have q2:=(x2.grow hR).sq q;have r2:=r.ext hR x2;have uniq:∀ys,SqT K H2 a ys->True:=λ_ _=>trivial;refine⟨λhi=>?_,λhi=>⟨xs,q2,by rw[r2.len,hi];exact gg _⟩⟩;have e:ds[i]?=some ds[i]:=by simp[hi]
 obtain⟨x,x1,x3⟩:=r2.get e;refine⟨⟨xs,x,q2,x1⟩,λy H3 ⟨e3,hy⟩=>?_⟩;subst e3;have:=hy xs q2;rw[x1]at this;cases this;exact⟨ρ2,_,.refl,rfl,R2,e,x3⟩
noncomputable def An(m:ME):MI:=λls hd=>(m ls hd).bind λp=>(Aa p.1).map λds=>((ds,[]),p.2)
def Ym{t:TE}{m:ME}(h:RE K t m):RIt K (QY K t) (An m):=by
 intro ρ σ H hd ls Q d g hd' hR hL hm hQ;obtain⟨⟨d1,h1⟩,e1,hm⟩:=gF hm;obtain⟨ds,e2,e3⟩:=gG hm;cases e3;refine h ρ σ H hd ls _ d1 _ hR hL e1 λρ1 H1 v x1 R1 r1=>?_;obtain⟨a,xs,rfl,q,r⟩:=r1.tup e2;exact⟨a,rfl,⟨xs,q⟩,hQ ρ1 H1 _ x1 R1 (AJ _) (PB R1 q r [])⟩
noncomputable def C6(m:ME):MI:=λls hd=>(m ls hd).bind λp=>match p.1 with
 |.mu n=>match p.2[n]? with
  |some (.lst ds)=>some ((ds,[(n,ds)]),p.2)
  |_=>none
 |.ro ns=>some ((ns.map λn=>.im (.int n),[]),p.2)
 |_=>none
def W2{t:TE}{m:ME}(h:RE K t m):RIt K (IF K t) (C6 m):=by
 intro ρ σ H hd ls Q d g hd' hR hL hm hQ;obtain⟨⟨d1,h1⟩,e1,hm⟩:=gF hm;dsimp only at hm;split at hm
 .next n=>
  split at hm
  .next ds q=>
   cases hm;refine h ρ σ H hd ls _ _ _ hR hL e1 λρ1 H1 v x1 R1 r1=>?_;simp only[RD]at r1;obtain⟨a,hn,rfl⟩:=r1;obtain⟨xs,e2,e3⟩:=R1.lst hn q;refine⟨a,rfl,⟨xs,SqL.of e2⟩,hQ ρ1 H1 _ x1 R1 (λp z=>by simp at z;subst z;exact q) ?_⟩;intro ρ2 H2 hd2 x2 R2 G2 i;have q2:=G2 (n,d) 77;have hn2:ρ2[n]?=some a:=by
    obtain⟨r,rfl,_⟩:=x2.pre;rw[List.getElem?_append_left (List.getElem?_eq_some_iff.mp hn).1];exact hn
   obtain⟨ys,e4,e5⟩:=R2.lst hn2 q2;refine⟨λhi=>?_,λhi=>⟨ys,SqL.of e4,by rw[e5.len,hi];exact gg _⟩⟩;have e:d[i]?=some d[i]:=by simp[hi]
   obtain⟨x,y1,y2⟩:=e5.get e;refine⟨⟨ys,x,SqL.of e4,y1⟩,λy H3 ⟨e6,hy⟩=>?_⟩;subst e6;have:=hy ys (SqL.of e4);rw[y1]at this;cases this;exact⟨ρ2,_,.refl,rfl,R2,e,y2⟩
  .cases hm
 .next ns=>
  cases hm;refine h ρ σ H hd ls _ _ _ hR hL e1 λρ1 H1 v x1 R1 r1=>?_;simp only[RD]at r1;obtain⟨a,rfl,q⟩:=r1;refine⟨a,rfl,⟨_,q.sq⟩,hQ ρ1 H1 _ x1 R1 (AJ _) ?_⟩;intro ρ2 H2 hd2 x2 R2 G2 i;have q2:=(q.grow (x2.grow R1)).sq;have e5:RDs K ρ2 H2 (ns.map λn=>.im (.int n)) (ns.map V.int):=DS;refine⟨λhi=>?_,λhi=>⟨_,q2,by rw[e5.len,hi];exact gg _⟩⟩;have e:(ns.map λn=>D.im (.int n))[i]?=some ((ns.map λn=>D.im (.int n))[i]):=by simp[hi]
  obtain⟨x,y1,y2⟩:=e5.get e;refine⟨⟨_,x,q2,y1⟩,λy H3 ⟨e6,hy⟩=>?_⟩;subst e6;have:=hy _ q2;rw[y1]at this;cases this;exact⟨ρ2,_,.refl,rfl,R2,e,y2⟩
 .cases hm
noncomputable def Fc(ml:MA):MI:=λls hd=>(ml ls hd).map λp=>((p.1,[]),p.2)
def Yn{t:TE}{m:MA}(h:RN K t m):RIt K (IF K t) (Fc m):=by
 intro ρ σ H hd ls Q d g hd' hR hL hm hQ;obtain⟨⟨d1,h1⟩,e1,e3⟩:=gG hm;obtain⟨⟨rfl,rfl⟩,rfl⟩:=Prod.mk.inj e3 |>.imp Prod.mk.inj id;clear e3 hm;refine h ρ σ H hd ls _ _ _ hR hL e1 λρ1 H1 a xs x1 R1 na oa ea r1=>?_;refine⟨a,rfl,⟨xs,SqL.of ea⟩,hQ ρ1 H1 _ x1 R1 (AJ _) ?_⟩;intro ρ2 H2 hd2 x2 R2 G2 i;have q2:SqL K H2 a xs:=SqL.of (x2.keep a _ ea oa nt);have r2:=r1.ext R1 x2;refine⟨λhi=>?_,λhi=>⟨xs,q2,by rw[r2.len,hi];exact gg _⟩⟩;have hi:i<d1.length:=hi;have e:d1[i]?=some d1[i]:=by simp[hi]
 obtain⟨x,y1,y2⟩:=r2.get e;refine⟨⟨xs,x,q2,y1⟩,λy H3 ⟨e6,hy⟩=>?_⟩;subst e6;have:=hy xs q2;rw[y1]at this;cases this;exact⟨ρ2,_,.refl,rfl,R2,e,y2⟩
noncomputable def Ab(lo:Int):Nat->List D
 |0=>[]
 |n+1=>.im (.int lo)::Ab (lo+1) n
@[simp] theorem JU(lo:Int)(n:Nat):(Ab lo n).length=n:=by
 induction n generalizing lo with
 |zero=>rfl
 |succ n ih=>simp[Ab,ih]
def JV{n:Nat}:∀{lo:Int} {i:Nat},i<n->(Ab lo n)[i]?=some (.im (.int (lo+i))):=by
 induction n with
 |zero=>intro lo i h;omega
 |succ n ih=>
  intro lo i h;cases i with
  |zero=>simp[Ab]
  |succ i=>
   simp only[Ab,List.getElem?_cons_succ];rw[ih 67]
   congr 3
   push_cast
   omega
def JF{lo:Int}{n:Nat}{g:Gd}:Nr K ρ H (Itr lo n) (Ab lo n) g:=by
 intro ρ2 H2 hd2 x2 R2 G2 i;refine⟨λhi=>?_,λhi=>by rw[hi,JU];exact gg _⟩;rw[JU]at hi;refine⟨hi,λx H3 ⟨e1,e2⟩=>?_⟩;subst e1 e2;exact⟨ρ2,_,.refl,rfl,R2,JV hi,by simp[RD,RI]⟩
open Classical in
noncomputable def DL(m:MA):MI:=λls hd=>(m ls hd).bind λp=>match p.1 with
 |[.im (.int j)]=>if GN j then some ((Ab 0 j.toNat,[]),p.2)else none
 |_=>none
def W1{t:TA}{m:MA}(h:RA K t m):RIt K (Qa t) (DL m):=by
 intro ρ σ H hd ls Q d g hd' hR hL hm hQ;obtain⟨⟨d1,h1⟩,e1,hm⟩:=gF hm;dsimp only at hm;split at hm
 .next j=>
  split at hm
  .next c=>
   cases hm;refine h ρ σ H hd ls _ _ _ hR hL e1 λρ1 H1 v x1 R1 r1=>?_;simp only[RDs,RD,RI]at r1;obtain⟨x,r,rfl,rfl,rfl⟩:=r1;exact⟨j,rfl,c.1,c.2,hQ ρ1 H1 _ x1 R1 (AJ _) JF⟩
  .cases hm
 .cases hm
open Classical in
noncomputable def IC(m:MA):MI:=λls hd=>(m ls hd).bind λp=>match p.1 with
 |[.im (.int i),.im (.int j)]=>if Ps i j then some ((Ab i (j-i).toNat,[]),p.2)else none
 |_=>none
def W0{t:TA}{m:MA}(h:RA K t m):RIt K (QZ t) (IC m):=by
 intro ρ σ H hd ls Q d g hd' hR hL hm hQ;obtain⟨⟨d1,h1⟩,e1,hm⟩:=gF hm;dsimp only at hm;split at hm
 .next i j=>
  split at hm
  .next c=>
   cases hm;refine h ρ σ H hd ls _ _ _ hR hL e1 λρ1 H1 v x1 R1 r1=>?_;simp only[RDs,RD,RI]at r1;obtain⟨x,r,rfl,rfl,y,r2,rfl,rfl,rfl⟩:=r1;exact⟨i,j,rfl,⟨c.1.1,c.1.2,c.2.1,c.2.2⟩,hQ ρ1 H1 _ x1 R1 (AJ _) JF⟩
  .cases hm
 .cases hm
open Classical in
noncomputable def B2(n:MG)(b:MS)(g:Gd):List D->Ls->Hd->Option (Fl×Hd)
 |[],ls,hd=>some (.nx ls,hd)
 |d::r,ls,hd=>(n d ls hd).bind λls1=>(b ls1 hd).bind λp=>match p.1 with
  |.nx ls2=>if GOk p.2 g then B2 n b g r ls2 p.2 else none
  |.ct ls2=>if GOk p.2 g then B2 n b g r ls2 p.2 else none
  |.bk ls2=>some (.nx ls2,p.2)
  |.rt d=>some (.rt d,p.2)
noncomputable def Bb(mi:MI)(n:MG)(b:MS):MS:=λls hd=>(mi ls hd).bind λp=>B2 n b p.1.2 p.1.1 ls p.2
def Yg{wi:TI}{g:TG}{tb:TS}{mi:MI}{n:MG}{b:MS}(hi:RIt K wi mi)(hg:RGt K g n)(hb:RS K tb b):RS K (TJ wi g tb) (Bb mi n b):=by
 intro ρ σ H hd ls E f hd' hR hL hm hQ;obtain⟨⟨⟨ds,gd⟩,h1⟩,e1,hm⟩:=gF hm;refine hi ρ σ H hd ls _ ds gd h1 hR hL e1 λρ1 H1 J x1 R1 G1 Y=>?_;dsimp only at hm;refine⟨λi m σ2 H2=>m=ds.length-i/\i<=ds.length/\∃ρ2 ls2 hd2,Ext ρ1 H1 ρ2 H2/\RH K ρ2 H2 hd2/\RL K ρ2 H2 ls2 σ2/\GOk hd2 gd/\B2 n b gd (ds.drop i) ls2 hd2=some (f,hd'),
  ⟨ds.length,by simp,gW _,ρ1,ls,h1,.refl,R1,hL.ext hR x1,G1,by simpa using hm⟩,?_⟩
 rintro i m σ2 H2 ⟨rfl,hi,ρ2,ls2,hd2,x2,R2,L2',G2,hm2⟩;obtain⟨Y1,Y2⟩:=Y ρ2 H2 hd2 x2 R2 G2 i;by_cases hlt:i<ds.length
 .obtain⟨go,Y1⟩:=Y1 hlt;have ed:ds.drop i=ds[i]::ds.drop (i+1):=ig hlt;rw[ed]at hm2;unfold B2 at hm2;obtain⟨ls3,e3,hm2⟩:=gF hm2;obtain⟨⟨fl,hd4⟩,e4,hm2⟩:=gF hm2;refine .inr ⟨go,λσ' H'=>∃ρ2 ls2 hd2,Ext ρ1 H1 ρ2 H'/\RH K ρ2 H' hd2/\RL K ρ2 H' ls2 σ'/\GOk hd2 gd/\B2 n b gd (ds.drop (i+1)) ls2 hd2=some (f,hd'),λσ' H' z=>⟨ds.length-(i+1),by omega,rfl,hlt,z⟩,λx H3 y=>?_⟩;obtain⟨ρ3,d3,x3,rfl,R3,e5,r3⟩:=Y1 x H3 y;have e6:d3=ds[i]:=by
   have:ds[i]?=some ds[i]:=by simp[hlt]
   rw[this]at e5;exact(Option.some.inj e5).symm
  subst e6;refine hg ρ3 σ2 H3 hd2 ls2 ls3 _ x _ R3 (L2'.ext R2 x3) r3 e3 λσ4 L4=>?_;refine hb ρ3 σ4 H3 hd2 ls3 _ fl hd4 R3 L4 e4 λρ5 H5 x5 R5=>?_;have x15:=(x2.trans R2 x3).trans R3 x5;cases fl with
  |nx ls5=>
   intro σ5 L5;dsimp only at hm2;split at hm2
   .next c=>exact⟨ρ5,ls5,hd4,x15,R5,L5,c,hm2⟩
   .cases hm2
  |ct ls5=>
   intro σ5 L5;dsimp only at hm2;split at hm2
   .next c=>exact⟨ρ5,ls5,hd4,x15,R5,L5,c,hm2⟩
   .cases hm2
  |bk ls5=>
   intro σ5 L5;cases hm2;exact hQ ρ5 H5 (x1.trans R1 x15) R5 σ5 L5
  |rt d5=>
   intro v5 r5;cases hm2;exact hQ ρ5 H5 (x1.trans R1 x15) R5 v5 r5
 .have e:i=ds.length:=by omega
  subst e;rw[List.drop_length]at hm2;unfold B2 at hm2;cases hm2;exact .inl ⟨Y2 rfl,hQ ρ2 H2 84 R2 σ2 L2'⟩
open Classical in
noncomputable def B3(n:MG)(c:MT)(m:ME)(g:Gd):List D->Ls->Hd->Option (List D×Hd)
 |[],_,hd=>some ([],hd)
 |d::r,ls,hd=>(n d ls hd).bind λls1=>(c ls1 hd).bind λp=>if p.1=true then(m ls1 p.2).bind λq=>if GOk q.2 g then(B3 n c m g r ls1 q.2).map λz=>(q.1::z.1,z.2)else none else if GOk p.2 g then B3 n c m g r ls1 p.2 else none
noncomputable def EJ(k:Nat)(ix:List Nat)(ls:Ls):Ls:=96 k none++ix.map λi=>(ls[i]?).join
open Classical in
noncomputable def Ad(k:Nat)(ix:List Nat)(mi:MI)(n:MG)(c:MT)(m:ME):MA:=λls hd=>(mi ls hd).bind λp=>if Bj p.1.1.length then B3 n c m p.1.2 p.1.1 (EJ k ix ls) p.2 else none
def YA{k:Nat}{ix:List Nat}{ls:Ls}{σ:St}(h:RL K ρ H ls σ):RL K ρ H (EJ k ix ls) (Ht k ix σ):=by
 refine⟨by simp[EJ,Ht],λi d e=>?_⟩;unfold EJ at e;unfold Ht;by_cases hi:i<k
 .rw[List.getElem?_append_left (by simpa using hi),List.getElem?_replicate]at e;split at e<;>cases e
 .have hi':k<=i:=Nat.not_lt.mp hi;rw[List.getElem?_append_right (by simpa using hi'),List.length_replicate,List.getElem?_map]at e ⊢;cases q:ix[i-k]? with
  |none=>rw[q]at e;cases e
  |some j=>
   rw[q]at e;simp only[gR,Option.some.injEq]at e ⊢;have e5:ls[j]?=some (some d):=by
    cases w:ls[j]? with
    |none=>rw[w]at e;cases e
    |some z=>rw[w]at e;simpa using e
   obtain⟨v,e6,e7⟩:=h.ob j d e5;exact⟨v,by rw[e6];rfl,e7⟩
def Oc{k:Nat}{ix:List Nat}{wi:TI}{g:TG}{tf:TT}{te:TE}{mi:MI}{n:MG}{c:MT}{m:ME}(hi:RIt K wi mi)(hg:RGt K g n)(hf:RT K tf c)(he:RE K te m):RN K (GK k ix wi g tf te) (Ad k ix mi n c m):=by
 intro ρ σ H hd ls Q out hd' hR hL hm hQ;obtain⟨⟨⟨ds,gd⟩,h1⟩,e1,hm⟩:=gF hm;dsimp only at hm;split at hm
 .next hlen=>
  have hlen:ds.length<=sizeLine:=hlen;refine hi ρ σ H hd ls _ ds gd h1 hR hL e1 λρ1 H1 J x1 R1 G1 Y=>?_;intro Da hDa;obtain⟨R1',x1'⟩:=R1.hid (ho:=.lst []) hDa;have oD:Da∉ρ1:=R1.out hDa;have nD:H Da=none:=x1.none hR hDa R1;refine⟨λi mm σ2 ys H2=>mm=ds.length-i/\i<=ds.length/\∃ρ2 ls2 hd2 es rest,Ext ρ1 (upd H1 Da (.lst ys)) ρ2 H2/\Ext ρ1 H1 ρ2 H2/\Da∉ρ2/\H2 Da=some (.lst ys)/\RH K ρ2 H2 hd2/\RL K ρ2 H2 ls2 σ2/\RDs K ρ2 H2 es ys/\es.length<=i/\GOk hd2 gd/\B3 n c m gd (ds.drop i) ls2 hd2=some (rest,hd')/\out=es++rest,
   ⟨ds.length,by simp,gW _,ρ1,_,h1,[],out,.refl,x1',oD,AK,R1',(YA ((hL.ext hR x1).ext R1 x1')),.nil,gg _,G1,by simpa using hm,rfl⟩,?_⟩
  rintro i mm σ2 ys H2 ⟨rfl,hi,ρ2,ls2,hd2,es,rest,x2',x2,oD2,hD2,R2,L2',r2,hle,G2,hm2,rfl⟩;refine⟨hD2,?_⟩;obtain⟨Y1,Y2⟩:=Y ρ2 H2 hd2 x2 R2 G2 i;by_cases hlt:i<ds.length
  .obtain⟨go,Y1⟩:=Y1 hlt;have ed:ds.drop i=ds[i]::ds.drop (i+1):=ig hlt;rw[ed]at hm2;unfold B3 at hm2;obtain⟨ls3,e3,hm2⟩:=gF hm2;obtain⟨⟨bb,hd4⟩,e4,hm2⟩:=gF hm2;refine .inr ⟨go,Nat.lt_of_le_of_lt (by rw[r2.len];exact hle) 67,λσ' ys' H'=>∃ρ2 ls2 hd2 es' rest',Ext ρ1 (upd H1 Da (.lst ys')) ρ2 H'/\Ext ρ1 H1 ρ2 H'/\Da∉ρ2/\H' Da=some (.lst ys')/\RH K ρ2 H' hd2/\RL K ρ2 H' ls2 σ'/\RDs K ρ2 H' es' ys'/\es'.length<=i+1/\GOk hd2 gd/\B3 n c m gd (ds.drop (i+1)) ls2 hd2=some (rest',hd')/\es++rest=es'++rest',λσ' ys' H' z=>⟨ds.length-(i+1),by omega,rfl,hlt,z⟩,λx H3 y=>?_⟩;obtain⟨ρ3,d3,x3,rfl,R3,e5,r3⟩:=Y1 x H3 y;have e6:d3=ds[i]:=by
    have:ds[i]?=some ds[i]:=by simp[hlt]
    rw[this]at e5;exact(Option.some.inj e5).symm
   subst e6;refine hg ρ3 σ2 H3 hd2 ls2 ls3 _ x _ R3 (L2'.ext R2 x3) r3 e3 λσ4 L4=>?_;refine hf ρ3 σ4 H3 hd2 ls3 _ bb hd4 R3 L4 e4 λρ5 H5 x5 R5=>?_;have hD5:H5 Da=some (.lst ys):=x5.keep Da _ (x3.keep Da _ hD2 oD2 nt) oD2 nt;have out5:Da∉ρ5:=by
    obtain⟨r,rfl,fr⟩:=x5.pre;intro z;rcases mem_append.mp z with z|z
    .exact oD2 z
    .have:=fr _ z;rw[x3.keep Da _ hD2 oD2 nt]at this;cases this
   cases bb with
   |false=>
    rw[gf Bool.false_ne_true]at hm2 ⊢;have y25:=x3.trans R3 x5;split at hm2
    .next g5=>exact⟨ρ5,ls3,hd4,es,rest,x2'.trans R2 y25,(x2.trans R2 y25),out5,hD5,R5,L4.ext R3 x5,(r2.ext R2 y25),by omega,g5,hm2,rfl⟩
    .cases hm2
   |true=>
    rw[gc rfl]at hm2 ⊢;obtain⟨⟨z,hd6⟩,e6,hm2⟩:=gF hm2;obtain⟨g6,hm2⟩:GOk hd6 gd/\((B3 n c m gd (ds.drop (i+1)) ls3 hd6).map λq=>(z::q.1,q.2))=some (rest,hd'):=by
     dsimp only at hm2;split at hm2
     .next g6=>exact⟨g6,hm2⟩
     .cases hm2
    obtain⟨⟨zs,hd7⟩,e7,e8⟩:=gG hm2;cases e8;refine he ρ5 σ4 H5 hd4 ls3 _ z hd6 R5 (L4.ext R3 x5) e6 λρ6 H6 v6 x6 R6 r6=>?_;have hD6:H6 Da=some (.lst ys):=x6.keep Da _ hD5 out5 nt;have out6:Da∉ρ6:=by
     obtain⟨r,rfl,fr⟩:=x6.pre;intro z;rcases mem_append.mp z with z|z
     .exact out5 z
     .have:=fr _ z;rw[hD5]at this;cases this
    refine⟨hD6,?_⟩;have y26:=(x3.trans R3 x5).trans R5 x6;have gr:Grow H6 (upd H6 Da (.lst (ys++[v6]))):=Grow.refl.put (.lst hD6);have R7:=R6.hput (ho:=.lst (ys++[v6])) out6 hD6;have x12:=x2.trans R2 y26;have ext7:Ext ρ1 H1 ρ6 (upd H6 Da (.lst (ys++[v6]))):=⟨x12.pre,λb o q nb t=>by
     have:b≠Da:=AR q hDa;rw[AE this];exact x12.keep b o q nb t,λb ps q=>by
     have:b≠Da:=AR q hDa;rw[AE this];exact x12.tab b ps q⟩
    have ext8:Ext ρ1 (upd H1 Da (.lst (ys++[v6]))) ρ6 (upd H6 Da (.lst (ys++[v6]))):=by
     obtain⟨r,er,fr⟩:=x12.pre;refine⟨⟨r,er,λb hb=>?_⟩,λb o q nb t=>?_,λb ps q=>?_⟩
     .have:b≠Da:=λz=>out6 (by rw[er,<- z];exact gn _ hb);rw[AE this];exact fr b hb
     .by_cases hb:b=Da
      .subst hb;rw[AK]at q ⊢;exact q
      .rw[AE hb]at q ⊢;exact x12.keep b o q nb t
     .by_cases hb:b=Da
      .subst hb;rw[AK]at q;cases q
      .rw[AE hb]at q ⊢;exact x12.tab b ps q
    refine⟨ρ6,ls3,hd6,es++[z],zs,ext8,ext7,out6,AK,R7,?_,?_,by simp;omega,g6,e7,by simp⟩
    .have L6:=(L4.ext R3 x5).ext R5 x6;exact⟨L6.len,λi d e=>let ⟨v,a,b⟩:=L6.ob i d e;⟨v,a,by simpa using b.mono gr []⟩⟩
    .have:=((r2.ext R2 y26).app (.cons r6 .nil)).mono gr [];simpa using this
  .have e:i=ds.length:=by omega
   subst e;rw[List.drop_length]at hm2;unfold B3 at hm2;cases hm2;refine .inl ⟨Y2 rfl,?_⟩;exact hQ ρ2 H2 Da ys 84 R2 nD oD2 hD2 (by simpa using r2)
 .cases hm
end
mutual
noncomputable def clD(w:Nat):D->Bool
 |.im _=>true
 |.mu n=>decide (n<w)
 |.tm ds=>Az w ds
 |.ro _=>true
 |.op _ _ ds=>Az w ds
 |.fv _ ds=>Az w ds
noncomputable def Az(w:Nat):List D->Bool
 |[]=>true
 |d::ds=>clD w d&&Az w ds
end
noncomputable def Fq(w:Nat):List (Key×D)->Bool
 |[]=>true
 |d::ds=>clD w d.2&&Fq w ds
noncomputable def clO(w:Nat):MO->Bool
 |.lst ds=>Az w ds
 |.dic ds=>Fq w ds
section
variable{K:Frag}{ρ ρ' ρ1:List Addr}{H H' H1:Hp}{hd hd' h1 h2:Hd}
@[simp] theorem dg{w:Nat}(a b:List D):Az w (a++b)=(Az w a&&Az w b):=by induction a<;>simp_all [Az,Bool.and_assoc]
mutual
theorem RD.take(w:Nat):∀{d:D} {v:V},RD K ρ H d v->clD w d=true->RD K (ρ.take w) H d v
 |.im i,v,h,_=>by simp only[RD]at h ⊢;exact h
 |.mu n,v,h,c=>by
  simp only[RD]at h ⊢;obtain⟨a,e,q⟩:=h;exact⟨a,by rw[List.getElem?_take_of_lt (by simpa [clD]using c)];exact e,q⟩
 |.tm ds,v,h,c=>by
  simp only[RD]at h ⊢;obtain⟨a,xs,e,q,z⟩:=h;exact⟨a,xs,e,q,RDs.take' w z (by simpa [clD]using c)⟩
 |.ro ns,v,h,c=>by simp only[RD]at h ⊢;exact h
 |.op nm fs ds,v,h,c=>by
  simp only[RD]at h ⊢;obtain⟨a,xs,e,q,z⟩:=h;exact⟨a,xs,e,q,RDs.take' w z (by simpa [clD]using c)⟩
 |.fv k ds,v,h,c=>by
  simp only[RD]at h ⊢;obtain⟨a,xs,e,q,z⟩:=h;exact⟨a,xs,e,q,RDs.take' w z (by simpa [clD]using c)⟩
theorem RDs.take'(w:Nat):∀{d:List D} {v:List V},RDs K ρ H d v->Az w d=true->RDs K (ρ.take w) H d v
 |[],v,h,_=>by simpa only[RDs]using h
 |d::ds,v,h,c=>by
  simp only[RDs]at h ⊢;obtain⟨x,r',e,q,z⟩:=h;have c:clD w d=true/\Az w ds=true:=by simpa [Az]using c
  exact⟨x,r',e,q.take w c.1,RDs.take' w z c.2⟩
end
theorem RKs.take(w:Nat):∀{d:List (Key×D)} {v:List (Key×V)},RKs K ρ H d v->Fq w d=true->RKs K (ρ.take w) H d v
 |[],v,h,_=>by simpa only[RKs]using h
 |d::ds,v,h,c=>by
  simp only[RKs]at h ⊢;obtain⟨x,r',e,q1,q,z⟩:=h;have c:clD w d.2=true/\Fq w ds=true:=by simpa [Fq]using c
  exact⟨x,r',e,q1,q.take w c.1,RKs.take w z c.2⟩
theorem RC.take(w:Nat){o:MO}{ho:HO}(h:RC K ρ H o ho)(c:clO w o=true):RC K (ρ.take w) H o ho:=by
 cases o with
 |lst ds=>obtain⟨xs,e,q⟩:=h;exact⟨xs,e,q.take' w c⟩
 |dic ds=>obtain⟨xs,e,q⟩:=h;exact⟨xs,e,q.take w c⟩
theorem RH.take(h:RH K ρ H hd)(w:Nat)(c:(hd.take w).all (clO w)=true):RH K (ρ.take w) H (hd.take w):=by
 refine⟨by simp[h.len],h.nd.sublist (List.take_sublist _ _),h.tabs,λn o a e1 e2=>?_⟩;have co:=all_eq_true.mp c o (gJ e1);have hn:n<w:=by
  have:=(78 e1).1;simp at this;omega
 rw[List.getElem?_take_of_lt hn]at e1 e2;obtain⟨ho,q1,q2⟩:=h.ob n o a e1 e2;exact⟨ho,q1,q2.take w co⟩
def RH.back(R1:RH K ρ1 H1 h1){w:Nat}(hw:w<=h1.length)(c1:(h1.take w).all (clO w)=true)(x:Ext (ρ1.take w) H1 ρ' H')(R':RH K ρ' H' h2)(c:(h2.take w).all (clO w)=true):
 RH K ρ1 H' (h2.take w++h1.drop w)/\Ext ρ1 H1 ρ1 H'/\ρ'.take w=ρ1.take w:=by
 obtain⟨r,rfl,fr⟩:=x.pre;have lw:(ρ1.take w).length=w:=by rw[i6,R1.len];omega
 have l2:w<=h2.length:=by rw[<- R'.len];simp[lw]
 have tk:(ρ1.take w++r).take w=ρ1.take w:=by rw[List.take_append_of_le_length 67,List.take_take];simp
 refine⟨⟨?_,R1.nd,R'.tabs,λn o a e1 e2=>?_⟩,⟨⟨[],by simp,by simp⟩,λb o q nb t=>x.keep b o q (λm=>nb (List.mem_of_mem_take m)) t,x.tab⟩,tk⟩
 .rw[ie,i6,List.length_drop,R1.len];omega
 .by_cases hn:n<w
  .rw[List.getElem?_append_left (by rw[i6];omega),List.getElem?_take_of_lt hn]at e1;have e3:(ρ1.take w++r)[n]?=some a:=by
    rw[List.getElem?_append_left 67,List.getElem?_take_of_lt hn];exact e2
   obtain⟨ho,q1,q2⟩:=R'.ob n o a e1 e3;have co:=all_eq_true.mp c o (by
    have:(h2.take w)[n]?=some o:=by rw[List.getElem?_take_of_lt hn];exact e1
    exact gJ this)
   have q3:=q2.take w co;rw[tk]at q3;have q4:=q3.mono (Grow.refl (H:=H')) (ρ1.drop w);rw[iL]at q4;exact⟨ho,q1,q4⟩
  .rw[List.getElem?_append_right (by rw[i6];omega),i6,List.getElem?_drop]at e1;have e1:h1[n]?=some o:=by
    have:w+(n-min w h2.length)=n:=by omega
    rw[this]at e1;exact e1
   obtain⟨ho,q1,q2⟩:=R1.ob n o a e1 e2;have out:a∉ρ1.take w:=λm=>by
    obtain⟨k,hk⟩:=mem_iff_getElem?.mp m;have kw:k<w:=by
     have:=(78 hk).1;rw[lw]at this;exact this
    rw[List.getElem?_take_of_lt kw]at hk;have:=(List.getElem?_inj (78 e2).1 R1.nd).mp (e2.trans hk.symm);omega
   have gr:=x.grow (R1.take w c1);exact⟨ho,x.keep a ho q1 out (λps z=>by rcases R1.mut (gJ e2)with⟨y,w⟩|⟨y,w⟩<;>(rw[q1,z]at w;cases w)),by simpa using q2.mono gr []⟩
noncomputable def spF(K:Frag)(k:Nat)(F:List D->Hd->Option (D×Hd)):Sp:=λvs H Q _=>vs.length=k/\∃(ρ:List Addr) (hd:Hd) (ds:List D) (d:D) (hd':Hd),RH K ρ H hd/\RDs K ρ H ds vs/\F ds hd=some (d,hd')/\
 ∀ρ' H' v,Ext ρ H ρ' H'->RH K ρ' H' hd'->RD K ρ' H' d v->Q v H'
noncomputable def mkF(k n:Nat)(m:MS):List D->Hd->Option (D×Hd):=λds hd=>if ds.length=k then(match m (ds.map some++96 (n-k) none) hd with
 |some (.rt d,hd')=>some (d,hd')
 |some (.nx _,hd')=>some (.im .non,hd')
 | _=>none)else none
def Mo{N:List Str}:∀{ds:List D} {vs:List V},RDs K ρ H ds vs->RL K ρ H (ds.map some++96 (N.length-ds.length) none) (start N vs):=by
 intro ds vs r;have hl:=r.len;refine⟨by simp[start,hl],λi d e=>?_⟩;unfold start;by_cases hi:i<ds.length
 .rw[List.getElem?_append_left (by simpa using hi),List.getElem?_map]at e;have e':ds[i]?=some d:=by
   cases q:ds[i]? with
   |none=>rw[q]at e;cases e
   |some z=>rw[q]at e;simpa using e
  obtain⟨x,x1,x2⟩:=r.get e';exact⟨x,by rw[List.getElem?_append_left (by rw[gy,hl];exact hi),List.getElem?_map,x1];rfl,x2⟩
 .rw[List.getElem?_append_right (by simpa using Nat.not_lt.mp hi),List.getElem?_replicate]at e;split at e<;>cases e
def OU{k:Nat}{N:List Str}{m:MS}{t:TS}(h:RS K t m){vs:List V}{H:Hp}{Q:VK}{E:XK}(s:spF K k (mkF k N.length m) vs H Q E):t { nx:=λ_ H'=>Q .non H',rt:=Q } (start N vs) H:=by
 obtain⟨hk,ρ,hd,ds,d,hd',hR,hr,hF,hQ⟩:=s;unfold mkF at hF;split at hF
 .next hl=>
  subst hl;split at hF
  .next q=>
   cases hF;exact h ρ _ H hd _ _ _ _ hR (Mo hr) q λρ' H' x R v r=>hQ ρ' H' v x R r
  .next q=>
   cases hF;exact h ρ _ H hd _ _ _ _ hR (Mo hr) q λρ' H' x R σ L=>hQ ρ' H' .non x R (by simp[RD,RI])
  .cases hF
 .cases hF
noncomputable def D2(F:List D->Hd->Option (D×Hd))(ma:MA):ME:=λls hd=>(ma ls hd).bind λp=>F p.1 p.2
def Tl{k:Nat}{F:List D->Hd->Option (D×Hd)}{t:TA}{m:MA}(h:RA K t m)(hk:∀ds hd z,F ds hd=some z->ds.length=k):RE K (FI (spF K k F) [] E0 t) (D2 F m):=by
 and_intros;obtain⟨⟨d1,h1⟩,e1,hm⟩:=gF hm;refine h ρ σ H hd ls _ d1 h1 hR hL e1 λρ1 H1 v1 x1 R1 r1=>?_;rw[i4];exact⟨by rw[r1.len];exact hk _ _ _ hm,ρ1,h1,d1,d,hd',R1,r1,hm,λρ' H' w x2 R2 r2=>hQ ρ' H' w 84 R2 r2⟩
def Ot{k n:Nat}{m:MS}:∀ds hd z,mkF k n m ds hd=some z->ds.length=k:=λds hd z h=>by
 unfold mkF at h;split at h
 .next e=>exact e
 .cases h
noncomputable def fin(w:Nat)(d:D)(h2 rest:Hd):Option (D×Hd):=if(h2.take w).all (clO w)=true then(match d with
 | .mu k=>if k<w then some (.mu k,h2.take w++rest)else(match h2[k]? with
  |some (.lst ds)=>if Az w ds=true then some (.mu (w+rest.length),h2.take w++rest++[.lst ds])else none
  | _=>none)
 | d=>if clD w d=true then some (d,h2.take w++rest)else none)else none
noncomputable def A8(w:Nat)(F:List D->Hd->Option (D×Hd))(ma:MA):ME:=λls hd=>(ma ls hd).bind λp=>
 if w<=p.2.length/\Az w p.1=true/\(p.2.take w).all (clO w)=true then(F p.1 (p.2.take w)).bind λr=>fin w r.1 r.2 (p.2.drop w)else none
def Tj{w k:Nat}{F:List D->Hd->Option (D×Hd)}{t:TA}{m:MA}(h:RA K t m)(hk:∀ds hd z,F ds hd=some z->ds.length=k):RE K (FI (spF K k F) [] E0 t) (A8 w F m):=by
 and_intros;obtain⟨⟨d1,h1⟩,e1,hm⟩:=gF hm;dsimp only at hm;split at hm
 .next c=>
  obtain⟨c0,c1,c2⟩:=c;obtain⟨⟨d2,h2⟩,e2,hm⟩:=gF hm;refine h ρ σ H hd ls _ d1 h1 hR hL e1 λρ1 H1 v1 x1 R1 r1=>?_;rw[i4];refine⟨by rw[r1.len];exact hk _ _ _ e2,ρ1.take w,h1.take w,d1,d2,h2,R1.take w c2,r1.take' w c1,e2,λρ' H' v x2 R2 r2=>?_⟩;unfold fin at hm;dsimp only at hm;split at hm
  .next c3=>
   obtain⟨R3,x3,tk⟩:=R1.back c0 c2 x2 R2 c3;have up:∀{d:D} {v:V},RD K ρ' H' d v->clD w d=true->RD K ρ1 H' d v:=λr c=>by
    have q:=r.take w c;rw[tk]at q;have q:=q.mono (Grow.refl (H:=H')) (ρ1.drop w);rw[iL]at q;exact q
   have ups:∀{d:List D} {v:List V},RDs K ρ' H' d v->Az w d=true->RDs K ρ1 H' d v:=λr c=>by
    have q:=r.take' w c;rw[tk]at q;have q:=q.mono (Grow.refl (H:=H')) (ρ1.drop w);rw[iL]at q;exact q
   split at hm
   .next k'=>
    split at hm
    .next hk'=>
     cases hm;exact hQ ρ1 H' v (x1.trans R1 x3) R3 (up r2 (by simpa [clD]using hk'))
    .next hk'=>
     split at hm
     .next ds q=>
      split at hm
      .next c4=>
       cases hm;simp only[RD]at r2;obtain⟨a,ea,rfl⟩:=r2;obtain⟨xs,l1,l2⟩:=R2.lst ea q;have len3:=R3.len;have out:a∉ρ1:=λm=>by
        -- a is one of those made behind the first w
        obtain⟨r,er,fr⟩:=x2.pre;have lw:(ρ1.take w).length=w:=by rw[i6,R1.len];omega
        have ma:a∈r:=by
         rw[er,List.getElem?_append_right (by rw[lw];omega)]at ea;exact gJ ea
        exact R1.out (fr a ma) m
       have na:H1 a=none:=by
        obtain⟨r,er,fr⟩:=x2.pre;have lw:(ρ1.take w).length=w:=by rw[i6,R1.len];omega
        have ma:a∈r:=by
         rw[er,List.getElem?_append_right (by rw[lw];omega)]at ea;exact gJ ea
        exact fr a ma
       refine hQ (ρ1++[a]) H' _ (x1.trans R1 (x3.name na)) (R3.name out l1 (ups l2 c4)) ?_;simp only[RD];refine⟨a,?_,rfl⟩;have:w+(List.drop w h1).length=ρ1.length:=by rw[List.length_drop,R1.len];omega
       rw[this];simp
      .cases hm
     .cases hm
   .next d' nd=>
    split at hm
    .next c4=>cases hm;exact hQ ρ1 H' v (x1.trans R1 x3) R3 (up r2 c4)
    .cases hm
  .cases hm
 .cases hm
noncomputable def BN(c:MT)(b:MS):Nat->Ls->Hd->Option (Fl×Hd)
 |0,_,_=>none
 | k+1,ls,hd=>(c ls hd).bind λp=>if p.1=true then(b ls p.2).bind λq=>(match q.1 with
  |.nx ls2=>BN c b k ls2 q.2
  |.ct ls2=>BN c b k ls2 q.2
  |.bk ls2=>some (.nx ls2,q.2)
  | .rt d=>some (.rt d,q.2))else some (.nx ls,p.2)
open Classical in
noncomputable def F4(c:MT)(b:MS):MS:=λls hd=>if h:∃r k,BN c b k ls hd=some r then some h.choose else none
theorem EB{c:MT}{b:MS}:∀{k j:Nat} {ls:Ls} {hd:Hd} {r:Fl×Hd},BN c b k ls hd=some r->k<=j->BN c b j ls hd=some r
 |0,_,_,_,_,h,_=>by cases h
 |k+1,0,_,_,_,_,hj=>by omega
 |k+1,j+1,ls,hd,r,h,hj=>by
  unfold BN at h ⊢;obtain⟨p,e1,h⟩:=gF h;rw[e1];show(if p.1=true then _ else _)=_;split at h
  .next c=>
   rw[gc c];obtain⟨q,e2,h⟩:=gF h;rw[e2];obtain⟨f,hd2⟩:=q;cases f with
   |nx ls2=>exact EB h 67
   |ct ls2=>exact EB h 67
   |bk ls2=>exact h
   |rt d=>exact h
  .next c=>rw[gf c];exact h
def SI{c:MT}{b:MS}{k:Nat}{ls:Ls}{hd:Hd}{r:Fl×Hd}(h:BN c b k ls hd=some r):F4 c b ls hd=some r:=by
 unfold F4;have ex:∃r k,BN c b k ls hd=some r:=⟨r,k,h⟩
 rw[dif_pos ex];obtain⟨j,e⟩:=ex.choose_spec;have e1:=EB e (Nat.le_max_left j k);have e2:=EB h (Nat.le_max_right j k);rw[e1]at e2;exact e2
def TX{tc:TT}{tb:TS}{c:MT}{b:MS}(hc:RT K tc c)(hb:RS K tb b):RS K (ML tc tb) (F4 c b):=by
 intro ρ σ H hd ls E f hd' hR hL hm hQ;obtain⟨k,hk⟩:∃k,BN c b k ls hd=some (f,hd'):=by
  unfold F4 at hm;split at hm
  .next ex=>
   obtain⟨j,e⟩:=ex.choose_spec;exact⟨j,by rw[e];exact hm⟩
  .cases hm
 refine⟨λm σ2 H2=>∃ρ2 ls2 hd2,Ext ρ H ρ2 H2/\RH K ρ2 H2 hd2/\RL K ρ2 H2 ls2 σ2/\BN c b m ls2 hd2=some (f,hd'),⟨k,ρ,ls,hd,.refl,hR,hL,hk⟩,?_⟩;rintro m σ2 H2 ⟨ρ2,ls2,hd2,x2,R2,L2',hm2⟩;cases m with
 |zero=>cases hm2
 |succ m=>
  unfold BN at hm2;obtain⟨⟨bb,hd3⟩,e1,hm2⟩:=gF hm2;refine hc ρ2 σ2 H2 hd2 ls2 _ bb hd3 R2 L2' e1 λρ3 H3 x3 R3=>?_;cases bb with
  |false=>
   rw[gf Bool.false_ne_true]at hm2 ⊢;cases hm2;exact hQ ρ3 H3 (x2.trans R2 x3) R3 σ2 (L2'.ext R2 x3)
  |true=>
   rw[gc rfl]at hm2 ⊢;obtain⟨⟨fl,hd4⟩,e2,hm2⟩:=gF hm2;refine⟨λσ' H'=>∃ρ2 ls2 hd2,Ext ρ H ρ2 H'/\RH K ρ2 H' hd2/\RL K ρ2 H' ls2 σ'/\BN c b m ls2 hd2=some (f,hd'),λσ' H' z=>⟨m,j4 m,z⟩,?_⟩;refine hb ρ3 σ2 H3 hd3 ls2 _ fl hd4 R3 (L2'.ext R2 x3) e2 λρ5 H5 x5 R5=>?_;have x15:=(x2.trans R2 x3).trans R3 x5;cases fl with
   |nx ls5=>intro σ5 L5;exact⟨ρ5,ls5,hd4,x15,R5,L5,hm2⟩
   |ct ls5=>intro σ5 L5;exact⟨ρ5,ls5,hd4,x15,R5,L5,hm2⟩
   |bk ls5=>intro σ5 L5;cases hm2;exact hQ ρ5 H5 x15 R5 σ5 L5
   |rt d5=>intro v5 r5;cases hm2;exact hQ ρ5 H5 x15 R5 v5 r5
noncomputable def Cg(kvs:List (Key×D))(k:Key):Option D:=(kvs.find? λkv=>decide (kv.1=k)).map (·.2)
noncomputable def De(kvs:List (Key×D))(k:Key)(v:D):List (Key×D):=
 if(kvs.any λkv=>decide (kv.1=k))=true then kvs.map (λkv=>if kv.1=k then(kv.1,v)else kv)else kvs++[(k,v)]
theorem RKs.val:∀{kvs:List (Key×D)} {xs:List (Key×V)} {k:Key} {d:D},RKs K ρ H kvs xs->Cg kvs k=some d->∃v,Dz xs k=some v/\RD K ρ H d v
 |[],xs,k,d,h,e=>by simp[Cg]at e
 |p::kvs,xs,k,d,h,e=>by
  simp only[RKs]at h;obtain⟨x,r,rfl,e1,r1,r2⟩:=h;by_cases hk:p.1=k
  .rw[Ew (e1.trans hk)];simp[Cg,iB,hk]at e;subst e;exact⟨_,rfl,r1⟩
  .rw[Ex (by rw[e1];exact hk)];simp only[Cg,iB,hk,decide_false]at e;exact RKs.val r2 e
theorem RKs.valN:∀{kvs:List (Key×D)} {xs:List (Key×V)} {k:Key},RKs K ρ H kvs xs->(Dz xs k).isSome=(Cg kvs k).isSome
 |[],xs,k,h=>by simp only[RKs]at h;subst h;rfl
 |p::kvs,xs,k,h=>by
  simp only[RKs]at h;obtain⟨x,r,rfl,e1,r1,r2⟩:=h;by_cases hk:p.1=k
  .rw[Ew (e1.trans hk)];simp[Cg,iB,hk]
  .rw[Ex (by rw[e1];exact hk)];simp only[Cg,iB,hk,decide_false];exact RKs.valN r2
theorem RKs.any:∀{kvs:List (Key×D)} {xs:List (Key×V)} {k:Key},RKs K ρ H kvs xs->(xs.any λkv=>decide (kv.1=k))=(kvs.any λkv=>decide (kv.1=k))
 |[],xs,k,h=>by simp only[RKs]at h;subst h;rfl
 |p::kvs,xs,k,h=>by
  simp only[RKs]at h;obtain⟨x,r,rfl,e1,r1,r2⟩:=h;simp only[any_cons,e1,RKs.any r2]
theorem RKs.upd:∀{kvs:List (Key×D)} {xs:List (Key×V)} {k:Key} {d:D} {v:V},RKs K ρ H kvs xs->RD K ρ H d v->RKs K ρ H (kvs.map (λkv=>if kv.1=k then(kv.1,d)else kv)) (xs.map (λkv=>if kv.1=k then(kv.1,v)else kv))
 |[],xs,k,d,v,h,_=>by simp only[RKs]at h;subst h;simp[RKs]
 |p::kvs,xs,k,d,v,h,q=>by
  simp only[RKs]at h;obtain⟨x,r,rfl,e1,r1,r2⟩:=h;simp only[gm,RKs];refine⟨_,_,rfl,?_,?_,RKs.upd r2 q⟩
  .rw[e1];split<;>simp[e1]
  .rw[e1];split
   .exact q
   .exact r1
theorem RKs.app:∀{kvs ks:List (Key×D)} {xs ys:List (Key×V)},RKs K ρ H kvs xs->RKs K ρ H ks ys->RKs K ρ H (kvs++ks) (xs++ys)
 |[],ks,xs,ys,h,t=>by simp only[RKs]at h;subst h;simpa using t
 |d::ds,ks,xs,ys,h,t=>by
  simp only[RKs]at h;obtain⟨x,r,rfl,e,z,q⟩:=h;simp only[iF,RKs];exact⟨_,_,rfl,e,z,q.app t⟩
def RKs.put{kvs:List (Key×D)}{xs:List (Key×V)}{k:Key}{d:D}{v:V}(h:RKs K ρ H kvs xs)(q:RD K ρ H d v):RKs K ρ H (De kvs k d) (CF xs k v):=by
 unfold De CF;rw[h.any];split
 .exact h.upd q
 .exact h.app (by simp only[RKs];exact⟨_,_,rfl,rfl,q,rfl⟩)
noncomputable def E7:D->Option Key
 |.im (.int i)=>some (.inl i)
 |.im (.str x)=>some (.inr x)
 |_=>none
def KN{d:D}{v:V}{k:Key}(h:RD K ρ H d v)(e:E7 d=some k):v=kV k:=by
 cases d with
 |im i=>
  cases i with
  |int i=>simp only[E7,Option.some.injEq]at e;subst e;simp only[RD,RI]at h;exact h
  |str i=>simp only[E7,Option.some.injEq]at e;subst e;simp only[RD,RI]at h;exact h
  |_=>simp[E7]at e
 |_=>simp[E7]at e
noncomputable def Er(hd:Hd):D->Option (List (Key×D))
 |.mu n=>match hd[n]? with
  |some (.dic kvs)=>some kvs
  |_=>none
 |_=>none
theorem RD.dic{d:D}{v:V}{kvs:List (Key×D)}(hR:RH K ρ H hd)(h:RD K ρ H d v)(e:Er hd d=some kvs):∃n a xs,d=.mu n/\v=.ref a/\ρ[n]?=some a/\H a=some (.dK xs)/\RKs K ρ H kvs xs:=by
 cases d with
 |mu n=>
  simp only[Er]at e;simp only[RD]at h;obtain⟨a,hn,rfl⟩:=h;split at e
  .next q=>
   cases e;obtain⟨xs,e1,e2⟩:=hR.dic hn q;exact⟨n,a,xs,rfl,rfl,hn,e1,e2⟩
  .cases e
 |_=>simp[Er]at e
noncomputable def CM:D->D->Hd->Option (D×Hd):=λd e hd=>(Er hd d).bind λkvs=>(E7 e).bind λk=>(Cg kvs k).map (·,hd)
def WH{td ty:TE}{md my:ME}(hd:RE K td md)(hy:RE K ty my):RE K (Pb td ty) (mOp CM md my):=by
 intro ρ σ H hd0 ls Q d hd' hR hL hm hQ;obtain⟨⟨d1,h1⟩,e1,hm⟩:=gF hm;obtain⟨⟨d2,h2⟩,e2,hm⟩:=gF hm;obtain⟨kvs,e3,hm⟩:=gF hm;obtain⟨k,e4,hm⟩:=gF hm;obtain⟨w,e5,e6⟩:=gG hm;cases e6;refine hd ρ σ H hd0 ls _ d1 h1 hR hL e1 λρ1 H1 v1 x1 R1 r1=>?_;refine hy ρ1 σ H1 h1 ls _ d2 _ R1 (hL.ext hR x1) e2 λρ2 H2 v2 x2 R2 r2=>?_;obtain⟨n,a,xs,rfl,rfl,hn,l1,l2⟩:=RD.dic R2 (r1.ext R1 x2) e3;have:=KN r2 e4;subst this;obtain⟨v,v1,v2⟩:=l2.val e5;exact⟨a,v,rfl,v1 ▸ DGet.k l1,hQ ρ2 H2 v 84 R2 v2⟩
open Classical in
noncomputable def FO(md my mv:ME):MS:=λls hd=>(mv ls hd).bind λp=>(md ls p.2).bind λq=>(my ls q.2).bind λr=>(E7 r.1).bind λk=>match q.1 with
 |.mu n=>match r.2[n]? with
  |some (.dic kvs)=>if Gg kvs.length then some (.nx ls,r.2.set n (.dic (De kvs k p.1)))else none
  |_=>none
 |_=>none
def Vv{td ty tv:TE}{md my mv:ME}(hd:RE K td md)(hy:RE K ty my)(hv:RE K tv mv):RS K (Pr td ty tv) (FO md my mv):=by
 intro ρ σ H hd0 ls E f hd' hR hL hm hQ;obtain⟨⟨d1,h1⟩,e1,hm⟩:=gF hm;obtain⟨⟨d2,h2⟩,e2,hm⟩:=gF hm;obtain⟨⟨d3,h3⟩,e3,hm⟩:=gF hm;obtain⟨k,e4,hm⟩:=gF hm;dsimp only at hm;split at hm
 .split at hm
  .next q=>
   split at hm
   .next c=>
    cases hm;refine hv ρ σ H hd0 ls _ d1 h1 hR hL e1 λρ1 H1 v1 x1 R1 r1=>?_;refine hd ρ1 σ H1 h1 ls _ _ h2 R1 (hL.ext hR x1) e2 λρ2 H2 v2 x2 R2 r2=>?_;refine hy ρ2 σ H2 h2 ls _ d3 _ R2 (hL.ext hR 84) e3 λρ3 H3 v3 x3 R3 r3=>?_;have r2:=r2.ext R2 x3;simp only[RD]at r2;obtain⟨a,hn,rfl⟩:=r2;obtain⟨xs,l1,l2⟩:=R3.dic hn q;have:=KN r3 e4;subst this;obtain⟨R4,x4⟩:=R3.put hn (o:=.dic (De _ k d1)) (ho:=.dK (CF xs k v1)) ⟨_,rfl,l2.put ((r1.ext R1 x2).ext R2 x3)⟩;have x13:=(84).trans R2 x3;exact⟨a,_,rfl,DPut.k l1 (by rw[l2.len];exact c),hQ ρ3 _ (x13.trans R3 x4) R4 σ ((hL.ext hR x13).ext R3 x4)⟩
   .cases hm
  .cases hm
 .cases hm
noncomputable def ES:List (ME×ME)->Ls->Hd->Option (List (Key×D)×Hd)
 |[],_,hd=>some ([],hd)
 |(mk,mv)::r,ls,hd=>(mk ls hd).bind λp=>(mv ls p.2).bind λq=>(ES r ls q.2).bind λz=>(E7 p.1).map λk=>((k,q.1)::z.1,z.2)
noncomputable def Fy(kvs more:List (Key×D)):List (Key×D):=more.foldl (λacc kv=>De acc kv.1 kv.2) kvs
theorem RKs.merge:∀{more kvs:List (Key×D)} {ms xs:List (Key×V)},RKs K ρ H more ms->RKs K ρ H kvs xs->RKs K ρ H (Fy kvs more) (EQ xs ms)
 |[],kvs,ms,xs,h,t=>by simp only[RKs]at h;subst h;exact t
 |d::ds,kvs,ms,xs,h,t=>by
  simp only[RKs]at h;obtain⟨x,r,rfl,e,z,q⟩:=h;show RKs K ρ H (Fy (De kvs d.1 d.2) ds) (EQ (CF xs x.1 x.2) r);rw[e];exact q.merge (t.put z)
noncomputable def RPs(K:Frag):List (TE×TE)->List (ME×ME)->Prop
 |[],[]=>True
 |t::ts,m::ms=>RE K t.1 m.1/\RE K t.2 m.2/\RPs K ts ms
 |_,_=>False
theorem N0:∀{trs:List (TE×TE)} {ms:List (ME×ME)},RPs K trs ms->∀(ρ:List Addr) (σ:St) (H:Hp) (hd:Hd) (ls:Ls) (Q:List (V×V)->Hp->Prop) (kvs:List (Key×D)) (hd':Hd),RH K ρ H hd->RL K ρ H ls σ->ES ms ls hd=some (kvs,hd') ->
 (∀ρ' H' xs,Ext ρ H ρ' H'->RH K ρ' H' hd'->RKs K ρ' H' kvs xs->Q (xs.map λkv=>(kV kv.1,kv.2)) H')->HH trs σ H Q
 |[],[],_,ρ,σ,H,hd,ls,Q,kvs,hd',hR,hL,hm,hQ=>by
  cases hm;exact hQ ρ H [] .refl hR (by simp[RKs])
 |(tk,tv)::ts,(mk,mv)::ms,⟨a,b,c⟩,ρ,σ,H,hd,ls,Q,kvs,hd',hR,hL,hm,hQ=>by
   unfold ES at hm;obtain⟨⟨d1,h1⟩,e1,hm⟩:=gF hm;obtain⟨⟨d2,h2⟩,e2,hm⟩:=gF hm;obtain⟨⟨d3,h3⟩,e3,hm⟩:=gF hm;obtain⟨k,e4,e5⟩:=gG hm;cases e5;unfold HH;refine a ρ σ H hd ls _ d1 h1 hR hL e1 λρ1 H1 v1 x1 R1 r1=>?_;refine b ρ1 σ H1 h1 ls _ d2 h2 R1 (hL.ext hR x1) e2 λρ2 H2 v2 x2 R2 r2=>?_;refine N0 c ρ2 σ H2 h2 ls _ d3 _ R2 (hL.ext hR 84) e3 λρ3 H3 xs x3 R3 r3=>?_;have:=KN r1 e4;subst this;exact hQ ρ3 H3 ((k,v2)::xs) ((84).trans R2 x3) R3 (by simp only[RKs];exact⟨_,_,rfl,rfl,r2.ext R2 x3,r3⟩)
 |[],_::_,h,_,_,_,_,_,_,_,_,_,_,_,_=>h.elim
 |_::_,[],h,_,_,_,_,_,_,_,_,_,_,_,_=>h.elim
noncomputable def M5(ms:List (ME×ME)):ME:=λls hd=>(ES ms ls hd).bind λp=>if p.1.length<=15 then some (.mu p.2.length,p.2++[.dic (Fy [] p.1)])else none
def RH.nameD(hR:RH K ρ H hd){a:Addr}{xs:List (Key×V)}{kvs:List (Key×D)}(out:a∉ρ){o:HO}(e:H a=some o)(hs:¬ Stb o)(r:RKs K ρ H kvs xs)(h1:∀ps,o≠.tbl ps:=by intro _ z;cases z)(h2:∀φ,o≠.ext φ:=by intro _ z;cases z):RH K (ρ++[a]) (upd H a (.dK xs)) (hd++[.dic kvs]):=by
 have gr:Grow H (upd H a (.dK xs)):=Grow.refl.put λu st z=>hs (by rw[e]at z;cases z;exact st);refine⟨by simp[hR.len],?_,hR.tabs.upd (λps z=>h1 ps (Option.some.inj (e.symm.trans z))) (λps z=>h2 ps (Option.some.inj (e.symm.trans z))),λn o' b e1 e2=>?_⟩
 .rw[nodup_append];refine⟨hR.nd,by simp,λx hx y hy z=>?_⟩;simp at hy;subst hy;subst z;exact out hx
 .by_cases hn:n<ρ.length
  .rw[List.getElem?_append_left hn]at e2;rw[List.getElem?_append_left (by rw[<- hR.len];exact hn)]at e1;obtain⟨ho',q1,q2⟩:=hR.ob n o' b e1 e2;have:b≠a:=λz=>out (by rw[<- z];exact gJ e2);exact⟨ho',by rw[AE this];exact q1,q2.mono gr [a]⟩
  .have hn':n=ρ.length:=by
    have:=(78 e2).1;simp at this;omega
   subst hn';simp at e2;rw[hR.len]at e1;simp at e1;subst e1;subst e2;exact⟨_,AK,⟨xs,rfl,r.mono gr [_]⟩⟩
def WG{trs:List (TE×TE)}{ms:List (ME×ME)}(h:RPs K trs ms):RE K (Pa trs) (M5 ms):=by
 and_intros;obtain⟨⟨kvs,h1⟩,e1,hm⟩:=gF hm;dsimp only at hm;split at hm
 .next c=>
  cases hm;intro p hp;obtain⟨R0,x0⟩:=hR.hid (ho:=.dK []) hp;refine N0 h ρ σ _ hd ls _ kvs h1 R0 (hL.ext hR x0) e1 λρ1 H1 xs x1 R1 r1=>?_;have hp1:H1 p=some (.dK []):=x1.keep p _ AK (hR.out hp) nt;have op:p∉ρ1:=by
   obtain⟨r,rfl,fr⟩:=x1.pre;intro z;rcases mem_append.mp z with z|z
   .exact hR.out hp z
   .have:=fr _ z;rw[AK]at this;cases this
  refine⟨hp1,xs,rfl,by rw[r1.len];exact c,?_⟩;have mm:RKs K ρ1 H1 (Fy [] kvs) (EQ [] xs):=r1.merge (by simp[RKs]);have R2:=R1.nameD op hp1 (λz=>z) mm;have x01:=x0.trans R0 x1;refine hQ (ρ1++[p]) _ _ ?_ R2 ?_
  .obtain⟨r,er,fr⟩:=x01.pre;refine⟨⟨r++[p],by rw[er];simp,λb m=>?_⟩,λb o q nb t=>?_,λb ps q=>?_⟩
   .rcases mem_append.mp m with m|m
    .exact fr b m
    .simp at m;subst m;exact hp
   .have:b≠p:=AR q hp;rw[AE this];exact x01.keep b o q nb t
   .have:b≠p:=AR q hp;rw[AE this];exact x01.tab b ps q
  .simp only[RD];exact⟨p,by rw[<- R1.len];simp,rfl⟩
 .cases hm
noncomputable def Dg(mo mi mv:ME):MS:=λls hd=>(mv ls hd).bind λp=>(mo ls p.2).bind λq=>(mi ls q.2).bind λr=>match q.1,r.1 with
 |.mu n,.im (.int i)=>match r.2[n]? with
  |some (.lst ds)=>(ixN ds.length i).map λj=>(.nx ls,r.2.set n (.lst (ds.set j p.1)))
  |_=>none
 |_,_=>none
def Vs{to ti tv:TE}{mo mi mv:ME}(ho:RE K to mo)(hi:RE K ti mi)(hv:RE K tv mv):RS K (Ey tv (Uj to ti JW)) (Dg mo mi mv):=by
 intro ρ σ H hd0 ls E f hd' hR hL hm hQ;obtain⟨⟨d1,h1⟩,e1,hm⟩:=gF hm;obtain⟨⟨d2,h2⟩,e2,hm⟩:=gF hm;obtain⟨⟨d3,h3⟩,e3,hm⟩:=gF hm;dsimp only at hm;split at hm
 .split at hm
  .next q=>
   obtain⟨j,e4,e5⟩:=gG hm;cases e5;refine hv ρ σ H hd0 ls _ d1 h1 hR hL e1 λρ1 H1 v1 x1 R1 r1=>?_;refine ho ρ1 σ H1 h1 ls _ _ h2 R1 (hL.ext hR x1) e2 λρ2 H2 v2 x2 R2 r2=>?_;refine hi ρ2 σ H2 h2 ls _ _ _ R2 (hL.ext hR 84) e3 λρ3 H3 v3 x3 R3 r3=>?_;have r2:=r2.ext R2 x3;simp only[RD]at r2;obtain⟨a,hn,rfl⟩:=r2;simp only[RD,RI]at r3;subst r3;obtain⟨xs,l1,l2⟩:=R3.lst hn q;obtain⟨R4,x4⟩:=R3.put hn (o:=.lst _) (ho:=.lst (xs.set j v1)) ⟨_,rfl,l2.set j ((r1.ext R1 x2).ext R2 x3)⟩;have x13:=(84).trans R2 x3;exact⟨a,xs,_,j,rfl,rfl,l1,by rw[l2.len];exact e4,hQ ρ3 _ (x13.trans R3 x4) R4 σ ((hL.ext hR x13).ext R3 x4)⟩
  .cases hm
 .cases hm
end
end L2
namespace L2
open PySem PySem.Spec PyProof.Rows
structure QG(K:Frag)(X:Cx)(e:Expr)(t:TG)(m:MG):Prop where
 p:PG X e t
 r:RGt K t m
structure QGs(K:Frag)(X:Cx)(e:List Expr)(t:TGs)(m:MGs):Prop where
 p:PGs X e t
 r:Nv K t m
structure QI(K:Frag)(X:Cx)(tg e:Expr)(t:TI)(m:MI):Prop where
 p:PI X tg e t
 r:RIt K t m
structure QF(K:Frag)(X:Cx)(e:List Expr)(t:TT)(m:MT):Prop where
 p:PF X e t
 r:RT K t m
structure QO(K:Frag)(X:Cx)(e:Option Expr)(t:TO)(m:MO1):Prop where
 p:PO X e t
 r:RO1 K t m
structure QPs(K:Frag)(X:Cx)(pos:Pos)(keys:List (Option Expr))(values:List Expr)(t:List (TE×TE))(m:List (ME×ME)):Prop where
 p:PPs X pos keys values t
 r:RPs K t m
def VX(a b:List D):Prop:=a≠[]/\Bj (a.length+b.length)
open Classical in
noncomputable def Gf:D->D->Hd->Option (D×Hd):=λd e hd=>(Aa d).bind λa=>(Aa e).bind λb=>if VX a b then some (AW (a++b),hd)else none
def Of{K:Frag}:RB K (Q2 K) Gf:=by
 intro ρ H hd d e v u Q z hd' hR h1 h2 hf hQ;unfold Gf at hf;obtain⟨a,e1,hf⟩:=gF hf;obtain⟨b,e2,hf⟩:=gF hf;split at hf
 .next c=>
  cases hf;obtain⟨p,xs,rfl,q1,r1⟩:=h1.tup e1;obtain⟨p2,ys,rfl,q2,r2⟩:=h2.tup e2;have l1:=r1.len;have l2:=r2.len;refine⟨p,p2,xs,ys,rfl,rfl,q1,q2,λz=>c.1 (by rw[z]at l1;simpa using l1.symm),by rw[l1,l2];exact c.2,λz=>?_,λ_ p3 hp=>?_⟩
  .have:b=[]:=by rw[z]at l2;simpa using l2.symm
   subst this;exact hQ ρ H _ .refl hR (by rw[i4];exact C4 q1 r1)
  .obtain⟨R2,x2⟩:=hR.hid (ho:=.tup (xs++ys)) hp;exact hQ ρ _ _ x2 R2 (C4 (SqT.of AK) ((r1.app r2).ext hR x2))
 .cases hf
noncomputable abbrev Aw:=Gh KR Gf
noncomputable def Cc(neg:Bool)(m:ME):ME:=λls hd=>(m ls hd).bind λp=>some (.im (.bl (match p.1 with
 |.im .non=>!neg
 | _=>neg)),p.2)
def aI{K:Frag}{ρ:List Addr}{H:Hp}{d:D}{v:V}(h:RD K ρ H d v):decide (v=.non)=(match d with|.im .non=>true|_=>false):=by
 cases d with
 |im i=>
  cases i with
  |non=>simp only[RD,RI]at h;subst h;rfl
  |tup is=>simp only[RD,RI]at h;obtain⟨a,xs,rfl,_⟩:=h;rfl
  |_=>simp only[RD,RI]at h;subst h;rfl
 |mu n=>simp only[RD]at h;obtain⟨a,_,rfl⟩:=h;rfl
 |tm ds=>simp only[RD]at h;obtain⟨a,xs,rfl,_⟩:=h;rfl
 |ro ns=>simp only[RD]at h;obtain⟨a,rfl,_⟩:=h;rfl
 |op nm fs ds=>simp only[RD]at h;obtain⟨a,xs,rfl,_⟩:=h;rfl
 |fv k ds=>simp only[RD]at h;obtain⟨a,xs,rfl,_⟩:=h;rfl
def Rh{K:Frag}{t:TE}{m:ME}(h:RE K t m):RE K (PY t) (Cc false m):=by
 and_intros;obtain⟨⟨d1,h1⟩,e1,hm⟩:=gF hm;cases hm;refine h ρ σ H hd ls _ d1 _ hR hL e1 λρ1 H1 v x1 R1 r1=>?_;rw[aI r1];refine hQ ρ1 H1 _ x1 R1 ?_;simp only[RD,RI];cases d1 with
 |im i=>cases i<;>rfl
 |_=>rfl
def Od{K:Frag}{t:TE}{m:ME}(h:RE K t m):RE K (Lx t) (Cc true m):=by
 and_intros;obtain⟨⟨d1,h1⟩,e1,hm⟩:=gF hm;cases hm;refine h ρ σ H hd ls _ d1 _ hR hL e1 λρ1 H1 v x1 R1 r1=>?_;rw[aI r1];refine hQ ρ1 H1 _ x1 R1 ?_;simp only[RD,RI];cases d1 with
 |im i=>cases i<;>rfl
 |_=>rfl
noncomputable def Eb(m:ME):ME:=λls hd=>(m ls hd).bind λp=>match p.1 with
 |.im (.int i)=>some (.im (.int (-i)),p.2)
 |_=>none
def Ys{K:Frag}{t:TE}{m:ME}(h:RE K t m):RE K (tUn (rU λi=>.int (-i)) t) (Eb m):=by
 and_intros;obtain⟨⟨d1,h1⟩,e1,hm⟩:=gF hm;dsimp only at hm;split at hm
 .cases hm;exact h ρ σ H hd ls _ _ _ hR hL e1 λρ1 H1 v x1 R1 r1=>⟨_,by simpa only[RD,RI]using r1,hQ ρ1 H1 _ x1 R1 (by simp[RD,RI])⟩
 .cases hm
noncomputable def Bq:MT:=λ_ hd=>some (true,hd)
def YY{K:Frag}:RT K T6 Bq:=by
 and_intros;cases hm;exact hQ ρ H .refl hR
section
variable(K:Frag){X:Cx}{a b c e:Expr}{es:List Expr}{ta tb tc te:TE}{ma mb mc me:ME}{tA tB':TT}{nA nB:MT}{t:TA}{m:MA}{pos:Pos}{x:Str}
def qv(i:Nat){x:Str}{pos:Pos}(hN:X.N[i]?=some x:=by rfl)(hv:Vis X.env.scope x:=by first|exact Or.inl rfl|exact Or.inr (Or.inl rfl)|exact Or.inr (Or.inr rfl))(hd:(x==("__debug__":Str))=false:=by decide)
 (hcd:(x==("__classdict__":Str))=false:=by decide):QE K X (.Name x pos) (PQ i) (A0 i):=⟨Ry hN hv hd hcd,Yp⟩
def ZY{i:Int}{j pos}:QE K X (.Constant (.int i) j pos) (tC (.int i)) (mC (.int i)):=⟨Zx,Pw λ_=>by simp[RI]⟩
def bh{i:Bool}{j pos}:QE K X (.Constant (.bool i) j pos) (tC (.bl i)) (mC (.bl i)):=⟨bu,Pw λ_=>by simp[RI]⟩
def ZT{j pos}:QE K X (.Constant .none j pos) (tC .non) (mC .non):=⟨Zu,Pw λ_=>by simp[RI]⟩
def ZQ{x:Str}{j pos}:QE K X (.Constant (.str x) j pos) (tC (.str x)) (mC (.str x)):=⟨Zq,Pw λ_=>by simp[RI]⟩
def GP{op:Operator}{r:R2}{f:D->D->Hd->Option (D×Hd)}(ho:OpR X (binaryOp op) r)(hr:RB K r f)(ha:QE K X a ta ma)(hb:QE K X b tb mb):QE K X (.BinOp a op b pos) (tOp r ta tb) (mOp f ma mb):=⟨M3 ho ha.p hb.p,M1 hr ha.r hb.r⟩
def ZV(ha:QE K X a ta ma):QE K X (.UnaryOp .USub a pos) (tUn (rU λi=>.int (-i)) ta) (Eb ma):=⟨bq YK ha.p,Ys ha.r⟩
def Mx{op:CmpOp}{r:R2}{f:D->D->Hd->Option (D×Hd)}(ho:OpR X (compareOp op) r)(hr:RB K r f)(ha:QE K X a ta ma)(hb:QE K X b tb mb)(hm:behindInMarks op b=false:=by first|exact N5 _|rfl):QE K X (.Compare a [op] [b] pos) (tOp r ta tb) (mOp f ma mb):=⟨XR ho ha.p hb.p hm,M1 hr ha.r hb.r⟩
def F1{op:CmpOp}{r:R2}{f:D->D->Hd->Option (D×Hd)}(ho:OpR X (compareOp op) r)(hr:RB K r f)(ha:QE K X a ta ma)(hb:QE K X b tb mb)(hm:behindInMarks op b=false:=by first|exact N5 _|rfl):QT K X (.Compare a [op] [b] pos) (Lv (tOp r ta tb)) (AF (mOp f ma mb)):=⟨Ol ho ha.p hb.p hm,Ep (M1 hr ha.r hb.r)⟩
def ZX{j pos'}(ha:QE K X a ta ma):QE K X (.Compare a [.Is] [.Constant .none j pos'] pos) (PY ta) (Cc false ma):=⟨Rz (S3 ha.p),Rh ha.r⟩
def Wr{j pos'}(ha:QE K X a ta ma):QE K X (.Compare a [.IsNot] [.Constant .none j pos'] pos) (Lx ta) (Cc true ma):=⟨Rz (On ha.p),Od ha.r⟩
def Z6{j pos'}(ha:QE K X a ta ma):QT K X (.Compare a [.Is] [.Constant .none j pos'] pos) (tB (PY ta)) (AF (Cc false ma)):=⟨Rp (S3 ha.p),Yc (Rh ha.r)⟩
def WR{j pos'}(ha:QE K X a ta ma):QT K X (.Compare a [.IsNot] [.Constant .none j pos'] pos) (tB (Lx ta)) (AF (Cc true ma)):=⟨Rp (On ha.p),Yc (Od ha.r)⟩
def Tu(ha:QE K X a ta ma)(he:∀whole,isTrue a X.env whole=(do let v <- whole;standAt a.pos;holding [v] (truthy v)):=by intro _;rfl)(hK:X.K=K:=by rfl):
 QT K X a (λσ H Q=>ta σ H λx H'=>∃k,Nt K x H' k/\Q k H') (Bx ma):=by
 subst hK;exact⟨UB ha.p he,TW ha.r⟩
def Z5(ha:QT K X a tA nA):QT K X (.UnaryOp .Not a pos) (TC tA) (E5 nA):=⟨Zd ha.p,YZ ha.r⟩
def WQ(ha:QT K X a tA nA):QW K X (.BoolOp .And [a] pos) tA nA:=⟨Wy ha.p,ha.r⟩
def Z3(ha:QT K X a tA nA):QW K X (.BoolOp .Or [a] pos) tA nA:=⟨Zb ha.p,ha.r⟩
def Z4{rest:List Expr}(ha:QT K X a tA nA)(hb:QW K X (.BoolOp .And (b::rest) pos) tB' nB):QW K X (.BoolOp .And (a::b::rest) pos) (TK tA tB') (E6 nA nB):=⟨Zc ha.p hb.p,Yb ha.r hb.r⟩
def bX{rest:List Expr}(ha:QT K X a tA nA)(hb:QW K X (.BoolOp .Or (b::rest) pos) tB' nB):QW K X (.BoolOp .Or (a::b::rest) pos) (tOr tA tB') (mOr nA nB):=⟨bn ha.p hb.p,bM ha.r hb.r⟩
def QW.toT{K:Frag}{X:Cx}{e:Expr}{t:TT}{m:MT}(h:QW K X e t m):QT K X e t m:=⟨h.p.pt,h.r⟩
def ZR{op}(ha:QE K X a ta ma):QE K X (.BoolOp op [a] pos) ta ma:=⟨Zr ha.p,ha.r⟩
def ZZ{rest:List Expr}(ha:QE K X a ta ma)(hb:QE K X (.BoolOp .And (b::rest) pos) tb mb):QE K X (.BoolOp .And (a::b::rest) pos) (Pe ta tb) (FP ma mb):=⟨Zy ha.p hb.p,WJ ha.r hb.r⟩
def ba{rest:List Expr}(ha:QE K X a ta ma)(hb:QE K X (.BoolOp .Or (b::rest) pos) tb mb):QE K X (.BoolOp .Or (a::b::rest) pos) (TB ta tb) (KL ma mb):=⟨br ha.p hb.p,Yr ha.r hb.r⟩
def ZS(ha:QE K X a ta ma):QE K X (.UnaryOp .Not a pos) (PU ta) (IB ma):=⟨Zt ha.p,W8 ha.r⟩
def U7(hc:QT K X c tA nA)(ha:QE K X a ta ma)(hb:QE K X b tb mb):QE K X (.IfExp c a b pos) (tIf tA ta tb) (mIf nA ma mb):=⟨UN hc.p ha.p hb.p,bQ hc.r ha.r hb.r⟩
def Za:QA K X [] BZ A5:=⟨C1,Yz⟩
def Wv(ha:QE K X e te me)(hr:QA K X es t m)(hs:starEach (e::es) X.env=90::starEach es X.env:=by rfl):QA K X (e::es) (Ax te t) (A2 me m):=⟨BQ ha.p hr.p hs,WN ha.r hr.r⟩
def ZP{x1}(h:QA K X es t m):QE K X (.Tuple es x1 pos) (T7 t) (BW m):=⟨Zp h.p,Yq h.r⟩
def ZF(h:QA K X es t m):QN K X (.List es pos) (TD t) (C5 m):=⟨Zv h.p,Yj h.r⟩
def ZU(h:QN K X e te m):QE K X e te (Au m):=⟨h.p,Rg h.r⟩
def bc(ha:QE K X a ta ma)(hb:QE K X b tb mb)(hs:Kj b:=by exact λ_ _=>rfl)(hK:X.K=K:=by rfl):QE K X (.Subscript a b pos) (tOp (M2 K) ta tb) (mOp gIx ma mb):=⟨VI ((NM K hK).or (P0 K hK)) ha.p hb.p hs,M1 bS ha.r hb.r⟩
def Wu(hu:X.A.units+1<cLine)(ha:QE K X a ta ma)(hb:QE K X b tb mb)(hs:V1 b:=by exact λ_ _=>rfl):QE K X (.Subscript a b pos) (Pb ta tb) (mOp CM ma mb):=⟨XN hu ha.p hb.p hs,WH ha.r hb.r⟩
def Wh:QO K X none K3 G0:=⟨X9,Vy⟩
def Wg(h:QE K X e te me):QO K X (some e) (PR te) (Jd me):=⟨X8 h.p,Vx h.r⟩
def ZD{lo hi:Option Expr}{tl th:TO}{ml mh:MO1}{p2:Pos}(h:QE K X e te me)(hl:QO K X lo tl ml)(hh:QO K X hi th mh)(hK:X.K=K:=by rfl):QN K X (.Subscript e (.Slice lo hi none p2) pos) (tSl (Pz K) te tl th) (KJ me ml mh):=⟨UM (TN K hK) h.p hl.p hh.p,Yh h.r hl.r hh.r⟩
def FM{id:String}{p:Pos}{r:List V->Hp->VK->Prop}{f:List D->Hd->Option (D×Hd)}(hc:CallR X (.builtin id) r)(hr:RF K r f)(hm:X.mg x=none)(hv:bootBuiltins x=some (.builtin id))(ha:QA K X (e::es) t m)(hg:Gl X x:=by rfl)(hn:x≠"__name__":=by decide)(hdb:(x==("__debug__":Str))=false:=by decide)
 (he:starEach (e::es) X.env=90::starEach es X.env:=by rfl) (hpl:(backTo pos (starEach es X.env)).any (·.1)=false:=by rfl):QE K X (.Call (.Name x p) (e::es) [] pos) (tCB r t) (mCB f m):=⟨F2 hc hg hm hv ha.p hn hdb he hpl,V7 hr ha.r⟩
def bg{id:String}{p:Pos}{r:List V->Hp->VK->Prop}{f:List D->Hd->Option (D×Hd)}(hc:CallR X (.type id) r)(hr:RF K r f)(hm:X.mg x=none)(hv:bootBuiltins x=some (.type id))(ha:QA K X (e::es) t m)(hg:Gl X x:=by rfl)(hn:x≠"__name__":=by decide)(hdb:(x==("__debug__":Str))=false:=by decide)
 (he:starEach (e::es) X.env=90::starEach es X.env:=by rfl) (hpl:(backTo pos (starEach es X.env)).any (·.1)=false:=by rfl):QE K X (.Call (.Name x p) (e::es) [] pos) (tCB r t) (mCB f m):=⟨DQ hc hg hm hv ha.p hn hdb he hpl,V7 hr ha.r⟩
def I0{id:String}{p:Pos}{r:List V->Hp->VK->Prop}{tp:Bool}{g:List D->Option D}(hc:CallR X (.builtin id) r)(hr:RG K tp r g)(hm:X.mg x=none)(hv:bootBuiltins x=some (.builtin id))(ha:QN K X e te m)(hg:Gl X x:=by rfl)(hn:x≠"__name__":=by decide)(hdb:(x==("__debug__":Str))=false:=by decide)
 (he:starEach [e] X.env=[90]:=by rfl):QE K X (.Call (.Name x p) [e] [] pos) (tCB r (Ax te BZ)) (Ay g m):=⟨F2 hc hg hm hv (BQ ha.p C1 he) hn hdb he rfl,Ri hr ha.r⟩
def bf{id:String}{p:Pos}{r:List V->Hp->VK->Prop}{tp:Bool}{g:List D->Option D}(hc:CallR X (.type id) r)(hr:RG K tp r g)(hm:X.mg x=none)(hv:bootBuiltins x=some (.type id))(ha:QN K X e te m)(hg:Gl X x:=by rfl)(hn:x≠"__name__":=by decide)(hdb:(x==("__debug__":Str))=false:=by decide)
 (he:starEach [e] X.env=[90]:=by rfl):QE K X (.Call (.Name x p) [e] [] pos) (tCB r (Ax te BZ)) (Ay g m):=⟨DQ hc hg hm hv (BQ ha.p C1 he) hn hdb he rfl,Ri hr ha.r⟩
def U3{p:Pos}(hm:X.mg "list"=none)(ha:QN K X e te m)(hg:Gl X "list":=by rfl)(he:starEach [e] X.env=[90]:=by rfl)(hK:X.K=K:=by rfl):QN K X (.Call (.Name "list" p) [e] [] pos) (tCB (KD K) (Ax te BZ)) (Hg m):=⟨DQ (Qn K hK) hg hm P8 (BQ ha.p C1 he) 98 98 he rfl,Te ha.r⟩
def Q6{id:String}{r:V->List V->Hp->VK->Prop}{f:D->List D->Hd->Option (D×Hd)}{name:Str}{apos cpos:Pos}{o:Expr}{to:TE}{mo:ME}(slot:Slot "list" name id)(hty:typeOf (.builtin id)=pure (.type "method_descriptor"))(hm:MtM X id r)(hr:RM K r f)(ho:QE K X o to mo)(ha:QA K X (e::es) t m)
 (hbase:attributeBase o name X.env (eval o X.env)=eval o X.env:=by rfl)
 (hfew:((backTo cpos (starEach (e::es) X.env)).all (λx=>!x.1)&&(backToKw cpos (keywordEach [] X.env)).all (λx=>x.1.isSome)
  && decide ((e::es).length+([]:List Keyword).length+(if([]:List Keyword).isEmpty then 0 else 1)<30))=true:=by rfl)
 (hline:(apos.endLine==cpos.line)=true:=by rfl) (hs:starEach (e::es) X.env=90::starEach es X.env:=by rfl) (hplain:(backTo cpos (starEach es X.env)).any (·.1)=false:=by rfl) (hK:X.K=K:=by rfl):
 QE K X (.Call (.Attribute o name apos) (e::es) [] cpos) (tBM K "list" r to t) (mMt f mo m):=by
 subst hK;exact⟨bt PySem.F.plainAttrs_list slot hty hm ho.p ha.p hbase hfew hline hs hplain,bP hr ho.r ha.r⟩
def U8(w:Nat){j k:Nat}{f:Addr}{fd:FuncData}{ps:List Str}{n:Nat}{F:List D->Hd->Option (D×Hd)}{st:Stmt}{p:Pos}(G:FnOk X.prog X.w X.K X.mg X.base CX0 j f fd ps (spF K n F))(hr:Room k X.A)(DA:DefAt X.K X.mg x st f fd ps)(ha:QA K X (e::es) t m)(hF:∀ds hd z,F ds hd=some z->ds.length=n)
 (hjk:j<=k:=by decide) (hg:Gl X x:=by rfl) (hdb:(x==("__debug__":Str))=false:=by decide) (he:starEach (e::es) X.env=90::starEach es X.env:=by rfl) (hpl:(backTo pos (starEach es X.env)).any (·.1)=false:=by rfl):
 QE K X (.Call (.Name x p) (e::es) [] pos) (FI (spF K n F) [] E0 t) (A8 w F m):=⟨VJ G hr DA ha.p hjk hg hdb he hpl,Tj ha.r hF⟩
def UA{j k:Nat}{f:Addr}{fd:FuncData}{ps:List Str}{n:Nat}{F:List D->Hd->Option (D×Hd)}{st:Stmt}{p:Pos}(G:FnOk X.prog X.w X.K X.mg X.base CX0 j f fd ps (spF K n F))(hr:Room k X.A)(DA:DefAt X.K X.mg x st f fd ps)(ha:QA K X (e::es) t m)(hF:∀ds hd z,F ds hd=some z->ds.length=n)
 (hjk:j<=k:=by decide) (hg:Gl X x:=by rfl) (hdb:(x==("__debug__":Str))=false:=by decide) (he:starEach (e::es) X.env=90::starEach es X.env:=by rfl) (hpl:(backTo pos (starEach es X.env)).any (·.1)=false:=by rfl):
 QE K X (.Call (.Name x p) (e::es) [] pos) (FI (spF K n F) [] E0 t) (D2 F m):=⟨VJ G hr DA ha.p hjk hg hdb he hpl,Tl ha.r hF⟩
def Wf{pos:Pos}:QPs K X pos [] [] [] []:=⟨X7,trivial⟩
def U0{pos:Pos}{k v:Expr}{ks:List (Option Expr)}{vs:List Expr}{tk tv:TE}{mk mv:ME}{trs:List (TE×TE)}{ms:List (ME×ME)}(hk:QE K X k tk mk)(hv:QE K X v tv mv)(hr:QPs K X pos ks vs trs ms):QPs K X pos (some k::ks) (v::vs) ((tk,tv)::trs) ((mk,mv)::ms):=⟨UG hk.p hv.p hr.p,hk.r,hv.r,hr.r⟩
def Wt{pos:Pos}{keys:List (Option Expr)}{values:List Expr}{trs:List (TE×TE)}{ms:List (ME×ME)}(h:QPs K X pos keys values trs ms)(hall:keys.all (·.isSome)=true:=by rfl)(hl:keys.length=values.length:=by rfl)(h0:keys≠[]:=by simp)
 (h15:keys.length<=15:=by decide):QE K X (.Dict keys values pos) (Pa trs) (M5 ms):=⟨XM h.p hall hl h0 h15,WG h.r⟩
def Wp{i:Nat}(hN:X.N.Nodup)(hi:X.N[i]?=some x)(hx:Loc X.env.scope x)(hf:X.fn x=true∨X.env.scope.names.lookup x=some .local:=by first|exact .inl rfl|exact .inr rfl|assumption):QG K X (.Name x pos) (EF i) (AD i):=⟨XG hN hi hx hf,KB⟩
def Wo:QGs K X [] Ul BF:=⟨XE,W3⟩
def U6{tg:TG}{tgs:TGs}{n:MG}{ns:MGs}(h1:QG K X e tg n)(h2:QGs K X es tgs ns)(hs:(assignEach (e::es) X.env).map (·.2)=assign e X.env::(assignEach es X.env).map (·.2):=by rfl):QGs K X (e::es) (Qd tg tgs) (AM n ns):=⟨UK h1.p h2.p hs,Ti h1.r h2.r⟩
def ZM{k n:Nat}{tgs:TGs}{ns:MGs}(hc:X.calm=true)(h:QGs K X es tgs ns)(hK:X.K=K:=by rfl)(hn:(assignEach es X.env).length=n:=by rfl)(hst:(assignEach es X.env).findIdx? (·.1)=none:=by rfl):QG K X (.Tuple es k pos) (Qc K n tgs) (BE n ns):=⟨XF K hc h.p hK hn hst,Yo h.r⟩
def ZK{tg:Expr}(h:QE K X e te me)(hK:X.K=K:=by rfl):QI K X tg e (QY K te) (An me):=⟨XC K h.p hK,Ym h.r⟩
def Wn{tg:Expr}(h:QE K X e te me)(hK:X.K=K:=by rfl):QI K X tg e (IF K te) (C6 me):=⟨Mz K h.p hK,W2 h.r⟩
def ZL{tg:Expr}(h:QN K X e te m)(hK:X.K=K:=by rfl):QI K X tg e (IF K te) (Fc m):=⟨Mz K h.p hK,Yn h.r⟩
def Wl{tg:Expr}{p:Pos}(hm:X.mg "range"=none)(ha:QA K X [a] t m)(hg:Gl X "range":=by rfl)(hs:starEach [a] X.env=[(false,eval a X.env)]:=by rfl):QI K X tg (.Call (.Name "range" p) [a] [] pos) (Qa t) (DL m):=⟨Ru hg hm ha.p hs,W1 ha.r⟩
def Wj{tg:Expr}{p:Pos}(hm:X.mg "range"=none)(ha:QA K X [a,b] t m)(hg:Gl X "range":=by rfl)(hs:starEach [a,b] X.env=[(false,eval a X.env),(false,eval b X.env)]:=by rfl)(hs2:starEach [b] X.env=[(false,eval b X.env)]:=by rfl):QI K X tg (.Call (.Name "range" p) [a,b] [] pos) (QZ t) (IC m):=⟨Rt hg hm ha.p hs hs2,W0 ha.r⟩
def ZO:QF K X [] T6 Bq:=⟨Zo,YY⟩
def ZN(h:QT K X c tA nA):QF K X [c] tA nA:=⟨Zn h.p,h.r⟩
def Wi{elt tg iter:Expr}{ifs:List Expr}{scope:Scope}{loc fr:List Str}{ix:List Nat}{wi:TI}{g:TG}{tf:TT}{te:TE}{mi:MI}{n:MG}{mf:MT}{mm:ME}(hc:X.calm=true)(S:CSc X scope fr ix)(hi:QI K X tg iter wi mi)
 (hg:∀s H ex,QG K (cCx X (loc++fr) scope s H ex) tg g n) (hf:∀s H ex,QF K (cCx X (loc++fr) scope s H ex) ifs tf mf) (he:∀s H ex,QE K (cCx X (loc++fr) scope s H ex) elt te mm)
 (hs:∀x,foldedSetIterable iter X.env x=pure x:=by intro _;rfl):QN K X 95 (GK loc.length ix wi g tf te) (Ad loc.length ix mi n mf mm):=
 ⟨XQ hc S hi.p (λs H ex=>(hg s H ex).p) (λs H ex=>(hf s H ex).p) (λs H ex=>(he s H ex).p) hs,Oc hi.r (hg X.s₀ X.H₀ []).r (hf X.s₀ X.H₀ []).r (he X.s₀ X.H₀ []).r⟩
def WW:QSs K X [] JK AU:=⟨X0,Oa⟩
def Tv{st:Stmt}{rest:List Stmt}{u v:TS}{m1 m2:MS}(h1:QS K X st u m1)(h2:QSs K X rest v m2):QSs K X (st::rest) (T8 u v) (A9 m1 m2):=⟨UC h1.p h2.p,Yd h1.r h2.r⟩
def WV{st:Stmt}{u:TS}{m1:MS}(h1:QS K X st u m1):QSs K X [st] u m1:=⟨Wz h1.p,h1.r⟩
def WZ:QS K X (.Pass pos) JK AU:=⟨X3,Oa⟩
def Wc(he:QE K X e te me)(hs:swapsWith e none pos.line X.env=pure false:=by rfl):QS K X (.Expr e pos) (PZ te) (B5 me):=⟨X4 he.p hs,Vu he.r⟩
def Z9(he:QE K X e te me):QS K X (.Return (some e) pos) (T9 te) (AN me):=⟨Zf he.p,Ye he.r⟩
def bY{a b:List Stmt}{u v:TS}{m1 m2:MS}(hc:QT K X c tA nA)(ha:QSs K X a u m1)(hb:QSs K X b v m2):QS K X (.If c a b pos) (TH tA u v) (Ae nA m1 m2):=⟨bp hc.p ha.p hb.p,bN hc.r ha.r hb.r⟩
def Tz{st:Stmt}:QS K X st MM Bh:=⟨UE,TY⟩
def ZB{tg:Expr}{g:TG}{n:MG}(he:QE K X e te me)(hg:QG K X tg g n)(hs:swapsWithSole [tg] e pos.line X.env=pure false:=by rfl)(hw:swappedStores [tg] e X.env=pure none:=by rfl)
 (h1:(assignEach [tg] X.env).map (·.2)=[assign tg X.env]:=by rfl):QS K X (.Assign [tg] e pos) (Ey te g) (Ir me n):=⟨Rq he.p hg.p hs hw h1,Mm he.r hg.r⟩
def Z8{i:Nat}{pos':Pos}(hN:X.N.Nodup)(hi:X.N[i]?=some x)(hx:Loc X.env.scope x)(he:QE K X e te me)(hs:swapsWith e (some (.Name x pos')) pos.line X.env=pure false:=by rfl)(hf:X.fn x=true∨X.env.scope.names.lookup x=some .local:=by first|exact .inl rfl|exact .inr rfl|assumption):
 QS K X (.Assign [.Name x pos'] e pos) (Ey te (EF i)) (AI i me):=⟨Ze hN hi hx he.p hs hf,Mm he.r KB⟩
def WY{i:Nat}{y:Str}{elt tg iter:Expr}{ifs:List Expr}{scope:Scope}{spos py:Pos}{loc fr:List Str}{ix:List Nat}{wi:TI}{g:TG}{tf:TT}{te:TE}{mi:MI}{n:MG}{mf:MT}{mm:ME}(hN:X.N.Nodup)(hiN:X.N[i]?=some y)(hy:X.env.scope.names.lookup y=some .local)
 (hc:X.calm=true) (S:CSc X scope fr ix) (hi:QI K X tg iter wi mi)
 (hg:∀s H ex,QG K (cCx X (loc++fr) scope s H ex) tg g n) (hf:∀s H ex,QF K (cCx X (loc++fr) scope s H ex) ifs tf mf) (he:∀s H ex,QE K (cCx X (loc++fr) scope s H ex) elt te mm)
 (hsw:swapsWith 95 (some (.Name y py)) spos.line X.env=pure true:=by rfl) (hs:∀x,foldedSetIterable iter X.env x=pure x:=by intro _;rfl):
 QS K X (.Assign [.Name y py] 95 spos) (Ey (GK loc.length ix wi g tf te) (EF i)) (AI i (Au (Ad loc.length ix mi n mf mm))):=
 ⟨X2 hN hiN hy hc S hi.p (λs H ex=>(hg s H ex).p) (λs H ex=>(hf s H ex).p) (λs H ex=>(he s H ex).p) hsw hs,Mm (Rg (Oc hi.r (hg X.s₀ X.H₀ []).r (hf X.s₀ X.H₀ []).r (he X.s₀ X.H₀ []).r)) KB⟩
def Wd{o i value:Expr}{pos':Pos}{td ty tv:TE}{md my mv:ME}(hu:X.A.units+1<cLine)(ho:QE K X o td md)(hi:QE K X i ty my)(hv:QE K X value tv mv)(hs:swapsWith value (some (.Subscript o i pos')) pos.line X.env=pure false:=by rfl):
 QS K X (.Assign [.Subscript o i pos'] value pos) (Pr td ty tv) (FO md my mv):=⟨X5 hu ho.p hi.p hv.p hs,Vv ho.r hi.r hv.r⟩
def Wa{o i value:Expr}{pos':Pos}{to ti tv:TE}{mo mi mv:ME}(ho:QE K X o to mo)(hi:QE K X i ti mi)(hv:QE K X value tv mv)(hs:swapsWithSole [.Subscript o i pos'] value pos.line X.env=pure false:=by rfl)(hw:swappedStores [.Subscript o i pos'] value X.env=pure none:=by rfl)
 (h1:(assignEach [.Subscript o i pos'] X.env).map (·.2)=[assign (.Subscript o i pos') X.env]:=by rfl)
 (ha:∀v,assign (.Subscript o i pos') X.env v=(do
  let ov <- holding [v] (eval o X.env)
  let iv <- holding [v,ov] (eval i X.env)
  standAt pos'
  holding [v,ov,iv] (setItem ov iv v)
  release [v,ov,iv] []):=by intro _;rfl):QS K X (.Assign [.Subscript o i pos'] value pos) (Ey tv (Uj to ti JW)) (Dg mo mi mv):=⟨Rq hv.p (Zm ho.p hi.p MY ha) hs hw h1,Vs ho.r hi.r hv.r⟩
def ZA{tg iter:Expr}{body:List Stmt}{wi:TI}{g:TG}{tb:TS}{mi:MI}{n:MG}{mb:MS}(hc:X.calm=true)(hi:QI K X tg iter wi mi)(hg:QG K X tg g n)(hb:QSs K X body tb mb)(hp:PassesOwn 69 X.A X.env X.xe:=by exact PassesOwn.never)
 (hs:∀x,foldedSetIterable iter X.env x=pure x:=by intro _;rfl):QS K X (.For tg iter body [] pos) (TJ wi g tb) (Bb mi n mb):=⟨Zh hp hc hi.p hg.p hb.p hs,Yg hi.r hg.r hb.r⟩
def Tx{body:List Stmt}{tb:TS}{mb:MS}(hc:QT K X c tA nA)(hb:QSs K X body tb mb)(hp:PassesOwn 69 X.A X.env X.xe:=by exact PassesOwn.never):QS K X (.While c body [] pos) (ML tA tb) (F4 nA mb):=⟨UD hp hc.p hb.p,TX hc.r hb.r⟩
end
def XX{P:Program}{w:World}{K:Frag}{mg:Str->Option Value}{base:Heap}{x:Str}{st:Stmt}{f:Addr}{fd:FuncData}{N ps:List Str}{j:Nat}{m:MS}(DA:DefAt K mg x st f fd ps)(S:FnScope N ps (AA st))
 (h:∀(cdv:Value) (A:Around) (outer:List Env) (s:Shared) (H:Hp) (E:XK),Room j (A.deeper (envOfC x (AA st) 66 f cdv))->∃t,QSs K (Fp CX0 P w K mg base N x (AA st) f cdv A outer s H E).nox (BR st) t m):
 FnOk P w K mg base CX0 (j+1) f fd ps (spF K ps.length (mkF ps.length N.length m)):=by
 refine DA.fn.ok S (λvs H Q E h=>h.1) (λcdv A outer s H vs Q E hr hs=>?_);obtain⟨t,q⟩:=h cdv A outer s H E hr;exact⟨t,q.p,OU q.r hs⟩
section
variable{X:Cx}{pins:List 81}{σ:List (Option V)}{H H':Hp}{s:Shared}{h':Heap}
def Inv.turns{tk:Nat}{fp:List Addr}(I:Inv X pins σ H s)(k:∀b o,b∉fp->s.heap.get? b=some o->h'.get? b=some o)(hf:∀b∈fp,FpOk X pins H b):Inv X pins σ H { s with heap:=h',toks:=tk }:=by
 have out:∀b u,H b=some u->b∉fp:=λb u e z=>by rw[(hf b z).1]at e;cases e
 have hL:X.env.locals∉fp:=λz=>(hf _ z).2.1 rfl;refine I.step (g':=s.gens) (d':=s.drawn) (ch:=fp) (λb hb=>⟨(hf b hb).2.2.2.1,(hf b hb).2.1,(hf b hb).2.2.2.2.1,(hf b hb).2.2.2.2.2⟩) (λb o _ _ hc e _=>k b o hc e) (λb o _ _ hc e _=>⟨o.slots,k b o hc e⟩) (λ_ _ _ _ n=>n)
  (λb o hc e=>⟨o,k b o hc e⟩) (λ_ _ e=>e) (λ_ _ _ e=>e) (λb ps e=>⟨#[],by rw[e];simp⟩) (λm hm=>?_) (λb u e=>?_) I.bare
 .obtain⟨o,es,ep,ho,r⟩:=hm;exact⟨o,es,ep,k _ o hL ho,r⟩
 .refine(I.hok b u e).stay (λc v hc q=>k c v ?_ q) (λ_ q=>q) λ_ _ q=>q;rcases hc with z|z
  .rw[z];exact out b u e
  .exact out c _ z
end
def Inv.turnsL{X:Cx}{pins:List 81}{σ:List (Option V)}{H:Hp}{s:Shared}{h':Heap}{tk:Nat}{fp:List Addr}{a:Addr}{o:HO}(I:Inv X pins σ H s)(k:∀b o,b∉fp->s.heap.get? b=some o->h'.get? b=some o)(hf:∀b∈fp,FpOk X pins H b)(ha:66<=a)(new:ObjOk X.prog X.w (upd H a o) h' a o):
 Inv X pins σ (upd H a o) { s with heap:=h',toks:=tk }:=by
 have out:∀b u,H b=some u->b∉fp:=λb u e z=>by rw[(hf b z).1]at e;cases e
 have hL:X.env.locals∉fp:=λz=>(hf _ z).2.1 rfl;have fr:H a=none:=I.hok.fresh ha;refine I.step (g':=s.gens) (d':=s.drawn) (ch:=fp) (λb hb=>⟨(hf b hb).2.2.2.1,(hf b hb).2.1,(hf b hb).2.2.2.2.1,(hf b hb).2.2.2.2.2⟩) (λb o _ _ hc e _=>k b o hc e) (λb o _ _ hc e _=>⟨o.slots,k b o hc e⟩)
  (λb o _ e n=>by rw[AE (gv (gU (Heap.lt_size e) ha))];exact n) (λb o hc e=>⟨o,k b o hc e⟩) (λb xs e=>by rw[AE (AR e fr)];exact e) (λb o u e=>by rw[AE (AR e fr)];exact e)
  (λb ps e=>⟨#[],by rw[AE (AR e fr),e];simp⟩) (λm hm=>?_) (λb u e=>?_) I.bare
 .obtain⟨o,es,ep,ho,r⟩:=hm;exact⟨o,es,ep,k _ o hL ho,r⟩
 .by_cases hb:b=a
  .subst hb;rw[AK]at e;cases e;exact new
  .rw[AE hb]at e;refine(I.hok b u e).stay (λc v hc q=>k c v ?_ q) (λc q=>by rw[AE (AR q fr)];exact q) λc xs q=>by rw[AE (AR q fr)];exact q
   rcases hc with z|z
   .rw[z];exact out b u e
   .exact out c _ z
def RowI(tp:Bool)(h:Heap)(it l:Addr)(k:Nat):Prop:=match tp with
 |true=>h.IsTupleIter it l k
 |false=>h.IsListIter it l k
def RowL(tp:Bool)(h:Heap)(l:Addr)(xs:Array Value):Prop:=match tp with
 |true=>h.IsTuple l xs
 |false=>h.IsList l xs
theorem RowI.at{tp:Bool}{h h':Heap}{it l:Addr}{k:Nat}(x:RowI tp h it l k)(e:∀o,h.get? it=some o->h'.get? it=some o):RowI tp h' it l k:=by
 cases tp with
 |true=>exact Heap.IsTupleIter.at x e
 |false=>exact Heap.IsListIter.at x e
def RowL.at{tp:Bool}{h h':Heap}{l:Addr}{xs:Array Value}(x:RowL tp h l xs)(e:∀o,h.get? l=some o->h'.get? l=some o):RowL tp h' l xs:=by
 cases tp with
 |true=>obtain⟨o,e1,r⟩:=(show h.IsTuple l xs from x);exact⟨o,e _ e1,r⟩
 |false=>obtain⟨o,e1,r⟩:=(show h.IsList l xs from x);exact⟨o,e _ e1,r⟩
def RowI.obj{tp:Bool}{h:Heap}{it l:Addr}{k:Nat}(x:RowI tp h it l k):∃o,h.get? it=some o/\o.data=.fields #[.ref l,.int k 0]:=by
 cases tp with
 |true=>obtain⟨o,e,_,d⟩:=(show h.IsTupleIter it l k from x);exact⟨o,e,d⟩
 |false=>obtain⟨o,e,_,d⟩:=(show h.IsListIter it l k from x);exact⟨o,e,d⟩
def RowL.obj{tp:Bool}{h:Heap}{l:Addr}{xs:Array Value}(x:RowL tp h l xs):∃o n,h.get? l=some o/\o.data=.seq xs n:=by
 cases tp with
 |true=>obtain⟨o,e,_,n,d⟩:=(show h.IsTuple l xs from x);exact⟨o,n,e,d⟩
 |false=>obtain⟨o,e,_,n,d⟩:=(show h.IsList l xs from x);exact⟨o,n,e,d⟩
section
variable{prog:Program}{w:World}{A:Around}{E:Value->Shared->Prop}{s:Shared}{it l:Addr}{k:Nat}{xs:Array Value}{x:Value}
def tup_next(hit:s.heap.IsTupleIter it l k)(hl:s.heap.IsTuple l xs)(hx:xs[k]?=some x){Q:Value->Shared->Prop}(hQ:∀g,g.IsTupleIter it l (k+1)->Heap.SameBut it s.heap g->Q x { s with heap:=g }):
 wpAny 97 A (Builtin.SmallTypes.nextOf (.ref it)) Q E s:=by
 obtain⟨o,eo,ec,ed⟩:=id hit;obtain⟨ol,el,_,nl,edl⟩:=hl;unfold Builtin.SmallTypes.nextOf;refine gb (ji (name:=Str.ofString "__next__") hit.typeIs PyProof.Rows.slot_tupleiter_next (j7 PyProof.Rows.slot_tupleiter_next hit.typeIs PyProof.Rows.entry_tupleiter_next ?_ (PyProof.Rows.args_tupleiter_next _)));show wpAny _ _ (field (.ref it) 0 >>= _) _ _ s;refine gb (iq eo ed (x:=.ref l) rfl ?_);show wpAny _ _ (if(Value.ref l==Value.none)=true then _ else _) _ _ s;rw[gf (show ¬ (Value.ref l==Value.none)=true from Bool.false_ne_true)];show wpAny _ _ (field (.ref it) 1 >>= _) _ _ s;refine gb (iq eo ed (x:=.int k 0) rfl ?_);show wpAny _ _ (seqItems? (.ref l) >>= _) _ _ s;refine gb (i8 el edl ?_);simp only[gV,hx];refine gb (wpAny_setField eo ed 77 (gh ⟨x,rfl,gh (hQ _ ⟨_,Heap.get?_update_self _ eo (Obj.isFreed_of_fields (Obj.data_mapFields ed _)),(Obj.cls_mapFields ..).trans ec,?_⟩ (Heap.SameBut.update ..))⟩));rw[Obj.data_mapFields ed];simp[rawInt]
def tup_stop(hh:A.handled=none)(hit:s.heap.IsTupleIter it l k)(hl:s.heap.IsTuple l xs)(hx:xs[k]?=none){Q:Value->Shared->Prop}(hE:∀g e,Heap.ExtBut it s.heap g->(∃o,g.get? e=some o/\o.cls=.type "StopIteration")->E (.ref e) { s with heap:=g }):
 wpAny 97 A (Builtin.SmallTypes.nextOf (.ref it)) Q E s:=by
 obtain⟨o,eo,ec,ed⟩:=id hit;obtain⟨ol,el,_,nl,edl⟩:=hl;unfold Builtin.SmallTypes.nextOf;refine gb (ji (name:=Str.ofString "__next__") hit.typeIs PyProof.Rows.slot_tupleiter_next (j7 PyProof.Rows.slot_tupleiter_next hit.typeIs PyProof.Rows.entry_tupleiter_next ?_ (PyProof.Rows.args_tupleiter_next _)));show wpAny _ _ (field (.ref it) 0 >>= _) _ _ s;refine gb (iq eo ed (x:=.ref l) rfl ?_);show wpAny _ _ (if(Value.ref l==Value.none)=true then _ else _) _ _ s;rw[gf (show ¬ (Value.ref l==Value.none)=true from Bool.false_ne_true)];show wpAny _ _ (field (.ref it) 1 >>= _) _ _ s;refine gb (iq eo ed (x:=.int k 0) rfl ?_);show wpAny _ _ (seqItems? (.ref l) >>= _) _ _ s;refine gb (i8 el edl ?_);simp only[gV,hx];refine gb (wpAny_rule (gb (wpAny_setField eo ed 77 ?_)));show wpAny _ _ (newExc (.type "StopIteration") [] >>= _) _ _ _;refine gb ?_;simp only[newExc,newTuple];refine gb (ja ?_ (by size_fits));refine gb (m:=firstArgMember _ _) (wpAny_of_eq (a:=Value.none) (by first|rfl|(simp only[firstArgMember];rfl)) ?_);refine ja ?_ (by size_fits);simp only[raiseNew];refine gb (wpAny_handled ?_)
 first|rw[show A.in1.handled=none from hh]|rw[hh]
 exact gb (gh (wpAny_throw (hE _ _ (((Heap.SameBut.update ..).extBut.push _).push _) ⟨_,89 _ rfl,rfl⟩)))
def Ig{tp:Bool}(hit:RowI tp s.heap it l k)(hl:RowL tp s.heap l xs)(hx:xs[k]?=some x){Q:Value->Shared->Prop}(hQ:∀g,RowI tp g it l (k+1)->Heap.SameBut it s.heap g->Q x { s with heap:=g }):
 wpAny 97 A (Builtin.SmallTypes.nextOf (.ref it)) Q E s:=by
 cases tp with
 |true=>exact tup_next hit hl hx hQ
 |false=>exact wpAny_nextOf_list_item hit hl hx hQ
def Mn{tp:Bool}(hh:A.handled=none)(hit:RowI tp s.heap it l k)(hl:RowL tp s.heap l xs)(hx:xs[k]?=none){Q:Value->Shared->Prop}(hE:∀g e,Heap.ExtBut it s.heap g->(∃o,g.get? e=some o/\o.cls=.type "StopIteration")->E (.ref e) { s with heap:=g }):
 wpAny 97 A (Builtin.SmallTypes.nextOf (.ref it)) Q E s:=by
 cases tp with
 |true=>exact tup_stop hh hit hl hx hE
 |false=>exact wpAny_nextOf_list_end hh hit hl hx hE
end
structure ZAt(t1 t2:Bool)(h:Heap)(z a b i1 i2 l1 l2:Addr)(f0:Value)(j k:Nat):Prop where
 z:IsZip h z a b f0
 p:IsPair h a (.ref i1) (.ref i2)
 o:∃u v,IsPair h b u v
 r1:RowI t1 h i1 l1 j
 r2:RowI t2 h i2 l2 k
structure ZNe(z a b i1 i2 l1 l2:Addr):Prop where
 az:a≠z
 bz:b≠z
 iz:i1≠z
 jz:i2≠z
 ab:a≠b
 ai:a≠i1
 aj:a≠i2
 bi:b≠i1
 bj:b≠i2
 ij:i1≠i2
 lz:l1≠z
 lb:l1≠b
 li:l1≠i1
 lj:l1≠i2
 mz:l2≠z
 mb:l2≠b
 mi:l2≠i1
 mj:l2≠i2
section
variable{prog:Program}{w:World}{A:Around}{E:Value->Shared->Prop}{s:Shared}{t1 t2:Bool}{z a b i1 i2 l1 l2:Addr}{j k:Nat}{xs ys:Array Value}{x y:Value}
abbrev Qp(z b i1 i2:Addr)(h h':Heap):Prop:=∀c o,c≠z->c≠b->c≠i1->c≠i2->h.get? c=some o->h'.get? c=some o
def Sn(N:ZNe z a b i1 i2 l1 l2)(Z:ZAt t1 t2 s.heap z a b i1 i2 l1 l2 .none j k)(hl1:RowL t1 s.heap l1 xs)(hl2:RowL t2 s.heap l2 ys)(hx:xs[j]?=some x)(hy:ys[k]?=some y){Q:Value->Shared->Prop}
 (hQ:∀g,ZAt t1 t2 g z a b i1 i2 l1 l2 (rawInt 66) (j+1) (k+1)->IsPair g 66 x y->Qp z b i1 i2 s.heap g->Q (.ref 66) { s with heap:=g }):
 wpAny 97 A (Builtin.«zip.__next__» ⟨[.ref z],[]⟩) (λfin s'=>∃v,fin=.done (.ret v)/\Q v s') E s:=by
 obtain⟨hz,hp,⟨u,v,hb⟩,q1,q2⟩:=Z;show wpAny _ _ (field (.ref z) 2 >>= _) _ _ _;refine gb (iq hz rfl (x:=.bool false) rfl ?_);show wpAny _ _ (field (.ref z) 3 >>= _) _ _ _;refine gb (iq hz rfl (x:=.ref a) rfl (gb (i8 hp rfl ?_)));show wpAny _ _ (Builtin.SmallTypes.ownedTupleIsFree (.ref z) >>= _) _ _ _;unfold Builtin.SmallTypes.ownedTupleIsFree;refine gb (gb (iq hz rfl (x:=.none) rfl (gh ?_)));simp only[gw];refine gb (wpAny_rule (gb (iq hz rfl (x:=.ref b) rfl ?_)));refine gb (jb hz 77 λg1 z1 s1=>?_);have z1:IsZip g1 z a b .ellipsis:=z1;refine gb ?_;simp only[iS,List.zipIdx_nil,List.forIn_cons,List.forIn_nil];refine gb (gb (wpAny_onRaise ?_));show wpAny _ _ (Builtin.SmallTypes.nextOf (.ref i1) >>= _) _ _ _;refine gb (Ig (s:={ s with heap:=g1 }) (q1.at λo e=>s1.extBut _ _ N.iz e) (hl1.at λo e=>s1.extBut _ _ N.lz e) hx λg2 r2 s2=>gh ?_);have b2:IsPair g2 b u v:=s2.extBut _ _ N.bi (s1.extBut _ _ N.bz hb);refine gb (i8 b2 rfl (gb (wpAny_updateSeq_pair b2 λg3 b3 s3=>?_)));have b3:IsPair g3 b x v:=b3;refine gb (ir (gh (gb (gb (wpAny_onRaise ?_)))));show wpAny _ _ (Builtin.SmallTypes.nextOf (.ref i2) >>= _) _ _ _;have q3:RowI t2 g3 i2 l2 k:=q2.at λo e=>s3.extBut _ _ N.bj.symm (s2.extBut _ _ N.ij.symm (s1.extBut _ _ N.jz e));have m3:RowL t2 g3 l2 ys:=hl2.at λo e=>s3.extBut _ _ N.mb (s2.extBut _ _ N.mi (s1.extBut _ _ N.mz e));refine gb (Ig (s:={ s with heap:=g3 }) q3 m3 hy λg4 r4 s4=>gh ?_);have b4:IsPair g4 b x v:=s4.extBut _ _ N.bj b3;refine gb (i8 b4 rfl (gb (wpAny_updateSeq_pair b4 λg5 b5 s5=>?_)));have b5:IsPair g5 b x y:=b5;refine gb (ir (gh (gh (gb (i8 b5 rfl (gb (wpAny_newTuple ?_)))))));have sz:g5.objs.size=s.heap.objs.size:=by rw[s5.1,s4.1,s3.1,s2.1,s1.1]
 have z5:IsZip g5 z a b .ellipsis:=s5.extBut _ _ N.bz.symm (s4.extBut _ _ N.jz.symm (s3.extBut _ _ N.bz.symm (s2.extBut _ _ N.iz.symm z1)));have kp:Qp z b i1 i2 s.heap g5:=λc o c1 c2 c3 c4 e=>s5.extBut _ _ c2 (s4.extBut _ _ c4 (s3.extBut _ _ c2 (s2.extBut _ _ c3 (s1.extBut _ _ c1 e))));have w1:RowI t1 g5 i1 l1 (j+1):=r2.at λo e=>s5.extBut _ _ N.bi.symm (s4.extBut _ _ N.ij (s3.extBut _ _ N.bi.symm e));have w2:RowI t2 g5 i2 l2 (k+1):=r4.at λo e=>s5.extBut _ _ N.bj.symm e;have zlt:=91 z5;show wpAny _ _ (Builtin.SmallTypes.ownedTupleHandOut (.ref z) (.ref g5.objs.size) >>= _) _ _ _;unfold Builtin.SmallTypes.ownedTupleHandOut;have z6:IsZip (g5.push { cls:=.type "tuple",data:=.seq #[x,y] }) z a b .ellipsis:=73 _ z5;refine gb (gb (jb z6 77 λg7 z7 s7=>?_));have z7:IsZip g7 z a b (rawInt g5.objs.size):=z7;refine jb z7 77 λg8 z8 s8=>gh ⟨_,rfl,?_⟩;have z8:IsZip g8 z a b (rawInt g5.objs.size):=z8;have up:∀c o,c≠z->g5.get? c=some o->g8.get? c=some o:=λc o c1 e=>s8.extBut _ _ c1 (s7.extBut _ _ c1 (73 _ e));have t8:IsPair g8 g5.objs.size x y:=s8.extBut _ _ (i5 zlt) (s7.extBut _ _ (i5 zlt) (89 _ rfl));show Q (.ref g5.objs.size) _;rw[sz]at z8 t8 ⊢;exact hQ g8 ⟨z8,up _ _ N.az (kp _ _ N.az N.ab N.ai N.aj hp),⟨_,_,up _ _ N.bz b5⟩,w1.at λo e=>up _ o N.iz e,w2.at λo e=>up _ o N.jz e⟩ t8 λc o c1 c2 c3 c4 e=>up c o c1 (kp c o c1 c2 c3 c4 e)
def Sm(hh:A.handled=none)(N:ZNe z a b i1 i2 l1 l2)(Z:ZAt t1 t2 s.heap z a b i1 i2 l1 l2 .none j k)(hl1:RowL t1 s.heap l1 xs)(hl2:RowL t2 s.heap l2 ys)(hend:xs[j]?=none∨ys[k]?=none){Q:Fin->Shared->Prop}
 (hE:∀g e,Qp z b i1 i2 s.heap g->(∃o,g.get? e=some o/\o.cls=.type "StopIteration")->E (.ref e) { s with heap:=g }):
 wpAny 97 A (Builtin.«zip.__next__» ⟨[.ref z],[]⟩) Q E s:=by
 obtain⟨hz,hp,⟨u,v,hb⟩,q1,q2⟩:=Z;show wpAny _ _ (field (.ref z) 2 >>= _) _ _ _;refine gb (iq hz rfl (x:=.bool false) rfl ?_);show wpAny _ _ (field (.ref z) 3 >>= _) _ _ _;refine gb (iq hz rfl (x:=.ref a) rfl (gb (i8 hp rfl ?_)));show wpAny _ _ (Builtin.SmallTypes.ownedTupleIsFree (.ref z) >>= _) _ _ _;unfold Builtin.SmallTypes.ownedTupleIsFree;refine gb (gb (iq hz rfl (x:=.none) rfl (gh ?_)));simp only[gw];refine gb (wpAny_rule (gb (iq hz rfl (x:=.ref b) rfl ?_)));refine gb (jb hz 77 λg1 z1 s1=>?_);have z1:IsZip g1 z a b .ellipsis:=z1;refine gb ?_;simp only[iS,List.zipIdx_nil,List.forIn_cons,List.forIn_nil];refine gb (gb (wpAny_onRaise ?_));show wpAny _ _ (Builtin.SmallTypes.nextOf (.ref i1) >>= _) _ _ _;have o1:RowI t1 g1 i1 l1 j:=q1.at λo e=>s1.extBut _ _ N.iz e;have m1:RowL t1 g1 l1 xs:=hl1.at λo e=>s1.extBut _ _ N.lz e;cases hx:xs[j]? with
 |none=>
  refine gb (Mn (s:={ s with heap:=g1 }) hh o1 m1 hx λg2 e s2 he=>?_);obtain⟨oe,he1,he2⟩:=he;have z2:IsZip g2 z a b .ellipsis:=s2 _ _ N.iz.symm z1;have ne:e≠z:=λq=>by subst q;rw[z2]at he1;cases he1;simp at he2
  exact jb z2 77 λg3 _ s3=>hE g3 e (λc o c1 _ c3 _ q=>s3.extBut _ _ c1 (s2 _ _ c3 (s1.extBut _ _ c1 q))) ⟨oe,s3.extBut _ _ ne he1,he2⟩
 |some x=>
  have hy:ys[k]?=none:=by
   rcases hend with q|q
   .rw[hx]at q;cases q
   .exact q
  refine gb (Ig (s:={ s with heap:=g1 }) o1 m1 hx λg2 r2 s2=>gh ?_);have b2:IsPair g2 b u v:=s2.extBut _ _ N.bi (s1.extBut _ _ N.bz hb);refine gb (i8 b2 rfl (gb (wpAny_updateSeq_pair b2 λg3 b3 s3=>?_)));refine gb (ir (gh (gb (gb (wpAny_onRaise ?_)))));show wpAny _ _ (Builtin.SmallTypes.nextOf (.ref i2) >>= _) _ _ _;have q3:RowI t2 g3 i2 l2 k:=q2.at λo e=>s3.extBut _ _ N.bj.symm (s2.extBut _ _ N.ij.symm (s1.extBut _ _ N.jz e));have m3:RowL t2 g3 l2 ys:=hl2.at λo e=>s3.extBut _ _ N.mb (s2.extBut _ _ N.mi (s1.extBut _ _ N.mz e));refine gb (Mn (s:={ s with heap:=g3 }) hh q3 m3 hy λg4 e s4 he=>?_);obtain⟨oe,he1,he2⟩:=he;have z4:IsZip g4 z a b .ellipsis:=s4 _ _ N.jz.symm (s3.extBut _ _ N.bz.symm (s2.extBut _ _ N.iz.symm z1));have ne:e≠z:=λq=>by subst q;rw[z4]at he1;cases he1;simp at he2
  exact jb z4 77 λg5 _ s5=>hE g5 e (λc o c1 c2 c3 c4 q=>s5.extBut _ _ c1 (s4 _ _ c4 (s3.extBut _ _ c2 (s2.extBut _ _ c3 (s1.extBut _ _ c1 q))))) ⟨oe,s5.extBut _ _ ne he1,he2⟩
end
def SqS(K:Frag)(tp:Bool)(H:Hp)(a:Addr)(xs:List V):Prop:=match tp with
 |true=>SqT K H a xs
 |false=>SqL K H a xs
noncomputable def Itz(K:Frag)(t1 t2:Bool)(a b:Addr):It:=
 ⟨λi H=>∃xs ys x y,SqS K t1 H a xs/\SqS K t2 H b ys/\xs[i]?=some x/\ys[i]?=some y,
  λi H x H'=>∃p u v,H p=none/\H'=upd H p (.tup [u,v])/\x=.ref p/\(∀xs,SqS K t1 H a xs->xs[i]?=some u)/\∀ys,SqS K t2 H b ys->ys[i]?=some v,
  λi H=>∃xs ys,SqS K t1 H a xs/\SqS K t2 H b ys/\(xs.length<=i∨ys.length<=i)⟩
section
variable{X:Cx}{pins:List 81}{σ:List (Option V)}{H:Hp}{s:Shared}
def Inv.row{tp:Bool}{a:Addr}{xs:List V}(I:Inv X pins σ H s)(h:SqS X.K tp H a xs):∃its:List Value,Vals xs its/\RowL tp s.heap a its.toArray/\xs.length<=sizeLine:=by
 cases tp with
 |true=>obtain⟨its,r,p,z⟩:=I.tuple h;exact⟨its,r,(show s.heap.IsTuple a its.toArray from p),z⟩
 |false=>obtain⟨its,r,p,z⟩:=I.list h;exact⟨its,r,p.isList,z⟩
def Inv.row_inj{tp:Bool}{a:Addr}{xs ys:List V}(I:Inv X pins σ H s)(h:SqS X.K tp H a xs)(h':SqS X.K tp H a ys):xs=ys:=by
 cases tp with
 |true=>exact I.tuple_inj h h'
 |false=>exact I.list_inj h h'
end
def RowL.lt{tp:Bool}{h:Heap}{l:Addr}{xs:Array Value}(x:RowL tp h l xs):l<h.objs.size:=by
 obtain⟨o,n,e,_⟩:=x.obj;exact 91 e
def YD{M:Model}{A:Around}{E:Value->Shared->Prop}{s:Shared}{elts:List Expr}{x1}{pos:Pos}{z a b T:Addr}{Q:Unit->Shared->Prop}(hz:IsZip s.heap z a b (rawInt T)){prog:Program}{w:World}
 (hQ:∀g,IsZip g z a b .none->Heap.SameBut z s.heap g->Q () { s with heap:=g }):wpAny 97 A (letOwnedTupleGo (.Tuple elts x1 pos) (.ref z) (.ref T)) Q E s:=wpAny_letOwnedTupleGo_zip hz hQ
def T2{P:Program}{w:World}{K:Frag}{elts:List Expr}{kk:Nat}{tpos:Pos}{t1 t2:Bool}{z a b i1 i2 l1 l2:Addr}(N:ZNe z a b i1 i2 l1 l2):Turn P w K (.Tuple elts kk tpos) (Itz K t1 t2 l1 l2) [z,a,b,i1,i2] z (λi h=>ZAt t1 t2 h z a b i1 i2 l1 l2 .none i i) where
 mem:=by simp
 obj:=λi h st c hc=>by
  obtain⟨hz,hp,⟨u,v,hb⟩,q1,q2⟩:=st;simp only[gj,hZ,hJ]at hc;rcases hc with rfl|rfl|rfl|rfl|rfl
  .exact⟨_,hz,λv z=>by cases(show Data.fields _=Data.cell v from z)⟩
  .exact⟨_,hp,λv z=>by cases(show Data.seq _ _=Data.cell v from z)⟩
  .exact⟨_,hb,λv z=>by cases(show Data.seq _ _=Data.cell v from z)⟩
  .obtain⟨o,e,d⟩:=q1.obj;exact⟨o,e,λv z=>by rw[d]at z;cases z⟩
  .obtain⟨o,e,d⟩:=q2.obj;exact⟨o,e,λv z=>by rw[d]at z;cases z⟩
 keep:=λi h h' st k=>by
  obtain⟨hz,hp,⟨u,v,hb⟩,q1,q2⟩:=st;exact⟨k z 77 _ hz,k a 77 _ hp,⟨u,v,k b 77 _ hb⟩,q1.at λo e=>k i1 77 o e,q2.at λo e=>k i2 77 o e⟩
 item:=by
  intro X hP hw hK hc i pins s σ H E I hf st hg;subst hP hw hK;obtain⟨xs,ys,x,y,h1,h2,hx,hy⟩:=hg;obtain⟨ix,rx,px,zx⟩:=I.row h1;obtain⟨iy,ry,py,zy⟩:=I.row h2;obtain⟨u,hu,ru⟩:=rx.get hx;obtain⟨v,hv,rv⟩:=ry.get hy;have hT:s.TypeIs (.ref z) "zip":=⟨_,st.z,rfl⟩
  unfold pyNext;refine gb (wpAny_attempt (ji (name:=Str.ofString "__next__") hT F.slot_zip_next (j7 F.slot_zip_next hT F.entry_zip_next
   (Sn N st px py (x:=u) (y:=v) (by simpa using hu) (by simpa using hv) λg Z g5 kp=>gh ⟨_,rfl,?_⟩) (F.args_zip_next_1 _))))
  refine YD (M:=model X.prog X.w) (s:={ s with heap:=g }) Z.z λg' z' sb=>?_;have kp2:∀c o,c∉[z,a,b,i1,i2]->s.heap.get? c=some o->g'.get? c=some o:=λc o nc e=>by
   simp only[gj,hZ,hJ,not_or]at nc;exact sb.extBut _ _ nc.1 (kp c o nc.1 nc.2.2.1 nc.2.2.2.1 nc.2.2.2.2 e)
  have hTz:66≠z:=i5 (91 st.z);have hpair:IsPair g' 66 u v:=sb.extBut _ _ hTz g5;have fresh:H 66=none:=I.hok.fresh (gg _);have I2:Inv X pins σ (upd H 66 (.tup [x,y])) { s with heap:=g' }:=I.turnsL (tk:=s.toks) (o:=.tup [x,y]) kp2 hf (gg _)
   (show ObjOk X.prog X.w _ g' _ (.tup [x,y])from⟨by show 2<=sizeLine;decide,[u,v],.cons ru (.cons rv .nil),⟨_,hpair,rfl,⟨_,rfl⟩,rfl⟩⟩)
  refine⟨.ref 66,_,I2,rfl,⟨_,x,y,fresh,rfl,rfl,λxs' q=>by rw[I.row_inj q h1];exact hx,λys' q=>by rw[I.row_inj q h2];exact hy⟩,⟨z',?_,?_,?_,?_⟩,λc hc=>?_⟩
  .exact sb.extBut _ _ N.az Z.p
  .obtain⟨p,q,e⟩:=Z.o;exact⟨p,q,sb.extBut _ _ N.bz e⟩
  .exact Z.r1.at λo e=>sb.extBut _ _ N.iz e
  .exact Z.r2.at λo e=>sb.extBut _ _ N.jz e
  .have lt:c<s.heap.objs.size:=by
    obtain⟨hz,hp,⟨u,v,hb⟩,q1,q2⟩:=st;simp only[gj,hZ,hJ]at hc;rcases hc with rfl|rfl|rfl|rfl|rfl
    .exact 91 hz
    .exact 91 hp
    .exact 91 hb
    .obtain⟨o,e,_⟩:=q1.obj;exact 91 e
    .obtain⟨o,e,_⟩:=q2.obj;exact 91 e
   rw[AE (gv lt)];exact(hf c hc).1
 done:=by
  intro X hP hw hK hc i pins s σ H E I hf st hg;subst hP hw hK;obtain⟨xs,ys,h1,h2,hend⟩:=hg;obtain⟨ix,rx,px,zx⟩:=I.row h1;obtain⟨iy,ry,py,zy⟩:=I.row h2;have l1':=rx.length;have l2':=ry.length;have hT:s.TypeIs (.ref z) "zip":=⟨_,st.z,rfl⟩
  unfold pyNext;refine gb (wpAny_attempt (ji (name:=Str.ofString "__next__") hT F.slot_zip_next (j7 F.slot_zip_next hT F.entry_zip_next
   (Sm (A:=X.A.in1) (show X.A.in1.handled=none from I.ok.hd hc) N st px py (hend.imp (λq=>by simp;omega) λq=>by simp;omega) λg e kp he=>?_) (F.args_zip_next_1 _))))
  obtain⟨o,ho,hcl⟩:=he;refine gb (wpAny_isInstance (T:="StopIteration") (b:=true) ⟨o,ho,hcl⟩ isSubtype_stop (gh ⟨rfl,?_⟩));exact I.turns (tk:=s.toks) (λc o nc e=>by
   simp only[gj,hZ,hJ,not_or]at nc;exact kp c o nc.1 nc.2.2.1 nc.2.2.2.1 nc.2.2.2.2 e) hf
 self:=λ_ _ _ _ _ st h=>wpAny_pyIter_zip st.z h
noncomputable abbrev ED(tp:Bool)(l:Addr):Obj:={ cls:=.type (match tp with|true=>"tuple_iterator" | false=>"list_iterator"),data:=.fields #[.ref l,.int 0 0] }
noncomputable abbrev zh1(t1:Bool)(h:Heap)(l1:Addr):Heap:=h.push (ED t1 l1)
noncomputable abbrev zh2(t1 t2:Bool)(h:Heap)(l1 l2:Addr):Heap:=(zh1 t1 h l1).push (ED t2 l2)
noncomputable abbrev zh3(t1 t2:Bool)(h:Heap)(l1 l2:Addr):Heap:=(zh2 t1 t2 h l1 l2).push { cls:=.type "tuple",data:=.seq #[.ref h.objs.size,.ref (zh1 t1 h l1).objs.size] }
noncomputable abbrev zh4(t1 t2:Bool)(h:Heap)(l1 l2:Addr):Heap:=(zh3 t1 t2 h l1 l2).push { cls:=.type "tuple",data:=.seq #[.none,.none] }
noncomputable abbrev zh5(t1 t2:Bool)(h:Heap)(l1 l2:Addr):Heap:=(zh4 t1 t2 h l1 l2).push { cls:=.type "zip",data:=.fields #[.none,.bool false,.bool false,.ref (zh2 t1 t2 h l1 l2).objs.size,.ref (zh3 t1 t2 h l1 l2).objs.size] }
set_option maxHeartbeats 4000000 in
def So(t1 t2:Bool)(l1 l2:Addr)(xs ys:Array Value):
 Meets (Builtin.«zip.__new__» ⟨[.type "zip",.ref l1,.ref l2],[]⟩) (λ_ R s=>RowL t1 s.heap l1 xs/\RowL t2 s.heap l2 ys/\R (.ok (.ret (.ref (zh4 t1 t2 s.heap l1 l2).objs.size))) { s with heap:=zh5 t1 t2 s.heap l1 l2 }):=
 .of_wp λprog w A R s h=>by
  obtain⟨hp,g,d,tk,os⟩:=s;obtain⟨q1,q2,h⟩:=h;have hsub:=sub_zip;have q2':RowL t2 (hp.push (ED t1 l1)) l2 ys:=q2.at λo e=>73 _ e;cases t1<;>cases t2
  .have p1:Heap.IsList (Shared.heap ⟨hp,g,d,tk,os⟩) l1 xs:=q1;have p2:Heap.IsList (Shared.heap ⟨hp.push (ED false l1),g,d,tk,os⟩) l2 ys:=q2'
   wp_walk using wpAny_pyIter_list p1,wpAny_pyIter_list p2
   exact⟨_,rfl,h⟩
  .have p1:Heap.IsList (Shared.heap ⟨hp,g,d,tk,os⟩) l1 xs:=q1;have p2:Heap.IsTuple (Shared.heap ⟨hp.push (ED false l1),g,d,tk,os⟩) l2 ys:=q2'
   wp_walk using wpAny_pyIter_list p1,wpAny_pyIter_tuple p2
   exact⟨_,rfl,h⟩
  .have p1:Heap.IsTuple (Shared.heap ⟨hp,g,d,tk,os⟩) l1 xs:=q1;have p2:Heap.IsList (Shared.heap ⟨hp.push (ED true l1),g,d,tk,os⟩) l2 ys:=q2'
   wp_walk using wpAny_pyIter_tuple p1,wpAny_pyIter_list p2
   exact⟨_,rfl,h⟩
  .have p1:Heap.IsTuple (Shared.heap ⟨hp,g,d,tk,os⟩) l1 xs:=q1;have p2:Heap.IsTuple (Shared.heap ⟨hp.push (ED true l1),g,d,tk,os⟩) l2 ys:=q2'
   wp_walk using wpAny_pyIter_tuple p1,wpAny_pyIter_tuple p2
   exact⟨_,rfl,h⟩
def VZ{n l1 l2:Addr}(h1:l1<n)(h2:l2<n):ZNe (n+4) (n+2) (n+3) n (n+1) l1 l2:=by
 have k1:@LT.lt Nat _ l1 n:=h1;have k2:@LT.lt Nat _ l2 n:=h2;constructor<;>(intro z;have z:@Eq Nat _ _:=z;omega)
def Ob{tp:Bool}{h:Heap}{a l:Addr}(e:h.get? a=some (ED tp l)):RowI tp h a l 0:=by
 cases tp with
 |true=>exact⟨_,e,rfl,rfl⟩
 |false=>exact⟨_,e,rfl,rfl⟩
section
variable{prog:Program}{w:World}{A:Around}{E:Value->Shared->Prop}{s:Shared}
def Sq{t1 t2:Bool}{l1 l2:Addr}{xs ys:Array Value}{Q:Value->Shared->Prop}(q1:RowL t1 s.heap l1 xs)(q2:RowL t2 s.heap l2 ys)
 (h:∀g,ZAt t1 t2 g (66+4) (66+2) (66+3) 66 (66+1) l1 l2 .none 0 0->(∀c o,s.heap.get? c=some o->g.get? c=some o)->Q (.ref (66+4)) { s with heap:=g }):
 wpAny 97 A (call (.type "zip") [.ref l1,.ref l2]) Q E s:=by
 refine callType_new F.called_zip 98 (F.typeCall_zip_2 _ _) (F.newCall_zip_2 _ _) (λobj=>F.args_object_init_3 obj _ _) F.entry_zip_new (So t1 t2 l1 l2 xs ys) ⟨q1,q2,?_⟩;have n1:(zh1 t1 s.heap l1).objs.size=66+1:=Heap.size_push ..;have n2:(zh2 t1 t2 s.heap l1 l2).objs.size=66+2:=by rw[Heap.size_push,n1]
 have n3:(zh3 t1 t2 s.heap l1 l2).objs.size=66+3:=by rw[Heap.size_push,n2]
 have n4:(zh4 t1 t2 s.heap l1 l2).objs.size=66+4:=by rw[Heap.size_push,n3]
 have up:∀{g:Heap} {c:Addr} {o x:Obj},g.get? c=some o->(g.push x).get? c=some o:=λe=>73 _ e;have e5:(zh5 t1 t2 s.heap l1 l2).get? (zh4 t1 t2 s.heap l1 l2).objs.size=some _:=89 _ rfl;have e4:(zh5 t1 t2 s.heap l1 l2).get? (zh3 t1 t2 s.heap l1 l2).objs.size=some _:=up (89 _ rfl);have e3:(zh5 t1 t2 s.heap l1 l2).get? (zh2 t1 t2 s.heap l1 l2).objs.size=some _:=up (up (89 _ rfl));have e2:(zh5 t1 t2 s.heap l1 l2).get? (zh1 t1 s.heap l1).objs.size=some (ED t2 l2):=up (up (up (89 _ (by cases t2<;>rfl))));have e1:(zh5 t1 t2 s.heap l1 l2).get? 66=some (ED t1 l1):=up (up (up (up (89 _ (by cases t1<;>rfl)))));show _/\_;rw[n2,n3,n4]at e5;rw[n1,n2]at e3;rw[n3]at e4;rw[n1]at e2;rw[n4];exact⟨⟨_,e5,rfl⟩,h _ ⟨e5,e3,⟨_,_,e4⟩,Ob e1,Ob e2⟩ λc o x=>up (up (up (up (up x))))⟩
end
noncomputable def QX(K:Frag)(t1 t2:Bool)(ta:TA):TI:=λσ H R=>ta σ H λvs H1=>∃a b xs ys,vs=[.ref a,.ref b]/\SqS K t1 H1 a xs/\SqS K t2 H1 b ys/\R (Itz K t1 t2 a b) H1
section
variable{X:Cx}
def Zj{t1 t2:Bool}{a b:Expr}{ta:TA}{elts:List Expr}{kk:Nat}{tpos p pos:Pos}(hg:Gl X "zip")(hm:X.mg "zip"=none)(ha:PA X [a,b] ta)(hs:starEach [a,b] X.env=[(false,eval a X.env),(false,eval b X.env)]:=by rfl)(hs2:starEach [b] X.env=[(false,eval b X.env)]:=by rfl):
 PI X (.Tuple elts kk tpos) (.Call (.Name "zip" p) [a,b] [] pos) (QX X.K t1 t2 ta):=by
 intro pins s σ H R I h;refine Call_ (CT I hg hm boot_zip (PyProof.Rows.callWith_type1 (thn (ha pos pins s σ H _ I h) λus s1 ⟨vs,H1,I1,r1,q1⟩=>?_) (by rw[hs,hs2]) (by rw[hs2];rfl)));obtain⟨l1,l2,xs,ys,e,c1,c2,q⟩:=q1;subst e;obtain⟨u,v,rfl,ru,rv⟩:=PH r1;cases ru;cases rv;obtain⟨ix,rx,px,zx⟩:=I1.row c1;obtain⟨iy,ry,py,zy⟩:=I1.row c2;refine Sq px py λg Z kp=>wpAny_pyIter_zip Z.z ?_;refine⟨_,_,_,_,H1,rfl,I1.kept (t':=s1.toks) kp,T2 (VZ px.lt py.lt),Z,λc hc=>?_,q⟩;simp only[gj,hZ,hJ]at hc;have le:s1.heap.objs.size<=c:=by
  rcases hc with rfl|rfl|rfl|rfl|rfl
  .exact j5 _ _
  .exact j5 _ _
  .exact j5 _ _
  .exact gg _
  .exact j5 _ _
 exact I1.fpOk le (I1.hok.fresh le)
def XB(K:Frag){t1 t2:Bool}{a b:Expr}{ta:TA}{elts:List Expr}{kk:Nat}{tpos p pos:Pos}(hg:Gl X "zip")(hm:X.mg "zip"=none)(ha:PA X [a,b] ta)(hK:X.K=K:=by rfl)(hs:starEach [a,b] X.env=[(false,eval a X.env),(false,eval b X.env)]:=by rfl)(hs2:starEach [b] X.env=[(false,eval b X.env)]:=by rfl):
 PI X (.Tuple elts kk tpos) (.Call (.Name "zip" p) [a,b] [] pos) (QX K t1 t2 ta):=by subst hK;exact Zj hg hm ha hs hs2
end
def cf(K:Frag)(ρ:List Addr)(H:Hp)(tp:Bool)(a:Addr)(ds:List D)(g:Gd):Prop:=∀(ρ2:List Addr) (H2:Hp) (hd2:Hd),Ext ρ H ρ2 H2->RH K ρ2 H2 hd2->GOk hd2 g->∃xs,SqS K tp H2 a xs/\RDs K ρ2 H2 ds xs
def RRw(K:Frag)(tp:Bool)(t:TE)(m:MI):Prop:=∀(ρ:List Addr) (σ:St) (H:Hp) (hd:Hd) (ls:Ls) (Q:VK) (d:List D) (g:Gd) (hd':Hd),RH K ρ H hd->RL K ρ H ls σ->m ls hd=some ((d,g),hd') ->
 (∀ρ' H' a,Ext ρ H ρ' H'->RH K ρ' H' hd'->GOk hd' g->cf K ρ' H' tp a d g->Q (.ref a) H')->t σ H Q
structure QR(K:Frag)(tp:Bool)(X:Cx)(e:Expr)(t:TE)(m:MI):Prop where
 p:PE X e t
 r:RRw K tp t m
section
variable{K:Frag}{ρ ρ':List Addr}{H H':Hp}{hd hd':Hd}
def YU{t:TE}{m:ME}(h:RE K t m):RRw K true t (An m):=by
 intro ρ σ H hd ls Q d g hd' hR hL hm hQ;obtain⟨⟨d1,h1⟩,e1,hm⟩:=gF hm;obtain⟨ds,e2,e3⟩:=gG hm;cases e3;refine h ρ σ H hd ls _ d1 _ hR hL e1 λρ1 H1 v x1 R1 r1=>?_;obtain⟨a,xs,rfl,q,r⟩:=r1.tup e2;exact hQ ρ1 H1 a x1 R1 (AJ _) λρ2 H2 hd2 x2 R2 _=>⟨xs,(x2.grow R1).sq q,r.ext R1 x2⟩
def Vr{t:TE}{m:ME}(h:RE K t m):RRw K false t (C6 m):=by
 intro ρ σ H hd ls Q d g hd' hR hL hm hQ;obtain⟨⟨d1,h1⟩,e1,hm⟩:=gF hm;dsimp only at hm;split at hm
 .next n=>
  split at hm
  .next ds q=>
   cases hm;refine h ρ σ H hd ls _ _ _ hR hL e1 λρ1 H1 v x1 R1 r1=>?_;simp only[RD]at r1;obtain⟨a,hn,rfl⟩:=r1;refine hQ ρ1 H1 a x1 R1 (λp z=>by simp at z;subst z;exact q) λρ2 H2 hd2 x2 R2 G2=>?_;have hn2:ρ2[n]?=some a:=by
    obtain⟨r,rfl,_⟩:=x2.pre;rw[List.getElem?_append_left (List.getElem?_eq_some_iff.mp hn).1];exact hn
   obtain⟨ys,e4,e5⟩:=R2.lst hn2 (G2 (n,d) 77);exact⟨ys,SqL.of e4,e5⟩
  .cases hm
 .next ns=>
  cases hm;refine h ρ σ H hd ls _ _ _ hR hL e1 λρ1 H1 v x1 R1 r1=>?_;simp only[RD]at r1;obtain⟨a,rfl,q⟩:=r1;exact hQ ρ1 H1 a x1 R1 (AJ _) λρ2 H2 hd2 x2 R2 _=>⟨_,(q.grow (x2.grow R1)).sq,DS⟩
 .cases hm
def YV{t:TE}{m:MA}(h:RN K t m):RRw K false t (Fc m):=by
 intro ρ σ H hd ls Q d g hd' hR hL hm hQ;obtain⟨⟨d1,h1⟩,e1,e3⟩:=gG hm;cases e3;refine h ρ σ H hd ls _ _ _ hR hL e1 λρ1 H1 a xs x1 R1 na oa ea r1=>?_;exact hQ ρ1 H1 a x1 R1 (AJ _) λρ2 H2 hd2 x2 R2 _=>⟨xs,SqL.of (x2.keep a _ ea oa nt),r1.ext R1 x2⟩
open Classical in
noncomputable def GT(ma mb:MI):MI:=λls hd=>(ma ls hd).bind λp=>(mb ls p.2).bind λq=>if GOk q.2 p.1.2 then some ((List.zipWith (λx y=>AW [x,y]) p.1.1 q.1.1,p.1.2++q.1.2),q.2)else none
def Yl{t1 t2:Bool}{ta tb:TE}{ma mb:MI}(ha:RRw K t1 ta ma)(hb:RRw K t2 tb mb):RIt K (QX K t1 t2 (Ax ta (Ax tb BZ))) (GT ma mb):=by
 intro ρ σ H hd ls Q d g hd' hR hL hm hQ;obtain⟨⟨⟨d1,g1⟩,h1⟩,e1,hm⟩:=gF hm;obtain⟨⟨⟨d2,g2⟩,h2⟩,e2,hm⟩:=gF hm;dsimp only at hm;split at hm
 .next gk=>
  cases hm;refine ha ρ σ H hd ls _ d1 g1 h1 hR hL e1 λρ1 H1 a x1 R1 G1 S1=>?_;refine hb ρ1 σ H1 h1 ls _ d2 g2 _ R1 (hL.ext hR x1) e2 λρ2 H2 b x2 R2 G2 S2=>?_;obtain⟨xs,c1,r1⟩:=S1 ρ2 H2 _ x2 R2 gk;obtain⟨ys,c2,r2⟩:=S2 ρ2 H2 _ .refl R2 G2;refine⟨a,b,xs,ys,rfl,c1,c2,hQ ρ2 H2 _ 84 R2 (λp hp=>(mem_append.mp hp).elim (gk p) (G2 p)) ?_⟩;intro ρ3 H3 hd3 x3 R3 G3 i;obtain⟨xs,c1,r1⟩:=S1 ρ3 H3 _ (x2.trans R2 x3) R3 λp hp=>G3 p (i9 _ hp);obtain⟨ys,c2,r2⟩:=S2 ρ3 H3 _ x3 R3 λp hp=>G3 p (gn _ hp);have l1:=r1.len;have l2:=r2.len;refine⟨λhi=>?_,λhi=>⟨xs,ys,c1,c2,?_⟩⟩
  .simp only[List.length_zipWith]at hi;have i1:d1[i]?=some (d1[i]' 67):=List.getElem?_eq_getElem _;have i2:d2[i]?=some (d2[i]' 67):=List.getElem?_eq_getElem _;obtain⟨x,x4,x5⟩:=r1.get i1;obtain⟨y,y4,y5⟩:=r2.get i2;refine⟨⟨xs,ys,x,y,c1,c2,x4,y4⟩,λz H4 hz=>?_⟩;obtain⟨p,u,v,fp,rfl,rfl,hu,hv⟩:=hz;have eu:=hu xs c1;rw[x4]at eu;cases eu;have ev:=hv ys c2;rw[y4]at ev;cases ev;obtain⟨R4,x6⟩:=R3.hid (ho:=.tup [x,y]) fp;refine⟨ρ3,AW [d1[i]' 67,d2[i]' 67],x6,rfl,R4,?_,C4 (SqT.of AK) (.cons (x5.ext R3 x6) (.cons (y5.ext R3 x6) .nil))⟩;simp[List.getElem?_zipWith,i1,i2]
  .simp only[List.length_zipWith]at hi;omega
 .cases hm
end
section
variable(K:Frag){X:Cx}{a b e:Expr}{ta tb te:TE}{me:ME}{m:MA}
def Mv(h:QE K X e te me):QR K true X e te (An me):=⟨h.p,YU h.r⟩
def We(h:QE K X e te me):QR K false X e te (C6 me):=⟨h.p,Vr h.r⟩
def ZC(h:QN K X e te m):QR K false X e te (Fc m):=⟨h.p,YV h.r⟩
def ZJ{t1 t2:Bool}{ma mb:MI}{elts:List Expr}{kk:Nat}{tpos p pos:Pos}(hm:X.mg "zip"=none)(ha:QR K t1 X a ta ma)(hb:QR K t2 X b tb mb)(hg:Gl X "zip":=by rfl)(hK:X.K=K:=by rfl)(hs:starEach [a,b] X.env=[(false,eval a X.env),(false,eval b X.env)]:=by rfl)(hs2:starEach [b] X.env=[(false,eval b X.env)]:=by rfl):
 QI K X (.Tuple elts kk tpos) (.Call (.Name "zip" p) [a,b] [] pos) (QX K t1 t2 (Ax ta (Ax tb BZ))) (GT ma mb):=⟨XB K hg hm (BQ ha.p (BQ hb.p C1 hs2) (by rw[hs,hs2])) hK hs hs2,Yl ha.r hb.r⟩
end
section
variable{K:Frag}
noncomputable def GV(ml:MA)(mb:ME):ME:=λls hd=>(ml ls hd).bind λp=>(mb ls p.2).bind λq=>match q.1 with
 |.im (.int i)=>(atI p.1 i).map (·,q.2)
 |_=>none
def Yt{ta tb:TE}{ml:MA}{mb:ME}(ha:RN K ta ml)(hb:RE K tb mb):RE K (tOp (M2 K) ta tb) (GV ml mb):=by
 and_intros;obtain⟨⟨d1,h1⟩,e1,hm⟩:=gF hm;obtain⟨⟨d2,h2⟩,e2,hm⟩:=gF hm;dsimp only at hm;split at hm
 .obtain⟨w,e3,e4⟩:=gG hm;cases e4;refine ha ρ σ H hd ls _ d1 h1 hR hL e1 λρ1 H1 a xs x1 R1 na oa ea r1=>?_;refine hb ρ1 σ H1 h1 ls _ _ _ R1 (hL.ext hR x1) e2 λρ2 H2 v2 x2 R2 r2=>?_;simp only[RD,RI]at r2;subst r2;have r1':=r1.ext R1 x2;obtain⟨j,j1,j2⟩:=P9 r1'.len e3;obtain⟨x,y1,y2⟩:=r1'.get j1;exact .inl ⟨a,xs,_,x,rfl,rfl,SqL.of (x2.keep a _ ea oa nt),j2 x y1,hQ ρ2 H2 x 84 R2 y2⟩
 .cases hm
noncomputable def KW(neg:Bool)(x y:PyData)(hd:Hd):Option (D×Hd):=if x.canLay0=true/\y.canLay0=true/\min x.depth y.depth<=60 then some (.im (.bl (if neg then !PyData.eqv x y else PyData.eqv x y)),hd)else none
noncomputable def Dh(neg:Bool)(ma:ME)(ml:MA):ME:=λls hd=>(ma ls hd).bind λp=>(ml ls p.2).bind λq=>(pyD q.2 p.1).bind λx=>(BK q.1).bind λis=>KW neg x (.list (I.pys is)) q.2
noncomputable def rEN(K:Frag)(neg:Bool):R2:=λx y H Q=>∃d e,Rep K H d x/\Rep K H e y/\d.canLay0=true/\e.canLay0=true/\min d.depth e.depth<=60/\Q (.bl (if neg then !PyData.eqv d e else PyData.eqv d e)) H
def W6{ρ:List Addr}{H:Hp}{a:Addr}{xs:List V}{ds:List D}{is:List I}(ea:H a=some (.lst xs))(r:RDs K ρ H ds xs)(e:BK ds=some is):Rep K H (.list (I.pys is)) (.ref a):=by
 rw[Gn e]at r;simp only[Rep];exact⟨a,xs,rfl,SqL.of ea,r.is.rep⟩
def WD{neg:Bool}{ta tb:TE}{ma:ME}{ml:MA}(ha:RE K ta ma)(hb:RN K tb ml):RE K (tOp (rEN K neg) ta tb) (Dh neg ma ml):=by
 and_intros;obtain⟨⟨d1,h1⟩,e1,hm⟩:=gF hm;obtain⟨⟨d2,h2⟩,e2,hm⟩:=gF hm;obtain⟨x,e3,hm⟩:=gF hm;obtain⟨is,e4,hm⟩:=gF hm;unfold KW at hm;split at hm
 .next c=>
  cases hm;refine ha ρ σ H hd ls _ d1 h1 hR hL e1 λρ1 H1 v x1 R1 r1=>?_;refine hb ρ1 σ H1 h1 ls _ d2 _ R1 (hL.ext hR x1) e2 λρ2 H2 a xs x2 R2 na oa ea r2=>?_;exact⟨_,_,Fv R2 (r1.ext R1 x2) e3,W6 ea r2 e4,c.1,c.2.1,c.2.2,hQ ρ2 H2 _ 84 R2 (by simp[RD,RI])⟩
 .cases hm
end
def aB(K:Frag){X:Cx}(hu:X.A.units+64<cLine)(hK:X.K=K:=by rfl):OpR X (compareOp .NotEq) (rEN K true):=KH K hu hK
section
variable(K:Frag){X:Cx}{a b e:Expr}{ta tb te:TE}{ma mb me:ME}{m mk:MA}{pos:Pos}{op:CmpOp}{neg:Bool}
def ZW(ha:QN K X a ta m)(hb:QE K X b tb mb)(hs:Kj b:=by exact λ_ _=>rfl)(hK:X.K=K:=by rfl):QE K X (.Subscript a b pos) (tOp (M2 K) ta tb) (GV m mb):=⟨VI ((NM K hK).or (P0 K hK)) ha.p hb.p hs,Yt ha.r hb.r⟩
def WU(ho:OpR X (compareOp op) (rEN K neg))(ha:QE K X a ta ma)(hb:QN K X b tb m)(hm:behindInMarks op b=false:=by first|exact N5 _|rfl):QT K X (.Compare a [op] [b] pos) (Lv (tOp (rEN K neg) ta tb)) (AF (Dh neg ma m)):=⟨Ol ho ha.p hb.p hm,Ep (WD ha.r hb.r)⟩
end
noncomputable def Bo(lo:Int):Nat->List V
 |0=>[]
 |n+1=>.int lo::Bo (lo+1) n
def Py(lo:Int)(n:Nat):(Bo lo n).length=n:=by
 induction n generalizing lo with
 |zero=>rfl
 |succ n ih=>simp[Bo,ih]
def Mr{K:Frag}{ρ:List Addr}{H:Hp}(lo:Int)(n:Nat):RDs K ρ H (Ab lo n) (Bo lo n):=by
 induction n generalizing lo with
 |zero=>simp[Ab,Bo,RDs]
 |succ n ih=>exact .cons (by simp[RD,RI]) (ih _)
theorem JT{lo:Int}:∀{n:Nat} {us:List Value},us.length=n->(∀(j:Nat) (v:Value),us[j]?=some v->∃t,v=.int (lo+j*1) t)->Vals (Bo lo n) us
 |0,us,h,_=>by
  have:us=[]:=List.length_eq_zero_iff.mp h;subst this;exact .nil
 |n+1,[],h,_=>by simp at h
 |n+1,u::us,h,k=>by
  obtain⟨t,e⟩:=k 0 u rfl;refine .cons ⟨t,by rw[e];simp⟩ (JT (by simpa using h) λj v q=>?_);obtain⟨t',e'⟩:=k (j+1) v (by simpa using q);exact⟨t',by rw[e'];congr 1;push_cast;omega⟩
section
variable{prog:Program}{w:World}{A:Around}{E:Value->Shared->Prop}{s:Shared}
def O2{Q:List Value->Shared->Prop}{r:Addr}{a b c:Int}{t u v:Tok}{n:Nat}(hh:A.handled=none)(hr:IsRange s.heap r a b c t u v)(hsm:Builtin.Range.small a b c=true)(hn:Builtin.Range.rangeSize a b c=n)(hl:n<=2^24)
 (hQ:∀g tk (acc:Array Value),(∀b o,s.heap.get? b=some o->g.get? b=some o)->ItemsOf (λi v=>∃t,v=.int (a+i*c) t) acc n->Q acc.toList { s with heap:=g,toks:=tk }):
 wpAny 97 A (collect (.ref r)) Q E s:=by
 unfold collect;refine gb (wpAny_runValue (iD F.entry_proto_collect ?_));rw[Around.under_plainId F.plain_proto_collect _];show wpAny _ A.in1 (newList [] >>= λl=>again (.builtin "list.__iadd__" ⟨[l,.ref r],[]⟩)) _ _ s;refine gb (ja (gh ⟨iO F.plain_list_iadd _,iD F.entry_list_iadd ?_⟩));rw[Around.under_plainId F.plain_list_iadd _];show wpAny _ A.in1 (Builtin.List.listExtendWith (.ref 66) (.ref r) (.ref 66)) _ _ _;have e0:(s.heap.push { cls:=.type "list",data:=.seq ([]:List Value).toArray }).get? 66=some { cls:=.type "list",data:=.seq #[] 0 }:=89 _ rfl;have fin:∀g tk (acc:Array Value) c',(∀b o,b≠66->(s.heap.push { cls:=.type "list",data:=.seq ([]:List Value).toArray }).get? b=some o->g.get? b=some o)->g.get? 66=some { cls:=.type "list",dict:=none,data:=.seq acc c',slots:=#[] }->ItemsOf (λi v=>∃t,v=.int (a+i*c) t) acc n ->
  wpAny 97 A (load 66 >>= λo=>match o.data with|Data.seq xs epoch=>pure xs.toList|x=>unsupported "internal:collect") Q E { s with heap:=g,toks:=tk }:=λg tk acc c' kp eS it=>
  gb (wpAny_load eS (gh (hQ g tk acc (λb o q=>kp b o (gv (91 q)) (73 _ q)) it)))
 refine gz (wpAny_extend_range (A:=A) (R:=λr s'=>r=.ok (.ret (.ref 66))/\∃g tk,s'={ s with heap:=g,toks:=tk }/\wpAny 97 A (load 66 >>= λo=>match o.data with|Data.seq xs epoch=>pure xs.toList|x=>unsupported "internal:collect") Q E s')
  (s:={ s with heap:=s.heap.push { cls:=.type "list",data:=.seq ([]:List Value).toArray } }) hh (73 _ hr) hsm hn hl 66 (.ref 66) 0 e0 λg tk acc c' kp eS it=>⟨rfl,g,tk,rfl,fin g tk acc c' kp eS it⟩) (λfn s' h=>?_) (λe s' h=>absurd h.1 (by simp))
 cases fn with
 |done f=>
  obtain⟨e,_,_,_,q⟩:=h;cases e;exact q
 |again c'=>exact⟨h.1,iU h.2 λr s'' hr=>by obtain⟨rfl,_,_,_,q⟩:=hr;exact q⟩
end
def Oi:List V->Hp->VK->Prop:=λxs H Q=>∃j:Int,xs=[.int j]/\∀p,H p=none->Q (.ref p) (upd H p (.rng 0 j))
def Oh:List V->Hp->VK->Prop:=λxs H Q=>∃i j:Int,xs=[.int i,.int j]/\∀p,H p=none->Q (.ref p) (upd H p (.rng i j))
def Mu:List V->Hp->VK->Prop:=λxs H Q=>∃a lo hi,xs=[.ref a]/\H a=some (.rng lo hi)/\(-(2^62)<=lo/\lo<2^62/\-(2^62)<=hi/\hi<2^62)/\(hi-lo).toNat<=2^24/\∀p,H p=none->Q (.ref p) (upd H p (.lst (Bo lo (hi-lo).toNat)))
section
variable{X:Cx}
def call_rng1:CallR X (.type "range") Oi:=by
 intro pins s σ H xs us Q I r h;obtain⟨j,rfl,q⟩:=h;obtain⟨u,rfl,t,rfl⟩:=Bi r;exact call_range_1 ⟨.ref 66,_,I.laid (a:=66) (o:=.rng 0 j) (λb o e=>73 _ e) (gg _) ⟨_,_,_,89 _ rfl⟩,rfl,q _ (I.hok.fresh (gg _))⟩
def LM:CallR X (.type "range") Oh:=by
 intro pins s σ H xs us Q I r h;obtain⟨i,j,rfl,q⟩:=h;obtain⟨u,v,rfl,⟨t,rfl⟩,⟨t',rfl⟩⟩:=PH r;exact call_range_2 ⟨.ref 66,_,I.laid (a:=66) (o:=.rng i j) (λb o e=>73 _ e) (gg _) ⟨_,_,_,89 _ rfl⟩,rfl,q _ (I.hok.fresh (gg _))⟩
def V5{lo hi:Int}:Builtin.Range.rangeSize lo hi 1=((hi-lo).toNat:Nat):=by rw[rangeSize_one];split<;>omega
def Jh{lo:Int}{n:Nat}{acc:Array Value}(it:ItemsOf (λi v=>∃t,v=.int (lo+i*1) t) acc n):Vals (Bo lo n) acc.toList:=JT (by simpa using it.1) λj v q=>it.2 j v (by simpa using q)
def Qm(hc:X.calm=true):CallR X (.type "list") Mu:=by
 intro pins s σ H xs us Q I r h;obtain⟨a,lo,hi,rfl,ha,⟨b1,b2,b3,b4⟩,hz,q⟩:=h;obtain⟨u,rfl,ru⟩:=Bi r;cases ru;obtain⟨t,u,v,hr⟩:∃t u v,s.heap.get? a=some { cls:=.type "range",data:=.fields #[.int lo t,.int hi u,.int 1 v] }:=I.hok a _ ha;refine call_list_range (I.ok.hd hc) hr (small_one b1 b2 b3 b4) V5 hz λg tk acc c' kp e it=>?_;exact⟨.ref 66,_,I.laid (t':=tk) (o:=.lst _) kp (gg _) ⟨by rw[Py,gY];omega,acc.toList,c',Jh it,by simpa using e⟩,rfl,q _ (I.hok.fresh (gg _))⟩
end
section
variable{K:Frag}
open Classical in
noncomputable def Hf(m:MA):MA:=λls hd=>(m ls hd).bind λp=>match p.1 with
 |[.im (.int j)]=>if M0 j then some (Ab 0 j.toNat,p.2)else none
 |[.im (.int i),.im (.int j)]=>if V6 i j then some (Ab i (j-i).toNat,p.2)else none
 |_=>none
def JX:List V->Hp->VK->Prop:=λxs H Q=>Oi xs H Q∨Oh xs H Q
def Td{t:TA}{m:MA}(h:RA K t m):RN K (tCB Mu (Ax (tCB JX t) BZ)) (Hf m):=by
 and_intros;obtain⟨⟨d1,h1⟩,e1,hm⟩:=gF hm;dsimp only at hm;refine h ρ σ H hd ls _ d1 h1 hR hL e1 λρ1 H1 v x1 R1 r1=>?_;split at hm
 .next j=>
  split at hm
  .next c=>
   have c:j<2^24/\-(2^62)<=j:=c;cases hm;simp only[RDs,RD,RI]at r1;obtain⟨x,r,rfl,rfl,rfl⟩:=r1;refine .inl ⟨j,rfl,λp hp=>⟨p,0,j,rfl,AK,⟨by decide,by decide,c.2,by omega⟩,by omega,λl hl=>?_⟩⟩;obtain⟨R2,x2⟩:=R1.hid (ho:=.rng 0 j) hp;obtain⟨R3,x3⟩:=R2.hid (ho:=.lst (Bo 0 (j-0).toNat)) hl;refine hQ ρ1 _ l (Bo 0 (j-0).toNat) ((84).trans R2 x3) R3 ((84).none hR hl R2) (R2.out hl) AK ?_;rw[Int.sub_zero];exact Mr 0 _
  .cases hm
 .next i j=>
  split at hm
  .next c=>
   cases hm;simp only[RDs,RD,RI]at r1;obtain⟨x,r,rfl,rfl,y,r2,rfl,rfl,rfl⟩:=r1;refine .inr ⟨i,j,rfl,λp hp=>⟨p,i,j,rfl,AK,⟨c.1.1,c.1.2,c.2.1.1,c.2.1.2⟩,c.2.2,λl hl=>?_⟩⟩;obtain⟨R2,x2⟩:=R1.hid (ho:=.rng i j) hp;obtain⟨R3,x3⟩:=R2.hid (ho:=.lst (Bo i (j-i).toNat)) hl;exact hQ ρ1 _ l (Bo i (j-i).toNat) ((84).trans R2 x3) R3 ((84).none hR hl R2) (R2.out hl) AK (Mr i _)
  .cases hm
 .cases hm
noncomputable def cH(m:MA):ME:=λls hd=>(Hf m ls hd).bind λp=>some (AW p.1,p.2)
def Fx:∀{xs ys:List Int},xs.Perm ys->xs.Pairwise (·<=·)->ys.Pairwise (·<=·)->xs=ys:=λ{xs ys} p a b=>
 p.eq_of_pairwise (le:=(·<=·)) (λ_ _ _ _ h1 h2=>Int.le_antisymm h1 h2) a b
noncomputable def B1(xs:List Int):List Int:=xs.mergeSort (λa b=>decide (a<=b))
def Aj(xs:List Int):(B1 xs).Perm xs:=iZ ..
def Ci(xs:List Int):(B1 xs).Pairwise (·<=·):=by
 have:=j8 (le:=λa b:Int=>decide (a<=b)) (by intro a b c h1 h2;simp at *;omega) (by intro a b;simp;omega) xs;exact this.imp 77
noncomputable def BX(m:MI):MA:=λls hd=>(m ls hd).bind λp=>(Am p.1.1).bind λns=>if ns.length<64 then some ((B1 ns).map λi=>.im (.int i),p.2)else none
def Pv{t:TE}{m:MI}(h:RRw K false t m):RN K (tCB (KC K) (Ax t BZ)) (BX m):=by
 and_intros;obtain⟨⟨⟨d1,g1⟩,h1⟩,e1,hm⟩:=gF hm;obtain⟨ns,e2,hm⟩:=gF hm;split at hm
 .next c=>
  cases hm;refine h ρ σ H hd ls _ d1 g1 _ hR hL e1 λρ1 H1 a x1 R1 G1 S1=>?_;obtain⟨xs,q,r⟩:=S1 ρ1 H1 _ .refl R1 G1;have e3:d1=ns.map λi=>.im (.int i):=C7 e2;rw[e3]at r;have:=E3 r;subst this;refine⟨a,ns,rfl,q,c,λp ns' hp pm pw=>?_⟩;have:ns'=B1 ns:=Fx (pm.trans (Aj ns).symm) pw (Ci ns);subst this;obtain⟨R2,x2⟩:=R1.hid (ho:=.lst ((B1 ns).map V.int)) hp;exact hQ ρ1 _ p _ 84 R2 (x1.none hR hp R1) (R1.out hp) AK DS
 .cases hm
end
section
variable(K:Frag){X:Cx}{a b e:Expr}{ta tb te:TE}{me:ME}{m:MA}{t:TA}{p p2 pos pos2:Pos}{es:List Expr}
def U2(hm:X.mg "list"=none)(hm2:X.mg "range"=none)(ha:QA K X (a::es) t m)(hc:X.calm=true:=by rfl)(hg:Gl X "list":=by rfl)(hg2:Gl X "range":=by rfl)(he2:starEach (a::es) X.env=(false,eval a X.env)::starEach es X.env:=by rfl)(hpl:(backTo pos2 (starEach es X.env)).any (·.1)=false:=by rfl)
 (he:starEach [.Call (.Name "range" p2) (a::es) [] pos2] X.env=[(false,eval (.Call (.Name "range" p2) (a::es) [] pos2) X.env)]:=by rfl):
 QN K X (.Call (.Name "list" p) [.Call (.Name "range" p2) (a::es) [] pos2] [] pos) (tCB Mu (Ax (tCB JX t) BZ)) (Hf m):=
 ⟨DQ (Qm hc) hg hm P8 (BQ (DQ (call_rng1.or LM) hg2 hm2 boot_range ha.p 98 98 he2 hpl) C1 he) 98 98 he rfl,Td ha.r⟩
def Q5{mi:MI}(hm:X.mg "sorted"=none)(ha:QR K false X e te mi)(hg:Gl X "sorted":=by rfl)(he:starEach [e] X.env=[90]:=by rfl)(hK:X.K=K:=by rfl):QN K X (.Call (.Name "sorted" p) [e] [] pos) (tCB (KC K) (Ax te BZ)) (BX mi):=
 ⟨F2 (Nl K hK) hg hm FX (BQ ha.p C1 he) 98 98 he rfl,Pv ha.r⟩
end
end L2
namespace L2
structure BltA(mg:PySem.Str->Option PySem.Value):Prop where
 list:mg "list"=none
 tuple:mg "tuple"=none
 len:mg "len"=none
 range:mg "range"=none
 repr:mg "repr"=none
 sum:mg "sum"=none
 min:mg "min"=none
 max:mg "max"=none
 abs:mg "abs"=none
 all:mg "all"=none
 any:mg "any"=none
 sorted:mg "sorted"=none
 zip:mg "zip"=none
 isinstance:mg "isinstance"=none
 int:mg "int"=none
 bool:mg "bool"=none
 str:mg "str"=none
 set:mg "set"=none
 enumerate:mg "enumerate"=none
 reversed:mg "reversed"=none
 dict:mg "dict"=none
end L2
namespace L2
open PySem PySem.Spec PyProof.Rows
section
variable{ls:Ls}{hd:Hd}{a b c:MS}{ma mb mc:ME}{ta tb:MT}{m m1 m2:MA}{n:MG}{ns:MGs}{d e:D}
@[simp] theorem NW:A9 a b ls hd=(a ls hd).bind λp=>match p.1 with
 |.nx ls1=>b ls1 p.2
 |f=>some (f,p.2):=rfl
@[simp] theorem Xz:AU ls hd=some (.nx ls,hd):=rfl
@[simp] theorem eI:B5 ma ls hd=(ma ls hd).bind λp=>some (.nx ls,p.2):=rfl
@[simp] theorem SW:AN ma ls hd=(ma ls hd).bind λp=>some (.rt p.1,p.2):=rfl
@[simp] theorem dy:cJ ls hd=some (.rt (.im .non),hd):=rfl
@[simp] theorem de:aM ls hd=some (.bk ls,hd):=rfl
@[simp] theorem eO:cN ls hd=some (.ct ls,hd):=rfl
@[simp] theorem ar:Ae ta a b ls hd=(ta ls hd).bind λp=>if p.1=true then a ls p.2 else b ls p.2:=rfl
@[simp] theorem Jo:Ir ma n ls hd=(ma ls hd).bind λp=>(n p.1 ls p.2).map λls'=>(.nx ls',p.2):=rfl
@[simp] theorem KU(i:Nat):AD i d ls hd=some (ls.set i (some d)):=rfl
@[simp] theorem eB(k:Nat):BE k ns d ls hd=(Aa d).bind λds=>if ds.length=k then ns ds ls hd else none:=rfl
@[simp] theorem dW(d:D)(ds:List D):AM n ns (d::ds) ls hd=(n d ls hd).bind λls1=>ns ds ls1 hd:=rfl
@[simp] theorem eD:BF [] ls hd=some ls:=rfl
@[simp] theorem af(ix:List Nat):QL ix m ls hd=(m ls hd).bind λp=>if p.1.length=ix.length then some (.nx ((ix.zip p.1).foldl (λl q=>l.set q.1 (some q.2)) ls),p.2)else none:=rfl
@[simp] theorem eA(i j k:Nat):cK i j k m ls hd=QL [k,j,i] (λls hd=>(m ls hd).map λp=>(p.1.reverse,p.2)) ls hd:=rfl
@[simp] theorem Jn(i:Nat):A0 i ls hd=match ls[i]? with
 |some (some d)=>some (d,hd)
 |_=>none:=rfl
@[simp] theorem da(i:I):mC i ls hd=some (.im i,hd):=rfl
@[simp] theorem cS(f:D->D->Hd->Option (D×Hd)):mOp f ma mb ls hd=(ma ls hd).bind λp=>(mb ls p.2).bind λq=>f p.1 q.1 q.2:=rfl
@[simp] theorem fB:E6 ta tb ls hd=(ta ls hd).bind λp=>if p.1=true then tb ls p.2 else some (false,p.2):=rfl
@[simp] theorem fW:mOr ta tb ls hd=(ta ls hd).bind λp=>if p.1=true then some (true,p.2)else tb ls p.2:=rfl
@[simp] theorem f7:E5 ta ls hd=(ta ls hd).bind λp=>some (!p.1,p.2):=rfl
@[simp] theorem ad:Bx ma ls hd=(ma ls hd).bind λp=>(Cy p.2 p.1).map (·,p.2):=rfl
@[simp] theorem P3:AF ma ls hd=(ma ls hd).bind λp=>match p.1 with
 |.im (.bl b)=>some (b,p.2)
 |_=>none:=rfl
@[simp] theorem fX:mIf ta ma mb ls hd=(ta ls hd).bind λp=>if p.1=true then ma ls p.2 else mb ls p.2:=rfl
@[simp] theorem eQ:FP ma mb ls hd=(AF ma ls hd).bind λp=>if p.1=true then mb ls p.2 else some (.im (.bl false),p.2):=rfl
@[simp] theorem f6:KL ma mb ls hd=(AF ma ls hd).bind λp=>if p.1=true then some (.im (.bl true),p.2)else mb ls p.2:=rfl
@[simp] theorem eC:IB ma ls hd=(AF ma ls hd).bind λp=>some (.im (.bl (!p.1)),p.2):=rfl
@[simp] theorem ag:A5 ls hd=some ([],hd):=rfl
@[simp] theorem Y5:A2 ma m ls hd=(ma ls hd).bind λp=>(m ls p.2).bind λq=>some (p.1::q.1,q.2):=rfl
open Classical in
@[simp] theorem eZ:BW m ls hd=(m ls hd).bind λp=>if Bj p.1.length then some (AW p.1,p.2)else none:=rfl
open Classical in
@[simp] theorem f8:C5 m ls hd=(m ls hd).bind λp=>if Bj p.1.length then some (p.1,p.2)else none:=rfl
@[simp] theorem ah:Au m ls hd=(m ls hd).bind λp=>some (.mu p.2.length,p.2++[.lst p.1]):=rfl
@[simp] theorem ak:Eb ma ls hd=(ma ls hd).bind λp=>match p.1 with
 |.im (.int i)=>some (.im (.int (-i)),p.2)
 |_=>none:=rfl
@[simp] theorem f9(neg:Bool):Cc neg ma ls hd=(ma ls hd).bind λp=>some (.im (.bl (match p.1 with
 |.im .non=>!neg
 | _=>neg)),p.2):=rfl
@[simp] theorem fY(g:Int->Int->Option I)(i j:Int):fI g (.im (.int i)) (.im (.int j)) hd=(g i j).map (.im ·,hd):=rfl
@[simp] theorem Y4(f g:D->D->Hd->Option (D×Hd)):Gh f g d e hd=match f d e hd with
 |some z=>some z
 |none=>g d e hd:=rfl
@[simp] theorem fA(neg:Bool)(i j:Int):Fh neg (.im (.int i)) (.im (.int j)) hd=some (.im (.bl (if neg then !decide (i=j)else decide (i=j))),hd):=by simp[Fh,scI,MZ]
@[simp] theorem av(neg:Bool)(i j:Str):Fh neg (.im (.str i)) (.im (.str j)) hd=some (.im (.bl (if neg then !decide (i=j)else decide (i=j))),hd):=by simp[Fh,scI,MZ]
@[simp] theorem cU(i:Int):gIx d (.im (.int i)) hd=(Av hd d).bind λds=>(atI ds i).map (·,hd):=rfl
@[simp] theorem eN:CM d e hd=(Er hd d).bind λkvs=>(E7 e).bind λk=>(Cg kvs k).map (·,hd):=rfl
@[simp] theorem cV(f:List D->Hd->Option (D×Hd)):mCB f m ls hd=(m ls hd).bind λp=>f p.1 p.2:=rfl
@[simp] theorem VU(tp:Bool)(g:List D->Option D):f1 tp g [d] hd=((if tp then Av hd d else Ai hd d)).bind λds=>(g ds).map (·,hd):=rfl
@[simp] theorem SX(g:List D->Option D):Ay g m ls hd=(m ls hd).bind λp=>(g p.1).map (·,p.2):=rfl
@[simp] theorem cT(f:D->List D->Hd->Option (D×Hd)):mMt f ma m ls hd=(ma ls hd).bind λp=>match Ai p.2 p.1 with
 |some _=>(m ls p.2).bind λq=>f p.1 q.1 q.2
 |none=>none:=rfl
@[simp] theorem eF(i j:Int):FU [.im (.int i),.im (.int j)] hd=some (.im (.int (if j>i then j else i)),hd):=rfl
@[simp] theorem eE(i j:Int):VT [.im (.int i),.im (.int j)] hd=some (.im (.int (if j<i then j else i)),hd):=rfl
@[simp] theorem fC(i:Int):dR [.im (.int i)] hd=some (.im (.int (if i<0 then -i else i)),hd):=rfl
@[simp] theorem am:GV m ma ls hd=(m ls hd).bind λp=>(ma ls p.2).bind λq=>match q.1 with
 |.im (.int i)=>(atI p.1 i).map (·,q.2)
 |_=>none:=rfl
@[simp] theorem NX:An ma ls hd=(ma ls hd).bind λp=>(Aa p.1).map λds=>((ds,[]),p.2):=rfl
@[simp] theorem aq:Fc m ls hd=(m ls hd).map λp=>((p.1,[]),p.2):=rfl
@[simp] theorem ap:C6 ma ls hd=(ma ls hd).bind λp=>match p.1 with
 |.mu n=>match p.2[n]? with
  |some (.lst ds)=>some ((ds,[(n,ds)]),p.2)
  |_=>none
 |.ro ns=>some ((ns.map λn=>.im (.int n),[]),p.2)
 |_=>none:=rfl
open Classical in
@[simp] theorem ao:DL m ls hd=(m ls hd).bind λp=>match p.1 with
 |[.im (.int j)]=>if GN j then some ((Ab 0 j.toNat,[]),p.2)else none
 |_=>none:=rfl
open Classical in
@[simp] theorem Y3:IC m ls hd=(m ls hd).bind λp=>match p.1 with
 |[.im (.int i),.im (.int j)]=>if Ps i j then some ((Ab i (j-i).toNat,[]),p.2)else none
 |_=>none:=rfl
@[simp] theorem au(mi:MI):Bb mi n a ls hd=(mi ls hd).bind λp=>B2 n a p.1.2 p.1.1 ls p.2:=rfl
open Classical in
@[simp] theorem P4(k:Nat)(ix:List Nat)(mi:MI):Ad k ix mi n ta ma ls hd=(mi ls hd).bind λp=>if Bj p.1.1.length then B3 n ta ma p.1.2 p.1.1 (EJ k ix ls) p.2 else none:=rfl
@[simp] theorem eY:Bq ls hd=some (true,hd):=rfl
@[simp] theorem dZ(F:List D->Hd->Option (D×Hd)):D2 F m ls hd=(m ls hd).bind λp=>F p.1 p.2:=rfl
@[simp] theorem cx:G0 ls hd=some (none,hd):=rfl
@[simp] theorem dz:Jd ma ls hd=(ma ls hd).bind λp=>match p.1 with
 |.im (.int i)=>some (some i,p.2)
 |_=>none:=rfl
@[simp] theorem eG:cL ma ls hd=(ma ls hd).bind λp=>(Av p.2 p.1).map (·,p.2):=rfl
@[simp] theorem dX:Hg m ls hd=m ls hd:=rfl
@[simp] theorem eg(ml mh:MO1):KJ ma ml mh ls hd=(ma ls hd).bind λp=>(ml ls p.2).bind λl=>(mh ls l.2).bind λh=>(Ai h.2 p.1).bind λds=>some (FB ds l.1 h.1,h.2):=rfl
@[simp] theorem ee(ml mh:MO1):dL ma ml mh ls hd=(ma ls hd).bind λp=>(ml ls p.2).bind λl=>(mh ls l.2).bind λh=>(Aa p.1).bind λds=>if ¬ (HT.sIx ds.length 0 l.1=0/\HT.sIx ds.length ds.length h.1=ds.length)then some (AW (FB ds l.1 h.1),h.2)else none:=rfl
@[simp] theorem dw:cH m ls hd=(Hf m ls hd).bind λp=>some (AW p.1,p.2):=rfl
open Classical in
@[simp] theorem ae:Hf m ls hd=(m ls hd).bind λp=>match p.1 with
 |[.im (.int j)]=>if M0 j then some (Ab 0 j.toNat,p.2)else none
 |[.im (.int i),.im (.int j)]=>if V6 i j then some (Ab i (j-i).toNat,p.2)else none
 |_=>none:=rfl
@[simp] theorem cv(mi:MI):BX mi ls hd=(mi ls hd).bind λp=>(Am p.1.1).bind λns=>if ns.length<64 then some ((B1 ns).map λi=>.im (.int i),p.2)else none:=rfl
@[simp] theorem eK(ms:List (ME×ME)):M5 ms ls hd=(ES ms ls hd).bind λp=>if p.1.length<=15 then some (.mu p.2.length,p.2++[.dic (Fy [] p.1)])else none:=rfl
@[simp] theorem cw:ES [] ls hd=some ([],hd):=rfl
@[simp] theorem dU(r:List (ME×ME)):ES ((ma,mb)::r) ls hd=(ma ls hd).bind λp=>(mb ls p.2).bind λq=>(ES r ls q.2).bind λz=>(E7 p.1).map λk=>((k,q.1)::z.1,z.2):=rfl
open Classical in
@[simp] theorem eJ:FO ma mb mc ls hd=(mc ls hd).bind λp=>(ma ls p.2).bind λq=>(mb ls q.2).bind λr=>(E7 r.1).bind λk=>match q.1 with
 |.mu n=>match r.2[n]? with
  |some (.dic kvs)=>if Gg kvs.length then some (.nx ls,r.2.set n (.dic (De kvs k p.1)))else none
  |_=>none
 |_=>none:=rfl
@[simp] theorem Y0:Dg ma mb mc ls hd=(mc ls hd).bind λp=>(ma ls p.2).bind λq=>(mb ls q.2).bind λr=>match q.1,r.1 with
 |.mu n,.im (.int i)=>match r.2[n]? with
  |some (.lst ds)=>(ixN ds.length i).map λj=>(.nx ls,r.2.set n (.lst (ds.set j p.1)))
  |_=>none
 |_,_=>none:=rfl
@[simp] theorem Qw(is:List I):Aa (.im (.tup is))=some (is.map .im):=rfl
@[simp] theorem fH(ds:List D):Aa (.tm ds)=some ds:=rfl
@[simp] theorem fK(k:Nat):Aa (.mu k)=none:=rfl
@[simp] theorem fJ(k:List Int):Aa (.ro k)=none:=rfl
@[simp] theorem Dc(is:List I):Av hd (.im (.tup is))=some (is.map .im):=rfl
@[simp] theorem fO(ds:List D):Av hd (.tm ds)=some ds:=rfl
@[simp] theorem bK(k:Nat):Av hd (.mu k)=Ai hd (.mu k):=rfl
@[simp] theorem fP(k:List Int):Av hd (.ro k)=some (k.map λn=>.im (.int n)):=rfl
@[simp] theorem VP(k:Nat):Ai hd (.mu k)=match hd[k]? with
 |some (.lst ds)=>some ds
 |_=>none:=rfl
@[simp] theorem fS(k:List Int):Ai hd (.ro k)=some (k.map λn=>.im (.int n)):=rfl
@[simp] theorem fZ(k:Nat):Er hd (.mu k)=match hd[k]? with
 |some (.dic ds)=>some ds
 |_=>none:=rfl
@[simp] theorem fV(i:Int):E7 (.im (.int i))=some (.inl i):=rfl
@[simp] theorem fU(i:Str):E7 (.im (.str i))=some (.inr i):=rfl
@[simp] theorem fG:BK []=some []:=rfl
@[simp] theorem fe(i:I)(r:List D):BK (.im i::r)=(BK r).map (i::·):=rfl
@[simp] theorem eW:Am []=some []:=rfl
@[simp] theorem eX(i:Int)(r:List D):Am (.im (.int i)::r)=(Am r).map (i::·):=rfl
@[simp] theorem fF:C8 []=some []:=rfl
@[simp] theorem fb(i:Bool)(r:List D):C8 (.im (.bl i)::r)=(C8 r).map (i::·):=rfl
@[simp] theorem BG(is:List I):AW (is.map .im)=.im (.tup is):=by simp[AW]
@[simp] theorem cu:AW []=.im (.tup []):=rfl
@[simp] theorem Os(i:I):AW [.im i]=.im (.tup [i]):=rfl
@[simp] theorem KI(i j:I):AW [.im i,.im j]=.im (.tup [i,j]):=rfl
@[simp] theorem Xb(i j k:I):AW [.im i,.im j,.im k]=.im (.tup [i,j,k]):=rfl
@[simp] theorem du(i j k l:I):AW [.im i,.im j,.im k,.im l]=.im (.tup [i,j,k,l]):=rfl
@[simp] theorem fE(w:Nat)(i:I):clD w (.im i)=true:=by simp[clD]
@[simp] theorem fD(w n:Nat):clD w (.mu n)=decide (n<w):=by simp[clD]
@[simp] theorem df(w:Nat):Az w []=true:=by simp[Az]
@[simp] theorem Sg(w:Nat)(d:D)(ds:List D):Az w (d::ds)=(clD w d&&Az w ds):=by simp[Az]
@[simp] theorem Du{α:Type}(x:α)(r:List α):atI (x::r) 0=some x:=Cu (j:=0) rfl
@[simp] theorem E9{α:Type}(x y:α)(r:List α):atI (x::y::r) 1=some y:=Cu (j:=1) rfl
@[simp] theorem Ef{α:Type}(x y z:α)(r:List α):atI (x::y::z::r) 2=some z:=Cu (j:=2) rfl
def FE{α:Type}{xs:List α}{i:Int}{k:Nat}{x:α}(hi:i=k)(h:xs[k]?=some x):atI xs i=some x:=by subst hi;exact Cu h
@[simp] theorem Dm:Bj 0:=AT 98
@[simp] theorem Dk:Bj 1:=AT 98
@[simp] theorem Cm:Bj 2:=AT 98
@[simp] theorem CV:Bj 3:=AT 98
@[simp] theorem NU:Bj 4:=AT 98
@[simp] theorem Jm:Bj 5:=AT 98
@[simp] theorem dv:Gg 4:=CN 98
open Classical in
@[simp] theorem aw(k:Nat)(x:D):BI (.mu k) [x] hd=match hd[k]? with
 |some (.lst ds)=>if Gg ds.length then some (.im .non,hd.set k (.lst (ds++[x])))else none
 |_=>none:=rfl
def FW{F:List D->Hd->Option (D×Hd)}{ds:List D}{hd1 h2:Hd}{i:I}(h1:m ls hd=some (ds,hd1))(hc:Az 0 ds=true)(hF:F ds []=some (.im i,h2)):A8 0 F m ls hd=some (.im i,hd1):=by
 simp[A8,h1,hc,hF,fin]
def J9{w:Nat}{F:List D->Hd->Option (D×Hd)}{ds:List D}{pre pre' rest g:Hd}{i:I}(hw:pre.length=w)(hw':pre'.length=w)(h1:m ls hd=some (ds,pre++rest))(hc:Az w ds=true)(hp:pre.all (clO w)=true)(hp':pre'.all (clO w)=true)(hF:F ds pre=some (.im i,pre'++g)):A8 w F m ls hd=some (.im i,pre'++rest):=by
 subst hw;have e1:(pre++rest).take pre.length=pre:=by simp
 have e2:(pre'++g).take pre.length=pre':=by rw[<- hw'];simp
 simp only[A8,h1,gq,e1,hc,hp,hF,fin,e2,hp'];simp
end
def NF{n:MG}{b:MS}{g:Gd}{ls:Ls}{hd:Hd}:B2 n b g [] ls hd=some (.nx ls,hd):=by unfold B2;rfl
def Ky{n:MG}{b:MS}{g:Gd}{d:D}{r:List D}{ls ls1 ls2:Ls}{hd hd2:Hd}(h1:n d ls hd=some ls1)(h2:b ls1 hd=some (.nx ls2,hd2))(h3:GOk hd2 g):B2 n b g (d::r) ls hd=B2 n b g r ls2 hd2:=by
 conv=>lhs;unfold B2
 simp[h1,h2,h3]
def Ua{n:MG}{b:MS}{g:Gd}{d v:D}{r:List D}{ls ls1:Ls}{hd hd2:Hd}(h1:n d ls hd=some ls1)(h2:b ls1 hd=some (.rt v,hd2)):B2 n b g (d::r) ls hd=some (.rt v,hd2):=by
 conv=>lhs;unfold B2
 simp[h1,h2]
open Classical in
noncomputable def mIn(k:Nat)(n:MG)(c:MT)(m:ME)(g:Gd):List D->Ls->Hd->Option (Ls×Hd)
 |[],ls,hd=>some (ls,hd)
 |d::r,ls,hd=>(n d ls hd).bind λls1=>(c ls1 hd).bind λp=>if p.1=true then(m ls1 p.2).bind λq=>(BI (.mu k) [q.1] q.2).bind λz=>if GOk z.2 g then mIn k n c m g r ls1 z.2 else none else if GOk p.2 g then mIn k n c m g r ls1 p.2 else none
open Classical in
noncomputable def QM(k:Nat)(n:MG)(c:MT)(mi:MI)(n2:MG)(c2:MT)(m:ME)(g:Gd):List D->Ls->Hd->Option Hd
 |[],ls,hd=>some hd
 |d::r,ls,hd=>(n d ls hd).bind λls1=>(c ls1 hd).bind λp=>if p.1=true then(mi ls1 p.2).bind λq=>(mIn k n2 c2 m q.1.2 q.1.1 ls1 q.2).bind λz=>if GOk z.2 g then QM k n c mi n2 c2 m g r z.1 z.2 else none else if GOk p.2 g then QM k n c mi n2 c2 m g r ls1 p.2 else none
noncomputable def aL(j:Nat)(ix:List Nat)(mi:MI)(n:MG)(c:MT)(mi2:MI)(n2:MG)(c2:MT)(m:ME):ME:=λls hd=>(mi ls hd).bind λp=>(QM p.2.length n c mi2 n2 c2 m p.1.2 p.1.1 (EJ j ix ls) (p.2++[.lst []])).map λh=>(.mu p.2.length,h)
open Classical in
noncomputable def Iq(ma mb:ME):MA:=λls hd=>(ma ls hd).bind λp=>(mb ls p.2).bind λq=>match p.1,q.1 with
 |.mu i,.mu j=>match q.2[i]?,q.2[j]? with
  |some (.lst xs),some (.lst ys)=>if Bj (xs.length+ys.length)then some (xs++ys,q.2)else none
  |_,_=>none
 |_,_=>none
def Yk{K:Frag}{ta tb:TE}{ma mb:ME}(ha:RE K ta ma)(hb:RE K tb mb):RN K (tOp Tt ta tb) (Iq ma mb):=by
 and_intros;obtain⟨⟨d1,h1⟩,e1,hm⟩:=gF hm;obtain⟨⟨d2,h2⟩,e2,hm⟩:=gF hm;dsimp only at hm;split at hm
 .next i j=>
  split at hm
  .next xs ys q1 q2=>
   split at hm
   .next c=>
    cases hm;refine ha ρ σ H hd ls _ _ h1 hR hL e1 λρ1 H1 v x1 R1 r1=>?_;refine hb ρ1 σ H1 h1 ls _ _ _ R1 (hL.ext hR x1) e2 λρ2 H2 u x2 R2 r2=>?_;have r1':=r1.ext R1 x2;simp only[RD]at r1' r2;obtain⟨a,ka,rfl⟩:=r1';obtain⟨b,kb,rfl⟩:=r2;obtain⟨vs,f1,f2⟩:=R2.lst ka q1;obtain⟨us,f3,f4⟩:=R2.lst kb q2;refine⟨a,b,vs,us,rfl,rfl,f1,f3,by rw[f2.len,f4.len];exact c,λp hp=>?_⟩;obtain⟨R3,x3⟩:=R2.hid (ho:=.lst (vs++us)) hp;have x12:=x1.trans R1 x2;exact hQ ρ2 _ p _ (x12.trans R2 x3) R3 (x12.none hR hp R2) (R2.out hp) AK ((f2.app f4).ext R2 x3)
   .cases hm
  .cases hm
 .cases hm
def ZG(K:Frag){X:Cx}{a b:Expr}{pos:Pos}{ta tb:TE}{ma mb:ME}(ha:QE K X a ta ma)(hb:QE K X b tb mb):QN K X (.BinOp a .Add b pos) (tOp Tt ta tb) (Iq ma mb):=⟨M3 aG ha.p hb.p,Yk ha.r hb.r⟩
@[simp] theorem dY(j:Nat)(ix:List Nat)(mi mi2:MI)(n n2:MG)(c c2:MT)(m:ME)(ls:Ls)(hd:Hd):aL j ix mi n c mi2 n2 c2 m ls hd=(mi ls hd).bind λp=>(QM p.2.length n c mi2 n2 c2 m p.1.2 p.1.1 (EJ j ix ls) (p.2++[.lst []])).map λh=>(.mu p.2.length,h):=rfl
end L2
namespace L2
open PySem PySem.Spec PyProof.Rows PySem.W
section
variable(r:Nat->Int)(n:Nat)
noncomputable def PWp{α:Type}:KasT α->(α->Prop)->Prop
 |.ret a,Q=>Q a
 |.ask i j k,Q=>i<n/\j<n/\PWp (k (decide (r i<r j))) Q
noncomputable def kv(p:Array Nat)(i:Nat):Int:=r (p.getD i 0)
def STo(p:Array Nat)(m:Nat):Prop:=∀i j,i<=j->j<m->kv r p i<=kv r p j
def DTo(p:Array Nat)(m:Nat):Prop:=∀i j,i<=j->j<m->kv r p j<=kv r p i
def EqL(p:Array Nat)(m q:Nat):Prop:=∀k,m-(q+1)<=k->k<m->kv r p k=kv r p (m-1)
def PAr(p:Array Nat):Prop:=p.Perm (71 n).toArray
end
section
variable{r:Nat->Int}{n:Nat}
theorem PWp.bind{α β:Type}{f:α->KasT β}{Q:β->Prop}:∀{t:KasT α},PWp r n t (λa=>PWp r n (f a) Q)->PWp r n (t.bind f) Q
 |.ret _,h=>h
 |.ask i j k,h=>⟨h.1,h.2.1,PWp.bind h.2.2⟩
theorem PWp.mono{α:Type}{Q Q':α->Prop}:∀{t:KasT α},PWp r n t Q->(∀a,Q a->Q' a)->PWp r n t Q'
 |.ret _,h,q=>q _ h
 |.ask i j k,h,q=>⟨h.1,h.2.1,PWp.mono h.2.2 q⟩
theorem PWp.wp{α:Type}{cmp:Nat->Nat->(Bool->Shared->Prop)->Shared->Prop}{P:Shared->Prop}{Q:α->Shared->Prop}(hc:∀i j C s,i<n->j<n->P s->(∀s',P s'->C (decide (r i<r j)) s')->cmp i j C s):∀{t:KasT α} {s:Shared},PWp r n t (λa=>∀s,P s->Q a s)->P s->t.kasWp cmp Q s
 |.ret _,s,h,p=>h s p
 |.ask i j k,s,h,p=>hc i j _ s h.1 h.2.1 p λs' p'=>PWp.wp hc h.2.2 p'
theorem PAr.size{p:Array Nat}(h:PAr n p):p.size=n:=by have:=h.size_eq;simpa using this
def PAr.lt{p:Array Nat}(h:PAr n p){i:Nat}(hi:i<n):p.getD i 0<n:=by
 have hs:=h.size;have hi':i<p.size:=by omega
 have:p[i]∈(71 n).toArray:=h.mem_iff.mp (Array.getElem_mem hi');have e:p.getD i 0=p[i]:=by simp[Array.getD,hi']
 rw[e];simpa using this
def Jf{p:Array Nat}{i j:Nat}(hj:j<=p.size)(k:Nat):kv r (kas_rev p i j) k=if i<=k/\k<j then kv r p (i+j-1-k)else kv r p k:=by
 unfold kv kas_rev;simp only[Array.getD_eq_getD_getElem?];rw[getElem?_mirror_all hj];split<;>rfl
def PAr.rev{p:Array Nat}(h:PAr n p)(i j:Nat):PAr n (kas_rev p i j):=(mirror_perm _ _ _ _).trans h
def Oy{p:Array Nat}{m q:Nat}(hj:m<=p.size)(hq:q+1<=m)(h:EqL r p m q)(k:Nat):kv r (kas_rev p (m-(q+1)) m) k=kv r p k:=by
 rw[Jf hj];split
 .next c=>rw[h _ 67 67,h k c.1 c.2]
 .rfl
theorem Nq{p:Array Nat}(pa:PAr n p):∀(f m:Nat),1<=m->m+f<=n->STo r p m->PWp r n (kas_asc p f m) λm'=>m<=m'/\m'<=m+f/\STo r p m'/\(m'<m+f->kv r p m'<kv r p (m'-1))
 |0,m,h1,hn,hs=>⟨gg _,gg _,hs,λh=>by omega⟩
 |f+1,m,h1,hn,hs=>by
  refine⟨pa.lt 67,pa.lt 67,?_⟩;by_cases c:r (p.getD m 0)<r (p.getD (m-1) 0)
  .rw[gN c];exact⟨gg _,by omega,hs,λ_=>c⟩
  .rw[gM c];refine(Nq pa f (m+1) 67 67 ?_).mono λm' h=>⟨by omega,by omega,h.2.2.1,λz=>h.2.2.2 67⟩
   intro i j hij hj;by_cases e:j<m
   .exact hs i j hij e
   .have:j=m:=by omega
    subst this;by_cases e2:i=j
    .subst e2;exact Int.le_refl _
    .have:=hs i (j-1) 67 67;have:kv r p (j-1)<=kv r p j:=by unfold kv;omega
     omega
def J0{p:Array Nat}{m:Nat}(h1:1<=m)(h:DTo r p m)(c:kv r p m<=kv r p (m-1)):DTo r p (m+1):=by
 intro i j hij hj;by_cases e:j<m
 .exact h i j hij e
 .have:j=m:=by omega
  subst this;by_cases e2:i=j
  .subst e2;exact Int.le_refl _
  .have:=h i (j-1) 67 67;omega
theorem IH:∀(f:Nat) (p:Array Nat) (m q:Nat),PAr n p->1<=m->q+1<=m->m+f<=n->DTo r p m->EqL r p m q ->
 PWp r n (kas_desc f p m q) λz=>PAr n z.1/\m<=z.2.1/\z.2.1<=m+f/\DTo r z.1 z.2.1/\EqL r z.1 z.2.1 z.2.2/\z.2.2+1<=z.2.1
 |0,p,m,q,pa,h1,hq,hn,hd,he=>⟨pa,gg _,gg _,hd,he,hq⟩
 |f+1,p,m,q,pa,h1,hq,hn,hd,he=>by
  refine⟨pa.lt 67,pa.lt 67,?_⟩;have sz:=pa.size;by_cases c:r (p.getD m 0)<r (p.getD (m-1) 0)
  .rw[gN c];have c':kv r p m<=kv r p (m-1):=by unfold kv;omega
   dsimp only;rw[gc rfl];by_cases hq0:q>0
   .rw[gc hq0];have sm:=Oy (r:=r) (p:=p) (m:=m) (q:=q) 67 hq he;refine(IH f _ (m+1) 0 (pa.rev _ _) 67 67 67 ?_ ?_).mono λz h=>⟨h.1,by omega,by omega,h.2.2.2⟩
    .have:=J0 h1 hd c';intro i j a b;rw[sm,sm];exact this i j a b
    .intro k a b;have:k=m:=by omega
     subst this;rfl
   .rw[gf hq0];refine(IH f p (m+1) 0 pa 67 67 67 (J0 h1 hd c') ?_).mono λz h=>⟨h.1,by omega,by omega,h.2.2.2⟩
    intro k a b;have:k=m:=by omega
    subst this;rfl
  .rw[gM c];dsimp only;rw[gf Bool.false_ne_true];refine⟨pa.lt 67,pa.lt 67,?_⟩;by_cases d:r (p.getD (m-1) 0)<r (p.getD m 0)
   .rw[gN d];exact⟨pa,gg _,by show m<=m+(f+1);omega,hd,he,hq⟩
   .rw[gM d];dsimp only;rw[gf Bool.false_ne_true];have e:kv r p m=kv r p (m-1):=by unfold kv;omega
    refine(IH f p (m+1) (q+1) pa 67 67 67 (J0 h1 hd 67) ?_).mono λz h=>⟨h.1,by omega,by omega,h.2.2.2⟩
    intro k a b;by_cases e2:k=m
    .subst e2;rfl
    .have:=he k 67 67;have e3:m+1-1=m:=rfl;rw[e3];omega
def Run(z:Nat×Array Nat)(r:Nat->Int)(n:Nat):Prop:=PAr n z.2/\1<=z.1/\z.1<=n/\STo r z.2 z.1
def MJ{p:Array Nat}{m:Nat}(pa:PAr n p)(h1:1<=m)(hn:m<=n)(hd:DTo r p m):PWp r n (kas_tail3 m n p) λz=>Run z r n:=by
 have sz:=pa.size;have st:STo r (kas_rev p 0 m) m:=by
  intro i j a b;rw[Jf 67,Jf 67,gc ⟨by omega,by omega⟩,gc ⟨by omega,by omega⟩];exact hd _ _ 67 67
 refine PWp.bind ((Nq (pa.rev 0 m) (n-m) m h1 67 st).mono λm' h=>?_);exact⟨pa.rev 0 m,by show 1<=m';omega,by show m'<=n;omega,h.2.2.1⟩
def IW{p:Array Nat}{m:Nat}(pa:PAr n p)(hn:m+1<=n)(hd:DTo r p (m+1)):PWp r n (kas_descPart m n p) λz=>Run z r n:=by
 refine PWp.bind ((IH (n-(m+1)) p (m+1) 0 pa 67 67 67 hd ?_).mono λz h=>?_)
 .intro k a b;have:k=m:=by omega
  subst this;rfl
 .obtain⟨a,b,c,d,e,g⟩:=h;have sz:=a.size;by_cases hq:z.2.2>0
  .rw[gc hq];have sm:=Oy (r:=r) (p:=z.1) (m:=z.2.1) (q:=z.2.2) 67 g e;exact MJ (a.rev _ _) 67 67 λi j x y=>by rw[sm,sm];exact d i j x y
  .rw[gf hq];exact MJ a 67 67 d
def Ut(h1:1<=n):PWp r n (kas_count n (List.toArray (71 n))) λz=>Run z r n:=by
 have pa:PAr n (71 n).toArray:=.refl _;have sz:=pa.size;refine PWp.bind ((Nq pa (n-1) 1 67 67 λi j a b=>?_).mono λm h=>?_)
 .have:i=j:=by omega
  subst this;exact Int.le_refl _
 .obtain⟨a,b,c,d⟩:=h;by_cases e:(m==n)=true
  .rw[gc e];have:m=n:=by simpa using e
   exact⟨pa,by show 1<=m;omega,by show m<=n;omega,c⟩
  .rw[gf e];have hne:m≠n:=by simpa using e
   have dd:=d 67;by_cases h2:m>1
   .rw[gc h2];refine⟨pa.lt 67,pa.lt 67,?_⟩;by_cases g:r ((71 n).toArray.getD 0 0)<r ((71 n).toArray.getD (m-1) 0)
    .rw[gN g];exact⟨pa,by show 1<=m;omega,by show m<=n;omega,c⟩
    .rw[gM g];dsimp only;rw[gf Bool.false_ne_true];have g':kv r (71 n).toArray (m-1)<=kv r (71 n).toArray 0:=by unfold kv;omega
     have eq:∀k,k<m->kv r (71 n).toArray k=kv r (71 n).toArray 0:=λk hk=>by
      have x1:=c 0 k 67 hk;have x2:=c k (m-1) 67 67;omega
     have rv:∀k,kv r (kas_rev (71 n).toArray 0 m) k=kv r (71 n).toArray k:=λk=>by
      rw[Jf 67];split
      .next z=>rw[eq _ 67,eq k z.2]
      .rfl
     refine IW (pa.rev 0 m) 67 λi j x y=>?_;rw[rv,rv];by_cases z:j<m
     .rw[eq i 67,eq j z];exact Int.le_refl _
     .have:j=m:=by omega
      subst this;by_cases z2:i=j
      .subst z2;exact Int.le_refl _
      .rw[eq i 67];have:=eq (j-1) 67;omega
   .rw[gf h2];have:m=1:=by omega
    subst this;refine IW pa 67 λi j x y=>?_;by_cases z:i=j
    .subst z;exact Int.le_refl _
    .have:i=0:=by omega
     have:j=1:=by omega
     subst i j;have:kv r (71 n).toArray 1<kv r (71 n).toArray 0:=dd;omega
theorem Ij{p:Array Nat}{k:Nat}(pa:PAr n p)(hk:k<n)(hs:STo r p k):∀(f l q:Nat),l<=q->q<=k->q-l<=f->(∀i,i<l->kv r p i<=kv r p k)->(∀i,q<=i->i<k->kv r p k<kv r p i) ->
 PWp r n (kas_place p k f l q) λm=>m<=k/\(∀i,i<m->kv r p i<=kv r p k)/\∀i,m<=i->i<k->kv r p k<kv r p i
 |0,l,q,a,b,c,d,e=>⟨by omega,d,λi x y=>e i 67 y⟩
 |f+1,l,q,a,b,c,d,e=>by
  unfold kas_place;by_cases h:l>=q
  .rw[gc h];exact⟨by omega,d,λi x y=>e i 67 y⟩
  .rw[gf h];refine⟨pa.lt 67,pa.lt 67,?_⟩;by_cases g:r (p.getD k 0)<r (p.getD ((l+q)/2) 0)
   .rw[gN g];dsimp only;rw[gc rfl];have g':kv r p k<kv r p ((l+q)/2):=g;refine Ij pa hk hs f l ((l+q)/2) 67 67 67 d λi x y=>?_;have:=hs ((l+q)/2) i x y;omega
   .rw[gM g];dsimp only;rw[gf Bool.false_ne_true];have g':kv r p ((l+q)/2)<=kv r p k:=by unfold kv;omega
    refine Ij pa hk hs f ((l+q)/2+1) q 67 67 67 (λi x=>?_) e;have:=hs i ((l+q)/2) 67 67;omega
def L3{p:Array Nat}{k d:Nat}(hk:k<p.size)(hd:d<=k)(i:Nat):kv r (bubble p k d) i=if i=k-d then kv r p k else if k-d<i/\i<=k then kv r p (i-1)else kv r p i:=by
 unfold kv;simp only[Array.getD_eq_getD_getElem?];rw[getElem?_bubble hk d hd];split
 .rfl
 .split<;>rfl
theorem Sj:∀(f:Nat) (p:Array Nat) (k:Nat),PAr n p->k+f=n->STo r p k->PWp r n (kas_bin f p k) λz=>PAr n z/\STo r z n
 | 0,p,k,pa,e,hs=>⟨pa,by
  have:k=n:=by omega
  subst this;exact hs⟩
 |f+1,p,k,pa,e,hs=>by
  have sz:=pa.size;refine PWp.bind ((Ij pa 67 hs k 0 k 67 67 67 (λi h=>by omega) (λi a b=>by omega)).mono λm h=>?_);obtain⟨a,b,c⟩:=h;refine Sj f _ (k+1) ((bubble_perm _ _ _).trans pa) 67 λi j x y=>?_;rw[L3 67 67,L3 67 67];have ek:k-(k-m)=m:=by omega
  rw[ek]
  repeat' split
  .exact Int.le_refl _
  .exact Int.le_of_lt (c _ 67 67)
  .omega
  .exact b _ 67
  .exact hs _ _ 67 67
  .omega
  .exact b _ 67
  .exact hs _ _ 67 67
  .exact hs _ _ 67 67
def OV(h1:1<=n):PWp r n (kas_sort n) λp=>PAr n p/\STo r p n:=by
 refine PWp.bind ((Ut h1).mono λz h=>?_);obtain⟨a,b,c,d⟩:=h;by_cases e:z.1<n
 .rw[gc e];have:max z.1 1=z.1:=by omega
  rw[this];exact Sj _ _ _ a 67 d
 .rw[gf e];have:z.1=n:=by omega
  exact⟨a,this ▸ d⟩
end
def PairAt(h:Heap)(v:Value)(p:Int×Int):Prop:=∃(x:Addr) (o:Obj) (t u:Tok) (k:Nat),v=.ref x/\h.get? x=some o/\o.cls=.type "tuple"/\o.data=.seq #[.int p.1 t,.int p.2 u] k
noncomputable def AZ(p:Int×Int):Int:=p.1*4000000000+p.2
def pok(p:Int×Int):Prop:=-1000000000<=p.1/\p.1<=1000000000/\-1000000000<=p.2/\p.2<=1000000000
section
variable{prog:Program}{w:World}{A:Around}{E:Value->Shared->Prop}{s:Shared}
def Ow{x y:Value}{p q:Int×Int}{C:Bool->Shared->Prop}(hx:PairAt s.heap x p)(hy:PairAt s.heap y q)(op:pok p)(oq:pok q)(h:C (decide (AZ p<AZ q)) s):
 wpAny 97 A (keyLt' (tuples' true) x y) C E s:=by
 obtain⟨a,o,t,u,k,rfl,ho,hc,hd⟩:=hx;obtain⟨a2,o2,t2,u2,k2,rfl,ho2,hc2,hd2⟩:=hy;obtain⟨p1,p2⟩:=p;obtain⟨q1,q2⟩:=q;unfold pok at op oq;unfold AZ at h;dsimp only at op oq h;refine kat_lt ho hd ho2 hd2 ?_;refine kat_cons (je ?_);by_cases e1:p1=q1
 .have b1:(p1==q1)=true:=by simp[e1]
  rw[b1];refine kat_yes (kat_cons (je ?_));by_cases e2:p2=q2
  .have b2:(p2==q2)=true:=by simp[e2]
   rw[b2];refine kat_yes (kat_nil ?_);have:decide (p1*4000000000+p2<q1*4000000000+q2)=false:=gM 67;rw[this]at h;exact h
  .have b2:(p2==q2)=false:=by simp[e2]
   rw[b2];refine kat_no (kat_one _ _ (lt_int ?_));have:decide (p1*4000000000+p2<q1*4000000000+q2)=decide (p2<q2):=decide_eq_decide.mpr 67;rw[this]at h;exact h
 .have b1:(p1==q1)=false:=by simp[e1]
  rw[b1];refine kat_no (oneLt_int ?_);have:decide (p1*4000000000+p2<q1*4000000000+q2)=decide (p1<q1):=decide_eq_decide.mpr 67;rw[this]at h;exact h
theorem K2{h:Heap}:∀{vs:List Value} {ps:List 103},vs.length=ps.length->(∀(i:Nat) (v:Value) (p:Int×Int),vs[i]?=some v->ps[i]?=some p->PairAt h v p)->∃fs,KatTups h vs fs/\fs.length=vs.length/\∀f∈fs,∃i t,f=.int i t
 |[],[],_,_=>⟨[],.nil,rfl,λ_ z=>by cases z⟩
 |v::vs,p::ps,hl,hp=>by
  obtain⟨fs,a,b,c⟩:=K2 (vs:=vs) (ps:=ps) (by simpa using hl) λi v q e1 e2=>hp (i+1) v q (by simpa using e1) (by simpa using e2);obtain⟨x,o,t,u,k,rfl,ho,hc,hd⟩:=hp 0 v p rfl rfl;exact⟨.int p.1 t::fs,.cons ho hc hd rfl a,by simp[b],λf hf=>by
   rcases mem_cons.mp hf with rfl|hf
   .exact⟨_,_,rfl⟩
   .exact c f hf⟩
def Es(vs:List Value)(ps:List 103)(out:List Value):Prop:=∃zs:List (Value×103),zs.Perm (vs.zip ps)/\(zs.map λz=>AZ z.2).Pairwise (·<=·)/\out=zs.map (·.1)
def R8{vs:List Value}{ps:List 103}(hl:vs.length=ps.length){p:Array Nat}(pa:PAr vs.length p)(hs:STo (λi=>AZ (ps.getD i (0,0))) p vs.length):Es vs ps (p.toList.map λi=>vs.getD i Value.none):=by
 have sz:=pa.size;refine⟨p.toList.map λi=>(vs.getD i Value.none,ps.getD i (0,0)),?_,?_,by rw[gH];rfl⟩
 .have e:vs.zip ps=(71 vs.length).map λi=>(vs.getD i Value.none,ps.getD i (0,0)):=by
   refine iG λi=>?_;by_cases hi:i<vs.length
   .have hi2:i<ps.length:=by omega
    rw[(List.getElem?_zip_eq_some (z:=(vs[i],ps[i]))).mpr ⟨by simp[hi],by simp[hi2]⟩];simp[hi,hi2]
   .rw[List.getElem?_eq_none 79,List.getElem?_eq_none 79]
  rw[e];have:=Array.perm_iff_toList_perm.mp pa;simpa using this.map _
 .rw[gH,List.pairwise_iff_getElem];intro i j hi hj hij;simp only[gy,Array.length_toList]at hi hj;have:=hs i j 67 67;unfold kv at this;simpa [Array.getD,hi,hj]using this
def Ph{a:Addr}{vs:List Value}{ps:List 103}{n:Nat}{P:PySem.Fin->Shared->Prop}(ho:s.heap.get? a=some (seqObj "list" 102 n))(hl:vs.length=ps.length)(h64:vs.length<64)(hok:∀p∈ps,pok p)
 (hp:∀(i:Nat) (v:Value) (p:Int×Int),vs[i]?=some v->ps[i]?=some p->PairAt (s.heap.update a (Obj.mapSeq λ_=>#[])) v p)
 (h:∀out:List Value,Es vs ps out->P (.done (.ret .none)) { s with heap:=sortedHeap s.heap a vs out.toArray }):
 wpAny 97 A (Builtin.«list.sort» ⟨[.ref a],[]⟩) P E s:=by
 have ha:=91 ho;have line:vs.length<=sizeLine:=by rw[gY];omega
 obtain⟨e1,ho1⟩:∃e1,(s.heap.update a (Obj.mapSeq λ_=>#[])).get? a=some (seqObj "list" #[] e1):=⟨_,iP ho _⟩
 rw[list_sort_plain];refine gb (listItems_at ho rfl (gb (iW ho rfl (gb (seqEpoch_at ho1 rfl (gb (wpAny_newTuple (gb (iX (gX ?_) (gW _))) line)))) (by rw[gu];exact line) (gW _))));have grow:∀b o,(s.heap.update a (Obj.mapSeq λ_=>#[])).get? b=some o->(((s.heap.update a (Obj.mapSeq λ_=>#[])).push (seqObj "tuple" 102 0)).push (seqObj "list" #[] 0)).get? b=some o:=λb o e=>73 _ (73 _ e);have ho6:=grow _ _ ho1;generalize h6:((s.heap.update a (Obj.mapSeq λ_=>#[])).push (seqObj "tuple" 102 0)).push (seqObj "list" #[] 0)=hp6 at *;have done:∀out:List Value,Es vs ps out->P (.done (.ret .none)) { s with heap:=hp6.update a (Obj.mapSeq λ_=>out.toArray) }:=λout z=>by
  have:=h out z;unfold sortedHeap at this;rw[h6]at this;exact this
 show wpAny 97 A _ P E { s with heap:=hp6 };dsimp only;have pairs6:∀(i:Nat) (v:Value) (p:Int×Int),vs[i]?=some v->ps[i]?=some p->PairAt hp6 v p:=λi v p x y=>by
  obtain⟨x',o,t,u,k,e,q,c,d⟩:=hp i v p x y;exact⟨x',o,t,u,k,e,grow _ _ q,c,d⟩
 by_cases h2:vs.toArray.size<2
 .rw[gc h2,gc h2];refine gb (gh ?_);rw[StateT.run_pure];refine gb (gh ?_);dsimp only;have hout:(arrOf (SortSt.mk' general' (vs.toArray.zip 102) #[] 7 none)).map (·.2)=vs.toArray:=by
   show(vs.toArray.zip 102).map (·.2)=102;apply Array.toList_inj.mp;simp only[Array.toList_map,Array.toList_zip];exact map_snd_zip (gg _)
  rw[hout];refine gb (seqEpoch_at ho6 rfl (gb (iW ho6 rfl ?_ (gW _) (by rw[gu];omega))));simp only[bne_self_eq_false,Bool.false_eq_true,gT];refine gh (done vs ⟨vs.zip ps,.refl _,?_,?_⟩)
  .have hz:(vs.zip ps).length<2:=by simp at h2 ⊢;omega
   cases hh:vs.zip ps with
   |nil=>exact .nil
   |cons z r=>
    cases r with
    |nil=>exact List.pairwise_singleton _ _
    |cons y t=>rw[hh]at hz;exact absurd hz 77
  .rw[List.map_fst_zip 67]
 .rw[gf h2,gf h2];have h2':2<=vs.length:=by simp at h2;omega
  obtain⟨fs,t1,t2,t3⟩:=K2 hl pairs6;have tT:∀f∈fs,Looks 97 hp6 (typeOf f) (Value.type "int"):=λf hf=>by
   obtain⟨i,t,rfl⟩:=t3 f hf;exact .of_pure rfl
  refine gb (kat_kind (s:={ s with heap:=hp6 }) t1 67 tT rfl ?_);have est:SortSt.mk' (tuples' true) (vs.toArray.zip 102) #[] 7 none=kas_st (tuples' true) (pairsOf vs) (List.toArray (71 vs.length)):=by
   unfold kas_st;rw[<- pairsOf_size vs,kas_range];rfl
  have ask:(kas_sort vs.length).kasWp (kas_cmp prog w A (tuples' true) (pairsOf vs)) (λp s'=>s'={ s with heap:=hp6 }/\Es vs ps (p.toList.map λi=>vs.getD i Value.none)) { s with heap:=hp6 }:=by
   rw[<- kas_ask_eq];refine PWp.wp (n:=vs.length) (r:=λi=>AZ (ps.getD i (0,0))) (P:=λs'=>s'={ s with heap:=hp6 }) (λi j C s' hi hj e hC=>?_) ((OV 67).mono λp z s' e=>⟨e,R8 hl z.1 z.2⟩) rfl;subst e;have pi:ps[i]?=some (ps.getD i (0,0)):=by simp[show i<ps.length by omega]
   have pj:ps[j]?=some (ps.getD j (0,0)):=by simp[show j<ps.length by omega]
   have vi:vs[i]?=some (vs.getD i Value.none):=by simp[hi]
   have vj:vs[j]?=some (vs.getD j Value.none):=by simp[hj]
   exact Ow (s:={ s with heap:=hp6 }) (pairs6 i _ _ vi pi) (pairs6 j _ _ vj pj) (hok _ (gJ pi)) (hok _ (gJ pj)) (hC _ rfl)
  have run:=kas_runs (E:=E) (Q:=λ_ st' s'=>∃p:Array Nat,p.size=vs.length/\arrOf st'=p.map (kas_item (pairsOf vs))/\failedOf st'=none/\s'={ s with heap:=hp6 }/\Es vs ps (p.toList.map λi=>vs.getD i Value.none)) h2' h64 (λp st' s' x1 x2 x3 x4=>⟨p,x1,x2,x3,x4⟩) ask;rw[<- est]at run;refine gb (gz run ?_ λ_ _ e=>e);rintro⟨⟨⟩,st'⟩ s' ⟨p,hsz,har,hf,rfl,so⟩;dsimp only;have hout:(arrOf st').map (·.2)=(p.toList.map λi=>vs.getD i Value.none).toArray:=by
   rw[har];apply Array.toList_inj.mp;simp only[Array.toList_map,gH];exact j3 λi _=>i3 Prod.snd (kas_item_eq vs i)
  rw[hout];refine gb (seqEpoch_at ho6 rfl (gb (iW ho6 rfl ?_ (gW _) (by simp[hsz];omega))));rw[hf];simp only[bne_self_eq_false,Bool.false_eq_true,gT];exact gh (done _ so)
end
def PairAt.keep{h h':Heap}{v:Value}{p:Int×Int}(k:∀b o,h.get? b=some o->h'.get? b=some o)(q:PairAt h v p):PairAt h' v p:=by
 obtain⟨x,o,t,u,n,e,ho,c,d⟩:=q;exact⟨x,o,t,u,n,e,k _ _ ho,c,d⟩
section
variable{prog:Program}{w:World}{A:Around}{E:Value->Shared->Prop}{s:Shared}
def MR{l:Addr}{vs:List Value}{ps:List 103}{Q:Value->Shared->Prop}(hl:s.heap.IsList l 102)(hlen:vs.length=ps.length)(h64:vs.length<64)(hok:∀p∈ps,pok p)
 (hp:∀(i:Nat) (v:Value) (p:Int×Int),vs[i]?=some v->ps[i]?=some p->PairAt s.heap v p)
 (h:∀out:List Value,Es vs ps out->Q (.ref (66+1)) { s with heap:=sortedAll s.heap vs out.toArray }):
 wpAny 97 A (call (.builtin "sorted") [.ref l]) Q E s:=by
 have line:vs.length<=sizeLine:=by rw[gY];omega
 refine Calls.call_function_entry kind_sorted plain_sorted entry_sorted (args_sorted1 _) ?_;unfold Builtin.«sorted»;refine gb (m:=checkCount "sorted" 1 1 _) (gh (gb (collect_list hl (gb (iX ?_ line)) line)));have sz:((s.heap.push (seqObj "list" #[] 0)).update 66 (Obj.mapSeq (·++102))).objs.size=66+1:=by rw[Heap.size_update,size_push']
 have at1:(((s.heap.push (seqObj "list" #[] 0)).update 66 (Obj.mapSeq (·++102))).push (seqObj "list" 102 0)).get? (66+1)=some (seqObj "list" 102 0):=by
  have:=Heap.get?_push_size ((s.heap.push (seqObj "list" #[] 0)).update 66 (Obj.mapSeq (·++102))) (o:=seqObj "list" 102 0) rfl
  rwa [sz]at this
 have old:∀b o,s.heap.get? b=some o->((((s.heap.push (seqObj "list" #[] 0)).update 66 (Obj.mapSeq (·++102))).push (seqObj "list" 102 0)).update (66+1) (Obj.mapSeq λ_=>#[])).get? b=some o:=λb o e=>by
  have lt:=91 e;rw[Heap.get?_update_ne _ _ _ _ (gv (iT lt)),Heap.get?_push_ne _ _ _ (by rw[sz];exact gv (iT lt)),Heap.get?_update_ne _ _ _ _ (gv lt),Heap.get?_push_ne _ _ _ (gv lt)];exact e
 show wpAny _ _ _ _ _ { s with heap:=((s.heap.push (seqObj "list" #[] 0)).update s.heap.objs.size (Obj.mapSeq (·++vs.toArray))).push (seqObj "list" vs.toArray 0) };rw[sz];refine gb (gX (j7 slot_list_sort ⟨_,at1,rfl⟩ entry_list_sort (Ph at1 hlen h64 hok (λi v p a b=>(hp i v p a b).keep old) λout z=>⟨_,rfl,?_⟩) (args_list_sort _)));exact gh ⟨_,rfl,h out z⟩
end
section
variable(K:Frag){X:Cx}
def Ii:List V->Hp->VK->Prop:=λxs H Q=>∃(a:Addr) (us:List V) (ps:List 103),xs=[.ref a]/\SqL K H a us/\us.length=ps.length/\us.length<64/\(∀q∈ps,pok q)/\
 (∀(i:Nat) (u:V) (q:Int×Int),us[i]?=some u->ps[i]?=some q->∃x,u=.ref x/\SqT K H x [.int q.1,.int q.2])/\
 ∀(p:Addr) (zs:List (V×103)),H p=none->zs.Perm (us.zip ps)->(zs.map λz=>AZ z.2).Pairwise (·<=·)->Q (.ref p) (upd H p (.lst (zs.map (·.1))))
noncomputable def GO:Value->V
 |.ref x=>.ref x
 |_=>.non
theorem Ia:∀{us:List V} {its:List Value} {i:Nat} {u:V},Vals us its->us[i]?=some u->∃v,its[i]?=some v/\RelV u v
 |_,_,_,_,.nil,h=>by simp at h
 |_::_,_::_,0,_,.cons r _,h=>by
  simp at h;subst h;exact⟨_,rfl,r⟩
 |_::_,_::_,i+1,_,.cons _ t,h=>Ia (i:=i) t (by simpa using h)
def Nk(hK:X.K=K:=by rfl):CallR X (.builtin "sorted") (Ii K):=by
 subst hK;intro pins s σ H xs us0 Q I r h;obtain⟨a,us,ps,rfl,hq,hlen,h64,hok,hpr,q⟩:=h;obtain⟨u,rfl,ru⟩:=Bi r;cases ru;obtain⟨its,rv,p,hz⟩:=I.list hq;have hl2:us.length=its.length:=rv.length;have point:∀(i:Nat) (v:Value) (q:Int×Int),its[i]?=some v->ps[i]?=some q->(∃x,us[i]?=some (.ref x)/\v=.ref x)/\PairAt s.heap v q:=by
  intro i v q e1 e2;have hi:i<us.length:=by rw[hl2];exact(78 e1).1
  have eu:us[i]?=some us[i]:=by simp[hi]
  obtain⟨x,ex,sq⟩:=hpr i _ q eu e2;obtain⟨v',ev,rel⟩:=Ia rv eu;rw[e1]at ev;cases ev;rw[ex]at rel eu;have rel:v=Value.ref x:=rel;subst rel;refine⟨⟨x,eu,rfl⟩,?_⟩;obtain⟨jts,rj,⟨o,ho,hc,n,hd⟩,_⟩:=I.tuple sq;cases rj with
  |cons r1 t1=>
   cases t1 with
   |cons r2 t2=>
    cases t2;obtain⟨t,rfl⟩:=r1;obtain⟨t',rfl⟩:=r2;exact⟨x,o,t,t',n,rfl,ho,hc,hd⟩
 refine MR (ps:=ps) p.isList 67 67 hok (λi v q a b=>(point i v q a b).2) λout z=>?_;obtain⟨zs,pm,pw,rfl⟩:=z;obtain⟨e,he⟩:=sortedAll_at s.heap its (zs.map (·.1)).toArray;have mz:∀z∈zs,∃x,z.1=.ref x:=λz hz=>by
  have:=pm.mem_iff.mp hz;obtain⟨i,hi⟩:=mem_iff_getElem?.mp this;obtain⟨e1,e2⟩:=List.getElem?_zip_eq_some.mp hi;obtain⟨⟨x,_,ex⟩,_⟩:=point i _ _ e1 e2;exact⟨x,ex⟩
 have vz:∀{zs:List (Value×103)},(∀z∈zs,∃x,z.1=.ref x)->Vals (zs.map λz=>GO z.1) (zs.map (·.1)):=by
  intro zs
  induction zs with
  |nil=>intro _;exact .nil
  |cons z r ih=>
   intro h;obtain⟨x,ex⟩:=h z gp;refine .cons ?_ (ih λy hy=>h y (gi _ hy));show RelV (GO z.1) z.1;rw[ex];rfl
 have pm2:(zs.map λz=>(GO z.1,z.2)).Perm (us.zip ps):=by
  have:=pm.map λz:Value×103=>(GO z.1,z.2)
  have e:((its.zip ps).map λz:Value×103=>(GO z.1,z.2))=us.zip ps:=by
   refine iG λi=>?_;by_cases hi:i<us.length
   .have h1:i<its.length:=by omega
    have h2:i<ps.length:=by omega
    have e1:its[i]?=some its[i]:=by simp[h1]
    have e2:ps[i]?=some ps[i]:=by simp[h2]
    obtain⟨⟨x,ex,ev⟩,_⟩:=point i _ _ e1 e2;rw[List.getElem?_map,(List.getElem?_zip_eq_some (z:=(its[i],ps[i]))).mpr ⟨e1,e2⟩,(List.getElem?_zip_eq_some (z:=(V.ref x,ps[i]))).mpr ⟨ex,e2⟩,gR,ev];rfl
   .rw[List.getElem?_eq_none 79,List.getElem?_eq_none 79]
  rwa [e]at this
 have pw2:((zs.map λz=>(GO z.1,z.2)).map λz:V×103=>AZ z.2).Pairwise (·<=·):=by rw[gH];exact pw
 have fin:=q (66+1) _ (I.hok.fresh (ip _)) pm2 pw2;have em:(zs.map λz=>(GO z.1,z.2)).map (·.1)=zs.map λz=>GO z.1:=by rw[gH];rfl
 rw[em]at fin;have zl:zs.length<64:=by rw[pm.length_eq];simp;omega
 refine⟨.ref (66+1),_,I.laid (a:=66+1) (o:=.lst (zs.map λz=>GO z.1)) (t':=s.toks) (λb o hb=>sortedAll_old hb) (ip _) ⟨?_,_,e,vz mz,he⟩,rfl,fin⟩;rw[gy];exact il (HJ 67)
end
noncomputable def Ak(p:Int×Int):D:=.im (.tup [.int p.1,.int p.2])
noncomputable def D1:List D->Option (List 103)
 |[]=>some []
 |.im (.tup [.int a,.int b])::r=>(D1 r).map ((a,b)::·)
 |_=>none
def HY:∀{ds:List D} {ps:List 103},D1 ds=some ps->ds=ps.map Ak:=by
 intro ds
 induction ds with
 |nil=>intro ps h;simp[D1]at h;subst h;rfl
 |cons d r ih=>
  intro ps h;unfold D1 at h;split at h
  .next e=>cases e
  .next a b r' e=>
   cases e;obtain⟨qs,e1,rfl⟩:=gG h;rw[ih e1];rfl
  .cases h
@[simp] theorem QB(ps:List 103):D1 (ps.map Ak)=some ps:=by
 induction ps with
 |nil=>rfl
 |cons p r ih=>simp[D1,Ak]at ih ⊢;exact ih
noncomputable def B4(ps:List 103):List 103:=ps.mergeSort λa b=>decide (AZ a<=AZ b)
def Eh(ps:List 103):(B4 ps).Perm ps:=iZ ..
def HI(ps:List 103):(B4 ps).Pairwise λa b=>AZ a<=AZ b:=by
 have:=j8 (le:=λa b:Int×Int=>decide (AZ a<=AZ b)) (by intro a b c h1 h2;simp at *;omega) (by intro a b;simp;omega) ps;exact this.imp 77
def UH{p q:Int×Int}(a:pok p)(b:pok q)(h:AZ p=AZ q):p=q:=by
 unfold pok at a b;unfold AZ at h;exact Prod.ext 67 67
open Classical in
noncomputable def F5(m:MI):MA:=λls hd=>(m ls hd).bind λp=>(D1 p.1.1).bind λps=>if ps.length<64/\∀q∈ps,pok q then some ((B4 ps).map Ak,p.2)else none
section
variable{K:Frag}{ρ:List Addr}{H:Hp}{hd:Hd}
def Oe{p:Int×Int}{v:V}(h:RD K ρ H (Ak p) v):∃x,v=.ref x/\SqT K H x [.int p.1,.int p.2]:=by
 simp only[Ak,RD,RI,RIs]at h;obtain⟨a,xs,rfl,q,x,r,rfl,rfl,y,r2,rfl,rfl,rfl⟩:=h;exact⟨a,rfl,q⟩
def Pu{t:TE}{m:MI}(h:RRw K false t m):RN K (tCB (Ii K) (Ax t BZ)) (F5 m):=by
 and_intros;obtain⟨⟨⟨d1,g1⟩,h1⟩,e1,hm⟩:=gF hm;obtain⟨ps,e2,hm⟩:=gF hm;split at hm
 .next c=>
  cases hm;refine h ρ σ H hd ls _ d1 g1 _ hR hL e1 λρ1 H1 a x1 R1 G1 S1=>?_;obtain⟨xs,q,r⟩:=S1 ρ1 H1 _ .refl R1 G1;have e2:D1 d1=some ps:=e2;rw[HY e2]at r;have hl:xs.length=ps.length:=by simpa using r.len
  have each:∀(i:Nat) (u:V) (q:Int×Int),xs[i]?=some u->ps[i]?=some q->RD K ρ1 H1 (Ak q) u:=λi u q a b=>by
   obtain⟨x,e,z⟩:=r.get (i:=i) (d:=Ak q) (by simp[b]);rw[a]at e;cases e;exact z
  refine⟨a,xs,ps,rfl,q,hl,by rw[hl];exact c.1,c.2,λi u q a b=>Oe (each i u q a b),λp zs hp pm pw=>?_⟩;have es:zs.map (·.2)=B4 ps:=by
   have pp:(zs.map (·.2)).Perm ps:=by
    have:=pm.map (λz:V×103=>z.2)
    rwa [map_snd_zip 67]at this
   refine(pp.trans (Eh ps).symm).eq_of_pairwise (le:=λa b=>AZ a<=AZ b) (λx y hx hy l1 l2=>UH (c.2 _ (pp.mem_iff.mp hx)) (c.2 _ ((Eh ps).mem_iff.mp hy)) (Int.le_antisymm l1 l2)) ?_ (HI ps);rw[iH]at pw ⊢;exact pw
  obtain⟨R2,x2⟩:=R1.hid (ho:=.lst (zs.map (·.1))) hp;have all:∀z∈zs,RD K ρ1 H1 (Ak z.2) z.1:=λz hz=>by
   obtain⟨i,hi⟩:=mem_iff_getElem?.mp (pm.mem_iff.mp hz);obtain⟨a1,a2⟩:=List.getElem?_zip_eq_some.mp hi;exact each i _ _ a1 a2
  have rd:∀{zs:List (V×103)},(∀z∈zs,RD K ρ1 H1 (Ak z.2) z.1)->RDs K ρ1 H1 ((zs.map (·.2)).map Ak) (zs.map (·.1)):=by
   intro zs
   induction zs with
   |nil=>intro _;exact .nil
   |cons z r ih=>intro h;exact .cons (h z gp) (ih λy hy=>h y (gi _ hy))
  have rz:=rd all;rw[es]at rz;exact hQ ρ1 _ p _ 84 R2 (x1.none hR hp R1) (R1.out hp) AK (rz.ext R1 x2)
 .cases hm
open Classical in
noncomputable def G7:D->List D->Hd->Option (D×Hd)
 |.mu n,[.im (.int i)],hd=>match hd[n]? with
  |some (.lst ds)=>if GN i then(ixN ds.length i).bind λk=>(ds[k]?).map λy=>(y,hd.set n (.lst (ds.eraseIdx k)))else none
  |_=>none
 |_,_,_=>none
theorem RDs.erase:∀{ds:List D} {xs:List V} (k:Nat),RDs K ρ H ds xs->RDs K ρ H (ds.eraseIdx k) (xs.eraseIdx k)
 |[],_,_,h=>by simp only[RDs]at h;subst h;simp[RDs]
 |d::ds,_,0,h=>by simp only[RDs]at h;obtain⟨x,r,rfl,_,t⟩:=h;simpa using t
 |d::ds,_,k+1,h=>by
  simp only[RDs]at h;obtain⟨x,r,rfl,a,t⟩:=h;simpa using RDs.cons a (RDs.erase k t)
end
def Tf{K:Frag}:RM K Ro G7:=by
 intro ρ H hd d v ds vs Q z hd' hR h1 h2 hf hQ;unfold G7 at hf;split at hf
 .split at hf
  .next q=>
   split at hf
   .next c=>
    obtain⟨k,e0,hf⟩:=gF hf;obtain⟨y,e1,e3⟩:=gG hf;cases e3;simp only[RD]at h1;obtain⟨a,hn,rfl⟩:=h1;simp only[RDs,RD,RI]at h2;obtain⟨x,r,rfl,rfl,rfl⟩:=h2;obtain⟨xs,f1,f2⟩:=hR.lst hn q;obtain⟨x,x1,x3⟩:=f2.get e1;obtain⟨R2,x2⟩:=hR.put hn (o:=.lst _) (ho:=.lst (xs.eraseIdx k)) ⟨_,rfl,f2.erase k⟩;obtain⟨s1,s2,s3,s4⟩:=KO e0;have sz:=f2.len;unfold GN at c;exact⟨a,xs,_,k,x,rfl,rfl,f1,by omega,by omega,by rw[sz];exact s1,x1,hQ ρ _ _ x2 R2 (x3.ext hR x2)⟩
   .cases hf
  .cases hf
 .cases hf
section
variable(K:Frag){X:Cx}{e:Expr}{te:TE}{p pos:Pos}
def Q4{mi:MI}(hm:X.mg "sorted"=none)(ha:QR K false X e te mi)(hg:Gl X "sorted":=by rfl)(he:starEach [e] X.env=[90]:=by rfl)(hK:X.K=K:=by rfl):QN K X (.Call (.Name "sorted" p) [e] [] pos) (tCB (Ii K) (Ax te BZ)) (F5 mi):=
 ⟨F2 (Nk K hK) hg hm FX (BQ ha.p C1 he) 98 98 he rfl,Pu ha.r⟩
end
section
variable{ls:Ls}{hd:Hd}
open Classical in
@[simp] theorem Uo(k:Nat)(i:Int):G7 (.mu k) [.im (.int i)] hd=match hd[k]? with
 |some (.lst ds)=>if GN i then(ixN ds.length i).bind λj=>(ds[j]?).map λy=>(y,hd.set k (.lst (ds.eraseIdx j)))else none
 |_=>none:=rfl
open Classical in
@[simp] theorem cR(mi:MI):F5 mi ls hd=(mi ls hd).bind λp=>(D1 p.1.1).bind λps=>if ps.length<64/\∀q∈ps,pok q then some ((B4 ps).map Ak,p.2)else none:=rfl
end
noncomputable def HZ(p:Int×Int):I:=.tup [.int p.1,.int p.2]
end L2
namespace L2
open PySem PySem.Spec PyProof.Rows
def WP{α:Type}(o:Option (α×Hd))(Q:α->Hd->Prop):Prop:=∃z h,o=some (z,h)/\Q z h
abbrev WS(m:MS)(ls:Ls)(hd:Hd)(Q:Fl->Hd->Prop):Prop:=WP (m ls hd) Q
abbrev WE(m:ME)(ls:Ls)(hd:Hd)(Q:D->Hd->Prop):Prop:=WP (m ls hd) Q
abbrev WT(m:MT)(ls:Ls)(hd:Hd)(Q:Bool->Hd->Prop):Prop:=WP (m ls hd) Q
abbrev WA(m:MA)(ls:Ls)(hd:Hd)(Q:List D->Hd->Prop):Prop:=WP (m ls hd) Q
abbrev WI(m:MI)(ls:Ls)(hd:Hd)(Q:List D×Gd->Hd->Prop):Prop:=WP (m ls hd) Q
abbrev WF(F:List D->Hd->Option (D×Hd))(ds:List D)(hd:Hd)(Q:D->Hd->Prop):Prop:=WP (F ds hd) Q
section
variable{α β:Type}{o:Option (α×Hd)}{Q:α->Hd->Prop}{R:β->Hd->Prop}{ls:Ls}{hd:Hd}{d e:D}
theorem WP.some{z:α}{h:Hd}(q:Q z h):WP (some (z,h)) Q:=⟨z,h,rfl,q⟩
def WP.mono{Q':α->Hd->Prop}(h:WP o Q)(k:∀z h,Q z h->Q' z h):WP o Q':=let ⟨z,x,e,q⟩:=h;⟨z,x,e,k z x q⟩
theorem WP.bind{f:α×Hd->Option (β×Hd)}(h:WP o λz x=>WP (f (z,x)) R):WP (o.bind f) R:=by
 obtain⟨z,x,e,q⟩:=h;rw[e];exact q
def WP.eq{z:α}{h:Hd}(e:o=Option.some (z,h))(q:Q z h):WP o Q:=⟨z,h,e,q⟩
end
section
variable{ls:Ls}{hd:Hd}{a b:MS}{ma mb mc:ME}{ta tb:MT}{m m1 m2:MA}{n:MG}{ns:MGs}{mi:MI}{d e:D}{i j:Nat}{QS:Fl->Hd->Prop}{QE:D->Hd->Prop}{QT:Bool->Hd->Prop}{QA:List D->Hd->Prop}{QO:Option Int->Hd->Prop}{QI:List D×Gd->Hd->Prop}
noncomputable def PP(b:MS)(Q:Fl->Hd->Prop):Fl->Hd->Prop
 |.nx l,h=>WS b l h Q
 |f,h=>Q f h
def AB(h:WS a ls hd (PP b QS)):WS (A9 a b) ls hd QS:=by
 obtain⟨f,x,e,q⟩:=h;show WP (A9 a b ls hd) QS;rw[NW,e];cases f<;>first|exact q|exact⟨_,_,rfl,q⟩
def A6{l:Ls}{h:Hd}(q:WS b l h QS):PP b QS (.nx l) h:=q
def Ib{h:Hd}(q:QS (.rt d) h):PP b QS (.rt d) h:=q
def AX(h:QS (.nx ls) hd):WS AU ls hd QS:=⟨_,_,rfl,h⟩
def AY(h:WE ma ls hd λd x=>QS (.rt d) x):WS (AN ma) ls hd QS:=WP.bind (h.mono λ_ _ q=>WP.some q)
def AL(h:WE ma ls hd λd x=>QS (.nx (ls.set i (some d))) x):WS (AI i ma) ls hd QS:=by
 obtain⟨d,x,e,q⟩:=h;exact⟨_,_,by simp only[Jo,e,gq,KU,gR],q⟩
def Qs(h:WE ma ls hd λd x=>∃l,n d ls x=some l/\QS (.nx l) x):WS (Ir ma n) ls hd QS:=by
 obtain⟨d,x,e,l,e2,q⟩:=h;exact⟨_,_,by simp only[Jo,e,gq,e2,gR],q⟩
def Aq(h:WE ma ls hd λ_ x=>QS (.nx ls) x):WS (B5 ma) ls hd QS:=WP.bind (h.mono λ_ _ q=>WP.some q)
def bF(h:WT ta ls hd λc x=>if c=true then WS a ls x QS else WS b ls x QS):WS (Ae ta a b) ls hd QS:=by
 refine WP.bind (h.mono λc x q=>?_);dsimp only;cases c<;>simpa using q
def Af(h:WT ta ls hd λc x=>(c=true->WS a ls x QS)/\(c=false->WS b ls x QS)):WS (Ae ta a b) ls hd QS:=
 bF (h.mono λc x q=>by cases c<;>simp_all)
def MB{ix:List Nat}(h:WA m ls hd λds x=>ds.length=ix.length/\QS (.nx ((ix.zip ds).foldl (λl q=>l.set q.1 (some q.2)) ls)) x):WS (QL ix m) ls hd QS:=by
 obtain⟨d,x,e,q,q2⟩:=h;exact⟨_,_,by simp only[af,e,gq,q,gw],q2⟩
def WL(n:MG)(b:MS)(g:Gd)(ds:List D)(ls:Ls)(hd:Hd)(Q:Fl->Hd->Prop):Prop:=WP (B2 n b g ds ls hd) Q
def BM(h:WI mi ls hd λp x=>WL n b p.2 p.1 ls x QS):WS (Bb mi n b) ls hd QS:=WP.bind (h.mono λ_ _ q=>q)
noncomputable def bI(g:Gd)(P:Ls->Hd->Prop)(Q:Fl->Hd->Prop):Fl->Hd->Prop
 |.nx l,h=>GOk h g/\P l h
 |.ct l,h=>GOk h g/\P l h
 |.bk l,h=>Q (.nx l) h
 |.rt d,h=>Q (.rt d) h
theorem BD{g:Gd}(P:List D->Ls->Hd->Prop):∀{ds:List D} {ls:Ls} {hd:Hd},P ds ls hd ->
 (∀d r ls hd,P (d::r) ls hd->∃ls1,n d ls hd=some ls1/\WS b ls1 hd (bI g (P r) QS))->(∀ls hd,P [] ls hd->QS (.nx ls) hd)->WL n b g ds ls hd QS
 |[],ls,hd,h,_,z=>⟨_,_,by unfold B2;rfl,z _ _ h⟩
 |d::r,ls,hd,h,k,z=>by
  obtain⟨ls1,e1,f,x,e2,q⟩:=k d r ls hd h;unfold WL;unfold B2;rw[e1,gq,e2,gq];cases f with
  |nx l=>exact(show GOk x g/\P r l x from q).1 |> λg1=>by dsimp only;rw[gc g1];exact BD P q.2 k z
  |ct l=>exact(show GOk x g/\P r l x from q).1 |> λg1=>by dsimp only;rw[gc g1];exact BD P q.2 k z
  |bk l=>exact⟨_,_,rfl,q⟩
  |rt l=>exact⟨_,_,rfl,q⟩
def A1(h:ls[i]?=some (some d))(q:QE d hd):WE (A0 i) ls hd QE:=⟨d,hd,by rw[Jn,h],q⟩
def AG{i:I}(q:QE (.im i) hd):WE (mC i) ls hd QE:=⟨_,_,rfl,q⟩
def A7{f:D->D->Hd->Option (D×Hd)}(h:WE ma ls hd λd x=>WE mb ls x λe y=>WP (f d e y) QE):WE (mOp f ma mb) ls hd QE:=WP.bind (h.mono λ_ _ q=>WP.bind (q.mono λ_ _ q=>q))
def V2(h:WT ta ls hd λc x=>if c=true then WE ma ls x QE else WE mb ls x QE):WE (mIf ta ma mb) ls hd QE:=by
 refine WP.bind (h.mono λc x q=>?_);dsimp only;cases c<;>simpa using q
def YH(h:WT ta ls hd λc x=>(c=true->WE ma ls x QE)/\(c=false->WE mb ls x QE)):WE (mIf ta ma mb) ls hd QE:=
 V2 (h.mono λc x q=>by cases c<;>simp_all)
def B8(h:WA m ls hd λds x=>Bj ds.length/\QE (AW ds) x):WE (BW m) ls hd QE:=WP.bind (h.mono λds x q=>by dsimp only;rw[gc q.1];exact WP.some q.2)
def B9(h:WA m ls hd λds x=>QE (.mu x.length) (x++[.lst ds])):WE (Au m) ls hd QE:=WP.bind (h.mono λ_ _ q=>WP.some q)
def BA{g:List D->Option D}(h:WA m ls hd λds x=>∃d,g ds=some d/\QE d x):WE (Ay g m) ls hd QE:=by
 obtain⟨ds,x,e,d,e2,q⟩:=h;exact⟨d,x,by simp only[SX,e,gq,e2,gR],q⟩
def Ev(h:WA m ls hd λds x=>WE ma ls x λe y=>∃i d,e=.im (.int i)/\atI ds i=some d/\QE d y):WE (GV m ma) ls hd QE:=by
 obtain⟨ds,x,e,d,y,e2,i,z,rfl,e4,q⟩:=h;exact⟨z,y,by simp only[am,e,gq,e2,e4,gR],q⟩
def BJ{f:List D->Hd->Option (D×Hd)}(h:WA m ls hd λds x=>WP (f ds x) QE):WE (mCB f m) ls hd QE:=WP.bind (h.mono λ_ _ q=>q)
def Db{f:D->List D->Hd->Option (D×Hd)}(h:WE ma ls hd λd x=>(∃l,Ai x d=some l)/\WA m ls x λds y=>WP (f d ds y) QE):WE (mMt f ma m) ls hd QE:=by
 obtain⟨d,x,e,⟨l,hl⟩,q⟩:=h;unfold WE;rw[cT,e,gq];dsimp only;rw[hl];exact WP.bind (q.mono λ_ _ q=>q)
def Dy{F:List D->Hd->Option (D×Hd)}(h:WA m ls hd λds x=>WF F ds x QE):WE (D2 F m) ls hd QE:=WP.bind (h.mono λ_ _ q=>q)
def Ft(h:WE ma ls hd λd x=>∃i,d=.im (.int i)/\QE (.im (.int (-i))) x):WE (Eb ma) ls hd QE:=by
 obtain⟨d,x,e,i,rfl,q⟩:=h;exact⟨_,x,by simp only[ak,e,gq],q⟩
def K0(h:WT (AF ma) ls hd λc x=>if c=true then WE mb ls x QE else QE (.im (.bl false)) x):WE (FP ma mb) ls hd QE:=by
 refine WP.bind (h.mono λc x q=>?_);dsimp only;cases c
 .exact WP.some (by simpa using q)
 .simpa using q
def YG(h:WT (AF ma) ls hd λc x=>if c=true then QE (.im (.bl true)) x else WE mb ls x QE):WE (KL ma mb) ls hd QE:=by
 refine WP.bind (h.mono λc x q=>?_);dsimp only;cases c
 .simpa using q
 .exact WP.some (by simpa using q)
def Ve(h:WT (AF ma) ls hd λc x=>QE (.im (.bl (!c))) x):WE (IB ma) ls hd QE:=WP.bind (h.mono λ_ _ q=>WP.some q)
def AO(h:WE ma ls hd λd x=>∃b,d=.im (.bl b)/\QT b x):WT (AF ma) ls hd QT:=by
 obtain⟨d,x,e,b,rfl,q⟩:=h;exact⟨b,x,by simp only[P3,e,gq],q⟩
def BL(h:WE ma ls hd λd x=>∃b,Cy x d=some b/\QT b x):WT (Bx ma) ls hd QT:=by
 obtain⟨d,x,e,b,e2,q⟩:=h;exact⟨b,x,by simp only[ad,e,gq,e2,gR],q⟩
def CP(h:WT ta ls hd λc x=>QT (!c) x):WT (E5 ta) ls hd QT:=WP.bind (h.mono λ_ _ q=>WP.some q)
def DY(h:WT ta ls hd λc x=>if c=true then WT tb ls x QT else QT false x):WT (E6 ta tb) ls hd QT:=by
 refine WP.bind (h.mono λc x q=>?_);dsimp only;cases c
 .exact WP.some (by simpa using q)
 .simpa using q
def GE(h:WT ta ls hd λc x=>if c=true then QT true x else WT tb ls x QT):WT (mOr ta tb) ls hd QT:=by
 refine WP.bind (h.mono λc x q=>?_);dsimp only;cases c
 .simpa using q
 .exact WP.some (by simpa using q)
def BV(h:QT true hd):WT Bq ls hd QT:=⟨_,_,rfl,h⟩
def A4(h:QA [] hd):WA A5 ls hd QA:=⟨_,_,rfl,h⟩
def A3(h:WE ma ls hd λd x=>WA m ls x λds y=>QA (d::ds) y):WA (A2 ma m) ls hd QA:=WP.bind (h.mono λ_ _ q=>WP.bind (q.mono λ_ _ q=>WP.some q))
def Bg(h:WA m ls hd λds x=>Bj ds.length/\QA ds x):WA (C5 m) ls hd QA:=WP.bind (h.mono λds x q=>by dsimp only;rw[gc q.1];exact WP.some q.2)
def Vh{k:Int}(e:m ls hd=some ([.im (.int k)],hd))(hk:M0 k)(q:QA (Ab 0 k.toNat) hd):WA (Hf m) ls hd QA:=⟨_,_,by simp only[ae,e,gq,hk,gw],q⟩
def GG(h:WA m ls hd λds x=>∃k,ds=[.im (.int k)]/\GN k/\QI (Ab 0 k.toNat,[]) x):WI (DL m) ls hd QI:=by
 obtain⟨ds,x,e,k,rfl,c,q⟩:=h;exact⟨_,x,by simp only[ao,e,gq,c,gw],q⟩
def Ln(h:WA m ls hd λds x=>∃j k,ds=[.im (.int j),.im (.int k)]/\Ps j k/\QI (Ab j (k-j).toNat,[]) x):WI (IC m) ls hd QI:=by
 obtain⟨ds,x,e,j,k,rfl,c,q⟩:=h;exact⟨_,x,by simp only[Y3,e,gq,c,gw],q⟩
def BP(h:WE ma ls hd λd x=>∃ds,Aa d=some ds/\QI (ds,[]) x):WI (An ma) ls hd QI:=by
 obtain⟨d,x,e,ds,e2,q⟩:=h;exact⟨_,x,by simp only[NX,e,gq,e2,gR],q⟩
def MD(h:WA m ls hd λds x=>QI (ds,[]) x):WI (Fc m) ls hd QI:=by
 obtain⟨ds,x,e,q⟩:=h;exact⟨_,x,by simp only[aq,e,gR],q⟩
def EY(h:WE ma ls hd λd x=>∃k ds,d=.mu k/\x[k]?=some (.lst ds)/\QI (ds,[(k,ds)]) x):WI (C6 ma) ls hd QI:=by
 obtain⟨d,x,e,k,ds,rfl,e2,q⟩:=h;exact⟨_,x,by simp only[ap,e,gq,e2],q⟩
def Ah{k:Nat}{ix:List Nat}(h:WI mi ls hd λp x=>Bj p.1.length/\WP (B3 n ta ma p.2 p.1 (EJ k ix ls) x) QA):WA (Ad k ix mi n ta ma) ls hd QA:=WP.bind (h.mono λp x q=>by dsimp only;rw[gc q.1];exact q.2)
def Bm{i j:Int}(q:QE (.im (.int (i+j))) hd):WP (Aw (.im (.int i)) (.im (.int j)) hd) QE:=⟨_,_,by simp,q⟩
def CQ{i j:Int}(q:QE (.im (.int (i-j))) hd):WP (CL (.im (.int i)) (.im (.int j)) hd) QE:=⟨_,_,by simp,q⟩
def JG{i j:Int}(c:EC i j)(q:QE (.im (.int (i*j))) hd):WP (Cz (.im (.int i)) (.im (.int j)) hd) QE:=⟨_,_,by simp[c],q⟩
def FG{i j:Int}(q:QE (.im (.bl (decide (i<j)))) hd):WP (gLt (.im (.int i)) (.im (.int j)) hd) QE:=⟨_,_,by simp,q⟩
def GF{i j:Int}(q:QE (.im (.bl (decide (i<=j)))) hd):WP (gLe (.im (.int i)) (.im (.int j)) hd) QE:=⟨_,_,by simp,q⟩
def EA{i j:Int}(q:QE (.im (.bl (decide (j<i)))) hd):WP (gGt (.im (.int i)) (.im (.int j)) hd) QE:=⟨_,_,by simp,q⟩
def PD{i j:Int}(q:QE (.im (.bl (decide (j<=i)))) hd):WP (gGe (.im (.int i)) (.im (.int j)) hd) QE:=⟨_,_,by simp,q⟩
def Cf{i j:Int}(q:QE (.im (.bl (decide (i=j)))) hd):WP (gEq (.im (.int i)) (.im (.int j)) hd) QE:=⟨_,_,by simp,q⟩
def DZ{i j:Int}(q:QE (.im (.bl (!decide (i=j)))) hd):WP (gNe (.im (.int i)) (.im (.int j)) hd) QE:=⟨_,_,by simp,q⟩
def MC{i j:Str}(q:QE (.im (.bl (decide (i=j)))) hd):WP (gEq (.im (.str i)) (.im (.str j)) hd) QE:=⟨_,_,by simp,q⟩
def HB{i j:Str}(q:QE (.im (.bl (!decide (i=j)))) hd):WP (gNe (.im (.str i)) (.im (.str j)) hd) QE:=⟨_,_,by simp,q⟩
def AH{i:Int}{ds:List D}(e1:Av hd d=some ds)(e2:atI ds i=some e)(q:QE e hd):WP (gIx d (.im (.int i)) hd) QE:=⟨_,_,by rw[cU,e1,gq,e2];rfl,q⟩
def Fr{i j:Int}(q:QE (.im (.int (max i j))) hd):WP (FU [.im (.int i),.im (.int j)] hd) QE:=⟨_,_,rfl,by have:(if j>i then j else i)=max i j:=(by split<;>omega);rw[this];exact q⟩
def Jy{i j:Int}(q:QE (.im (.int (min i j))) hd):WP (VT [.im (.int i),.im (.int j)] hd) QE:=⟨_,_,rfl,by have:(if j<i then j else i)=min i j:=(by split<;>omega);rw[this];exact q⟩
def C0{tp:Bool}{g:List D->Option D}{ds:List D}{z:D}(e1:(if tp then Av hd d else Ai hd d)=some ds)(e2:g ds=some z)(q:QE z hd):WP (f1 tp g [d] hd) QE:=⟨_,_,by rw[VU,e1,gq,e2];rfl,q⟩
def EN{k:Nat}{x:D}{ds:List D}(e1:hd[k]?=some (.lst ds))(c:Gg ds.length)(q:QE (.im .non) (hd.set k (.lst (ds++[x])))):WP (BI (.mu k) [x] hd) QE:=⟨_,_,by rw[aw,e1];simp only[c,gw],q⟩
def Eo(h:WE mc ls hd λp x=>WE ma ls x λq y=>WE mb ls y λr z=>∃w i j ds,q=.mu w/\r=.im (.int i)/\z[w]?=some (.lst ds)/\ixN ds.length i=some j/\QS (.nx ls) (z.set w (.lst (ds.set j p)))):WS (Dg ma mb mc) ls hd QS:=by
 obtain⟨p,x,e1,q,y,e2,r,z,e3,w,i,j,ds,rfl,rfl,e5,c,qq⟩:=h;exact⟨_,_,by simp only[Y0,e1,gq,e2,e3,e5,c,gR],qq⟩
def Ac{k n:Nat}{m:MS}{ds:List D}{Q:D->Hd->Prop}(hl:ds.length=k)(h:WS m (ds.map some++96 (n-k) none) hd λf x=>match f with
 |.rt d=>Q d x
 |.nx _=>Q (.im .non) x
 | _=>False):WF (mkF k n m) ds hd Q:=by
 obtain⟨f,x,e,q⟩:=h;unfold WF mkF;rw[gc hl,e];cases f with
 |nx l=>exact⟨_,_,rfl,q⟩
 |rt l=>exact⟨_,_,rfl,q⟩
 |bk l=>exact q.elim
 |ct l=>exact q.elim
def AC{F:List D->Hd->Option (D×Hd)}(h:WA m ls hd λds x=>Az 0 ds=true/\WF F ds [] λd _=>∃i,d=.im i/\QE (.im i) x):WE (A8 0 F m) ls hd QE:=by
 obtain⟨ds,x,e,c,d,y,e2,i,rfl,q⟩:=h;exact⟨_,_,FW e c e2,q⟩
end
structure Tap(T:Nat->MO->MO->Prop)(P:List D->Hd->Option (D×Hd)):Prop where
 cl:∀{k:Nat} {a b:MO},T k a b->clO 2 a=true/\clO 2 b=true
 le:∀{j k:Nat} {a b:MO},T k a b->j<=k->T j a b
 pick:∀{k:Nat} {a b:MO} {many:Int},T (k+1) a b->0<many->many<1073741824->∃r a' b',0<=r/\r<many/\P [.mu 1,.im (.int many)] [a,b]=some (.im (.int r),[a',b'])/\T k a' b'
section
variable{T:Nat->MO->MO->Prop}{P:List D->Hd->Option (D×Hd)}{a b:MO}{rest:Hd}{ls:Ls}{m:MA}{QE:D->Hd->Prop}{n c:Nat}
def Tap.draw(t:Tap T P)(hT:T (n+1) a b){many:Int}{hd:Hd}(e:m ls hd=some ([.mu 1,.im (.int many)],a::b::rest))(h0:0<many)(h1:many<1073741824)
 (k:∀r a' b',T n a' b'->0<=r->r<many->QE (.im (.int r)) (a'::b'::rest)):WE (A8 2 P m) ls hd QE:=by
 obtain⟨r,a',b',p1,p2,e2,hT'⟩:=t.pick hT h0 h1;refine⟨_,_,J9 (w:=2) (ds:=[.mu 1,.im (.int many)]) (pre:=[a,b]) (pre':=[a',b']) (rest:=rest) (g:=[]) rfl rfl e 77 ?_ ?_ (by simpa using e2),k r a' b' hT' p1 p2⟩
 .simp[t.cl hT]
 .simp[t.cl hT']
end
section
variable{K:Frag}{ρ ρ':List Addr}{H H':Hp}{hd hd':Hd}
noncomputable def cM:ME:=λ_ hd=>some (.mu hd.length,hd++[.dic []])
def Jz{ls:Ls}{Q:D->Hd->Prop}(q:Q (.mu hd.length) (hd++[.dic []])):WE cM ls hd Q:=⟨_,_,rfl,q⟩
end
mutual
theorem Nh{v w:Nat}(h:v<=w):∀{d:D},clD v d=true->clD w d=true
 |.im i,_=>by simp
 |.mu n,c=>by simp at c ⊢;omega
 |.tm ds,c=>by rw[clD]at c ⊢;exact EX h c
 |.ro ns,_=>by rw[clD]
 |.op _ _ ds,c=>by rw[clD]at c ⊢;exact EX h c
 |.fv _ ds,c=>by rw[clD]at c ⊢;exact EX h c
theorem EX{v w:Nat}(h:v<=w):∀{ds:List D},Az v ds=true->Az w ds=true
 |[],_=>by simp
 |d::ds,c=>by
  simp only[Sg,Bool.and_eq_true]at c ⊢;exact⟨Nh h c.1,EX h c.2⟩
end
theorem LK{v w:Nat}(h:v<=w):∀{ds:List (Key×D)},Fq v ds=true->Fq w ds=true
 |[],_=>by simp[Fq]
 |d::ds,c=>by
  simp only[Fq,Bool.and_eq_true]at c ⊢;exact⟨Nh h c.1,LK h c.2⟩
def Uv{v w:Nat}(h:v<=w){o:MO}(c:clO v o=true):clO w o=true:=by
 cases o with
 |lst ds=>exact EX h c
 |dic ds=>exact LK h c
section
variable{T:Nat->MO->MO->Prop}{P:List D->Hd->Option (D×Hd)}{a b:MO}{rest:Hd}{ls:Ls}{m:MA}{QE:D->Hd->Prop}
def Tap.callX(t:Tap T P){n c:Nat}(hT:T (n+c) a b)(ex:Hd){w:Nat}{F:List D->Hd->Option (D×Hd)}{as:List D}{hd:Hd}{R:I->Prop}(e:m ls hd=some (.mu 1::as,a::b::(ex++rest)))(hw:w=ex.length+2)(ha:Az w as=true)(hx:ex.all (clO w)=true)
 (hF:∀a b,T (n+c) a b->WF F (.mu 1::as) (a::b::ex) λd x=>∃i a' b' g,d=.im i/\R i/\T n a' b'/\x=a'::b'::(ex++g))
 (k:∀i a' b',T n a' b'->R i->QE (.im i) (a'::b'::(ex++rest))):WE (A8 w F m) ls hd QE:=by
 subst hw;have hcl:∀o,clO 2 o=true->clO (ex.length+2) o=true:=λo h=>Uv 67 h;obtain⟨d,x,e2,i,a',b',g,rfl,hR,hT',rfl⟩:=hF a b hT;refine⟨_,_,J9 (w:=ex.length+2) (ds:=.mu 1::as) (pre:=a::b::ex) (pre':=a'::b'::ex) (rest:=rest) (g:=g) rfl rfl e (by simp[ha]) ?_ ?_ e2,k i a' b' hT' hR⟩
 .simp[hcl _ (t.cl hT).1,hcl _ (t.cl hT).2];simpa using hx
 .simp[hcl _ (t.cl hT').1,hcl _ (t.cl hT').2];simpa using hx
def Tap.call(t:Tap T P){n c:Nat}(hT:T (n+c) a b){F:List D->Hd->Option (D×Hd)}{as:List D}{hd:Hd}{R:I->Prop}(e:m ls hd=some (.mu 1::as,a::b::rest))(ha:Az 2 as=true)
 (hF:∀a b,T (n+c) a b->WF F (.mu 1::as) [a,b] λd x=>∃i a' b' g,d=.im i/\R i/\T n a' b'/\x=a'::b'::g)
 (k:∀i a' b',T n a' b'->R i->QE (.im i) (a'::b'::rest)):WE (A8 2 F m) ls hd QE:=
 t.callX hT [] (w:=2) e rfl ha rfl hF k
end
end L2
namespace L2
open PySem PySem.Spec PyProof.Rows
section
variable{ls:Ls}{hd:Hd}{b:MS}{c:MT}{Q:Fl->Hd->Prop}{QE:D->Hd->Prop}
noncomputable def bH(P:Ls->Hd->Prop)(Q:Fl->Hd->Prop):Fl->Hd->Prop
 |.nx l,h=>P l h
 |.ct l,h=>P l h
 |.bk l,h=>Q (.nx l) h
 |.rt d,h=>Q (.rt d) h
def Sr(P:Nat->Ls->Hd->Prop){n:Nat}(h:P n ls hd)
 (k:∀n ls hd,P n ls hd->WT c ls hd λt x=>if t=true then WS b ls x (bH (λl y=>∃m,m<n/\P m l y) Q)else Q (.nx ls) x):WS (F4 c b) ls hd Q:=by
 have go:∀n ls hd,P n ls hd->∃j r,BN c b j ls hd=some r/\Q r.1 r.2:=by
  intro n
  induction n using Nat.strongRecOn with
  |ind n ih=>
   intro ls hd h;obtain⟨t,x,e1,q⟩:=k n ls hd h;cases t with
   |false=>
    rw[gf Bool.false_ne_true]at q;exact⟨1,(.nx ls,x),by unfold BN;rw[e1];rfl,q⟩
   |true=>
    rw[gc rfl]at q;obtain⟨f,y,e2,q⟩:=q;cases f with
    |nx l=>
     obtain⟨m,hm,p⟩:=q;obtain⟨j,r,e3,q3⟩:=ih m hm l y p;exact⟨j+1,r,by unfold BN;rw[e1,gq,gc rfl,e2];exact e3,q3⟩
    |ct l=>
     obtain⟨m,hm,p⟩:=q;obtain⟨j,r,e3,q3⟩:=ih m hm l y p;exact⟨j+1,r,by unfold BN;rw[e1,gq,gc rfl,e2];exact e3,q3⟩
    |bk l=>exact⟨1,(.nx l,y),by unfold BN;rw[e1,gq,gc rfl,e2];rfl,q⟩
    |rt d=>exact⟨1,(.rt d,y),by unfold BN;rw[e1,gq,gc rfl,e2];rfl,q⟩
 obtain⟨j,⟨f,x⟩,e,q⟩:=go n ls hd h;exact⟨f,x,SI e,q⟩
def Ss{k j:Nat}{i:Int}{ds:List D}{z:D}(e1:hd[k]?=some (.lst ds))(hr:GN i)(e2:ixN ds.length i=some j)(e3:ds[j]?=some z)(q:QE z (hd.set k (.lst (ds.eraseIdx j)))):WP (G7 (.mu k) [.im (.int i)] hd) QE:=⟨_,_,by rw[Uo,e1];simp[hr,e2,e3],q⟩
end
end L2
namespace Bd
open PySem L2
@[reducible] noncomputable def gB:MS:=(A9 (AI 2 101)
 (A9 (Bb (An 85) (BE 2 (AM (AD 3) (AM (AD 4) BF)))
  (A9 (Ae (AF (mOp gGt (A0 3) (A0 1)))
  (AN (A0 2))
  AU)
 (AI 2 (A0 4))))
 (AN (A0 2))))
noncomputable def c5:List D->Hd->Option (D×Hd):=mkF 2 5 gB
@[reducible] noncomputable def gC:MS:=(A9 (AI 2 (mOp gIx 85 101))
 (A9 (Ae (AF (mOp gEq (A0 2) (mC (.str "steps"))))
  (AN (A8 0 c5 (A2 (mOp gIx 85 99) (A2 (A0 1) A5))))
  AU)
 (A9 (Ae (AF (mOp gEq (A0 2) (mC (.str "ends"))))
  (AN (mOp Cz (mOp gIx 85 99) (A0 1)))
  AU)
 (A9 (AI 3 (mOp CL (A0 1) (mOp gIx 85 99)))
 (A9 (Ae (AF (mOp gEq (A0 2) (mC (.str "late"))))
  (AN (A0 3))
  AU)
 (A9 (Ae (AF (mOp gLe (A0 3) 101))
  (AN 101)
  AU)
 (A9 (Ae (AF (mOp gEq (A0 2) (mC (.str "tardy"))))
  (AN (mOp Cz (mOp gIx 85 (mC (.int 2))) (A0 3)))
  AU)
 (AN (mOp gIx 85 (mC (.int 2)))))))))))
noncomputable def HR:List D->Hd->Option (D×Hd):=mkF 2 4 gC
@[reducible] noncomputable def fz:MS:=(AN (Ay BB (Ad 2 [] (GT (An 85) (An (A0 1))) (BE 2 (AM (AD 0) (AM (AD 1) BF))) Bq (A8 0 HR (A2 (mOp gIx 85 (mC (.int 2))) (A2 (A0 1) A5))))))
noncomputable def c7:List D->Hd->Option (D×Hd):=mkF 2 2 fz
@[reducible] noncomputable def gD:MS:=(A9 (AI 3 (A8 0 c7 (A2 85 (A2 (A0 1) A5))))
 (A9 (Ae (AF (mOp gEq (A0 2) (mC (.str "greatest"))))
  (AN (mCB (f1 true Iv) (A2 (A0 3) A5)))
  AU)
 (AN (mCB (f1 true Dj) (A2 (A0 3) A5)))))
noncomputable def F_worth:List D->Hd->Option (D×Hd):=mkF 3 4 gD
@[reducible] noncomputable def gA:MS:=(A9 (AI 2 (Au (Ad 1 [] (An 85) (AD 0) Bq 101)))
 (A9 (Bb (An (A0 1)) (BE 3 (AM (AD 3) (AM (AD 4) (AM (AD 5) BF))))
  (Dg (A0 2) (A0 3) (A0 5)))
 (AN (mCB (f1 true BB) (A2 (A0 2) A5)))))
noncomputable def F_ends_of:List D->Hd->Option (D×Hd):=mkF 2 6 gA
structure Tp where
 cells:List Int
 nx:Int
 lf:Int
 tn:Int
noncomputable def Lo(t:Tp):List (Key×D):=[(.inr "cells",.mu 0),(.inr "next",.im (.int t.nx)),(.inr "left",.im (.int t.lf)),(.inr "turn",.im (.int t.tn))]
noncomputable def tp(t:Tp):Hd:=[.lst (t.cells.map λi=>.im (.int i)),.dic (Lo t)]
@[simp] theorem eR(t:Tp):(tp t).length=2:=rfl
@[simp] theorem fm(t:Tp)(r:Hd):(tp t++r)[0]?=some (.lst (t.cells.map λi=>.im (.int i))):=rfl
@[simp] theorem fj(t:Tp)(r:Hd):(tp t++r)[1]?=some (.dic (Lo t)):=rfl
@[simp] theorem tp0(t:Tp):(tp t)[0]?=some (.lst (t.cells.map λi=>.im (.int i))):=rfl
@[simp] theorem tp1(t:Tp):(tp t)[1]?=some (.dic (Lo t)):=rfl
section
variable(t:Tp)(v:Int)
@[simp] theorem eT:(Lo t).length=4:=rfl
end
theorem DJ:∀ns:List Int,I.pys (ns.map I.int)=ns.map PyData.int
 |[]=>by simp[I.pys]
 |n::ns=>by simp[I.pys,I.py,DJ ns]
def Cv(ns:List Int):BK (ns.map λi=>D.im (.int i))=some (ns.map I.int):=by
 have:(ns.map λi=>D.im (.int i))=(ns.map I.int).map D.im:=by rw[gH];rfl
 rw[this];exact Sl _
def Y6(ns:List Int):PyData.eqv (.list (ns.map PyData.int)) (.list [])=decide (ns=[]):=by
 cases ns<;>simp[PyData.eqv,PyData.eqvAll]
def Uc(ns:List Int):(PyData.list (ns.map PyData.int)).canLay0=true:=by simp[PyData.canLay0,IY]
def GA(ns:List Int)(hd:Hd)(neg:Bool):KW neg (.list (ns.map PyData.int)) (.list []) hd=some (.im (.bl (if neg then !decide (ns=[])else decide (ns=[]))),hd):=by
 unfold KW;rw[gc,Y6];refine⟨Uc ns,by simp[PyData.canLay0,PyData.canLayAll0],?_⟩;have:(PyData.list []).depth<=1:=by simp[PyData.depth,PyData.depthAll]
 omega
def Ej{x:Int}(m:Int)(h:0<m):0<=x%m/\x%m<m:=⟨Int.emod_nonneg _ 67,Int.emod_lt_of_pos _ h⟩
def b7(hd:Hd)(neg:Bool):KW neg (.list []) (.list []) hd=some (.im (.bl (if neg then false else true)),hd):=by
 have:=GA [] hd neg;simpa using this
def cb{xs:List Int}(h:xs≠[])(n:Int):∃c,atI (xs.map λi=>D.im (.int i)) (n%(xs.length:Int))=some (.im (.int c)):=by
 have hl:0<xs.length:=DR h;obtain⟨a,b⟩:=Ej (x:=n) (xs.length:Int) 67;obtain⟨k,hk⟩:=Int.eq_ofNat_of_zero_le a;have hk':k<xs.length:=by omega
 exact⟨xs[k],FE hk (by simp[hk'])⟩
def po1:Q8 10 18:=by unfold Q8;decide
inductive Cost where
 |late (d:Int)|tardy (d w:Int)|miss (d w:Int)|ends (w:Int)|steps (rows:List 103)
noncomputable def rowI(r:Int×Int):I:=.tup [.int r.1,.int r.2]
noncomputable def C3:Cost->I
 |.late d=>.tup [.str "late",.int d]
 |.tardy d w=>.tup [.str "tardy",.int d,.int w]
 |.miss d w=>.tup [.str "miss",.int d,.int w]
 |.ends w=>.tup [.str "ends",.int w]
 |.steps rows=>.tup [.str "steps",.tup (rows.map rowI)]
noncomputable def E1(t:Int):List 103->Int->Int
 |[],told=>told
 |(b,a)::r,told=>if t<b then told else E1 t r a
noncomputable def Cost.at:Cost->Int->Int
 |.late d,t=>t-d
 |.tardy d w,t=>if t-d<=0 then 0 else w*(t-d)
 |.miss d w,t=>if t-d<=0 then 0 else w
 |.ends w,t=>w*t
 |.steps rows,t=>E1 t rows 0
noncomputable def Cost.wok:Cost->Prop
 |.tardy _ w=>0<=w/\w<=1000000
 |.miss _ w=>0<=w/\w<=1000000
 |.ends w=>0<=w/\w<=1000000
 |_=>True
def n1:¬ (("late":Str)="steps"):=by decide +kernel
def n2:¬ (("tardy":Str)="steps"):=by decide +kernel
def n3:¬ (("miss":Str)="steps"):=by decide +kernel
def n4:¬ (("ends":Str)="steps"):=by decide +kernel
def n5:¬ (("late":Str)="ends"):=by decide +kernel
def n6:¬ (("tardy":Str)="ends"):=by decide +kernel
def n7:¬ (("miss":Str)="ends"):=by decide +kernel
def n8:¬ (("tardy":Str)="late"):=by decide +kernel
def n9:¬ (("miss":Str)="late"):=by decide +kernel
def n10:¬ (("miss":Str)="tardy"):=by decide +kernel
theorem JL(t:Int)(z:D)(hd:Hd):∀(rows:List 103) (told:Int) (x y:Option D),∃fl x' y',B2 (BE 2 (AM (AD 3) (AM (AD 4) BF))) (A9 (Ae (AF (mOp gGt (A0 3) (A0 1))) (AN (A0 2)) AU) (AI 2 (A0 4))) [] ((rows.map rowI).map .im)
 [some z,some (.im (.int t)),some (.im (.int told)),x,y] hd=some (fl,hd)/\(fl=.rt (.im (.int (E1 t rows told)))∨fl=.nx [some z,some (.im (.int t)),some (.im (.int (E1 t rows told))),x',y'])
 |[],told,x,y=>⟨_,x,y,NF,.inr rfl⟩
 |(b,a)::rows,told,x,y=>by
   by_cases h:t<b
   .refine⟨_,x,y,Ua (ls1:=[some z,some (.im (.int t)),some (.im (.int told)),some (.im (.int b)),some (.im (.int a))]) (by simp[rowI]) (v:=.im (.int told)) (hd2:=hd) ?_,.inl ?_⟩
    .simp[h]
    .simp[E1,h]
   .obtain⟨fl,x',y',e,q⟩:=JL t z hd rows a (some (.im (.int b))) (some (.im (.int a)));refine⟨fl,x',y',?_,?_⟩
    .rw[<- e];refine Ky (ls1:=[some z,some (.im (.int t)),some (.im (.int told)),some (.im (.int b)),some (.im (.int a))]) (by simp[rowI]) ?_ (AJ _);simp[h]
    .simpa [E1,h]using q
def Nx(rows:List 103)(t:Int):c5 [.im (.tup (rows.map rowI)),.im (.int t)] []=some (.im (.int (E1 t rows 0)),[]):=by
 obtain⟨fl,x',y',e,q⟩:=JL t (.im (.tup (rows.map rowI))) [] rows 0 none none;rcases q with rfl|rfl
 .simp[c5,mkF]at e ⊢;simp[e]
 .simp[c5,mkF]at e ⊢;simp[e]
def Qk(c:Cost)(t:Int)(h:c.wok):HR [.im (C3 c),.im (.int t)] []=some (.im (.int (c.at t)),[]):=by
 cases c with
 |late d=>simp[HR,mkF,C3,n1,n5,Cost.at]
 |tardy d w=>
  have b1:∀j,EC w j:=λj=>CB (by obtain⟨a,b⟩:=h;omega) (by obtain⟨a,b⟩:=h;omega);by_cases q:t-d<=0
  .simp[HR,mkF,C3,n2,n6,n8,Cost.at,q]
  .simp[HR,mkF,C3,n2,n6,n8,Cost.at,q,b1]
 |miss d w=>
  by_cases q:t-d<=0
  .simp[HR,mkF,C3,n3,n7,n9,Cost.at,q]
  .simp[HR,mkF,C3,n3,n7,n9,n10,Cost.at,q]
 |ends w=>
  have b1:∀j,EC w j:=λj=>CB (by obtain⟨a,b⟩:=h;omega) (by obtain⟨a,b⟩:=h;omega);simp[HR,mkF,C3,n4,Cost.at,b1]
 |steps rows=>
  have:=FW (m:=A2 (mOp gIx 85 99) (A2 (A0 1) A5)) (ls:=[some (.im (C3 (.steps rows))),some (.im (.int t)),some (.im (.str "steps")),none]) (hd:=[]) (hd1:=[]) (F:=c5) (ds:=[.im (.tup (rows.map rowI)),.im (.int t)]) (by simp[C3]) 77 (Nx rows t);simp[C3]at this;simp[HR,mkF,C3,Cost.at,this]
@[simp high] theorem fi(t:Tp)(x:MO)(r:Hd):(tp t++(x::r))[2]?=some x:=rfl
@[simp high] theorem fh(t:Tp)(x y:MO)(r:Hd):(tp t++(x::y::r))[3]?=some y:=rfl
@[simp high] theorem fg(t:Tp)(x y z:MO)(r:Hd):(tp t++(x::y::z::r))[4]?=some z:=rfl
@[simp high] theorem fM(t:Tp)(x y:MO)(r:Hd):(tp t++(x::r)).set 2 y=tp t++(y::r):=rfl
@[simp high] theorem fL(t:Tp)(x y z:MO)(r:Hd):(tp t++(x::y::r)).set 3 z=tp t++(x::z::r):=rfl
def DV(w:Nat)(ns:List Int):Az w (ns.map λi=>D.im (.int i))=true:=by induction ns<;>simp_all [Az,clD]
structure Wk where
 len:Int
 com:Int
 cost:Cost
noncomputable def BC(w:Wk):I:=.tup [.int w.len,.int w.com,C3 w.cost]
noncomputable abbrev AV(ws:List Wk):I:=.tup (ws.map BC)
end Bd
namespace L2
theorem Nb{α:Type}{n:MG}{c:MT}{m:ME}{g:Gd}{hd:Hd}(hg:GOk hd g)(f:α->D)(k:α->Option D):∀{xs:List α} {ls:Ls} (P:Ls->Prop),P ls ->
 (∀x∈xs,∀ls,P ls->∃ls1,n (f x) ls hd=some ls1/\P ls1/\((k x=none/\c ls1 hd=some (false,hd))∨∃z,k x=some z/\c ls1 hd=some (true,hd)/\m ls1 hd=some (z,hd)))->B3 n c m g (xs.map f) ls hd=some (xs.filterMap k,hd)
 |[],ls,P,h,_=>by unfold B3;rfl
 |x::r,ls,P,h,q=>by
  obtain⟨ls1,e1,p1,q1⟩:=q x gp ls h;have ih:=Nb hg f k (xs:=r) (ls:=ls1) P p1 λd hd ls hp=>q d (gi _ hd) ls hp;rw[gm];unfold B3;rcases q1 with⟨kn,c1⟩|⟨z,kz,c1,m1⟩
  .simp[e1,c1,hg,ih,kn]
  .simp[e1,c1,m1,hg,ih,kz]
def Nc{α:Type}{n:MG}{m:ME}{g:Gd}{hd:Hd}(hg:GOk hd g)(f:α->D)(k:α->D){xs:List α}{ls:Ls}(P:Ls->Prop)(h:P ls)
 (q:∀x∈xs,∀ls,P ls->∃ls1,n (f x) ls hd=some ls1/\P ls1/\m ls1 hd=some (k x,hd)):B3 n Bq m g (xs.map f) ls hd=some (xs.map k,hd):=by
 have:=Nb (c:=Bq) hg f (λx=>some (k x)) (xs:=xs) P h λx hx ls hp=>by
  obtain⟨ls1,e1,p1,e2⟩:=q x hx ls hp;exact⟨ls1,e1,p1,.inr ⟨_,rfl,rfl,e2⟩⟩
 rw[this];simp
end L2
namespace Bd
open PySem L2
noncomputable abbrev CK(es:List Int):I:=.tup (es.map I.int)
noncomputable def D5(ws:List Wk)(es:List Int):List Int:=List.zipWith (λw e=>w.cost.at e) ws es
def Qr(ws:List Wk)(es:List Int):List.zipWith (λx y=>AW [x,y]) ((ws.map BC).map D.im) ((es.map I.int).map D.im)=(List.zip ws es).map λp=>D.im (.tup [BC p.1,.int p.2]):=by
 induction ws generalizing es with
 |nil=>simp
 |cons w ws ih=>
  cases es with
  |nil=>simp
  |cons e es=>simp only[gm,List.zipWith_cons_cons,List.zip_cons_cons,KI,ih]
def Qj(ws:List Wk)(es:List Int):(List.zip ws es).map (λp=>p.1.cost.at p.2)=D5 ws es:=by
 unfold D5;rw[List.zip_eq_zipWith,List.map_zipWith]
def P1(ns:List Int):(ns.map λi=>D.im (.int i))=(ns.map I.int).map D.im:=by rw[gH];rfl
def Ja(ns:List Int):AW (ns.map λi=>D.im (.int i))=.im (CK ns):=by rw[P1];exact BG _
def OJ(ws:List Wk)(es:List Int)(h:∀w∈ws,w.cost.wok)(hl:68<=1000):c7 [.im (AV ws),.im (CK es)] []=some (.im (CK (D5 ws es)),[]):=by
 have hz:Bj (List.zip ws es).length:=AT 79;have hc:=Nc (hd:=[]) (n:=BE 2 (AM (AD 0) (AM (AD 1) BF))) (m:=A8 0 HR (A2 (mOp gIx 85 (mC (.int 2))) (A2 (A0 1) A5))) (AJ []) (λp:Wk×Int=>D.im (.tup [BC p.1,.int p.2])) (λp=>.im (.int (p.1.cost.at p.2))) (xs:=List.zip ws es) (ls:=[none,none]) (λls=>ls.length=2) rfl λp hp ls hls=>by
  match ls,hls with
  |[a,b],_=>
   refine⟨[some (.im (BC p.1)),some (.im (.int p.2))],by simp,rfl,?_⟩;exact FW (ds:=[.im (C3 p.1.cost),.im (.int p.2)]) (by simp[BC]) 77 (Qk p.1.cost p.2 (h p.1 (of_mem_zip hp).1))
 have hi:List.map (λp:Wk×Int=>D.im (.int (p.1.cost.at p.2))) (List.zip ws es)=(D5 ws es).map λi=>D.im (.int i):=by rw[<- Qj,gH];rfl
 have gk:GOk [] []:=AJ [];simp only[c7,mkF,fz,SW,SX,P4,GT,NX,Jn,gm,iA,hX,iJ,iF,iR,List.replicate,Nat.reduceAdd,Nat.reduceSub,gw,List.getElem?_cons_zero,List.getElem?_cons_succ,gq,Qw,gR,gk,Qr,gy,hz,EJ,i4];rw[hc,hi];simp[BB,Ja]
def cQ:¬ (("sum":Str)="greatest"):=by decide +kernel
def Qu(ws:List Wk)(es:List Int)(h:∀w∈ws,w.cost.wok)(hl:68<=1000):F_worth [.im (AV ws),.im (CK es),.im (.str "sum")] []=some (.im (.int (D5 ws es).sum),[]):=by
 have e:=FW (m:=A2 85 (A2 (A0 1) A5)) (ls:=[some (.im (AV ws)),some (.im (CK es)),some (.im (.str "sum")),none]) (hd:=[]) (F:=c7) (ds:=[.im (AV ws),.im (CK es)]) (hd1:=[]) 77 77 (OJ ws es h hl);have k:(Am ((D5 ws es).map I.int |>.map D.im))=some (D5 ws es):=by rw[<- P1];exact EU _
 simp only[F_worth,mkF,gD,NW,Jo,gm,iA,hX,iJ,iF,iR,List.replicate,Nat.reduceAdd,Nat.reduceSub,gw];rw[e];simp only[gq,KU,gR,set_cons_succ,set_cons_zero,ar,P3,cS,Jn,List.getElem?_cons_zero,List.getElem?_cons_succ,da,Y4,av,gw,cQ,decide_false,Xz,SW,cV,Y5,ag,VU,Dc,Dj,k,gT,Bool.false_eq_true]
noncomputable def Ar(p:Nat×Int×Int):I:=.tup [.int p.1,.int p.2.1,.int p.2.2]
def UW{α:Type}(ws:List α):ws.map (λ_=>D.im (.int 0))=(96 68 0).map λi=>D.im (.int i):=by induction ws<;>simp_all [iw]
noncomputable def C2(es:List Int):List (Nat×Int×Int)->List Int
 |[]=>es
 |p::r=>C2 (es.set p.1 p.2.2) r
theorem LG(w o:D):∀(ps:List (Nat×Int×Int)) (es:List Int) (a b c:Option D),(∀p∈ps,p.1<es.length)->∃a' b' c',B2 (BE 3 (AM (AD 3) (AM (AD 4) (AM (AD 5) BF)))) (Dg (A0 2) (A0 3) (A0 5)) [] (ps.map λp=>.im (Ar p))
 [some w,some o,some (.mu 0),a,b,c] [.lst (es.map λi=>.im (.int i))]=some (.nx [some w,some o,some (.mu 0),a',b',c'],[.lst ((C2 es ps).map λi=>.im (.int i))])
 |[],es,a,b,c,_=>⟨a,b,c,NF⟩
 |(k,x,y)::ps,es,a,b,c,h=>by
   obtain⟨a',b',c',q⟩:=LG w o ps (es.set k y) (some (.im (.int k))) (some (.im (.int x))) (some (.im (.int y))) (λp hp=>by simpa using h p (gi _ hp));refine⟨a',b',c',?_⟩;have hk:k<es.length:=h _ gp;have ix:ixN es.length (k:Int)=some k:=by unfold ixN;rw[gc 67,gc 67];simp
   rw[show C2 es ((k,x,y)::ps)=C2 (es.set k y) ps from rfl,<- q,gm];refine Ky (ls1:=[some w,some o,some (.mu 0),some (.im (.int k)),some (.im (.int x)),some (.im (.int y))]) (by simp[Ar]) ?_ (AJ _);simp[ix]
def Qf(ws:List Wk)(ps:List (Nat×Int×Int))(h:∀p∈ps,p.1<68)(hl:68<=1000):∃g,F_ends_of [.im (AV ws),.im (.tup (ps.map Ar))] []=some (.im (CK (C2 (96 68 0) ps)),g):=by
 obtain⟨a',b',c',q⟩:=LG (.im (AV ws)) (.im (.tup (ps.map Ar))) ps (96 68 0) none none none (λp hp=>by simpa using h p hp);have hz:Bj ws.length:=AT 67;have hc:=Nc (hd:=[]) (n:=AD 0) (m:=mC (.int 0)) (AJ []) (λw:Wk=>D.im (BC w)) (λ_=>.im (.int 0)) (xs:=ws) (ls:=[none]) (λls=>ls.length=1) rfl λw hw ls hls=>by
  match ls,hls with
  |[a],_=>exact⟨[some (.im (BC w))],rfl,rfl,rfl⟩
 have hr:=UW ws;have w1:(ws.map BC).map D.im=ws.map λw=>D.im (BC w):=by rw[gH];rfl
 have p1:(ps.map Ar).map D.im=ps.map λp=>D.im (Ar p):=by rw[gH];rfl
 rw[hr]at hc;refine⟨[.lst ((C2 (96 68 0) ps).map λi=>.im (.int i))],?_⟩;simp only[F_ends_of,mkF,gA,NW,Jo,ah,P4,NX,Jn,au,gm,iA,hX,iJ,iF,iR,List.replicate,Nat.reduceAdd,Nat.reduceSub,gw,List.getElem?_cons_zero,List.getElem?_cons_succ,gq,Qw,gR,w1,p1,gy,hz,EJ,i4,hc,KU,set_cons_succ,set_cons_zero];rw[q];simp[BB,Ja]
def Us(ns:List Int)(lo hi:Option Int):∃cs:List Int,FB (ns.map λn=>.im (.int n)) lo hi=cs.map λn=>.im (.int n):=⟨(ns.drop _).take _,by unfold FB;rw[map_take,List.map_drop]⟩
noncomputable abbrev Ba(ks:List Nat):List D:=ks.map λk:Nat=>D.im 94
def Xp{n:Nat}{i:Int}(a:0<=i)(b:i<n):ixN n i=some i.toNat:=by unfold ixN;rw[gc a,gc b]
theorem JY:∀{a:List Nat} {k x:Nat},a[k]?=some x->(x::a.eraseIdx k).Perm a
 |[],k,x,h=>by simp at h
 |y::r,0,x,h=>by simp at h;subst h;exact .refl _
 |y::r,k+1,x,h=>by
  have ih:=JY (a:=r) (k:=k) (x:=x) (by simpa using h);exact(List.Perm.swap y x _).trans (ih.cons y)
theorem erase_map{α β:Type}(f:α->β):∀(l:List α) (k:Nat),(l.map f).eraseIdx k=(l.eraseIdx k).map f
 |[],k=>rfl
 |y::r,0=>rfl
 |y::r,k+1=>by simp[erase_map f r k]
def Rx{a b:List Nat}{k x:Nat}(h:a[k]?=some x):(b++[x]++a.eraseIdx k).Perm (b++a):=by
 rw[iQ];exact List.Perm.append_left b (JY h)
def Along(seq:List Nat)(ps:List 103):Prop:=∀p∈ps,∃i j a b:Nat,i<j/\seq[i]?=some a/\seq[j]?=some b/\p=((a:Int),(b:Int))
def N8{seq:List Nat}{i a:Nat}(h:seq[i]?=some a):atI (Ba seq) (i:Int)=some (.im (.int (a:Int))):=FE rfl (by simp[h])
def Ur(xs:List D)(k:Nat):FB xs none (some (k:Int))=xs.take k:=by
 unfold FB;rw[HT.sIx_none,HT.sIx_nat,Nat.sub_zero,List.drop_zero];by_cases h:k<=xs.length
 .rw[Nat.min_eq_left h]
 .rw[Nat.min_eq_right 67,List.take_length,List.take_of_length_le 67]
def Ei(n:Nat):Ab 0 n=Ba (71 n):=by
 refine iG λi=>?_;by_cases h:i<n
 .rw[JV h];simp[h]
 .rw[List.getElem?_eq_none 79,List.getElem?_eq_none 79]
theorem Along.pok{seq:List Nat}{n:Nat}(hp:seq.Perm (71 n))(hn:n<=1000){ps:List 103}(h:Along seq ps):∀p∈ps,pok p:=by
 intro p hp';obtain⟨i,j,a,b,_,ea,eb,rfl⟩:=h p hp';have ha:a<n:=by simpa using hp.mem_iff.mp (gJ ea)
 have hb:b<n:=by simpa using hp.mem_iff.mp (gJ eb)
 exact⟨by show -1000000000<=(a:Int);omega,by show(a:Int)<=1000000000;omega,by show -1000000000<=(b:Int);omega,by show(b:Int)<=1000000000;omega⟩
noncomputable abbrev intD(xs:List Int):List D:=xs.map λx=>D.im (.int x)
def SS(xs:List Int):CC (intD xs)=some (xs.map V.int):=by
 induction xs with
 |nil=>rfl
 |cons x r ih=>simp[CC,FT]at ih ⊢;exact ih
def Ug(x:Int)(xs:List Int):inV (.int x) (xs.map V.int)=decide (x∈xs):=by
 unfold inV
 induction xs with
 |nil=>simp
 |cons y r ih=>
  simp only[gm,any_cons,ih,gj];have:eqV (V.int y) (V.int x)=decide (x=y):=by
   unfold eqV;by_cases h:x=y
   .subst h;simp
   .have h':¬ y=x:=λz=>h z.symm;simp[h,h']
  rw[this,Bool.decide_or]
def in_ints{hd:Hd}{d:D}{xs:List Int}(x:Int)(neg:Bool)(h:Av hd d=some (intD xs)):gIn neg (.im (.int x)) d hd=some (.im (.bl (if neg then !decide (x∈xs)else decide (x∈xs))),hd):=by
 simp only[gIn,FT,gq,h,SS,gR,Ug]
def g0(hd:Hd)(x y:MO):(hd++[x,y])[hd.length]?=some x:=by simp
def g1(hd:Hd)(x y:MO):(hd++[x,y])[hd.length+1]?=some y:=by simp
def t0(hd:Hd)(x y z:MO):(hd++[x,y]).set hd.length z=hd++[z,y]:=by simp
def t1(hd:Hd)(x y z:MO):(hd++[x,y]).set (hd.length+1) z=hd++[x,z]:=by simp
end Bd
namespace L2
open PySem PySem.Spec PyProof.Rows
section
variable{ls:Ls}{hd:Hd}{QE:D->Hd->Prop}{QI:List D×Gd->Hd->Prop}{ma:ME}{n:MG}{ta:MT}{mi:MI}{m:MA}
def YE{d:D}{xs:List Int}{x:Int}{neg:Bool}(e1:Av hd d=some (Bd.intD xs))(q:QE (.im (.bl (if neg then !decide (x∈xs)else decide (x∈xs)))) hd):WP (gIn neg (.im (.int x)) d hd) QE:=WP.eq (Bd.in_ints x neg e1) q
def B0{α:Type}{g:Gd}{QA:List D->Hd->Prop}(inj:α->D)(f:α->Option D)(L:D->Ls->Prop)(l0:Ls){xs:List α}{hd:Hd}(hg:GOk hd g)
 (k:∀x∈xs,∀ls,ls=l0∨(∃d,L d ls)->∃ls1,n (inj x) ls hd=some ls1/\L (inj x) ls1/\WT ta ls1 hd λc y=>y=hd/\if c=true then ∃z,f x=some z/\WE ma ls1 hd λe y=>y=hd/\e=z else f x=none)
 (q:QA (xs.filterMap f) hd):WP (B3 n ta ma g (xs.map inj) l0 hd) QA:=by
 have go:∀(xs':List α) (ls:Ls),(∀x∈xs',x∈xs)->(ls=l0∨∃d,L d ls)->B3 n ta ma g (xs'.map inj) ls hd=some (xs'.filterMap f,hd):=by
  intro xs'
  induction xs' with
  |nil=>intro ls _ _;unfold B3;rfl
  |cons x r ih=>
   intro ls hs hl;obtain⟨ls1,e1,L1,c,y,e2,rfl,q⟩:=k x (hs x gp) ls hl;have ih:=ih ls1 (λz hz=>hs z (gi _ hz)) (.inr ⟨_,L1⟩);rw[gm];unfold B3;rw[e1,gq,e2,gq];cases c with
   |true=>
    rw[gc rfl]at q;obtain⟨z,ez,e,y,e3,rfl,rfl⟩:=q;rw[gc rfl,e3,gq];dsimp only;rw[gc hg,ih,ic,ez];rfl
   |false=>
    rw[gf Bool.false_ne_true]at q;rw[gf Bool.false_ne_true];dsimp only;rw[gc hg,ih,ic,q]
 exact⟨_,_,go xs l0 (λ_ h=>h) (.inl rfl),q⟩
end
section
variable{K:Frag}{ρ ρ':List Addr}{H H':Hp}{hd hd':Hd}
noncomputable def fu(neg:Bool)(ma:ME)(ml:MA):ME:=λls hd=>(ma ls hd).bind λp=>(ml ls p.2).bind λq=>match p.1 with
 |.im i=>(FT i).bind λx=>(CC q.1).map λxs=>(.im (.bl (if neg then !inV x xs else inV x xs)),q.2)
 |_=>none
open Classical in
noncomputable def KK(ml:MA)(mb:ME):MA:=λls hd=>(ml ls hd).bind λp=>(mb ls p.2).bind λq=>match q.1 with
 |.im (.int k)=>if(0<=k/\k<=1000)/\Bj (p.1.length*k.toNat)then some ((96 k.toNat p.1).flatten,q.2)else none
 |_=>none
theorem RDs.rep{ds:List D}{xs:List V}(r:RDs K ρ H ds xs):∀n,RDs K ρ H (96 n ds).flatten (96 n xs).flatten
 |0=>by simp[RDs]
 |n+1=>by
  simp only[iw,iY];exact r.app (r.rep n)
def Yi{ta tb:TE}{ml:MA}{mb:ME}(ha:RN K ta ml)(hb:RE K tb mb):RN K (tOp To ta tb) (KK ml mb):=by
 and_intros;obtain⟨⟨d1,h1⟩,e1,hm⟩:=gF hm;obtain⟨⟨d2,h2⟩,e2,hm⟩:=gF hm;dsimp only at hm;split at hm
 .next k=>
  split at hm
  .next c=>
   cases hm;refine ha ρ σ H hd ls _ d1 h1 hR hL e1 λρ1 H1 a xs x1 R1 na oa ea r1=>?_;refine hb ρ1 σ H1 h1 ls _ _ _ R1 (hL.ext hR x1) e2 λρ2 H2 v2 x2 R2 r2=>?_;simp only[RD,RI]at r2;subst r2;have ea2:=x2.keep a _ ea oa nt;refine⟨a,k,xs,rfl,rfl,ea2,by omega,by omega,by rw[r1.len];exact c.2,λp hp=>?_⟩;obtain⟨R3,x3⟩:=R2.hid (ho:=.lst (96 k.toNat xs).flatten) hp;have x12:=x1.trans R1 x2;exact hQ ρ2 _ p _ (x12.trans R2 x3) R3 (x12.none hR hp R2) (R2.out hp) AK (((r1.ext R1 x2).rep k.toNat).ext R2 x3)
  .cases hm
 .cases hm
def ZE(K:Frag){X:Cx}{a b:Expr}{ta tb:TE}{ml:MA}{mb:ME}{pos:Pos}(ha:QN K X a ta ml)(hb:QE K X b tb mb):QN K X (.BinOp a .Mult b pos) (tOp To ta tb) (KK ml mb):=⟨M3 a9 ha.p hb.p,Yi ha.r hb.r⟩
end
noncomputable abbrev blD(bs:List Bool):List D:=bs.map λb=>D.im (.bl b)
inductive Ty where
 |int|bool|str|tuple|list
 deriving DecidableEq
noncomputable def Ty.nm:Ty->String
 |.int=>"int" | .bool=>"bool" | .str=>"str" | .tuple=>"tuple" | .list=>"list"
def IsT(K:Frag)(T:Ty)(H:Hp)(v:V)(b:Bool):Prop:=
 (v=.non/\b=false)∨(∃x,v=.bl x/\b=decide (T=.int∨T=.bool))∨(∃i,v=.int i/\b=decide (T=.int))∨(∃x,v=.str x/\b=decide (T=.str)) ∨
 (∃a xs,v=.ref a/\SqL K H a xs/\b=decide (T=.list))∨∃a xs,v=.ref a/\SqT K H a xs/\b=decide (T=.tuple)
section
variable{X:Cx}{pins:List 81}{σ:St}{H:Hp}{s:Shared}{A:Around}{E:Value->Shared->Prop}{Q:Value->Shared->Prop}
def aV{T:Ty}{v:V}{u:Value}{b:Bool}(I:Inv X pins σ H s)(r:RelV v u)(h:IsT X.K T H v b)(q:∀tk,Q (.bool b) { s with toks:=tk }):wpAny 69 A (call (.builtin "isinstance") [u,.type T.nm]) Q E s:=by
 have q0:=q s.toks;have q1:=q (s.toks+1);rcases h with⟨rfl,rfl⟩|⟨x,rfl,rfl⟩|⟨i,rfl,rfl⟩|⟨x,rfl,rfl⟩|⟨a,xs,rfl,hl,rfl⟩|⟨a,xs,rfl,ht,rfl⟩
 .cases(show u=Value.none from r);cases T
  .exact IsiPair.NoneType_int q1
  .exact IsiPair.NoneType_bool q1
  .exact IsiPair.NoneType_str q1
  .exact IsiPair.NoneType_tuple q1
  .exact IsiPair.NoneType_list q1
 .cases(show u=Value.bool x from r);cases T
  .first|exact IsiPair.bool_int q0|exact IsiPair.bool_int q1
  .first|exact IsiPair.bool_bool q0|exact IsiPair.bool_bool q1
  .exact IsiPair.bool_str q1
  .exact IsiPair.bool_tuple q1
  .exact IsiPair.bool_list q1
 .obtain⟨t,rfl⟩:=(show ∃t,u=Value.int i t from r)
  cases T
  .exact IsiPair.int_int q0
  .exact IsiPair.int_bool q1
  .exact IsiPair.int_str q1
  .exact IsiPair.int_tuple q1
  .exact IsiPair.int_list q1
 .obtain⟨t,rfl⟩:=(show ∃t,u=Value.str x t from r)
  cases T
  .exact IsiPair.str_int q1
  .exact IsiPair.str_bool q1
  .exact IsiPair.str_str q0
  .exact IsiPair.str_tuple q1
  .exact IsiPair.str_list q1
 .cases(show u=Value.ref a from r);obtain⟨its,_,⟨o,n,e,c,_,_⟩,_⟩:=I.list hl;cases T
  .exact IsiPair.list_int e c q1
  .exact IsiPair.list_bool e c q1
  .exact IsiPair.list_str e c q1
  .exact IsiPair.list_tuple e c q1
  .exact IsiPair.list_list e c q0
 .cases(show u=Value.ref a from r);obtain⟨its,_,⟨o,e,c,_⟩,_⟩:=I.tuple ht;cases T
  .exact IsiPair.tuple_int e c q1
  .exact IsiPair.tuple_bool e c q1
  .exact IsiPair.tuple_str e c q1
  .exact IsiPair.tuple_tuple e c q0
  .exact IsiPair.tuple_list e c q1
end
noncomputable def TF(K:Frag)(T:Ty)(te:TE):TE:=λσ H Q=>te σ H λv H1=>∃b,IsT K T H1 v b/\Q (.bl b) H1
def Zw(K:Frag){X:Cx}(T:Ty){e:Expr}{te:TE}{x:Str}{p px pos:Pos}(hm:X.mg "isinstance"=none)(hmT:X.mg x=none)(hvT:bootBuiltins x=some (.type T.nm))(he:PE X e te)
 (hv:bootBuiltins "isinstance"=some (.builtin "isinstance")) (hK:X.K=K) (hg:Gl X "isinstance") (hgT:Gl X x) (hnT:x≠"__name__") (hdT:(x==("__debug__":Str))=false)
 (hs:starEach [e,.Name x px] X.env=[90,(false,eval (.Name x px) X.env)]) (hs2:starEach [.Name x px] X.env=[(false,eval (.Name x px) X.env)]):PE X (.Call (.Name "isinstance" p) [e,.Name x px] [] pos) (TF K T te):=by
 subst hK;intro pins s σ H Q I h;refine iN (CT I hg hm hv ?_);have go:wpAny 69 X.A (spliced (backTo pos (starEach [e,.Name x px] X.env))) (λvs s₁=>wpAny 69 X.A (call (.builtin "isinstance") vs) (EP X pins σ Q) X.xe s₁) X.xe s:=by
  rw[hs];show wpAny _ _ (spliced (90::backTo pos [(false,eval (.Name x px) X.env)])) _ _ s;refine Calls.spliced_cons (thn (he pins s σ H _ I h) λu s1 ⟨v,H1,I1,r1,b,ib,q1⟩=>?_);show wpAny _ _ (spliced ((false,eval (.Name x px) X.env)::backTo pos [])) _ _ s1;refine Calls.spliced_cons (CT I1 hgT hmT hvT ?_ hnT hdT);refine Calls.spliced_nil ?_;exact aV I1 r1 ib λtk=>⟨.bl b,H1,I1.tok _,rfl,q1⟩
 exact PyProof.Rows.callWith_builtin1 go (by rw[hs,hs2]) (by rw[hs2];rfl)
section
variable{K:Frag}{ρ ρ':List Addr}{H H':Hp}{hd hd':Hd}
noncomputable def isD(T:Ty)(hd:Hd):D->Option Bool
 |.im .non=>some false
 |.im (.bl _)=>some (decide (T=.int∨T=.bool))
 |.im (.int _)=>some (decide (T=.int))
 |.im (.str _)=>some (decide (T=.str))
 |.im (.tup _)=>some (decide (T=.tuple))
 |.tm _=>some (decide (T=.tuple))
 |.ro _=>some (decide (T=.list))
 |.op _ _ _=>none
 |.fv _ _=>none
 |.mu n=>match hd[n]? with
  |some (.lst _)=>some (decide (T=.list))
  |_=>none
def aW{T:Ty}{d:D}{v:V}{b:Bool}(hR:RH K ρ H hd)(h:RD K ρ H d v)(e:isD T hd d=some b):IsT K T H v b:=by
 cases d with
 |im i=>
  cases i with
  |non=>simp only[RD,RI]at h;subst h;simp only[isD,Option.some.injEq]at e;exact .inl ⟨rfl,e.symm⟩
  |bl c=>simp only[RD,RI]at h;subst h;simp only[isD,Option.some.injEq]at e;exact .inr (.inl ⟨c,rfl,e.symm⟩)
  |int c=>simp only[RD,RI]at h;subst h;simp only[isD,Option.some.injEq]at e;exact .inr (.inr (.inl ⟨c,rfl,e.symm⟩))
  |str c=>simp only[RD,RI]at h;subst h;simp only[isD,Option.some.injEq]at e;exact .inr (.inr (.inr (.inl ⟨c,rfl,e.symm⟩)))
  |tup is=>
   obtain⟨a,xs,rfl,q,r⟩:=h.tup (ds:=is.map .im) rfl;simp only[isD,Option.some.injEq]at e;exact .inr (.inr (.inr (.inr (.inr ⟨a,xs,rfl,q,e.symm⟩))))
 |tm ds=>
  obtain⟨a,xs,rfl,q,r⟩:=h.tup (ds:=ds) rfl;simp only[isD,Option.some.injEq]at e;exact .inr (.inr (.inr (.inr (.inr ⟨a,xs,rfl,q,e.symm⟩))))
 |ro ns=>
  obtain⟨a,xs,rfl,q,r⟩:=h.lst hR (hd:=hd) (ds:=ns.map λn=>.im (.int n)) rfl;simp only[isD,Option.some.injEq]at e;exact .inr (.inr (.inr (.inr (.inl ⟨a,xs,rfl,q,e.symm⟩))))
 |op _ _ _=>simp[isD]at e
 |fv _ _=>simp[isD]at e
 |mu n=>
  simp only[isD]at e;split at e
  .next q=>
   cases e;simp only[RD]at h;obtain⟨a,hn,rfl⟩:=h;obtain⟨xs,e1,e2⟩:=hR.lst hn q;exact .inr (.inr (.inr (.inr (.inl ⟨a,xs,rfl,SqL.of e1,rfl⟩))))
  .cases e
noncomputable def F6(T:Ty)(ma:ME):ME:=λls hd=>(ma ls hd).bind λp=>(isD T p.2 p.1).map λb=>(.im (.bl b),p.2)
def Yu{T:Ty}{te:TE}{me:ME}(h:RE K te me):RE K (TF K T te) (F6 T me):=by
 and_intros;obtain⟨⟨d1,h1⟩,e1,hm⟩:=gF hm;obtain⟨b,e2,e3⟩:=gG hm;cases e3;exact h ρ σ H hd ls _ d1 _ hR hL e1 λρ1 H1 v x1 R1 r1=>⟨b,aW R1 r1 e2,hQ ρ1 H1 _ x1 R1 (by simp[RD,RI])⟩
def Jw:∀T:Ty,bootBuiltins T.nm=some (.type T.nm)
 |.int=>by decide +kernel
 |.bool=>by decide +kernel
 |.str=>by decide +kernel
 |.tuple=>by decide +kernel
 |.list=>by decide +kernel
def Mw(K:Frag){X:Cx}(T:Ty){e:Expr}{te:TE}{me:ME}{x:Str}{p px pos:Pos}(hm:X.mg "isinstance"=none)(hmT:X.mg x=none)(he:QE K X e te me)(hx:bootBuiltins x=some (.type T.nm):=by first|exact Jw .int|exact Jw .bool|exact Jw .str|exact Jw .tuple|exact Jw .list)(hK:X.K=K:=by rfl)(hg:Gl X "isinstance":=by rfl)(hgT:Gl X x:=by rfl)
 (hnT:x≠"__name__":=by decide) (hdT:(x==("__debug__":Str))=false:=by decide)
 (hs:starEach [e,.Name x px] X.env=[90,(false,eval (.Name x px) X.env)]:=by rfl) (hs2:starEach [.Name x px] X.env=[(false,eval (.Name x px) X.env)]:=by rfl):QE K X (.Call (.Name "isinstance" p) [e,.Name x px] [] pos) (TF K T te) (F6 T me):=
 ⟨Zw K T hm hmT hx he.p Lm hK hg hgT hnT hdT hs hs2,Yu he.r⟩
noncomputable def GU(mo mi me:ME)(f:Int->Int->Int):MS:=λls hd=>(mo ls hd).bind λp=>(mi ls p.2).bind λq=>match p.1,q.1 with
 |.mu n,.im (.int i)=>match q.2[n]? with
  |some (.lst ds)=>(ixN ds.length i).bind λj=>match ds[j]? with
   |some (.im (.int x))=>(me ls q.2).bind λr=>match r.1,r.2[n]? with
    |.im (.int y),some (.lst ds')=>if ds'.length=ds.length then some (.nx ls,r.2.set n (.lst (ds'.set j (.im (.int (f x y))))))else none
    |_,_=>none
   |_=>none
  |_=>none
 |_,_=>none
def Og:V->List V->Hp->VK->Prop:=λx vs H Q=>∃(l:Addr) (ns:List Int) (i:Int) (k:Nat),x=.ref l/\vs=[.int i]/\H l=some (.lst (ns.map V.int))/\ns[k]?=some i/\(∀m,m<k->ns[m]?≠some i)/\Q .non (upd H l (.lst ((ns.eraseIdx k).map V.int)))
def SB{X:Cx}:MtM X "list.remove" Og:=by
 intro pins s σ H x vs v us Q I rx rv h;obtain⟨l,ns,i,k,rfl,rfl,hH,hk,hno,q⟩:=h;cases rx;obtain⟨u,rfl,ru⟩:=rv.one;obtain⟨t,rfl⟩:=ru;obtain⟨z,its,n,r,hl,e⟩:=I.lstM hH;have hkn:=(78 hk).1;have li:its.length=ns.length:=by rw[<- hl];simp
 have itsI:∀(m:Nat) (hm:m<its.toArray.size),∃t,its.toArray[m]=.int (ns.getD m 0) t:=by
  intro m hm;have hm':m<ns.length:=by simpa [li]using hm
  have e1:(ns.map V.int)[m]?=some (.int (ns.getD m 0)):=by simp[hm']
  obtain⟨w,hw,rw'⟩:=r.get e1;obtain⟨t,rfl⟩:=rw';refine⟨t,?_⟩;have:=hw;simp only[List.getElem_toArray];exact(78 hw).2
 refine iV F.slot_list_remove ⟨_,e,rfl⟩ F.entry_list_remove (F.args_list_remove_2 _ _)
  (PySem.MeetsSeq.list_remove l its.toArray n (.int i t) (λy=>match y with|.int a _=>a==i|_=>false) ?_ k ?_ ?_ ?_ ?_) ⟨e,?_⟩
 .intro y hy;obtain⟨m,hm,rfl⟩:=Array.mem_iff_getElem.mp hy;obtain⟨t',e'⟩:=itsI m hm;rw[e'];exact PySem.MeetsSeq.EqGives.int _ _ _ _
 .rw[gu,li];exact hkn
 .obtain⟨t',e'⟩:=itsI k (by rw[gu,li];exact hkn);rw[e'];have:ns.getD k 0=i:=by simp[hkn];exact(78 hk).2
  rw[this];exact beq_self_eq_true i
 .intro m hm hmk;obtain⟨t',e'⟩:=itsI m hm;rw[e'];have hm':m<ns.length:=by simpa [li]using hm
  have:=hno m hmk;have:ns.getD m 0≠i:=λz=>this (by rw[<- z];simp[hm']);simpa using this
 .rw[gu];omega
 .have ev:Vals ((ns.eraseIdx k).map V.int) (its.eraseIdx k):=by
   have:=r.eraseIdx k
   rwa [show(ns.map V.int).eraseIdx k=(ns.eraseIdx k).map V.int from Bd.erase_map _ _ _]at this
  refine⟨.non,_,I.lset (its':=its.eraseIdx k) hH e ?_ ev ?_,rfl,q⟩
  .show its.toArray.eraseIdxIfInBounds k=(its.eraseIdx k).toArray;rw[List.eraseIdxIfInBounds_toArray]
  .rw[gy];have:=List.length_eraseIdx_le ns k;rw[gy]at z;omega
open Classical in
noncomputable def G6:D->List D->Hd->Option (D×Hd)
 |.mu n,[.im (.int i)],hd=>match hd[n]? with
  |some (.lst ds)=>(Am ds).bind λns=>if i∈ns then some (.im .non,hd.set n (.lst ((ns.eraseIdx (ns.idxOf i)).map λx=>.im (.int x))))else none
  |_=>none
 |_,_,_=>none
theorem RDs.ints:∀{ns:List Int} {xs:List V},RDs K ρ H (ns.map λx=>D.im (.int x)) xs->xs=ns.map V.int
 |[],xs,h=>by simpa only[RDs,iA]using h
 |n::ns,xs,h=>by
  simp only[gm,RDs,RD,RI]at h;obtain⟨x,r,rfl,rfl,t⟩:=h;rw[RDs.ints t];rfl
def RX:RM K Og G6:=by
 intro ρ H hd d v ds vs Q z hd' hR h1 h2 hf hQ;unfold G6 at hf;split at hf
 .next n i=>
  split at hf
  .next es q=>
   obtain⟨ns,e0,hf⟩:=gF hf;split at hf
   .next c=>
    cases hf;simp only[RD]at h1;obtain⟨a,hn,rfl⟩:=h1;simp only[RDs,RD,RI]at h2;obtain⟨x,r,rfl,rfl,rfl⟩:=h2;obtain⟨xs,f1,f2⟩:=hR.lst hn q;rw[C7 e0]at f2;have ex:=f2.ints;subst ex;have hk:ns.idxOf i<ns.length:=List.idxOf_lt_length_iff.mpr c;have e1:ns[ns.idxOf i]?=some i:=by simp[hk]
    obtain⟨R2,x2⟩:=hR.put hn (o:=.lst ((ns.eraseIdx (ns.idxOf i)).map λx=>.im (.int x))) (ho:=.lst ((ns.eraseIdx (ns.idxOf i)).map V.int)) ⟨_,rfl,DS⟩;refine⟨a,ns,i,ns.idxOf i,rfl,rfl,f1,e1,λm hm e=>?_,hQ ρ _ _ x2 R2 (by simp[RD,RI])⟩;obtain⟨hm',e'⟩:=78 e;have h4:ns.idxOf i<=m:=by
     have:∀(L:List Int) (m:Nat) (h:m<L.length),L[m]=i->L.idxOf i<=m:=by
      intro L
      induction L with
      |nil=>intro m h;simp at h
      |cons y r ih=>
       intro m h e;rw[List.idxOf_cons];by_cases hy:y=i
       .simp[hy]
       .have hy':(y==i)=false:=by simpa using hy
        rw[hy'];cases m with
        |zero=>exact absurd e hy
        |succ m=>exact Nat.succ_le_succ (ih m (by simpa using h) (by simpa using e))
     exact this ns m hm' e'
    omega
   .cases hf
  .cases hf
 .cases hf
def Rv(K:Frag){X:Cx}(hK:X.K=K:=by rfl):bB X (KF K):=by
 subst hK;intro pins s σ H o i ov iv Q I ro ri h;obtain⟨p,xs,k,z,rfl,rfl,hq,he,q⟩:=h;cases ro;obtain⟨t,rfl⟩:=ri;obtain⟨its,r,pl,hz⟩:=I.list hq;obtain⟨j,h1,h2,h3,h4,h5⟩:=Kh he;obtain⟨w,ew,rw'⟩:=r.get h2;have hl:=r.length;have hn:=G5;have fin:EP X pins σ Q w s:=⟨z,H,I,rw',q⟩
 by_cases h0:0<=k
 .have hj:k.toNat=j:=by
   rw[seqIndex_of h0 h5]at h1;exact Option.some.inj h1
  exact wpAny_getItem_list pl.isList h0 67 (by rw[hj];simpa using ew) fin
 .have hj:(k+(its.toArray.size:Int)).toNat=j:=by
   rw[seqIndex_neg 67 h4]at h1;rw[gu,<- hl];exact Option.some.inj h1
  exact wpAny_getItem_list_neg pl.isList 67 (by rw[gu]<;>omega) 67 (by rw[hj];simpa using ew) fin
def Xy(x:Ext ρ H ρ' H'){n:Nat}{a:Addr}(h:ρ[n]?=some a):ρ'[n]?=some a:=by
 obtain⟨r,rfl,_⟩:=x.pre;rw[List.getElem?_append_left (List.getElem?_eq_some_iff.mp h).1];exact h
def Vt{to ti te:TE}{mo mi me:ME}{f:Int->Int->Int}(ho:RE K to mo)(hi:RE K ti mi)(he:RE K te me):RS K (Pd to ti te (KF K) (ipI f) JW) (GU mo mi me f):=by
 intro ρ σ H hd0 ls E fl hd' hR hL hm hQ;obtain⟨⟨d1,h1⟩,e1,hm⟩:=gF hm;obtain⟨⟨d2,h2⟩,e2,hm⟩:=gF hm;dsimp only at hm;split at hm
 .split at hm
  .next ds q=>
   obtain⟨j,e4,hm⟩:=gF hm;split at hm
   .next x ex=>
    obtain⟨⟨d3,h3⟩,e3,hm⟩:=gF hm;dsimp only at hm;split at hm
    .next y ds' q'=>
     split at hm
     .next el=>
      cases hm;refine ho ρ σ H hd0 ls _ _ h1 hR hL e1 λρ1 H1 v1 x1 R1 r1=>?_;refine hi ρ1 σ H1 h1 ls _ _ _ R1 (hL.ext hR x1) e2 λρ2 H2 v2 x2 R2 r2=>?_;have r1':=r1.ext R1 x2;simp only[RD]at r1';obtain⟨a,hn,rfl⟩:=r1';simp only[RD,RI]at r2;subst r2;obtain⟨xs,l1,l2⟩:=R2.lst hn q;obtain⟨w,ew,rw'⟩:=l2.get ex;simp only[RD,RI]at rw';subst rw';refine⟨a,xs,_,.int x,rfl,rfl,SqL.of l1,?_,?_⟩
      .unfold atI;rw[l2.len];rw[e4];exact ew
      refine he ρ2 σ H2 h2 ls _ _ h3 R2 (hL.ext hR 84) e3 λρ3 H3 v3 x3 R3 r3=>?_;simp only[RD,RI]at r3;subst r3;refine⟨x,y,rfl,rfl,?_⟩;have hn3:=Xy x3 hn;obtain⟨xs3,l3,l4⟩:=R3.lst hn3 q';obtain⟨R4,x4⟩:=R3.put hn3 (o:=.lst _) (ho:=.lst (xs3.set j (.int (f x y)))) ⟨_,rfl,l4.set j (d:=.im (.int (f x y))) (by simp[RD,RI])⟩;have x13:=(84).trans R2 x3;exact⟨a,xs3,_,j,rfl,rfl,l3,by rw[l4.len,el];exact e4,hQ ρ3 _ (x13.trans R3 x4) R4 σ ((hL.ext hR x13).ext R3 x4)⟩
     .cases hm
    .cases hm
   .cases hm
  .cases hm
 .cases hm
def Wb(K:Frag){X:Cx}{o i e:Expr}{to ti te:TE}{mo mi me:ME}{op:Operator}{f:Int->Int->Int}{tpos pos:Pos}(ho:QE K X o to mo)(hi:QE K X i ti mi)(he:QE K X e te me)(hp:PIp X op (ipI f))(hK:X.K=K:=by rfl)
 (ha:∀ov iv new,augStore i ov iv new=(do holding [new,ov,iv] (setItem ov iv new);release [new,ov,iv] [];pure .next):=by intros;rfl):QS K X (.AugAssign (.Subscript o i tpos) op e pos) (Pd to ti te (KF K) (ipI f) JW) (GU mo mi me f):=
 ⟨X6 ho.p hi.p (Rv K hK) he.p hp MY ha,Vt ho.r hi.r he.r⟩
end
section
variable{ls:Ls}{hd:Hd}{ma mo mi me:ME}{QE:D->Hd->Prop}{QS:Fl->Hd->Prop}
def MF{T:Ty}(h:WE ma ls hd λd x=>∃b,isD T x d=some b/\QE (.im (.bl b)) x):WE (F6 T ma) ls hd QE:=by
 obtain⟨d,x,e,b,e2,q⟩:=h;exact⟨_,_,by simp only[F6,e,gq,e2,gR],q⟩
def Qt{k:Nat}{i:Int}{ns:List Int}(e1:hd[k]?=some (.lst (ns.map λx=>.im (.int x))))(c:i∈ns)(q:QE (.im .non) (hd.set k (.lst ((ns.eraseIdx (ns.idxOf i)).map λx=>.im (.int x))))):WP (G6 (.mu k) [.im (.int i)] hd) QE:=by
 refine⟨_,_,?_,q⟩;show(match hd[k]? with
  |some (.lst ds)=>(Am ds).bind λns=>open Classical in if i∈ns then some (D.im .non,hd.set k (.lst ((ns.eraseIdx (ns.idxOf i)).map λx=>.im (.int x))))else none
  | _=>none)=_
 rw[e1];simp[c]
end
def GC:bootBuiltins "enumerate"=some (.type "enumerate"):=by decide +kernel
section
variable{K:Frag}
noncomputable def DC(ma:MI):MI:=λls hd=>(ma ls hd).map λp=>((p.1.1.zipIdx.map λq=>AW [.im (.int (q.2:Int)),q.1],p.1.2),p.2)
def Dx{ma:MI}{ls:Ls}{hd:Hd}{QI:List D×Gd->Hd->Prop}(h:WI ma ls hd λp x=>QI (p.1.zipIdx.map λq=>AW [.im (.int (q.2:Int)),q.1],p.2) x):WI (DC ma) ls hd QI:=by
 obtain⟨p,x,e,q⟩:=h;exact⟨_,_,by simp only[DC,e,gR],q⟩
end
section
variable{X:Cx}
def Y9{prog:Program}{w:World}{A:Around}{E:Value->Shared->Prop}{s:Shared}{t b:Addr}{vs ws:List Value}{Q:Value->Shared->Prop}(ht:IsTup s.heap t 102)(hb:IsTup s.heap b ws.toArray)(hv:vs=[])
 (h1:Q (.ref b) s):wpAny 97 A (binaryOp .Add (.ref t) (.ref b)) Q E s:=by
 obtain⟨⟨cls,dd,data,sl⟩,ho,hc,n,hd⟩:=id ht;obtain⟨⟨cls2,dd2,data2,sl2⟩,ho2,hc2,n2,hd2⟩:=id hb;simp only at hc hd hc2 hd2;subst hc hd hc2 hd2;exact concat_meets ⟨_,ho,rfl⟩ ⟨_,ho2,rfl⟩ noFill_tuple_add seq_tuple_add PySem.F.slot_tuple_add PySem.F.entry_tuple_add (PySem.F.args_tuple_add_2 _ _)
  (tuple_addW0 t b 102 ws.toArray n n2 dd dd2 sl sl2 (by simp[hv])) ⟨ho,ho2,h1⟩
noncomputable def VF(K:Frag):R2:=λx y H Q=>∃a b ys,x=.ref a/\y=.ref b/\SqT K H a []/\SqT K H b ys/\Q (.ref b) H
def XW(K:Frag)(hK:X.K=K:=by rfl):OpR X (binaryOp .Add) (VF K):=by
 subst hK;intro pins s σ H x y v u Q I rx ry h;obtain⟨a,b,ys,rfl,rfl,ha,hb,q⟩:=h;cases rx;cases ry;obtain⟨its,r1,p1,_⟩:=I.tuple ha;obtain⟨its2,r2,p2,_⟩:=I.tuple hb;have:its=[]:=by cases r1;rfl
 exact Y9 p1 p2 this ⟨.ref b,H,I,rfl,q⟩
noncomputable def IG:D->D->Hd->Option (D×Hd):=λd e hd=>(Aa d).bind λa=>(Aa e).bind λb=>if a=[]then some (AW b,hd)else none
def WM{K:Frag}:RB K (VF K) IG:=by
 intro ρ H hd d e v u Q z hd' hR h1 h2 hf hQ;unfold IG at hf;obtain⟨a,e1,hf⟩:=gF hf;obtain⟨b,e2,hf⟩:=gF hf;split at hf
 .next c=>
  cases hf;subst c;obtain⟨p,xs,rfl,q1,r1⟩:=h1.tup e1;obtain⟨p2,ys,rfl,q2,r2⟩:=h2.tup e2;have:xs=[]:=by simpa [RDs]using r1
  subst this;exact⟨p,p2,ys,rfl,rfl,q1,q2,hQ ρ H _ .refl hR (C4 q2 r2)⟩
 .cases hf
end
section
variable{prog:Program}{w:World}{A:Around}{E:Value->Shared->Prop}{s:Shared}
def IX{l:Addr}{vs:List Value}{Q:List Value->Shared->Prop}(hl:IsTup s.heap l 102)
 (h:Q vs { s with heap:=(s.heap.push (seqObj "list" #[] 0)).update s.heap.objs.size (Obj.mapSeq (·++vs.toArray)) }) (hsz:vs.length<=sizeLine:=by size_fits):
 wpAny 97 A (collect (.ref l)) Q E s:=by
 obtain⟨o,ho,hc,n,hd⟩:=id hl;unfold collect;refine gb (wpAny_runValue (iD entry_proto_collect' ?_));show wpAny _ _ (do again (.builtin "list.__iadd__" ⟨[<- newList [],.ref l],[]⟩)) _ _ s;refine gb (iX (gh ⟨Code.quiet_builtin _ (by decide +kernel),iD entry_list_iadd' ?_⟩));show wpAny _ _ (Builtin.List.listExtendWith (.ref 66) (.ref l) (.ref 66)) _ _ { s with heap:=s.heap.push (seqObj "list" #[] 0) };unfold Builtin.List.listExtendWith;have ho':(s.heap.push (seqObj "list" #[] 0)).get? l=some o:=73 _ ho;refine gb (wpAny_typeOf (T:="tuple") ⟨o,ho',hc⟩ ?_);have ht:(Value.type "tuple"==Value.type "tuple")=true:=by rfl
 rw[gc (by rw[ht];simp)];refine gb (listItems_at ho' hd ?_);refine gb (listItems_at (xs:=#[]) (n:=0) (89 _ rfl) rfl ?_);rw[gf 77];refine gb (iW (xs:=#[]) (n:=0) (89 _ rfl) rfl ?_ (gW _) (by show(#[]++102).size<=sizeLine+1;simp only[Array.size_append,gu,iJ];omega));refine gh ?_;show wpAny 97 A (do
  let o <- load 66
  match o.data with
  |.seq xs _=>pure xs.toList
  | _=>unsupported "internal:collect") Q E { s with heap:=(s.heap.push (seqObj "list" #[] 0)).update s.heap.objs.size (Obj.mapSeq (·++vs.toArray)) }
 refine gb (wpAny_load (iP (89 _ rfl) _) ?_);show wpAny _ _ (pure ((#[]:Array Value)++102).toList) Q E _;rw[show((#[]:Array Value)++102).toList=vs by simp];exact gh h
def MU{l:Addr}{vs:List Value}{ns:List Int}{Q:Value->Shared->Prop}(hl:IsTup s.heap l 102)(hI:IntsAre vs ns)(h64:vs.length<64)
 (h:∀(out:Array Value) (ns':List Int),IntsAre out.toList ns'->ns'.Perm ns->ns'.Pairwise (·<=·)->Q (.ref (66+1)) { s with heap:=sortedAll s.heap vs out }):
 wpAny 97 A (call (.builtin "sorted") [.ref l]) Q E s:=by
 refine Calls.call_function_entry kind_sorted plain_sorted entry_sorted (args_sorted1 _) ?_;unfold Builtin.«sorted»;refine gb (m:=checkCount "sorted" 1 1 _) (gh ?_);refine gb (IX hl ?_);refine gb (iX ?_);have hsz:((s.heap.push (seqObj "list" #[] 0)).update 66 (Obj.mapSeq (·++102))).objs.size=66+1:=by
  rw[Heap.size_update,size_push']
 have hoL:(((s.heap.push (seqObj "list" #[] 0)).update 66 (Obj.mapSeq (·++102))).push (seqObj "list" 102 0)).get? (66+1)=some (seqObj "list" 102 0):=by
  rw[<- hsz];exact 89 _ rfl
 show wpAny _ _ _ _ _ { s with heap:=((s.heap.push (seqObj "list" #[] 0)).update s.heap.objs.size (Obj.mapSeq (·++vs.toArray))).push (seqObj "list" vs.toArray 0) };rw[hsz];refine gb (gX (j7 slot_list_sort ⟨_,hoL,rfl⟩ entry_list_sort (list_sort_tree hoL hI h64 λout ns' a1 a2 a3=>⟨_,rfl,?_⟩) (args_list_sort _)));exact gh ⟨_,rfl,h out ns' a1 a2 a3⟩
end
section
variable(K:Frag){X:Cx}
def Ih:List V->Hp->VK->Prop:=λxs H Q=>∃(a:Addr) (ns:List Int),xs=[.ref a]/\SqT K H a (ns.map V.int)/\ns.length<64/\∀(p:Addr) (ns':List Int),H p=none->ns'.Perm ns->ns'.Pairwise (·<=·)->Q (.ref p) (upd H p (.lst (ns'.map V.int)))
def Nj(hK:X.K=K:=by rfl):CallR X (.builtin "sorted") (Ih K):=by
 subst hK;intro pins s σ H xs us Q I r h;obtain⟨a,ns,rfl,hq,h64,q⟩:=h;obtain⟨u,rfl,ru⟩:=Bi r;cases ru;obtain⟨its,rv,p,hz⟩:=I.tuple hq;have hlen:=rv.length;rw[gy]at hlen;refine MU p (DT rv) 67 λout ns' a1 a2 a3=>?_;obtain⟨e,he⟩:=sortedAll_at s.heap its out;have hl':ns'.length=ns.length:=a2.length_eq;refine⟨.ref (66+1),_,I.laid (a:=66+1) (o:=.lst (ns'.map V.int)) (t':=s.toks) (λb o hb=>sortedAll_old hb) (ip _) ⟨?_,out.toList,e,K1 a1,he⟩,rfl,q _ _ (I.hok.fresh (ip _)) a2 a3⟩;rw[gy,hl'];exact il (HJ 67)
end
section
variable{K:Frag}
def Pt{t:TE}{m:MI}(h:RRw K true t m):RN K (tCB (Ih K) (Ax t BZ)) (BX m):=by
 and_intros;obtain⟨⟨⟨d1,g1⟩,h1⟩,e1,hm⟩:=gF hm;obtain⟨ns,e2,hm⟩:=gF hm;split at hm
 .next c=>
  cases hm;refine h ρ σ H hd ls _ d1 g1 _ hR hL e1 λρ1 H1 a x1 R1 G1 S1=>?_;obtain⟨xs,q,r⟩:=S1 ρ1 H1 _ .refl R1 G1;have e3:d1=ns.map λi=>.im (.int i):=C7 e2;rw[e3]at r;have:=E3 r;subst this;refine⟨a,ns,rfl,q,c,λp ns' hp pm pw=>?_⟩;have:ns'=B1 ns:=Fx (pm.trans (Aj ns).symm) pw (Ci ns);subst this;obtain⟨R2,x2⟩:=R1.hid (ho:=.lst ((B1 ns).map V.int)) hp;exact hQ ρ1 _ p _ 84 R2 (x1.none hR hp R1) (R1.out hp) AK DS
 .cases hm
def Q3(K:Frag){X:Cx}{e:Expr}{te:TE}{mi:MI}{p pos:Pos}(hm:X.mg "sorted"=none)(ha:QR K true X e te mi)(hg:Gl X "sorted":=by rfl)(he:starEach [e] X.env=[90]:=by rfl)(hK:X.K=K:=by rfl):QN K X (.Call (.Name "sorted" p) [e] [] pos) (tCB (Ih K) (Ax te BZ)) (BX mi):=
 ⟨F2 (Nj K hK) hg hm FX (BQ ha.p C1 he) 98 98 he rfl,Pt ha.r⟩
end
end L2
namespace L2
noncomputable abbrev Qe:=Gh Aw IG
end L2
namespace L2
open PySem PySem.Spec PyProof.Rows PySem.W
inductive KeysOk(h:Heap):List Value->List Int->Prop
 |kI {ks:List Value} {kz:List Int}:IntsAre ks kz->KeysOk h ks kz
 |kP {ks:List Value} {ps:List 103}:ks.length=ps.length->(∀(i:Nat) (v:Value) (p:Int×Int),ks[i]?=some v->ps[i]?=some p->PairAt h v p)->(∀p∈ps,pok p)->KeysOk h ks (ps.map AZ)
def KeysOk.len{h:Heap}{ks:List Value}{kz:List Int}(K:KeysOk h ks kz):kz.length=ks.length:=by
 cases K with
 |kI i=>have:=i.length;omega
 |kP hl _ _=>simp[hl]
theorem Gb:∀{ks:List Value} {kz:List Int} {i:Nat},IntsAre ks kz->i<ks.length->∃t,ks.getD i .none=.int (kz.getD i 0) t
 |_,_,0,.cons ..,_=>⟨_,rfl⟩
 |_,_,i+1,.cons _ _ h,hi=>by
  obtain⟨t,e⟩:=Gb (i:=i) h (by simpa using hi);exact⟨t,by simpa using e⟩
section
variable{prog:Program}{w:World}{A:Around}{E:Value->Shared->Prop}{s:Shared}
def Ud{ks:List Value}{kz:List Int}(K:KeysOk s.heap ks kz)(h2:2<=ks.length){Q:SortKind->Shared->Prop}
 (h:∀κ,(∀(i j:Nat) (C:Bool->Shared->Prop),i<ks.length->j<ks.length->C (decide (kz.getD i 0<kz.getD j 0)) s->wpAny 97 A (keyLt' κ (ks.getD i .none) (ks.getD j .none)) C (λ_ _=>False) s)->Q κ s):
 wpAny 97 A (keyKind' ks.toArray) Q E s:=by
 cases K with
 |kI hk=>
  rw[ksk_kind (kz:=kz) (by simpa using hk) (by simpa using h2)];refine gh (h _ λi j C hi hj hC=>?_);obtain⟨t,e1⟩:=Gb hk hi;obtain⟨u,e2⟩:=Gb hk hj;rw[e1,e2];exact kat_lt_int hC
 |@kP ps hl hp hok=>
  obtain⟨fs,t1,t2,t3⟩:=K2 hl hp;have tT:∀f∈fs,Looks 97 s.heap (typeOf f) (Value.type "int"):=λf hf=>by
   obtain⟨i,t,rfl⟩:=t3 f hf;exact .of_pure rfl
  refine kat_kind t1 67 tT rfl (h _ λi j C hi hj hC=>?_);have pi:ps[i]?=some (ps.getD i (0,0)):=by simp[show i<ps.length by omega]
  have pj:ps[j]?=some (ps.getD j (0,0)):=by simp[show j<ps.length by omega]
  have vi:ks[i]?=some (ks.getD i Value.none):=by simp[hi]
  have vj:ks[j]?=some (ks.getD j Value.none):=by simp[hj]
  have ei:(ps.map AZ).getD i 0=AZ (ps.getD i (0,0)):=by simp[show i<ps.length by omega]
  have ej:(ps.map AZ).getD j 0=AZ (ps.getD j (0,0)):=by simp[show j<ps.length by omega]
  rw[ei,ej]at hC;exact Ow (hp i _ _ vi pi) (hp j _ _ vj pj) (hok _ (gJ pi)) (hok _ (gJ pj)) hC
def Xl{vs:List Value}{kz:List Int}(hl:kz.length=vs.length){p:Array Nat}(pa:PAr vs.length p)(hs:STo (λi=>kz.getD i 0) p vs.length):KskOut false kz vs (p.toList.map λi=>vs.getD i Value.none):=by
 have sz:=pa.size;refine⟨p.toList.map λi=>(kz.getD i 0,vs.getD i Value.none),?_,by rw[gH];rfl,?_⟩
 .have e:kz.zip vs=(71 vs.length).map λi=>(kz.getD i 0,vs.getD i Value.none):=by
   refine iG λi=>?_;by_cases hi:i<vs.length
   .have hi2:i<kz.length:=by omega
    rw[(List.getElem?_zip_eq_some (z:=(kz[i],vs[i]))).mpr ⟨by simp[hi2],by simp[hi]⟩];simp[hi,hi2]
   .rw[List.getElem?_eq_none 79,List.getElem?_eq_none 79]
  rw[e];have:=Array.perm_iff_toList_perm.mp pa;simpa using this.map _
 .rw[iH,List.pairwise_iff_getElem];intro i j hi hj hij;simp only[Array.length_toList]at hi hj;have:=hs i j 67 67;unfold kv at this;simpa [Array.getD,hi,hj]using this
def Xm{a kS:Addr}{e e1:Nat}{ks vs:List Value}{kz:List Int}{P:PySem.Fin->Shared->Prop}(nk:s.heap.get? kS=some (seqObj "list" ks.toArray e))(na:s.heap.get? a=some (seqObj "list" #[] e1))(hka:kS≠a)(K:KeysOk s.heap ks kz)(hl:ks.length=vs.length)(h64:vs.length<64)
 (h:∀out:List Value,KskOut false kz vs out->P (.done (.ret .none)) { s with heap:=(s.heap.update kS (Obj.mapSeq λ_=>#[])).update a (Obj.mapSeq λ_=>out.toArray) }):
 wpAny 97 A (ksk_end a false 102 e1 (.ref kS) ks.toArray) P E s:=by
 have hz:kz.length=vs.length:=by have:=K.len;omega
 have s1:=Heap.SameBut.update s.heap kS (Obj.mapSeq λ_=>(#[]:Array Value));have na1:(s.heap.update kS (Obj.mapSeq λ_=>(#[]:Array Value))).get? a=some (seqObj "list" #[] e1):=(s1.2 a hka.symm).trans na;have tail:∀(st:SortSt) (out:List Value),(arrOf st).map (·.2)=out.toArray->out.length=vs.length->failedOf st=none->KskOut false kz vs out->wpAny 97 A (ksk_tail a false e1 (.ref kS) st) P E s:=by
  intro st out ho hlo hf so;unfold ksk_tail;dsimp only;refine gb (iW nk rfl ?_ (by simp[gY];omega) (gW _));refine gb (ir ?_);refine gb (seqEpoch_at na1 rfl ?_);simp only[Bool.false_eq_true,gT];rw[ho];refine gb (iW na1 rfl ?_ (gW _) (by rw[gu,gY];omega));rw[hf];simp only[bne_self_eq_false,Bool.false_eq_true,gT];exact gh (h out so)
 unfold ksk_end;simp only[Bool.false_eq_true,gT];by_cases h2:vs.toArray.size<2
 .rw[gc h2,gc h2];refine gb (gh ?_);rw[StateT.run_pure];refine gb (gh ?_);dsimp only;refine tail _ vs ?_ rfl rfl ⟨kz.zip vs,.refl _,?_,?_⟩
  .show(ks.toArray.zip 102).map (·.2)=102;apply Array.toList_inj.mp;simp only[Array.toList_map,Array.toList_zip];exact map_snd_zip 67
  .exact(map_snd_zip 67).symm
  .have hzl:(kz.zip vs).length<2:=by simp at h2 ⊢;omega
   cases hh:kz.zip vs with
   |nil=>exact .nil
   |cons z r=>
    cases r with
    |nil=>exact List.pairwise_singleton _ _
    |cons y t=>rw[hh]at hzl;exact absurd hzl 77
 .rw[gf h2,gf h2];have h2':2<=vs.length:=by simp at h2;omega
  refine gb (Ud K 67 λκ cmp=>?_);have hsz:(ks.toArray.zip 102).size=vs.length:=by simp[hl]
  have it:∀i,i<vs.length->kas_item (ks.toArray.zip 102) i=(ks.getD i .none,vs.getD i .none):=λi hi=>by
   unfold kas_item;have h1:i<ks.length:=by omega
   have h3:i<(ks.toArray.zip 102).size:=by omega
   have e:(ks.toArray.zip 102).getD i (Value.none,Value.none)=(ks.toArray.zip 102)[i]:=by simp only[Array.getD,h3,dite_true];rfl
   have e2:(ks.toArray.zip 102)[i]=(ks[i],vs[i]):=by rw[Array.getElem_zip];simp
   rw[e,e2];simp[h1,hi]
  have est:SortSt.mk' κ (ks.toArray.zip 102) #[] 7 none=kas_st κ (ks.toArray.zip 102) (List.toArray (71 vs.length)):=by
   unfold kas_st;rw[<- hsz,kas_range]
  have ask:(kas_sort vs.length).kasWp (kas_cmp prog w A κ (ks.toArray.zip 102)) (λp s'=>s'=s/\PAr vs.length p/\STo (λi=>kz.getD i 0) p vs.length) s:=by
   refine PWp.wp (n:=vs.length) (r:=λi=>kz.getD i 0) (P:=λs'=>s'=s) (λi j C s' hi hj e hC=>?_) ((OV 67).mono λp z s' e=>⟨e,z.1,z.2⟩) rfl;subst e;unfold kas_cmp;rw[it i hi,it j hj];exact cmp i j C 67 67 (hC _ rfl)
  have run:=kas_runs (E:=E) (Q:=λ_ st' s'=>∃p:Array Nat,arrOf st'=p.map (kas_item (ks.toArray.zip 102))/\failedOf st'=none/\s'=s/\PAr vs.length p/\STo (λi=>kz.getD i 0) p vs.length) h2' h64 (λp st' s' x1 x2 x3 x4=>⟨p,x2,x3,x4⟩) ask;rw[<- est]at run;refine gb (gz run ?_ λ_ _ e=>e);rintro⟨⟨⟩,st'⟩ s' ⟨p,har,hf,rfl,pa,so⟩;dsimp only;refine tail st' (p.toList.map λi=>vs.getD i Value.none) ?_ ?_ hf (Xl hz pa so)
  .rw[har];apply Array.toList_inj.mp;simp only[Array.toList_map,gH,List.toList_toArray];refine j3 λi hi=>?_;have hi':i<vs.length:=by
    have:=(Array.perm_iff_toList_perm.mp pa).mem_iff.mp hi;simpa using this
   exact i3 Prod.snd (it i hi')
  .simp[pa.size]
end
noncomputable def IE(G:Hp->Prop)(tb:TE)(cap:St):List Int->Hp->(List V->Hp->Prop)->Prop
 |[],H,Q=>Q [] H
 |n::r,H,Q=>G H/\tb (some (.int n)::cap) H λk H1=>IE G tb cap r H1 λks H2=>Q (k::ks) H2
def II(K:Frag)(H:Hp)(ks:List V)(kz:List Int):Prop:=ks=kz.map V.int∨∃ps:List 103,kz=ps.map AZ/\(∀p∈ps,pok p)/\ks.length=ps.length/\∀(i:Nat) (k:V) (p:Int×Int),ks[i]?=some k->ps[i]?=some p->∃x,k=.ref x/\SqT K H x [.int p.1,.int p.2]
def JD(kz ns ms:List Int):Prop:=∃zs:List 103,zs.Perm (kz.zip ns)/\zs.Pairwise (λa b=>a.1<=b.1)/\ms=zs.map (·.2)
noncomputable def EE:Value->Int
 |.int n _=>n
 |_=>0
theorem NP:∀{vs:List Value} {ns:List Int},IntsAre vs ns->vs.map EE=ns
 |_,_,.nil=>rfl
 |_,_,.cons _ _ h=>by rw[gm,NP h];rfl
theorem NQ:∀{vs:List Value} {ns:List Int},IntsAre vs ns->∀v∈vs,∃t,v=.int (EE v) t
 |_,_,.nil,v,h=>by cases h
 |_,_,.cons _ _ h,v,hv=>by
  rcases mem_cons.mp hv with rfl|hv
  .exact⟨_,rfl⟩
  .exact NQ h v hv
theorem FR:∀{xs:List V} {vs:List Value} {ns:List Int},xs=ns.map V.int->Vals xs vs->IntsAre vs ns
 |_,_,[],e,h=>by subst e;cases h;exact .nil
 |_,_,n::r,e,h=>by
  subst e;cases h with
  |cons a b=>obtain⟨t,rfl⟩:=a;exact .cons n t (FR rfl b)
theorem JH:∀{vs:List Value},(∀v∈vs,∃t,v=Value.int (EE v) t)->Vals ((vs.map EE).map V.int) vs
 |[],_=>.nil
 |v::r,h=>by
  refine .cons ?_ (JH λw hw=>h w (gi _ hw));obtain⟨t,e⟩:=h v gp;exact⟨t,e⟩
def bx{kz ns:List Int}{vs out:List Value}(hi:IntsAre vs ns)(so:KskOut false kz vs out):JD kz ns (out.map EE)/\∀v∈out,∃t,v=Value.int (EE v) t:=by
 obtain⟨zs,pm,rfl,pw⟩:=so;refine⟨⟨zs.map λz=>(z.1,EE z.2),?_,?_,by rw[gH,gH];rfl⟩,?_⟩
 .have:=pm.map λz:Int×Value=>(z.1,EE z.2)
  have e:((kz.zip vs).map λz:Int×Value=>(z.1,EE z.2))=kz.zip ns:=by
   rw[<- NP hi,List.zip_map_right];rfl
  rwa [e]at this
 .rw[iH];exact pw.imp λh=>by simpa using h
 .intro v hv;obtain⟨z,hz,rfl⟩:=mem_map.mp hv;have:=pm.mem_iff.mp hz;exact NQ hi _ (of_mem_zip this).2
section
variable{X:Cx}{pins:List 81}{σ:St}{H:Hp}{s:Shared}{a:Addr}
def Inv.adopt{o:HO}(I:Inv X pins σ H s)(f:FpOk X pins H a)(h0:X.s₀.heap.objs.size<=a)(new:ObjOk X.prog X.w (upd H a o) s.heap a o):Inv X pins σ (upd H a o) s:=by
 obtain⟨hn,hL,hfs,_,hc,hp⟩:=f;have nb:∀b u,H b=some u->b≠a:=λb u e=>AR e hn;have n0:∀b o,X.s₀.heap.get? b=some o->b≠a:=λb o e=>gv (gU (91 e) h0);refine⟨I.ok,I.os,I.bare,⟨I.base.keep,I.base.slot,λb o e n hx=>?_,I.base.there,λb xs e=>?_,λb o u e=>?_,λb ps e=>?_⟩,I.loc,I.cell,?_,λx c e=>?_,λp hp'=>?_,λb u e=>?_,I.len⟩
 .rw[AE (n0 b o e)];exact I.base.free b o e n hx
 .have:=I.base.tups b xs e;rw[AE (nb b _ this)];exact this
 .have:=I.base.frzs b o u e;rw[AE (nb b _ this)];exact this
 .obtain⟨m,e1⟩:=I.base.tbls b ps e;exact⟨m,by rw[AE (nb b _ e1)];exact e1⟩
 .rw[AE (λz=>hL z.symm)];exact I.free
 .rw[AE (hc x c e)];exact I.freeC x c e
 .obtain⟨q1,q2,q3⟩:=I.pin p hp';exact⟨q1,by rw[AE (hp p hp')];exact q2,q3⟩
 .by_cases z:b=a
  .subst z;rw[AK]at e;cases e;exact new
  .rw[AE z]at e;exact(I.hok b u e).stay (λ_ _ _ q=>q) (λd q=>by rw[AE (nb d _ q)];exact q) λd xs q=>by rw[AE (nb d _ q)];exact q
def Xk(I:Inv X pins σ H s){ks:List V}{kz:List Int}{us:List Value}(k:II X.K H ks kz)(r:Vals ks us):KeysOk s.heap us kz:=by
 rcases k with rfl|⟨ps,rfl,hok,hl,hp⟩
 .exact .kI (FR rfl r)
 .refine .kP (by rw[<- r.length];exact hl) (λi v p e1 e2=>?_) hok;have hi:i<ks.length:=by rw[hl];exact(78 e2).1
  have ek:ks[i]?=some ks[i]:=by simp[hi]
  obtain⟨x,ex,sq⟩:=hp i _ p ek e2;obtain⟨v',ev,rel⟩:=Ia r ek;rw[e1]at ev;cases ev;rw[ex]at rel;have rel:v=Value.ref x:=rel;subst rel;obtain⟨jts,rj,⟨o,ho,hc,n,hd⟩,_⟩:=I.tuple sq;cases rj with
  |cons r1 t1=>
   cases t1 with
   |cons r2 t2=>
    cases t2;obtain⟨t,rfl⟩:=r1;obtain⟨t',rfl⟩:=r2;exact⟨x,o,t,t',n,rfl,ho,hc,hd⟩
end
section
variable{X:Cx}{pins:List 81}{σ:St}{H:Hp}{s:Shared}
def Inv.turn1{b:Addr}{o:Obj}{h':Heap}{t':Nat}(I:Inv X ((b,o)::pins) σ H s)(f:FpOk X pins H b)(hs:Heap.SameBut b s.heap h'):Inv X pins σ H { s with heap:=h',toks:=t' }:=by
 have J:Inv X pins σ H s:=I.pins_of λp hp=>I.pin p (gn _ (gi _ hp));obtain⟨hn,hL,_,h1,h2,h3⟩:=f;exact J.turned (λc u n e=>(hs.2 c n).trans e) hn hL h1 h2 h3
def FpOk.more{b c:Addr}{o:Obj}(f:FpOk X pins H b)(h:c≠b):FpOk X ((c,o)::pins) H b:=by
 obtain⟨a1,a2,a3,a4,a5,a6⟩:=f;refine⟨a1,a2,a3,a4,a5,λp hp=>?_⟩;rcases mem_append.mp hp with q|q
 .exact a6 p (i9 _ q)
 .rcases mem_cons.mp q with rfl|q
  .exact h
  .exact a6 p (gn _ q)
def Inv.repin{b:Addr}{o:Obj}(I:Inv X pins σ H s)(f:FpOk X pins H b)(e:s.heap.get? b=some o)(hd:∀v,o.data≠.cell v):Inv X ((b,o)::pins) σ H s:=
 I.pins_of λp hp=>by
  rcases mem_cons.mp hp with rfl|hp
  .exact⟨e,f.1,f.2.1,f.2.2.1,hd⟩
  .exact I.pin p (gn _ hp)
def Pf{l:Value}{f:Addr}{ns:List Int}{G:Hp->Prop}{tb:TE}{cap:St}{Q:VK}{E:Value->Shared->Prop}(I:Inv X pins σ H s)(h64:ns.length<64)
 (hcol:∀(Q:List Value->Shared->Prop) (E:Value->Shared->Prop),(∀(g:Heap) (tk:Nat) (vs:List Value),(∀b o,s.heap.get? b=some o->g.get? b=some o)->IntsAre vs ns->Q vs { s with heap:=g,toks:=tk })->wpAny 69 X.A.in1 (collect l) Q E s)
 (turn:∀(pins':List 81) (H1:Hp) (s1:Shared) (n:Int) (u:Value) (Q1:VK),(∀p∈pins,p∈pins')->Inv X pins' σ H1 s1->RelV (.int n) u->G H1->tb (some (.int n)::cap) H1 Q1->wpAny 69 X.A.in1.in1 (call (.ref f) [u]) (EP X pins' σ Q1) (λ_ _=>False) s1)
 (h:IE G tb cap ns H λks H3=>∃kz,II X.K H3 ks kz/\∀p ms,H3 p=none->JD kz ns ms->Q (.ref p) (upd H3 p (.lst (ms.map V.int)))):
 wpAny 69 X.A (call (.builtin "sorted") [l] [(Str.ofString "key",.ref f)]) (EP X pins σ Q) E s:=by
 refine call_function_entry_kw kind_sorted plain_sorted entry_sorted (ksk_s1 _ _) ?_;unfold Builtin.«sorted»;refine gb (m:=checkCount "sorted" 1 1 _) (gh ?_);refine gb (hcol _ _ λg tk vs keep0 hi=>?_)
 replace I:Inv X pins σ H { s with heap:=g,toks:=tk }:=I.kept (t':=tk) keep0
 clear hcol;generalize { s with heap:=g,toks:=tk }=s at I ⊢;clear keep0 g tk;have line:vs.length<=sizeLine:=by have:=hi.length;rw[gY];omega
 have h64:vs.length<64:=by have:=hi.length;omega
 refine gb (iX ?_ line);show wpAny _ _ _ _ _ { s with heap:=s.heap.push (seqObj "list" vs.toArray 0) };have hoL:(s.heap.push (seqObj "list" 102 0)).get? 66=some (seqObj "list" 102 0):=89 _ rfl;have keep1:∀b o,s.heap.get? b=some o->(s.heap.push (seqObj "list" 102 0)).get? b=some o:=λb o q=>73 _ q;have sz1:(s.heap.push (seqObj "list" 102 0)).objs.size=66+1:=by rw[size_push']
 generalize s.heap.push (seqObj "list" 102 0)=h1 at hoL keep1 sz1 ⊢;have fa:∀H',H' 66=none->FpOk X pins H' s.heap.objs.size:=λH' hn=>I.fpOk (gg _) hn;have fk:∀H',H' (66+2)=none->FpOk X pins H' (66+2):=λH' hn=>I.fpOk 67 hn;refine gb (gX (wpAny_call_entry_kw slot_list_sort ⟨_,hoL,rfl⟩ entry_list_sort ?_ (ksk_l1 _ _)));show wpAny 69 X.A.in1.in1 (Builtin.«list.sort» ⟨[.ref (66)],[(Str.ofString "key",.ref f)]⟩) _ _ _;rw[ksk_t1];have u1:=Heap.SameBut.update h1 (66) (Obj.mapSeq λ_=>(#[]:Array Value));obtain⟨e1,ho1⟩:∃e1,(h1.update (s.heap.objs.size) (Obj.mapSeq λ_=>(#[]:Array Value))).get? (s.heap.objs.size)=some (seqObj "list" #[] e1):=⟨_,iP hoL λ_=>#[]⟩
 have sz2:(h1.update (66) (Obj.mapSeq λ_=>(#[]:Array Value))).objs.size=66+1:=by rw[Heap.size_update,sz1]
 have keep2:∀b o,s.heap.get? b=some o->(h1.update (66) (Obj.mapSeq λ_=>(#[]:Array Value))).get? b=some o:=λb o q=>(u1.2 b (gv (91 q))).trans (keep1 b o q);unfold ksk_tree;refine gb (listItems_at hoL rfl ?_);refine gb (iW hoL rfl ?_ (by rw[gu,gY];omega) (gW _));refine gb (seqEpoch_at ho1 rfl ?_);generalize h1.update (66) (Obj.mapSeq λ_=>(#[]:Array Value))=h2 at ho1 sz2 keep2 ⊢;refine gb (wpAny_newTuple ?_ (by show vs.length<=_;exact line));refine gb (iX ?_ (gW _));have sz3:(h2.push (seqObj "tuple" 102 0)).objs.size=66+2:=by rw[size_push',sz2]
 have okS:((h2.push (seqObj "tuple" 102 0)).push (seqObj "list" #[] 0)).get? (66+2)=some (seqObj "list" #[] 0):=by rw[<- sz3];exact 89 _ rfl
 have oa4:((h2.push (seqObj "tuple" 102 0)).push (seqObj "list" #[] 0)).get? (66)=some (seqObj "list" #[] e1):=73 _ (73 _ ho1);have keep4:∀b o,s.heap.get? b=some o->((h2.push (seqObj "tuple" 102 0)).push (seqObj "list" #[] 0)).get? b=some o:=λb o q=>73 _ (73 _ (keep2 b o q));have ekS:∀o:Obj,Value.ref ((({ s with heap:=h2.push o }:Shared)).heap.objs.size)=Value.ref (h2.push o).objs.size:=λ_=>rfl;refine gX ?_;have goal:∀kS:Addr,kS=66+2->wpAny 69 X.A.in1.in1 (ksk_rest (66) (.ref f) false 102 e1 (.ref kS)) (λfin s'=>∃v,fin=PySem.Fin.done (.ret v)/\wpAny 69 X.A.in1 (ret (.ref (66))) (λfin s'=>∃v,fin=PySem.Fin.done (.ret v)/\EP X pins σ Q v s') E s') E { s with heap:=(h2.push (seqObj "tuple" vs.toArray 0)).push (seqObj "list" #[] 0) }:=by
  intro kS ek;rw[ek];have fresh0:H (66)=none/\H (66+2)=none:=⟨I.hok.fresh 67,I.hok.fresh 67⟩
  have I4:Inv X pins σ H { s with heap:=(h2.push (seqObj "tuple" vs.toArray 0)).push (seqObj "list" #[] 0) }:=I.kept (t':=s.toks) keep4;have nak:66≠66+2:=by omega
  have I5:=(I4.repin (fk H fresh0.2) okS (λv z=>by cases z)).repin ((fa H fresh0.1).more nak.symm) oa4 (λv z=>by cases z);unfold ksk_rest;refine gb (wpAny_rule ?_)
  first
   |rw[List.forIn_toArray]
   |(rw[<- Array.forIn_toList];simp only[List.toList_toArray])
   |rw[<- Array.forIn_toList]
  refine gb (ksk_fold (λi s'=>∃(H':Hp) (kA:Array Value) (e:Nat) (ks:List V),Inv X ((66,seqObj "list" #[] e1)::(66+2,seqObj "list" kA e)::pins) σ H' s'/\Vals ks kA.toList/\kA.size=i /\
   IE G tb cap (ns.drop i) H' λks' H3=>∃kz,II X.K H3 (ks++ks') kz/\∀p ms,H3 p=none->JD kz ns ms->Q (.ref p) (upd H3 p (.lst (ms.map V.int)))) vs 0 _ ⟨H,#[],0,[],I5,.nil,rfl,h⟩ ?step ?done)
  case step=>
   rintro j x s' hx ⟨H',kA,e,ks,J,rk,hsz,hgo⟩;simp only[Nat.zero_add]at hsz hgo ⊢;have hj:j<vs.length:=(78 hx).1;have hjn:j<ns.length:=by have:=hi.length;omega
   have enx:ns[j]?=some ns[j]:=by simp[hjn]
   have edr:ns.drop j=ns[j]::ns.drop (j+1):=ig hjn;rw[edr]at hgo;obtain⟨hG,hgo⟩:=hgo;have rx:RelV (.int ns[j]) x:=by
    obtain⟨t,et⟩:=Gb hi hj;have:vs.getD j .none=x:=by simp[List.getD,hx]
    rw[this]at et;have:ns.getD j 0=ns[j]:=by simp[hjn]
    rw[this]at et;exact⟨t,et⟩
   refine gb (wpAny_attempt (gz (turn _ H' s' ns[j] x _ (λp hp=>gi _ (gi _ hp)) J rx hG hgo) (λv s'' he=>?_) λ_ _ hF=>hF.elim));obtain⟨k,H2,J2,r2,hgo2⟩:=he;dsimp only;have pk:=J2.pin (66+2,seqObj "list" kA e) (gn _ (gi _ gp));have pa:=J2.pin (66,seqObj "list" #[] e1) (gn _ gp);have u2:=Heap.SameBut.update s''.heap (66+2) (Obj.mapSeq (·.push v));obtain⟨c2,hc2⟩:∃c2,(s''.heap.update (s.heap.objs.size+2) (Obj.mapSeq (·.push v))).get? (s.heap.objs.size+2)=some (seqObj "list" (kA.push v) c2):=⟨_,iP pk.1 (·.push v)⟩
   refine gb (iW pk.1 rfl ?_ (by rw[gY];omega) (gQ (Nat.le_of_eq (Array.size_push ..)) (by rw[gY];omega)));have J3:Inv X ((66+2,seqObj "list" kA e)::pins) σ H2 s'':=J2.pins_of λp hp=>J2.pin p (gn _ (gi _ hp));have J4:Inv X pins σ H2 { s'' with heap:=s''.heap.update (s.heap.objs.size+2) (Obj.mapSeq (·.push v)) }:=J3.turn1 (t':=s''.toks) (fk H2 pk.2.1) u2;have oa:(s''.heap.update (66+2) (Obj.mapSeq (·.push v))).get? (66)=some (seqObj "list" #[] e1):=(u2.2 _ nak).trans pa.1;have J5:=(J4.repin (fk H2 pk.2.1) hc2 (λv z=>by cases z)).repin ((fa H2 pa.2.1).more nak.symm) oa (λv z=>by cases z);refine gh ⟨rfl,H2,kA.push v,c2,ks++[k],J5,?_,by simp[hsz],?_⟩
   .rw[Array.toList_push];exact rk.append (.cons r2 .nil)
   .simpa [iQ]using hgo2
  case done=>
   rintro s' ⟨H',kA,e,ks,J,rk,hsz,hgo⟩;have hdr:ns.drop (0+vs.length)=[]:=List.drop_of_length_le (by have:=hi.length;omega);rw[hdr]at hgo;obtain⟨kz,kv,fin⟩:∃kz,II X.K H' (ks++[]) kz/\∀p ms,H' p=none->JD kz ns ms->Q (.ref p) (upd H' p (.lst (ms.map V.int))):=hgo;rw[i4]at kv;have pk:=J.pin (66+2,seqObj "list" kA e) (gn _ (gi _ gp));have pa:=J.pin (66,seqObj "list" #[] e1) (gn _ gp);refine gb (listItems_at pk.1 rfl ?_);have ekA:kA=kA.toList.toArray:=by simp
   rw[ekA]at pk ⊢;have lk:kA.toList.length=vs.length:=by rw[Array.length_toList];omega
   refine Xm pk.1 pa.1 nak.symm (Xk J kv rk) lk h64 λout so=>⟨_,rfl,gh ⟨_,rfl,?_⟩⟩
   obtain⟨on,oi⟩:=bx hi so;have u5:=Heap.SameBut.update s'.heap (66+2) (Obj.mapSeq λ_=>(#[]:Array Value));have oa:(s'.heap.update (66+2) (Obj.mapSeq λ_=>(#[]:Array Value))).get? (66)=some (seqObj "list" #[] e1):=(u5.2 _ nak).trans pa.1;have u6:=Heap.SameBut.update (s'.heap.update (66+2) (Obj.mapSeq λ_=>(#[]:Array Value))) (66) (Obj.mapSeq λ_=>out.toArray);obtain⟨c6,hc6⟩:∃c6,((s'.heap.update (s.heap.objs.size+2) (Obj.mapSeq λ_=>(#[]:Array Value))).update (s.heap.objs.size) (Obj.mapSeq λ_=>out.toArray)).get? (s.heap.objs.size)=some (seqObj "list" out.toArray c6):=⟨_,iP oa λ_=>out.toArray⟩
   have J3:Inv X ((66+2,seqObj "list" kA e)::pins) σ H' s':=J.pins_of λp hp=>J.pin p (gn _ (gi _ hp));have J4:Inv X pins σ H' { s' with heap:=s'.heap.update (s.heap.objs.size+2) (Obj.mapSeq λ_=>(#[]:Array Value)) }:=J3.turn1 (t':=s'.toks) (fk H' pk.2.1) u5;have J5:Inv X pins σ H' { s' with heap:=(s'.heap.update (s.heap.objs.size+2) (Obj.mapSeq λ_=>(#[]:Array Value))).update (s.heap.objs.size) (Obj.mapSeq λ_=>out.toArray) }:=(J4.repin (fa H' pa.2.1) oa (λv z=>by cases z)).turn1 (t':=s'.toks) (fa H' pa.2.1) u6;have lo:out.length<64:=by
    obtain⟨zs,pm,rfl,_⟩:=so;have:=pm.length_eq;simp at this ⊢;omega
   have J6:=J5.adopt (o:=.lst ((out.map EE).map V.int)) (fa H' pa.2.1) (I.sz) ⟨by simp[gY];omega,out,c6,JH oi,hc6⟩;exact⟨.ref _,_,J6,rfl,fin _ _ pa.2.1 on⟩
 exact goal _ sz3
end
def Src(K:Frag)(H:Hp)(a:Addr)(ns:List Int):Prop:=SqT K H a (ns.map V.int)∨∃n:Nat,n<64/\H a=some (.rng 0 n)/\ns=(71 n).map λk:Nat=>(k:Int)
noncomputable def JJ(K:Frag)(P:Addr)(q:Str)(pos:Pos)(ix:List Nat)(te tb:TE):TE:=λσ H Q=>te σ H λv H1=>∃(a:Addr) (ns:List Int) (ps:Array Value),v=.ref a/\Src K H1 a ns/\ns.length<64/\H1 P=some (.tbl ps)/\Cw H1 q pos ps /\
 ∀H2 c,TabStep P q pos H1 H2->H2 c=some (.ext (cdF c q))->IE (λH=>H c=some (.ext (cdF c q))) tb (ix.map λi=>(σ[i]?).join) ns H2 λks H3=>∃kz,II K H3 ks kz/\∀p ms,H3 p=none->JD kz ns ms->Q (.ref p) (upd H3 p (.lst (ms.map V.int)))
def TabStep.rd{P:Addr}{q:Str}{pos:Pos}{H H':Hp}{ps:Array Value}(t:TabStep P q pos H H')(hP:H P=some (.tbl ps)){a:Addr}{xs:List V}(r:Rd H a (.tup xs)):Rd H' a (.tup xs):=by
 rcases t with rfl|⟨c,hc,_,rfl⟩
 .exact r
 .have ne:∀u,H a=some u->(∀ps,u≠.tbl ps)->upd (upd H P (.tbl #[rawInt pos.line,rawInt pos.col,.ref c])) c (.ext (cdF c q)) a=some u:=λu e n=>by
   rw[AE (AR e hc),AE (λz=>by subst z;rw[hP]at e;cases e;exact n _ rfl)];exact e
  rcases r with r|⟨o,r⟩
  .exact .inl (ne _ r λps z=>by cases z)
  .exact .inr ⟨o,ne _ r λps z=>by cases z⟩
def TabStep.sqt{K:Frag}{P:Addr}{q:Str}{pos:Pos}{H H':Hp}{ps:Array Value}(t:TabStep P q pos H H')(hP:H P=some (.tbl ps)){a:Addr}{xs:List V}(r:SqT K H a xs):SqT K H' a xs:=by
 rcases r with r|r
 .exact .inl (t.rd hP r)
 .exact .inr r
def TabStep.src{K:Frag}{P:Addr}{q:Str}{pos:Pos}{H H':Hp}{ps:Array Value}(t:TabStep P q pos H H')(hP:H P=some (.tbl ps)){a:Addr}{ns:List Int}(r:Src K H a ns):Src K H' a ns:=by
 rcases r with r|⟨n,h,e,z⟩
 .exact .inl (t.sqt hP r)
 .refine .inr ⟨n,h,?_,z⟩;rcases t with rfl|⟨c,hc,_,rfl⟩
  .exact e
  .rw[AE (AR e hc),AE (λz=>by subst z;rw[hP]at e;cases e)];exact e
def QV{n:Nat}{acc:Array Value}(it:ItemsOf (λi v=>∃t,v=.int (0+i*1) t) acc n):IntsAre acc.toList ((71 n).map λk:Nat=>(k:Int)):=by
 have:=Jh (lo:=0) it;have e:Bo 0 n=((71 n).map λk:Nat=>(k:Int)).map V.int:=by
  have:∀(lo:Nat) (n:Nat),Bo (lo:Int) n=((List.range' lo n).map λk:Nat=>(k:Int)).map V.int:=by
   intro lo n
   induction n generalizing lo with
   |zero=>rfl
   |succ n ih=>rw[Bo,List.range'_succ];simp only[gm];rw[<- ih (lo+1)];rfl
  rw[List.range_eq_range'];exact this 0 n
 rw[e]at this;exact FR rfl this
section
variable{X:Cx}{c P:Addr}{scope:Scope}{fr:List Str}{ix:List Nat}{prm:Str}{params:Arguments}{body e:Expr}{p pos lpos kpos:Pos}{te tb:TE}
def UL(LA:LamAt X c P)(S:CSc X scope fr ix)(L:LSc scope prm)(hr:Room 3 X.A)(hcm:X.calm=true)(hg:Gl X "sorted")(hm:X.mg "sorted"=none)
 (hbind:∀(cl:List (Str×Addr)) (pm cd ctv us:Value),bindArgs (kla_fn "<lambda>" 74 params body scope cl pm cd ctv) ⟨[us],[]⟩=pure [(prm,us)])
 (he:PE X e te) (hb:∀(f:Addr) (cd:Value) (s:Shared) (H:Hp),PE (lCx X X.A.in1.in1 (prm::fr) 74 scope f cd 87 s H) body tb)
 (hdef:defaultsOf params X.env=([],[]):=by rfl) (hs:starEach [e] X.env=[90]:=by rfl):
 PE X (.Call (.Name "sorted" p) [e] [⟨some "key",.Lambda params body scope lpos,kpos⟩] pos) (JJ X.K P 74 lpos ix te tb):=by
 intro pins s σ H Q I h;have PAe:PA X [e] (Ax te BZ):=BQ he C1 hs;refine iN (CT (u:=.builtin "sorted") I hg hm FX ?_);have pl:(backTo pos (starEach [e] X.env)).any (·.1)=false:=by rw[hs];rfl
 refine callWith_builtin_kwB pl rfl (evalArgs_kw2 (env:=X.env) (e:=e) (rest:=[]) (kws:=[⟨some "key",.Lambda params body scope lpos,kpos⟩]) rfl (thn (PAe pos pins s σ H (λvs H1=>match vs with
  |[v]=>∃(a:Addr) (ns:List Int) (ps:Array Value),v=.ref a/\Src X.K H1 a ns/\ns.length<64/\H1 P=some (.tbl ps)/\Cw H1 74 lpos ps /\
   ∀H2 c,TabStep P 74 lpos H1 H2->H2 c=some (.ext (cdF c 74))->IE (λH=>H c=some (.ext (cdF c 74))) tb (ix.map λi=>(σ[i]?).join) ns H2 λks H3=>∃kz,II X.K H3 ks kz/\∀p ms,H3 p=none->JD kz ns ms->Q (.ref p) (upd H3 p (.lst (ms.map V.int)))
  | _=>False) I h) λus s1 hq=>?_) hs)
 obtain⟨vs,H1,I1,r,q⟩:=hq
 match vs,q with
 |[v],q=>
 obtain⟨a,ns,ps,rfl,sq,h64,hP,hg1,go⟩:=q;obtain⟨u,rfl,ru⟩:=Bi r;cases ru;show wpAny _ _ (evalAll [(do let v <- eval (.Lambda params body scope lpos) X.env;standAt pos;pure v)]) _ _ s1;refine jj (gb (GW S LA I1 hdef hP hg1 λf cd ctv H2 s2 I2 M=>gb (iM (gh (jk ?_)))));show wpAny _ _ (call (.builtin "sorted") [.ref a] [(Str.ofString "key",.ref f)]) _ _ s2;have sq2:=M.step.src hP sq;obtain⟨c',rfl,hc'⟩:=M.cdc;have ff:FpOk X pins H2 f:=I1.fpOk M.new M.fre;have I3:=I2.repin ff M.fn (λv z=>by cases z);refine gz (Pf (pins:=(f,_)::pins) I3 h64 (λQ E hq=>?_) (λpins' H' s' n u Q1 sub J ru hG hq=>?_) (go H2 c' M.step hc')) (λv s' hv=>?_) λ_ _ z=>z
 .rcases sq2 with sq2|⟨n,hn,er,rfl⟩
  .obtain⟨its,rv,tp,_⟩:=I2.tuple sq2;have hi:IntsAre its ns:=FR rfl rv;have hlen:its.length<=sizeLine:=by have:=hi.length;rw[gY];omega
   refine IX tp (hq _ s2.toks its (λb o q=>?_) hi) hlen;have hlt:b<s2.heap.objs.size:=91 q;rw[Heap.get?_update_ne _ _ _ _ (gv hlt),Heap.get?_push_ne _ _ _ (gv hlt)];exact q
  .obtain⟨t,u,v,hr'⟩:∃t u v,s2.heap.get? a=some { cls:=.type "range",data:=.fields #[.int 0 t,.int n u,.int 1 v] }:=I2.hok a _ er;refine O2 (n:=n) (I2.ok.hd hcm) hr' (small_one 67 67 67 67) (by rw[V5];omega) 67 λg tk acc kp it=>hq g tk _ kp (QV it)
 .have pf:=J.pin (f,_) (gn _ (sub _ gp));exact Iu (A:=X.A.in1.in1) (f:=f) S L J rfl hr.in1.in1 pf.1 (J.hok c' _ hG).1 (λus=>hbind _ _ _ _ us) (λs H=>hb f _ s H) ru hq
 .obtain⟨y,H',J,ry,qy⟩:=hv;exact⟨y,H',J.pins_of λp hp=>J.pin p (gn _ (gi _ hp)),ry,qy⟩
end
def FY(K:Frag)(P:Addr)(q:Str)(pos:Pos):Prop:=∃p':Pos,(P,q,p')∈Ch K/\((Ch K).map (·.1)).Nodup/\p'.line=pos.line/\p'.col=pos.col
open Classical in
noncomputable def ET(ds:List D):Option (List Int):=match Am ds with
 |some ns=>some ns
 |none=>match D1 ds with
  |some ps=>if ∀p∈ps,pok p then some (ps.map AZ)else none
  |none=>none
open Classical in
noncomputable def El(mb:ME)(cap:Ls)(hd:Hd):List Int->Option (List D)
 |[]=>some []
 |n::r=>match mb (some (.im (.int n))::cap) hd with
  |some (k,h)=>match El mb cap hd r with
   |some ks=>if h=hd then some (k::ks)else none
   |none=>none
  |none=>none
theorem L8{mb:ME}{cap:Ls}{hd:Hd}:∀{ns:List Int} {ks:List D},El mb cap hd ns=some ks->ks.length=ns.length
 |[],ks,e=>by cases e;rfl
 |n::r,ks,e=>by
  unfold El at e;split at e
  .split at e
   .next ks' e2=>
    split at e
    .cases e;simp[L8 e2]
    .cases e
   .cases e
  .cases e
def QQ{ds:List D}{kz:List Int}(e:ET ds=some kz):kz.length=ds.length:=by
 unfold ET at e;split at e
 .next ns e6=>cases e;rw[C7 e6];simp
 .split at e
  .next ps e6=>
   split at e
   .cases e;rw[HY e6];simp
   .cases e
  .cases e
noncomputable def FJ(kz ns:List Int):List Int:=((kz.zip ns).mergeSort λa b=>decide (a.1<=b.1)).map (·.2)
def UP{kz ns ms:List Int}(nd:kz.Nodup)(hl:kz.length=ns.length)(o:JD kz ns ms):ms=FJ kz ns:=by
 obtain⟨zs,pm,pw,rfl⟩:=o;have pm2:((kz.zip ns).mergeSort λa b=>decide (a.1<=b.1)).Perm (kz.zip ns):=iZ ..;have pw2:((kz.zip ns).mergeSort λa b=>decide (a.1<=b.1)).Pairwise λa b=>a.1<=b.1:=by
  have:=j8 (le:=λa b:Int×Int=>decide (a.1<=b.1)) (by intro a b c h1 h2;simp at *;omega) (by intro a b;simp;omega) (kz.zip ns);exact this.imp 77
 have inj:∀a∈kz.zip ns,∀b∈kz.zip ns,a.1=b.1->a=b:=by
  intro a ha b hb e;obtain⟨i,hi⟩:=mem_iff_getElem?.mp ha;obtain⟨j,hj⟩:=mem_iff_getElem?.mp hb;obtain⟨i1,i2⟩:=List.getElem?_zip_eq_some.mp hi;obtain⟨j1,j2⟩:=List.getElem?_zip_eq_some.mp hj;rw[e]at i1;have:i=j:=(List.getElem?_inj (78 i1).1 nd).mp (i1.trans j1.symm);subst this;rw[i2]at j2;exact Prod.ext e (Option.some.inj j2)
 have:zs=(kz.zip ns).mergeSort λa b=>decide (a.1<=b.1):=
  (pm.trans pm2.symm).eq_of_pairwise (le:=λa b=>a.1<=b.1) (λa b ha hb h1 h2=>inj a (pm.mem_iff.mp ha) b (pm2.mem_iff.mp hb) (Int.le_antisymm h1 h2)) pw pw2
 rw[this];rfl
noncomputable def M7(m:MA):Ls->Hd->Option (List Int×Hd):=λls hd=>(m ls hd).bind λp=>match p.1 with
 |[.im (.int j)]=>if 0<=j/\j<64 then some ((71 j.toNat).map λk:Nat=>(k:Int),p.2)else none
 |_=>none
open Classical in
noncomputable def ER(src:Ls->Hd->Option (List Int×Hd))(ix:List Nat)(mb:ME):MA:=λls hd=>(src ls hd).bind λp=>(El mb (ix.map λi=>(ls[i]?).join) p.2 p.1).bind λks=>(ET ks).bind λkz=>
 if p.1.length<64/\kz.Nodup then some ((FJ kz p.1).map λi=>.im (.int i),p.2)else none
noncomputable abbrev Ov(m:MA)(ix:List Nat)(mb:ME):MA:=ER (M7 m) ix mb
def Uz(K:Frag)(te:TE)(src:Ls->Hd->Option (List Int×Hd)):Prop:=∀(ρ:List Addr) (σ:St) (H:Hp) (hd:Hd) (ls:Ls) (Q:VK) (ns:List Int) (hd':Hd),RH K ρ H hd->RL K ρ H ls σ->src ls hd=some (ns,hd') ->
 (∀ρ1 H1 a,Ext ρ H ρ1 H1->RH K ρ1 H1 hd'->Src K H1 a ns->Q (.ref a) H1)->te σ H Q
section
variable{K:Frag}{ρ:List Addr}{H:Hp}{hd:Hd}
def GJ{P:Addr}{q:Str}{pos:Pos}{H2:Hp}{ps:Array Value}(R:RH K ρ H hd)(hP:H P=some (.tbl ps))(t:TabStep P q pos H H2)(TI:FY K P q pos):RH K ρ H2 hd/\Ext ρ H ρ H2:=by
 rcases t with rfl|⟨c,hc,ncP,rfl⟩
 .exact⟨R,.refl⟩
 .obtain⟨p',et,nd,e1,e2⟩:=TI;have nP:∀b,b∈ρ->b≠P:=λb hb z=>by
   subst z;rcases R.mut hb with⟨y,w⟩|⟨y,w⟩<;>(rw[hP]at w;cases w)
  have nc:∀b u,H b=some u->b≠c:=λb u e=>AR e hc;have ex:Ext ρ H ρ (upd (upd H P (.tbl #[rawInt pos.line,rawInt pos.col,.ref c])) c (.ext (cdF c q))):=by
   refine⟨⟨[],by simp,by simp⟩,λb o e nb nt'=>?_,λb ps e=>?_⟩
   .rw[AE (nc b _ e),AE (λz=>by subst z;rw[hP]at e;cases e;exact nt' _ rfl)];exact e
   .by_cases z:b=P
    .subst z;exact⟨_,by rw[AE (nc _ _ hP),AK]⟩
    .exact⟨ps,by rw[AE (nc b _ e),AE z];exact e⟩
  refine⟨⟨R.len,R.nd,λx hx=>?_,λn o a h1 h2=>?_⟩,ex⟩
  .by_cases hxP:x.1=P
   .have ex:x=(P,q,p'):=by
     obtain⟨i,hi⟩:=mem_iff_getElem?.mp hx;obtain⟨j,hj⟩:=mem_iff_getElem?.mp et;have i1:((Ch K).map (·.1))[i]?=some P:=by rw[List.getElem?_map,hi];simp[hxP]
     have j1:((Ch K).map (·.1))[j]?=some P:=by rw[List.getElem?_map,hj];rfl
     have:i=j:=(List.getElem?_inj (78 i1).1 nd).mp (i1.trans j1.symm);subst this;exact Option.some.inj (hi.symm.trans hj)
    subst ex;refine⟨#[rawInt pos.line,rawInt pos.col,.ref c],by rw[AE (nc _ _ hP),AK],.inr ⟨c,?_,AK⟩⟩;show #[rawInt pos.line,rawInt pos.col,Value.ref c]=#[rawInt p'.line,rawInt p'.col,Value.ref c];rw[e1,e2]
   .obtain⟨ps',hx1,hG⟩:=R.tabs x hx;refine⟨ps',by rw[AE (nc _ _ hx1),AE hxP];exact hx1,?_⟩;rcases hG with g|⟨c',g1,g2⟩
    .exact .inl g
    .exact .inr ⟨c',g1,by rw[AE (nc _ _ g2),AE (λz=>by subst z;rw[hP]at g2;cases g2)];exact g2⟩
  .obtain⟨ho,q1,q2⟩:=R.ob n o a h1 h2;exact⟨ho,by rw[AE (nc a _ q1),AE (nP a (gJ h2))];exact q1,by simpa using q2.mono (ex.grow R) []⟩
theorem Oz{tb:TE}{mb:ME}{ix:List Nat}{q:Str}{c:Addr}(hb:RE K tb mb){ls:Ls}{σ:St}:∀{ns:List Int} {kds:List D} {ρ:List Addr} {H:Hp} {Q:List V->Hp->Prop},RH K ρ H hd->RL K ρ H ls σ->H c=some (.ext (cdF c q)) ->
 El mb (ix.map λi=>(ls[i]?).join) hd ns=some kds->(∀ρ' H' ks,Ext ρ H ρ' H'->RH K ρ' H' hd->RDs K ρ' H' kds ks->Q ks H')->IE (λH=>H c=some (.ext (cdF c q))) tb (ix.map λi=>(σ[i]?).join) ns H Q
 |[],kds,ρ,H,Q,R,L,hc,e,k=>by
  cases e;exact k ρ H [] .refl R (by simp[RDs])
 |n::r,kds,ρ,H,Q,R,L,hc,e,k=>by
  unfold El at e;split at e
  .next kd h e1=>
   split at e
   .next ks e2=>
    split at e
    .next eh=>
     cases e;rw[eh]at e1;refine⟨hc,hb ρ _ H _ (some (.im (.int n))::ix.map λi=>(ls[i]?).join) _ kd _ R ⟨by simp,λi d ei=>?_⟩ e1 λρ1 H1 v1 x1 R1 r1=>?_⟩
     .cases i with
      |zero=>cases ei;exact⟨.int n,rfl,by simp[RD,RI]⟩
      |succ j=>
       have ei:(ix.map λi=>(ls[i]?).join)[j]?=some (some d):=ei;rw[List.getElem?_map]at ei;cases qj:ix[j]? with
       |none=>rw[qj]at ei;cases ei
       |some m=>
        rw[qj]at ei;have ei:(ls[m]?).join=some d:=Option.some.inj ei;have em:ls[m]?=some (some d):=by
         cases w:ls[m]? with
         |none=>rw[w]at ei;cases ei
         |some z=>rw[w]at ei;simpa using ei
        obtain⟨v,ev,rv⟩:=L.ob m d em;refine⟨v,?_,rv⟩;show(ix.map λi=>(σ[i]?).join)[j]?=some (some v);rw[List.getElem?_map,qj];simp[ev]
     .have oc:c∉ρ:=λm=>by rcases R.mut m with⟨y,w⟩|⟨y,w⟩<;>(rw[hc]at w;cases w)
      refine Oz hb R1 (L.ext R x1) (x1.keep c _ hc oc nt) e2 λρ2 H2 ks2 x2 R2 r2=>?_;exact k ρ2 H2 (v1::ks2) 84 R2 (.cons (r1.ext R1 x2) r2)
    .cases e
   .cases e
  .cases e
def Vm{t:TA}{m:MA}(h:RA K t m):Uz K (tCB JX t) (M7 m):=by
 intro ρ σ H hd ls Q ns hd' hR hL hm k;obtain⟨⟨d1,h1⟩,e1,hm⟩:=gF hm;dsimp only at hm;refine h ρ σ H hd ls _ d1 h1 hR hL e1 λρ1 H1 v x1 R1 r1=>?_;split at hm
 .next j=>
  split at hm
  .next c=>
   cases hm;simp only[RDs,RD,RI]at r1;obtain⟨x,r,rfl,rfl,rfl⟩:=r1;refine .inl ⟨j,rfl,λp hp=>?_⟩;obtain⟨R2,x2⟩:=R1.hid (ho:=.rng 0 j) hp;refine k ρ1 _ p 84 R2 (.inr ⟨j.toNat,by omega,?_,rfl⟩);rw[AK,Int.toNat_of_nonneg c.1]
  .cases hm
 .cases hm
def Tc{te tb:TE}{src:Ls->Hd->Option (List Int×Hd)}{mb:ME}{P:Addr}{q:Str}{pos:Pos}{ix:List Nat}(hi:Uz K te src)(hb:RE K tb mb)(TI:FY K P q pos):RN K (JJ K P q pos ix te tb) (ER src ix mb):=by
 and_intros;obtain⟨⟨ns,h1⟩,e1,hm⟩:=gF hm;obtain⟨kds,e4,hm⟩:=gF hm;obtain⟨kz,e5,hm⟩:=gF hm;dsimp only at hm e4;split at hm
 .next cc=>
  cases hm;refine hi ρ σ H hd ls _ ns _ hR hL e1 λρ1 H1 a x1 R1 sq=>?_;obtain⟨p',et,_,l1,l2⟩:=id TI;obtain⟨ps,hP,hG⟩:=R1.tabs (P,q,p') et;have hG':Cw H1 q pos ps:=by
   rcases hG with g|⟨c,g1,g2⟩
   .exact .inl g
   .refine .inr ⟨c,?_,g2⟩;rw[g1];show #[rawInt p'.line,rawInt p'.col,Value.ref c]=_;rw[l1,l2]
  refine⟨a,ns,ps,rfl,sq,cc.1,hP,hG',λH2 c step hc=>?_⟩;obtain⟨R2,x2⟩:=GJ R1 hP step TI;have x12:=x1.trans R1 x2;refine Oz hb R2 (hL.ext hR x12) hc e4 λρ3 H3 ks x3 R3 r3=>?_;have x13:=x12.trans R2 x3;refine⟨kz,?_,λp ms hp out=>?_⟩
  .unfold ET at e5;split at e5
   .next ns' e6=>
    cases e5;rw[C7 e6]at r3;exact .inl r3.ints
   .split at e5
    .next ps' e6=>
     split at e5
     .next ok=>
      cases e5;rw[HY e6]at r3;refine .inr ⟨ps',rfl,ok,by have:=r3.len;simp at this;omega,λi k p ek ep=>?_⟩;obtain⟨w,ew,rw_⟩:=r3.get (i:=i) (d:=Ak p) (by rw[List.getElem?_map,ep];rfl);rw[ek]at ew;cases ew;exact Oe rw_
     .cases e5
    .cases e5
  .have lz:kz.length=ns.length:=by
    rw[QQ e5,L8 e4]
   have:=UP cc.2 lz out;subst this;obtain⟨R4,x4⟩:=R3.hid (ho:=.lst ((FJ kz ns).map V.int)) hp;exact hQ ρ3 _ p _ (x13.trans R3 x4) R4 (x13.none hR hp R3) (R3.out hp) AK DS
 .cases hm
end
structure LamC(K:Frag)(mg:Str->Option Value)(base:Heap)(fd:FuncData)(c P:Addr)(q:Str)(pos:Pos):Prop where
 code:fd.code=.ref c
 hd:CodeHd base c P
 bl:base.BuiltinsAt mg P
 ti:FY K P q pos
structure QSrc(K:Frag)(X:Cx)(e:Expr)(te:TE)(src:Ls->Hd->Option (List Int×Hd)):Prop where
 p:PE X e te
 r:Uz K te src
def Tw(K:Frag){X:Cx}{a:Expr}{t:TA}{m:MA}{p2 pos2:Pos}(hm2:X.mg "range"=none)(ha:QA K X [a] t m)(hg2:Gl X "range":=by rfl)(he2:starEach [a] X.env=[(false,eval a X.env)]:=by rfl):QSrc K X (.Call (.Name "range" p2) [a] [] pos2) (tCB JX t) (M7 m):=
 ⟨DQ (call_rng1.or LM) hg2 hm2 boot_range ha.p 98 98 he2 rfl,Vm ha.r⟩
def U1(K:Frag){src:Ls->Hd->Option (List Int×Hd)}{X:Cx}{c P:Addr}{scope:Scope}{fr:List Str}{ix:List Nat}{prm:Str}{params:Arguments}{body e:Expr}{p pos lpos kpos:Pos}{te tb:TE}{mb:ME}{k:Nat}(LA:LamAt X c P)(TI:FY K P 74 lpos)(S:CSc X scope fr ix)(L:LSc scope prm)(hr:Room k X.A)(h3:3<=k)(hm:X.mg "sorted"=none)
 (he:QSrc K X e te src) (hb:∀(f:Addr) (cd:Value) (s:Shared) (H:Hp),QE K (lCx X X.A.in1.in1 (prm::fr) 74 scope f cd 87 s H) body tb mb)
 (hbind:∀(cl:List (Str×Addr)) (pm cd ctv us:Value),bindArgs (kla_fn "<lambda>" 74 params body scope cl pm cd ctv) ⟨[us],[]⟩=pure [(prm,us)])
 (hcm:X.calm=true:=by rfl) (hg:Gl X "sorted":=by rfl) (hdef:defaultsOf params X.env=([],[]):=by rfl) (hs:starEach [e] X.env=[90]:=by rfl) (hK:X.K=K:=by rfl):
 QN K X (.Call (.Name "sorted" p) [e] [⟨some "key",.Lambda params body scope lpos,kpos⟩] pos) (JJ K P 74 lpos ix te tb) (ER src ix mb):=by
 subst hK;exact⟨UL LA S L (hr.mono h3) hcm hg hm hbind he.p (λf cd s H=>(hb f cd s H).p) hdef hs,Tc he.r (hb 0 .none X.s₀ X.H₀).r TI⟩
def UR{P:Program}{w:World}{K:Frag}{mg:Str->Option Value}{base:Heap}{x:Str}{st:Stmt}{f:Addr}{fd:FuncData}{N ps:List Str}{j:Nat}{m:MS}(DA:DefAt K mg x st f fd ps)(S:FnScope N ps (AA st))
 (h:∀(cdv:Value) (A:Around) (outer:List Env) (s:Shared) (H:Hp) (E:XK),fd.code=cdv->Room j (A.deeper (envOfC x (AA st) 66 f cdv))->∃t,QSs K (Fp CX0 P w K mg base N x (AA st) f cdv A outer s H E).nox (BR st) t m):
 FnOk P w K mg base CX0 (j+1) f fd ps (spF K ps.length (mkF ps.length N.length m)):=by
 obtain⟨F,hmg,bd⟩:=DA;obtain⟨⟨oc,od,kV,doc,pm,an,cdv,ct,osl,rfl,lk,hcd⟩,kp⟩:=F;refine VS lk hcd S (λvs H Q E h=>h.1) λA outer s H vs Q E hr hs=>?_;obtain⟨t,q⟩:=h cdv A outer s H E rfl hr;exact⟨t,q.p.nox,OU q.r hs⟩
def Pi(g:Int->Int)(ns:List Int):(FJ (ns.map g) ns).Perm ns/\(FJ (ns.map g) ns).Pairwise λa b=>g a<=g b:=by
 have pm:(((ns.map g).zip ns).mergeSort λa b=>decide (a.1<=b.1)).Perm ((ns.map g).zip ns):=iZ ..;have pw:(((ns.map g).zip ns).mergeSort λa b=>decide (a.1<=b.1)).Pairwise λa b=>a.1<=b.1:=by
  have:=j8 (le:=λa b:Int×Int=>decide (a.1<=b.1)) (by intro a b c h1 h2;simp at *;omega) (by intro a b;simp;omega) ((ns.map g).zip ns);exact this.imp 77
 have ez:(ns.map g).zip ns=ns.map λn=>(g n,n):=by
  clear pm pw
  induction ns with
  |nil=>rfl
  |cons n r ih=>simp[ih]
 have el:∀a∈(((ns.map g).zip ns).mergeSort λa b=>decide (a.1<=b.1)),a.1=g a.2:=λa ha=>by
  have:=pm.mem_iff.mp ha;rw[ez]at this;obtain⟨n,_,rfl⟩:=mem_map.mp this;rfl
 refine⟨?_,?_⟩
 .have:=pm.map (·.2);unfold FJ;refine this.trans ?_;rw[ez,gH];have:((λx:Int×Int=>x.2) ∘ λn=>(g n,n))=id:=rfl;rw[this,map_id]
 .unfold FJ;rw[iH];exact pw.imp_of_mem λ{a b} ha hb h=>by rw[<- el a ha,<- el b hb];exact h
theorem L7{mb:ME}{cap:Ls}{hd:Hd}(kf:Int->D):∀{ns:List Int},(∀n∈ns,mb (some (.im (.int n))::cap) hd=some (kf n,hd))->El mb cap hd ns=some (ns.map kf)
 |[],_=>rfl
 |n::r,h=>by
  unfold El;rw[h n gp,L7 kf λm hm=>h m (gi _ hm)];simp
def NL{ps:List 103}(hne:ps≠[])(hok:∀p∈ps,pok p):ET (ps.map Ak)=some (ps.map AZ):=by
 unfold ET;have:Am (ps.map Ak)=none:=by
  cases ps with
  |nil=>exact absurd rfl hne
  |cons p r=>rfl
 rw[this,QB];simp only[gc hok]
def S9{g:Int->Int}{ns:List Int}(nd:ns.Nodup)(h:∀a∈ns,∀b∈ns,g a=g b->a=b):(ns.map g).Nodup:=by
 rw[List.nodup_iff_pairwise_ne,iH];exact(List.nodup_iff_pairwise_ne.mp nd).imp_of_mem λ{a b} ha hb hne e=>hne (h a ha b hb e)
def T1{src:Ls->Hd->Option (List Int×Hd)}{mb:ME}{ix:List Nat}{ls:Ls}{hd:Hd}{QA:List D->Hd->Prop}(h:∃ns x,src ls hd=some (ns,x)/\∃(kf:Int->Int×Int),ns.length<64/\ns.Nodup/\(∀n∈ns,pok (kf n))/\(∀a∈ns,∀b∈ns,AZ (kf a)=AZ (kf b)->a=b)/\
 (∀n∈ns,mb (some (.im (.int n))::ix.map λi=>(ls[i]?).join) x=some (Ak (kf n),x))/\∀ms:List Int,ms.Perm ns->ms.Pairwise (λa b=>AZ (kf a)<=AZ (kf b))->QA (ms.map λn=>.im (.int n)) x):WA (ER src ix mb) ls hd QA:=by
 obtain⟨ns,x,e,kf,h64,nd,ok,inj,ek,q⟩:=h;have e2:=L7 (λn=>Ak (kf n)) ek;by_cases hne:ns=[]
 .subst hne;refine⟨[],x,?_,q [] (.refl _) .nil⟩;simp[ER,e,Am,El,ET,FJ]
 .have e3:ET (ns.map λn=>Ak (kf n))=some (ns.map λn=>AZ (kf n)):=by
   have:=NL (ps:=ns.map kf) (by simpa using hne) (by simpa using ok);rw[gH,gH]at this;exact this
  have sp:=Pi (λn=>AZ (kf n)) ns;refine⟨_,x,?_,q _ sp.1 sp.2⟩;simp only[ER,e,gq,e2,e3,h64,S9 nd inj,and_self,gw]
def Qv{m:MA}{mb:ME}{ix:List Nat}{ls:Ls}{hd:Hd}{QA:List D->Hd->Prop}(h:WA m ls hd λds x=>∃n:Nat,ds=[.im (.int (n:Int))]/\n<64/\∃(kf:Int->Int×Int),(∀k,k<n->pok (kf k))/\(∀a,a<n->∀b,b<n->AZ (kf a)=AZ (kf b)->a=b)/\
 (∀k:Nat,k<n->mb (some (.im (.int k))::ix.map λi=>(ls[i]?).join) x=some (Ak (kf k),x))/\∀ms:List Int,ms.Perm ((71 n).map λk:Nat=>(k:Int))->ms.Pairwise (λa b=>AZ (kf a)<=AZ (kf b))->QA (ms.map λn=>.im (.int n)) x):WA (Ov m ix mb) ls hd QA:=by
 obtain⟨ds,x,e,n,rfl,hn,kf,ok,inj,ek,q⟩:=h;have mem:∀z∈(71 n).map λk:Nat=>(k:Int),∃k:Nat,k<n/\z=k:=λz hz=>by
  obtain⟨k,hk,rfl⟩:=mem_map.mp hz;exact⟨k,by simpa using hk,rfl⟩
 refine T1 ⟨(71 n).map λk:Nat=>(k:Int),x,?_,kf,by simpa using hn,?_,λz hz=>?_,λy hy z hz=>?_,λz hz=>?_,q⟩
 .have c:(0:Int)<=n/\(n:Int)<64:=by omega
  simp only[M7,e,gq,gc c,gV]
 .rw[List.nodup_iff_pairwise_ne,iH];exact(List.nodup_iff_pairwise_ne.mp nodup_range).imp λh=>by omega
 .obtain⟨k,hk,rfl⟩:=mem z hz;exact ok k hk
 .obtain⟨k,hk,rfl⟩:=mem y hy;obtain⟨l,hl,rfl⟩:=mem z hz;intro e;rw[inj k hk l hl e]
 .obtain⟨k,hk,rfl⟩:=mem z hz;exact ek k hk
end L2
namespace HT
open PySem PyProof.Rows
def noFill_tuple_mul:fillsNumberSlot (.type "tuple") "mul"=pure false:=
 PySem.fillsNumberSlot_seq (id:="tuple.__mul__") (r:=some (.builtin "tuple.__rmul__")) F.slot_tuple_mul.lookup (by decide +kernel) F.slot_tuple_rmul.lookup (by decide +kernel)
def repeat_tuple:seqRepeat? (.type "tuple")=pure (some (.builtin "tuple.__mul__")):=by
 unfold seqRepeat?;rw[PySem.seqSlot_of (T:="tuple") (name:="__mul__") (id:="tuple.__mul__") F.slot_tuple_mul.lookup (by decide +kernel),PySem.seqSlot_of (T:="tuple") (name:="__rmul__") (id:="tuple.__rmul__") F.slot_tuple_rmul.lookup (by decide +kernel)];rfl
def int_rmul_tuple(a:Int)(t:Tok)(l:Addr)(items:Array Value)(n:Nat)(dd:Option Addr)(sl:Array (Option Value)):
 Meets (Builtin.«int.__rmul__» ⟨[.int a t,.ref l],[]⟩) (λ_ R s=>s.heap.get? l=some { cls:=.type "tuple",dict:=dd,data:=.seq items n,slots:=sl }/\R (.ok (.ret Value.notImplemented)) s):=
 .of_wp λprog w A R s h=>by obtain⟨hp,g,d,tk,os⟩:=s;obtain⟨hl,h⟩:=h;wp_walk;exact⟨_,rfl,h⟩
def tuple_mul(l:Addr)(items:Array Value)(n:Nat)(dd:Option Addr)(sl:Array (Option Value))(k:Int)(t:Tok)(h0:items.isEmpty=false)(hk:0<=k/\k<=1000)(hs:items.size*k.toNat<=100000):
 Meets (Builtin.«tuple.__mul__» ⟨[.ref l,.int k t],[]⟩) (λ_ R s=>s.heap.get? l=some { cls:=.type "tuple",dict:=dd,data:=.seq items n,slots:=sl }/\(k=1->R (.ok (.ret (.ref l))) s)/\(k≠1->R (.ok (.ret (.ref 66))) { s with heap:=s.heap.push { cls:=.type "tuple",data:=.seq ((List.replicate k.toNat items).foldl (·++·) #[]) } })):=
 .of_wp λprog w A R s h=>by
  obtain⟨hp,g,d,tk,os⟩:=s;obtain⟨hl,h1,h2⟩:=h;have f1:=AutoSeq1.idx_int;have f2:=AutoSeq1.sub_tuple_tuple
  wp_walk using wpAny_loadPart' hl
  have c1:¬ (decide (k < -2^63)||decide (k>=2^63))=true:=by simp;omega
  rw[gf c1]
  wp_walk using wpAny_loadPart' hl
  by_cases k1:k=1
  .rw[gc (by simp[k1])]
   wp_walk using wpAny_loadPart' hl
   exact⟨_,rfl,h1 k1⟩
  .rw[gf (by simp[h0,k1])];have h2:=h2 k1;by_cases k0:k=0
   .rw[gc (by simp[k0])]
    wp_walk using wpAny_loadPart' hl
    subst k0;exact⟨_,rfl,h2⟩
   .have c2:¬ ((items.size:Int)*k>(2^63-1)/8):=by
     have e:(items.size:Int)*k=((items.size*k.toNat:Nat):Int):=by rw[Int.natCast_mul,Int.toNat_of_nonneg hk.1]
     rw[e];omega
    have c3:¬ Builtin.Tuple.tupleTooMany ((items.size:Int)*k)=true:=by
     have e:(items.size:Int)*k=((items.size*k.toNat:Nat):Int):=by rw[Int.natCast_mul,Int.toNat_of_nonneg hk.1]
     unfold Builtin.Tuple.tupleTooMany;rw[e,gY,iE];omega
    rw[gf (by simp[h0];omega)];dsimp only;rw[gf c2,gf c3];have hz:(List.foldl (λx1 x2=>x1++x2) #[] (96 k.toNat items)).size<=sizeLine:=by
     have:∀(m:Nat) (a:Array Value),(List.foldl (λx1 x2=>x1++x2) a (96 m items)).size=a.size+items.size*m:=by
      intro m
      induction m with
      |zero=>intro a;simp
      |succ m ih=>intro a;rw[iw,List.foldl_cons,ih,Array.size_append,Nat.mul_succ];omega
     rw[this,gY];simp;omega
    unfold Builtin.Tuple.tupleExact;refine gb (ja ?_ hz);exact gh ⟨_,rfl,h2⟩
end HT
namespace L2
open PySem PySem.Spec PyProof.Rows
section
variable{X:Cx}
noncomputable def Q0(K:Frag):R2:=λx y H Q=>∃l k xs,x=.ref l/\y=.int k/\SqT K H l xs/\xs≠[]/\(0<=k/\k<=1000)/\xs.length*k.toNat<=100000/\(k=1->Q (.ref l) H)/\
 (k≠1->∀p,H p=none->Q (.ref p) (upd H p (.tup (96 k.toNat xs).flatten)))
def XT(K:Frag)(hK:X.K=K:=by rfl):OpR X (binaryOp .Mult) (Q0 K):=by
 subst hK;intro pins s σ H x y v u Q I rx ry h;obtain⟨l,k,xs,rfl,rfl,hH,hne,hk,hz,q1,q2⟩:=h;cases rx;obtain⟨t,rfl⟩:=ry;obtain⟨its,r,p,_⟩:=I.tuple hH;obtain⟨⟨cls,dd,data,sl⟩,ho,hc,n,hd⟩:=id p;simp only at hc hd;subst hc hd;have ht:s.TypeIs (.ref l) "tuple":=⟨_,ho,rfl⟩
 have hn:its≠[]:=λz=>hne (r.nil_iff.mp z);have hl:its.length=xs.length:=r.length.symm;refine wpAny_binaryOp_repeat_ref (T:="tuple") (U:="int") 98 ht (λs'=>iC s' k t) HT.noFill_tuple_mul F.fills_int_mul F.slot_int_rmul HT.repeat_tuple F.slot_int_index.lookup
  (iV F.slot_int_rmul (iC s k t) F.entry_int_rmul (F.args_int_rmul_2 _ _) (HT.int_rmul_tuple k t l its.toArray n dd sl)
   ⟨ho,rfl,ht,iV F.slot_tuple_mul ht F.entry_tuple_mul (F.args_tuple_mul_2 _ _) (HT.tuple_mul l its.toArray n dd sl k t (by cases its with|nil=>exact absurd rfl hn|cons a r=>rfl) hk (by rw[gu,hl];exact hz)) ⟨ho,λe=>?_,λe=>?_⟩⟩)
 .exact⟨.ref l,H,I,rfl,q1 e⟩
 .have f0:=Hi its k.toNat []
  rw[iR]at f0;rw[f0];refine⟨.ref 66,_,I.laid (t':=s.toks) (o:=.tup (96 k.toNat xs).flatten) (λb ob q=>73 _ q) (gg _) ?_,rfl,q2 e _ (I.hok.fresh (gg _))⟩;exact⟨by rw[Ox,gY,Nat.mul_comm];omega,_,r.rep k.toNat,IsTupD.new _ _⟩
end
section
variable{K:Frag}
noncomputable def IA(ma mb:ME):ME:=λls hd=>(ma ls hd).bind λp=>(mb ls p.2).bind λq=>match p.1,q.1 with
 |.im (.tup is),.im (.int k)=>if is≠[]/\(0<=k/\k<=1000)/\is.length*k.toNat<=100000 then some (.im (.tup (96 k.toNat is).flatten),q.2)else none
 |_,_=>none
def W7{ta tb:TE}{ma mb:ME}(ha:RE K ta ma)(hb:RE K tb mb):RE K (tOp (Q0 K) ta tb) (IA ma mb):=by
 and_intros;obtain⟨⟨d1,h1⟩,e1,hm⟩:=gF hm;obtain⟨⟨d2,h2⟩,e2,hm⟩:=gF hm;dsimp only at hm;split at hm
 .next is k _=>
  split at hm
  .next c=>
   cases hm;refine ha ρ σ H hd ls _ _ h1 hR hL e1 λρ1 H1 v1 x1 R1 r1=>?_;refine hb ρ1 σ H1 h1 ls _ _ _ R1 (hL.ext hR x1) e2 λρ2 H2 v2 x2 R2 r2=>?_;simp only[RD,RI]at r2;subst r2;have r1:=r1.ext R1 x2;obtain⟨a,xs,rfl,sq,rs⟩:=r1.tup (ds:=is.map D.im) rfl;have hl:xs.length=is.length:=by have:=rs.len;simpa using this
   refine⟨a,k,xs,rfl,rfl,sq,λz=>c.1 (List.length_eq_zero_iff.mp (by rw[<- hl,z];rfl)),c.2.1,by rw[hl];exact c.2.2,λe=>?_,λe p hp=>?_⟩
   .subst e;refine hQ ρ2 H2 _ 84 R2 ?_;simpa using r1
   .obtain⟨R3,x3⟩:=R2.hid (ho:=.tup (96 k.toNat xs).flatten) hp;refine hQ ρ2 _ _ ((84).trans R2 x3) R3 ?_;have e3:D.im (.tup (96 k.toNat is).flatten)=AW ((96 k.toNat is).flatten.map D.im):=(BG _).symm;rw[e3];refine C4 (SqT.of AK) ?_;have:=((rs.rep k.toNat).ext R2 x3)
    have e4:(96 k.toNat is).flatten.map D.im=(96 k.toNat (is.map D.im)).flatten:=by rw[List.map_flatten,List.map_replicate]
    rw[e4];exact this
  .cases hm
 .cases hm
def Wq(K:Frag){X:Cx}{a b:Expr}{ta tb:TE}{ma mb:ME}{pos:Pos}(ha:QE K X a ta ma)(hb:QE K X b tb mb)(hK:X.K=K:=by rfl):QE K X (.BinOp a .Mult b pos) (tOp (Q0 K) ta tb) (IA ma mb):=⟨M3 (XT K hK) ha.p hb.p,W7 ha.r hb.r⟩
def Vd{ma mb:ME}{ls:Ls}{hd:Hd}{QE:D->Hd->Prop}(h:WE ma ls hd λd x=>WE mb ls x λe y=>∃is k,d=.im (.tup is)/\e=.im (.int k)/\is≠[]/\(0<=k/\k<=1000)/\is.length*k.toNat<=100000/\QE (.im (.tup (96 k.toNat is).flatten)) y):WE (IA ma mb) ls hd QE:=by
 obtain⟨d,x,e1,e,y,e2,is,k,rfl,rfl,c1,c2,c3,q⟩:=h;exact⟨_,_,by simp only[IA,e1,gq,e2];rw[gc ⟨c1,c2,c3⟩],q⟩
end
end L2
namespace HT
open PySem PyProof.Rows
open PySem.AutoSeq1 (wpAny_loadPart')
section
variable{prog:Program}{w:World}{A:Around}{E:Value->Shared->Prop}{s:Shared}
def drawsT(hh:A.handled=none)(it t:Addr)(hne:t≠it)(items:Array Value):
 Draws prog w A it [it,t] items.size (λi v=>items[i]?=some v) (λi h=>h.IsTupleIter it t i/\h.IsTuple t items) where
 live:=λ_ _ st=>let ⟨o,ho,_⟩:=st.1;⟨o,ho⟩
 frame:=λ_ _ _ st hk=>⟨let ⟨o,ho,r⟩:=st.1;⟨o,hk it 77 o ho,r⟩,let ⟨o,ho,r⟩:=st.2;⟨o,hk t 77 o ho,r⟩⟩
 item:=λi s Q E hi st hQ=>by
  refine L2.tup_next st.1 st.2 (x:=items[i]) (by simp[hi]) λh' hit' hs'=>?_;exact hQ _ h' s.toks (by simp[hi]) ⟨hit',st.2.extBut hs'.extBut hne⟩ hs'
 done:=λs Q E st hE=>L2.tup_stop hh st.1 st.2 77 hE
end
def SZ(l:Addr)(items:Array Value)(n:Nat)(dct:Option Addr)(sl:Array (Option Value)):
 Meets (Builtin.«enumerate.__new__» ⟨[.type "enumerate",.ref l],[]⟩) (λ_ R s=>s.heap.get? l=some { cls:=.type "tuple",dict:=dct,data:=.seq items n,slots:=sl } /\
  R (.ok (.ret (.ref (s.heap.push { cls:=.type "tuple_iterator",data:=.fields #[.ref l,.int 0 0] }).objs.size)))
   { s with heap:=(s.heap.push { cls:=.type "tuple_iterator",data:=.fields #[.ref l,.int 0 0] }).push { cls:=.type "enumerate",data:=.fields #[.none,.bool false,.ref s.heap.objs.size,rawInt 0,.none,.none] } }):=
 .of_wp λprog w A R s h=>by
  obtain⟨hp,g,d,tk,os⟩:=s;obtain⟨hl,h⟩:=h;have hsub:=sub_enumerate;have hL:Heap.IsTuple (Shared.heap ⟨hp,g,d,tk,os⟩) l items:=⟨_,hl,rfl,n,rfl⟩
  wp_walk using wpAny_loadPart' hl
  refine wpAny_stack_any λst=>gh ?_;split
  .rename_i c _ _ _ _ _
   cases(c==Value.type "enumerate")
   .wp_walk using wpAny_loadPart' hl,wpAny_pyIter_tuple hL
    exact⟨_,rfl,h⟩
   .wp_walk using wpAny_loadPart' hl,wpAny_pyIter_tuple hL
    exact⟨_,rfl,h⟩
  .wp_walk using wpAny_loadPart' hl,wpAny_pyIter_tuple hL
   exact⟨_,rfl,h⟩
def call_enumT{prog:Program}{w:World}{A:Around}{E:Value->Shared->Prop}{s:Shared}{l:Addr}{items:Array Value}{Q:Value->Shared->Prop}(hL:IsTup s.heap l items)
 (h:∀h',IsEnum h' (66+1) 66 0 .none->h'.IsTupleIter 66 l 0->h'.objs.size=66+2 ->
  (∀b o,s.heap.get? b=some o->h'.get? b=some o)->Q (.ref (66+1)) { s with heap:=h' }):
 wpAny 97 A (call (.type "enumerate") [.ref l]) Q E s:=by
 obtain⟨⟨c,dct,dt,sl⟩,hl,hc,n,hd⟩:=hL
 replace hc:c=.type "tuple":=hc
 replace hd:dt=.seq items n:=hd
 subst hc hd;refine callType_new F.called_enumerate 98 (F.typeCall_enumerate_1 _) (F.newCall_enumerate_1 _) (λobj=>F.args_object_init_2 obj _) F.entry_enumerate_new
  (SZ l items n dct sl) ⟨hl,?_⟩
 have hz:(s.heap.push { cls:=.type "tuple_iterator",data:=.fields #[.ref l,.int 0 0] }).objs.size=66+1:=Heap.size_push ..;show _/\_;rw[hz];have he:IsEnum ((s.heap.push { cls:=.type "tuple_iterator",data:=.fields #[.ref l,.int 0 0] }).push
  { cls:=.type "enumerate",data:=.fields #[.none,.bool false,.ref 66,rawInt 0,.none,.none] }) (66+1) 66 0 .none:=by
  have:=89 (s.heap.push { cls:=.type "tuple_iterator",data:=.fields #[.ref l,.int 0 0] })
   (o:={ cls:=.type "enumerate",data:=.fields #[.none,.bool false,.ref 66,rawInt 0,.none,.none] }) rfl
  rw[hz]at this;exact this
 refine⟨⟨_,he,rfl⟩,h _ he ⟨_,73 _ (89 _ rfl),rfl,rfl⟩ (by rw[Heap.size_push,hz]) λb o x=>73 _ (73 _ x)⟩
end HT
namespace L2
open PySem PySem.Spec PyProof.Rows
structure ETt(h:Heap)(e it l:Addr)(i:Nat):Prop where
 e:∃old,IsEnum h e it i old
 r:h.IsTupleIter it l i
noncomputable def ItT(K:Frag)(a:Addr):It:=
 ⟨λi H=>∃xs x,SqT K H a xs/\xs[i]?=some x,
  λi H x H'=>∃p v,H p=none/\H'=upd H p (.tup [.int (i:Int),v])/\x=.ref p/\∀xs,SqT K H a xs->xs[i]?=some v,
  λi H=>∃xs,SqT K H a xs/\xs.length=i⟩
def PL{P:Program}{w:World}{K:Frag}{elts:List Expr}{kk:Nat}{tpos:Pos}{e it l:Addr}(ne:e≠it)(nl:l≠it)(nle:e≠l):Turn P w K (.Tuple elts kk tpos) (ItT K l) [e,it] e (λi h=>ETt h e it l i) where
 mem:=by simp
 obj:=λi h st c hc=>by
  obtain⟨⟨old,he⟩,hr⟩:=st;simp only[gj,hZ,hJ]at hc;rcases hc with rfl|rfl
  .exact⟨_,he,λv z=>by cases(show Data.fields _=Data.cell v from z)⟩
  .obtain⟨o,q,_,d⟩:=hr;exact⟨o,q,λv z=>by rw[d]at z;cases z⟩
 keep:=λi h h' st k=>by
  obtain⟨⟨old,he⟩,o,q,r⟩:=st;exact⟨⟨old,k e 77 _ he⟩,o,k it 77 _ q,r⟩
 item:=by
  intro X hP hw hK hc i pins s σ H E I hf st hg;subst hP hw hK;obtain⟨xs,x,h1,hx⟩:=hg;obtain⟨its,r,pl,hz⟩:=I.tuple h1;obtain⟨u,hu,ru⟩:=r.get hx;obtain⟨⟨old,he⟩,hr⟩:=st;have hlt:i<its.toArray.size:=by
   have:=(78 hu).1;simpa using this
  have hd:X.A.in1.handled=none:=I.ok.hd hc;refine wpAny_pyNext_enum_itemD (HT.drawsT hd it l nl its.toArray) he ⟨hr,pl⟩ hlt ne (by simp;exact⟨ne,nle⟩) λx' g tk hx' ho hr' ht hsz kp=>⟨_,rfl,?_⟩
  have ex:x'=u:=by
   have hx':its.toArray[i]?=some x':=hx';rw[List.getElem?_toArray,hu]at hx';exact(Option.some.inj hx').symm
  subst ex;refine wpAny_letOwnedTupleGo_enum ho λg' e' sb=>?_;have hle:e<s.heap.objs.size:=91 he;have kp2:∀c o,c∉[e,it]->s.heap.get? c=some o->g'.get? c=some o:=λc o nc q=>by
   simp only[gj,hZ,hJ,not_or]at nc;exact sb.extBut _ _ nc.1 (kp c o nc.1 nc.2 q)
  have hT:66≠e:=i5 hle;have hpair:g'.get? 66=some { cls:=.type "tuple",data:=.seq #[.int i tk,x'] }:=sb.extBut _ _ hT ht;have fresh:H 66=none:=I.hok.fresh (gg _);have I2:Inv X pins σ (upd H 66 (.tup [.int (i:Int),x])) { s with heap:=g',toks:=tk+1 }:=I.turnsL (tk:=tk+1) (o:=.tup [.int (i:Int),x]) kp2 hf (gg _)
   (show ObjOk X.prog X.w _ g' _ (.tup [.int (i:Int),x])from⟨by show 2<=sizeLine;decide,[.int i tk,x'],.cons ⟨_,rfl⟩ (.cons ru .nil),⟨_,hpair,rfl,⟨_,rfl⟩,rfl⟩⟩)
  refine⟨.ref 66,_,I2,rfl,⟨66,x,fresh,rfl,rfl,λxs' q=>by rw[I.tuple_inj q h1];exact hx⟩,⟨⟨x',?_⟩,?_⟩,λc hc=>?_⟩
  .have:=e';rw[show((i:Int)+1)=((i+1:Nat):Int) by omega]at this;exact this
  .exact hr'.1.extBut sb.extBut (Ne.symm ne)
  .have lt:c<s.heap.objs.size:=by
    simp only[gj,hZ,hJ]at hc;rcases hc with rfl|rfl
    .exact hle
    .obtain⟨o,q,_⟩:=hr;exact 91 q
   rw[AE (gv lt)];exact(hf c hc).1
 done:=by
  intro X hP hw hK hc i pins s σ H E I hf st hg;subst hP hw hK;obtain⟨xs,h1,hend⟩:=hg;obtain⟨its,r,pl,hz⟩:=I.tuple h1;have l1':=r.length;obtain⟨⟨old,he⟩,hr⟩:=st;have hd:X.A.in1.handled=none:=I.ok.hd hc;have en:i=its.toArray.size:=by simp;omega
  subst en;refine wpAny_pyNext_enum_endD (HT.drawsT hd it l nl its.toArray) he ⟨hr,pl⟩ λg x=>⟨rfl,?_⟩
  exact I.turns (tk:=s.toks) (λc o nc q=>by
   simp only[gj,hZ,hJ,not_or]at nc;exact x c o nc.2 q) hf
 self:=λ_ _ _ _ _ st h=>by
  obtain⟨⟨old,he⟩,hr⟩:=st;exact jl he h
noncomputable def NR(K:Frag)(ta:TA):TI:=λσ H R=>ta σ H λvs H1=>∃a xs,vs=[.ref a]/\SqT K H1 a xs/\R (ItT K a) H1
def UI(K:Frag){X:Cx}{a:Expr}{ta:TA}{elts:List Expr}{kk:Nat}{tpos p pos:Pos}(hg:Gl X "enumerate")(hm:X.mg "enumerate"=none)(ha:PA X [a] ta)(hK:X.K=K:=by rfl)(hs:starEach [a] X.env=[(false,eval a X.env)]:=by rfl):
 PI X (.Tuple elts kk tpos) (.Call (.Name "enumerate" p) [a] [] pos) (NR K ta):=by
 subst hK;intro pins s σ H R I h;refine Call_ (CT I hg hm GC (PyProof.Rows.callWith_type1 (thn (ha pos pins s σ H _ I h) λus s1 ⟨vs,H1,I1,r1,q1⟩=>?_) hs rfl));obtain⟨l,xs,e,c,q⟩:=q1;subst e;obtain⟨u,rfl,ru⟩:=r1.one;cases ru;obtain⟨its,r,pl,hz⟩:=I1.tuple c;have ll:l<s1.heap.objs.size:=by obtain⟨o,ho,_⟩:=pl;exact 91 ho
 refine HT.call_enumT pl λg he hr hsz kp=>jl he ?_;refine⟨_,_,_,_,H1,rfl,I1.kept (t':=s1.toks) kp,PL (i5 (j4 _)) (gv ll) (i5 (iT ll)),⟨⟨_,he⟩,hr⟩,λc hc=>?_,q⟩;simp only[gj,hZ,hJ]at hc;have le:s1.heap.objs.size<=c:=by
  rcases hc with rfl|rfl
  .exact j5 _ _
  .exact gg _
 exact I1.fpOk le (I1.hok.fresh le)
def Tg{K:Frag}{ta:TE}{ma:MI}(ha:RRw K true ta ma):RIt K (NR K (Ax ta BZ)) (DC ma):=by
 intro ρ σ H hd ls Q d g hd' hR hL hm hQ;obtain⟨⟨⟨d1,g1⟩,h1⟩,e1,e2⟩:=gG hm;cases e2;refine ha ρ σ H hd ls _ d1 g1 h1 hR hL e1 λρ1 H1 a x1 R1 G1 S1=>?_;obtain⟨xs,c1,r1⟩:=S1 ρ1 H1 _ .refl R1 G1;refine⟨a,xs,rfl,c1,hQ ρ1 H1 _ x1 R1 G1 ?_⟩;intro ρ3 H3 hd3 x3 R3 G3 i;obtain⟨xs,c1,r1⟩:=S1 ρ3 H3 _ x3 R3 G3;have l1:=r1.len;refine⟨λhi=>?_,λhi=>⟨xs,c1,?_⟩⟩
 .have hi:i<d1.length:=by simpa using hi
  have i1:d1[i]?=some (d1[i]'hi):=List.getElem?_eq_getElem _;obtain⟨x,x4,x5⟩:=r1.get i1;refine⟨⟨xs,x,c1,x4⟩,λz H4 hz=>?_⟩;obtain⟨p,v,fp,rfl,rfl,hv⟩:=hz;have ev:=hv xs c1;rw[x4]at ev;cases ev;obtain⟨R4,x6⟩:=R3.hid (ho:=.tup [.int (i:Int),x]) fp;refine⟨ρ3,AW [.im (.int (i:Int)),d1[i]'hi],x6,rfl,R4,?_,C4 (SqT.of AK) (.cons (by simp[RD,RI]) (.cons (x5.ext R3 x6) .nil))⟩;simp[i1]
 .have hi:i=d1.length:=by simpa using hi
  omega
def U4(K:Frag){X:Cx}{a:Expr}{ta:TE}{ma:MI}{elts:List Expr}{kk:Nat}{tpos p pos:Pos}(hm:X.mg "enumerate"=none)(ha:QR K true X a ta ma)(hg:Gl X "enumerate":=by rfl)(hK:X.K=K:=by rfl)(hs:starEach [a] X.env=[(false,eval a X.env)]:=by rfl):
 QI K X (.Tuple elts kk tpos) (.Call (.Name "enumerate" p) [a] [] pos) (NR K (Ax ta BZ)) (DC ma):=⟨UI K hg hm (BQ ha.p C1 hs) hK hs,Tg ha.r⟩
end L2
namespace HS
open PySem PyProof.Rows
open PySem.AutoSeq1 (wpAny_loadPart')
open Sem (wp)
noncomputable abbrev st(t:Tok):List (Str×Value):=[(Str.ofString "start",.int 1 t)]
section
variable{prog:Program}{w:World}{A:Around}{E:Value->Shared->Prop}{s:Shared}
def tcS(a b:Value):checkTypeCall "enumerate" ⟨[a],[(Str.ofString "start",b)]⟩=pure ():=by kernel_rfl
def ncS(a b:Value):checkBuiltinCall "enumerate.__new__" ⟨[.type "enumerate",a],[(Str.ofString "start",b)]⟩=pure ():=by kernel_rfl
def aiS(a b c:Value):argsOk "object.__init__" ⟨[a,b],[(Str.ofString "start",c)]⟩:=by
 unfold argsOk;rw[signature?_of (id:="object.__init__") (n:=['_','_','t','i','n','i','_','_']) (o:=['t','c','e','j','b','o']) 92 F.owner_object];kernel_rfl
def Sa(l:Addr)(items:Array Value)(n:Nat)(t:Tok)(dct:Option Addr)(sl:Array (Option Value)):
 Meets (Builtin.«enumerate.__new__» ⟨[.type "enumerate",.ref l],st t⟩) (λ_ R s=>s.heap.get? l=some { cls:=.type "list",dict:=dct,data:=.seq items n,slots:=sl } /\
  R (.ok (.ret (.ref (75).objs.size)))
   { s with heap:=(s.heap.push { cls:=.type "list_iterator",data:=.fields #[.ref l,.int 0 0] }).push { cls:=.type "enumerate",data:=.fields #[.none,.bool false,.ref s.heap.objs.size,rawInt 1,.none,.none] } }):=
 .of_wp λprog w A R s h=>by
  obtain⟨hp,g,d,tk,os⟩:=s;obtain⟨hl,h⟩:=h;have hsub:=sub_enumerate;have hL:Heap.IsList (Shared.heap ⟨hp,g,d,tk,os⟩) l items:=⟨_,hl,rfl,n,rfl⟩
  wp_walk using wpAny_loadPart' hl
  refine wpAny_stack_any λst=>gh ?_;split
  .rename_i c _ _ _ _ _
   cases(c==Value.type "enumerate")
   .wp_walk using wpAny_loadPart' hl,wpAny_pyIter_list hL
    exact⟨_,rfl,h⟩
   .wp_walk using wpAny_loadPart' hl,wpAny_pyIter_list hL
    exact⟨_,rfl,h⟩
  .wp_walk using wpAny_loadPart' hl,wpAny_pyIter_list hL
   exact⟨_,rfl,h⟩
def dG{T id:String}{x a b:Value}(hl:typeLookup (.type T) "__init__"=pure (some (.builtin "object.__init__")))(hm:Bind.madeBy (.type T)=pure (some id))(hne:(some id != some "object.__new__")=true):
 Meets (Builtin.«object.__init__» ⟨[x,a],[(Str.ofString "start",b)]⟩) (λ_ R s=>s.TypeIs x T/\R (.ok (.ret .none)) s):=by
 refine Meets.of_wp λprog w A R s hs=>?_;obtain⟨hT,hq⟩:=hs
 repeat (any_goals (first|assumption|wp_step))
 exact⟨_,rfl,hq⟩
def call_enumS{l:Addr}{items:Array Value}{t:Tok}{Q:Value->Shared->Prop}(hL:s.heap.IsList l items)
 (h:∀h',IsEnum h' (66+1) 66 1 .none->h'.IsListIter 66 l 0->h'.objs.size=66+2->(∀b o,s.heap.get? b=some o->h'.get? b=some o)->Q (.ref (66+1)) { s with heap:=h' }):
 wpAny 97 A (call (.type "enumerate") [.ref l] (st t)) Q E s:=by
 obtain⟨⟨c,dct,dt,sl⟩,hl,hc,n,hd⟩:=hL
 replace hc:c=.type "list":=hc
 replace hd:dt=.seq items n:=hd
 subst hc hd;have ft:=F.called_enumerate;obtain⟨c,tl,hmro⟩:=ft.mro;have hmade:=ft.made;have hsub:=ft.sub;refine wpAny_call (codeAny_of_tree ?_);show wpAny _ _ (callAny (.type "enumerate") _) _ _ _;refine gh ⟨Code.quiet_builtin _ (by decide +kernel),iD F.entry_type_call ?_⟩;rw[Around.under_plain (weight_type_call_type "enumerate" [.ref l] (st t)) (units_type_call_type "enumerate" [.ref l] (st t))];have h1:=ft.notType;have h2:=ft.canCreate;have hct:=tcS (.ref l) (.int 1 t);have hcn:=ncS (.ref l) (.int 1 t)
 repeat (any_goals (first|assumption|wp_step))
 refine iU (codeAny_call_builtin ft.plain F.entry_enumerate_new (wpAny_of_eq hcn (Sa l items n t dct sl prog w A.in1 (wants (λobj s₁=>s₁.TypeIs obj "enumerate"/\Q obj s₁) E) s ⟨hl,?_⟩))) λr s₁ hr=>?_
 .have hz:(75).objs.size=66+1:=Heap.size_push ..;show _/\_;rw[hz];have he:IsEnum ((75).push { cls:=.type "enumerate",data:=.fields #[.none,.bool false,.ref 66,rawInt 1,.none,.none] }) (66+1) 66 1 .none:=by
   have:=Heap.get?_push_size 75 (o:={ cls:=.type "enumerate",data:=.fields #[.none,.bool false,.ref 66,rawInt 1,.none,.none] }) rfl;rw[hz]at this;exact this
  exact⟨⟨_,he,rfl⟩,h _ he ⟨_,73 _ (89 _ rfl),rfl,rfl⟩ (by rw[Heap.size_push,hz]) λb o x=>73 _ (73 _ x)⟩
 .cases r with
  |error e=>exact hr
  |ok fl=>
   cases fl with
   |ret obj=>
    obtain⟨hT,hq0⟩:=hr;have hli:=ft.init.lookup;have hbi:=ft.init.bind obj
    repeat (any_goals (first|assumption|wp_step))
    refine iU (codeAny_call_builtin ft.init.plain F.entry_object_init (ft.init.check _ _ _ _ _ _ _ _ hT (aiS obj (.ref l) (.int 1 t)) (dG (x:=obj) (a:=.ref l) (b:=.int 1 t) hli hmade 98 prog w A.in1 (wants (λr s₂=>r=.none/\Q obj s₂) E) s₁ ⟨hT,rfl,hq0⟩))) λr₂ s₂ hr₂=>?_;cases r₂ with
    |error e=>exact hr₂
    |ok fl₂=>
     cases fl₂ with
     |ret r=>
      obtain⟨rfl,hq⟩:=hr₂
      repeat (any_goals (first|assumption|wp_step))
     |_=>exact hr₂.elim
   |_=>exact hr.elim
def shift{it:Addr}{fp:List Addr}{n:Nat}{P:Nat->Value->Prop}{St:Nat->Heap->Prop}(D:Draws prog w A it fp n P St):Draws prog w A it fp (n+1) (λj v=>P (j-1) v) (λj h=>1<=j/\St (j-1) h) where
 live:=λ_ _ z=>D.live _ _ z.2
 frame:=λ_ _ _ z hk=>⟨z.1,D.frame _ _ _ z.2 hk⟩
 item:=λi s Q E hi z hQ=>D.item (i-1) s Q E 67 z.2 λx h' tk p q b=>hQ x h' tk p ⟨by omega,by rw[show i+1-1=i-1+1 by have:=z.1;omega];exact q⟩ b
 done:=λs Q E z hE=>D.done s Q E z.2 hE
end
def callWith_typeK{M:Model}{A:Around}{E:Value->Shared->Prop}{s:Shared}{pos:Pos}{T:String}{args:List (Bool×Sem Value)}{kws:List (Option Str×Sem Value)}{Q:Value->Shared->Prop}(hp:args.any (·.1)=false)(hk:kws.any (·.1.isNone)=false)
 (h:wpAny M A (evalArgs (.type T) true args kws) (λa s₁=>wpAny M A (call (.type T) a.pos a.kw) Q E s₁) E s):wpAny M A (callWith pos (.type T) [] args kws) Q E s:=by
 unfold callWith;refine gb (gX (gz h (λa s₁ h₁=>gb (iM ?_)) λ_ _ x=>x));simp only[hp,hk,Bool.or_false];exact gb (gh (gb (gz h₁ (λr s₂ hr=>gb (gX (wpAny_point (gh hr)))) λ_ _ x=>x)))
end HS
namespace L2
open PySem PySem.Spec PyProof.Rows
structure ESt(h:Heap)(e it l:Addr)(i:Nat):Prop where
 e:∃old,IsEnum h e it ((i+1:Nat):Int) old
 r:h.IsListIter it l i
noncomputable def ItS(K:Frag)(a:Addr):It:=
 ⟨λi H=>∃xs x,SqL K H a xs/\xs[i]?=some x,
  λi H x H'=>∃p v,H p=none/\H'=upd H p (.tup [.int ((i:Int)+1),v])/\x=.ref p/\∀xs,SqL K H a xs->xs[i]?=some v,
  λi H=>∃xs,SqL K H a xs/\xs.length=i⟩
def PM{P:Program}{w:World}{K:Frag}{elts:List Expr}{kk:Nat}{tpos:Pos}{e it l:Addr}(ne:e≠it)(nl:l≠it)(nle:e≠l):Turn P w K (.Tuple elts kk tpos) (ItS K l) [e,it] e (λi h=>ESt h e it l i) where
 mem:=by simp
 obj:=λi h st c hc=>by
  obtain⟨⟨old,he⟩,hr⟩:=st;simp only[gj,hZ,hJ]at hc;rcases hc with rfl|rfl
  .exact⟨_,he,λv z=>by cases(show Data.fields _=Data.cell v from z)⟩
  .obtain⟨o,q,_,d⟩:=hr;exact⟨o,q,λv z=>by rw[d]at z;cases z⟩
 keep:=λi h h' st k=>by
  obtain⟨⟨old,he⟩,o,q,r⟩:=st;exact⟨⟨old,k e 77 _ he⟩,o,k it 77 _ q,r⟩
 item:=by
  intro X hP hw hK hc i pins s σ H E I hf st hg;subst hP hw hK;obtain⟨xs,x,h1,hx⟩:=hg;obtain⟨its,r,pl,hz⟩:=I.list h1;obtain⟨u,hu,ru⟩:=r.get hx;obtain⟨⟨old,he⟩,hr⟩:=st;have hd:X.A.in1.handled=none:=I.ok.hd hc;have hlt:i<its.toArray.size:=by
   have:=(78 hu).1;simpa using this
  refine wpAny_pyNext_enum_itemD (HS.shift (Draws.list hd it l nl its.toArray)) he ⟨by omega,by simpa using hr,pl.isList⟩ 67 ne (by simp;exact⟨ne,nle⟩) λx' g tk hx' ho hr' ht hsz kp=>⟨_,rfl,?_⟩
  have ex:x'=u:=by
   have hx':its.toArray[i]?=some x':=hx';rw[List.getElem?_toArray,hu]at hx';exact(Option.some.inj hx').symm
  subst ex;refine wpAny_letOwnedTupleGo_enum ho λg' e' sb=>?_;have hle:e<s.heap.objs.size:=91 he;have kp2:∀c o,c∉[e,it]->s.heap.get? c=some o->g'.get? c=some o:=λc o nc q=>by
   simp only[gj,hZ,hJ,not_or]at nc;exact sb.extBut _ _ nc.1 (kp c o nc.1 nc.2 q)
  have hT:66≠e:=i5 hle;have hpair:g'.get? 66=some { cls:=.type "tuple",data:=.seq #[.int ((i+1:Nat):Int) tk,x'] }:=sb.extBut _ _ hT ht;have fresh:H 66=none:=I.hok.fresh (gg _);have I2:Inv X pins σ (upd H 66 (.tup [.int ((i:Int)+1),x])) { s with heap:=g',toks:=tk+1 }:=I.turnsL (tk:=tk+1) (o:=.tup [.int ((i:Int)+1),x]) kp2 hf (gg _)
   (show ObjOk X.prog X.w _ g' _ (.tup [.int ((i:Int)+1),x])from⟨by show 2<=sizeLine;decide,[.int ((i+1:Nat):Int) tk,x'],.cons ⟨_,rfl⟩ (.cons ru .nil),⟨_,hpair,rfl,⟨_,rfl⟩,rfl⟩⟩)
  refine⟨.ref 66,_,I2,rfl,⟨66,x,fresh,rfl,rfl,λxs' q=>by rw[I.list_inj q h1];exact hx⟩,⟨⟨x',?_⟩,?_⟩,λc hc=>?_⟩
  .have:=e';rw[show(((i+1:Nat):Int)+1)=((i+1+1:Nat):Int) by omega]at this;exact this
  .have q:=hr'.2.1;exact q.extBut sb.extBut (Ne.symm ne)
  .have lt:c<s.heap.objs.size:=by
    simp only[gj,hZ,hJ]at hc;rcases hc with rfl|rfl
    .exact hle
    .obtain⟨o,q,_⟩:=hr;exact 91 q
   rw[AE (gv lt)];exact(hf c hc).1
 done:=by
  intro X hP hw hK hc i pins s σ H E I hf st hg;subst hP hw hK;obtain⟨xs,h1,hend⟩:=hg;obtain⟨its,r,pl,hz⟩:=I.list h1;have l1':=r.length;obtain⟨⟨old,he⟩,hr⟩:=st;have hd:X.A.in1.handled=none:=I.ok.hd hc;have en:i=its.toArray.size:=by simp;omega
  subst en;refine wpAny_pyNext_enum_endD (HS.shift (Draws.list hd it l nl its.toArray)) he ⟨by omega,by simpa using hr,pl.isList⟩ λg x=>⟨rfl,?_⟩
  exact I.turns (tk:=s.toks) (λc o nc q=>by
   simp only[gj,hZ,hJ,not_or]at nc;exact x c o nc.2 q) hf
 self:=λ_ _ _ _ _ st h=>by
  obtain⟨⟨old,he⟩,hr⟩:=st;exact jl he h
noncomputable def NS(K:Frag)(ta:TA):TI:=λσ H R=>ta σ H λvs H1=>∃a xs,vs=[.ref a]/\SqL K H1 a xs/\R (ItS K a) H1
def UJ(K:Frag){X:Cx}{a:Expr}{ta:TA}{elts:List Expr}{kk:Nat}{j}{tpos p pos cp kp:Pos}(hg:Gl X "enumerate")(hm:X.mg "enumerate"=none)(ha:PA X [a] ta)(hK:X.K=K:=by rfl)(hs:starEach [a] X.env=[(false,eval a X.env)]:=by rfl):
 PI X (.Tuple elts kk tpos) (.Call (.Name "enumerate" p) [a] [⟨some "start",.Constant (.int 1) j cp,kp⟩] pos) (NS K ta):=by
 subst hK;intro pins s σ H R I h;refine iN (CT I hg hm GC ?_);have pl:(backTo pos (starEach [a] X.env)).any (·.1)=false:=by rw[hs];rfl
 refine HS.callWith_typeK pl rfl (evalArgs_kw2 (env:=X.env) (e:=a) (rest:=[]) (kws:=[⟨some "start",.Constant (.int 1) j cp,kp⟩]) rfl (thn (ha pos pins s σ H _ I h) λus s1 ⟨vs,H1,I1,r1,q1⟩=>?_) hs);obtain⟨l,xs,e,c,q⟩:=q1;subst e;obtain⟨u,rfl,ru⟩:=r1.one;cases ru;show wpAny _ _ (evalAll [(do let v <- eval (.Constant (.int 1) j cp) X.env;standAt pos;pure v)]) _ _ s1;refine jj (gb (wpAny_Constant_int (gb (iM (gh (jk ?_))))));have I2:=I1.tok (s1.toks+1);obtain⟨its,r,pl,hz⟩:=I2.list c;have ll:l<s1.heap.objs.size:=by obtain⟨o,ho,_⟩:=pl.isList;exact 91 ho
 refine HS.call_enumS pl.isList λg he hr hsz kp=>jl he ?_;refine⟨_,_,_,_,H1,rfl,I2.kept (t':=s1.toks+1) kp,PM (i5 (j4 _)) (gv ll) (i5 (iT ll)),⟨⟨_,he⟩,hr⟩,λc hc=>?_,q⟩;simp only[gj,hZ,hJ]at hc;have le:s1.heap.objs.size<=c:=by
  rcases hc with rfl|rfl
  .exact j5 _ _
  .exact gg _
 exact I2.fpOk le (I2.hok.fresh le)
section
variable{K:Frag}
noncomputable def G4(ma:MI):MI:=λls hd=>(ma ls hd).map λp=>((p.1.1.zipIdx.map λq=>AW [.im (.int ((q.2:Int)+1)),q.1],p.1.2),p.2)
def Th{ta:TE}{ma:MI}(ha:RRw K false ta ma):RIt K (NS K (Ax ta BZ)) (G4 ma):=by
 intro ρ σ H hd ls Q d g hd' hR hL hm hQ;obtain⟨⟨⟨d1,g1⟩,h1⟩,e1,e2⟩:=gG hm;cases e2;refine ha ρ σ H hd ls _ d1 g1 h1 hR hL e1 λρ1 H1 a x1 R1 G1 S1=>?_;obtain⟨xs,c1,r1⟩:=S1 ρ1 H1 _ .refl R1 G1;refine⟨a,xs,rfl,c1,hQ ρ1 H1 _ x1 R1 G1 ?_⟩;intro ρ3 H3 hd3 x3 R3 G3 i;obtain⟨xs,c1,r1⟩:=S1 ρ3 H3 _ x3 R3 G3;have l1:=r1.len;refine⟨λhi=>?_,λhi=>⟨xs,c1,?_⟩⟩
 .have hi:i<d1.length:=by simpa using hi
  have i1:d1[i]?=some (d1[i]'hi):=List.getElem?_eq_getElem _;obtain⟨x,x4,x5⟩:=r1.get i1;refine⟨⟨xs,x,c1,x4⟩,λz H4 hz=>?_⟩;obtain⟨p,v,fp,rfl,rfl,hv⟩:=hz;have ev:=hv xs c1;rw[x4]at ev;cases ev;obtain⟨R4,x6⟩:=R3.hid (ho:=.tup [.int ((i:Int)+1),x]) fp;refine⟨ρ3,AW [.im (.int ((i:Int)+1)),d1[i]'hi],x6,rfl,R4,?_,C4 (SqT.of AK) (.cons (by simp[RD,RI]) (.cons (x5.ext R3 x6) .nil))⟩;simp[i1]
 .have hi:i=d1.length:=by simpa using hi
  omega
def U5(K:Frag){X:Cx}{a:Expr}{ta:TE}{ma:MI}{elts:List Expr}{kk:Nat}{j}{tpos p pos cp kp:Pos}(hm:X.mg "enumerate"=none)(ha:QR K false X a ta ma)(hg:Gl X "enumerate":=by rfl)(hK:X.K=K:=by rfl)(hs:starEach [a] X.env=[(false,eval a X.env)]:=by rfl):
 QI K X (.Tuple elts kk tpos) (.Call (.Name "enumerate" p) [a] [⟨some "start",.Constant (.int 1) j cp,kp⟩] pos) (NS K (Ax ta BZ)) (G4 ma):=⟨UJ K hg hm (BQ ha.p C1 hs) hK hs,Th ha.r⟩
def Sv{ma:MI}{ls:Ls}{hd:Hd}{QI:List D×Gd->Hd->Prop}(h:WI ma ls hd λp x=>QI (p.1.zipIdx.map λq=>AW [.im (.int ((q.2:Int)+1)),q.1],p.2) x):WI (G4 ma) ls hd QI:=by
 obtain⟨p,x,e,q⟩:=h;exact⟨_,_,by simp only[G4,e,gR],q⟩
end
end L2
namespace L2
open PySem PySem.Spec PyProof.Rows PySem.W
noncomputable def Hx(op:Int->Int->Bool)(src:Hp->List V->Prop)(G:Hp->Prop)(tb:TE)(cap:St):Nat->Nat->V->Int->Hp->VK->Prop
 |0,j,b,_,H,Q=>(∃xs,src H xs/\xs.length=j)/\Q b H
 |m+1,j,b,kb,H,Q=>∃xs x,src H xs/\xs[j]?=some x/\G H/\tb (some x::cap) H λk H1=>∃n:Int,k=.int n/\(if op n kb=true then Hx op src G tb cap m (j+1) x n H1 Q else Hx op src G tb cap m (j+1) b kb H1 Q)
def Np(op:Int->Int->Bool)(src:Hp->List V->Prop)(G:Hp->Prop)(tb:TE)(cap:St)(m:Nat)(H:Hp)(Q:VK):Prop:=
 ∃xs x,src H xs/\xs[0]?=some x/\G H/\tb (some x::cap) H λk H1=>∃n:Int,k=.int n/\Hx op src G tb cap m 1 x n H1 Q
def Inv.turnE{X:Cx}{pins:List 81}{σ:St}{H:Hp}{s:Shared}{b:Addr}{o:Obj}{h':Heap}{t':Nat}(I:Inv X ((b,o)::pins) σ H s)(f:FpOk X pins H b)(hs:∀c u,c≠b->s.heap.get? c=some u->h'.get? c=some u):Inv X pins σ H { s with heap:=h',toks:=t' }:=by
 have J:Inv X pins σ H s:=I.pins_of λp hp=>I.pin p (gn _ (gi _ hp));obtain⟨hn,hL,_,h1,h2,h3⟩:=f;exact J.turned (λc u n e=>hs c u n e) hn hL h1 h2 h3
section
variable{X:Cx}{pins:List 81}{σ:St}{l f It S:Addr}{src:Hp->List V->Prop}{G:Hp->Prop}{tb:TE}{cap:St}{Q:VK}{E:Value->Shared->Prop}
def UV(hh:X.A.handled=none)
 (hsrc:∀pins' H' s' xs,Inv X pins' σ H' s'->src H' xs->∃its:List Value,Vals xs its/\s'.heap.IsList l its.toArray) (hSI:S≠It) (n0:Nat) (hI0:∀H',H' It=none->FpOk X pins H' It) (hS0:∀H',H' S=none->FpOk X pins H' S)
 (turn:∀(pins':List 81) (H1:Hp) (s1:Shared) (x:V) (u:Value) (Q1:VK),(∀p∈pins,p∈pins')->Inv X pins' σ H1 s1->RelV x u->G H1->tb (some x::cap) H1 Q1->wpAny 69 X.A.in1 (call (.ref f) [u]) (EP X pins' σ Q1) (λ_ _=>False) s1):
 ∀(m:Nat) (j:Nat) (b:V) (vb:Value) (kb:Int) (tk:Tok) (c:Nat) (oI:Obj) (H:Hp) (s:Shared),Inv X ((S,seqObj "list" #[vb,.int kb tk] c)::(It,oI)::pins) σ H s->s.heap.IsListIter It l j->RelV b vb ->
   Hx (λn m=>decide (n>m)) src G tb cap m j b kb H Q->codeAny 69 X.A (.builtin "max.loop" ⟨[.ref It,.ref f,.ref S],[]⟩) (λr s'=>match r with|.ok (.ret v)=>EP X pins σ Q v s'|.ok _=>False|.error e=>E e s') s:=by
 have hname:(toString "max"++toString ".loop":String)="max.loop":=by decide
 intro m
 induction m with
 |zero=>
  intro j b vb kb tk c oI H s J hit rb hgo;obtain⟨⟨xs,hG,hje⟩,hQ⟩:=hgo;have nS:=J.pin (S,seqObj "list" #[vb,.int kb tk] c) (gn _ gp);have nI:=J.pin (It,oI) (gn _ (gi _ gp));refine iD PySem.F.entry_max_loop ?_;rw[Around.under_plainId PySem.F.plain_max_loop _];show wpAny _ X.A.in1 (seqItems? (.ref S) >>= _) _ _ _;refine gb (i8 nS.1 rfl ?_);show wpAny _ X.A.in1 (tryCatch (pyNext (.ref It)) _ >>= _) _ _ _;obtain⟨its,hv,hil⟩:=hsrc _ _ _ _ J hG;have hlen:=hv.length;refine gb (iu (wpAny_pyNext_list_end hh hit hil 79 λh' hk'=>?_));have hS':=hk' S _ hSI nS.1;have s1:=Heap.SameBut.update h' S (Obj.mapSeq λ_=>(#[]:Array Value));show wpAny _ X.A.in1 (updateSeq S (λ_=>#[]) >>= _) _ _ _;refine gb ?_;refine jd hS' rfl (gb (ir (gh ?_)));have J1:Inv X ((It,oI)::pins) σ H s:=J.pins_of λp hp=>J.pin p (gn _ (gi _ hp));have J2:Inv X pins σ H { s with heap:=h',toks:=s.toks }:=J1.turnE (hI0 H nI.2.1) λc u n e=>hk' c u n e;have J3:=(J2.repin (hS0 H nS.2.1) hS' (λv z=>by cases z)).turnE (t':=s.toks) (hS0 H nS.2.1) λc u n e=>(s1.2 c n).trans e;exact⟨b,H,J3,rb,hQ⟩
 |succ m ih=>
  intro j b vb kb tk c oI H s J hit rb hgo;obtain⟨xs,x,hsr,hxj,hG,hgo⟩:=hgo;obtain⟨its,hv,hil⟩:=hsrc _ _ _ _ J hsr;obtain⟨u,hu,ru⟩:=hv.get hxj;have nS:=J.pin (S,seqObj "list" #[vb,.int kb tk] c) (gn _ gp);have nI:=J.pin (It,oI) (gn _ (gi _ gp));refine iD PySem.F.entry_max_loop ?_;rw[Around.under_plainId PySem.F.plain_max_loop _];show wpAny _ X.A.in1 (seqItems? (.ref S) >>= _) _ _ _;refine gb (i8 nS.1 rfl ?_);show wpAny _ X.A.in1 (tryCatch (pyNext (.ref It)) _ >>= _) _ _ _;refine gb (iu (jg hit hil (x:=u) (by simpa using hu) λh' hit' hs'=>?_));obtain⟨oI',hoI',hoc,hod⟩:=id hit';have hSh':h'.get? S=some (seqObj "list" #[vb,.int kb tk] c):=(hs'.2 S hSI).trans nS.1;have dI:∀v,oI'.data≠.cell v:=λv z=>by rw[hod]at z;cases z
  have J1:Inv X ((It,oI)::pins) σ H s:=J.pins_of λp hp=>J.pin p (gn _ (gi _ hp));have J2:Inv X pins σ H { s with heap:=h',toks:=s.toks }:=J1.turnE (hI0 H nI.2.1) λc u n e=>(hs'.2 c n).trans e;have J3:=(J2.repin (hI0 H nI.2.1) hoI' dI).repin ((hS0 H nS.2.1).more hSI.symm) hSh' (λv z=>by cases z);show wpAny _ X.A.in1 (tryCatch (holding [u] (call (.ref f) [u])) _ >>= _) _ _ _;refine gb (iu (gX (gz (turn _ H _ x u _ (λp hp=>gi _ (gi _ hp)) J3 ru hG hgo) (λv s2 he=>?_) λ_ _ hF=>hF.elim)));obtain⟨k,H2,J4,rk,n,rfl,hgo2⟩:=he;obtain⟨t2,rfl⟩:=rk;have nS2:=J4.pin (S,seqObj "list" #[vb,.int kb tk] c) (gn _ gp);have nI2:=J4.pin (It,oI') (gn _ (gi _ gp));show wpAny _ X.A.in1 (tryCatch (holding [u,.int n t2] (richCompare .Gt (.int n t2) (.int kb tk) >>= _)) _ >>= _) _ _ _;refine gb (iu (gX (gb (richCompare_gives (op:=.Gt) (iC s2 _ t2) (iC s2 _ tk) F.slot_int_gt F.entry_int_gt (F.args_int_gt_2 _ _) (gives_int_gt _ _ t2 tk) (λx=>nomatch x) ?_))));refine gb (gX (iI ?_));refine gb (ir (gh ?_));by_cases hb':n>kb
  .have s1:=Heap.SameBut.update s2.heap S (Obj.mapSeq λ_=>#[u,.int n t2]);obtain⟨c2,hc2⟩:∃c2,(s2.heap.update S (Obj.mapSeq λ_=>#[u,.int n t2])).get? S=some (seqObj "list" #[u,.int n t2] c2):=⟨_,iP nS2.1 λ_=>#[u,.int n t2]⟩
   simp only[hb',decide_true,gw]at hgo2 ⊢;refine gb ?_;refine jd nS2.1 rfl (gb (ir ?_));rw[hname];have J5:Inv X ((S,seqObj "list" #[vb,.int kb tk] c)::pins) σ H2 s2:=J4.pins_of λp hp=>by
    rcases mem_cons.mp hp with rfl|hp
    .exact nS2
    .exact J4.pin p (gn _ (gi _ (gi _ hp)))
   have J6:Inv X pins σ H2 { s2 with heap:=s2.heap.update S (Obj.mapSeq λ_=>#[u,.int n t2]),toks:=s2.toks }:=J5.turnE (hS0 H2 nS2.2.1) λc u n e=>(s1.2 c n).trans e;have gI:(s2.heap.update S (Obj.mapSeq λ_=>#[u,.int n t2])).get? It=some oI':=(s1.2 It hSI.symm).trans nI2.1;have J7:=(J6.repin (hI0 H2 nI2.2.1) gI dI).repin ((hS0 H2 nS2.2.1).more hSI.symm) hc2 (λv z=>by cases z);exact gh ⟨iO PySem.F.plain_max_loop _,ih (j+1) x u n t2 c2 oI' H2 _ J7 ⟨oI',gI,hoc,hod⟩ ru hgo2⟩
  .simp only[hb',decide_false,Bool.false_eq_true,gT]at hgo2 ⊢;refine gb (ir ?_);rw[hname];exact gh ⟨iO PySem.F.plain_max_loop _,ih (j+1) b vb kb tk c oI' H2 _ J4 ⟨oI',nI2.1,hoc,hod⟩ rb hgo2⟩
def Xd{H:Hp}{s:Shared}(hh:X.A.handled=none)(I:Inv X pins σ H s)(hsrc:∀pins' H' s' xs,Inv X pins' σ H' s'->src H' xs->∃its:List Value,Vals xs its/\s'.heap.IsList l its.toArray)
 (turn:∀(pins':List 81) (H1:Hp) (s1:Shared) (x:V) (u:Value) (Q1:VK),(∀p∈pins,p∈pins')->Inv X pins' σ H1 s1->RelV x u->G H1->tb (some x::cap) H1 Q1->wpAny 69 X.A.in1 (call (.ref f) [u]) (EP X pins' σ Q1) (λ_ _=>False) s1)
 {m:Nat} (h:Np (λn m=>decide (n>m)) src G tb cap m H Q):wpAny 69 X.A (call (.builtin "max") [.ref l] [(Str.ofString "key",.ref f)]) (EP X pins σ Q) E s:=by
 have hname:(toString "max"++toString ".loop":String)="max.loop":=by decide
 obtain⟨xs,x,hsr,hx0,hG,hgo⟩:=h;obtain⟨_,_,hls⟩:=hsrc _ _ _ _ I hsr;refine kmk_tree PySem.F.kind_max PySem.F.plain_max PySem.F.entry_max (kmk_max_key _ _) ?_;show wpAny _ X.A.in1 (Builtin.Builtins.bindParams "max" ["key","default"] 0 ⟨[],[(Str.ofString "key",.ref f)]⟩ >>= _) _ _ s;refine gb (wpAny_of_eq (show Builtin.Builtins.bindParams "max" ["key","default"] 0 ⟨[],[(Str.ofString "key",.ref f)]⟩=pure [some (.ref f),none]from rfl) ?_);refine gb (gh ?_);refine gb (wpAny_pyIter_list hls ?_);refine gb (iX ?_ (gW _));rw[hname];have hS:(75).objs.size=66+1:=size_push' ..;rw[hS];have gI:((75).push (seqObj "list" #[] 0)).get? 66=some { cls:=.type "list_iterator",data:=.fields #[.ref l,.int 0 0] }:=
  73 _ (89 _ rfl)
 have gS:((75).push (seqObj "list" #[] 0)).get? (66+1)=some (seqObj "list" #[] 0):=by rw[<- hS];exact 89 _ rfl
 have kp:∀b o,s.heap.get? b=some o->((75).push (seqObj "list" #[] 0)).get? b=some o:=λb o e=>73 _ (73 _ e);have I1:Inv X pins σ H { s with heap:=(s.heap.push { cls:=.type "list_iterator",data:=.fields #[.ref l,.int 0 0] }).push (seqObj "list" #[] 0),toks:=s.toks }:=I.kept (t':=s.toks) kp;have hSI:66+1≠s.heap.objs.size:=i5 (j4 _);have hI0:∀H',H' 66=none->FpOk X pins H' s.heap.objs.size:=λH' hn=>I.fpOk (gg _) hn;have hS0:∀H',H' (66+1)=none->FpOk X pins H' (66+1):=λH' hn=>I.fpOk (ip _) hn;have nI:H 66=none:=I.hok.fresh (gg _);have nS:H (66+1)=none:=I.hok.fresh (ip _);generalize (75).push (seqObj "list" #[] 0)=h1 at gI gS I1 ⊢;refine gh ⟨iO PySem.F.plain_max_loop _,?_⟩;refine iD PySem.F.entry_max_loop ?_;rw[Around.under_plainId PySem.F.plain_max_loop _];show wpAny _ X.A.in1 (seqItems? (.ref (66+1)) >>= _) _ _ _;refine gb (i8 gS rfl ?_);show wpAny _ X.A.in1 (tryCatch (pyNext (.ref 66)) _ >>= _) _ _ _;obtain⟨its,hv,hil⟩:=hsrc _ _ _ _ I1 hsr;obtain⟨u,hu,ru⟩:=hv.get hx0;refine gb (iu (jg (i:=0) ⟨_,gI,rfl,rfl⟩ hil (x:=u) (by simpa using hu) λh' hit' hs'=>?_));obtain⟨oI',hoI',hoc,hod⟩:=id hit';have dI:∀v,oI'.data≠.cell v:=λv z=>by rw[hod]at z;cases z
 have hSh':h'.get? (66+1)=some (seqObj "list" #[] 0):=(hs'.2 _ hSI).trans gS;have J2:Inv X pins σ H { s with heap:=h',toks:=s.toks }:=(I1.repin (hI0 H nI) gI (λv z=>by cases z)).turnE (hI0 H nI) λc u n e=>(hs'.2 c n).trans e;have J3:=(J2.repin (hI0 H nI) hoI' dI).repin ((hS0 H nS).more hSI.symm) hSh' (λv z=>by cases z);show wpAny _ X.A.in1 (tryCatch (holding [u] (call (.ref f) [u])) _ >>= _) _ _ _;refine gb (iu (gX (gz (turn _ H _ x u _ (λp hp=>gi _ (gi _ hp)) J3 ru hG hgo) (λv s2 he=>?_) λ_ _ hF=>hF.elim)));obtain⟨k,H2,J4,rk,n,rfl,hgo2⟩:=he;obtain⟨t2,rfl⟩:=rk;have nS2:=J4.pin (66+1,seqObj "list" #[] 0) (gn _ gp);have nI2:=J4.pin (66,oI') (gn _ (gi _ gp));have s1:=Heap.SameBut.update s2.heap (66+1) (Obj.mapSeq λ_=>#[u,.int n t2]);obtain⟨c2,hc2⟩:∃c2,(s2.heap.update (s.heap.objs.size+1) (Obj.mapSeq λ_=>#[u,.int n t2])).get? (s.heap.objs.size+1)=some (seqObj "list" #[u,.int n t2] c2):=⟨_,iP nS2.1 λ_=>#[u,.int n t2]⟩
 show wpAny _ X.A.in1 (updateSeq (66+1) (λ_=>#[u,.int n t2]) >>= _) _ _ _;refine gb ?_;refine jd nS2.1 rfl ?_;rw[hname];have J5:Inv X ((66+1,seqObj "list" #[] 0)::pins) σ H2 s2:=J4.pins_of λp hp=>by
  rcases mem_cons.mp hp with rfl|hp
  .exact nS2
  .exact J4.pin p (gn _ (gi _ (gi _ hp)))
 have J6:Inv X pins σ H2 { s2 with heap:=s2.heap.update (s.heap.objs.size+1) (Obj.mapSeq λ_=>#[u,.int n t2]),toks:=s2.toks }:=J5.turnE (hS0 H2 nS2.2.1) λc u n e=>(s1.2 c n).trans e;have gI2:(s2.heap.update (66+1) (Obj.mapSeq λ_=>#[u,.int n t2])).get? 66=some oI':=(s1.2 _ hSI.symm).trans nI2.1;have J7:=(J6.repin (hI0 H2 nI2.2.1) gI2 dI).repin ((hS0 H2 nS2.2.1).more hSI.symm) hc2 (λv z=>by cases z);exact gh ⟨iO PySem.F.plain_max_loop _,UV hh hsrc hSI 0 hI0 hS0 turn m 1 x u n t2 c2 oI' H2 _ J7 ⟨oI',gI2,hoc,hod⟩ ru hgo2⟩
end
noncomputable def Ly(K:Frag)(P:Addr)(q:Str)(pos:Pos)(ix:List Nat)(te tb:TE):TE:=λσ H Q=>te σ H λv H1=>∃(a:Addr) (m:Nat) (ps:Array Value),v=.ref a/\H1 P=some (.tbl ps)/\Cw H1 q pos ps /\
 ∀H2 c,TabStep P q pos H1 H2->H2 c=some (.ext (cdF c q))->Np (λn m=>decide (n>m)) (λH xs=>SqL K H a xs) (λH=>H c=some (.ext (cdF c q))) tb (ix.map λi=>(σ[i]?).join) m H2 Q
section
variable{X:Cx}{c P:Addr}{scope:Scope}{fr:List Str}{ix:List Nat}{prm:Str}{params:Arguments}{body e:Expr}{p pos lpos kpos:Pos}{te tb:TE}
def XI(LA:LamAt X c P)(S:CSc X scope fr ix)(L:LSc scope prm)(hr:Room 3 X.A)(hcm:X.calm=true)(hg:Gl X "max")(hm:X.mg "max"=none)
 (hbind:∀(cl:List (Str×Addr)) (pm cd ctv us:Value),bindArgs (kla_fn "<lambda>" 74 params body scope cl pm cd ctv) ⟨[us],[]⟩=pure [(prm,us)])
 (he:PE X e te) (hb:∀(f:Addr) (cd:Value) (s:Shared) (H:Hp),PE (lCx X X.A.in1 (prm::fr) 74 scope f cd 87 s H) body tb)
 (hdef:defaultsOf params X.env=([],[]):=by rfl) (hs:starEach [e] X.env=[90]:=by rfl):
 PE X (.Call (.Name "max" p) [e] [⟨some "key",.Lambda params body scope lpos,kpos⟩] pos) (Ly X.K P 74 lpos ix te tb):=by
 intro pins s σ H Q I h;have PAe:PA X [e] (Ax te BZ):=BQ he C1 hs;refine iN (CT (u:=.builtin "max") I hg hm bt_max ?_);have pl:(backTo pos (starEach [e] X.env)).any (·.1)=false:=by rw[hs];rfl
 refine callWith_builtin_kwB pl rfl (evalArgs_kw2 (env:=X.env) (e:=e) (rest:=[]) (kws:=[⟨some "key",.Lambda params body scope lpos,kpos⟩]) rfl (thn (PAe pos pins s σ H (λvs H1=>match vs with
  |[v]=>∃(a:Addr) (m:Nat) (ps:Array Value),v=.ref a/\H1 P=some (.tbl ps)/\Cw H1 74 lpos ps /\
   ∀H2 c,TabStep P 74 lpos H1 H2->H2 c=some (.ext (cdF c 74))->Np (λn m=>decide (n>m)) (λH xs=>SqL X.K H a xs) (λH=>H c=some (.ext (cdF c 74))) tb (ix.map λi=>(σ[i]?).join) m H2 Q
  | _=>False) I h) λus s1 hq=>?_) hs)
 obtain⟨vs,H1,I1,r,q⟩:=hq
 match vs,q with
 |[v],q=>
 obtain⟨a,m,ps,rfl,hP,hg1,go⟩:=q;obtain⟨u,rfl,ru⟩:=Bi r;cases ru;show wpAny _ _ (evalAll [(do let v <- eval (.Lambda params body scope lpos) X.env;standAt pos;pure v)]) _ _ s1;refine jj (gb (GW S LA I1 hdef hP hg1 λf cd ctv H2 s2 I2 M=>gb (iM (gh (jk ?_)))));show wpAny _ _ (call (.builtin "max") [.ref a] [(Str.ofString "key",.ref f)]) _ _ s2;obtain⟨c',rfl,hc'⟩:=M.cdc;have go':=go H2 c' M.step hc';have ff:FpOk X pins H2 f:=I1.fpOk M.new M.fre;have I3:=I2.repin ff M.fn (λv z=>by cases z);refine gz (Xd (pins:=(f,_)::pins) (I3.ok.hd hcm) I3 (λpins' H' s' xs J hG=>?_) (λpins' H' s' x u Q1 sub J ru hG hq=>?_) go') (λv s' hv=>?_) λ_ _ z=>z
 .obtain⟨its,rv,pl2,hz⟩:=J.list hG;exact⟨its,rv,pl2.isList⟩
 .have pf:=J.pin (f,_) (gn _ (sub _ gp));exact Iu (A:=X.A.in1) (f:=f) S L J rfl (hr.in1.mono 98) pf.1 (J.hok c' _ hG).1 (λus=>hbind _ _ _ _ us) (λs H=>hb f _ s H) ru hq
 .obtain⟨y,H',J,ry,qy⟩:=hv;exact⟨y,H',J.pins_of λp hp=>J.pin p (gn _ (gi _ hp)),ry,qy⟩
end
open Classical in
noncomputable def GX(mb:ME)(cap:Ls)(hd:Hd):List D->Option (List Int)
 |[]=>some []
 |d::r=>match mb (some d::cap) hd with
  |some (.im (.int n),h)=>match GX mb cap hd r with
   |some ks=>if h=hd then some (n::ks)else none
   |none=>none
  |_=>none
noncomputable def DF(op:Int->Int->Bool):List D->List Int->D->Int->D
 |x::r,n::ns,b,kb=>if op n kb=true then DF op r ns x n else DF op r ns b kb
 |_,_,b,_=>b
noncomputable def F8(op:Int->Int->Bool)(mi:ME)(ix:List Nat)(mb:ME):ME:=λls hd=>(mi ls hd).bind λp=>(Ai p.2 p.1).bind λds=>(GX mb (ix.map λi=>(ls[i]?).join) p.2 ds).bind λkz=>match ds,kz with
 |d::r,n::ns=>some (DF op r ns d n,p.2)
 |_,_=>none
section
variable{K:Frag}{hd:Hd}
def JS{ρ:List Addr}{H:Hp}{ls:Ls}{σ:St}{ix:List Nat}{d:D}{v:V}(L:RL K ρ H ls σ)(r:RD K ρ H d v):RL K ρ H (some d::ix.map λi=>(ls[i]?).join) (some v::ix.map λi=>(σ[i]?).join):=by
 refine⟨by simp,λi d' ei=>?_⟩;cases i with
 |zero=>cases ei;exact⟨v,rfl,r⟩
 |succ j=>
  have ei:(ix.map λi=>(ls[i]?).join)[j]?=some (some d'):=ei;rw[List.getElem?_map]at ei;cases qj:ix[j]? with
  |none=>rw[qj]at ei;cases ei
  |some m=>
   rw[qj]at ei;have ei:(ls[m]?).join=some d':=Option.some.inj ei;have em:ls[m]?=some (some d'):=by
    cases w:ls[m]? with
    |none=>rw[w]at ei;cases ei
    |some z=>rw[w]at ei;simpa using ei
   obtain⟨v,ev,rv⟩:=L.ob m d' em;refine⟨v,?_,rv⟩;show(ix.map λi=>(σ[i]?).join)[j]?=some (some v);rw[List.getElem?_map,qj];simp[ev]
theorem Kf{op:Int->Int->Bool}{tb:TE}{mb:ME}{ix:List Nat}{q:Str}{c a:Addr}{d1:D}{ds:List D}(hb:RE K tb mb){ls:Ls}{σ:St}(ev:Ai hd d1=some ds):∀(rs:List D) (ns:List Int) (j:Nat) (bd:D) (bv:V) (kb:Int) (ρ:List Addr) (H:Hp) (Q:VK),ds.drop j=rs->j<=ds.length ->
 GX mb (ix.map λi=>(ls[i]?).join) hd rs=some ns->RH K ρ H hd->RL K ρ H ls σ->H c=some (.ext (cdF c q))->RD K ρ H d1 (.ref a)->RD K ρ H bd bv ->
 (∀ρ' H' v,Ext ρ H ρ' H'->RH K ρ' H' hd->RD K ρ' H' (DF op rs ns bd kb) v->Q v H') ->
 Hx op (λH xs=>SqL K H a xs) (λH=>H c=some (.ext (cdF c q))) tb (ix.map λi=>(σ[i]?).join) rs.length j bv kb H Q
 |[],ns,j,bd,bv,kb,ρ,H,Q,hr,hj,e,R,L,hc,r1,rb,k=>by
  obtain⟨a',xs,ea,sq,rs⟩:=RD.lst R r1 ev;cases ea;have hl:=rs.len;have hd0:=i3 List.length hr;simp at hd0;refine⟨⟨xs,sq,by omega⟩,k ρ H bv .refl R ?_⟩;cases e;exact rb
 |x::r,ns,j,bd,bv,kb,ρ,H,Q,hr,hj,e,R,L,hc,r1,rb,k=>by
  obtain⟨a',xs,ea,sq,rs⟩:=RD.lst R r1 ev;cases ea;have hjl:j<ds.length:=by
   have:=i3 List.length hr;simp at this;omega
  have hxj:ds[j]?=some x:=by
   rw[ig hjl]at hr;rw[List.getElem?_eq_getElem hjl,(List.cons.inj hr).1]
  have hr':ds.drop (j+1)=r:=by
   rw[ig hjl]at hr;exact(List.cons.inj hr).2
  obtain⟨v,hv,rv⟩:=rs.get hxj;unfold GX at e;split at e
  .next n h e1=>
   split at e
   .next ks e2=>
    split at e
    .next eh=>
     cases e;rw[eh]at e1;refine⟨xs,v,sq,hv,hc,hb ρ _ H _ _ _ (.im (.int n)) _ R (JS L rv) e1 λρ1 H1 v1 x1 R1 rk=>?_⟩;simp only[RD,RI]at rk;subst rk;have oc:c∉ρ:=λm=>by rcases R.mut m with⟨y,w⟩|⟨y,w⟩<;>(rw[hc]at w;cases w)
     refine⟨n,rfl,?_⟩;by_cases hop:op n kb=true
     .rw[gc hop];refine Kf hb ev r ks (j+1) x v n ρ1 H1 Q hr' hjl e2 R1 (L.ext R x1) (x1.keep c _ hc oc nt) (r1.ext R x1) (rv.ext R x1) λρ2 H2 w x2 R2 r2=>k ρ2 H2 w 84 R2 ?_;rw[DF,gc hop];exact r2
     .rw[gf hop];refine Kf hb ev r ks (j+1) bd bv kb ρ1 H1 Q hr' hjl e2 R1 (L.ext R x1) (x1.keep c _ hc oc nt) (r1.ext R x1) (rb.ext R x1) λρ2 H2 w x2 R2 r2=>k ρ2 H2 w 84 R2 ?_;rw[DF,gf hop];exact r2
    .cases e
   .cases e
  .cases e
def WB{te tb:TE}{mi mb:ME}{P:Addr}{q:Str}{pos:Pos}{ix:List Nat}(hi:RE K te mi)(hb:RE K tb mb)(TI:FY K P q pos):RE K (Ly K P q pos ix te tb) (F8 (λn m=>decide (n>m)) mi ix mb):=by
 and_intros;obtain⟨⟨d1,h1⟩,e1,hm⟩:=gF hm;obtain⟨ds,e2,hm⟩:=gF hm;obtain⟨kz,e3,hm⟩:=gF hm;dsimp only at hm e2 e3;split at hm
 .next x r n ns _=>
  cases hm;refine hi ρ σ H hd ls _ d1 _ hR hL e1 λρ1 H1 v1 x1 R1 r1=>?_;obtain⟨a,xs,rfl,sq,rs⟩:=RD.lst R1 r1 e2;obtain⟨p',et,_,l1,l2⟩:=id TI;obtain⟨ps,hP,hG⟩:=R1.tabs (P,q,p') et;have hG':Cw H1 q pos ps:=by
   rcases hG with g|⟨c,g1,g2⟩
   .exact .inl g
   .refine .inr ⟨c,?_,g2⟩;rw[g1];show #[rawInt p'.line,rawInt p'.col,Value.ref c]=_;rw[l1,l2]
  refine⟨a,r.length,ps,rfl,hP,hG',λH2 c step hc=>?_⟩;obtain⟨R2,x2⟩:=GJ R1 hP step TI;have x12:=x1.trans R1 x2;have L2':=hL.ext hR x12;have r2:=r1.ext R1 x2;obtain⟨a',xs,ea,sq,rs⟩:=RD.lst R2 r2 e2;cases ea;obtain⟨v,hv,rv⟩:=rs.get (i:=0) (d:=x) rfl;unfold GX at e3;split at e3
  .next n' h e4=>
   split at e3
   .next ks e5=>
    split at e3
    .next eh=>
     cases e3;rw[eh]at e4;refine⟨xs,v,sq,hv,hc,hb ρ1 _ H2 _ _ _ (.im (.int n)) _ R2 (JS L2' rv) e4 λρ3 H3 v3 x3 R3 rk=>?_⟩;simp only[RD,RI]at rk;subst rk;have oc:c∉ρ1:=λm=>by rcases R2.mut m with⟨y,w⟩|⟨y,w⟩<;>(rw[hc]at w;cases w)
     refine⟨n,rfl,Kf hb e2 r ns 1 x v n ρ3 H3 Q rfl 77 e5 R3 (L2'.ext R2 x3) (x3.keep c _ hc oc nt) (r2.ext R2 x3) (rv.ext R2 x3) λρ4 H4 w x4 R4 r4=>hQ ρ4 H4 w ((x12.trans R2 x3).trans R3 x4) R4 r4⟩
    .cases e3
   .cases e3
  .cases e3
 .cases hm
end
def Ws(K:Frag){X:Cx}{c P:Addr}{scope:Scope}{fr:List Str}{ix:List Nat}{prm:Str}{params:Arguments}{body e:Expr}{p pos lpos kpos:Pos}{te tb:TE}{mi mb:ME}{k:Nat}(LA:LamAt X c P)(TI:FY K P 74 lpos)(S:CSc X scope fr ix)(L:LSc scope prm)(hr:Room k X.A)(h3:3<=k)(hm:X.mg "max"=none)
 (he:QE K X e te mi) (hb:∀(f:Addr) (cd:Value) (s:Shared) (H:Hp),QE K (lCx X X.A.in1 (prm::fr) 74 scope f cd 87 s H) body tb mb)
 (hbind:∀(cl:List (Str×Addr)) (pm cd ctv us:Value),bindArgs (kla_fn "<lambda>" 74 params body scope cl pm cd ctv) ⟨[us],[]⟩=pure [(prm,us)])
 (hcm:X.calm=true:=by rfl) (hg:Gl X "max":=by rfl) (hdef:defaultsOf params X.env=([],[]):=by rfl) (hs:starEach [e] X.env=[90]:=by rfl) (hK:X.K=K:=by rfl):
 QE K X (.Call (.Name "max" p) [e] [⟨some "key",.Lambda params body scope lpos,kpos⟩] pos) (Ly K P 74 lpos ix te tb) (F8 (λn m=>decide (n>m)) mi ix mb):=by
 subst hK;exact⟨XI LA S L (hr.mono h3) hcm hg hm hbind he.p (λf cd s H=>(hb f cd s H).p) hdef hs,WB he.r (hb 0 .none X.s₀ X.H₀).r TI⟩
def T0{op:Int->Int->Bool}{mi mb:ME}{ix:List Nat}{ls:Ls}{hd:Hd}{QE:D->Hd->Prop}(h:WE mi ls hd λd x=>∃(e:D) (es:List D) (kf:D->Int),Ai x d=some (e::es)/\(∀y∈e::es,mb (some y::ix.map λi=>(ls[i]?).join) x=some (.im (.int (kf y)),x))/\QE (DF op es (es.map kf) e (kf e)) x):WE (F8 op mi ix mb) ls hd QE:=by
 obtain⟨d,x,e1,e,es,kf,e2,ek,q⟩:=h;have go:∀ys:List D,(∀y∈ys,mb (some y::ix.map λi=>(ls[i]?).join) x=some (.im (.int (kf y)),x))->GX mb (ix.map λi=>(ls[i]?).join) x ys=some (ys.map kf):=by
  intro ys
  induction ys with
  |nil=>intro _;rfl
  |cons y r ih=>
   intro h;unfold GX;rw[h y gp,ih λz hz=>h z (gi _ hz)];simp
 refine⟨_,x,?_,q⟩;simp only[F8,e1,gq,e2,go _ ek,gm]
theorem JA(kf:D->Int):∀(es:List D) (b:D),DF (λn m=>decide (n>m)) es (es.map kf) b (kf b)∈b::es/\∀y∈b::es,kf y<=kf (DF (λn m=>decide (n>m)) es (es.map kf) b (kf b))
 |[],b=>⟨gp,λy hy=>by rw[gK]at hy;subst hy;exact Int.le_refl _⟩
 |e::es,b=>by
  rw[gm,DF];by_cases h:kf e>kf b
  .rw[gc (by simpa using h)];obtain⟨h1,h2⟩:=JA kf es e;refine⟨gi _ h1,λy hy=>?_⟩;rcases mem_cons.mp hy with rfl|hy
   .have:=h2 e gp;omega
   .exact h2 y hy
  .rw[gf (by simpa using h)];obtain⟨h1,h2⟩:=JA kf es b;refine⟨?_,λy hy=>?_⟩
   .rcases mem_cons.mp h1 with q|q
    .rw[q];exact gp
    .exact gi _ (gi _ q)
   .rcases mem_cons.mp hy with rfl|hy
    .exact h2 y gp
    .rcases mem_cons.mp hy with rfl|hy
     .have:=h2 b gp;omega
     .exact h2 y (gi _ hy)
end L2
namespace L2
open PySem PySem.W
noncomputable def tg1:Expr->List Str
 |.Name x _=>[x]
 |_=>[]
noncomputable def tg2:Expr->List Str
 |.Tuple es _ _=>es.flatMap tg1
 |e=>tg1 e
noncomputable def tgN:Expr->List Str
 |.Tuple es _ _=>es.flatMap tg2
 |e=>tg1 e
noncomputable def frN(X:Cx)(ix:List Nat):List Str:=ix.filterMap λi=>X.N[i]?
noncomputable def ndB:List Str->Bool
 |[]=>true
 |x::xs=>!xs.elem x&&ndB xs
theorem Ha:∀{l:List Str},ndB l=true->l.Nodup
 |[],_=>List.nodup_nil
 |x::xs,h=>by
  obtain⟨h1,h2⟩:=Bool.and_eq_true_iff.mp h;refine nodup_cons.mpr ⟨λhm=>?_,Ha h2⟩;rw[List.elem_eq_true_of_mem hm]at h1;cases h1
section
variable{K:Frag}{X:Cx}{elt tg iter tg' iter' e:Expr}{ifs ifs':List Expr}{scope:Scope}{pos spos py:Pos}{ix:List Nat}{wi wi':TI}{g g':TG}{tf tf':TT}{te tk tv:TE}{mi mi':MI}{n n':MG}{mf mf':MT}{me mk mv:ME}{k i:Nat}{x y:Str}
def qgA(hN:ndB X.N=true:=by kernel_rfl)(hi:X.N[i]?=some x:=by rfl)(hx:Loc X.env.scope x:=by first|exact Or.inl rfl|exact Or.inr rfl)(hf:X.fn x=true∨X.env.scope.names.lookup x=some .local:=by first|exact .inl rfl|exact .inr rfl):QG K X (.Name x pos) (EF i) (AD i):=Wp K (Ha hN) hi hx hf
def qnA(hi:QI K X tg iter wi mi)(hg:∀s H ex,QG K (cCx X (tgN tg++frN X ix) scope s H ex) tg g n)(hf:∀s H ex,QF K (cCx X (tgN tg++frN X ix) scope s H ex) ifs tf mf)(he:∀s H ex,QE K (cCx X (tgN tg++frN X ix) scope s H ex) elt te me)
 (hc:X.calm=true:=by rfl) (S:CSc X scope (frN X ix) ix:=by exact⟨rfl,by decide +kernel,rfl,rfl,rfl,by decide +kernel⟩) (hs:∀x,foldedSetIterable iter X.env x=pure x:=by intro _;rfl) (hk:(tgN tg).length=k:=by rfl):
 QN K X 95 (GK k ix wi g tf te) (Ad k ix mi n mf me):=by
 subst hk;exact Wi K hc S hi hg hf he hs
def dE(hi:QI K X tg iter wi mi)(hg:∀s H ex,QG K (cCx X (tgN tg++frN X ix) scope s H ex) tg g n)(hf:∀s H ex,QF K (cCx X (tgN tg++frN X ix) scope s H ex) ifs tf mf)(he:∀s H ex,QE K (cCx X (tgN tg++frN X ix) scope s H ex) elt te me)
 (hsw:swapsWith 95 (some (.Name y py)) spos.line X.env=pure true:=by rfl) (hN:ndB X.N=true:=by kernel_rfl) (hiN:X.N[i]?=some y:=by rfl) (hy:X.env.scope.names.lookup y=some .local:=by rfl)
 (hc:X.calm=true:=by rfl) (S:CSc X scope (frN X ix) ix:=by exact⟨rfl,by decide +kernel,rfl,rfl,rfl,by decide +kernel⟩) (hs:∀x,foldedSetIterable iter X.env x=pure x:=by intro _;rfl) (hk:(tgN tg).length=k:=by rfl):
 QS K X (.Assign [.Name y py] 95 spos) (Ey (GK k ix wi g tf te) (EF i)) (AI i (Au (Ad k ix mi n mf me))):=by
 subst hk;exact WY K (Ha hN) hiN hy hc S hi hg hf he hsw hs
def qsA{pos':Pos}(he:QE K X e te me)(hs:swapsWith e (some (.Name x pos')) pos.line X.env=pure false:=by rfl)(hN:ndB X.N=true:=by kernel_rfl)(hi:X.N[i]?=some x:=by rfl)(hx:Loc X.env.scope x:=by first|exact Or.inl rfl|exact Or.inr rfl)(hf:X.fn x=true∨X.env.scope.names.lookup x=some .local:=by first|exact .inl rfl|exact .inr rfl):
 QS K X (.Assign [.Name x pos'] e pos) (Ey te (EF i)) (AI i me):=Z8 K (Ha hN) hi hx he hs hf
end
end L2
namespace L2
open PySem PySem.Spec PyProof.Rows PySem.W
noncomputable abbrev Tb:=Addr×Str×Nat×Nat
noncomputable def Xg(ts:List Tb):Obj:={ cls:=.str "tables" 0,data:=.fields (ts.flatMap λt=>[.ref t.1,.str t.2.1 0,.int t.2.2.1 0,.int t.2.2.2 0]).toArray }
noncomputable def BS(K:Frag)(ts:List Tb):Frag:=(K.filter λp=>!(ts.map (·.1)).contains p.1)++[(mainGlobals,Xg ts)]
theorem Qz:∀ts:List Tb,Lu (ts.flatMap λt=>[Value.ref t.1,.str t.2.1 0,.int t.2.2.1 0,.int t.2.2.2 0])=ts.map λt=>(t.1,t.2.1,⟨t.2.2.1,t.2.2.2,0,0⟩)
 |[]=>rfl
 |t::r=>by
  rw[List.flatMap_cons,gm,<- Qz r];rfl
def HE(K:Frag)(ts:List Tb):Ch (BS K ts)=ts.map λt=>(t.1,t.2.1,⟨t.2.2.1,t.2.2.2,0,0⟩):=by
 unfold Ch BS;rw[List.getLast?_concat];show Lu _=_;rw[<- Qz ts]
theorem Fd{L:List Addr}{a:Addr}(ha:a∉L):∀K:Frag,(K.filter λp=>!L.contains p.1).lookup a=K.lookup a
 |[]=>rfl
 |(b,o)::r=>by
   have ih:=Fd ha r;rw[gP];by_cases hb:b∈L
   .have h1:(!L.contains (b,o).1)=false:=by simp[hb]
    have h2:(a==b)=false:=beq_eq_false_iff_ne.mpr λz=>ha (z ▸ hb);rw[gf (by rw[h1];decide),gO,h2,ih]
   .have h1:(!L.contains (b,o).1)=true:=by simp[hb]
    rw[gc h1,gO,gO,ih]
theorem Hh{L:List Addr}{P:Addr}(hP:P∈L):∀K:Frag,(K.filter λp=>!L.contains p.1).lookup P=none
 |[]=>rfl
 |(b,o)::r=>by
   have ih:=Hh hP r;rw[gP];by_cases hb:b∈L
   .rw[gf (by simp[hb])];exact ih
   .have h2:(P==b)=false:=beq_eq_false_iff_ne.mpr λz=>hb (z ▸ hP);rw[gc (by simp[hb]),gO,h2];exact ih
section
variable{K:Frag}{ts:List Tb}
def He{a:Addr}{o:Obj}(ha:a∉ts.map (·.1))(e:K.lookup a=some o):(BS K ts).lookup a=some o:=by
 unfold BS;rw[iK,Fd ha,e];rfl
def Xf{h:Heap}(X:K.In h){g:Obj}(hg:K.lookup mainGlobals=some g)(hP:mainGlobals∉ts.map (·.1)):(BS K ts).In h:=λa o e=>by
 unfold BS at e;rw[iK]at e;by_cases ha:a∈ts.map (·.1)
 .rw[Hh ha,none_or]at e;have h2:(a==mainGlobals)=false:=beq_eq_false_iff_ne.mpr λz=>hP (z ▸ ha);rw[gO,h2]at e;cases e
 .rw[Fd ha]at e;cases k:K.lookup a with
  |some o'=>rw[k]at e;cases e;exact X _ _ k
  |none=>
   rw[k,none_or,gO]at e;by_cases hm:a=mainGlobals
   .subst hm;rw[hg]at k;cases k
   .rw[beq_eq_false_iff_ne.mpr hm]at e;cases e
def Xe(hM:mainGlobals∉ts.map (·.1)){P:Addr}(hP:P∈ts.map (·.1)):(BS K ts).lookup P=none:=by
 unfold BS;have h2:(P==mainGlobals)=false:=beq_eq_false_iff_ne.mpr λz=>hM (z ▸ hP);rw[iK,Hh hP,none_or,gO,h2];rfl
def Fun.mark{x qual:Str}{st:Stmt}{f:Addr}{fd:FuncData}(D:Fun K x qual st f fd){h:Heap}(X:K.In h)(hP:∀P∈ts.map (·.1),h.get? P=some (tabObj #[])):Fun (BS K ts) x qual st f fd:=by
 have neP:∀a o,K.lookup a=some o->o≠tabObj #[]->a∉ts.map (·.1):=λa o e n z=>by
  have:=X _ _ e;rw[hP a z]at this;exact n (Option.some.inj this).symm
 obtain⟨⟨oc,od,kV,doc,pm,an,cdv,ct,osl,rfl,lk,hcd⟩,kp⟩:=D;have hf:f∉ts.map (·.1):=neP f _ lk (λz=>by cases z);refine⟨⟨oc,od,kV,doc,pm,an,cdv,ct,osl,rfl,He hf lk,?_⟩,?_⟩
 .unfold codeIn at hcd ⊢;split at hcd
  .next c0=>
   split at hcd
   .next vs sl k=>
    have hc:c0∉ts.map (·.1):=neP c0 _ k (λz=>by
     have:vs=#[]:=by injection z with _ _ z _;injection z
     rw[this]at hcd;cases hcd)
    simp only[He hc k];exact hcd
   .cases hcd
  .cases hcd
 .unfold keepIn;simp only[He hf lk]
end
def bO{K:Frag}{H:Hp}{a:Addr}{xs:List V}(hS:SqL K H a xs)(hO:∀ys,H a≠some (.lst ys)):RoL K H a xs:=by
 rcases hS with(h|h)|h
 .exact absurd h (hO xs)
 .exact .inl h
 .exact .inr h
def SL{Pg:Program}{w:World}{K:Frag}{mg mb:Str->Option Value}{k:Nat}{fa a:Addr}{fd:FuncData}{x:Str}{ts:List Tb}{s₁:Shared}{vs:List Value}{ns:List Int}{F:List D->Hd->Option (D×Hd)}
 (KX:K.In s₁.heap) (hns:s₁.heap.Ns mainGlobals mg) (hb:s₁.heap.Ns builtinsNs mb) (hbb:∀x:Str,x≠"__name__"->mb x=bootBuiltins x) (hlim:s₁.heap.NoLimit) (hg:s₁.gens=#[])
 (ha:s₁.heap.get? a=some { cls:=.type "list",data:=.seq 102 }) (hi:IntsAre vs ns) (hl:ns.length<=sizeLine) (hr:Room k callerA)
 (hT:∀P∈ts.map (·.1),∃cc,s₁.heap.TableAt cc P #[]) (hPK:∀P∈ts.map (·.1),K.lookup P=none) (htab:Ch K=ts.map λt=>(t.1,t.2.1,⟨t.2.2.1,t.2.2.2,0,0⟩))
 (Fn:∀base:Heap,K.In base->base.Ns mainGlobals mg->(∀b o,b∉ts.map (·.1)->b≠a->s₁.heap.get? b=some o->base.get? b=some o)->FnOk Pg w K mg base CX0 k fa fd [x] (spF K 1 F)) (hbind:∀(s:Shared) (u:Value),BindsTo s fd ⟨[u],[]⟩ [(x,u)])
 (hF:∃hd',F [.ro ns] []=some (.im (.bl true),hd')):
 codeAny (model Pg w) callerA (.call (.ref fa) ⟨[.ref a],[]⟩) (λr s'=>r=.ok (.ret (.bool true))/\OldK s₁.heap s'.heap/\s'.os=s₁.os/\AllBare s'.gens) s₁:=by
 have rv:=Kk hi;have lenV:=hi.length;have hP:∀P∈ts.map (·.1),s₁.heap.get? P=some (tabObj #[]):=λP h=>let ⟨cc,t⟩:=hT P h;t.2
 have haP:a∉ts.map (·.1):=λz=>by rw[hP a z]at ha;cases ha
 have core:∀H:Hp,(∀b,b∉ts.map (·.1)->H b=none∨∃o xs,H b=some (.frz o (.lst xs)))->(∀P∈ts.map (·.1),H P=some (.tbl #[]))->SqL K H a (ns.map V.int)->HOk Pg w H s₁.heap->(∀b,H b≠none->b=a∨b∈ts.map (·.1))->(H a≠none->K.lookup a=none) ->
  codeAny (model Pg w) callerA (.call (.ref fa) ⟨[.ref a],[]⟩) (λr s'=>r=.ok (.ret (.bool true))/\OldK s₁.heap s'.heap/\s'.os=s₁.os/\AllBare s'.gens) s₁:=by
  intro H hO hHP hS hok hA hK;have base_of:∀{b:Addr} {o:Obj},s₁.heap.get? b=some o->H b=none->(Gc s₁.heap H).get? b=some o:=λe n=>Uh e n;have noA:∀{b:Addr} {o:Obj} {es:Array DictEntry} {ep:Nat},s₁.heap.get? b=some o->o.data=.dict es ep->H b=none:=λ{b o es ep} e d=>by
   cases q:H b with
   |none=>rfl
   |some u=>
    rcases hA b (by rw[q];simp)with e'|e'
    .subst e';rw[ha]at e;cases e;have d':Data.seq 102 _=Data.dict es ep:=d;cases d'
    .rw[hP b e']at e;cases e;cases d
  have nsK:∀{b:Addr} {m:Str->Option Value},s₁.heap.Ns b m->(Gc s₁.heap H).Ns b m:=λ{b m} ⟨o,es,ep,e,d,r⟩=>⟨o,es,ep,base_of e (noA e d),d,r⟩
  have hKb:K.In (Gc s₁.heap H):=λb o e=>base_of (KX b o e) (by
   cases q:H b with
   |none=>rfl
   |some u=>
    rcases hA b (by rw[q];simp)with e'|e'
    .subst e';rw[hK (by rw[q];simp)]at e;cases e
    .rw[hPK b e']at e;cases e)
  have hM:Mod K mg (Gc s₁.heap H):=⟨hKb,nsK hns,⟨mb,nsK hb,hbb⟩,let ⟨mc,h1,h2⟩:=hlim;⟨mc,nsK h1,h2⟩⟩
  have e0:Env0 Pg w K mg (Gc s₁.heap H) callerA [] s₁ H:=⟨rfl,hM,λb o e=>XY e,Nat.le_of_eq (SQ _ _),trivial,λb hb=>absurd (show b∈([]:List Addr)from hb) 77,hok,.of_eq hg⟩
  have hsp:spF K 1 F [.ref a] H (λv _=>v=.bl true) λ_ _ _=>False:=by
   obtain⟨hd',e⟩:=hF;refine⟨rfl,[],[],[.ro ns],.im (.bl true),hd',⟨rfl,List.nodup_nil,λy hy=>?_,λn o a h=>by simp at h⟩,?_,e,λρ' H' v _ _ r=>?_⟩
   .rw[htab]at hy;obtain⟨t,ht,rfl⟩:=mem_map.mp hy;exact⟨#[],hHP t.1 (mem_map.mpr ⟨t,ht,rfl⟩),.inl rfl⟩
   .simp only[RDs,RD];refine⟨_,_,rfl,⟨a,rfl,bO hS λys z=>?_⟩,rfl⟩;rcases hO a haP with q|⟨o,ys,q⟩<;>(rw[q]at z;cases z)
   .simpa only[RD,RI]using r
  refine iU ((Fn _ hKb (nsK hns) λb o n1 n2 e=>base_of e (by
   cases q:H b with
   |none=>rfl
   |some u=>
    rcases hA b (by rw[q];simp)with e'|e'
    .exact absurd e' n2
    .exact absurd e' n1)).run callerA [] s₁ H ⟨[.ref a],[]⟩ [.ref a] [.ref a] _ _ hr e0 (hbind s₁ (.ref a)) (.cons rfl .nil) hsp) λr s' h=>?_
  cases r with
  |error e=>exact h.elim
  |ok fl=>
   cases fl with
   |next=>exact False.elim h
   |brk=>exact False.elim h
   |cont=>exact False.elim h
   |ret u=>
    obtain⟨v,H',os,bare,un,hok',r',q⟩:=h;have q':v=.bl true:=q;subst q';obtain rfl:u=Value.bool true:=r';have keep:∀b o,b∉ts.map (·.1)->s₁.heap.get? b=some o->s'.heap.get? b=some o:=λb o nb e=>by
     cases q:H b with
     |none=>exact un.keep b o e q (by intro z;exact absurd (show b∈([]:List Addr)from z) 77) 77
     |some u=>
      rcases hO b nb with z|⟨ob,xs,z⟩
      .rw[q]at z;cases z
      .have z2:=un.frzs b ob _ z;obtain⟨e1,_⟩:=hok b _ z;obtain⟨e2,_⟩:=hok' b _ z2;rw[e]at e1;cases e1;exact e2
    refine⟨rfl,⟨λb o e=>?_,λb o e=>?_⟩,os,bare⟩
    .by_cases nb:b∈ts.map (·.1)
     .obtain⟨cc,tb⟩:=hT b nb;obtain⟨more,hm⟩:=un.tbls b #[] (hHP b nb);have hb':s'.heap.get? b=some (tabObj (#[]++more)):=hok' b _ hm;rw[hP b nb]at e;cases e;exact .inr (.inl ⟨tb.isCodeTable,rfl,#[],more,rfl,hb'⟩)
     .exact .inl (keep b o nb e)
    .by_cases nb:b∈ts.map (·.1)
     .obtain⟨more,hm⟩:=un.tbls b #[] (hHP b nb);exact⟨_,hok' b _ hm⟩
     .exact⟨o,keep b o nb e⟩
 cases hk:K.lookup a with
 |some o=>
  have e:=KX a o hk;rw[ha]at e;cases e;refine core (λb=>if b∈ts.map (·.1)then some (.tbl #[])else none) (λb nb=>.inl (gf nb)) (λP hp=>gc hp) (.inr ⟨_,102,_,hk,rfl,rfl,rfl,by rw[gu,lenV];exact hl,by simpa using rv⟩) (λb u z=>?_) (λb z=>?_) λz=>absurd (gf haP) z
  .by_cases hb:b∈ts.map (·.1)
   .have z':=(gc hb).symm.trans z;cases z';exact hP b hb
   .have z':=(gf hb).symm.trans z;cases z'
  .by_cases hb:b∈ts.map (·.1)
   .exact .inr hb
   .exact absurd (gf hb) z
 |none=>
  refine core (λb=>if b∈ts.map (·.1)then some (.tbl #[])else if b=a then some (.frz { cls:=.type "list",data:=.seq 102 } (.lst (ns.map V.int)))else none) (λb nb=>?_) (λP hp=>gc hp) (.inl (.inr ⟨{ cls:=.type "list",data:=.seq 102 },(gf haP).trans (gc rfl)⟩)) (λb u z=>?_) (λb z=>?_) λ_=>hk
  .rw[gf nb];by_cases hb:b=a
   .exact .inr ⟨_,_,gc hb⟩
   .exact .inl (gf hb)
  .by_cases hp:b∈ts.map (·.1)
   .have z':=(gc hp).symm.trans z;cases z';exact hP b hp
   .have z:=(gf hp).symm.trans z;by_cases hb:b=a
    .have z':=(gc hb).symm.trans z;cases z';subst hb;exact⟨ha,by rw[gy];exact hl,vs,_,rv,ha⟩
    .have z':=(gf hb).symm.trans z;cases z'
  .by_cases hp:b∈ts.map (·.1)
   .exact .inr hp
   .by_cases hb:b=a
    .exact .inl hb
    .exact absurd ((gf hp).trans (gf hb)) z
def walkL{l:OpenLaw}{n k:Nat}{q:Program}{loose:List Str}{XP:(Str->Option Value)->Heap->Prop}{YP:World->Heap->Prop}{d:DefRec}{K:Params->Frag}{F:List D->Hd->Option (D×Hd)}(xs:List (Str×Str×Nat×Nat))
 (hn:l.most=some n) (hn2:n<=sizeLine) (hdf:d.params.defaults=[]) (hr:Room k callerA) (hdr:∀x∈xs,∃dr,(recsOf q).find? (λe=>e.name==x.1)=some dr)
 (hF:∀ns:List Int,∃hd',F [.ro ns] []=some (.im (.bl true),hd'))
 (hY:∀(w:World) (h:Heap),YP w h->(K w.params).In h)
 (G:∀(w:World) (mg:Str->Option Value) (fa:Addr) (h:Heap) (c P:Str->Addr),(K w.params).In h->h.Ns mainGlobals mg->mg d.name=some (.ref fa) ->
  (∀x∈xs,h.get? (P x.1)=some (tabObj #[])/\CodeHd h (c x.1) (P x.1)/\∃a o fd,mg x.1=some (.ref a)/\h.get? a=some o/\o.data=.func fd/\fd.code=.ref (c x.1)) ->
  (∃g,(K w.params).lookup mainGlobals=some g)/\∃fd:FuncData,(∀(s:Shared) (u:Value),BindsTo s fd ⟨[u],[]⟩ [("_law_script",u)])/\
   ∀base:Heap,(BS (K w.params) (xs.map λx=>(P x.1,x.2))).In base->base.Ns mainGlobals mg->(∀x∈xs,CodeHd base (c x.1) (P x.1))->(∀x∈xs,base.BuiltinsAt mg (P x.1))->FnOk l.prog w (BS (K w.params) (xs.map λx=>(P x.1,x.2))) mg base CX0 k fa fd ["_law_script"] (spF (BS (K w.params) (xs.map λx=>(P x.1,x.2))) 1 F)):
 PySem.W.WalkO q loose XP YP l.row.toRowW d [] (λf vs=>PySem.call f vs):=by
 refine Att.attach_call hn hdf λw s₀ s₁ mg mb fa o pm cd doc a vs ns Gr Y ho hd hcd hmg hobj hints hlen hg=>?_;have KX:=hY w _ Y;have each:∀x:Str,∃cp:Addr×Addr,(∃y∈xs,y.1=x)->(∃cc,s₁.heap.TableAt cc cp.2 #[])/\CodeHd s₁.heap cp.1 cp.2/\∃a o fd,mg x=some (.ref a)/\s₁.heap.get? a=some o/\o.data=.func fd/\fd.code=.ref cp.1:=by
  intro x;by_cases hx:∃y∈xs,y.1=x
  .obtain⟨y,hy,rfl⟩:=hx;obtain⟨dr,hdr⟩:=hdr y hy;have hnm:dr.name=y.1:=beq_iff_eq.mp (List.find?_some (p:=λe:DefRec=>e.name==y.1) hdr);obtain⟨a',o',fd',c,P,h1,h2,h3,h4,h5,h6⟩:=Gr.T.tab dr (List.mem_of_find?_eq_some hdr);rw[hnm]at h1;exact⟨(c,P),λ_=>⟨⟨_,h6⟩,CodeHd.of h5 h6,a',o',fd',h1,h2,h3,h4⟩⟩
  .exact⟨(0,0),λh=>absurd h hx⟩
 obtain⟨cp,hcp⟩:=Classical.skolem.mp each;have hcp:∀x∈xs,(∃cc,s₁.heap.TableAt cc (cp x.1).2 #[])/\CodeHd s₁.heap (cp x.1).1 (cp x.1).2/\∃a o fd,mg x.1=some (.ref a)/\s₁.heap.get? a=some o/\o.data=.func fd/\fd.code=.ref (cp x.1).1:=λx hx=>hcp x.1 ⟨x,hx,rfl⟩;have hts:∀P∈(xs.map λx=>((cp x.1).2,x.2)).map (·.1),∃x∈xs,P=(cp x.1).2:=λP hP=>by
  obtain⟨t,ht,rfl⟩:=mem_map.mp hP;obtain⟨x,hx,rfl⟩:=mem_map.mp ht;exact⟨x,hx,rfl⟩
 have hP:∀x∈xs,s₁.heap.get? (cp x.1).2=some (tabObj #[]):=λx hx=>by
  obtain⟨⟨cc,t⟩,_⟩:=hcp x hx;exact t.2
 have hmP:mainGlobals∉(xs.map λx=>((cp x.1).2,x.2)).map (·.1):=λz=>by
  obtain⟨x,hx,ez⟩:=hts _ z;obtain⟨o,es,ep,e,dd,_⟩:=Gr.T.g;rw[ez,hP x hx]at e;cases e;cases dd
 obtain⟨⟨g,hgl⟩,fd,hb,hFn⟩:=G w mg fa _ (λx=>(cp x).1) (λx=>(cp x).2) KX Gr.T.g hmg λx hx=>⟨hP x hx,(hcp x hx).2⟩
 refine SL (ts:=xs.map λx=>((cp x.1).2,x.2)) (K:=BS (K w.params) (xs.map λx=>((cp x.1).2,x.2))) (Xf KX hgl hmP) Gr.T.g Gr.T.b Gr.T.builtins Gr.T.nolimit hg hobj hints (gQ hlen hn2) hr (λP hp=>by obtain⟨x,hx,rfl⟩:=hts P hp;exact(hcp x hx).1) (λP hp=>Xe hmP hp) (HE _ _) (λbase kb nb keep=>hFn base kb nb (λx hx=>?_) λx hx=>?_) hb (hF ns)
 .obtain⟨oc,vs',file,tf,flags,tg,inF,text,tt,e1,r1,r2,r3,r4,r5,r6,r7,r8,hne⟩:=(hcp x hx).2.1;have hn:(cp x.1).1∉(xs.map λx=>((cp x.1).2,x.2)).map (·.1):=λz=>by
   obtain⟨y,hy,ez⟩:=hts _ z;rw[ez,hP y hy]at e1;cases e1;cases r1
  exact⟨oc,vs',file,tf,flags,tg,inF,text,tt,keep (cp x.1).1 oc hn (λz=>by rw[z,hobj]at e1;cases e1;exact absurd (show Value.type "list"=Value.type "code" from r1) 98) e1,r1,r2,r3,r4,r5,r6,r7,r8,hne⟩
 .obtain⟨bm,ob,b1,b2,b3,b4,b5,b6⟩:=Gr.T.bmain;have nP:∀y∈xs,bm≠(cp y.1).2:=λy hy z=>by rw[z,hP y hy]at b3;cases b3;cases b4
  have hn:bm∉(xs.map λx=>((cp x.1).2,x.2)).map (·.1):=λz=>by
   obtain⟨y,hy,ez⟩:=hts _ z;exact nP y hy ez
  refine⟨bm,ob,b1,b2,λz=>?_,nP x hx,keep bm ob hn (λz=>by rw[z,hobj]at b3;cases b3;exact absurd (show Value.type "list"=Value.type "module" from b4) 98) b3,b4,b5,b6⟩;obtain⟨o,es,ep,e,dd,_⟩:=Gr.T.g;rw[<- z,b3]at e;cases e;rw[b6]at dd;cases dd
noncomputable def T5(o:Obj):Option Addr:=match o.data with
 | .fields vs=>(match (vs[11]?:Option Value)with
  |some (Value.ref P)=>some P
  | _=>none)
 |_=>none
def YO{K:Frag}{h:Heap}{c P p:Addr}{o:Obj}(X:K.In h)(hc:CodeHd h c P)(k:K.lookup c=some o)(e:T5 o=some p):P=p:=by
 obtain⟨o',vs,file,tf,flags,tg,inF,text,tt,e1,e2,e3,e4,_⟩:=hc;have:=X _ _ k;rw[e1]at this;cases this;simp only[T5,e3,e4]at e;exact Option.some.inj e
end L2
namespace L2
open PySem PySem.W PyProof.Rows
noncomputable abbrev FD:=List D->Hd->Option (D×Hd)
structure EnK where
 P:Program
 w:World
 K:Frag
 mg:Str->Option Value
 base:Heap
structure Df where
 x:Str
 st:Stmt
 ps:List Str
 k:Nat
 F:FD
def Dn(E:EnK)(e:Df):Prop:=∃f fd,DefAt E.K E.mg e.x e.st f fd e.ps
def Dl(E:EnK)(e:Df)(ps:Pos):Prop:=∃f fd c P,DefAt E.K E.mg e.x e.st f fd e.ps/\LamC E.K E.mg E.base fd c P ((e.x++".<locals>.")++"<lambda>") ps
def Kn(E:EnK)(e:Df):Prop:=∃f fd,DefAt E.K E.mg e.x e.st f fd e.ps/\FnOk E.P E.w E.K E.mg E.base CX0 e.k f fd e.ps (spF E.K e.ps.length e.F)/\∀ds hd z,e.F ds hd=some z->ds.length=e.ps.length
def okK{E:EnK}{x:Str}{st:Stmt}{ps N:List Str}{j k:Nat}{m:MS}{F:FD}(D:Dn E ⟨x,st,ps,k,F⟩)(S:FnScope N ps (AA st))(hF:F=mkF ps.length N.length m)(hk:k=j+1)
 (h:∀(f:Addr) (cdv:Value) (A:Around) (outer:List Env) (s:Shared) (H:Hp) (Ek:XK),Room j (A.deeper (envOfC x (AA st) 66 f cdv))->∃t,QSs E.K (Fp CX0 E.P E.w E.K E.mg E.base N x (AA st) f cdv A outer s H Ek).nox (BR st) t m):Kn E ⟨x,st,ps,k,F⟩:=by
 obtain⟨f,fd,D⟩:=D;subst hF;subst hk;exact⟨f,fd,D,XX D S (h f),Ot⟩
def okL{E:EnK}{x:Str}{st:Stmt}{ps N:List Str}{j k:Nat}{m:MS}{F:FD}{pos:Pos}(D:Dl E ⟨x,st,ps,k,F⟩ pos)(S:FnScope N ps (AA st))(hF:F=mkF ps.length N.length m)(hk:k=j+1)
 (h:∀(f c P:Addr) (fd:FuncData) (LC:LamC E.K E.mg E.base fd c P ((x++".<locals>.")++"<lambda>") pos) (cdv:Value) (A:Around) (outer:List Env) (s:Shared) (H:Hp) (Ek:XK),fd.code=cdv->Room j (A.deeper (envOfC x (AA st) 66 f cdv))->∃t,QSs E.K (Fp CX0 E.P E.w E.K E.mg E.base N x (AA st) f cdv A outer s H Ek).nox (BR st) t m):Kn E ⟨x,st,ps,k,F⟩:=by
 obtain⟨f,fd,c,P,D,LC⟩:=D;subst hF;subst hk;exact⟨f,fd,D,UR D S (h f c P fd LC),Ot⟩
section
variable{K:Frag}{X:Cx}{e:Expr}{es:List Expr}{t:TA}{m:MA}{x:Str}{j k:Nat}{ps:List Str}{F:FD}{st:Stmt}{p pos:Pos}
def qcW(w:Nat)(G:Kn ⟨X.prog,X.w,X.K,X.mg,X.base⟩ ⟨x,st,ps,j,F⟩)(hr:Room k X.A)(ha:QA K X (e::es) t m)
 (hjk:j<=k:=by first|decide|omega) (hg:Gl X x:=by rfl) (hdb:(x==("__debug__":Str))=false:=by decide) (he:starEach (e::es) X.env=90::starEach es X.env:=by rfl) (hpl:(backTo pos (starEach es X.env)).any (·.1)=false:=by rfl) (hK:X.K=K:=by rfl):
 QE K X (.Call (.Name x p) (e::es) [] pos) (FI (spF K ps.length F) [] E0 t) (A8 w F m):=by
 subst hK;obtain⟨f,fd,D,G,l⟩:=G;exact U8 _ w G hr D ha l hjk hg hdb he hpl
def qcG(G:Kn ⟨X.prog,X.w,X.K,X.mg,X.base⟩ ⟨x,st,ps,j,F⟩)(hr:Room k X.A)(ha:QA K X (e::es) t m)
 (hjk:j<=k:=by first|decide|omega) (hg:Gl X x:=by rfl) (hdb:(x==("__debug__":Str))=false:=by decide) (he:starEach (e::es) X.env=90::starEach es X.env:=by rfl) (hpl:(backTo pos (starEach es X.env)).any (·.1)=false:=by rfl) (hK:X.K=K:=by rfl):
 QE K X (.Call (.Name x p) (e::es) [] pos) (FI (spF K ps.length F) [] E0 t) (D2 F m):=by
 subst hK;obtain⟨f,fd,D,G,l⟩:=G;exact UA _ G hr D ha l hjk hg hdb he hpl
variable{c P:Addr}{scope:Scope}{ix:List Nat}{params:Arguments}{body:Expr}{lpos kpos:Pos}{te tb:TE}{mi mb:ME}{fd:FuncData}{cdv:Value}{q:Str}
noncomputable def Fb(a:Arguments):Str:=match a.args with
 |x::_=>x.arg
 |[]=>""
def bZ(LC:LamC X.K X.mg X.base fd c P q lpos)(hcd:fd.code=cdv)(hr:Room k X.A)(hm:X.mg "max"=none)(he:QE K X e te mi)
 (hb:∀(f:Addr) (cd:Value) (s:Shared) (H:Hp),QE K (lCx X X.A.in1 (Fb params::frN X ix) 74 scope f cd 87 s H) body tb mb)
 (hcv:X.env.code=cdv:=by rfl) (hq:q=X.env.qual++"<lambda>":=by rfl) (S:CSc X scope (frN X ix) ix:=by exact⟨rfl,by decide +kernel,rfl,rfl,rfl,by decide +kernel⟩) (L:LSc scope (Fb params):=by exact⟨rfl,rfl,rfl,rfl⟩) (h3:3<=k:=by decide)
 (hbind:∀(cl:List (Str×Addr)) (pm cd ctv us:Value),bindArgs (kla_fn "<lambda>" 74 params body scope cl pm cd ctv) ⟨[us],[]⟩=pure [(Fb params,us)]:=by exact λ_ _ _ _ _=>rfl)
 (hcm:X.calm=true:=by rfl) (hg:Gl X "max":=by rfl) (hdef:defaultsOf params X.env=([],[]):=by rfl) (hs:starEach [e] X.env=[90]:=by rfl) (hK:X.K=K:=by rfl):
 QE K X (.Call (.Name "max" p) [e] [⟨some "key",.Lambda params body scope lpos,kpos⟩] pos) (Ly K P 74 lpos ix te tb) (F8 (λn m=>decide (n>m)) mi ix mb):=by
 subst hq;exact Ws K ⟨hcv.trans (hcd.symm.trans LC.code),LC.hd,LC.bl⟩ (hK ▸ LC.ti) S L hr h3 hm he hb hbind hcm hg hdef hs hK
def Z7{src:Ls->Hd->Option (List Int×Hd)}(LC:LamC X.K X.mg X.base fd c P q lpos)(hcd:fd.code=cdv)(hr:Room k X.A)(hm:X.mg "sorted"=none)(he:QSrc K X e te src)
 (hb:∀(f:Addr) (cd:Value) (s:Shared) (H:Hp),QE K (lCx X X.A.in1.in1 (Fb params::frN X ix) 74 scope f cd 87 s H) body tb mb)
 (hcv:X.env.code=cdv:=by rfl) (hq:q=X.env.qual++"<lambda>":=by rfl) (S:CSc X scope (frN X ix) ix:=by exact⟨rfl,by decide +kernel,rfl,rfl,rfl,by decide +kernel⟩) (L:LSc scope (Fb params):=by exact⟨rfl,rfl,rfl,rfl⟩) (h3:3<=k:=by decide)
 (hbind:∀(cl:List (Str×Addr)) (pm cd ctv us:Value),bindArgs (kla_fn "<lambda>" 74 params body scope cl pm cd ctv) ⟨[us],[]⟩=pure [(Fb params,us)]:=by exact λ_ _ _ _ _=>rfl)
 (hcm:X.calm=true:=by rfl) (hg:Gl X "sorted":=by rfl) (hdef:defaultsOf params X.env=([],[]):=by rfl) (hs:starEach [e] X.env=[90]:=by rfl) (hK:X.K=K:=by rfl):
 QN K X (.Call (.Name "sorted" p) [e] [⟨some "key",.Lambda params body scope lpos,kpos⟩] pos) (JJ K P 74 lpos ix te tb) (ER src ix mb):=by
 subst hq;exact U1 K ⟨hcv.trans (hcd.symm.trans LC.code),LC.hd,LC.bl⟩ (hK ▸ LC.ti) S L hr h3 hm he hb hbind hcm hg hdef hs hK
end
def FnAt(K:Frag)(n:Str)(s:Stmt)(f:Addr)(cd:Value):Prop:=∃oc kV dc pm ct od an sl,PySem.W.nsIn K mainGlobals n=some (some (.ref f))/\K.lookup f=some ⟨oc,od,.func (fnOf n n (Ca s) (BR s) (AA s) .none kV dc pm an cd ct),sl⟩/\codeIn K cd n=true/\keepIn K (.ref f)=true
def Fe(K:Frag)(e:Df):Prop:=∃f cd,FnAt K e.x e.st f cd
def Fla(K:Frag)(e:Df)(p:Addr):Prop:=∃f ca ob,FnAt K e.x e.st f (.ref ca)/\K.lookup ca=some ob/\T5 ob=some p
noncomputable abbrev Xs:=List (Str×Str×Nat×Nat)
def HX(xs:Xs)(mg:Str->Option Value)(h:Heap)(c P:Str->Addr):Prop:=∀x∈xs,h.get? (P x.1)=some (tabObj #[])/\CodeHd h (c x.1) (P x.1)/\∃a o fd,mg x.1=some (.ref a)/\h.get? a=some o/\o.data=.func fd/\fd.code=.ref (c x.1)
noncomputable abbrev tbs(xs:Xs)(P:Str->Addr):List Tb:=xs.map λx=>(P x.1,x.2)
noncomputable abbrev enM(l:OpenLaw)(w:World)(K:Frag)(xs:Xs)(P:Str->Addr)(mg:Str->Option Value)(base:Heap):EnK:=⟨l.prog,w,BS K (tbs xs P),mg,base⟩
def Bd(e:Df):Prop:=∀(kV doc pm:Value) (an:Option Addr) (cdv ct:Value) (us:List Value),us.length=e.ps.length->bindArgs (fnOf e.x e.x (Ca e.st) (BR e.st) (AA e.st) .none kV doc pm an cdv ct) ⟨us,[]⟩=pure (e.ps.zip us)
section
variable{K:Frag}{h:Heap}{mg:Str->Option Value}{xs:Xs}{c P:Str->Addr}(X:K.In h)(G:h.Ns mainGlobals mg)(hx:HX xs mg h c P)
include hx in
theorem dN:∀P'∈(tbs xs P).map (·.1),h.get? P'=some (tabObj #[]):=λP' hp=>by
 obtain⟨t,ht,rfl⟩:=mem_map.mp hp;obtain⟨x,hxx,rfl⟩:=mem_map.mp ht;exact(hx x hxx).1
include X G hx in
theorem FnAt.def{e:Df}{f:Addr}{cd:Value}(H:FnAt K e.x e.st f cd)(b:Bd e):∃fd,DefAt (BS K (tbs xs P)) mg e.x e.st f fd e.ps/\fd.code=cd:=by
 obtain⟨oc,kV,dc,pm,ct,od,an,sl,a,l,cc,k⟩:=H;have F:=Fun.mark (ts:=tbs xs P) (aY (st:=e.st) l cc k) X (dN hx);exact⟨_,⟨F,PySem.W.mg_of X G a,F.binds b⟩,rfl⟩
include X G hx in
theorem Fe.dn{e:Df}(H:Fe K e)(b:Bd e)(l:OpenLaw)(w:World)(base:Heap):Dn (enM l w K xs P mg base) e:=by
 obtain⟨f,cd,H⟩:=H;obtain⟨fd,D,_⟩:=H.def X G hx b;exact⟨f,fd,D⟩
include X G hx in
theorem Fla.code{e:Df}{p:Addr}(H:Fla K e p){q:Str}{i j:Nat}(hm:(e.x,q,i,j)∈xs):P e.x=p/\∃f,FnAt K e.x e.st f (.ref (c e.x)):=by
 obtain⟨f,ca,ob,⟨oc,kV,dc,pm,ct,od,an,sl,a,l,cc,k⟩,t,v⟩:=H;obtain⟨_,hh,a',ob',fd,h1,h2,h3,h4⟩:=hx _ hm;have e1:=h1.symm.trans (PySem.W.mg_of X G a);cases e1;have e2:=h2.symm.trans (X _ _ l);cases e2;cases h3;have e3:Value.ref ca=.ref (c e.x):=h4;cases e3;exact⟨YO X hh t v,f,⟨_,_,_,_,_,_,_,_,a,l,cc,k⟩⟩
include X G hx in
theorem Fla.dl{e:Df}{p:Addr}(H:Fla K e p)(b:Bd e){q:Str}{i j:Nat}(hm:(e.x,q,i,j)∈xs){i' j':Nat}(l:OpenLaw)(w:World){base:Heap}(hd:∀x∈xs,CodeHd base (c x.1) (P x.1))(bl:∀x∈xs,base.BuiltinsAt mg (P x.1))(nd:((Ch (BS K (tbs xs P))).map (·.1)).Nodup)(hq:q=(e.x++".<locals>.")++"<lambda>"):
 Dl (enM l w K xs P mg base) e ⟨i,j,i',j'⟩:=by
 obtain⟨_,f,H⟩:=H.code X G hx hm;obtain⟨fd,D,e1⟩:=H.def X G hx b;subst hq;exact⟨f,fd,_,_,D,⟨e1,hd _ hm,bl _ hm,⟨i,j,0,0⟩,by rw[HE];exact mem_map.mpr ⟨(P e.x,_,i,j),mem_map.mpr ⟨_,hm,rfl⟩,rfl⟩,nd,rfl,rfl⟩⟩
def cD{ps:List Addr}(h:(xs.map λx=>P x.1)=ps)(n:ps.Nodup):((Ch (BS K (tbs xs P))).map (·.1)).Nodup:=by
 rw[HE,gH,gH];subst h;exact n
end
def Zs(K:Frag):Prop:=∀n∈(["list","tuple","len","range","repr","sum","min","max","abs","all","any","sorted","zip","isinstance","int","bool","str","set","enumerate","reversed","dict"]:List Str),PySem.W.nsIn K mainGlobals n=some none
def Zs.blt{K:Frag}(Z:Zs K){h:Heap}{mg:Str->Option Value}(X:K.In h)(G:h.Ns mainGlobals mg):BltA mg:=by
 constructor<;>exact PySem.W.mg_none_of X G (Z _ 77)
def bd1{e:Df}(hl:e.ps.length=1:=by rfl)(h:∀(kV doc pm:Value) (an:Option Addr) (cdv ct:Value) a,bindArgs (fnOf e.x e.x (Ca e.st) (BR e.st) (AA e.st) .none kV doc pm an cdv ct) ⟨[a],[]⟩=pure (e.ps.zip [a]):=by intros;rfl):Bd e:=λ_ _ _ _ _ _ us hu=>match us,hu.trans hl with|[_],_=>h ..
def bd2{e:Df}(hl:e.ps.length=2:=by rfl)(h:∀(kV doc pm:Value) (an:Option Addr) (cdv ct:Value) a b,bindArgs (fnOf e.x e.x (Ca e.st) (BR e.st) (AA e.st) .none kV doc pm an cdv ct) ⟨[a,b],[]⟩=pure (e.ps.zip [a,b]):=by intros;rfl):Bd e:=λ_ _ _ _ _ _ us hu=>match us,hu.trans hl with|[_,_],_=>h ..
def bd3{e:Df}(hl:e.ps.length=3:=by rfl)(h:∀(kV doc pm:Value) (an:Option Addr) (cdv ct:Value) a b c,bindArgs (fnOf e.x e.x (Ca e.st) (BR e.st) (AA e.st) .none kV doc pm an cdv ct) ⟨[a,b,c],[]⟩=pure (e.ps.zip [a,b,c]):=by intros;rfl):Bd e:=λ_ _ _ _ _ _ us hu=>match us,hu.trans hl with|[_,_,_],_=>h ..
def bd4{e:Df}(hl:e.ps.length=4:=by rfl)(h:∀(kV doc pm:Value) (an:Option Addr) (cdv ct:Value) a b c d,bindArgs (fnOf e.x e.x (Ca e.st) (BR e.st) (AA e.st) .none kV doc pm an cdv ct) ⟨[a,b,c,d],[]⟩=pure (e.ps.zip [a,b,c,d]):=by intros;rfl):Bd e:=λ_ _ _ _ _ _ us hu=>match us,hu.trans hl with|[_,_,_,_],_=>h ..
def Al{N ps:List Str}{sc:Scope}(h:(decide (sc.kind=.function)&&!sc.isCoroutine&&!sc.isGenerator&&ndB N&&(N.take ps.length==ps)&&(ps.all λx=>sc.names.lookup x==some .local||sc.names.lookup x==some .cell)&&sc.names.all λy=>y.2 != .free)=true):FnScope N ps sc:=by
 simp only[Bool.and_eq_true,all_eq_true,Bool.or_eq_true,beq_iff_eq,iE,Bool.not_eq_true',bne_iff_ne]at h;obtain⟨⟨⟨⟨⟨⟨h1,h2⟩,h3⟩,h4⟩,h5⟩,h6⟩,h7⟩:=h;exact⟨h1,h2,h3,Ha h4,h5,h6,h7⟩
abbrev HG(l:OpenLaw)(w:World)(K:Frag)(xs:Xs)(mg:Str->Option Value)(c P:Str->Addr)(fa:Addr)(e:Df):Prop:=(∃g,K.lookup mainGlobals=some g)/\∃fd:FuncData,(∀(s:Shared) (v:Value),BindsTo s fd ⟨[v],[]⟩ [("_law_script",v)])/\∀base:Heap,(BS K (tbs xs P)).In base->base.Ns mainGlobals mg->(∀x∈xs,CodeHd base (c x.1) (P x.1))->(∀x∈xs,base.BuiltinsAt mg (P x.1))->FnOk l.prog w (BS K (tbs xs P)) mg base CX0 e.k fa fd ["_law_script"] (spF (BS K (tbs xs P)) 1 e.F)
def Ui{l:OpenLaw}{w:World}{K:Frag}{h:Heap}{mg:Str->Option Value}{fa:Addr}{xs:Xs}{c P:Str->Addr}{e:Df}(X:K.In h)(G:h.Ns mainGlobals mg)(hfa:mg e.x=some (.ref fa))(hx:HX xs mg h c P)(H:Fe K e)(b:Bd e)(hps:e.ps=(["_law_script"]:List Str))
 (ok:∀base:Heap,(∀x∈xs,CodeHd base (c x.1) (P x.1))->(∀x∈xs,base.BuiltinsAt mg (P x.1))->Kn (enM l w K xs P mg base) e):
 HG l w K xs mg c P fa e:=by
 obtain⟨f,cd,H⟩:=H;obtain⟨fd,D,_⟩:=H.def X G hx b;obtain⟨oc,kV,dc,pm,ct,od,an,sl,a,lk,cc,k⟩:=H;have hg:∃g,K.lookup mainGlobals=some g:=by
  cases e:K.lookup mainGlobals with
  |some g=>exact⟨g,rfl⟩
  |none=>unfold PySem.W.nsIn at a;rw[e]at a;cases a
 have e1:=hfa.symm.trans D.mg;cases e1;refine⟨hg,fd,λs v=>?_,λbase _ _ hd bl=>?_⟩
 .obtain⟨⟨oc',od',kV',dc',pm',an',cd',ct',sl',rfl,_,_⟩,_⟩:=D.fn;have:=b kV' dc' pm' an' cd' ct' [v] (by rw[hps];rfl);rw[hps]at this;exact .of_eq this
 .obtain⟨f',fd',D',F',_⟩:=ok base hd bl;have e2:=D.mg.symm.trans D'.mg;cases e2;obtain⟨⟨oc',od',kV',dc',pm',an',cd',ct',sl',h1,h2,_⟩,_⟩:=D.fn;obtain⟨⟨oc2,od2,kV2,dc2,pm2,an2,cd2,ct2,sl2,h3,h4,_⟩,_⟩:=D'.fn;have e3:=h2.symm.trans h4;cases e3;rw[hps]at F';exact F'
end L2
namespace L2
open PySem PySem.Spec PyProof.Rows
section
variable(C:Addr)(f:Str)
noncomputable def Ends.non(D:Ends):Ends:={ D with rt:=λ_ _=>False }
end
section
variable{C fI:Addr}{f:Str}{X:Cx}{st:Stmt}{rest:List Stmt}{t u:TS}{e:Expr}{es:List Expr}{te tb:TE}{pos:Pos}
def thx{α:Type}{M:Model}{A:Around}{m:Sem α}{P Q:α->Shared->Prop}{E E':Value->Shared->Prop}{s:Shared}(h:wpAny M A m P E s)(k:∀v s,P v s->Q v s)(j:∀e s,E e s->E' e s):wpAny M A m Q E' s:=gz h k j
noncomputable def fo(t:TS):TS:=λD σ H=>t D.non σ H
end
end L2
namespace L2
open PySem PySem.Spec PyProof.Rows PySem.W
noncomputable def ltZ(p q:Int×Int):Bool:=decide (p.1<q.1∨p.1=q.1/\p.2<q.2)
def TPair(h:Heap)(a:Addr)(p:Int×Int):Prop:=∃(o:Obj) (n:Nat) (t u:Tok),h.get? a=some o/\o.cls=.type "tuple"/\o.data=.seq #[.int p.1 t,.int p.2 u] n
section
variable{prog:Program}{w:World}{A:Around}{E:Value->Shared->Prop}{s:Shared}{a b:Addr}{p q:Int×Int}
def TPair.typeIs(h:TPair s.heap a p):s.TypeIs (.ref a) "tuple":=let ⟨o,_,_,_,h1,h2,_⟩:=h;⟨o,h1,h2⟩
def T3{P:PySem.Fin->Shared->Prop}(ha:TPair s.heap a p)(hb:TPair s.heap b q)(h:P (.done (.ret (.bool (ltZ p q)))) s):
 wpAny 97 A (Builtin.«tuple.__lt__» ⟨[.ref a,.ref b],[]⟩) P E s:=by
 have hTb:=hb.typeIs;obtain⟨oa,na,t1,t2,hoa,_,hda⟩:=ha;obtain⟨ob,nb,u1,u2,hob,_,hdb⟩:=hb;show wpAny _ _ (isInstance (.ref b) (.type "tuple") >>= _) _ _ s;refine gb (wpAny_isInstance hTb isSubtype_tuple_tuple ?_);simp only[Bool.not_true,Bool.false_eq_true,gT];refine gb (wpAny_tupleItemsOf hoa hda ?_);refine gb (wpAny_tupleItemsOf hob hdb ?_);refine gb ?_;have neq:∀(x y:Int) (t u:Tok),x≠y->P (.done (.ret (.bool (ltZ p q)))) s->decide (x<y)=ltZ p q->True:=λ_ _ _ _ _ _ _=>trivial;refine wpAny_forIn_list _
  (λrest r s'=>r.1=none/\s'=s/\(rest=[(.int p.1 t1,.int q.1 u1),(.int p.2 t2,.int q.2 u2)]∨rest=[(.int p.2 t2,.int q.2 u2)]/\p.1=q.1∨rest=[]/\p.1=q.1/\p.2=q.2))
  _ ?_ ?_ _ _ ⟨rfl,rfl,.inl rfl⟩
 .rintro⟨u,v⟩ rest r s' ⟨hr,rfl,hz⟩;rcases hz with hz|⟨hz,e1⟩|⟨hz,e1⟩
  .simp only[List.cons.injEq,Prod.mk.injEq]at hz;obtain⟨⟨rfl,rfl⟩,rfl⟩:=hz;refine gb (je ?_);by_cases hk:p.1=q.1
   .rw[beq_iff_eq.mpr hk];simp only[Bool.not_true,Bool.false_eq_true,gT];exact gh ⟨rfl,rfl,.inr (.inl ⟨by trivial,hk⟩)⟩
   .rw[beq_eq_false_iff_ne.mpr hk];simp only[Bool.not_false,gw];have hf:ltZ p q=decide (p.1<q.1):=by unfold ltZ;simp[hk]
    rw[hf]at h;refine gb (gb (wpAny_rule (gh (gb (richCompare_gives (op:=.Lt) (iC _ _ _) (iC _ _ _) F.slot_int_lt F.entry_int_lt (F.args_int_lt_2 _ _) (gives_int_lt _ _ _ _) (λx=>nomatch x) ?_)))));exact gh (gh h)
  .simp only[List.cons.injEq,Prod.mk.injEq]at hz;obtain⟨⟨rfl,rfl⟩,rfl⟩:=hz;refine gb (je ?_);by_cases hk:p.2=q.2
   .rw[beq_iff_eq.mpr hk];simp only[Bool.not_true,Bool.false_eq_true,gT];exact gh ⟨rfl,rfl,.inr (.inr ⟨by trivial,e1,hk⟩)⟩
   .rw[beq_eq_false_iff_ne.mpr hk];simp only[Bool.not_false,gw];have hf:ltZ p q=decide (p.2<q.2):=by unfold ltZ;simp[e1]
    rw[hf]at h;refine gb (gb (wpAny_rule (gh (gb (richCompare_gives (op:=.Lt) (iC _ _ _) (iC _ _ _) F.slot_int_lt F.entry_int_lt (F.args_int_lt_2 _ _) (gives_int_lt _ _ _ _) (λx=>nomatch x) ?_)))));exact gh (gh h)
  .cases hz
 .rintro⟨r1,r2⟩ s' ⟨hr,rfl,hz⟩;simp only at hr;subst hr;refine gh ?_;rcases hz with hz|⟨hz,e1⟩|⟨hz,e1,e2⟩
  .cases hz
  .cases hz
  .have hf:ltZ p q=false:=by unfold ltZ;simp[e1,e2]
   rw[hf]at h;exact h
def T4{Q:Value->Shared->Prop}(hu:A.units<cLine)(ha:TPair s.heap a p)(hb:TPair s.heap b q)(h:Q (.bool (ltZ p q)) s):wpAny 97 A (richCompare .Lt (.ref a) (.ref b)) Q E s:=
 wpAny_richCompare_same_room (op:=.Lt) ha.typeIs hb.typeIs F.slot_tuple_lt
  (j7 F.slot_tuple_lt ha.typeIs F.entry_tuple_lt (T3 ha hb ⟨_,rfl,(λe=>nomatch e),h⟩) (F.args_tuple_lt_2 _ _)) hu
end
section
variable{M:Model}{A:Around}{E:Value->Shared->Prop}{s:Shared}{env:Env}
def No{pos:Pos}{a:Addr}{e:Expr}{rest:List Expr}{Q:Value->Shared->Prop}
 (h:wpAny M A (spliced (backTo pos (starEach (e::rest) env))) (λvs s₁=>(∃(o:Obj) (fd:FuncData),s₁.heap.get? a=some o/\o.data=.func fd)/\wpAny M A (call (.ref a) vs) Q E s₁) E s)
 (he:starEach (e::rest) env=(false,eval e env)::starEach rest env:=by rfl):
 wpAny M A (callWith pos (.ref a) [] (backTo pos (starEach (e::rest) env)) []) Q E s:=by
 rw[he]at h ⊢;unfold callWith;refine gb (gX (gz (Calls.evalArgs_plain (Q:=λx s₁=>(∃(o:Obj) (fd:FuncData),s₁.heap.get? a=some o/\o.data=.func fd)/\wpAny M A (call (.ref a) ([]++x.pos) x.kw) Q E s₁) (gz h (λvs s₁ h₁=>h₁) λ_ _ x=>x)) (λx s₁ h₁=>gb (iM ?_)) λ_ _ x=>x));obtain⟨⟨o,fd,g1,g2⟩,g3⟩:=h₁;have tail:∀{t:Sem Value},wpAny M A t Q E s₁->wpAny M A (t >>= λr=>holding [r] point >>= λ_=>pure r) Q E s₁:=
  λht=>gb (gz ht (λr s₂ hr=>gb (gX (wpAny_point (gh hr)))) λ_ _ x=>x)
 cases hs:((backTo pos ((false,eval e env)::starEach rest env)).any (·.1)||([]:List (Option Str×Sem Value)).any (·.1.isNone))<;>refine gb (m:=keeperOf (.ref a)) ?_<;>unfold keeperOf<;>refine gb (wpAny_load g1 ?_)<;>rw[g2]<;>refine gh ?_
 .first|refine wpAny_ite ?_|skip
  split<;>first|exact tail g3|exact tail (by unfold callMarked;exact Calls.wpAny_keep g3)
 .first|exact tail (by unfold callMarked;exact Calls.wpAny_keep g3)|exact tail g3
end
noncomputable def PX(P:Addr)(q:Str)(pos:Pos):TE:=λ_ H Q=>∃ps,H P=some (.tbl ps)/\Cw H q pos ps/\∀H2 c f,TabStep P q pos H H2->H2 c=some (.ext (cdF c q))->H2 f=none->Q (.ref f) (upd H2 f (.ext (fnF f c q)))
noncomputable def MN(tf:TE)(ta:TA):TE:=λσ H Q=>tf σ H λv H1=>∃f,v=.ref f/\ta σ H1 λvs H2=>∃c q x y,vs=[x,y]/\H2 f=some (.ext (fnF f c q))/\H2 c=some (.ext (cdF c q))/\Q y H2
section
variable{X:Cx}{c P:Addr}{scope:Scope}{fr:List Str}{ix:List Nat}{params:Arguments}{p1 p2:Str}{pp lpos:Pos}
def XJ(LA:LamAt X c P)(S:CSc X scope fr ix)(hcl:AS X.env.cells scope.names []=[])(L:SndOk 74 params scope (.Name p2 pp) p1 p2)(hdef:defaultsOf params X.env=([],[]):=by rfl):
 PE X (.Lambda params (.Name p2 pp) scope lpos) (PX P 74 lpos):=by
 intro pins s σ H Q I h;obtain⟨ps,hP,hg,go⟩:=h;refine GW S LA I hdef hP hg λf cd ctv H2 s2 I2 M=>?_;obtain⟨c',rfl,hc'⟩:=M.cdc;have ff:FpOk X pins H2 f:=I.fpOk M.new M.fre;have ho:=M.fn;rw[hcl]at ho;have J:=I2.adopt (o:=.ext (fnF f c' 74)) ff (gQ I.sz M.new) ⟨⟨_,_,_,_,_,_,_,ho,L⟩,⟨_,ho⟩,λh1 h2 q k=>by
  obtain⟨a1,a2,a3,a4,a5,a6,a7,g,z⟩:=q;exact⟨a1,a2,a3,a4,a5,a6,a7,k _ g,z⟩⟩
 exact⟨.ref f,_,J,rfl,go H2 c' f M.step hc' M.fre⟩
def UO{x:Str}{e:Expr}{es:List Expr}{tf:TE}{ta:TA}{p pos:Pos}(hr:Room 1 X.A)(hf:PE X (.Name x p) tf)(ha:PA X (e::es) ta)(he:starEach (e::es) X.env=90::starEach es X.env:=by rfl):
 PE X (.Call (.Name x p) (e::es) [] pos) (MN tf ta):=by
 intro pins s σ H Q I h;refine iN (thn (hf pins s σ H _ I h) λu s1 hu=>?_);obtain⟨v,H1,I1,rv,q⟩:=hu;obtain⟨f,rfl,q⟩:=q;cases rv;refine No (thn (ha pos pins s1 σ H1 _ I1 q) λus s2 hus=>?_) he;obtain⟨vs,H2,I2,r,c,q,x,y,rfl,g1,g2,hQ⟩:=hus;obtain⟨u0,u1,rfl,r0,r1⟩:∃u0 u1,us=[u0,u1]/\RelV x u0/\RelV y u1:=by
  cases r with
  |cons a b=>cases b with
   |cons a2 b2=>cases b2;exact⟨_,_,rfl,a,a2⟩
 obtain⟨params,scope,p1,p2,pos',pm,ctv,ho',S⟩:=(I2.hok f _ g1).1;refine⟨⟨_,_,ho',rfl⟩,?_⟩;exact gz (TM I2 rfl hr g1 g2 r0 r1 hQ) (λ_ _ z=>z) λ_ _ z=>z.elim
end
def M9(K:Frag)(H:Hp)(k:V)(n:Int×Int):Prop:=∃a,k=.ref a/\SqT K H a [.int n.1,.int n.2]
noncomputable def GD(K:Frag)(src:Hp->List V->Prop)(G:Hp->Prop)(tb:TE)(cap:St):Nat->Nat->V->V->Int×Int->Hp->VK->Prop
 |0,j,b,_,_,H,Q=>(∃xs,src H xs/\xs.length=j)/\Q b H
 |m+1,j,b,kv,kb,H,Q=>∃xs x,src H xs/\xs[j]?=some x/\G H/\tb (some x::cap) H λk H1=>∃n:Int×Int,M9 K H1 k n/\M9 K H1 kv kb/\(if ltZ n kb=true then GD K src G tb cap m (j+1) x k n H1 Q else GD K src G tb cap m (j+1) b kv kb H1 Q)
def Kg(K:Frag)(src:Hp->List V->Prop)(G:Hp->Prop)(tb:TE)(cap:St)(m:Nat)(H:Hp)(Q:VK):Prop:=
 ∃xs x,src H xs/\xs[0]?=some x/\G H/\tb (some x::cap) H λk H1=>∃n:Int×Int,M9 K H1 k n/\GD K src G tb cap m 1 x k n H1 Q
def Oo{X:Cx}{pins:List 81}{σ:St}{H:Hp}{s:Shared}{a:Addr}{n:Int×Int}(I:Inv X pins σ H s)(h:SqT X.K H a [.int n.1,.int n.2]):TPair s.heap a n:=by
 obtain⟨jts,rj,⟨o,ho,hc,m,hd⟩,_⟩:=I.tuple h;cases rj with
 |cons a1 b1=>cases b1 with
  |cons a2 b2=>
   cases b2;obtain⟨t,rfl⟩:=a1;obtain⟨u,rfl⟩:=a2;exact⟨o,m,t,u,ho,hc,hd⟩
section
variable{X:Cx}{pins:List 81}{σ:St}{l f It S:Addr}{src:Hp->List V->Prop}{G:Hp->Prop}{tb:TE}{cap:St}{Q:VK}{E:Value->Shared->Prop}
def SD(hu:X.A.in1.units<cLine)(hh:X.A.handled=none)
 (hsrc:∀pins' H' s' xs,Inv X pins' σ H' s'->src H' xs->∃its:List Value,Vals xs its/\s'.heap.IsList l its.toArray) (hSI:S≠It) (n0:Nat) (hI0:∀H',H' It=none->FpOk X pins H' It) (hS0:∀H',H' S=none->FpOk X pins H' S)
 (turn:∀(pins':List 81) (H1:Hp) (s1:Shared) (x:V) (u:Value) (Q1:VK),(∀p∈pins,p∈pins')->Inv X pins' σ H1 s1->RelV x u->G H1->tb (some x::cap) H1 Q1->wpAny 69 X.A.in1 (call (.ref f) [u]) (EP X pins' σ Q1) (λ_ _=>False) s1):
 ∀(m:Nat) (j:Nat) (b:V) (vb:Value) (kv:V) (vk:Value) (kb:Int×Int) (c:Nat) (oI:Obj) (H:Hp) (s:Shared),Inv X ((S,seqObj "list" #[vb,vk] c)::(It,oI)::pins) σ H s->s.heap.IsListIter It l j->RelV b vb->RelV kv vk ->
   GD X.K src G tb cap m j b kv kb H Q->codeAny 69 X.A (.builtin "min.loop" ⟨[.ref It,.ref f,.ref S],[]⟩) (λr s'=>match r with|.ok (.ret v)=>EP X pins σ Q v s'|.ok _=>False|.error e=>E e s') s:=by
 have hname:(toString "min"++toString ".loop":String)="min.loop":=by decide
 intro m
 induction m with
 |zero=>
  intro j b vb kv vk kb c oI H s J hit rb rk0 hgo;obtain⟨⟨xs,hG,hje⟩,hQ⟩:=hgo;have nS:=J.pin (S,seqObj "list" #[vb,vk] c) (gn _ gp);have nI:=J.pin (It,oI) (gn _ (gi _ gp));refine iD PySem.F.entry_min_loop ?_;rw[Around.under_plainId PySem.F.plain_min_loop _];show wpAny _ X.A.in1 (seqItems? (.ref S) >>= _) _ _ _;refine gb (i8 nS.1 rfl ?_);show wpAny _ X.A.in1 (tryCatch (pyNext (.ref It)) _ >>= _) _ _ _;obtain⟨its,hv,hil⟩:=hsrc _ _ _ _ J hG;have hlen:=hv.length;refine gb (iu (wpAny_pyNext_list_end hh hit hil 79 λh' hk'=>?_));have hS':=hk' S _ hSI nS.1;have s1:=Heap.SameBut.update h' S (Obj.mapSeq λ_=>(#[]:Array Value));show wpAny _ X.A.in1 (updateSeq S (λ_=>#[]) >>= _) _ _ _;refine gb ?_;refine jd hS' rfl (gb (ir (gh ?_)));have J1:Inv X ((It,oI)::pins) σ H s:=J.pins_of λp hp=>J.pin p (gn _ (gi _ hp));have J2:Inv X pins σ H { s with heap:=h',toks:=s.toks }:=J1.turnE (hI0 H nI.2.1) λc u n e=>hk' c u n e;have J3:=(J2.repin (hS0 H nS.2.1) hS' (λv z=>by cases z)).turnE (t':=s.toks) (hS0 H nS.2.1) λc u n e=>(s1.2 c n).trans e;exact⟨b,H,J3,rb,hQ⟩
 |succ m ih=>
  intro j b vb kv vk kb c oI H s J hit rb rk0 hgo;obtain⟨xs,x,hsr,hxj,hG,hgo⟩:=hgo;obtain⟨its,hv,hil⟩:=hsrc _ _ _ _ J hsr;obtain⟨u,hu9,ru⟩:=hv.get hxj;have nS:=J.pin (S,seqObj "list" #[vb,vk] c) (gn _ gp);have nI:=J.pin (It,oI) (gn _ (gi _ gp));refine iD PySem.F.entry_min_loop ?_;rw[Around.under_plainId PySem.F.plain_min_loop _];show wpAny _ X.A.in1 (seqItems? (.ref S) >>= _) _ _ _;refine gb (i8 nS.1 rfl ?_);show wpAny _ X.A.in1 (tryCatch (pyNext (.ref It)) _ >>= _) _ _ _;refine gb (iu (jg hit hil (x:=u) (by simpa using hu9) λh' hit' hs'=>?_));obtain⟨oI',hoI',hoc,hod⟩:=id hit';have hSh':h'.get? S=some (seqObj "list" #[vb,vk] c):=(hs'.2 S hSI).trans nS.1;have dI:∀v,oI'.data≠.cell v:=λv z=>by rw[hod]at z;cases z
  have J1:Inv X ((It,oI)::pins) σ H s:=J.pins_of λp hp=>J.pin p (gn _ (gi _ hp));have J2:Inv X pins σ H { s with heap:=h',toks:=s.toks }:=J1.turnE (hI0 H nI.2.1) λc u n e=>(hs'.2 c n).trans e;have J3:=(J2.repin (hI0 H nI.2.1) hoI' dI).repin ((hS0 H nS.2.1).more hSI.symm) hSh' (λv z=>by cases z);show wpAny _ X.A.in1 (tryCatch (holding [u] (call (.ref f) [u])) _ >>= _) _ _ _;refine gb (iu (gX (gz (turn _ H _ x u _ (λp hp=>gi _ (gi _ hp)) J3 ru hG hgo) (λv s2 he=>?_) λ_ _ hF=>hF.elim)));obtain⟨k,H2,J4,rk,n,hn1,hn2,hgo2⟩:=he;obtain⟨ka,rfl,sqa⟩:=id hn1;obtain⟨kb',rfl,sqb⟩:=id hn2;cases rk;cases rk0;have nS2:=J4.pin (S,seqObj "list" #[vb,.ref kb'] c) (gn _ gp);have nI2:=J4.pin (It,oI') (gn _ (gi _ gp));show wpAny _ X.A.in1 (tryCatch (holding [u,.ref ka] (richCompare .Lt (.ref ka) (.ref kb') >>= _)) _ >>= _) _ _ _;refine gb (iu (gX (gb (T4 hu (Oo J4 sqa) (Oo J4 sqb) ?_))));refine gb (gX (iI ?_));refine gb (ir (gh ?_));by_cases hb':ltZ n kb=true
  .have s1:=Heap.SameBut.update s2.heap S (Obj.mapSeq λ_=>#[u,.ref ka]);obtain⟨c2,hc2⟩:∃c2,(s2.heap.update S (Obj.mapSeq λ_=>#[u,.ref ka])).get? S=some (seqObj "list" #[u,.ref ka] c2):=⟨_,iP nS2.1 λ_=>#[u,.ref ka]⟩
   simp only[hb',gw]at hgo2 ⊢;refine gb ?_;refine jd nS2.1 rfl (gb (ir ?_));rw[hname];have J5:Inv X ((S,seqObj "list" #[vb,.ref kb'] c)::pins) σ H2 s2:=J4.pins_of λp hp=>by
    rcases mem_cons.mp hp with rfl|hp
    .exact nS2
    .exact J4.pin p (gn _ (gi _ (gi _ hp)))
   have J6:Inv X pins σ H2 { s2 with heap:=s2.heap.update S (Obj.mapSeq λ_=>#[u,.ref ka]),toks:=s2.toks }:=J5.turnE (hS0 H2 nS2.2.1) λc u n e=>(s1.2 c n).trans e;have gI:(s2.heap.update S (Obj.mapSeq λ_=>#[u,.ref ka])).get? It=some oI':=(s1.2 It hSI.symm).trans nI2.1;have J7:=(J6.repin (hI0 H2 nI2.2.1) gI dI).repin ((hS0 H2 nS2.2.1).more hSI.symm) hc2 (λv z=>by cases z);exact gh ⟨iO PySem.F.plain_min_loop _,ih (j+1) x u (.ref ka) (.ref ka) n c2 oI' H2 _ J7 ⟨oI',gI,hoc,hod⟩ ru rfl hgo2⟩
  .simp only[hb',Bool.false_eq_true,gT]at hgo2 ⊢;refine gb (ir ?_);rw[hname];exact gh ⟨iO PySem.F.plain_min_loop _,ih (j+1) b vb (.ref kb') (.ref kb') kb c oI' H2 _ J4 ⟨oI',nI2.1,hoc,hod⟩ rb rfl hgo2⟩
def UU(hu:X.A.in1.units<cLine){H:Hp}{s:Shared}(hh:X.A.handled=none)(I:Inv X pins σ H s)(hsrc:∀pins' H' s' xs,Inv X pins' σ H' s'->src H' xs->∃its:List Value,Vals xs its/\s'.heap.IsList l its.toArray)
 (turn:∀(pins':List 81) (H1:Hp) (s1:Shared) (x:V) (u:Value) (Q1:VK),(∀p∈pins,p∈pins')->Inv X pins' σ H1 s1->RelV x u->G H1->tb (some x::cap) H1 Q1->wpAny 69 X.A.in1 (call (.ref f) [u]) (EP X pins' σ Q1) (λ_ _=>False) s1)
 {m:Nat} (h:Kg X.K src G tb cap m H Q):wpAny 69 X.A (call (.builtin "min") [.ref l] [(Str.ofString "key",.ref f)]) (EP X pins σ Q) E s:=by
 have hname:(toString "min"++toString ".loop":String)="min.loop":=by decide
 obtain⟨xs,x,hsr,hx0,hG,hgo⟩:=h;obtain⟨_,_,hls⟩:=hsrc _ _ _ _ I hsr;refine kmk_tree PySem.F.kind_min PySem.F.plain_min PySem.F.entry_min (kmk_min_key _ _) ?_;show wpAny _ X.A.in1 (Builtin.Builtins.bindParams "min" ["key","default"] 0 ⟨[],[(Str.ofString "key",.ref f)]⟩ >>= _) _ _ s;refine gb (wpAny_of_eq (show Builtin.Builtins.bindParams "min" ["key","default"] 0 ⟨[],[(Str.ofString "key",.ref f)]⟩=pure [some (.ref f),none]from rfl) ?_);refine gb (gh ?_);refine gb (wpAny_pyIter_list hls ?_);refine gb (iX ?_ (gW _));rw[hname];have hS:(75).objs.size=66+1:=size_push' ..;rw[hS];have gI:((75).push (seqObj "list" #[] 0)).get? 66=some { cls:=.type "list_iterator",data:=.fields #[.ref l,.int 0 0] }:=
  73 _ (89 _ rfl)
 have gS:((75).push (seqObj "list" #[] 0)).get? (66+1)=some (seqObj "list" #[] 0):=by rw[<- hS];exact 89 _ rfl
 have kp:∀b o,s.heap.get? b=some o->((75).push (seqObj "list" #[] 0)).get? b=some o:=λb o e=>73 _ (73 _ e);have I1:Inv X pins σ H { s with heap:=(s.heap.push { cls:=.type "list_iterator",data:=.fields #[.ref l,.int 0 0] }).push (seqObj "list" #[] 0),toks:=s.toks }:=I.kept (t':=s.toks) kp;have hSI:66+1≠s.heap.objs.size:=i5 (j4 _);have hI0:∀H',H' 66=none->FpOk X pins H' s.heap.objs.size:=λH' hn=>I.fpOk (gg _) hn;have hS0:∀H',H' (66+1)=none->FpOk X pins H' (66+1):=λH' hn=>I.fpOk (ip _) hn;have nI:H 66=none:=I.hok.fresh (gg _);have nS:H (66+1)=none:=I.hok.fresh (ip _);generalize (75).push (seqObj "list" #[] 0)=h1 at gI gS I1 ⊢;refine gh ⟨iO PySem.F.plain_min_loop _,?_⟩;refine iD PySem.F.entry_min_loop ?_;rw[Around.under_plainId PySem.F.plain_min_loop _];show wpAny _ X.A.in1 (seqItems? (.ref (66+1)) >>= _) _ _ _;refine gb (i8 gS rfl ?_);show wpAny _ X.A.in1 (tryCatch (pyNext (.ref 66)) _ >>= _) _ _ _;obtain⟨its,hv,hil⟩:=hsrc _ _ _ _ I1 hsr;obtain⟨u,hu9,ru⟩:=hv.get hx0;refine gb (iu (jg (i:=0) ⟨_,gI,rfl,rfl⟩ hil (x:=u) (by simpa using hu9) λh' hit' hs'=>?_));obtain⟨oI',hoI',hoc,hod⟩:=id hit';have dI:∀v,oI'.data≠.cell v:=λv z=>by rw[hod]at z;cases z
 have hSh':h'.get? (66+1)=some (seqObj "list" #[] 0):=(hs'.2 _ hSI).trans gS;have J2:Inv X pins σ H { s with heap:=h',toks:=s.toks }:=(I1.repin (hI0 H nI) gI (λv z=>by cases z)).turnE (hI0 H nI) λc u n e=>(hs'.2 c n).trans e;have J3:=(J2.repin (hI0 H nI) hoI' dI).repin ((hS0 H nS).more hSI.symm) hSh' (λv z=>by cases z);show wpAny _ X.A.in1 (tryCatch (holding [u] (call (.ref f) [u])) _ >>= _) _ _ _;refine gb (iu (gX (gz (turn _ H _ x u _ (λp hp=>gi _ (gi _ hp)) J3 ru hG hgo) (λv s2 he=>?_) λ_ _ hF=>hF.elim)));obtain⟨k,H2,J4,rk,n,hn1,hgo2⟩:=he;obtain⟨ka,rfl,sqa⟩:=id hn1;cases rk;have nS2:=J4.pin (66+1,seqObj "list" #[] 0) (gn _ gp);have nI2:=J4.pin (66,oI') (gn _ (gi _ gp));have s1:=Heap.SameBut.update s2.heap (66+1) (Obj.mapSeq λ_=>#[u,.ref ka]);obtain⟨c2,hc2⟩:∃c2,(s2.heap.update (s.heap.objs.size+1) (Obj.mapSeq λ_=>#[u,.ref ka])).get? (s.heap.objs.size+1)=some (seqObj "list" #[u,.ref ka] c2):=⟨_,iP nS2.1 λ_=>#[u,.ref ka]⟩
 show wpAny _ X.A.in1 (updateSeq (66+1) (λ_=>#[u,.ref ka]) >>= _) _ _ _;refine gb ?_;refine jd nS2.1 rfl ?_;rw[hname];have J5:Inv X ((66+1,seqObj "list" #[] 0)::pins) σ H2 s2:=J4.pins_of λp hp=>by
  rcases mem_cons.mp hp with rfl|hp
  .exact nS2
  .exact J4.pin p (gn _ (gi _ (gi _ hp)))
 have J6:Inv X pins σ H2 { s2 with heap:=s2.heap.update (s.heap.objs.size+1) (Obj.mapSeq λ_=>#[u,.ref ka]),toks:=s2.toks }:=J5.turnE (hS0 H2 nS2.2.1) λc u n e=>(s1.2 c n).trans e;have gI2:(s2.heap.update (66+1) (Obj.mapSeq λ_=>#[u,.ref ka])).get? 66=some oI':=(s1.2 _ hSI.symm).trans nI2.1;have J7:=(J6.repin (hI0 H2 nI2.2.1) gI2 dI).repin ((hS0 H2 nS2.2.1).more hSI.symm) hc2 (λv z=>by cases z);exact gh ⟨iO PySem.F.plain_min_loop _,SD hu hh hsrc hSI 0 hI0 hS0 turn m 1 x u (.ref ka) (.ref ka) n c2 oI' H2 _ J7 ⟨oI',gI2,hoc,hod⟩ ru rfl hgo2⟩
end
noncomputable def PV(K:Frag)(P:Addr)(q:Str)(pos:Pos)(ix:List Nat)(te tb:TE):TE:=λσ H Q=>te σ H λv H1=>∃(a:Addr) (m:Nat) (ps:Array Value),v=.ref a/\H1 P=some (.tbl ps)/\Cw H1 q pos ps /\
 ∀H2 c,TabStep P q pos H1 H2->H2 c=some (.ext (cdF c q))->Kg K (λH xs=>SqL K H a xs) (λH=>H c=some (.ext (cdF c q))) tb (ix.map λi=>(σ[i]?).join) m H2 Q
section
variable{X:Cx}{c P:Addr}{scope:Scope}{fr:List Str}{ix:List Nat}{prm:Str}{params:Arguments}{body e:Expr}{p pos lpos kpos:Pos}{te tb:TE}
def XH(LA:LamAt X c P)(S:CSc X scope fr ix)(L:LSc scope prm)(hr:Room 3 X.A)(hcm:X.calm=true)(hg:Gl X "min")(hm:X.mg "min"=none)
 (hbind:∀(cl:List (Str×Addr)) (pm cd ctv us:Value),bindArgs (kla_fn "<lambda>" 74 params body scope cl pm cd ctv) ⟨[us],[]⟩=pure [(prm,us)])
 (he:PE X e te) (hb:∀(f:Addr) (cd:Value) (s:Shared) (H:Hp),PE (lCx X X.A.in1 (prm::fr) 74 scope f cd 87 s H) body tb)
 (hdef:defaultsOf params X.env=([],[]):=by rfl) (hs:starEach [e] X.env=[90]:=by rfl):
 PE X (.Call (.Name "min" p) [e] [⟨some "key",.Lambda params body scope lpos,kpos⟩] pos) (PV X.K P 74 lpos ix te tb):=by
 intro pins s σ H Q I h;have PAe:PA X [e] (Ax te BZ):=BQ he C1 hs;refine iN (CT (u:=.builtin "min") I hg hm bt_min ?_);have pl:(backTo pos (starEach [e] X.env)).any (·.1)=false:=by rw[hs];rfl
 refine callWith_builtin_kwB pl rfl (evalArgs_kw2 (env:=X.env) (e:=e) (rest:=[]) (kws:=[⟨some "key",.Lambda params body scope lpos,kpos⟩]) rfl (thn (PAe pos pins s σ H (λvs H1=>match vs with
  |[v]=>∃(a:Addr) (m:Nat) (ps:Array Value),v=.ref a/\H1 P=some (.tbl ps)/\Cw H1 74 lpos ps /\
   ∀H2 c,TabStep P 74 lpos H1 H2->H2 c=some (.ext (cdF c 74))->Kg X.K (λH xs=>SqL X.K H a xs) (λH=>H c=some (.ext (cdF c 74))) tb (ix.map λi=>(σ[i]?).join) m H2 Q
  | _=>False) I h) λus s1 hq=>?_) hs)
 obtain⟨vs,H1,I1,r,q⟩:=hq
 match vs,q with
 |[v],q=>
 obtain⟨a,m,ps,rfl,hP,hg1,go⟩:=q;obtain⟨u,rfl,ru⟩:=Bi r;cases ru;show wpAny _ _ (evalAll [(do let v <- eval (.Lambda params body scope lpos) X.env;standAt pos;pure v)]) _ _ s1;refine jj (gb (GW S LA I1 hdef hP hg1 λf cd ctv H2 s2 I2 M=>gb (iM (gh (jk ?_)))));show wpAny _ _ (call (.builtin "min") [.ref a] [(Str.ofString "key",.ref f)]) _ _ s2;obtain⟨c',rfl,hc'⟩:=M.cdc;have go':=go H2 c' M.step hc';have ff:FpOk X pins H2 f:=I1.fpOk M.new M.fre;have I3:=I2.repin ff M.fn (λv z=>by cases z);refine gz (UU hr.in1.units0 (pins:=(f,_)::pins) (I3.ok.hd hcm) I3 (λpins' H' s' xs J hG=>?_) (λpins' H' s' x u Q1 sub J ru hG hq=>?_) go') (λv s' hv=>?_) λ_ _ z=>z
 .obtain⟨its,rv,pl2,hz⟩:=J.list hG;exact⟨its,rv,pl2.isList⟩
 .have pf:=J.pin (f,_) (gn _ (sub _ gp));exact Iu (A:=X.A.in1) (f:=f) S L J rfl (hr.in1.mono 98) pf.1 (J.hok c' _ hG).1 (λus=>hbind _ _ _ _ us) (λs H=>hb f _ s H) ru hq
 .obtain⟨y,H',J,ry,qy⟩:=hv;exact⟨y,H',J.pins_of λp hp=>J.pin p (gn _ (gi _ hp)),ry,qy⟩
end
noncomputable def Je:ME:=λ_ hd=>some (.fv 0 [],hd)
noncomputable def Di(mf:ME)(ma:MA):ME:=λls hd=>(mf ls hd).bind λp=>match p.1 with
 |.fv 0 []=>(ma ls p.2).bind λr=>match r.1 with
  |[_,e]=>some (e,r.2)
  |_=>none
 |_=>none
def WC{K:Frag}{P:Addr}{q:Str}{pos:Pos}(TI:FY K P q pos):RE K (PX P q pos) Je:=by
 and_intros;cases hm;obtain⟨p',et,_,l1,l2⟩:=id TI;obtain⟨ps,hP,hG⟩:=hR.tabs (P,q,p') et;have hG':Cw H q pos ps:=by
  rcases hG with g|⟨c,g1,g2⟩
  .exact .inl g
  .refine .inr ⟨c,?_,g2⟩;rw[g1];show #[rawInt p'.line,rawInt p'.col,Value.ref c]=_;rw[l1,l2]
 refine⟨ps,hP,hG',λH2 c f step hc hf=>?_⟩;obtain⟨R2,x2⟩:=GJ hR hP step TI;obtain⟨R3,x3⟩:=R2.hid hf (ho:=.ext (fnF f c q));refine hQ ρ _ _ (x2.trans R2 x3) R3 ?_;simp only[RD,RDs];refine⟨f,[],rfl,⟨rfl,rfl,c,q,AK,?_⟩,rfl⟩;rw[AE (λz=>by subst z;rw[hf]at hc;cases hc)];exact hc
def Tk{K:Frag}{tf:TE}{ta:TA}{mf:ME}{ma:MA}(hf:RE K tf mf)(ha:RA K ta ma):RE K (MN tf ta) (Di mf ma):=by
 and_intros;obtain⟨⟨d1,h1⟩,e1,hm⟩:=gF hm;dsimp only at hm;split at hm
 .obtain⟨⟨ds,h2⟩,e2,hm⟩:=gF hm;dsimp only at hm;split at hm
  .next d0 e=>
   cases hm;refine hf ρ σ H hd ls _ _ _ hR hL e1 λρ1 H1 v1 x1 R1 r1=>?_;simp only[RD,RDs]at r1;obtain⟨f,xs,rfl,⟨_,_,c,q,g1,g2⟩,_⟩:=r1;refine⟨f,rfl,ha ρ1 σ H1 _ ls _ _ _ R1 (hL.ext hR x1) e2 λρ2 H2 vs x2 R2 r2=>?_⟩;simp only[RDs]at r2;obtain⟨x,r,rfl,q1,y,r',rfl,q2,rfl⟩:=r2;exact⟨c,q,x,y,rfl,(x2.grow R1).keep _ _ trivial g1,(x2.grow R1).keep _ _ trivial g2,hQ ρ2 H2 y 84 R2 q2⟩
  .cases hm
 .cases hm
def Ik{K:Frag}{ρ:List Addr}{H:Hp}{a b:Int}{k:V}(h:RD K ρ H (.im (.tup [.int a,.int b])) k):M9 K H k (a,b):=by
 simp only[RD,RI,RIs]at h;obtain⟨p,xs,rfl,sq,x,r,rfl,rfl,y,r',rfl,rfl,rfl⟩:=h;exact⟨p,rfl,sq⟩
open Classical in
noncomputable def GY(mb:ME)(cap:Ls)(hd:Hd):List D->Option (List 103)
 |[]=>some []
 |d::r=>match mb (some d::cap) hd with
  |some (.im (.tup [.int n,.int n2]),h)=>match GY mb cap hd r with
   |some ks=>if h=hd then some ((n,n2)::ks)else none
   |none=>none
  |_=>none
noncomputable def Cn:List D->List 103->D->Int×Int->D
 |x::r,n::ns,b,kb=>if ltZ n kb=true then Cn r ns x n else Cn r ns b kb
 |_,_,b,_=>b
noncomputable def F7(mi:ME)(ix:List Nat)(mb:ME):ME:=λls hd=>(mi ls hd).bind λp=>(Ai p.2 p.1).bind λds=>(GY mb (ix.map λi=>(ls[i]?).join) p.2 ds).bind λkz=>match ds,kz with
 |d::r,n::ns=>some (Cn r ns d n,p.2)
 |_,_=>none
section
variable{K:Frag}{hd:Hd}
theorem JB{tb:TE}{mb:ME}{ix:List Nat}{q:Str}{c a:Addr}{d1:D}{ds:List D}(hb:RE K tb mb){ls:Ls}{σ:St}(ev:Ai hd d1=some ds):∀(rs:List D) (ns:List 103) (j:Nat) (bd:D) (bv kv:V) (kb:Int×Int) (ρ:List Addr) (H:Hp) (Q:VK),ds.drop j=rs->j<=ds.length ->
 GY mb (ix.map λi=>(ls[i]?).join) hd rs=some ns->RH K ρ H hd->RL K ρ H ls σ->H c=some (.ext (cdF c q))->RD K ρ H d1 (.ref a)->RD K ρ H bd bv->RD K ρ H (.im (.tup [.int kb.1,.int kb.2])) kv ->
 (∀ρ' H' v,Ext ρ H ρ' H'->RH K ρ' H' hd->RD K ρ' H' (Cn rs ns bd kb) v->Q v H') ->
 GD K (λH xs=>SqL K H a xs) (λH=>H c=some (.ext (cdF c q))) tb (ix.map λi=>(σ[i]?).join) rs.length j bv kv kb H Q
 |[],ns,j,bd,bv,kv,kb,ρ,H,Q,hr,hj,e,R,L,hc,r1,rb,rkb,k=>by
  obtain⟨a',xs,ea,sq,rs⟩:=RD.lst R r1 ev;cases ea;have hl:=rs.len;have hd0:=i3 List.length hr;simp at hd0;refine⟨⟨xs,sq,by omega⟩,k ρ H bv .refl R ?_⟩;cases e;exact rb
 |x::r,ns,j,bd,bv,kv,kb,ρ,H,Q,hr,hj,e,R,L,hc,r1,rb,rkb,k=>by
  obtain⟨a',xs,ea,sq,rs⟩:=RD.lst R r1 ev;cases ea;have hjl:j<ds.length:=by
   have:=i3 List.length hr;simp at this;omega
  have hxj:ds[j]?=some x:=by
   rw[ig hjl]at hr;rw[List.getElem?_eq_getElem hjl,(List.cons.inj hr).1]
  have hr':ds.drop (j+1)=r:=by
   rw[ig hjl]at hr;exact(List.cons.inj hr).2
  obtain⟨v,hv,rv⟩:=rs.get hxj;unfold GY at e;split at e
  .next n n2 h e1=>
   split at e
   .next ks e2=>
    split at e
    .next eh=>
     cases e;rw[eh]at e1;refine⟨xs,v,sq,hv,hc,hb ρ _ H _ _ _ (.im (.tup [.int n,.int n2])) _ R (JS L rv) e1 λρ1 H1 v1 x1 R1 rk=>?_⟩;have oc:c∉ρ:=λm=>by rcases R.mut m with⟨y,w⟩|⟨y,w⟩<;>(rw[hc]at w;cases w)
     have rkb1:=rkb.ext R x1;refine⟨(n,n2),Ik rk,Ik rkb1,?_⟩;by_cases hop:ltZ (n,n2) kb=true
     .rw[gc hop];refine JB hb ev r ks (j+1) x v v1 (n,n2) ρ1 H1 Q hr' hjl e2 R1 (L.ext R x1) (x1.keep c _ hc oc nt) (r1.ext R x1) (rv.ext R x1) rk λρ2 H2 w x2 R2 r2=>k ρ2 H2 w 84 R2 ?_;rw[Cn,gc hop];exact r2
     .rw[gf hop];refine JB hb ev r ks (j+1) bd bv kv kb ρ1 H1 Q hr' hjl e2 R1 (L.ext R x1) (x1.keep c _ hc oc nt) (r1.ext R x1) (rb.ext R x1) rkb1 λρ2 H2 w x2 R2 r2=>k ρ2 H2 w 84 R2 ?_;rw[Cn,gf hop];exact r2
    .cases e
   .cases e
  .cases e
def W9{te tb:TE}{mi mb:ME}{P:Addr}{q:Str}{pos:Pos}{ix:List Nat}(hi:RE K te mi)(hb:RE K tb mb)(TI:FY K P q pos):RE K (PV K P q pos ix te tb) (F7 mi ix mb):=by
 and_intros;obtain⟨⟨d1,h1⟩,e1,hm⟩:=gF hm;obtain⟨ds,e2,hm⟩:=gF hm;obtain⟨kz,e3,hm⟩:=gF hm;dsimp only at hm e2 e3;split at hm
 .next x r n ns _=>
  cases hm;refine hi ρ σ H hd ls _ d1 _ hR hL e1 λρ1 H1 v1 x1 R1 r1=>?_;obtain⟨a,xs,rfl,sq,rs⟩:=RD.lst R1 r1 e2;obtain⟨p',et,_,l1,l2⟩:=id TI;obtain⟨ps,hP,hG⟩:=R1.tabs (P,q,p') et;have hG':Cw H1 q pos ps:=by
   rcases hG with g|⟨c,g1,g2⟩
   .exact .inl g
   .refine .inr ⟨c,?_,g2⟩;rw[g1];show #[rawInt p'.line,rawInt p'.col,Value.ref c]=_;rw[l1,l2]
  refine⟨a,r.length,ps,rfl,hP,hG',λH2 c step hc=>?_⟩;obtain⟨R2,x2⟩:=GJ R1 hP step TI;have x12:=x1.trans R1 x2;have L2':=hL.ext hR x12;have r2:=r1.ext R1 x2;obtain⟨a',xs,ea,sq,rs⟩:=RD.lst R2 r2 e2;cases ea;obtain⟨v,hv,rv⟩:=rs.get (i:=0) (d:=x) rfl;unfold GY at e3;split at e3
  .next n' n2 h e4=>
   split at e3
   .next ks e5=>
    split at e3
    .next eh=>
     cases e3;rw[eh]at e4;refine⟨xs,v,sq,hv,hc,hb ρ1 _ H2 _ _ _ (.im (.tup [.int _,.int _])) _ R2 (JS L2' rv) e4 λρ3 H3 v3 x3 R3 rk=>?_⟩;have oc:c∉ρ1:=λm=>by rcases R2.mut m with⟨y,w⟩|⟨y,w⟩<;>(rw[hc]at w;cases w)
     refine⟨_,Ik rk,JB hb e2 r ns 1 x v v3 _ ρ3 H3 Q rfl 77 e5 R3 (L2'.ext R2 x3) (x3.keep c _ hc oc nt) (r2.ext R2 x3) (rv.ext R2 x3) rk λρ4 H4 w x4 R4 r4=>hQ ρ4 H4 w ((x12.trans R2 x3).trans R3 x4) R4 r4⟩
    .cases e3
   .cases e3
  .cases e3
 .cases hm
end
def U9(K:Frag){X:Cx}{x:Str}{e:Expr}{es:List Expr}{tf:TE}{ta:TA}{mf:ME}{ma:MA}{p pos:Pos}{k:Nat}(hr:Room k X.A)(hf:QE K X (.Name x p) tf mf)(ha:QA K X (e::es) ta ma)(hk:1<=k:=by decide)(he:starEach (e::es) X.env=90::starEach es X.env:=by rfl):
 QE K X (.Call (.Name x p) (e::es) [] pos) (MN tf ta) (Di mf ma):=⟨UO (hr.mono hk) hf.p ha.p he,Tk hf.r ha.r⟩
section
variable{K:Frag}{X:Cx}{c P:Addr}{fd:FuncData}{q:Str}{scope:Scope}{params:Arguments}{p2:Str}{pp p pos lpos kpos:Pos}{cdv:Value}{ix:List Nat}{body e:Expr}{te tb:TE}{mi mb:ME}{k:Nat}
def ZI(LC:LamC X.K X.mg X.base fd c P q lpos)(hcd:fd.code=cdv)(hcv:X.env.code=cdv:=by rfl)(hq:q=X.env.qual++"<lambda>":=by rfl)(S:CSc X scope (frN X []) []:=by exact⟨rfl,by decide +kernel,rfl,rfl,rfl,by decide +kernel⟩)
 (L:SndOk q params scope (.Name p2 pp) (Fb params) p2:=by exact⟨by decide,⟨rfl,rfl,rfl,rfl⟩,⟨rfl,rfl,rfl,rfl⟩,rfl,rfl,by decide,by decide,λ_ _ _ _ _ _=>rfl⟩)
 (hcl:AS X.env.cells scope.names []=[]:=by rfl) (hdef:defaultsOf params X.env=([],[]):=by rfl) (hK:X.K=K:=by rfl):QE K X (.Lambda params (.Name p2 pp) scope lpos) (PX P 74 lpos) Je:=by
 subst hq;subst hK;exact⟨XJ ⟨hcv.trans (hcd.symm.trans LC.code),LC.hd,LC.bl⟩ S hcl L hdef,WC LC.ti⟩
def ZH(LC:LamC X.K X.mg X.base fd c P q lpos)(hcd:fd.code=cdv)(hr:Room k X.A)(hm:X.mg "min"=none)(he:QE K X e te mi)
 (hb:∀(f:Addr) (cd:Value) (s:Shared) (H:Hp),QE K (lCx X X.A.in1 (Fb params::frN X ix) 74 scope f cd 87 s H) body tb mb)
 (hcv:X.env.code=cdv:=by rfl) (hq:q=X.env.qual++"<lambda>":=by rfl) (S:CSc X scope (frN X ix) ix:=by exact⟨rfl,by decide +kernel,rfl,rfl,rfl,by decide +kernel⟩) (L:LSc scope (Fb params):=by exact⟨rfl,rfl,rfl,rfl⟩) (h3:3<=k:=by decide)
 (hbind:∀(cl:List (Str×Addr)) (pm cd ctv us:Value),bindArgs (kla_fn "<lambda>" 74 params body scope cl pm cd ctv) ⟨[us],[]⟩=pure [(Fb params,us)]:=by exact λ_ _ _ _ _=>rfl)
 (hcm:X.calm=true:=by rfl) (hg:Gl X "min":=by rfl) (hdef:defaultsOf params X.env=([],[]):=by rfl) (hs:starEach [e] X.env=[90]:=by rfl) (hK:X.K=K:=by rfl):
 QE K X (.Call (.Name "min" p) [e] [⟨some "key",.Lambda params body scope lpos,kpos⟩] pos) (PV K P 74 lpos ix te tb) (F7 mi ix mb):=by
 subst hq;subst hK;exact⟨XH ⟨hcv.trans (hcd.symm.trans LC.code),LC.hd,LC.bl⟩ S L (hr.mono h3) hcm hg hm hbind he.p (λf cd s H=>(hb f cd s H).p) hdef hs,W9 he.r (hb 0 .none X.s₀ X.H₀).r LC.ti⟩
end
section
variable{ls:Ls}{hd:Hd}{Q:D->Hd->Prop}
def Vg(q:Q (.fv 0 []) hd):WE Je ls hd Q:=⟨_,_,rfl,q⟩
def Sw{mf:ME}{ma:MA}(h:WE mf ls hd λd x=>d=.fv 0 []/\WA ma ls x λds y=>∃a b,ds=[a,b]/\Q b y):WE (Di mf ma) ls hd Q:=by
 obtain⟨d,x,e1,rfl,ds,y,e2,a,b,rfl,q⟩:=h;refine⟨_,_,?_,q⟩;simp only[Di,e1,gq,e2]
def Sz{mi mb:ME}{ix:List Nat}(h:WE mi ls hd λd x=>∃(e:D) (es:List D) (kf:D->Int×Int),Ai x d=some (e::es)/\(∀y∈e::es,mb (some y::ix.map λi=>(ls[i]?).join) x=some (.im (.tup [.int (kf y).1,.int (kf y).2]),x))/\Q (Cn es (es.map kf) e (kf e)) x):WE (F7 mi ix mb) ls hd Q:=by
 obtain⟨d,x,e1,e,es,kf,e2,ek,q⟩:=h;have go:∀ys:List D,(∀y∈ys,mb (some y::ix.map λi=>(ls[i]?).join) x=some (.im (.tup [.int (kf y).1,.int (kf y).2]),x))->GY mb (ix.map λi=>(ls[i]?).join) x ys=some (ys.map kf):=by
  intro ys
  induction ys with
  |nil=>intro _;rfl
  |cons y r ih=>
   intro h;unfold GY;rw[h y gp,ih λz hz=>h z (gi _ hz)];simp
 refine⟨_,x,?_,q⟩;simp only[F7,e1,gq,e2,go _ ek,gm]
def leP(p q:Int×Int):Prop:=ltZ q p=false
def Ub(p:Int×Int):leP p p:=by unfold leP ltZ;simp
def L0{p q r:Int×Int}(h:leP p q)(h':leP q r):leP p r:=by
 unfold leP ltZ at *;simp only[jm,not_or,not_and,Int.not_lt]at *;omega
theorem Hw(kf:D->Int×Int):∀(es:List D) (b:D),Cn es (es.map kf) b (kf b)∈b::es/\∀y∈b::es,leP (kf (Cn es (es.map kf) b (kf b))) (kf y)
 |[],b=>⟨gp,λy hy=>by rw[gK]at hy;subst hy;exact Ub _⟩
 |e::es,b=>by
  rw[gm,Cn];by_cases h:ltZ (kf e) (kf b)=true
  .rw[gc h];obtain⟨h1,h2⟩:=Hw kf es e;refine⟨gi _ h1,λy hy=>?_⟩;rcases mem_cons.mp hy with rfl|hy
   .refine L0 (h2 e gp) ?_;unfold leP ltZ at *;simp only[iE,jm,not_or,not_and,Int.not_lt]at *;omega
   .exact h2 y hy
  .rw[gf h];obtain⟨h1,h2⟩:=Hw kf es b;refine⟨?_,λy hy=>?_⟩
   .rcases mem_cons.mp h1 with q|q
    .rw[q];exact gp
    .exact gi _ (gi _ q)
   .rcases mem_cons.mp hy with rfl|hy
    .exact h2 y gp
    .rcases mem_cons.mp hy with rfl|hy
     .refine L0 (h2 b gp) ?_;unfold leP;simpa using h
     .exact h2 y (gi _ hy)
end
theorem NO:∀{bs:List Int} {us:List Value} {i:Nat} {v:Value},Vals (bs.map V.int) us->us[i]?=some v->∃b t,bs[i]?=some b/\v=.int b t
 |[],_,_,_,.nil,e=>by simp at e
 |b::bs,_,0,_,.cons r _,e=>by
  simp at e;subst e;obtain⟨t,rfl⟩:=r;exact⟨b,t,rfl,rfl⟩
 |b::bs,_,i+1,_,.cons _ t,e=>by
  obtain⟨c,t,h1,h2⟩:=NO (i:=i) t (by simpa using e);exact⟨c,t,by simpa using h1,h2⟩
def VG(K:Frag):List V->Hp->VK->Prop:=λxs H Q=>∃(a:Addr) (bs:List Int),xs=[.ref a]/\SqL K H a (bs.map V.int)/\Q (.bl (bs.any λn=>n != 0)) H
theorem any_map(bs:List Int):((71 bs.length).any λi=>((bs[i]?).getD 0) != 0)=bs.any λn=>n != 0:=by
 have:=LSm.range_any (bs.map λn=>n != 0);rw[gy,List.any_map]at this;rw[show(id ∘ λn:Int=>n != 0)=λn:Int=>n != 0 from rfl]at this;rw[<- this,Bool.eq_iff_iff,List.any_eq_true,List.any_eq_true];constructor
 .rintro⟨i,hi,h⟩;have hi':i<bs.length:=by simpa using hi
  exact⟨i,hi,by simpa [hi']using h⟩
 .rintro⟨i,hi,h⟩;have hi':i<bs.length:=by simpa using hi
  exact⟨i,hi,by simpa [hi']using h⟩
def Qo(K:Frag){X:Cx}(hc:X.calm=true)(hK:X.K=K:=by rfl):CallR X (.builtin "any") (VG K):=by
 subst hK;intro pins s σ H xs us Q I r h;obtain⟨a,bs,rfl,hq,q⟩:=h;obtain⟨u,rfl,ru⟩:=Bi r;cases ru;obtain⟨its,rv,p,hz⟩:=I.list hq;have hl:=p.isList;have hlen:=rv.length;have hlt:a<s.heap.objs.size:=by obtain⟨_,e,_⟩:=hl;exact 91 e
 refine call_any_walk (wpAny_pyIter_list hl ?_);refine⟨66,[66,a],[66],its.toArray.size,_,_,λi=>((bs[i]?).getD 0) != 0,rfl,Walks.list (A:=X.A.in1) (I.ok.hd hc) _ a (gv hlt) its.toArray,
  ⟨⟨_,89 _ rfl,rfl,rfl⟩,hl.push _⟩,λi v s' Q' E' hP hQ=>?_,λh' tk hk=>?_⟩
 .obtain⟨b,t,e,rfl⟩:=NO rv (by simpa using hP);simp only[e,getD_some]at hQ;exact P.truthy_int hQ
 .have e:((71 its.toArray.size).any λi=>((bs[i]?).getD 0) != 0)=bs.any λn=>n != 0:=by
   rw[gu,<- hlen,gy];exact any_map bs
  rw[e];exact⟨.bl _,H,I.kept (LSm.kept_iter hk),rfl,q⟩
noncomputable def Jg(ds:List D):Option D:=(Am ds).map λns=>.im (.bl (ns.any λn=>n != 0))
def W4{K:Frag}:RG K false (VG K) Jg:=by
 intro ρ H hd a xs ds Q z hR q r e hQ;obtain⟨ns,e1,rfl⟩:=gG e;rw[C7 e1]at r;have:=E3 r;subst this;rcases q with q|⟨q,_⟩
 .exact⟨a,ns,rfl,q,hQ H _ .refl hR (by simp[RD,RI])⟩
 .cases q
end L2
namespace L2
open PySem PySem.Spec PyProof.Rows
noncomputable def M4(mb:MS):MS:=mb
section
variable{X:Cx}{K:Frag}
def X1{body:List Stmt}{h₀:ExceptHandler}{hs:List ExceptHandler}{pos:Pos}{tb:TS}(hb:PSs X.nox body tb):PS X (.Try body (h₀::hs) [] [] pos) tb:=by
 intro pins s σ H D I h;refine wpAny_Try_except ?_;refine gz (hb pins s σ H D (I.wish _) h) (λfl s1 q=>?_) λ_ _ z=>z.elim;have q:=q.unwish;cases fl with
 |next=>exact jf q
 |ret v=>exact q
 |brk=>exact q
 |cont=>exact q
def WX{body:List Stmt}{h₀:ExceptHandler}{hs:List ExceptHandler}{pos:Pos}{tb:TS}{mb:MS}(hb:QSs K X.nox body tb mb):QS K X (.Try body (h₀::hs) [] [] pos) tb (M4 mb):=⟨X1 hb.p,hb.r⟩
def Va{mb:MS}{ls:Ls}{hd:Hd}{Q:Fl->Hd->Prop}(h:WS mb ls hd Q):WS (M4 mb) ls hd Q:=h
end
end L2
namespace Rw
open PySem L2 Bd
def pairs_im(ps:List 103):(ps.map HZ).map D.im=ps.map Ak:=by rw[gH];rfl
end Rw
namespace Pl
open PySem L2 Bd
noncomputable abbrev Pc:=Nat×Int×Int
noncomputable def last:List Pc->Nat->Int->Int
 |[],_,v=>v
 |p::r,k,v=>last r k (if p.1=k then p.2.2 else v)
noncomputable def dn:List Pc->Nat->Int
 |[],_=>0
 |p::r,k=>(if p.1=k then p.2.2-p.2.1 else 0)+dn r k
theorem LH:∀(ps:List Pc) (es:List Int) (k:Nat),(C2 es ps)[k]?=(es[k]?).map (last ps k)
 |[],es,k=>by
  show es[k]?=(es[k]?).map id;rw[Option.map_id_fun];rfl
 |p::r,es,k=>by
  rw[C2,LH r,List.getElem?_set];by_cases h:p.1=k
  .subst h;by_cases hk:p.1<es.length
   .simp[hk,last]
   .simp[hk]
  .simp only[h,gT,last]
def ends_map{n:Nat}(ps:List Pc):C2 (96 n 0) ps=(71 n).map λk=>last ps k 0:=by
 refine iG λi=>?_;rw[LH];by_cases hi:i<n
 .simp[hi]
 .simp[hi]
theorem KM{k:Nat}{v:Int}:∀{ps:List Pc},(∀p∈ps,p.1≠k)->last ps k v=v
 |[],_=>rfl
 |p::r,h=>by
  rw[last,gf (h p gp)];exact KM λq hq=>h q (gi _ hq)
theorem last_in{k:Nat}:∀{ps:List Pc} {v:Int},(∃p∈ps,p.1=k)->∃p∈ps,p.1=k/\last ps k v=p.2.2
 |[],v,h=>by obtain⟨p,hp,_⟩:=h;cases hp
 |p::r,v,h=>by
  rw[last];by_cases q:∃p∈r,p.1=k
  .obtain⟨z,h1,h2,h3⟩:=last_in (v:=if p.1=k then p.2.2 else v) q;exact⟨z,gi _ h1,h2,h3⟩
  .have hp:p.1=k:=by
    obtain⟨z,hz,e⟩:=h;rcases mem_cons.mp hz with rfl|hz
    .exact e
    .exact absurd ⟨z,hz,e⟩ q
   refine⟨p,gp,hp,?_⟩;rw[gc hp];exact KM λz hz e=>q ⟨z,hz,e⟩
structure Ok(n:Nat)(c:Int)(ps:List Pc):Prop where
 ch:ps.Pairwise λp q=>p.2.2<=q.2.1
 ea:∀p∈ps,p.1<n/\c<=p.2.1/\p.2.1<p.2.2
def Ok.tail{n:Nat}{c:Int}{p:Pc}{r:List Pc}(h:Ok n c (p::r)):Ok n c r:=⟨(pairwise_cons.mp h.ch).2,λq hq=>h.ea q (gi _ hq)⟩
theorem last_ge{n:Nat}{c:Int}{k:Nat}:∀{ps:List Pc} {v:Int},Ok n c ps->∀p∈ps,p.1=k->p.2.2<=last ps k v
 |[],_,_,p,hp,_=>by cases hp
 |q::r,v,O,p,hp,e=>by
  rw[last];rcases mem_cons.mp hp with rfl|hp
  .rw[gc e];by_cases z:∃p∈r,p.1=k
   .obtain⟨y,h1,h2,h3⟩:=last_in (v:=p.2.2) z;rw[h3];have a:=(pairwise_cons.mp O.ch).1 y h1;have b:=(O.ea y (gi _ h1)).2.2;omega
   .rw[KM λy hy e=>z ⟨y,hy,e⟩];exact Int.le_refl _
  .exact last_ge O.tail p hp e
theorem dn_no{k:Nat}:∀{ps:List Pc},(∀p∈ps,p.1≠k)->dn ps k=0
 |[],_=>rfl
 |p::r,h=>by
  rw[dn,gf (h p gp),dn_no λq hq=>h q (gi _ hq)];rfl
section
variable{n:Nat}{c:Int}{l:Nat->Int}{ps:List Pc}
noncomputable abbrev E(ps:List Pc)(k:Nat):Int:=last ps k 0
theorem tot_le(P:Pc->Bool):∀{ps:List Pc} {c T:Int},ps.Pairwise (λp q=>p.2.2<=q.2.1)->(∀p∈ps,P p=true->c<=p.2.1/\p.2.1<p.2.2/\p.2.2<=T)->c<=T->((ps.filter P).map λp=>p.2.2-p.2.1).sum<=T-c
 |[],c,T,_,_,h=>by simp;omega
 |p::r,c,T,ch,ea,h=>by
  obtain⟨c1,c2⟩:=pairwise_cons.mp ch;rw[gP];by_cases q:P p=true
  .rw[gc q,gm,gL];obtain⟨a1,a2,a3⟩:=ea p gp q;have:=tot_le P (c:=p.2.2) (T:=T) c2 (λz hz hp=>by
    obtain⟨b1,b2,b3⟩:=ea z (gi _ hz) hp;exact⟨c1 z hz,b2,b3⟩) a3
   omega
  .rw[gf q];exact tot_le P c2 (λz hz hp=>ea z (gi _ hz) hp) h
theorem OS(a:Nat)(x:Int):∀{S:List Nat},S.Nodup->(S.map λj=>if a=j then x else 0).sum=if a∈S then x else 0
 |[],_=>by simp
 |y::r,nd=>by
  obtain⟨h1,h2⟩:=nodup_cons.mp nd;rw[gm,gL,OS a x h2];by_cases e:a=y
  .subst e;simp[h1]
  .simp[e]
theorem OT(f g:Nat->Int):∀S:List Nat,(S.map λj=>f j+g j).sum=(S.map f).sum+(S.map g).sum
 |[]=>by simp
 |y::r=>by simp only[gm,gL,OT f g r];omega
theorem sum_dn{S:List Nat}(nd:S.Nodup):∀ps:List Pc,(S.map (dn ps)).sum=((ps.filter λp=>decide (p.1∈S)).map λp=>p.2.2-p.2.1).sum
 |[]=>by
  have:S.map (dn [])=S.map λ_=>0:=rfl;rw[this];have h:∀S:List Nat,(S.map λ_=>(0:Int)).sum=0:=λS=>by induction S<;>simp_all
  simp[h]
 |p::r=>by
  have:S.map (dn (p::r))=S.map λj=>(if p.1=j then p.2.2-p.2.1 else 0)+dn r j:=rfl;rw[this,OT,OS _ _ nd,sum_dn nd r,gP];by_cases h:p.1∈S
  .simp[h]
  .simp[h]
end
end Pl
namespace S7
noncomputable abbrev sl(f:Nat->Nat)(S:List Nat):Nat:=(S.map f).sum
def MX(f:Nat->Nat)(A B:List Nat):sl f (A++B)=sl f A+sl f B:=by simp[sl,sum_append]
theorem Lz{f g:Nat->Nat}:∀{S:List Nat},(∀i∈S,f i<=g i)->sl f S<=sl g S
 |[],_=>gg _
 |x::r,h=>by
  have h1:=h x 77;have ih:=Lz (S:=r) λi hi=>h i (by simp[hi]);simp only[sl,gm,gL]at ih ⊢;omega
def GM{f g:Nat->Nat}{S:List Nat}(h:∀i∈S,f i=g i):sl f S=sl g S:=by
 unfold sl;rw[j3 h]
theorem K4{f:Nat->Nat}:∀{S:List Nat},sl f S=0->∀i∈S,f i=0
 |[],_,_,h=>by cases h
 |x::r,e,i,h=>by
  simp only[sl,gm,gL]at e;rcases mem_cons.mp h with rfl|h
  .omega
  .exact K4 (S:=r) (by simp only[sl];omega) i h
theorem HK{f:Nat->Nat}:∀{S:List Nat},0<sl f S->∃i∈S,0<f i
 |[],h=>by simp[sl]at h
 |x::r,h=>by
  by_cases q:0<f x
  .exact⟨x,by simp,q⟩
  .simp only[sl,gm,gL]at h;obtain⟨i,hi,z⟩:=HK (S:=r) (f:=f) (by simp only[sl];omega);exact⟨i,by simp[hi],z⟩
theorem GL(f:Nat->Nat){y:Nat}:∀{S:List Nat},y∈S->sl f S=f y+sl f (S.erase y)
 |x::r,h=>by
  by_cases q:x=y
  .subst q;simp[sl]
  .have hr:y∈r:=by
    rcases mem_cons.mp h with e|h
    .exact absurd e.symm q
    .exact h
   have ih:=GL f hr;rw[List.erase_cons_tail (by simpa using q)];simp only[sl,gm,gL]at ih ⊢;omega
def RJ{f g:Nat->Nat}{k:Nat}(hk:0<f k)(hg:∀j,g j=if j=k then f j-1 else f j){S:List Nat}(nd:S.Nodup)(h:k∈S):sl g S+1=sl f S:=by
 rw[GL f h,GL g h];have:sl g (S.erase k)=sl f (S.erase k):=GM λi hi=>by
  have hn:i≠k:=λe=>by subst e;exact(List.Nodup.not_mem_erase nd) hi
  rw[hg,gf hn]
 rw[this,hg k,gc rfl];omega
theorem JZ:∀{l L:List Nat},l.Nodup->(∀x∈l,x∈L)->l.length<=L.length
 |[],_,_,_=>by simp
 |x::r,L,nd,h=>by
  have hx:=h x 77;obtain⟨n1,n2⟩:=nodup_cons.mp nd;have ih:=JZ (L:=L.erase x) n2 λy hy=>(List.mem_erase_of_ne λe=>by subst e;exact n1 hy).mpr (h y (by simp[hy]));have e:=List.length_erase_of_mem hx;have:0<L.length:=List.length_pos_of_mem hx;simp only[hX];omega
variable(n:Nat)(ln cm:Nat->Nat)
structure Hist(G:Nat->Nat->Nat)(t:Nat):Prop where
 g0:∀j,G 0 j=ln j
 st:∀τ,τ<t->(∀j,j<n->cm j<=τ->G τ j=0)/\(∀j,G (τ+1) j=G τ j)∨∃k,k<n/\cm k<=τ/\0<G τ k/\(∀j,j<n->cm j<=τ->0<G τ j->G τ k<G τ j∨G τ k=G τ j/\k<=j)/\∀j,G (τ+1) j=if j=k then G τ j-1 else G τ j
noncomputable def vr(S:List Nat):Nat->Nat
 |0=>sl ln (S.filter λi=>cm i==0)
 |τ+1=>(vr S τ-1)+sl ln (S.filter λi=>cm i==τ+1)
variable{n ln cm}
theorem Hist.full{G:Nat->Nat->Nat}{t:Nat}(H:Hist n ln cm G t):∀τ,τ<=t->∀j,τ<=cm j->G τ j=ln j
 |0,_,j,_=>H.g0 j
 |τ+1,h,j,hj=>by
  have ih:=H.full τ 67 j 67;rcases H.st τ 67 with⟨_,e⟩|⟨k,_,hk,_,_,e⟩
  .rw[e,ih]
  .rw[e,gf (λz=>by subst z;omega),ih]
def step{G:Nat->Nat->Nat}{t τ:Nat}(H:Hist n ln cm G t)(ht:τ<t){Y:List Nat}(nd:Y.Nodup)(hy:∀y∈Y,y<n/\cm y<=τ){V:Nat}(hV:sl (G τ) Y<=V):
 ∃Z:List Nat,Z.Nodup/\(∀y∈Z,y<n/\cm y<=τ)/\Z.length=Y.length/\sl (G (τ+1)) Z<=V-1:=by
 rcases H.st τ ht with⟨z,e⟩|⟨k,kn,hk,k0,kl,e⟩
 .refine⟨Y,nd,hy,rfl,?_⟩;have:sl (G (τ+1)) Y=sl (λ_=>0) Y:=GM λi hi=>by rw[e];exact z i (hy i hi).1 (hy i hi).2
  rw[this];have:∀L:List Nat,sl (λ_=>0) L=0:=λL=>by induction L with
   |nil=>rfl
   |cons x r ih=>simpa [sl]using ih
  rw[this];omega
 .by_cases h0:sl (G τ) Y=0
  .refine⟨Y,nd,hy,rfl,?_⟩;have:sl (G (τ+1)) Y<=sl (G τ) Y:=Lz λi _=>by rw[e];split<;>omega
   omega
  .by_cases ky:k∈Y
   .have:=RJ k0 e nd ky;exact⟨Y,nd,hy,rfl,by omega⟩
   .obtain⟨y,yY,y0⟩:=HK (f:=G τ) (S:=Y) 67;have h1:G τ k<=G τ y:=by have:=kl y (hy y yY).1 (hy y yY).2 y0;omega
    have h2:=GL (G τ) yY;refine⟨k::Y.erase y,nodup_cons.mpr ⟨λh=>ky (List.mem_of_mem_erase h),nd.erase y⟩,λx hx=>?_,?_,?_⟩
    .rcases mem_cons.mp hx with rfl|h
     .exact⟨kn,hk⟩
     .exact hy x (List.mem_of_mem_erase h)
    .have:=List.length_erase_of_mem yY;have:0<Y.length:=List.length_pos_of_mem yY;simp only[hX];omega
    .have h3:sl (G (τ+1)) (Y.erase y)=sl (G τ) (Y.erase y):=GM λi hi=>by rw[e,gf (λz=>by subst z;exact ky (List.mem_of_mem_erase hi))]
     show G (τ+1) k+sl (G (τ+1)) (Y.erase y)<=V-1;rw[h3,e,gc rfl];omega
def Xw(S:List Nat)(τ:Nat):(S.filter λi=>decide (cm i<=τ+1)).length=(S.filter λi=>decide (cm i<=τ)).length+(S.filter λi=>cm i==τ+1).length:=by
 induction S with
 |nil=>rfl
 |cons x r ih=>
  rw[gP,gP,gP];by_cases h1:cm x<=τ
  .have h3:(cm x==τ+1)=false:=by simpa using (by omega:¬ cm x=τ+1)
   rw[gN h1,gN (by omega:cm x<=τ+1),h3];simp only[gw,Bool.false_eq_true,gT,hX];omega
  .by_cases h3:cm x=τ+1
   .rw[gM h1,gN (by omega:cm x<=τ+1),(by simpa using h3:(cm x==τ+1)=true)];simp only[gw,Bool.false_eq_true,gT,hX];omega
   .rw[gM h1,gM (by omega:¬ cm x<=τ+1),(by simpa using h3:(cm x==τ+1)=false)];simp only[Bool.false_eq_true,gT];omega
def fc{p:Nat->Prop}[DecidablePred p]{S:List Nat}{c:Nat}(h:∀i,p i↔cm i=c):(S.filter λi=>decide (p i))=S.filter λi=>cm i==c:=List.filter_congr λi _=>by
 by_cases q:cm i=c
 .rw[gN ((h i).mpr q),q];simp
 .rw[gM λz=>q ((h i).mp z)];simp[q]
theorem main{G:Nat->Nat->Nat}{t:Nat}(H:Hist n ln cm G t){S:List Nat}(nd:S.Nodup)(hS:∀i∈S,i<n):∀τ,τ<=t->∃Y:List Nat,Y.Nodup/\(∀y∈Y,y<n/\cm y<=τ)/\Y.length=(S.filter λi=>decide (cm i<=τ)).length/\sl (G τ) Y<=vr ln cm S τ
 |0,_=>by
  refine⟨S.filter λi=>decide (cm i<=0),nd.filter _,λy hy=>?_,rfl,?_⟩
  .have:=mem_filter.mp hy;exact⟨hS y this.1,by simpa using this.2⟩
  .have e:(S.filter λi=>decide (cm i<=0))=S.filter λi=>cm i==0:=fc λi=>by omega
   rw[e,vr];exact Nat.le_of_eq (GM λi _=>H.g0 i)
 |τ+1,h=>by
  obtain⟨Y,n1,n2,n3,n4⟩:=main H nd hS τ 67;obtain⟨Z,z1,z2,z3,z4⟩:=step H 67 n1 n2 n4;refine⟨Z++S.filter λi=>cm i==τ+1,?_,λy hy=>?_,?_,?_⟩
  .rw[nodup_append];refine⟨z1,nd.filter _,λa ha b hb e=>?_⟩;have h1:=(z2 a ha).2;have h2:cm b=τ+1:=by simpa using (mem_filter.mp hb).2
   subst e;omega
  .rcases mem_append.mp hy with q|q
   .have:=z2 y q;exact⟨this.1,by omega⟩
   .have:=mem_filter.mp q;have h2:cm y=τ+1:=by simpa using this.2
    exact⟨hS y this.1,by omega⟩
  .rw[ie,z3,n3,Xw]
  .rw[MX,vr];have:sl (G (τ+1)) (S.filter λi=>cm i==τ+1)=sl ln (S.filter λi=>cm i==τ+1):=GM λi hi=>by
    have h2:cm i=τ+1:=by simpa using (mem_filter.mp hi).2
    exact H.full (τ+1) h i 67
   omega
def sl_fil(S:List Nat)(τ c:Nat)(hc:c<=τ):sl ln (S.filter λi=>decide (c<=cm i/\cm i<=τ+1))=sl ln (S.filter λi=>decide (c<=cm i/\cm i<=τ))+sl ln (S.filter λi=>cm i==τ+1):=by
 induction S with
 |nil=>rfl
 |cons x r ih=>
  rw[gP,gP,gP];by_cases h3:cm x=τ+1
  .rw[gM (by omega:¬ (c<=cm x/\cm x<=τ)),gN (by omega:c<=cm x/\cm x<=τ+1),(by simpa using h3:(cm x==τ+1)=true)];simp only[gw,Bool.false_eq_true,gT,sl,gm,gL]at ih ⊢;omega
  .have h4:(cm x==τ+1)=false:=by simpa using h3
   by_cases h1:c<=cm x/\cm x<=τ
   .rw[h4,gN h1,gN (by omega:c<=cm x/\cm x<=τ+1)];simp only[gw,Bool.false_eq_true,gT,sl,gm,gL]at ih ⊢;omega
   .rw[h4,gM h1,gM (by omega:¬ (c<=cm x/\cm x<=τ+1))];simp only[Bool.false_eq_true,gT];exact ih
theorem b8(S:List Nat):∀τ,vr ln cm S τ=0∨∃j∈S,cm j<=τ/\vr ln cm S τ+τ<=sl ln (S.filter λi=>decide (cm j<=cm i/\cm i<=τ))+cm j
 |0=>by
  by_cases h:vr ln cm S 0=0
  .exact .inl h
  .obtain⟨i,hi,_⟩:=HK (f:=ln) (S:=S.filter λi=>cm i==0) (by rw[vr]at h;omega);obtain⟨h1,h2⟩:=mem_filter.mp hi;have h2:cm i=0:=by simpa using h2
   refine .inr ⟨i,h1,by omega,?_⟩;have e:(S.filter λx=>decide (cm i<=cm x/\cm x<=0))=S.filter λx=>cm x==0:=fc λx=>by omega
   rw[e,vr];omega
 |τ+1=>by
  by_cases h:vr ln cm S (τ+1)=0
  .exact .inl h
  .refine .inr ?_;rcases b8 S τ with z|⟨j,hj,hc,hb⟩
   .have e:vr ln cm S (τ+1)=sl ln (S.filter λi=>cm i==τ+1):=by rw[vr,z];omega
    obtain⟨i,hi,_⟩:=HK (f:=ln) (S:=S.filter λi=>cm i==τ+1) 67;obtain⟨h1,h2⟩:=mem_filter.mp hi;have h2:cm i=τ+1:=by simpa using h2
    refine⟨i,h1,by omega,?_⟩;have e2:(S.filter λx=>decide (cm i<=cm x/\cm x<=τ+1))=S.filter λx=>cm x==τ+1:=fc λx=>by omega
    rw[e2,e];omega
   .by_cases v0:vr ln cm S τ=0
    .have e:vr ln cm S (τ+1)=sl ln (S.filter λi=>cm i==τ+1):=by rw[vr,v0];omega
     obtain⟨i,hi,_⟩:=HK (f:=ln) (S:=S.filter λi=>cm i==τ+1) 67;obtain⟨h1,h2⟩:=mem_filter.mp hi;have h2:cm i=τ+1:=by simpa using h2
     refine⟨i,h1,by omega,?_⟩;have e2:(S.filter λx=>decide (cm i<=cm x/\cm x<=τ+1))=S.filter λx=>cm x==τ+1:=fc λx=>by omega
     rw[e2,e];omega
    .refine⟨j,hj,by omega,?_⟩;rw[sl_fil S τ (cm j) hc,vr];omega
def Fit(ln cm:Nat->Nat)(S:List Nat)(t:Nat):Prop:=∀j∈S,sl ln (S.filter λi=>decide (cm j<=cm i))+cm j<=t
def Vi{S:List Nat}{t:Nat}(h:Fit ln cm S t):vr ln cm S t=0:=by
 rcases b8 (ln:=ln) (cm:=cm) S t with z|⟨j,hj,_,hb⟩
 .exact z
 .have h1:=h j hj;have:∀L:List Nat,sl ln (L.filter λi=>decide (cm j<=cm i/\cm i<=t))<=sl ln (L.filter λi=>decide (cm j<=cm i)):=λL=>by
   induction L with
   |nil=>exact gg _
   |cons x r ih=>
    simp only[gP];by_cases h2:cm j<=cm x
    .rw[gN h2];by_cases h3:cm x<=t
     .rw[gN ⟨h2,h3⟩];simp only[gw,sl,gm,gL]at ih ⊢;omega
     .rw[gM (λz=>h3 z.2)];simp only[gw,Bool.false_eq_true,gT,sl,gm,gL]at ih ⊢;omega
    .rw[gM h2,gM (λz=>h2 z.1)];simpa using ih
  have:=this S;omega
def P2{G:Nat->Nat->Nat}{t τ:Nat}(H:Hist n ln cm G t)(ht:τ<=t){S:List Nat}(nd:S.Nodup)(hS:∀i∈S,i<n)(l1:∀i∈S,1<=ln i)(F:Fit ln cm S τ):S.length<=((71 n).filter λj=>decide (cm j<=τ/\G τ j=0)).length:=by
 obtain⟨Y,n1,n2,n3,n4⟩:=main H nd hS τ ht;rw[Vi F]at n4;have z:=K4 (f:=G τ) (S:=Y) 67;have e:(S.filter λi=>decide (cm i<=τ))=S:=List.filter_eq_self.mpr λi hi=>by
  have:=F i hi;simp only[iE];omega
 rw[e]at n3;rw[<- n3];exact JZ n1 λy hy=>by simp[(n2 y hy).1,(n2 y hy).2,z y hy]
end S7
namespace L2
open PySem PySem.W PyProof.Rows
def feE{K:Frag}{e:Df}{n:Str}{s:Stmt}(h:Ea.Fe K n s)(hn:e.x=n:=by rfl)(hs:e.st=s:=by rfl):Fe K e:=by subst hn;subst hs;exact h
def flE{K:Frag}{e:Df}{n:Str}{s:Stmt}{p:Addr}(h:Ea.Fl K n s p)(hn:e.x=n:=by rfl)(hs:e.st=s:=by rfl):Fla K e p:=by subst hn;subst hs;exact h
def zsE{K:Frag}(h:Ea.Zs K):Zs K:=h
end L2
namespace T48
open PySem L2
noncomputable abbrev IS:Stmt:=top 5
def Mf:FnScope ["thing"] ["thing"] (AA IS):=Al 92
@[reducible] noncomputable def OA:MS:=(AN (FP (F6 .int 85) (IB (F6 .bool 85))))
noncomputable def D8:FD:=mkF 1 1 OA
noncomputable abbrev EI:Df:=⟨"is_number",IS,["thing"],1,D8⟩
noncomputable abbrev Gw:Stmt:=top 6
def K9:FnScope ["many","thing"] ["many","thing"] (AA Gw):=Al 92
@[reducible] noncomputable def Lj:MS:=(AN (FP (F6 .tuple (A0 1)) (mOp gEq (mCB (f1 true B7) (A2 (A0 1) A5)) 85)))
noncomputable def Bf:FD:=mkF 2 2 Lj
noncomputable abbrev CY:Df:=⟨"is_tuple_of",Gw,["many","thing"],1,Bf⟩
noncomputable abbrev JP:Stmt:=top 8
def Nz:FnScope ["rows","t","told","begin","amount"] ["rows","t"] (AA JP):=Al 92
@[reducible] noncomputable def gB:MS:=(A9 (AI 2 101)
 (A9 (Bb (An 85) (BE 2 (AM (AD 3) (AM (AD 4) BF)))
  (A9 (Ae (AF (mOp gGt (A0 3) (A0 1)))
  (AN (A0 2))
  AU)
 (AI 2 (A0 4))))
 (AN (A0 2))))
noncomputable def c5:FD:=mkF 2 5 gB
noncomputable abbrev Gj:Df:=⟨"steps_at",JP,["rows","t"],1,c5⟩
noncomputable abbrev Ks:Stmt:=top 9
def Po:FnScope ["cost","t","word","above"] ["cost","t"] (AA Ks):=Al 92
@[reducible] noncomputable def gC:MS:=(A9 (AI 2 (mOp gIx 85 101))
 (A9 (Ae (AF (mOp gEq (A0 2) (mC (.str "steps"))))
  (AN (A8 0 c5 (A2 (mOp gIx 85 99) (A2 (A0 1) A5))))
  AU)
 (A9 (Ae (AF (mOp gEq (A0 2) (mC (.str "ends"))))
  (AN (mOp Cz (mOp gIx 85 99) (A0 1)))
  AU)
 (A9 (AI 3 (mOp CL (A0 1) (mOp gIx 85 99)))
 (A9 (Ae (AF (mOp gEq (A0 2) (mC (.str "late"))))
  (AN (A0 3))
  AU)
 (A9 (Ae (AF (mOp gLe (A0 3) 101))
  (AN 101)
  AU)
 (A9 (Ae (AF (mOp gEq (A0 2) (mC (.str "tardy"))))
  (AN (mOp Cz (mOp gIx 85 (mC (.int 2))) (A0 3)))
  AU)
 (AN (mOp gIx 85 (mC (.int 2)))))))))))
noncomputable def HR:FD:=mkF 2 4 gC
noncomputable abbrev Ho:Df:=⟨"cost_at",Ks,["cost","t"],2,HR⟩
noncomputable abbrev IQ:Stmt:=top 11
def Md:FnScope ["works","some"] ["works","some"] (AA IQ):=Al 92
@[reducible] noncomputable def O8:MS:=(AN (Ay Dj (Ad 1 [0] (C6 (A0 1)) (AD 0) Bq (mOp gIx (mOp gIx (A0 1) 85) 101))))
noncomputable def EL:FD:=mkF 2 2 O8
noncomputable abbrev Fk:Df:=⟨"length_of",IQ,["works","some"],1,EL⟩
noncomputable abbrev Gq:Stmt:=top 12
def K5:FnScope ["works","coming"] ["works"] (AA Gq):=Al 92
@[reducible] noncomputable def Lf:MS:=(A9 (AI 1 (mOp gIx (mOp gIx 85 101) 99))
 (A9 (Ae (Bx (Ay Ga (Ad 1 [1] (An 85) (AD 0) Bq (mOp gEq (mOp gIx 85 99) (A0 1)))))
  (AN (A0 1))
  AU)
 (AN (mC .non))))
noncomputable def DG:FD:=mkF 1 2 Lf
noncomputable abbrev Ec:Df:=⟨"same_coming",Gq,["works"],1,DG⟩
noncomputable abbrev HP:Stmt:=top 13
def Lb:FnScope ["works","coming"] ["works"] (AA HP):=Al 92
@[reducible] noncomputable def NC:MS:=(A9 (AI 1 (A8 0 DG (A2 85 A5)))
 (A9 (Ae (AF (Cc false (A0 1)))
  Bh
  AU)
 (AN (A0 1))))
noncomputable def Dw:FD:=mkF 1 2 NC
noncomputable abbrev F9:Df:=⟨"one_coming",HP,["works"],2,Dw⟩
noncomputable abbrev Dd:Stmt:=top 14
def Fu:FnScope ["works","word"] ["works","word"] (AA Dd):=Al 92
@[reducible] noncomputable def GS:MS:=(Ae (Bx (Ay GZ (Ad 1 [1] (An 85) (AD 0) Bq (mOp gNe (mOp gIx (mOp gIx 85 (mC (.int 2))) 101) (A0 1)))))
 Bh
 AU)
noncomputable def Ao:FD:=mkF 2 2 GS
noncomputable abbrev Bk:Df:=⟨"refuse_other_costs",Dd,["works","word"],1,Ao⟩
noncomputable abbrev IM:Stmt:=top 15
def Ma:FnScope ["work"] ["work"] (AA IM):=Al 92
@[reducible] noncomputable def O5:MS:=(AN (mOp gIx (mOp gIx 85 (mC (.int 2))) (Eb 99)))
noncomputable def Bl:FD:=mkF 1 1 O5
noncomputable abbrev EH:Df:=⟨"weight_of",IM,["work"],1,Bl⟩
noncomputable abbrev HN:Stmt:=top 16
def La:FnScope ["works","weight"] ["works"] (AA HN):=Al 92
@[reducible] noncomputable def NB:MS:=(A9 (AI 1 (A8 0 Bl (A2 (mOp gIx 85 101) A5)))
 (A9 (Ae (Bx (Ay GZ (Ad 1 [1] (An 85) (AD 0) Bq (mOp gNe (A8 0 Bl (A2 85 A5)) (A0 1)))))
  Bh
  AU)
 (AN (A0 1))))
noncomputable def Bv:FD:=mkF 1 2 NB
noncomputable abbrev Dp:Df:=⟨"one_weight",HN,["works"],2,Bv⟩
noncomputable abbrev IU:Stmt:=top 18
def Mi:FnScope ["pieces","work","begin","end"] ["pieces","work","begin","end"] (AA IU):=Al 92
@[reducible] noncomputable def OC:MS:=(Ae (E6 (Bx 85) (E6 (AF (mOp gEq (mOp gIx (mOp gIx 85 (Eb 99)) 101) (A0 1))) (AF (mOp gEq (mOp gIx (mOp gIx 85 (Eb 99)) (mC (.int 2))) (A0 2)))))
 (Dg 85 (Eb 99) (BW (A2 (A0 1) (A2 (mOp gIx (mOp gIx 85 (Eb 99)) 99) (A2 (A0 3) A5)))))
 (B5 (mMt BI 85 (A2 (BW (A2 (A0 1) (A2 (A0 2) (A2 (A0 3) A5)))) A5))))
noncomputable def D9:FD:=mkF 4 4 OC
noncomputable abbrev Fo:Df:=⟨"add_piece",IU,["pieces","work","begin","end"],1,D9⟩
noncomputable abbrev Gs:Stmt:=top 19
def K6:FnScope ["works","begins","rank","left","pieces","t","undone","work","stop"] ["works","begins","rank"] (AA Gs):=Al 92
@[reducible] noncomputable def Lg:MS:=(A9 (AI 3 (Au (Ad 1 [] (An 85) (AD 0) Bq (mOp gIx 85 101))))
 (A9 (AI 4 (Au (C5 A5)))
 (A9 (AI 5 101)
 (A9 (F4 (Bx (mCB (f1 false Jg) (A2 (A0 3) A5)))
  (A9 (AI 6 (Au (Ad 1 [3] (DL (A2 (mCB (f1 true B7) (A2 85 A5)) A5)) (AD 0) (AF (mOp gGt (mOp gIx (A0 1) 85) 101)) 85)))
 (A9 (AI 5 (mCB FU (A2 (A0 5) (A2 (Ay Fg (Ad 1 [1] (C6 (A0 6)) (AD 0) Bq (mOp gIx (A0 1) 85))) A5))))
 (A9 (AI 7 (F7 (Au (Ad 1 [1,5] (C6 (A0 6)) (AD 0) (AF (mOp gLe (mOp gIx (A0 1) 85) (A0 2))) 85)) [2,3] (BW (A2 (Di (A0 1) (A2 85 (A2 (mOp gIx (A0 2) 85) A5))) (A2 85 A5)))))
 (A9 (AI 8 (Ay Fg (Iq (Au (C5 (A2 (mOp Aw (A0 5) (mOp gIx (A0 3) (A0 7))) A5))) (Au (Ad 1 [1,5] (C6 (A0 6)) (AD 0) (AF (mOp gGt (mOp gIx (A0 1) 85) (A0 2))) (mOp gIx (A0 1) 85))))))
 (A9 (B5 (D2 D9 (A2 (A0 4) (A2 (A0 7) (A2 (A0 5) (A2 (A0 8) A5))))))
 (A9 (GU (A0 3) (A0 7) (mOp CL (A0 8) (A0 5)) (λi j=>i-j))
 (AI 5 (A0 8)))))))))
 (AN (mCB (f1 true BB) (A2 (A0 4) A5)))))))
noncomputable def DH:FD:=mkF 3 9 Lg
noncomputable abbrev DD:Df:=⟨"ranked_plan",Gs,["works","begins","rank"],4,DH⟩
noncomputable abbrev Gv:Stmt:=top 21
def K8:FnScope ["works","coming"] ["works"] (AA Gv):=Al 92
@[reducible] noncomputable def Li:MS:=(A9 (AI 1 (A8 0 Dw (A2 85 A5)))
 (A9 (B5 (A8 0 Ao (A2 85 (A2 (mC (.str "miss")) A5))))
 (AN (A0 1))))
noncomputable def Bz:FD:=mkF 1 2 Li
noncomputable abbrev CW:Df:=⟨"late_coming",Gv,["works"],3,Bz⟩
noncomputable abbrev Kt:Stmt:=top 22
def Pp:FnScope ["works"] ["works"] (AA Kt):=Al 92
@[reducible] noncomputable def SH:MS:=(AN (Au (Ov (A2 (mCB (f1 true B7) (A2 85 A5)) A5) [0] (BW (A2 (mOp gIx (mOp gIx (mOp gIx (A0 1) 85) (mC (.int 2))) 99) (A2 85 A5))))))
noncomputable def DX:FD:=mkF 1 1 SH
noncomputable abbrev DU:Df:=⟨"by_dues",Kt,["works"],4,DX⟩
noncomputable abbrev Gx:Stmt:=top 23
def KA:FnScope ["works"] ["works"] (AA Gx):=Al 92
@[reducible] noncomputable def Lk:MS:=(AN (Ay Dj (Ad 1 [] (An 85) (AD 0) Bq (A8 0 Bl (A2 85 A5)))))
noncomputable def CZ:FD:=mkF 1 1 Lk
noncomputable abbrev DE:Df:=⟨"full_weight",Gx,["works"],2,CZ⟩
noncomputable abbrev Kp:Stmt:=top 24
def Pk:FnScope ["one","other"] ["one","other"] (AA Kp):=Al 92
@[reducible] noncomputable def SF:MS:=(AN (KL (Cc false (A0 1)) (FP (Cc true 85) (mOp gLe 85 (A0 1)))))
noncomputable def Cp:FD:=mkF 2 2 SF
noncomputable abbrev EV:Df:=⟨"no_more",Kp,["one","other"],1,Cp⟩
noncomputable abbrev HM:Stmt:=top 25
def LZ:FnScope ["row","work","w","length","coming","word","due","weight","end"] ["row","work","w"] (AA HM):=Al 92
@[reducible] noncomputable def NA:MS:=(A9 (Ir (A0 1) (BE 3 (AM (AD 3) (AM (AD 4) (AM (BE 3 (AM (AD 5) (AM (AD 6) (AM (AD 7) BF)))) BF)))))
 (A9 (Ae (mOr (AF (mOp gLt (A0 2) (A0 7))) (AF (Cc false (mOp gIx 85 (mOp CL (A0 2) (A0 7))))))
  (AN (mC .non))
  AU)
 (A9 (AI 8 (mOp Aw (mOp gIx 85 (mOp CL (A0 2) (A0 7))) (A0 3)))
 (AN (mIf (AF (mOp gLe (A0 8) (A0 6))) (A0 8) (mC .non))))))
noncomputable def Co:FD:=mkF 3 9 NA
noncomputable abbrev Do:Df:=⟨"put_behind",HM,["row","work","w"],1,Co⟩
noncomputable abbrev Eg:Stmt:=top 26
def HL:FnScope ["table"] ["table"] (AA Eg):=Al 92
@[reducible] noncomputable def IL:MS:=(AN (Ay Iv (Ad 2 [] (DC (An (mOp gIx 85 (Eb 99)))) (BE 2 (AM (AD 0) (AM (AD 1) BF))) (AF (Cc true (A0 1))) 85)))
noncomputable def CA:FD:=mkF 1 1 IL
noncomputable abbrev D0:Df:=⟨"greatest_weight",Eg,["table"],1,CA⟩
noncomputable abbrev FK:Stmt:=top 27
def Ic:FnScope ["works","thing","path","many","k","row","w","entry"] ["works","thing","path"] (AA FK):=Al 92
@[reducible] noncomputable def Jb:MS:=(A9 (Ae (E5 (Bx (A8 0 Bf (A2 (mOp Aw (mCB (f1 true B7) (A2 85 A5)) 99) (A2 (A0 1) A5)))))
 Bh
 AU)
 (A9 (AI 3 (mOp Aw (A8 0 CZ (A2 85 A5)) 99))
 (Bb (DC (An (A0 1))) (BE 2 (AM (AD 4) (AM (AD 5) BF)))
  (A9 (Ae (E5 (Bx (A8 0 Bf (A2 (A0 3) (A2 (A0 5) A5)))))
  Bh
  AU)
 (Bb (DC (An (A0 5))) (BE 2 (AM (AD 6) (AM (AD 7) BF)))
  (Ae (E6 (AF (Cc true (A0 7))) (E5 (Bx (A8 0 D8 (A2 (A0 7) A5)))))
  Bh
  AU))))))
noncomputable def Cd:FD:=mkF 3 8 Jb
noncomputable abbrev Dq:Df:=⟨"look_at_shape",FK,["works","thing","path"],3,Cd⟩
noncomputable abbrev Gu:Stmt:=top 28
def K7:FnScope ["work","above","row","path","w","entry"] ["work","above","row","path"] (AA Gu):=Al 92
@[reducible] noncomputable def Lh:MS:=(Bb (DC (An (A0 2))) (BE 2 (AM (AD 4) (AM (AD 5) BF)))
 (A9 (Ae (E5 (Bx (A8 0 Cp (A2 (A0 5) (A2 (mOp gIx (A0 1) (A0 4)) A5)))))
 Bh
 AU)
 (Ae (E5 (Bx (A8 0 Cp (A2 (A0 5) (A2 (A8 0 Co (A2 (A0 1) (A2 85 (A2 (A0 4) A5)))) A5)))))
  Bh
  AU)))
noncomputable def DI:FD:=mkF 4 6 Lh
noncomputable abbrev Ed:Df:=⟨"look_at_row",Gu,["work","above","row","path"],2,DI⟩
noncomputable abbrev Ez:Stmt:=top 29
def IK:FnScope ["works","table","path","k","j"] ["works","table","path"] (AA Ez):=Al 92
@[reducible] noncomputable def Ip:MS:=(A9 (Ae (E5 (Bx (A8 0 Cp (A2 (mOp gIx (mOp gIx (A0 1) 101) 101) (A2 (A8 0 Bz (A2 85 A5)) A5)))))
 Bh
 AU)
 (Bb (G4 (C6 (A8 0 DX (A2 85 A5)))) (BE 2 (AM (AD 3) (AM (AD 4) BF)))
  (B5 (A8 0 DI (A2 (mOp gIx 85 (A0 4)) (A2 (mOp gIx (A0 1) (mOp CL (A0 3) 99)) (A2 (mOp gIx (A0 1) (A0 3)) (A2 (mOp Qe (A0 2) (BW (A2 (A0 3) A5))) A5))))))))
noncomputable def CO:FD:=mkF 3 5 Ip
noncomputable abbrev DN:Df:=⟨"look_at_places",Ez,["works","table","path"],5,CO⟩
noncomputable abbrev JQ:Stmt:=top 31
def O0:FnScope ["above","work","row","w","kept","more"] ["above","work"] (AA JQ):=Al 92
@[reducible] noncomputable def QK:MS:=(A9 (AI 2 (Au (C5 A5)))
 (A9 (Bb (DC (An 85)) (BE 2 (AM (AD 3) (AM (AD 4) BF)))
  (A9 (AI 5 (A8 0 Co (A2 85 (A2 (A0 1) (A2 (A0 3) A5)))))
 (B5 (mMt BI (A0 2) (A2 (mIf (Bx (A8 0 Cp (A2 (A0 4) (A2 (A0 5) A5)))) (A0 4) (A0 5)) A5)))))
 (AN (mCB (f1 true BB) (A2 (A0 2) A5)))))
noncomputable def Em:FD:=mkF 2 6 QK
noncomputable abbrev Gk:Df:=⟨"next_row",JQ,["above","work"],2,Em⟩
noncomputable abbrev JO:Stmt:=top 32
def Ny:FnScope ["works","coming","rows","j"] ["works"] (AA JO):=Al 92
@[reducible] noncomputable def QJ:MS:=(A9 (AI 1 (A8 0 Bz (A2 85 A5)))
 (A9 (AI 2 (Au (C5 (A2 (mOp Aw (BW (A2 (A0 1) A5)) (IA (BW (A2 (mC .non) A5)) (A8 0 CZ (A2 85 A5)))) A5))))
 (A9 (Bb (C6 (A8 0 DX (A2 85 A5))) (AD 3)
  (B5 (mMt BI (A0 2) (A2 (A8 0 Em (A2 (mOp gIx (A0 2) (Eb 99)) (A2 (mOp gIx 85 (A0 3)) A5))) A5))))
 (AN (mCB (f1 true BB) (A2 (A0 2) A5))))))
noncomputable def Dv:FD:=mkF 1 4 QJ
noncomputable abbrev Gi:Df:=⟨"table_of",JO,["works"],5,Dv⟩
noncomputable abbrev Ko:Stmt:=top 34
def Pj:FnScope ["works","coming","kept","j"] ["works"] (AA Ko):=Al 92
@[reducible] noncomputable def SE:MS:=(A9 (AI 1 (A8 0 Bz (A2 85 A5)))
 (A9 (B5 (A8 0 Bv (A2 85 A5)))
 (A9 (AI 2 (Au (C5 A5)))
 (A9 (Bb (C6 (A8 0 DX (A2 85 A5))) (AD 3)
  (A9 (B5 (mMt BI (A0 2) (A2 (A0 3) A5)))
 (Ae (AF (mOp gGt (mOp Aw (A0 1) (A8 1 EL (A2 85 (A2 (A0 2) A5)))) (mOp gIx (mOp gIx (mOp gIx 85 (A0 3)) (mC (.int 2))) 99)))
  (B5 (mMt G6 (A0 2) (A2 (F8 (λn m=>decide (n>m)) (A0 2) [0] (mOp gIx (mOp gIx (A0 1) 85) 101)) A5)))
  AU)))
 (AN (BW (A2 (Ay BB (BX (C6 (A0 2)))) (A2 (Ay BB (Ad 1 [2] (DL (A2 (mCB (f1 true B7) (A2 85 A5)) A5)) (AD 0) (AF (mOp (gIn true) 85 (A0 1))) 85)) A5))))))))
noncomputable def FZ:FD:=mkF 1 4 SE
noncomputable abbrev FV:Df:=⟨"put_out",Ko,["works"],5,FZ⟩
noncomputable abbrev Kq:Stmt:=top 36
def Pm:FnScope ["works","plan","ends","work","begin","end"] ["works","plan"] (AA Kq):=Al 92
@[reducible] noncomputable def gA:MS:=(A9 (AI 2 (Au (Ad 1 [] (An 85) (AD 0) Bq 101)))
 (A9 (Bb (An (A0 1)) (BE 3 (AM (AD 3) (AM (AD 4) (AM (AD 5) BF))))
  (Dg (A0 2) (A0 3) (A0 5)))
 (AN (mCB (f1 true BB) (A2 (A0 2) A5)))))
noncomputable def F_ends_of:FD:=mkF 2 6 gA
noncomputable abbrev Hk:Df:=⟨"ends_of",Kq,["works","plan"],1,F_ends_of⟩
noncomputable abbrev Mk:Stmt:=top 38
def RQ:FnScope ["works","t"] ["works","t"] (AA Mk):=Al 92
@[reducible] noncomputable def UY:MS:=(AN (Ay BB (Ad 3 [1] (An 85) (BE 3 (AM (AD 0) (AM (AD 1) (AM (AD 2) BF)))) Bq (BW (A2 85 (A2 101 (A2 (BW (A2 (mC (.str "miss")) (A2 (mOp CL (A0 3) (A0 1)) (A2 99 A5)))) A5)))))))
noncomputable def DO:FD:=mkF 2 2 UY
noncomputable abbrev E8:Df:=⟨"turned",Mk,["works","t"],1,DO⟩
noncomputable abbrev Kr:Stmt:=top 39
def Pn:FnScope ["works","t"] ["works","t"] (AA Kr):=Al 92
@[reducible] noncomputable def SG:MS:=(AN (mCB (f1 true B7) (A2 (mOp gIx (A8 0 FZ (A2 (A8 0 DO (A2 85 (A2 (A0 1) A5))) A5)) 101) A5)))
noncomputable def DW:FD:=mkF 2 2 SG
noncomputable abbrev Hm:Df:=⟨"done_by",Kr,["works","t"],6,DW⟩
noncomputable abbrev HU:Stmt:=top 40
def Ld:FnScope ["works"] ["works"] (AA HU):=Al 92
@[reducible] noncomputable def NE:MS:=(A9 (B5 (A8 0 Ao (A2 85 (A2 (mC (.str "ends")) A5))))
 (AN (A8 0 Bv (A2 85 A5))))
noncomputable def Cr:FD:=mkF 1 1 NE
noncomputable abbrev Ds:Df:=⟨"end_weight",HU,["works"],3,Cr⟩
noncomputable abbrev IR:Stmt:=top 41
def Me:FnScope ["works"] ["works"] (AA IR):=Al 92
@[reducible] noncomputable def O9:MS:=(A9 (B5 (A8 0 Cr (A2 85 A5)))
 (AN (D2 DH (A2 85 (A2 (Au (Ad 1 [] (An 85) (AD 0) Bq (mOp gIx 85 99))) (A2 Je A5))))))
noncomputable def C9:FD:=mkF 1 1 O9
noncomputable abbrev D4:Df:=⟨"left_plan",IR,["works"],5,C9⟩
noncomputable abbrev HQ:Stmt:=top 42
def Lc:FnScope ["works","ends"] ["works"] (AA HQ):=Al 92
@[reducible] noncomputable def ND:MS:=(A9 (AI 1 (Au (BX (An (A8 0 F_ends_of (A2 85 (A2 (A8 0 C9 (A2 85 A5)) A5)))))))
 (AN (Ay BB (Ad 1 [0] (C6 (A0 1)) (AD 0) Bq (BW (A2 85 (A2 (A8 0 Dv (A2 (A8 0 DO (A2 (A0 1) (A2 (mOp CL 85 99) A5))) A5)) A5)))))))
noncomputable def Cq:FD:=mkF 1 2 ND
noncomputable abbrev FA:Df:=⟨"ends_paper",HQ,["works"],6,Cq⟩
noncomputable abbrev JR:Stmt:=top 44
def O1:FnScope ["works","ends"] ["works","ends"] (AA JR):=Al 92
@[reducible] noncomputable def fz:MS:=(AN (Ay BB (Ad 2 [] (GT (An 85) (An (A0 1))) (BE 2 (AM (AD 0) (AM (AD 1) BF))) Bq (A8 0 HR (A2 (mOp gIx 85 (mC (.int 2))) (A2 (A0 1) A5))))))
noncomputable def c7:FD:=mkF 2 2 fz
noncomputable abbrev Gm:Df:=⟨"costs_of",JR,["works","ends"],3,c7⟩
noncomputable abbrev OX:Stmt:=top 45
def TR:FnScope ["works","ends","question","costs"] ["works","ends","question"] (AA OX):=Al 92
@[reducible] noncomputable def gD:MS:=(A9 (AI 3 (A8 0 c7 (A2 85 (A2 (A0 1) A5))))
 (A9 (Ae (AF (mOp gEq (A0 2) (mC (.str "greatest"))))
  (AN (mCB (f1 true Iv) (A2 (A0 3) A5)))
  AU)
 (AN (mCB (f1 true Dj) (A2 (A0 3) A5)))))
noncomputable def F_worth:FD:=mkF 3 4 gD
noncomputable abbrev KZ:Df:=⟨"worth",OX,["works","ends","question"],4,F_worth⟩
noncomputable abbrev DP:Stmt:=top 47
def Fa:FnScope ["works","k","entry"] ["works","k","entry"] (AA DP):=Al 92
@[reducible] noncomputable def Fz:MS:=(A9 (Ae (mOr (E5 (Bx (A8 0 Bf (A2 (mC (.int 2)) (A2 (A0 2) A5))))) (E5 (Bx (A8 0 D8 (A2 (mOp gIx (A0 2) 101) A5)))))
 Bh
 AU)
 (B5 (A8 0 Cd (A2 (A8 0 DO (A2 85 (A2 (mOp CL (mOp gIx (A0 2) 101) 99) A5))) (A2 (mOp gIx (A0 2) 99) (A2 (BW (A2 (A0 1) (A2 99 A5))) A5))))))
noncomputable def BY:FD:=mkF 3 3 Fz
noncomputable abbrev CD:Df:=⟨"look_at_entry_shape",DP,["works","k","entry"],4,BY⟩
noncomputable abbrev FL:Stmt:=top 48
def Ie:FnScope ["works","k","entry","moment","table"] ["works","k","entry"] (AA FL):=Al 92
@[reducible] noncomputable def Jc:MS:=(A9 (Ir (A0 2) (BE 2 (AM (AD 3) (AM (AD 4) BF))))
 (A9 (B5 (A8 0 CO (A2 (A8 0 DO (A2 85 (A2 (mOp CL (A0 3) 99) A5))) (A2 (A0 4) (A2 (BW (A2 (A0 1) (A2 99 A5))) A5)))))
 (Ae (AF (mOp gGt (A8 0 CA (A2 (A0 4) A5)) (A0 1)))
  Bh
  AU)))
noncomputable def Ce:FD:=mkF 3 5 Jc
noncomputable abbrev Dr:Df:=⟨"look_at_entry",FL,["works","k","entry"],6,Ce⟩
noncomputable abbrev IP:Stmt:=top 49
def Mc:FnScope ["works","thing","weight","k","entry"] ["works","thing"] (AA IP):=Al 92
@[reducible] noncomputable def O7:MS:=(A9 (AI 2 (A8 0 Cr (A2 85 A5)))
 (A9 (Ae (E5 (Bx (A8 0 Bf (A2 (mCB (f1 true B7) (A2 85 A5)) (A2 (A0 1) A5)))))
  Bh
  AU)
 (A9 (Bb (DC (An (A0 1))) (BE 2 (AM (AD 3) (AM (AD 4) BF)))
  (B5 (A8 0 BY (A2 85 (A2 (A0 3) (A2 (A0 4) A5))))))
 (A9 (Bb (DC (An (A0 1))) (BE 2 (AM (AD 3) (AM (AD 4) BF)))
  (B5 (A8 0 Ce (A2 85 (A2 (A0 3) (A2 (A0 4) A5))))))
 (AN (mOp Cz (A0 2) (Ay Dj (Ad 2 [] (An (A0 1)) (BE 2 (AM (AD 0) (AM (AD 1) BF))) Bq 85))))))))
noncomputable def EK:FD:=mkF 2 5 O7
noncomputable abbrev Fj:Df:=⟨"lets_ends",IP,["works","thing"],7,EK⟩
noncomputable abbrev Ml:Stmt:=top 51
def RU:FnScope ["_law_script"] ["_law_script"] (AA Ml):=Al 92
@[reducible] noncomputable def UZ:MS:=(AN (M5 [((mC (.str "cells")),(Au (Hg (KJ 85 G0 (Jd (mC (.int 63))))))),((mC (.str "at")),101),((mC (.str "rest")),101),((mC (.str "count")),101)]))
noncomputable def Gp:FD:=mkF 1 1 UZ
noncomputable abbrev Iy:Df:=⟨"_law_source",Ml,["_law_script"],1,Gp⟩
noncomputable abbrev RW:Stmt:=top 52
def Vq:FnScope ["_law_source_here","_law_many","_law_found","_law_cells","_law_cell","_law_mixed"] ["_law_source_here","_law_many"] (AA RW):=Al 92
@[reducible] noncomputable def aK:MS:=(A9 (FO 85 (mC (.str "count")) (mOp Aw (mOp CM 85 (mC (.str "count"))) 99))
 (A9 (Ae (AF (mOp gGt (mOp CM 85 (mC (.str "rest"))) 101))
  (A9 (AI 2 (mOp Ge (mOp CM 85 (mC (.str "rest"))) (A0 1)))
 (A9 (FO 85 (mC (.str "rest")) (mOp Jk (mOp CM 85 (mC (.str "rest"))) (A0 1)))
 (AN (A0 2))))
  AU)
 (A9 (AI 3 (mOp CM 85 (mC (.str "cells"))))
 (A9 (AI 4 (mIf (AF (Dh true (A0 3) (C5 A5))) (mOp gIx (A0 3) (mOp Ge (mOp CM 85 (mC (.str "at"))) (mCB (f1 true B7) (A2 (A0 3) A5)))) (mC (.int 11))))
 (A9 (FO 85 (mC (.str "at")) (mOp Aw (mOp CM 85 (mC (.str "at"))) 99))
 (A9 (Ae (E6 (AF (mOp gGe (A0 4) (mOp Uk (mC (.int 10)) (mC (.int 18))))) (AF (mOp gLe (mOp CM 85 (mC (.str "at"))) (mCB (f1 true B7) (A2 (A0 3) A5)))))
  (A9 (FO 85 (mC (.str "rest")) (mOp Jk (A0 4) (A0 1)))
 (AN (mOp Ge (A0 4) (A0 1))))
  AU)
 (A9 (AI 5 (mOp Aw (mOp Ge (A0 4) (mC (.int 1073741827))) (mOp Cz (mC (.int 611953)) (mOp CM 85 (mC (.str "count"))))))
 (A9 (AI 5 (mOp Ge (mOp Aw (mOp Aw (mOp Cz (A0 5) (A0 5)) (mOp Cz (mC (.int 3)) (mOp CM 85 (mC (.str "count"))))) (mC (.int 7))) (mC (.int 2147483543))))
 (A9 (AI 5 (mOp Ge (mOp Aw (mOp Aw (mOp Cz (A0 5) (A0 5)) (mOp Cz (mC (.int 69069)) (mOp CM 85 (mC (.str "count"))))) 99) (mC (.int 2147483497))))
 (AN (mOp Ge (mOp Jk (A0 5) (mC (.int 256))) (A0 1))))))))))))
noncomputable def Ap:FD:=mkF 2 6 aK
noncomputable abbrev G8:Df:=⟨"_law_pick",RW,["_law_source_here","_law_many"],1,Ap⟩
noncomputable abbrev IT:Stmt:=top 53
def Mg:FnScope ["_law_source_here","_law_most","_law_many","_law_longest","_law_latest","_law_weight","_law_works","_law_k","_law_way","_law_work"] ["_law_source_here","_law_most"] (AA IT):=Al 92
@[reducible] noncomputable def OB:MS:=(A9 (AI 2 (mOp Aw 99 (A8 2 Ap (A2 85 (A2 (A0 1) A5)))))
 (A9 (AI 3 (GV (C5 (A2 (mC (.int 20)) (A2 (mC (.int 6)) (A2 (mC (.int 2)) A5)))) (A8 2 Ap (A2 85 (A2 (mC (.int 3)) A5)))))
 (A9 (AI 4 (GV (C5 (A2 (mC (.int 61)) (A2 (mC (.int 12)) (A2 99 A5)))) (A8 2 Ap (A2 85 (A2 (mC (.int 3)) A5)))))
 (A9 (AI 5 (A8 2 Ap (A2 85 (A2 (mC (.int 10)) A5))))
 (A9 (AI 6 (Au (C5 A5)))
 (A9 (Bb (DL (A2 (A0 2) A5)) (AD 7)
  (A9 (AI 8 (A8 2 Ap (A2 85 (A2 (mC (.int 5)) A5))))
 (A9 (AI 9 (BW (A2 (mOp Aw 99 (A8 2 Ap (A2 85 (A2 (A0 3) A5)))) (A2 (A8 2 Ap (A2 85 (A2 (A0 4) A5))) (A2 (BW (A2 (mC (.str "ends")) (A2 (A0 5) A5))) A5)))))
 (A9 (Ae (E6 (AF (mOp gEq (A0 8) 101)) (AF (mOp gGt (A0 7) 101)))
  (AI 9 (mOp gIx (A0 6) (A8 2 Ap (A2 85 (A2 (A0 7) A5)))))
  AU)
 (B5 (mMt BI (A0 6) (A2 (A0 9) A5)))))))
 (AN (mCB (f1 true BB) (A2 (A0 6) A5)))))))))
noncomputable def EM:FD:=mkF 2 10 OB
noncomputable abbrev Fm:Df:=⟨"_law_end_works",IT,["_law_source_here","_law_most"],2,EM⟩
noncomputable abbrev Mj:Stmt:=top 54
def RP:FnScope ["_law_source_here","_law_many","_law_pool","_law_drawn","_law_k","_law_share","_law_found","_law_i","_law_j"] ["_law_source_here","_law_many"] (AA Mj):=Al 92
@[reducible] noncomputable def UX:MS:=(A9 (AI 2 (Au (Hf (A2 (A0 1) A5))))
 (A9 (AI 3 (Au (C5 A5)))
 (A9 (Bb (DL (A2 (A0 1) A5)) (AD 4)
  (B5 (mMt BI (A0 3) (A2 (mMt G7 (A0 2) (A2 (A8 2 Ap (A2 85 (A2 (mCB (f1 true B7) (A2 (A0 2) A5)) A5))) A5)) A5))))
 (A9 (AI 5 (A8 2 Ap (A2 85 (A2 (mC (.int 4)) A5))))
 (A9 (AI 6 (Au (C5 A5)))
 (A9 (Bb (DL (A2 (A0 1) A5)) (AD 7)
  (Bb (IC (A2 (mOp Aw (A0 7) 99) (A2 (A0 1) A5))) (AD 8)
  (Ae (AF (mOp gLt (A8 2 Ap (A2 85 (A2 (mC (.int 4)) A5))) (A0 5)))
  (B5 (mMt BI (A0 6) (A2 (BW (A2 (mOp gIx (A0 3) (A0 7)) (A2 (mOp gIx (A0 3) (A0 8)) A5))) A5)))
  AU)))
 (AN (Ay BB (KJ (Au (F5 (C6 (A0 6)))) G0 (Jd (mC (.int 16))))))))))))
noncomputable def Go:FD:=mkF 2 9 UX
noncomputable abbrev Ix:Df:=⟨"_law_wishes",Mj,["_law_source_here","_law_many"],2,Go⟩
noncomputable abbrev RV:Stmt:=top 55
def Vp:FnScope ["_law_source_here","_law_works","_law_wishes_here","_law_many","_law_left","_law_pieces","_law_now","_law_turn","_law_open_ones","_law_k","_law_part"] ["_law_source_here","_law_works","_law_wishes_here"] (AA RV):=Al 92
@[reducible] noncomputable def aJ:MS:=(A9 (AI 3 (mCB (f1 true B7) (A2 (A0 1) A5)))
 (A9 (AI 4 (Au (Ad 1 [] (An (A0 1)) (AD 0) Bq (mOp gIx 85 101))))
 (A9 (AI 5 (Au (C5 A5)))
 (A9 (AI 6 101)
 (A9 (Bb (DL (A2 (mOp Cz (mC (.int 3)) (A0 3)) A5)) (AD 7)
  (A9 (AI 8 (Au (Ad 1 [4,2] (DL (A2 (A0 3) A5)) (AD 0) (E6 (AF (mOp gGt (mOp gIx (A0 1) 85) 101)) (Bx (Ay Ga (Ad 2 [0,1] (An (A0 2)) (BE 2 (AM (AD 0) (AM (AD 1) BF))) (AF (mOp gEq (A0 1) (A0 2))) (mOp gEq (mOp gIx (A0 3) 85) 101))))) 85)))
 (Ae (AF (Dh true (A0 8) (C5 A5)))
  (A9 (AI 9 (mOp gIx (A0 8) (A8 2 Ap (A2 85 (A2 (mCB (f1 true B7) (A2 (A0 8) A5)) A5)))))
 (A9 (AI 6 (mOp Aw (mCB FU (A2 (A0 6) (A2 (mOp gIx (mOp gIx (A0 1) (A0 9)) 99) A5))) (GV (C5 (A2 101 (A2 101 (A2 101 (A2 99 (A2 (mC (.int 4)) A5)))))) (A8 2 Ap (A2 85 (A2 (mC (.int 5)) A5))))))
 (A9 (AI 10 (mOp gIx (A0 4) (A0 9)))
 (A9 (Ae (E6 (AF (mOp gLt (A0 7) (mOp Cz (mC (.int 2)) (A0 3)))) (AF (mOp gEq (A8 2 Ap (A2 85 (A2 (mC (.int 2)) A5))) 99)))
  (AI 10 (mOp Aw 99 (A8 2 Ap (A2 85 (A2 (mOp gIx (A0 4) (A0 9)) A5)))))
  AU)
 (A9 (B5 (mMt BI (A0 5) (A2 (BW (A2 (A0 9) (A2 (A0 6) (A2 (mOp Aw (A0 6) (A0 10)) A5)))) A5)))
 (A9 (Dg (A0 4) (A0 9) (mOp CL (mOp gIx (A0 4) (A0 9)) (A0 10)))
 (AI 6 (mOp Aw (A0 6) (A0 10)))))))))
  AU)))
 (AN (mCB (f1 true BB) (A2 (A0 5) A5))))))))
noncomputable def Jx:FD:=mkF 3 11 aJ
noncomputable abbrev Na:Df:=⟨"_law_plan",RV,["_law_source_here","_law_works","_law_wishes_here"],2,Jx⟩
noncomputable abbrev IN:Stmt:=top 56
def Mb:FnScope ["_law_works","_law_plan_here","_law_ends","_law_k","_law_begin","_law_end"] ["_law_works","_law_plan_here"] (AA IN):=Al 92
@[reducible] noncomputable def O6:MS:=(A9 (AI 2 (Au (KK (C5 (A2 101 A5)) (mCB (f1 true B7) (A2 85 A5)))))
 (A9 (Bb (An (A0 1)) (BE 3 (AM (AD 3) (AM (AD 4) (AM (AD 5) BF))))
  (Dg (A0 2) (A0 3) (A0 5)))
 (AN (mCB (f1 true BB) (A2 (A0 2) A5)))))
noncomputable def D7:FD:=mkF 2 6 O6
noncomputable abbrev Fi:Df:=⟨"_law_plan_ends",IN,["_law_works","_law_plan_here"],1,D7⟩
noncomputable abbrev OZ:Stmt:=top 57
def TV:FnScope ["_law_ends","_law_t"] ["_law_ends","_law_t"] (AA OZ):=Al 92
@[reducible] noncomputable def Xi:MS:=(AN (Ay B7 (Ad 1 [1] (An 85) (AD 0) (AF (mOp gLe 85 (A0 1))) 85)))
noncomputable def Et:FD:=mkF 2 2 Xi
noncomputable abbrev Kb:Df:=⟨"_law_ended",OZ,["_law_ends","_law_t"],1,Et⟩
noncomputable abbrev OY:Stmt:=top 58
def TU:FnScope ["_law_works","_law_found"] ["_law_works"] (AA OY):=Al 92
@[reducible] noncomputable def Xh:MS:=(A9 (AI 1 (mC .non))
 (A9 (M4 (AI 1 (A8 0 EK (A2 85 (A2 (A8 0 Cq (A2 85 A5)) A5)))))
 (AN (A0 1))))
noncomputable def IJ:FD:=mkF 1 2 Xh
noncomputable abbrev Ka:Df:=⟨"_law_shown",OY,["_law_works"],8,IJ⟩
noncomputable abbrev V4:Stmt:=top 59
def YT:FnScope ["_law_script","_law_source_here","_law_most","_law_works","_law_first","_law_cost","_law_turn","_law_wishes_here","_law_ends","_law_one","_law_other"] ["_law_script"] (AA V4):=Al 92
@[reducible] noncomputable def cF:MS:=(A9 (AI 1 (D2 Gp (A2 85 A5)))
 (A9 (AI 2 (GV (C5 (A2 (mC (.int 3)) (A2 (mC (.int 5)) (A2 (mC (.int 8)) A5)))) (A8 2 Ap (A2 (A0 1) (A2 (mC (.int 3)) A5)))))
 (A9 (AI 3 (A8 2 EM (A2 (A0 1) (A2 (A0 2) A5))))
 (A9 (AI 4 (A8 0 D7 (A2 (A0 3) (A2 (A8 0 C9 (A2 (A0 3) A5)) A5))))
 (A9 (AI 5 (mOp Cz (mOp gIx (mOp gIx (mOp gIx (A0 3) 101) (mC (.int 2))) 99) (mCB (f1 true Dj) (A2 (A0 4) A5))))
 (A9 (Ae (mOr (AF (mOp gNe (A8 0 F_worth (A2 (A0 3) (A2 (A0 4) (A2 (mC (.str "sum")) A5)))) (A0 5))) (AF (mOp gNe (A8 0 IJ (A2 (A0 3) A5)) (A0 5))))
  (AN (mC (.bl false)))
  AU)
 (A9 (Bb (DL (A2 (mC (.int 3)) A5)) (AD 6)
  (A9 (AI 7 (A8 2 Go (A2 (A0 1) (A2 (mCB (f1 true B7) (A2 (A0 3) A5)) A5))))
 (A9 (AI 8 (A8 0 D7 (A2 (A0 3) (A2 (A8 2 Jx (A2 (A0 1) (A2 (A0 3) (A2 (A0 7) A5)))) A5))))
 (A9 (Ae (AF (mOp gLt (A8 0 F_worth (A2 (A0 3) (A2 (A0 8) (A2 (mC (.str "sum")) A5)))) (A0 5)))
  (AN (mC (.bl false)))
  AU)
 (Bb (GT (Fc (BX (An (A0 4)))) (Fc (BX (An (A0 8))))) (BE 2 (AM (AD 9) (AM (AD 10) BF)))
  (A9 (Ae (AF (mOp gGt (A0 9) (A0 10)))
  (AN (mC (.bl false)))
  AU)
 (A9 (Ae (mOr (AF (mOp gNe (A8 0 DW (A2 (A0 3) (A2 (A0 9) A5))) (A8 0 Et (A2 (A0 4) (A2 (A0 9) A5))))) (AF (mOp gNe (A8 0 DW (A2 (A0 3) (A2 (A0 10) A5))) (A8 0 Et (A2 (A0 4) (A2 (A0 10) A5))))))
  (AN (mC (.bl false)))
  AU)
 (Ae (AF (mOp gLt (A8 0 DW (A2 (A0 3) (A2 (A0 10) A5))) (A8 0 Et (A2 (A0 8) (A2 (A0 10) A5)))))
  (AN (mC (.bl false)))
  AU))))))))
 (AN (mC (.bl true))))))))))
noncomputable def gE:FD:=mkF 1 11 cF
noncomputable abbrev Qg:Df:=⟨"law",V4,["_law_script"],9,gE⟩
set_option maxHeartbeats 0 in
def oks{E:EnK}(B:BltA E.mg):(Dn E EI->Kn E EI)/\
 (Dn E CY->Kn E CY)/\
 (Dn E Gj->Kn E Gj)/\
 (Dn E Ho->Kn E Gj->Kn E Ho)/\
 (Dn E Fk->Kn E Fk)/\
 (Dn E Ec->Kn E Ec)/\
 (Dn E F9->Kn E Ec->Kn E F9)/\
 (Dn E Bk->Kn E Bk)/\
 (Dn E EH->Kn E EH)/\
 (Dn E Dp->Kn E EH->Kn E Dp)/\
 (Dn E Fo->Kn E Fo)/\
 (Dl E DD ⟨76,62,76,93⟩->Kn E Fo->Kn E DD)/\
 (Dn E CW->Kn E F9->Kn E Bk->Kn E CW)/\
 (Dl E DU ⟨88,41,88,70⟩->Kn E DU)/\
 (Dn E DE->Kn E EH->Kn E DE)/\
 (Dn E EV->Kn E EV)/\
 (Dn E Do->Kn E Do)/\
 (Dn E D0->Kn E D0)/\
 (Dn E Dq->Kn E EI->Kn E CY->Kn E DE->Kn E Dq)/\
 (Dn E Ed->Kn E EV->Kn E Do->Kn E Ed)/\
 (Dn E DN->Kn E CW->Kn E DU->Kn E EV->Kn E Ed->Kn E DN)/\
 (Dn E Gk->Kn E EV->Kn E Do->Kn E Gk)/\
 (Dn E Gi->Kn E CW->Kn E DU->Kn E DE->Kn E Gk->Kn E Gi)/\
 (Dl E FV ⟨143,38,143,63⟩->Kn E Fk->Kn E Dp->Kn E CW->Kn E DU->Kn E FV)/\
 (Dn E Hk->Kn E Hk)/\
 (Dn E E8->Kn E E8)/\
 (Dn E Hm->Kn E FV->Kn E E8->Kn E Hm)/\
 (Dn E Ds->Kn E Bk->Kn E Dp->Kn E Ds)/\
 (Dl E D4 ⟨161,59,161,82⟩->Kn E DD->Kn E Ds->Kn E D4)/\
 (Dn E FA->Kn E Gi->Kn E Hk->Kn E E8->Kn E D4->Kn E FA)/\
 (Dn E Gm->Kn E Ho->Kn E Gm)/\
 (Dn E KZ->Kn E Gm->Kn E KZ)/\
 (Dn E CD->Kn E EI->Kn E CY->Kn E Dq->Kn E E8->Kn E CD)/\
 (Dn E Dr->Kn E D0->Kn E DN->Kn E E8->Kn E Dr)/\
 (Dn E Fj->Kn E CY->Kn E Ds->Kn E CD->Kn E Dr->Kn E Fj)/\
 (Dn E Iy->Kn E Iy)/\
 (Dn E G8->Kn E G8)/\
 (Dn E Fm->Kn E G8->Kn E Fm)/\
 (Dn E Ix->Kn E G8->Kn E Ix)/\
 (Dn E Na->Kn E G8->Kn E Na)/\
 (Dn E Fi->Kn E Fi)/\
 (Dn E Kb->Kn E Kb)/\
 (Dn E Ka->Kn E FA->Kn E Fj->Kn E Ka)/\
 (Dn E Qg->Kn E Hm->Kn E D4->Kn E KZ->Kn E Iy->Kn E G8->Kn E Fm->Kn E Ix->Kn E Na->Kn E Fi->Kn E Kb->Kn E Ka->Kn E Qg):=by
 refine⟨λD=>okK D Mf rfl rfl λ_ _ _ _ _ _ _ hr=>?_,
  λD=>okK D K9 rfl rfl λ_ _ _ _ _ _ _ hr=>?_,
  λD=>okK D Nz rfl rfl λ_ _ _ _ _ _ _ hr=>?_,
  λD _=>okK D Po rfl rfl λ_ _ _ _ _ _ _ hr=>?_,
  λD=>okK D Md rfl rfl λ_ _ _ _ _ _ _ hr=>?_,
  λD=>okK D K5 rfl rfl λ_ _ _ _ _ _ _ hr=>?_,
  λD _=>okK D Lb rfl rfl λ_ _ _ _ _ _ _ hr=>?_,
  λD=>okK D Fu rfl rfl λ_ _ _ _ _ _ _ hr=>?_,
  λD=>okK D Ma rfl rfl λ_ _ _ _ _ _ _ hr=>?_,
  λD _=>okK D La rfl rfl λ_ _ _ _ _ _ _ hr=>?_,
  λD=>okK D Mi rfl rfl λ_ _ _ _ _ _ _ hr=>?_,
  λD _=>okL D K6 rfl rfl λ_ _ _ _ LC _ _ _ _ _ _ hcd hr=>?_,
  λD _ _=>okK D K8 rfl rfl λ_ _ _ _ _ _ _ hr=>?_,
  λD=>okL D Pp rfl rfl λ_ _ _ _ LC _ _ _ _ _ _ hcd hr=>?_,
  λD _=>okK D KA rfl rfl λ_ _ _ _ _ _ _ hr=>?_,
  λD=>okK D Pk rfl rfl λ_ _ _ _ _ _ _ hr=>?_,
  λD=>okK D LZ rfl rfl λ_ _ _ _ _ _ _ hr=>?_,
  λD=>okK D HL rfl rfl λ_ _ _ _ _ _ _ hr=>?_,
  λD _ _ _=>okK D Ic rfl rfl λ_ _ _ _ _ _ _ hr=>?_,
  λD _ _=>okK D K7 rfl rfl λ_ _ _ _ _ _ _ hr=>?_,
  λD _ _ _ _=>okK D IK rfl rfl λ_ _ _ _ _ _ _ hr=>?_,
  λD _ _=>okK D O0 rfl rfl λ_ _ _ _ _ _ _ hr=>?_,
  λD _ _ _ _=>okK D Ny rfl rfl λ_ _ _ _ _ _ _ hr=>?_,
  λD _ _ _ _=>okL D Pj rfl rfl λ_ _ _ _ LC _ _ _ _ _ _ hcd hr=>?_,
  λD=>okK D Pm rfl rfl λ_ _ _ _ _ _ _ hr=>?_,
  λD=>okK D RQ rfl rfl λ_ _ _ _ _ _ _ hr=>?_,
  λD _ _=>okK D Pn rfl rfl λ_ _ _ _ _ _ _ hr=>?_,
  λD _ _=>okK D Ld rfl rfl λ_ _ _ _ _ _ _ hr=>?_,
  λD _ _=>okL D Me rfl rfl λ_ _ _ _ LC _ _ _ _ _ _ hcd hr=>?_,
  λD _ _ _ _=>okK D Lc rfl rfl λ_ _ _ _ _ _ _ hr=>?_,
  λD _=>okK D O1 rfl rfl λ_ _ _ _ _ _ _ hr=>?_,
  λD _=>okK D TR rfl rfl λ_ _ _ _ _ _ _ hr=>?_,
  λD _ _ _ _=>okK D Fa rfl rfl λ_ _ _ _ _ _ _ hr=>?_,
  λD _ _ _=>okK D Ie rfl rfl λ_ _ _ _ _ _ _ hr=>?_,
  λD _ _ _ _=>okK D Mc rfl rfl λ_ _ _ _ _ _ _ hr=>?_,
  λD=>okK D RU rfl rfl λ_ _ _ _ _ _ _ hr=>?_,
  λD=>okK D Vq rfl rfl λ_ _ _ _ _ _ _ hr=>?_,
  λD _=>okK D Mg rfl rfl λ_ _ _ _ _ _ _ hr=>?_,
  λD _=>okK D RP rfl rfl λ_ _ _ _ _ _ _ hr=>?_,
  λD _=>okK D Vp rfl rfl λ_ _ _ _ _ _ _ hr=>?_,
  λD=>okK D Mb rfl rfl λ_ _ _ _ _ _ _ hr=>?_,
  λD=>okK D TV rfl rfl λ_ _ _ _ _ _ _ hr=>?_,
  λD _ _=>okK D TU rfl rfl λ_ _ _ _ _ _ _ hr=>?_,
  λD _ _ _ _ _ _ _ _ _ _ _=>okK D YT rfl rfl λ_ _ _ _ _ _ _ hr=>?_⟩
 all_goals (refine' ⟨_,_⟩;rotate_left;repeat' (first
  |((with_reducible show QE _ _ _ _ _);first|exact qv _ _|(first|exact ZY _|exact ZQ _|exact bh _|exact ZT _)|((with_reducible show QE _ _ _ _ (mOp _ _ _));first|((with_reducible show QE _ _ _ _ (mOp gIx _ _));refine' bc _ _ _)|((with_reducible show QE _ _ _ _ (mOp CM _ _));refine' Wu _ (VR hr) _ _)|((with_reducible show QE _ _ _ _ (mOp Aw _ _));refine' GP _ ((S6).or (N2 _)) (E4 Rn Of) _ _)|((with_reducible show QE _ _ _ _ (mOp CL _ _));refine' GP _ a8 Yv _ _)|((with_reducible show QE _ _ _ _ (mOp Cz _ _));refine' GP _ aD Yx _ _)|((with_reducible show QE _ _ _ _ (mOp Ge _ _));refine' GP _ aE Yy _ _)|((with_reducible show QE _ _ _ _ (mOp Jk _ _));refine' GP _ XU WK _ _)|((with_reducible show QE _ _ _ _ (mOp Uk _ _));refine' GP _ aA Yw _ _)|((with_reducible show QE _ _ _ _ (mOp Qe _ _));refine' GP _ (((S6).or (N2 _)).or (XW _)) (E4 (E4 Rn Of) WM) _ _)|((with_reducible show QE _ _ _ _ (mOp gLe _ _));refine' Mx _ VN V9 _ _)|((with_reducible show QE _ _ _ _ (mOp gEq _ _));refine' Mx _ ((VO).or (Op _ hr.units)) (E4 Rl Rm) _ _)|((with_reducible show QE _ _ _ _ (mOp gNe _ _));refine' Mx _ ((VM).or (KH _ hr.units)) (E4 Rj Rk) _ _))|refine' ZP _ _|((with_reducible show QE _ _ _ _ (Au _));refine' ZU _ _)|refine' ZV _ _|((with_reducible show QE _ _ _ _ (A8 _ _ _));first|refine' qcW _ (by assumption) hr _|refine' qcW _ (by assumption) (hr.in1.deeper _) _)|((with_reducible show QE _ _ _ _ (D2 _ _));refine' qcG (by assumption) hr _)|((with_reducible show QE _ _ _ _ (F8 _ _ _ _));refine' bZ LC hcd hr B.max _ (λ_ _ _ _=>_))|((with_reducible show QE _ _ _ _ Je);exact ZI LC hcd)|((with_reducible show QE _ _ _ _ (Di _ _));refine' U9 _ (hr.in1.deeper _) _ _)|((with_reducible show QE _ _ _ _ (F7 _ _ _));refine' ZH LC hcd hr B.min _ (λ_ _ _ _=>_))|((with_reducible show QE _ _ _ _ (Ay _ _));first|((with_reducible show QE _ _ _ _ (Ay Ga _));refine' I0 _ (LR _ rfl) Rf B.all L2.bt_all _)|((with_reducible show QE _ _ _ _ (Ay GZ _));refine' I0 _ (LQ _ rfl) Re B.any L2.bt_any _)|((with_reducible show QE _ _ _ _ (Ay Dj _));refine' I0 _ ((LL _ rfl).or (Ju _ rfl)) RZ B.sum L2.bt_sum _)|((with_reducible show QE _ _ _ _ (Ay B7 _));refine' I0 _ (LP _) Rc B.len L2.bt_len _)|((with_reducible show QE _ _ _ _ (Ay Fg _));refine' I0 _ (LN _ rfl) Ra B.min L2.bt_min _)|((with_reducible show QE _ _ _ _ (Ay Iv _));refine' I0 _ ((LO _ rfl).or (Jv _ rfl)) Rb B.max L2.bt_max _)|((with_reducible show QE _ _ _ _ (Ay BB _));refine' bf _ (IZ _) Mp B.tuple L2.bt_tuple _))|((with_reducible show QE _ _ _ _ (mCB _ _));first|((with_reducible show QE _ _ _ _ (mCB (f1 _ Ga) _));refine' FM _ (LR _ rfl) (HV Rf) B.all L2.bt_all _)|((with_reducible show QE _ _ _ _ (mCB (f1 _ GZ) _));refine' FM _ (LQ _ rfl) (HV Re) B.any L2.bt_any _)|((with_reducible show QE _ _ _ _ (mCB (f1 _ Dj) _));refine' FM _ ((LL _ rfl).or (Ju _ rfl)) (HV RZ) B.sum L2.bt_sum _)|((with_reducible show QE _ _ _ _ (mCB (f1 _ B7) _));refine' FM _ (LP _) (HV Rc) B.len L2.bt_len _)|((with_reducible show QE _ _ _ _ (mCB (f1 _ Fg) _));refine' FM _ (LN _ rfl) (HV Ra) B.min L2.bt_min _)|((with_reducible show QE _ _ _ _ (mCB (f1 _ Iv) _));refine' FM _ ((LO _ rfl).or (Jv _ rfl)) (HV Rb) B.max L2.bt_max _)|((with_reducible show QE _ _ _ _ (mCB (f1 _ Jg) _));refine' FM _ (Qo _ rfl) (HV W4) B.any L2.bt_any _)|((with_reducible show QE _ _ _ _ (mCB FU _));refine' FM _ (Si rfl) W5 B.max L2.bt_max _)|((with_reducible show QE _ _ _ _ (mCB (f1 _ BB) _));refine' bg _ (IZ _) (HV Mp) B.tuple L2.bt_tuple _))|((with_reducible show QE _ _ _ _ (GV _ _));refine' ZW _ _ _)|((with_reducible show QE _ _ _ _ (IA _ _));refine' Wq _ _ _)|refine' U7 _ _ _ _|((with_reducible show QE _ _ _ _ (mMt _ _ _));first|((with_reducible show QE _ _ _ _ (mMt BI _ _));refine' Q6 _ PySem.F.slot_list_append PySem.F.type_list_append Kw RY _ _)|((with_reducible show QE _ _ _ _ (mMt G7 _ _));refine' Q6 _ PySem.F.slot_list_pop PySem.F.type_list_pop UT Tf _ _)|((with_reducible show QE _ _ _ _ (mMt G6 _ _));refine' Q6 _ PySem.F.slot_list_remove PySem.F.type_list_remove SB RX _ _))|refine' Wt _ _|((with_reducible show QE _ _ _ _ (F6 _ _));first|((with_reducible show QE _ _ _ _ (F6 .int _));refine' Mw _ .int B.isinstance B.int _)|((with_reducible show QE _ _ _ _ (F6 .bool _));refine' Mw _ .bool B.isinstance B.bool _)|((with_reducible show QE _ _ _ _ (F6 .tuple _));refine' Mw _ .tuple B.isinstance B.tuple _))|((with_reducible show QE _ _ _ _ (Cc _ _));first|refine' ZX _ _|refine' Wr _ _)|((with_reducible show QE _ _ _ _ (FP _ _));refine' ZZ _ _ _)|((with_reducible show QE _ _ _ _ (KL _ _));refine' ba _ _ _)|((with_reducible show QE _ _ _ _ (IB _));refine' ZS _ _)|refine' ZR _ _)
  |refine' Wv _ _ _|exact Za _
  |((with_reducible show QT _ _ _ _ _);first|((with_reducible show QT _ _ _ _ (AF (mOp _ _ _)));first|((with_reducible show QT _ _ _ _ (AF (mOp gLt _ _)));refine' F1 _ c8 bR _ _)|((with_reducible show QT _ _ _ _ (AF (mOp gLe _ _)));refine' F1 _ VN V9 _ _)|((with_reducible show QT _ _ _ _ (AF (mOp gGt _ _)));refine' F1 _ c9 bV _ _)|((with_reducible show QT _ _ _ _ (AF (mOp gGe _ _)));refine' F1 _ cA bW _ _)|((with_reducible show QT _ _ _ _ (AF (mOp gEq _ _)));refine' F1 _ ((VO).or (Op _ hr.units)) (E4 Rl Rm) _ _)|((with_reducible show QT _ _ _ _ (AF (mOp gNe _ _)));refine' F1 _ ((VM).or (KH _ hr.units)) (E4 Rj Rk) _ _)|((with_reducible show QT _ _ _ _ (AF (mOp (gIn true) _ _)));refine' F1 _ (S5 _) bU _ _))|refine' Z5 _ _|((with_reducible show QT _ _ _ _ (Bx _));refine' Tu _ _)|((with_reducible show QT _ _ _ _ (E6 _ _));refine' QW.toT _)|((with_reducible show QT _ _ _ _ (mOr _ _));refine' QW.toT _)|((with_reducible show QT _ _ _ _ (AF (Cc _ _)));first|refine' Z6 _ _|refine' WR _ _)|((with_reducible show QT _ _ _ _ (AF (Dh _ _ _)));refine' WU _ (aB _ hr.units) _ _))
  |refine' WQ _ _|refine' Z3 _ _|refine' Z4 _ _ _|refine' bX _ _ _
  |((with_reducible show QN _ _ _ _ _);first|((with_reducible show QN _ _ _ _ (ER _ _ _));refine' Z7 LC hcd hr B.sorted _ (λ_ _ _ _=>_))|refine' ZF _ _|((with_reducible show QN _ _ _ _ (Ad _ _ _ _ _ _));refine' qnA _ (λ_ _ _=>_) (λ_ _ _=>_) (λ_ _ _=>_))|((with_reducible show QN _ _ _ _ (KK _ _));refine' ZE _ _ _)|((with_reducible show QN _ _ _ _ (Iq _ _));refine' ZG _ _ _)|((with_reducible show QN _ _ _ _ (KJ _ _ _));refine' ZD _ _ _ _)|((with_reducible show QN _ _ _ _ (F5 _));refine' Q4 _ B.sorted _)|((with_reducible show QN _ _ _ _ (BX _));first|(refine' Q3 _ B.sorted _;rotate_left;refine' Mv _ _)|refine' Q5 _ B.sorted _)|((with_reducible show QN _ _ _ _ (Hf _));refine' U2 _ B.list B.range _)|((with_reducible show QN _ _ _ _ (Hg _));refine' U3 _ B.list _))
  |((with_reducible show QI _ _ _ _ _ _);first|((with_reducible show QI _ _ _ _ _ (DL _));refine' Wl _ B.range _)|((with_reducible show QI _ _ _ _ _ (IC _));refine' Wj _ B.range _)|((with_reducible show QI _ _ _ _ _ (An _));refine' ZK _ _)|((with_reducible show QI _ _ _ _ _ (C6 _));refine' Wn _ _)|((with_reducible show QI _ _ _ _ _ (Fc _));refine' ZL _ _)|((with_reducible show QI _ _ _ _ _ (DC _));refine' U4 _ B.enumerate (Mv _ _))|((with_reducible show QI _ _ _ _ _ (G4 _));refine' U5 _ B.enumerate _)|((with_reducible show QI _ _ _ _ _ (GT _ _));refine' ZJ _ B.zip _ _))
  |refine' Tw _ B.range _
  |((with_reducible show QR _ _ _ _ _ _);first|((with_reducible show QR _ _ _ _ _ (Fc _));refine' ZC _ _)|((with_reducible show QR _ _ _ _ _ (C6 _));refine' We _ _)|((with_reducible show QR _ _ _ _ _ (An _));refine' Mv _ _))
  |exact qgA
  |refine' ZM _ rfl _
  |exact Wo _|refine' U6 _ _ _
  |exact ZO _|refine' ZN _ _
  |exact Wh _|refine' Wg _ _
  |exact Wf _|refine' U0 _ _ _ _
  |((with_reducible show QSs _ _ _ _ _);first|((with_reducible show QSs _ _ _ _ (A9 _ _));refine' Tv _ _ _)|(first|exact WW _|refine' WV _ _))
  |((with_reducible show QS _ _ _ _ _);first|((with_reducible show QS _ _ _ _ (AI _ (Au (Ad _ _ _ _ _ _))));first|refine' dE _ (λ_ _ _=>_) (λ_ _ _=>_) (λ_ _ _=>_)|refine' qsA _)|((with_reducible show QS _ _ _ _ (AI _ _));refine' qsA _)|refine' bY _ _ _ _|refine' Z9 _ _|refine' ZA _ rfl _ _ _|refine' Wc _ _|((with_reducible show QS _ _ _ _ (FO _ _ _));refine' Wd _ (VR hr) _ _ _)|((with_reducible show QS _ _ _ _ (Dg _ _ _));refine' Wa _ _ _ _)|refine' ZB _ _ _|refine' Tx _ _ _|exact WZ _|((with_reducible show QS _ _ _ _ Bh);exact Tz _)|((with_reducible show QS _ _ _ _ (GU _ _ _ _));refine' Wb _ _ _ _ aX)|((with_reducible show QS _ _ _ _ (M4 _));refine' WX _))))
open Bd
structure Sp where
 cells:List Int
 a:Int
 rs:Int
 cn:Int
noncomputable def Bn(t:Sp):List (Key×D):=[(.inr "cells",.mu 0),(.inr "at",.im (.int t.a)),(.inr "rest",.im (.int t.rs)),(.inr "count",.im (.int t.cn))]
noncomputable def sp(t:Sp):Hd:=[.lst (t.cells.map λi=>.im (.int i)),.dic (Bn t)]
@[simp] theorem sp0(t:Sp):(sp t)[0]?=some (.lst (t.cells.map λi=>.im (.int i))):=rfl
@[simp] theorem sp1(t:Sp):(sp t)[1]?=some (.dic (Bn t)):=rfl
@[simp] theorem fQ(t t':Sp)(h:t'.cells=t.cells):(sp t).set 1 (.dic (Bn t'))=sp t':=by unfold sp;rw[h];rfl
def CH:(("cells":Str)="at")=False:=by simp[gZ];decide
def Bu:(("cells":Str)="rest")=False:=by simp[gZ];decide
def Be:(("cells":Str)="count")=False:=by simp[gZ];decide
def CJ:(("at":Str)="cells")=False:=by simp[gZ];decide
def Cl:(("at":Str)="rest")=False:=by simp[gZ];decide
def CI:(("at":Str)="count")=False:=by simp[gZ];decide
def Bs:(("rest":Str)="cells")=False:=by simp[gZ];decide
def Ck:(("rest":Str)="at")=False:=by simp[gZ];decide
def Br:(("rest":Str)="count")=False:=by simp[gZ];decide
def Bc:(("count":Str)="cells")=False:=by simp[gZ];decide
def CG:(("count":Str)="at")=False:=by simp[gZ];decide
def Bt:(("count":Str)="rest")=False:=by simp[gZ];decide
section
variable(t:Sp)(v:Int)
@[simp] theorem d7:Cg (Bn t) (.inr "cells")=some (.mu 0):=by simp[Cg,Bn]
@[simp] theorem fR:Cg (Bn t) (.inr "at")=some (.im (.int t.a)):=by simp[Cg,Bn,CH,Bu,Be,CJ,Cl,CI,Bs,Ck,Br,Bc,CG,Bt]
@[simp] theorem dq:Cg (Bn t) (.inr "rest")=some (.im (.int t.rs)):=by simp[Cg,Bn,CH,Bu,Be,CJ,Cl,CI,Bs,Ck,Br,Bc,CG,Bt]
@[simp] theorem d6:Cg (Bn t) (.inr "count")=some (.im (.int t.cn)):=by simp[Cg,Bn,CH,Bu,Be,CJ,Cl,CI,Bs,Ck,Br,Bc,CG,Bt]
@[simp] theorem eU:De (Bn t) (.inr "at") (.im (.int v))=Bn { t with a:=v }:=by simp[De,Bn,CH,Bu,Be,CJ,Cl,CI,Bs,Ck,Br,Bc,CG,Bt]
@[simp] theorem d4:De (Bn t) (.inr "rest") (.im (.int v))=Bn { t with rs:=v }:=by simp[De,Bn,CH,Bu,Be,CJ,Cl,CI,Bs,Ck,Br,Bc,CG,Bt]
@[simp] theorem cq:De (Bn t) (.inr "count") (.im (.int v))=Bn { t with cn:=v }:=by simp[De,Bn,CH,Bu,Be,CJ,Cl,CI,Bs,Ck,Br,Bc,CG,Bt]
@[simp] theorem eV:(Bn t).length=4:=rfl
end
def o1:DB 1073741827:=by unfold DB;decide
def o2:DB 2147483543:=by unfold DB;decide
def o3:DB 2147483497:=by unfold DB;decide
def o4:M8 256:=by unfold M8;decide
def o5(j:Int):EC 611953 j:=CB 98 98
def o6(j:Int):EC 3 j:=CB 98 98
def o7(j:Int):EC 69069 j:=CB 98 98
noncomputable def mx1(c n:Int):Int:=c%1073741827+611953*n
noncomputable def mx2(x n:Int):Int:=(x*x+3*n+7)%2147483543
noncomputable def mx3(x n:Int):Int:=(x*x+69069*n+1)%2147483497
def XA(τ:Sp)(many:Int)(h0:0<many)(h1:many<1073741824)(n0:0<=τ.cn)(n1:τ.cn<=100000):∃r τ',Ap [.mu 1,.im (.int many)] (sp τ)=some (.im (.int r),sp τ')/\0<=r/\r<many/\τ'.cn=τ.cn+1:=by
 have hm:DB many:=h0;have hv:M8 many:=⟨h0,h1⟩
 by_cases hl:τ.rs>0
 .refine⟨τ.rs%many,{ τ with cn:=τ.cn+1,rs:=τ.rs/many },?_,(Ej many h0).1,(Ej many h0).2,rfl⟩;simp[Ap,mkF,hl,hm,hv]
 .have key:∀cell:Int,(if τ.cells=[]then cell=11 else atI (τ.cells.map λi=>D.im (.int i)) (τ.a%(τ.cells.length:Int))=some (.im (.int cell))) ->
   ∃r τ',Ap [.mu 1,.im (.int many)] (sp τ)=some (.im (.int r),sp τ')/\0<=r/\r<many/\τ'.cn=τ.cn+1:=by
   intro cell hcell;have b1:=Ej (x:=cell) 1073741827 98;have b2:=Ej (x:=mx1 cell (τ.cn+1)*mx1 cell (τ.cn+1)+3*(τ.cn+1)+7) 2147483543 98;have c1:∀j,EC (mx1 cell (τ.cn+1)) j:=λj=>CB (by unfold mx1;omega) (by unfold mx1;omega);have c2:∀j,EC (mx2 (mx1 cell (τ.cn+1)) (τ.cn+1)) j:=λj=>CB (by unfold mx2;omega) (by unfold mx2;omega);by_cases hb:cell>=1000000000000000000/\τ.a+1<=(τ.cells.length:Int)
   .refine⟨cell%many,{ τ with cn:=τ.cn+1,a:=τ.a+1,rs:=cell/many },?_,(Ej many h0).1,(Ej many h0).2,rfl⟩;by_cases hc:τ.cells=[]
    .rw[gc hc]at hcell;subst hcell;omega
    .rw[gf hc]at hcell;have hl0:0<τ.cells.length:=DR hc;have hl0':DB (τ.cells.length:Int):=by unfold DB;omega
     simp[Ap,mkF,hl,hm,hv,o1,o2,o3,o4,o5,o6,o7,po1,Dh,pyD,Cv,DJ,I.pys,GA,hc,hcell,hl0',hb.1,hb.2,B7]
   .refine⟨mx3 (mx2 (mx1 cell (τ.cn+1)) (τ.cn+1)) (τ.cn+1)/256%many,{ τ with cn:=τ.cn+1,a:=τ.a+1 },?_,(Ej many h0).1,(Ej many h0).2,rfl⟩;have hb':1000000000000000000<=cell->¬ τ.a+1<=(τ.cells.length:Int):=λa b=>hb ⟨a,b⟩;unfold mx1 at c1 c2;unfold mx2 at c2;unfold mx3 mx2 mx1;by_cases hc:τ.cells=[]
    .rw[gc hc]at hcell;subst hcell;simp only[Int.reduceMod]at c1 c2;simp[Ap,mkF,hl,hm,hv,o1,o2,o3,o4,o5,o6,o7,po1,Dh,pyD,Cv,DJ,I.pys,GA,b7,hc,B7,c1,c2]
    .rw[gf hc]at hcell;have hl0:0<τ.cells.length:=DR hc;have hl0':DB (τ.cells.length:Int):=by unfold DB;omega
     by_cases hd:1000000000000000000<=cell
     .simp[Ap,mkF,hl,hm,hv,o1,o2,o3,o4,o5,o6,o7,po1,Dh,pyD,Cv,DJ,I.pys,GA,hc,hcell,hl0',B7,c1,c2,hd,hb' hd]
     .simp[Ap,mkF,hl,hm,hv,o1,o2,o3,o4,o5,o6,o7,po1,Dh,pyD,Cv,DJ,I.pys,GA,hc,hcell,hl0',B7,c1,c2,hd]
  by_cases hc:τ.cells=[]
  .exact key 11 (by rw[gc hc])
  .obtain⟨c,e⟩:=cb hc τ.a;exact key c (by rw[gf hc];exact e)
def T(k:Nat)(a b:MO):Prop:=∃τ:Sp,0<=τ.cn/\τ.cn+k<=100000/\sp τ=[a,b]
def tap:Tap T Ap where
 cl:=by
  rintro k a b ⟨τ,_,_,e⟩;cases e;simp[clO,DV,Bn,Fq,clD]
 le:=by
  rintro j k a b ⟨τ,h1,h2,e⟩ h;exact⟨τ,h1,by omega,e⟩
 pick:=by
  rintro k a b many ⟨τ,n0,n1,e⟩ h0 h1;obtain⟨r,τ',eq,p1,p2,c⟩:=XA τ many h0 h1 n0 (by push_cast at n1;omega);refine⟨r,.lst (τ'.cells.map λi=>.im (.int i)),.dic (Bn τ'),p1,p2,?_,τ',by omega,by push_cast at n1;omega,rfl⟩;rw[<- e];exact eq
def TL(ns:List Int):WF Gp [.ro ns] [] λd x=>d=.mu 1/\∃a b,T 90000 a b/\x=[a,b]:=by
 obtain⟨cs,e⟩:=Us ns none (some 63);exact⟨.mu 1,_,by simp[Gp,mkF,e,Fy,De,CH,Bu,Be,CJ,Cl,CI,Bs,Ck,Br,Bc,CG,Bt];rfl,rfl,_,_,⟨⟨cs,0,0,0⟩,(show(0:Int)<=0 by decide),(show(0:Int)+(90000:Nat)<=100000 by decide),rfl⟩,rfl⟩
structure EW(w:Int)(ws:List Wk):Prop where
 n1:1<=68
 n8:68<=8
 w0:0<=w/\w<=9
 ea:∀z∈ws,(1<=z.len/\z.len<=20)/\(0<=z.com/\z.com<=60)/\z.cost=.ends w
noncomputable abbrev wkD(z:Wk):D:=.im (BC z)
def Eu(ws:List Wk):(ws.map BC).map D.im=ws.map wkD:=by simp
def at3{r:Int}(h0:0<=r)(h1:r<3)(x y z:D):∃d,(d=x∨d=y∨d=z)/\atI [x,y,z] r=some d:=by
 rcases(show r=0∨r=1∨r=2 by omega)with rfl|rfl|rfl
 .exact⟨x,.inl rfl,Du _ _⟩
 .exact⟨y,.inr (.inl rfl),E9 _ _ _⟩
 .exact⟨z,.inr (.inr rfl),Ef _ _ _ _⟩
noncomputable abbrev Le(mo m lg lt w:Int)(z7 z8 z9:Option D):Ls:=[some (.mu 1),some (.im (.int mo)),some (.im (.int m)),some (.im (.int lg)),some (.im (.int lt)),some (.im (.int w)),some (.mu 2),z7,z8,z9]
inductive I_e(mo:Int)(n k:Nat)(lg lt w:Int)(r:List D)(ls:Ls)(hd:Hd):Prop
 |mk (j:Nat) (ws:List Wk) (a b:MO) (z7 z8 z9:Option D) (h0:r=Ab (j:Int) (k-j)) (h1:j<=k) (h2:68=j) (h3:∀z∈ws,(1<=z.len/\z.len<=20)/\(0<=z.com/\z.com<=60)/\z.cost=.ends w) (h4:ls=Le mo (k:Int) lg lt w z7 z8 z9) (h5:hd=[a,b,.lst (ws.map wkD)]) (h6:T (n+10*(k-j)) a b):I_e mo n k lg lt w r ls hd
inductive J_e(mo:Int)(n k j:Nat)(lg lt w:Int)(z8:Option D)(ws:List Wk)(f:Fl)(x:Hd):Prop
 |mk (z:Wk) (a b:MO) (h0:f=.nx (Le mo (k:Int) lg lt w (some (.im (.int (j:Int)))) z8 (some (wkD z)))) (h1:x=[a,b,.lst (ws.map wkD)]) (h2:(1<=z.len/\z.len<=20)/\(0<=z.com/\z.com<=60)/\z.cost=.ends w) (h3:T (n+10*(k-(j+1))) a b):J_e mo n k j lg lt w z8 ws f x
def OG(n:Nat){mo:Int}(hm1:1<=mo)(hm8:mo<=8):∀a b,T (n+100) a b->WF EM [.mu 1,.im (.int mo)] [a,b] λd x=>∃i a' b' g,d=.im i/\(∃ws w,i=AV ws/\EW w ws)/\T n a' b'/\x=a'::b'::g:=by
 intro a b hT;unfold EM;refine Ac rfl ?_;refine AB (AL (A7 (AG ?_)));refine tap.draw hT rfl (by first|decide|omega) (by first|decide|omega) λm a b hT pm qm=>?_;refine Bm (A6 (AB (AL (Ev (Bg (A3 (AG (A3 (AG (A3 (AG (A4 ⟨CV,?_⟩))))))))))));refine tap.draw hT rfl (by first|decide|omega) (by first|decide|omega) λr2 a b hT pr2 qr2=>?_;obtain⟨d2,hd2,ed2⟩:=at3 pr2 qr2 (.im (.int 20)) (.im (.int 6)) (.im (.int 2));refine⟨_,_,rfl,ed2,?_⟩;obtain⟨lg,rfl,hlg⟩:∃t,d2=.im (.int t)/\(2<=t/\t<=20):=by
  rcases hd2 with rfl|rfl|rfl<;>exact⟨_,rfl,by omega,by omega⟩
 refine A6 (AB (AL (Ev (Bg (A3 (AG (A3 (AG (A3 (AG (A4 ⟨CV,?_⟩)))))))))));refine tap.draw hT rfl (by first|decide|omega) (by first|decide|omega) λr3 a b hT pr3 qr3=>?_;obtain⟨d3,hd3,ed3⟩:=at3 pr3 qr3 (.im (.int 61)) (.im (.int 12)) (.im (.int 1));refine⟨_,_,rfl,ed3,?_⟩;obtain⟨lt,rfl,hlt⟩:∃t,d3=.im (.int t)/\(1<=t/\t<=61):=by
  rcases hd3 with rfl|rfl|rfl<;>exact⟨_,rfl,by omega,by omega⟩
 refine A6 (AB (AL ?_));refine tap.draw hT rfl (by first|decide|omega) (by first|decide|omega) λw a b hT pw qw=>?_;refine A6 (AB (AL (B9 (Bg (A4 ⟨Dm,A6 (AB (BM (GG (A3 (A1 rfl (A4 ⟨_,rfl,?_⟩))))))⟩)))));refine⟨E2 67 67,?_⟩;obtain⟨k,hk⟩:=Int.eq_ofNat_of_zero_le (show 0<=1+m by omega);rw[hk,gV];change WP (B2 _ _ _ _ (Le mo (k:Int) lg lt w none none none) [a,b,.lst []]) _;have hT:T (n+10*(k-0)) a b:=tap.le hT 67;refine BD (I_e mo n k lg lt w) ⟨0,[],a,b,none,none,none,rfl,by omega,rfl,by simp,rfl,rfl,hT⟩ ?_ ?_
 .rintro d r ls hd ⟨j,ws,a,b,z7,z8,z9,er,hj,hl,hws,rfl,rfl,hT⟩;obtain⟨m',hm⟩:∃m,k-j=m+1:=by
   cases q:k-j with
   |zero=>rw[q]at er;cases er
   |succ m=>exact⟨m,rfl⟩
  rw[hm,Ab]at er;obtain⟨rfl,rfl⟩:=List.cons.inj er;have hT:T (n+10*(k-(j+1))+10) a b:=tap.le hT 67;refine⟨Le mo (k:Int) lg lt w (some (.im (.int (j:Int)))) z8 z9,rfl,?_⟩;refine AB (AL ?_);refine tap.draw hT rfl (by first|decide|omega) (by first|decide|omega) λway a b hT pway qway=>?_;refine A6 (AB (AL (B8 (A3 (A7 (AG ?_))))));refine tap.draw hT rfl (by first|decide|omega) (by first|decide|omega) λln a b hT pln qln=>?_;refine Bm (A3 ?_);refine tap.draw hT rfl (by first|decide|omega) (by first|decide|omega) λcm a b hT pcm qcm=>?_;refine A3 (B8 (A3 (AG (A3 (A1 rfl (A4 ⟨Cm,A4 ⟨CV,A6 ?_⟩⟩))))));change WS _ (Le mo (k:Int) lg lt w (some (.im (.int (j:Int)))) (some (.im (.int way))) (some (wkD ⟨1+ln,cm,.ends w⟩))) [a,b,.lst (ws.map wkD)] _;refine AB (WP.mono (Q:=J_e mo n k j lg lt w (some (.im (.int way))) ws) (Af (DY (AO (A7 (A1 rfl (AG (Cf ⟨_,rfl,?_⟩))))))) ?_)
  .have no:J_e mo n k j lg lt w (some (.im (.int way))) ws (.nx (Le mo (k:Int) lg lt w (some (.im (.int (j:Int)))) (some (.im (.int way))) (some (wkD ⟨1+ln,cm,.ends w⟩)))) [a,b,.lst (ws.map wkD)]:=⟨_,a,b,rfl,rfl,⟨⟨by show 1<=1+ln;omega,by show 1+ln<=20;omega⟩,⟨by show 0<=cm;omega,by show cm<=60;omega⟩,rfl⟩,tap.le hT 67⟩
   by_cases h1:way=0
   .rw[gc (by simpa using h1)];refine AO (A7 (A1 rfl (AG (EA ⟨_,rfl,λhc=>?_,λhc=>AX no⟩))));have hc:0<(j:Int):=by simpa using hc
    refine AL (A7 (A1 rfl ?_));refine tap.draw hT (many:=(j:Int)) (rest:=[.lst (ws.map wkD)]) 77 67 67 λr a b hT pr qr=>?_;obtain⟨i,hi⟩:=Int.eq_ofNat_of_zero_le pr;have hi':i<ws.length:=by omega
    exact AH (ds:=ws.map wkD) (e:=wkD ws[i]) rfl (FE hi (by simp[hi'])) ⟨ws[i],a,b,rfl,rfl,hws _ (List.getElem_mem hi'),tap.le hT 67⟩
   .rw[gf (by simpa using h1)];exact⟨(λh=>by cases h),λ_=>AX no⟩
  rintro f x ⟨z,a,b,rfl,rfl,okz,hT⟩;refine A6 (Aq (Db (A1 rfl ⟨⟨_,rfl⟩,A3 (A1 rfl (A4 (EN rfl (CN 79) ?_)))⟩)));exact⟨AJ _,j+1,ws++[z],a,b,_,_,_,by rw[show((j:Int)+1)=((j+1:Nat):Int) by omega,show m'=k-(j+1) by omega],by omega,by simp[hl],λy hy=>by rcases mem_append.mp hy with q|q;exact hws y q;rw[gK]at q;subst q;exact okz,rfl,by simp,hT⟩
 .rintro ls hd ⟨j,ws,a,b,z7,z8,z9,er,hj,hl,hws,rfl,rfl,hT⟩;have:j=k:=by
   cases q:k-j with
   |zero=>omega
   |succ m=>rw[q]at er;cases er
  subst this;refine A6 (AY (BJ (A3 (A1 rfl (A4 (C0 (ds:=ws.map wkD) (z:=.im (AV ws)) rfl ?_ ?_))))))
  .show some (AW (ws.map wkD))=_;rw[<- Eu,BG]
  .exact⟨_,a,b,_,rfl,⟨ws,w,rfl,⟨by omega,by omega,by omega,hws⟩⟩,tap.le hT 67,rfl⟩
def weight_w{z:Wk}{w:Int}(h:z.cost=.ends w):WF Bl [wkD z] [] λd x=>d=.im (.int w):=by
 unfold Bl;refine Ac rfl ?_;unfold wkD BC;rw[h];refine AY (A7 (A7 (A1 rfl (AG (AH rfl (Ef _ _ _ _) ?_)))));refine Ft (AG ⟨_,rfl,?_⟩);refine AH (ds:=[.im (.str "ends"),.im (.int w)]) (e:=.im (.int w)) rfl ?_ rfl;rfl
def refuse_w{w:Int}{ws:List Wk}(W:EW w ws):WF Ao [.im (AV ws),.im (.str "ends")] [] λd x=>d=.im .non:=by
 have n8:=W.n8;unfold Ao;refine Ac rfl ?_;refine Af (BL (BA (Ah (BP (A1 rfl ⟨_,rfl,?_⟩)))));rw[Eu];refine⟨AT 79,?_⟩;refine B0 wkD (λ_=>some (.im (.bl false))) (λ_ ls=>∃x,ls=[some x,some (.im (.str "ends"))]) _ (AJ _) ?_ ?_
 .rintro z hz ls hls;refine⟨[some (wkD z),some (.im (.str "ends"))],by rcases hls with rfl|⟨_,x,rfl⟩<;>rfl,⟨_,rfl⟩,BV ⟨rfl,?_⟩⟩;rw[gc rfl];unfold wkD BC;rw[(W.ea z hz).2.2];refine⟨_,rfl,A7 (A7 (A7 (A1 rfl (AG (AH rfl (Ef _ _ _ _) (AG (AH (ds:=[.im (.str "ends"),.im (.int w)]) rfl (Du _ _) (A1 rfl (HB ⟨rfl,?_⟩)))))))))⟩;simp
 have e:(ws.filterMap λ_=>some (D.im (.bl false)))=blD (ws.map λ_=>false):=by simp[blD]
 rw[e];refine⟨_,by rw[GZ,blsD_map];rfl,_,rfl,?_⟩;exact⟨(λh=>by simp at h),λ_=>AX rfl⟩
def cB{w:Int}{ws:List Wk}(W:EW w ws):WF Bv [.im (AV ws)] [] λd x=>d=.im (.int w):=by
 have n8:=W.n8;have n1:=W.n1;unfold Bv;refine Ac rfl ?_;have e0:atI ((ws.map BC).map D.im) 0=some (wkD ws[0]):=FE (k:=0) rfl (by rw[List.getElem?_map,List.getElem?_map,List.getElem?_eq_getElem n1];rfl);refine AB (AL (AC (A3 (A7 (A1 rfl (AG (AH rfl e0 (A4 ⟨by simp,(weight_w (W.ea _ (List.getElem_mem n1)).2.2).mono ?_⟩))))))));rintro d x rfl;refine⟨_,rfl,A6 ?_⟩;refine AB (Af (BL (BA (Ah (BP (A1 rfl ⟨_,rfl,?_⟩))))));rw[Eu];refine⟨AT 79,?_⟩;refine B0 wkD (λ_=>some (.im (.bl false))) (λ_ ls=>∃x,ls=[some x,some (.im (.int w))]) _ (AJ _) ?_ ?_
 .rintro z hz ls hls;refine⟨[some (wkD z),some (.im (.int w))],by rcases hls with rfl|⟨_,x,rfl⟩<;>rfl,⟨_,rfl⟩,BV ⟨rfl,?_⟩⟩;rw[gc rfl];refine⟨_,rfl,A7 (AC (A3 (A1 rfl (A4 ⟨by simp,(weight_w (W.ea z hz).2.2).mono ?_⟩))))⟩;rintro d x rfl;refine⟨_,rfl,A1 rfl (DZ ⟨rfl,?_⟩)⟩;simp
 have e:(ws.filterMap λ_=>some (D.im (.bl false)))=blD (ws.map λ_=>false):=by simp[blD]
 rw[e];refine⟨_,by rw[GZ,blsD_map];rfl,_,rfl,?_⟩;exact⟨(λh=>by simp at h),λ_=>AX (A6 (AY (A1 rfl rfl)))⟩
def Hj{w:Int}{ws:List Wk}(W:EW w ws):WF Cr [.im (AV ws)] [] λd x=>d=.im (.int w):=by
 unfold Cr;refine Ac rfl ?_;refine AB (Aq (AC (A3 (A1 rfl (A3 (AG (A4 ⟨by simp,(refuse_w W).mono ?_⟩)))))));rintro d x rfl;refine⟨_,rfl,A6 ?_⟩;refine AY (AC (A3 (A1 rfl (A4 ⟨by simp,(cB W).mono ?_⟩))));rintro d x rfl;exact⟨_,rfl,rfl⟩
noncomputable abbrev Pc:=Pl.Pc
noncomputable abbrev pcD(P:List Pc):List D:=P.map λp=>.im (Ar p)
noncomputable def FF(P:List Pc)(k:Nat)(b e:Int):List Pc:=match P.getLast? with
 |some p=>if p.1=k/\p.2.2=b then P.dropLast++[(k,p.2.1,e)]else P++[(k,b,e)]
 |none=>P++[(k,b,e)]
def SA(P:List Pc):P=[]∨∃P' p,P=P'++[p]:=by
 rcases List.eq_nil_or_concat P with h|⟨P',p,h⟩
 .exact .inl h
 .exact .inr ⟨P',p,by rw[h,List.concat_eq_append]⟩
def LX(P:List Pc)(p:Pc)(k:Nat)(b e:Int):FF (P++[p]) k b e=if p.1=k/\p.2.2=b then P++[(k,p.2.1,e)]else P++[p]++[(k,b,e)]:=by
 unfold FF;rw[List.getLast?_concat,List.dropLast_concat]
def OM{i:Nat}{P:List Pc}{hd:Hd}(eh:hd[i]?=some (.lst (pcD P)))(hl:P.length<=100)(k:Nat)(b e:Int):WF D9 [.mu i,.im 94,.im (.int b),.im (.int e)] hd λd x=>d=.im .non/\x=hd.set i (.lst (pcD (FF P k b e))):=by
 have tr:Cy hd (.mu i)=some (!(pcD P).isEmpty):=by simp only[Cy,eh]
 have sv:Av hd (.mu i)=some (pcD P):=by simp[Av,Aa,Ai,eh]
 unfold D9;refine Ac rfl ?_;refine Af (DY (BL (A1 rfl ⟨_,tr,?_⟩)));have app:∀{Q:Fl->Hd->Prop},Q (.nx [some (.mu i),some (.im 94),some (.im (.int b)),some (.im (.int e))]) (hd.set i (.lst (pcD (P++[(k,b,e)]))))->WS (B5 (mMt BI 85 (A2 (BW (A2 (A0 1) (A2 (A0 2) (A2 (A0 3) A5)))) A5))) [some (.mu i),some (.im 94),some (.im (.int b)),some (.im (.int e))] hd Q:=λ{Q} q=>by
  refine Aq (Db (A1 rfl ⟨⟨_,by rw[VP,eh]⟩,A3 (B8 (A3 (A1 rfl (A3 (A1 rfl (A3 (A1 rfl (A4 ⟨CV,A4 ?_⟩))))))))⟩));refine EN eh (CN 79) ?_;rw[show pcD (P++[(k,b,e)])=pcD P++[AW [.im 94,.im (.int b),.im (.int e)]] by show(P++[_]).map _=_;rw[ik];rfl]at q;exact q
 rcases SA P with rfl|⟨P',p,rfl⟩
 .rw[gf 77];exact⟨(λh=>by cases h),λ_=>app ⟨rfl,rfl⟩⟩
 .rw[gc 77];rw[LX];have la:atI (pcD (P'++[p])) (-1)=some (.im (Ar p)):=by show atI ((P'++[p]).map _) (-1)=_;rw[ik];exact JC _ _
  have gl:∀{j:Int} {v:D} {QE:D->Hd->Prop},atI [D.im (.int (p.1:Int)),.im (.int p.2.1),.im (.int p.2.2)] j=some v->QE v hd->WE (mOp gIx (mOp gIx 85 (Eb 99)) (mC (.int j))) [some (.mu i),some (.im 94),some (.im (.int b)),some (.im (.int e))] hd QE:=λ{j v QE} ea q=>
   A7 (A7 (A1 rfl (Ft (AG ⟨_,rfl,AH (ds:=pcD (P'++[p])) sv la (AG (AH (ds:=[D.im (.int (p.1:Int)),.im (.int p.2.1),.im (.int p.2.2)]) rfl ea q))⟩))))
  refine DY (AO (A7 (gl (Du _ _) (A1 rfl (Cf ⟨_,rfl,?_⟩)))));by_cases h1:p.1=k
  .rw[gc (by simp[h1])];refine AO (A7 (gl (Ef _ _ _ _) (A1 rfl (Cf ⟨_,rfl,λh2=>?_,λh2=>?_⟩))))
   .have h2:p.2.2=b:=by simpa using h2
    rw[gc ⟨h1,h2⟩];refine Eo (B8 (A3 (A1 rfl (A3 (gl (E9 _ _ _) (A3 (A1 rfl (A4 ⟨CV,A1 rfl (Ft (AG ⟨_,rfl,?_⟩))⟩))))))));refine⟨i,-1,P'.length,pcD (P'++[p]),rfl,rfl,eh,?_,?_⟩
    .unfold ixN;rw[gf 98,gc 79]
     congr 1
     simp;omega
    .refine⟨rfl,?_⟩;show hd.set i (.lst (((P'++[p]).map _).set P'.length _))=hd.set i (.lst ((P'++[_]).map _));rw[ik,ik];simp[AW,BK,Ar]
   .have h2:¬ p.2.2=b:=by simpa using h2
    rw[gf (λh=>h2 h.2)];exact app ⟨rfl,rfl⟩
  .rw[gf 79,gf (λh=>h1 h.1)];exact⟨(λh=>by cases h),λ_=>app ⟨rfl,rfl⟩⟩
open PySem L2 Bd S7
theorem FQ(p:Pc)(j:Nat):∀(P:List Pc) (v:Int),Pl.last (P++[p]) j v=if p.1=j then p.2.2 else Pl.last P j v
 |[],v=>by simp[Pl.last]
 |q::r,v=>by rw[iF,Pl.last,FQ p j r,Pl.last]
theorem G9(q:Pc)(j:Nat):∀P:List Pc,Pl.dn (P++[q]) j=Pl.dn P j+(if q.1=j then q.2.2-q.2.1 else 0)
 |[]=>by simp[Pl.dn]
 |p::r=>by rw[iF,Pl.dn,Pl.dn,G9 q j r];omega
structure Pcs(n:Nat)(cm:Nat->Nat)(P:List Pc)(t:Nat):Prop where
 pc:∀p∈P,p.1<n/\(cm p.1:Int)<=p.2.1/\p.2.1<p.2.2/\p.2.2<=(t:Int)
 pw:P.Pairwise λp q=>p.2.2<=q.2.1
def Pcs.add{n:Nat}{cm:Nat->Nat}{P:List Pc}{t b e k:Nat}(h:Pcs n cm P t)(hk:k<n)(hc:cm k<=b)(tb:t<=b)(be:b<e):Pcs n cm (FF P k (b:Int) (e:Int)) e/\(FF P k b e).length<=P.length+1/\(∀j,Pl.dn (FF P k b e) j=Pl.dn P j+if k=j then(e:Int)-b else 0)/\∀j,Pl.E (FF P k b e) j=if k=j then(e:Int)else Pl.E P j:=by
 have plain:Pcs n cm (P++[(k,(b:Int),(e:Int))]) e/\(P++[(k,(b:Int),(e:Int))]).length<=P.length+1/\(∀j,Pl.dn (P++[(k,(b:Int),(e:Int))]) j=Pl.dn P j+if k=j then(e:Int)-b else 0)/\∀j,Pl.E (P++[(k,(b:Int),(e:Int))]) j=if k=j then(e:Int)else Pl.E P j:=by
  refine⟨⟨λp hp=>?_,?_⟩,by simp,λj=>G9 _ _ _,λj=>FQ _ _ _ _⟩
  .rcases mem_append.mp hp with q|q
   .have:=h.pc p q;exact⟨this.1,this.2.1,this.2.2.1,by omega⟩
   .rw[gK]at q;subst q;exact⟨hk,by show(cm k:Int)<=(b:Int);omega,by show(b:Int)<(e:Int);omega,by show(e:Int)<=(e:Int);omega⟩
  .rw[pairwise_append];refine⟨h.pw,List.pairwise_singleton _ _,λp hp q hq=>?_⟩;rw[gK]at hq;subst hq;have:=(h.pc p hp).2.2.2;show p.2.2<=(b:Int);omega
 rcases SA P with rfl|⟨P',p,rfl⟩
 .exact plain
 .rw[LX];by_cases c:p.1=k/\p.2.2=(b:Int)
  .rw[gc c];obtain⟨c1,c2⟩:=c;have hp:=h.pc p 77;refine⟨⟨λx hx=>?_,?_⟩,by simp,λj=>?_,λj=>?_⟩
   .rcases mem_append.mp hx with q|q
    .have:=h.pc x (by simp[q]);exact⟨this.1,this.2.1,this.2.2.1,by omega⟩
    .rw[gK]at q;subst q;rw[c1]at hp;exact⟨hk,hp.2.1,by show p.2.1<(e:Int);omega,by show(e:Int)<=(e:Int);omega⟩
   .have pw:=h.pw;rw[pairwise_append]at pw ⊢;refine⟨pw.1,List.pairwise_singleton _ _,λx hx q hq=>?_⟩;rw[gK]at hq;subst hq;exact pw.2.2 x hx p 77
   .rw[G9,G9,c1];show Pl.dn P' j+(if k=j then(e:Int)-p.2.1 else 0)=_;split<;>omega
   .show Pl.last _ j 0=if k=j then(e:Int)else Pl.last _ j 0;rw[FQ,FQ,c1];show(if k=j then(e:Int)else _)=_;split<;>rfl
  .rw[gf c];exact plain
def Ng{p q:Nat->Bool}:∀{L:List Nat},(∀i∈L,p i=true->q i=true)->L.countP p<=L.countP q:=λh=>List.countP_mono_left h
theorem Nf{p q:Nat->Bool}:∀{L:List Nat},(∀i∈L,p i=true->q i=true)->(∃i∈L,q i=true/\p i=false)->L.countP p<L.countP q
 |[],_,h=>by obtain⟨_,h,_⟩:=h;cases h
 |x::r,h,⟨i,hi,h1,h2⟩=>by
  rw[List.countP_cons,List.countP_cons];rcases mem_cons.mp hi with rfl|hi
  .have:=Ng (p:=p) (q:=q) (L:=r) λj hj=>h j (by simp[hj]);rw[h1,h2];simp;omega
  .have ih:=Nf (p:=p) (q:=q) (L:=r) (λj hj=>h j (by simp[hj])) ⟨i,hi,h1,h2⟩;have hx:=h x 77;by_cases px:p x=true
   .rw[px,hx px];simp;omega
   .have px:p x=false:=by simpa using px
    rw[px];simp;split<;>omega
noncomputable def mu(n:Nat)(cm lf:Nat->Nat)(t:Nat):Nat:=(71 n).countP (λj=>decide (0<lf j))+(71 n).countP (λj=>decide (0<lf j/\t<cm j))
structure St(n:Nat)(ln cm:Nat->Nat)(lf:Nat->Nat)(P:List Pc)(t:Nat)(G:Nat->Nat->Nat):Prop where
 H:Hist n ln cm G t
 gl:∀j,G t j=lf j
 ps:Pcs n cm P t
 dn:∀j,j<n->Pl.dn P j+(lf j:Int)=(ln j:Int)
 en:∀j,j<n->lf j=0->∀τ,τ<=t->(G τ j=0↔Pl.E P j<=(τ:Int))
structure Tn(n:Nat)(cm lf:Nat->Nat)(t t' k s:Nat):Prop where
 tt:t<=t'
 idle:t<t'->∀j,j<n->0<lf j->t'<=cm j
 kn:k<n
 k0:0<lf k
 kc:cm k<=t'
 km:∀j,j<n->0<lf j->cm j<=t'->lf k<lf j∨lf k=lf j/\k<=j
 s0:t'<s
 s1:s<=t'+lf k
 s2:∀j,j<n->0<lf j->t'<cm j->s<=cm j
 s3:s=t'+lf k∨∃j,j<n/\0<lf j/\t'<cm j/\s=cm j
theorem Uy{n:Nat}{ln cm:Nat->Nat}{G:Nat->Nat->Nat}{t:Nat}(H:Hist n ln cm G t)(j:Nat):∀d τ,τ+d<=t->G (τ+d) j<=G τ j
 |0,τ,_=>gg _
 |d+1,τ,h=>by
  have ih:=Uy H j d τ 67;rcases H.st (τ+d) 67 with⟨_,e⟩|⟨k,_,_,_,_,e⟩
  .have:=e j;rw[show τ+(d+1)=τ+d+1 by omega];omega
  .have:=e j;rw[show τ+(d+1)=τ+d+1 by omega,this];split<;>omega
def St.turn{n:Nat}{ln cm lf:Nat->Nat}{P:List Pc}{t:Nat}{G:Nat->Nat->Nat}(S:St n ln cm lf P t G){t' k s:Nat}(X:Tn n cm lf t t' k s):
 (∃G',St n ln cm (λj=>if j=k then lf j-(s-t')else lf j) (FF P k (t':Int) (s:Int)) s G')/\(FF P k (t':Int) (s:Int)).length<=P.length+1/\mu n cm (λj=>if j=k then lf j-(s-t')else lf j) s<mu n cm lf t:=by
 obtain⟨p1,p2,p3,p4⟩:=S.ps.add X.kn X.kc X.tt X.s0;have tt:=X.tt;have s0:=X.s0;have s1:=X.s1;have k0:=X.k0;refine⟨⟨λτ j=>if τ<=t then G τ j else if j=k then lf j-(τ-t')else lf j,?_⟩,p2,?_⟩
 .have gt:∀τ,t<=τ->∀j,(if τ<=t then G τ j else if j=k then lf j-(τ-t')else lf j)=if j=k then lf j-(τ-t')else lf j:=λτ h j=>by
   by_cases q:τ<=t
   .have:τ=t:=by omega
    subst this;rw[gc q,S.gl];split
    .omega
    .rfl
   .rw[gf q]
  have Hn:Hist n ln cm (λτ j=>if τ<=t then G τ j else if j=k then lf j-(τ-t')else lf j) s:=by
   refine⟨λj=>(gc (gW _)).trans (S.H.g0 j),λτ hτ=>?_⟩
   try dsimp only
   by_cases a1:τ<t
   .have e1:∀j,(if τ<=t then G τ j else if j=k then lf j-(τ-t')else lf j)=G τ j:=λj=>gc 67;have e2:∀j,(if τ+1<=t then G (τ+1) j else if j=k then lf j-(τ+1-t')else lf j)=G (τ+1) j:=λj=>gc 67;simp only[e1,e2];exact S.H.st τ a1
   .simp only[gt τ 67,gt (τ+1) 67];by_cases a2:τ<t'
    .refine .inl ⟨λj hj hc=>?_,λj=>by split<;>omega⟩;have z:lf j=0:=by
      refine Classical.byContradiction λh0=>?_;have:=X.idle 67 j hj 67;omega
     split<;>omega
    .refine .inr ⟨k,X.kn,by have:=X.kc;omega,by rw[gc rfl];omega,λj hj hc h0=>?_,λj=>?_⟩
     .rw[gc rfl];by_cases q:j=k
      .subst q;rw[gc rfl];exact .inr ⟨rfl,gg _⟩
      .rw[gf q]at h0 ⊢;have:cm j<=t':=by
        refine Classical.byContradiction λh1=>?_;have:=X.s2 j hj h0 67;omega
       have:=X.km j hj h0 this;omega
     .by_cases q:j=k
      .rw[gc q,gc q,gc q];omega
      .rw[gf q,gf q,gf q]
  refine⟨Hn,λj=>?_,p1,λj hj=>?_,λj hj h0 τ hτ=>?_⟩
  .rw[gt s 67]
  .have h1:=S.dn j hj;have h2:=p3 j;by_cases q:j=k
   .subst q;rw[gc rfl]at h2 ⊢;omega
   .rw[gf (λe=>q e.symm)]at h2;rw[gf q];omega
  .have h2:=p4 j
   try dsimp only
   by_cases q:j=k
   .subst q;rw[gc rfl]at h0 h2;rw[h2];by_cases a1:τ<=t
    .rw[gc a1];have:=Uy S.H j (t-τ) τ 67;rw[show τ+(t-τ)=t by omega,S.gl]at this;constructor
     .intro z;omega
     .intro z;omega
    .rw[gf a1,gc rfl];constructor
     .intro z;omega
     .intro z;omega
   .rw[gf q]at h0;rw[gf (λe=>q e.symm)]at h2;rw[h2];by_cases a1:τ<=t
    .rw[gc a1];exact S.en j hj h0 τ a1
    .rw[gf a1,gf q];have:=(S.en j hj h0 t (gg _)).mp (by rw[S.gl];exact h0);constructor
     .intro _;omega
     .intro _;exact h0
 .unfold mu;dsimp only;have le1:(71 n).countP (λj=>decide (0<if j=k then lf j-(s-t')else lf j))<=(71 n).countP (λj=>decide (0<lf j)):=Ng λi hi h=>by
   simp only[iE]at h ⊢;split at h<;>omega
  have le2:(71 n).countP (λj=>decide ((0<if j=k then lf j-(s-t')else lf j)/\s<cm j))<=(71 n).countP (λj=>decide (0<lf j/\t<cm j)):=Ng λi hi h=>by
   simp only[iE]at h ⊢;refine⟨?_,by omega⟩;have:=h.1;split at this<;>omega
  rcases X.s3 with e|⟨j,jn,j0,jc,e⟩
  .have:(71 n).countP (λj=>decide (0<if j=k then lf j-(s-t')else lf j))<(71 n).countP (λj=>decide (0<lf j)):=by
    refine Nf (λi hi h=>?_) ⟨k,by simpa using X.kn,by simpa using k0,?_⟩
    .simp only[iE]at h ⊢;split at h<;>omega
    .simp only[jm,gw];omega
   omega
  .have:(71 n).countP (λj=>decide ((0<if j=k then lf j-(s-t')else lf j)/\s<cm j))<(71 n).countP (λj=>decide (0<lf j/\t<cm j)):=by
    refine Nf (λi hi h=>?_) ⟨j,by simpa using jn,by simp only[iE];omega,?_⟩
    .simp only[iE]at h ⊢;refine⟨?_,by omega⟩;have:=h.1;split at this<;>omega
    .simp only[jm];omega
   omega
def St.start(n:Nat)(ln cm:Nat->Nat)(h:∀j,j<n->1<=ln j):St n ln cm ln [] 0 λ_ j=>ln j:=by
 refine⟨⟨λj=>rfl,λτ h=>by omega⟩,λj=>rfl,⟨by simp,List.Pairwise.nil⟩,λj hj=>by simp[Pl.dn],λj hj h0=>by have:=h j hj;omega⟩
open S7
def Xc{ns:List Int}(hne:ns≠[]):∃m,Fg (intD ns)=some (.im (.int m))/\m∈ns/\∀x∈ns,m<=x:=by
 have e:Am (intD ns)=some ns:=by
  clear hne
  induction ns with
  |nil=>rfl
  |cons n r ih=>simp[intD]at ih ⊢
 obtain⟨m1,m2⟩:=Hb hne;exact⟨GQ ns,by unfold Fg;rw[e];simp[hne],m1,m2⟩
def Vb{mo mi me:ME}{f:Int->Int->Int}{ls:Ls}{hd:Hd}{QS:Fl->Hd->Prop}(h:WE mo ls hd λd x=>WE mi ls x λi y=>∃n k ds j v,d=.mu n/\i=.im (.int k)/\y[n]?=some (.lst ds)/\ixN ds.length k=some j/\ds[j]?=some (.im (.int v))/\WE me ls y λr z=>∃u ds',r=.im (.int u)/\z[n]?=some (.lst ds')/\ds'.length=ds.length/\QS (.nx ls) (z.set n (.lst (ds'.set j (.im (.int (f v u))))))):WS (GU mo mi me f) ls hd QS:=by
 obtain⟨d,x,e1,i,y,e2,n,k,ds,j,v,rfl,rfl,e3,e4,e5,r,z,e6,u,ds',rfl,e7,e8,q⟩:=h;refine⟨_,_,?_,q⟩;unfold GU;simp only[e1,gq,e2,e3,e4,e5,e6,e7,e8,gw]
def YJ{ma mb:ME}{ls:Ls}{hd:Hd}{QA:List D->Hd->Prop}(h:WE ma ls hd λd x=>WE mb ls x λe y=>∃i j xs ys,d=.mu i/\e=.mu j/\y[i]?=some (.lst xs)/\y[j]?=some (.lst ys)/\Bj (xs.length+ys.length)/\QA (xs++ys) y):WA (Iq ma mb) ls hd QA:=by
 obtain⟨d,x,e1,e,y,e2,i,j,xs,ys,rfl,rfl,e3,e4,c,q⟩:=h;exact⟨_,_,by simp[Iq,e1,e2,e3,e4,c],q⟩
noncomputable def lnN(ws:List Wk)(k:Nat):Nat:=(((ws[k]?).map Wk.len).getD 0).toNat
noncomputable def cmN(ws:List Wk)(k:Nat):Nat:=(((ws[k]?).map Wk.com).getD 0).toNat
def CS{w:Int}{ws:List Wk}(W:EW w ws){k:Nat}(hk:k<68):(ws[k].len)=(lnN ws k:Int)/\1<=lnN ws k/\lnN ws k<=20:=by
 have:=(W.ea _ (List.getElem_mem hk)).1;simp only[lnN,List.getElem?_eq_getElem hk,gR,getD_some];omega
def FC{w:Int}{ws:List Wk}(W:EW w ws){k:Nat}(hk:k<68):(ws[k].com)=(cmN ws k:Int)/\cmN ws k<=60:=by
 have:=(W.ea _ (List.getElem_mem hk)).2.1;simp only[cmN,List.getElem?_eq_getElem hk,gR,getD_some];omega
noncomputable abbrev Bw(n:Nat)(f:Nat->Nat):List D:=(71 n).map λk=>D.im (.int (f k:Int))
def row_at{n:Nat}{f:Nat->Nat}{k:Nat}(hk:k<n):atI (Bw n f) (k:Int)=some (.im (.int (f k:Int))):=FE rfl (by simp[hk])
def Vw{n:Nat}{f:Nat->Nat}{k v:Nat}(hk:k<n):(Bw n f).set k (.im (.int (v:Int)))=Bw n λj=>if j=k then v else f j:=by
 refine iG λi=>?_;by_cases hi:i<n
 .rw[List.getElem?_set];by_cases q:k=i
  .subst q;simp[hi]
  .rw[gf q];have q':¬ i=k:=λz=>q z.symm;simp[hi,q']
 .rw[List.getElem?_eq_none 79,List.getElem?_eq_none 79]
def KS(p:Nat->Prop)[DecidablePred p](g:Nat->Nat)(L:List Nat):(L.filterMap λk=>if p k then some (D.im (.int (g k:Int)))else none)=((L.filter λk=>decide (p k)).map g).map λk:Nat=>D.im 94:=by
 induction L with
 |nil=>rfl
 |cons x r ih=>
  rw[ic,gP];by_cases h:p x
  .rw[gc h,gN h,gc rfl,ih];rfl
  .rw[gf h,gM h,gf 77,ih]
def US(L:List Nat):(L.map λk:Nat=>D.im 94)=intD (L.map λk:Nat=>(k:Int)):=by simp[intD]
def Ou{L:List Nat}(h:L≠[]):∃m:Nat,Fg (L.map λk:Nat=>D.im 94)=some (.im (.int (m:Int)))/\m∈L/\∀x∈L,m<=x:=by
 obtain⟨m,e,h1,h2⟩:=Xc (ns:=L.map λk:Nat=>(k:Int)) (by simpa using h);rw[<- US]at e;obtain⟨k,hk,rfl⟩:=mem_map.mp h1;exact⟨k,e,hk,λx hx=>by have:=h2 (x:Int) (mem_map.mpr ⟨x,hx,rfl⟩);omega⟩
noncomputable abbrev Lr(ws:List Wk)(t:Nat)(z6 z7 z8:Option D):Ls:=[some (.im (AV ws)),some (.mu 0),some (.fv 0 []),some (.mu 1),some (.mu 2),some (.im (.int (t:Int))),z6,z7,z8]
noncomputable abbrev Hr(ws:List Wk)(lf:Nat->Nat)(P:List Pc)(g:Hd):Hd:=.lst (Bw 68 (cmN ws))::.lst (Bw 68 lf)::.lst (pcD P)::g
inductive I_r(ws:List Wk)(m:Nat)(ls:Ls)(hd:Hd):Prop
 |mk (lf:Nat->Nat) (P:List Pc) (t:Nat) (G:Nat->Nat->Nat) (g:Hd) (z6 z7 z8:Option D) (em:m=mu 68 (cmN ws) lf t) (el:ls=Lr ws t z6 z7 z8) (eh:hd=Hr ws lf P g) (S:St 68 (lnN ws) (cmN ws) lf P t G) (pl:P.length+m<=16):I_r ws m ls hd
def cP{ws:List Wk}{lf:Nat->Nat}{P:List Pc}{g:Hd}{k:Nat}(hk:k<68):(BW (A2 (Di (A0 1) (A2 85 (A2 (mOp gIx (A0 2) 85) A5))) (A2 85 A5))) [some (.im 94),some (.fv 0 []),some (.mu 1)] (Hr ws lf P g)=some (.im (.tup [.int (lf k:Int),.int (k:Int)]),Hr ws lf P g):=by
 have w:WE (BW (A2 (Di (A0 1) (A2 85 (A2 (mOp gIx (A0 2) 85) A5))) (A2 85 A5))) [some (.im 94),some (.fv 0 []),some (.mu 1)] (Hr ws lf P g) λd x=>d=.im (.tup [.int (lf k:Int),.int (k:Int)])/\x=Hr ws lf P g:=by
  refine B8 (A3 (Sw (A1 rfl ⟨rfl,A3 (A1 rfl (A3 (A7 (A1 rfl (A1 rfl (AH (ds:=Bw 68 lf) rfl (row_at hk) (A4 ⟨_,_,rfl,A3 (A1 rfl (A4 ⟨Cm,rfl,rfl⟩))⟩)))))))⟩)))
 obtain⟨d,x,e,rfl,rfl⟩:=w;exact e
def hnG{a b c:MO}{g:Hd}{x:MO}:(a::b::c::(g++[x]))[(a::b::c::g).length]?=some x:=by simp
def lvG{a b c:MO}{g:Hd}{ds:List D}:Ai (a::b::c::(g++[.lst ds])) (.mu (a::b::c::g).length)=some ds:=by simp[Ai]
noncomputable abbrev Bp(L:List Nat):List D:=L.map λk:Nat=>D.im 94
noncomputable def kfL(lf:Nat->Nat):D->Int×Int
 |.im (.int k)=>((lf k.toNat:Int),k)
 |_=>(0,0)
noncomputable abbrev cG:MS:=(A9 (AI 6 (Au (Ad 1 [3] (DL (A2 (mCB (f1 true B7) (A2 85 A5)) A5)) (AD 0) (AF (mOp gGt (mOp gIx (A0 1) 85) 101)) 85)))
 (A9 (AI 5 (mCB FU (A2 (A0 5) (A2 (Ay Fg (Ad 1 [1] (C6 (A0 6)) (AD 0) Bq (mOp gIx (A0 1) 85))) A5))))
 (A9 (AI 7 (F7 (Au (Ad 1 [1,5] (C6 (A0 6)) (AD 0) (AF (mOp gLe (mOp gIx (A0 1) 85) (A0 2))) 85)) [2,3] (BW (A2 (Di (A0 1) (A2 85 (A2 (mOp gIx (A0 2) 85) A5))) (A2 85 A5)))))
 (A9 (AI 8 (Ay Fg (Iq (Au (C5 (A2 (mOp Aw (A0 5) (mOp gIx (A0 3) (A0 7))) A5))) (Au (Ad 1 [1,5] (C6 (A0 6)) (AD 0) (AF (mOp gGt (mOp gIx (A0 1) 85) (A0 2))) (mOp gIx (A0 1) 85))))))
 (A9 (B5 (D2 D9 (A2 (A0 4) (A2 (A0 7) (A2 (A0 5) (A2 (A0 8) A5))))))
 (A9 (GU (A0 3) (A0 7) (mOp CL (A0 8) (A0 5)) (λi j=>i-j))
 (AI 5 (A0 8))))))))
set_option maxHeartbeats 2000000 in
def YM{w:Int}{ws:List Wk}(W:EW w ws){lf:Nat->Nat}{P:List Pc}{t:Nat}{G:Nat->Nat->Nat}{g:Hd}{z6 z7 z8:Option D}(S:St 68 (lnN ws) (cmN ws) lf P t G)(pl:P.length<=16)(some1:∃j,j<68/\0<lf j){Q:Fl->Hd->Prop}
 (hQ:∀t' k s g z6 z7 z8,Tn 68 (cmN ws) lf t t' k s->Q (.nx (Lr ws s z6 z7 z8)) (Hr ws (λj=>if j=k then lf j-(s-t')else lf j) (FF P k (t':Int) (s:Int)) g)):WS cG (Lr ws t z6 z7 z8) (Hr ws lf P g) Q:=by
 have n8:=W.n8;obtain⟨j0,j0n,j00⟩:=some1
 -- undone
 refine AB (AL (B9 (Ah (GG (A3 (BJ (A3 (A1 rfl (A4 (C0 (ds:=(ws.map BC).map D.im) (z:=.im (.int (ws.length:Int))) rfl (by simp[B7]) (A4 ⟨_,rfl,E2 67 67,?_⟩)))))))))));rw[gV,Ei];refine⟨AT 79,?_⟩;refine B0 (xs:=71 68) (λk:Nat=>D.im 94) (λk=>if 0<lf k then some (.im (.int ((id k:Nat):Int)))else none) (λ_ ls=>∃x,ls=[some x,some (.mu 1)]) _ (AJ _) ?_ ?_
 .rintro k hk ls hls;have hk:k<ws.length:=by simpa using hk
  refine⟨[some (.im 94),some (.mu 1)],by rcases hls with rfl|⟨_,x,rfl⟩<;>rfl,⟨_,rfl⟩,?_⟩;refine AO (A7 (A7 (A1 rfl (A1 rfl (AH (ds:=Bw 68 lf) rfl (row_at hk) (AG (EA ⟨_,rfl,rfl,?_⟩)))))));by_cases h:0<lf k
  .rw[gc (by simpa using h),gc h];exact⟨_,rfl,A1 rfl ⟨rfl,rfl⟩⟩
  .rw[gf (by simpa using h),gf h]
 rw[KS (λk=>0<lf k) id,map_id];refine A6 ?_;have hU:∀k,k∈(71 68).filter (λk=>decide (0<lf k))↔k<68/\0<lf k:=λk=>by simp
 have lU:((71 68).filter λk=>decide (0<lf k)).length<=8:=by
  have:((71 68).filter λk=>decide (0<lf k)).length<=(71 68).length:=j9 _ _;simp at this;omega
 generalize (71 68).filter (λk=>decide (0<lf k))=U at hU lU;have jU:j0∈U:=(hU j0).mpr ⟨j0n,j00⟩;have neU:U≠[]:=λh=>by rw[h]at jU;cases jU
 change WS _ (Lr ws t (some (.mu (Hr ws lf P g).length)) z7 z8) (Hr ws lf P (g++[.lst (Bp U)])) _
 -- t
 obtain⟨m,em,m1,m2⟩:=Ou (L:=U.map (cmN ws)) (by simpa using neU);refine AB (AL (BJ (A3 (A1 rfl (A3 (BA (Ah (EY (A1 rfl ⟨_,Bp U,rfl,hnG,AT 79,?_⟩)))))))));refine B0 (xs:=U) (λk:Nat=>D.im 94) (λk=>some (.im (.int (cmN ws k:Int)))) (λ_ ls=>∃x,ls=[some x,some (.mu 0)]) _ (by intro p hp;rw[gK]at hp;subst hp;exact hnG) ?_ ?_
 .rintro k hk ls hls;refine⟨[some (.im 94),some (.mu 0)],by rcases hls with rfl|⟨_,x,rfl⟩<;>rfl,⟨_,rfl⟩,BV ⟨rfl,?_⟩⟩;rw[gc rfl];exact⟨_,rfl,A7 (A1 rfl (A1 rfl (AH (ds:=Bw 68 (cmN ws)) rfl (row_at ((hU k).mp hk).1) ⟨rfl,rfl⟩)))⟩
 have e1:(U.filterMap λk=>some (D.im (.int (cmN ws k:Int))))=(U.map (cmN ws)).map λk:Nat=>D.im 94:=by simp
 rw[e1];refine⟨_,em,A4 (Fr (A6 ?_))⟩;obtain⟨t',ht'⟩:∃t',t'=max t m:=⟨_,rfl⟩
 rw[show max (t:Int) (m:Int)=(t':Int) by omega];have mU:∃j,j<68/\0<lf j/\cmN ws j=m:=by
  obtain⟨j,hj,e⟩:=mem_map.mp m1;exact⟨j,((hU j).mp hj).1,((hU j).mp hj).2,e⟩
 have mle:∀j,j<68->0<lf j->m<=cmN ws j:=λj h1 h2=>m2 _ (mem_map.mpr ⟨j,(hU j).mpr ⟨h1,h2⟩,rfl⟩);generalize ea6:(Hr ws lf P g).length=a6;have ea6:a6=3+g.length:=by rw[<- ea6];simp;omega
 change WS _ (Lr ws t' (some (.mu a6)) z7 z8) _ _;have h6:∀(lf':Nat->Nat) (P':List Pc) (g':Hd),(Hr ws lf' P' (g++.lst (Bp U)::g'))[a6]?=some (.lst (Bp U)):=λlf' P' g'=>by rw[ea6,show 3+g.length=g.length+3 by omega];simp
 -- the work
 refine AB (AL (Sz (B9 (Ah (EY (A1 rfl ⟨_,Bp U,rfl,h6 lf P [],AT 79,?_⟩))))));refine B0 (xs:=U) (λk:Nat=>D.im 94) (λk=>if cmN ws k<=t' then some (.im (.int ((id k:Nat):Int)))else none) (λ_ ls=>∃x,ls=[some x,some (.mu 0),some (.im (.int (t':Int)))]) _ (by intro p hp;rw[gK]at hp;subst hp;exact h6 lf P []) ?_ ?_
 .rintro k hk ls hls;refine⟨[some (.im 94),some (.mu 0),some (.im (.int (t':Int)))],by rcases hls with rfl|⟨_,x,rfl⟩<;>rfl,⟨_,rfl⟩,?_⟩;refine AO (A7 (A7 (A1 rfl (A1 rfl (AH (ds:=Bw 68 (cmN ws)) rfl (row_at ((hU k).mp hk).1) (A1 rfl (GF ⟨_,rfl,rfl,?_⟩)))))));by_cases h:cmN ws k<=t'
  .rw[gc (by simpa using h),gc h];exact⟨_,rfl,A1 rfl ⟨rfl,rfl⟩⟩
  .rw[gf (by simpa using h),gf h]
 rw[KS (λk=>cmN ws k<=t') id,map_id];have hV:∀k,k∈U.filter (λk=>decide (cmN ws k<=t'))↔(k<68/\0<lf k)/\cmN ws k<=t':=λk=>by rw[mem_filter,hU];simp
 have neV:U.filter (λk=>decide (cmN ws k<=t'))≠[]:=λh=>by
  obtain⟨j,h1,h2,h3⟩:=mU;have:=(hV j).mpr ⟨⟨h1,h2⟩,by omega⟩;rw[h]at this;cases this
 generalize U.filter (λk=>decide (cmN ws k<=t'))=V at hV neV;cases V with
 |nil=>exact absurd rfl neV
 |cons v0 vs=>
 obtain⟨g2,eg2⟩:∃g2,g2=g++[.lst (Bp U)]:=⟨_,rfl⟩
 rw[<- eg2];have h6':∀(lf':Nat->Nat) (P':List Pc) (g':Hd),(Hr ws lf' P' (g2++g'))[a6]?=some (.lst (Bp U)):=λlf' P' g'=>by rw[eg2,iQ];exact h6 lf' P' g'
 refine⟨D.im (.int (v0:Int)),Bp vs,kfL lf,lvG,λy hy=>?_,?_⟩
 .have hy:y∈Bp (v0::vs):=hy;obtain⟨k,hk,rfl⟩:=mem_map.mp hy;have:=cP (ws:=ws) (lf:=lf) (P:=P) (g:=g2++[.lst (Bp (v0::vs))]) ((hV k).mp hk).1.1;simp only[kfL,gV];exact this
 have bm:=Hw (kfL lf) (Bp vs) (D.im (.int (v0:Int)));generalize Cn (Bp vs) ((Bp vs).map (kfL lf)) (D.im (.int (v0:Int))) (kfL lf (D.im (.int (v0:Int))))=db at bm ⊢;obtain⟨b1,b2⟩:=bm;obtain⟨k,hk,rfl⟩:=mem_map.mp (show db∈Bp (v0::vs)from b1);have km:∀j∈v0::vs,lf k<lf j∨lf k=lf j/\k<=j:=λj hj=>by
  have:=b2 (D.im (.int (j:Int))) (show _∈Bp (v0::vs)from mem_map.mpr ⟨j,hj,rfl⟩);unfold leP ltZ at this;have:=of_decide_eq_false this;simp only[kfL,gV]at this;omega
 obtain⟨⟨kn,k0⟩,kc⟩:=(hV k).mp hk;refine A6 ?_;change WS _ (Lr ws t' (some (.mu a6)) (some (.im 94)) z8) (Hr ws lf P (g2++[.lst (Bp (v0::vs))])) _;generalize Bp (v0::vs)=vD;obtain⟨g3,eg3⟩:∃g3,g3=g2++[.lst vD]:=⟨_,rfl⟩
 rw[<- eg3];have h6a:∀(lf':Nat->Nat) (P':List Pc) (g':Hd),(Hr ws lf' P' (g3++g'))[a6]?=some (.lst (Bp U)):=λlf' P' g'=>by rw[eg3,iQ];exact h6' lf' P' _
 -- the stop
 refine AB (AL (BA (YJ (B9 (Bg (A3 (A7 (A1 rfl (A7 (A1 rfl (A1 rfl (AH (ds:=Bw 68 lf) rfl (row_at kn) (Bm (A4 ⟨Dk,?_⟩))))))))))))));refine B9 (Ah (EY (A1 rfl ⟨_,Bp U,rfl,h6a lf P _,AT 79,?_⟩)));refine B0 (xs:=U) (λk:Nat=>D.im 94) (λk=>if t'<cmN ws k then some (.im (.int (cmN ws k:Int)))else none) (λ_ ls=>∃x,ls=[some x,some (.mu 0),some (.im (.int (t':Int)))]) _ (by intro p hp;rw[gK]at hp;subst hp;exact h6a lf P _) ?_ ?_
 .rintro j hj ls hls;refine⟨[some (.im (.int (j:Int))),some (.mu 0),some (.im (.int (t':Int)))],by rcases hls with rfl|⟨_,x,rfl⟩<;>rfl,⟨_,rfl⟩,?_⟩;refine AO (A7 (A7 (A1 rfl (A1 rfl (AH (ds:=Bw 68 (cmN ws)) rfl (row_at ((hU j).mp hj).1) (A1 rfl (EA ⟨_,rfl,rfl,?_⟩)))))));by_cases h:t'<cmN ws j
  .rw[gc (by simpa using h),gc h];exact⟨_,rfl,A7 (A1 rfl (A1 rfl (AH (ds:=Bw 68 (cmN ws)) rfl (row_at ((hU j).mp hj).1) ⟨rfl,rfl⟩)))⟩
  .rw[gf (by simpa using h),gf h]
 rw[KS (λk=>t'<cmN ws k) (cmN ws)];have hB:∀x,x∈(U.filter λk=>decide (t'<cmN ws k)).map (cmN ws)↔∃j,j<68/\0<lf j/\t'<cmN ws j/\cmN ws j=x:=λx=>by
  rw[mem_map];constructor
  .rintro⟨j,hj,e⟩;obtain⟨h1,h2⟩:=mem_filter.mp hj;exact⟨j,((hU j).mp h1).1,((hU j).mp h1).2,by simpa using h2,e⟩
  .rintro⟨j,h1,h2,h3,e⟩;exact⟨j,mem_filter.mpr ⟨(hU j).mpr ⟨h1,h2⟩,by simpa using h3⟩,e⟩
 have lB:((U.filter λk=>decide (t'<cmN ws k)).map (cmN ws)).length<=8:=by
  rw[gy];exact gQ (j9 _ _) lU
 generalize (U.filter λk=>decide (t'<cmN ws k)).map (cmN ws)=B at hB lB;obtain⟨s,es,s1,s2⟩:=Ou (L:=(t'+lf k)::B) 77;refine⟨_,_,[.im (.int ((t':Int)+(lf k:Int)))],Bp B,rfl,rfl,(by rw[List.getElem?_append_left 77];simp),77,AT 79,?_⟩;have ecat:[D.im (.int ((t':Int)+(lf k:Int)))]++Bp B=((t'+lf k)::B).map λk:Nat=>D.im 94:=by simp
 rw[ecat];refine⟨_,es,A6 ?_⟩;have X:Tn 68 (cmN ws) lf t t' k s:=by
  refine⟨by omega,λh j h1 h2=>by have:=mle j h1 h2;omega,kn,k0,kc,λj h1 h2 h3=>km j ((hV j).mpr ⟨⟨h1,h2⟩,h3⟩),?_,s2 _ 77,λj h1 h2 h3=>s2 _ (gi _ ((hB _).mpr ⟨j,h1,h2,h3,rfl⟩)),?_⟩
  .rcases mem_cons.mp s1 with e|e
   .omega
   .obtain⟨j,_,_,h3,e⟩:=(hB s).mp e;omega
  .rcases mem_cons.mp s1 with e|e
   .exact .inl e
   .obtain⟨j,h1,h2,h3,e⟩:=(hB s).mp e;exact .inr ⟨j,h1,h2,h3,e.symm⟩
 obtain⟨g4,eg4⟩:∃g4,g4=g3++[MO.lst [.im (.int ((t':Int)+(lf k:Int)))],.lst (Bp B)]:=⟨_,rfl⟩
 have eh:(Hr ws lf P g3++[MO.lst [.im (.int ((t':Int)+(lf k:Int)))]])++[MO.lst (Bp B)]=Hr ws lf P g4:=by rw[eg4];simp
 rw[eh];clear eh eg4;change WS _ (Lr ws t' (some (.mu a6)) (some (.im 94)) (some (.im (.int (s:Int))))) (Hr ws lf P g4) _;refine AB (Aq (Dy (A3 (A1 rfl (A3 (A1 rfl (A3 (A1 rfl (A3 (A1 rfl (A4 ((OM (P:=P) (i:=2) rfl 67 k (t':Int) (s:Int)).mono ?_))))))))))));rintro d x ⟨rfl,rfl⟩;refine A6 ?_;change WS _ _ (Hr ws lf (FF P k (t':Int) (s:Int)) g4) _;have ss:=X.s0;have s9:=X.s1;refine AB (Vb (A1 rfl (A1 rfl ⟨1,(k:Int),Bw 68 lf,k,(lf k:Int),rfl,rfl,rfl,?_,?_,A7 (A1 rfl (A1 rfl (CQ ⟨_,Bw 68 lf,rfl,rfl,rfl,A6 (AL (A1 rfl ?_))⟩)))⟩)))
 .unfold ixN;rw[gc 67,gc 79];simp
 .simp[kn]
 .have e9:(lf k:Int)-((s:Int)-(t':Int))=((lf k-(s-t'):Nat):Int):=by omega
  rw[e9,Vw kn];have e8:Bw 68 (λj=>if j=k then lf k-(s-t')else lf j)=Bw 68 (λj=>if j=k then lf j-(s-t')else lf j):=by
   refine j3 λj _=>?_;dsimp only;by_cases q:j=k
   .subst q;rfl
   .rw[gf q,gf q]
  rw[e8];exact hQ t' k s g4 _ _ _ X
structure Lp(ws:List Wk)(P:List Pc):Prop where
 ex:∃lf t G,St 68 (lnN ws) (cmN ws) lf P t G/\∀j,j<68->lf j=0
 le:P.length<=16
def cE(n:Nat)(cm lf:Nat->Nat)(t:Nat):mu n cm lf t<=2*n:=by
 unfold mu;have h1:=List.countP_le_length (p:=λj=>decide (0<lf j)) (l:=71 n);have h2:=List.countP_le_length (p:=λj=>decide (0<lf j/\t<cm j)) (l:=71 n);simp only[List.length_range]at h1 h2;omega
def YB(n:Nat)(lf:Nat->Nat):Jg (Bw n lf)=some (.im (.bl (decide (∃j,j<n/\0<lf j)))):=by
 have e:Bw n lf=((71 n).map λk=>(lf k:Int)).map λi=>D.im (.int i):=by simp
 unfold Jg;rw[e,EU,gR]
 congr 3
 rw[Bool.eq_iff_iff];simp only[List.any_map,List.any_eq_true,List.mem_range,iE,Function.comp,bne_iff_ne];constructor
 .rintro⟨j,h1,h2⟩;exact⟨j,h1,by omega⟩
 .rintro⟨j,h1,h2⟩;exact⟨j,h1,by omega⟩
def Tm{w:Int}{ws:List Wk}(W:EW w ws):WF DH [.im (AV ws),.mu 0,.fv 0 []] [.lst (Bw 68 (cmN ws))] λd _=>∃P,d=.im (.tup (P.map Ar))/\Lp ws P:=by
 have n8:=W.n8;unfold DH;refine Ac rfl ?_;refine AB (AL (B9 (Ah (BP (A1 rfl ⟨_,rfl,?_⟩)))));rw[Eu];refine⟨AT 79,?_⟩;refine B0 wkD (λz=>some (.im (.int z.len))) (λ_ ls=>∃x,ls=[some x]) _ (AJ _) ?_ ?_
 .rintro z hz ls hls;refine⟨[some (wkD z)],by rcases hls with rfl|⟨_,x,rfl⟩<;>rfl,⟨_,rfl⟩,BV ⟨rfl,?_⟩⟩;rw[gc rfl];exact⟨_,rfl,A7 (A1 rfl (AG (AH rfl (Du _ _) ⟨rfl,rfl⟩)))⟩
 have e0:(ws.filterMap λz=>some (D.im (.int z.len)))=Bw 68 (lnN ws):=by
  refine iG λi=>?_;by_cases hi:i<68
  .have:=(CS W hi).1;simp[hi,this]
  .rw[List.getElem?_eq_none 79,List.getElem?_eq_none 79]
 rw[e0];refine A6 (AB (AL (B9 (Bg (A4 ⟨Dm,A6 ?_⟩)))));refine AB (AL (AG (A6 ?_)));change WS _ (Lr ws 0 none none none) (Hr ws (lnN ws) [] []) _;have m0:=cE 68 (cmN ws) (lnN ws) 0;refine AB (Sr (I_r ws) (n:=mu 68 (cmN ws) (lnN ws) 0) ⟨_,_,_,_,_,_,_,_,rfl,rfl,rfl,St.start _ _ _ λj hj=>(CS W hj).2.1,by simp;omega⟩ ?_);rintro m ls hd ⟨lf,P,t,G,g,z6,z7,z8,em,rfl,rfl,S,pl⟩;refine BL (BJ (A3 (A1 rfl (A4 (C0 (ds:=Bw 68 lf) rfl (YB 68 lf) ⟨_,rfl,?_⟩)))));by_cases h:∃j,j<68/\0<lf j
 .rw[gc (by simpa using h)];refine YM W S 67 h λt' k s g z6 z7 z8 X=>?_;obtain⟨⟨G',S'⟩,l',m'⟩:=S.turn X;exact⟨_,by rw[em];exact m',_,_,_,G',g,_,_,_,rfl,rfl,rfl,S',by omega⟩
 .rw[gf (by simpa using h)];refine A6 (AY (BJ (A3 (A1 rfl (A4 (C0 (ds:=pcD P) (z:=.im (.tup (P.map Ar))) rfl ?_ ?_))))))
  .show some (AW (pcD P))=_;rw[show pcD P=(P.map Ar).map D.im by simp,BG]
  .exact⟨P,rfl,⟨lf,t,G,S,λj hj=>by
    refine Classical.byContradiction λq=>h ⟨j,hj,by omega⟩⟩,by omega⟩
def aO{w:Int}{ws:List Wk}(W:EW w ws):WF C9 [.im (AV ws)] [] λd _=>∃P,d=.im (.tup (P.map Ar))/\Lp ws P:=by
 have n8:=W.n8;unfold C9;refine Ac rfl ?_;refine AB (Aq (AC (A3 (A1 rfl (A4 ⟨by simp,(Hj W).mono ?_⟩)))));rintro d x rfl;refine⟨_,rfl,A6 ?_⟩;refine AY (Dy (A3 (A1 rfl (A3 (B9 (Ah (BP (A1 rfl ⟨_,rfl,?_⟩))))))));rw[Eu];refine⟨AT 79,?_⟩;refine B0 wkD (λz=>some (.im (.int z.com))) (λ_ ls=>∃x,ls=[some x]) _ (AJ _) ?_ ?_
 .rintro z hz ls hls;refine⟨[some (wkD z)],by rcases hls with rfl|⟨_,x,rfl⟩<;>rfl,⟨_,rfl⟩,BV ⟨rfl,?_⟩⟩;rw[gc rfl];exact⟨_,rfl,A7 (A1 rfl (AG (AH rfl (E9 _ _ _) ⟨rfl,rfl⟩)))⟩
 have e0:(ws.filterMap λz=>some (D.im (.int z.com)))=Bw 68 (cmN ws):=by
  refine iG λi=>?_;by_cases hi:i<68
  .have:=(FC W hi).1;simp[hi,this]
  .rw[List.getElem?_eq_none 79,List.getElem?_eq_none 79]
 rw[e0];exact A3 (Vg (A4 ((Tm W).mono λd x h=>h)))
end T48
namespace T48.Tb
open PySem L2 Bd
structure Wm where
 len:Int
 com:Int
 due:Int
 wt:Int
noncomputable def wmI(w:Wm):I:=.tup [.int w.len,.int w.com,.tup [.str "miss",.int w.due,.int w.wt]]
noncomputable abbrev wmD(w:Wm):D:=.im (wmI w)
noncomputable abbrev wmsI(ws:List Wm):I:=.tup (ws.map wmI)
def CU(ws:List Wm):(ws.map wmI).map D.im=ws.map wmD:=by rw[gH];rfl
def okM(B c:Int)(w:Wm):Prop:=(1<=w.len/\w.len<=20)/\w.com=c/\(-B<=w.due/\w.due<=B)/\0<=w.wt/\w.wt<=9
def okMs(B c:Int)(ws:List Wm):Prop:=ws≠[]/\68<=8/\(0<=c/\c<=60)/\∀w∈ws,okM B c w
def FS(ns:List Int):Am (intD ns)=some ns:=by
 induction ns with
 |nil=>rfl
 |cons n r ih=>simp[intD]at ih ⊢
def FH{ws:List Wm}{k:Nat}(hk:k<68):atI (ws.map wmD) (k:Int)=some (wmD ws[k]):=FE rfl (by simp[hk])
def Uu{B c:Int}{ws:List Wm}(ok:okMs B c ws):WF Dw [.im (wmsI ws)] [] λd x=>d=.im (.int c):=by
 obtain⟨hne,hl8,hc,hws⟩:=ok;have hl0:0<ws.length:=DR hne;unfold Dw;refine Ac rfl ?_;refine AB (AL (AC (A3 (A1 rfl (A4 ⟨by simp,?_⟩)))));have e0:(ws[0]).com=c:=(hws _ (List.getElem_mem hl0)).2.1;have S:WF DG [.im (wmsI ws)] [] λd x=>d=.im (.int c):=by
  unfold DG;refine Ac rfl ?_;refine AB (AL (A7 (A7 (A1 rfl (AG (AH (by rw[Dc,CU]) (FH (k:=0) hl0) ?_))))));refine AG (AH (ds:=[.im (.int (ws[0]).len),.im (.int (ws[0]).com),.im (.tup [.str "miss",.int (ws[0]).due,.int (ws[0]).wt])]) rfl (E9 _ _ _) (A6 ?_));rw[e0];refine AB (Af (BL (BA (Ah (BP (A1 rfl ⟨_,rfl,?_⟩))))));rw[CU];refine⟨AT 79,?_⟩;refine B0 wmD (λ_=>some (.im (.bl true))) (λ_ ls=>∃x,ls=[some x,some (.im (.int c))]) _ (AJ _) ?_ ?_
  .rintro p hp ls hls;refine⟨[some (wmD p),some (.im (.int c))],by rcases hls with rfl|⟨_,x,rfl⟩<;>rfl,⟨_,rfl⟩,BV ⟨rfl,?_⟩⟩;rw[gc rfl];refine⟨_,rfl,A7 (A7 (A1 rfl (AG (AH (ds:=[.im (.int p.len),.im (.int p.com),.im (.tup [.str "miss",.int p.due,.int p.wt])]) rfl (E9 _ _ _) (A1 rfl (Cf ⟨rfl,?_⟩))))))⟩;simp[(hws p hp).2.1]
  have e:(ws.filterMap λ_=>some (D.im (.bl true)))=blD (ws.map λ_=>true):=by simp[blD]
  rw[e];refine⟨_,by rw[Ga,blsD_map];rfl,_,rfl,?_⟩;refine⟨λ_=>?_,(λh=>by simp at h)⟩;exact AY (A1 rfl rfl)
 refine S.mono ?_;rintro d x rfl;refine⟨_,rfl,A6 ?_⟩;refine AB (Af (AO ?_));refine WP.eq (z:=.im (.bl false)) (h:=[]) (by simp[Cc]) ⟨_,rfl,(λh=>by cases h),λ_=>AX (A6 ?_)⟩;exact AY (A1 rfl rfl)
def refuse_w{B c:Int}{ws:List Wm}(ok:okMs B c ws):WF Ao [.im (wmsI ws),.im (.str "miss")] [] λd x=>d=.im .non:=by
 have hl8:=ok.2.1;unfold Ao;refine Ac rfl ?_;refine Af (BL (BA (Ah (BP (A1 rfl ⟨_,rfl,?_⟩)))));rw[CU];refine⟨AT 79,?_⟩;refine B0 wmD (λ_=>some (.im (.bl false))) (λ_ ls=>∃x,ls=[some x,some (.im (.str "miss"))]) _ (AJ _) ?_ ?_
 .rintro p hp ls hls;refine⟨[some (wmD p),some (.im (.str "miss"))],by rcases hls with rfl|⟨_,x,rfl⟩<;>rfl,⟨_,rfl⟩,BV ⟨rfl,?_⟩⟩;rw[gc rfl];refine⟨_,rfl,A7 (A7 (A7 (A1 rfl (AG (AH (ds:=[.im (.int p.len),.im (.int p.com),.im (.tup [.str "miss",.int p.due,.int p.wt])]) rfl (Ef _ _ _ _) (AG (AH (ds:=[.im (.str "miss"),.im (.int p.due),.im (.int p.wt)]) rfl (Du _ _) (A1 rfl (HB ⟨rfl,?_⟩)))))))))⟩;simp
 have e:(ws.filterMap λ_=>some (D.im (.bl false)))=blD (ws.map λ_=>false):=by simp[blD]
 rw[e];refine⟨_,by rw[GZ,blsD_map];rfl,_,rfl,?_⟩;exact⟨(λh=>by simp at h),λ_=>AX rfl⟩
def NI{B c:Int}{ws:List Wm}(ok:okMs B c ws):WF Bz [.im (wmsI ws)] [] λd x=>d=.im (.int c):=by
 unfold Bz;refine Ac rfl ?_;refine AB (AL (AC (A3 (A1 rfl (A4 ⟨by simp,(Uu ok).mono ?_⟩)))));rintro d x rfl;refine⟨_,rfl,A6 ?_⟩;refine AB (Aq (AC (A3 (A1 rfl (A3 (AG (A4 ⟨by simp,(refuse_w ok).mono ?_⟩)))))));rintro d x rfl;exact⟨_,rfl,A6 (AY (A1 rfl rfl))⟩
def weight_w(p:Wm):WF Bl [wmD p] [] λd x=>d=.im (.int p.wt):=by
 unfold Bl;refine Ac rfl ?_;refine AY (A7 (A7 (A1 rfl (AG (AH (ds:=[.im (.int p.len),.im (.int p.com),.im (.tup [.str "miss",.int p.due,.int p.wt])]) rfl (Ef _ _ _ _) ?_)))));refine Ft (AG ⟨_,rfl,?_⟩);refine AH (ds:=[.im (.str "miss"),.im (.int p.due),.im (.int p.wt)]) (e:=.im (.int p.wt)) rfl ?_ rfl;rfl
noncomputable abbrev fullW(ws:List Wm):Int:=(ws.map Wm.wt).sum
def SR{B c:Int}{ws:List Wm}(ok:okMs B c ws):WF CZ [.im (wmsI ws)] [] λd x=>d=.im (.int (fullW ws)):=by
 have hl8:=ok.2.1;unfold CZ;refine Ac rfl ?_;refine AY (BA (Ah (BP (A1 rfl ⟨_,rfl,?_⟩))));rw[CU];refine⟨AT 79,?_⟩;refine B0 wmD (λw=>some (.im (.int w.wt))) (λ_ ls=>∃x,ls=[some x]) _ (AJ _) ?_ ?_
 .rintro p hp ls hls;refine⟨[some (wmD p)],by rcases hls with rfl|⟨_,x,rfl⟩<;>rfl,⟨_,rfl⟩,BV ⟨rfl,?_⟩⟩;rw[gc rfl];refine⟨_,rfl,AC (A3 (A1 rfl (A4 ⟨by simp[wmI],(weight_w p).mono ?_⟩)))⟩;rintro d y rfl;exact⟨_,rfl,rfl,rfl⟩
 have e:(ws.filterMap λw=>some (D.im (.int w.wt)))=intD (ws.map Wm.wt):=by simp[intD]
 rw[e];exact⟨_,by unfold Dj;rw[FS];rfl,rfl⟩
noncomputable def dueOf(ws:List Wm)(k:Nat):Int:=(ws[k]?.map Wm.due).getD 0
noncomputable def duePs(ws:List Wm):List 103:=(71 68).map λk:Nat=>(dueOf ws k,(k:Int))
noncomputable def ordI(ws:List Wm):List Int:=(B4 (duePs ws)).map (·.2)
def Jr{ws:List Wm}{k:Nat}(hk:k<68):(ws[k]).due=dueOf ws k:=by simp[dueOf,hk]
def due_ok{B c:Int}{ws:List Wm}(ok:okMs B c ws)(hB:B<=2000){k:Nat}(hk:k<68):pok (dueOf ws k,(k:Int)):=by
 have:=(ok.2.2.2 _ (List.getElem_mem hk)).2.2.1;rw[Jr hk]at this;have:=ok.2.1;unfold pok;dsimp only;omega
def Rs{p q:Int×Int}(hp:pok p)(hq:pok q)(h:AZ p=AZ q):p=q:=by
 unfold pok at hp hq;unfold AZ at h;have:p.1=q.1:=by omega
 have:p.2=q.2:=by omega
 exact Prod.ext (by assumption) (by assumption)
def Zz{B c:Int}{ws:List Wm}(ok:okMs B c ws)(hB:B<=2000){ms:List Int}(pm:ms.Perm ((71 68).map λk:Nat=>(k:Int)))(pw:ms.Pairwise λa b=>AZ (dueOf ws a.toNat,a)<=AZ (dueOf ws b.toNat,b)):ms=ordI ws:=by
 have p1:(ms.map λn:Int=>(dueOf ws n.toNat,n)).Perm (duePs ws):=by
  have:=pm.map λn:Int=>(dueOf ws n.toNat,n)
  rw[gH]at this;exact this
 have p2:(B4 (duePs ws)).Perm (duePs ws):=iZ ..;have w2:(B4 (duePs ws)).Pairwise λa b=>AZ a<=AZ b:=by
  have:=j8 (le:=λa b:Int×Int=>decide (AZ a<=AZ b)) (by intro a b c h1 h2;simp at *;omega) (by intro a b;simp;omega) (duePs ws);exact this.imp 77
 have w1:(ms.map λn:Int=>(dueOf ws n.toNat,n)).Pairwise λa b=>AZ a<=AZ b:=pairwise_map.mpr pw;have okd:∀a∈duePs ws,pok a:=λa ha=>by
  obtain⟨k,hk,rfl⟩:=mem_map.mp ha;exact due_ok ok hB (by simpa using hk)
 have e:(ms.map λn:Int=>(dueOf ws n.toNat,n))=B4 (duePs ws):=(p1.trans p2.symm).eq_of_pairwise (le:=λa b=>AZ a<=AZ b) (λa b ha hb h1 h2=>Rs (okd a (p1.mem_iff.mp ha)) (okd b (p2.mem_iff.mp hb)) (Int.le_antisymm h1 h2)) w1 w2;unfold ordI;rw[<- e,gH];have:((λx:Int×Int=>x.2) ∘ λn:Int=>(dueOf ws n.toNat,n))=id:=rfl;rw[this,map_id]
def Hu{B c:Int}{ws:List Wm}(ok:okMs B c ws)(hB:B<=2000):WF DX [.im (wmsI ws)] [] λd x=>d=.mu 0/\x=[.lst (intD (ordI ws))]:=by
 have hl8:=ok.2.1;unfold DX;refine Ac rfl ?_;refine AY (B9 (Qv (A3 (BJ (A3 (A1 rfl (A4 (C0 rfl rfl (A4 ⟨68,by simp,by omega,λn=>(dueOf ws n.toNat,n),λk hk=>due_ok ok hB hk,λa ha b hb e=>?_,λk hk=>?_,λms pm pw=>?_⟩)))))))))
 .have:=Rs (p:=(dueOf ws ((a:Int)).toNat,(a:Int))) (q:=(dueOf ws ((b:Int)).toNat,(b:Int))) (due_ok ok hB ha) (due_ok ok hB hb) e;have:=i3 Prod.snd this;dsimp only at this;omega
 .have w:WE (BW (A2 (mOp gIx (mOp gIx (mOp gIx (A0 1) 85) (mC (.int 2))) 99) (A2 85 A5))) [some (.im 94),some (.im (wmsI ws))] [] λd x=>d=Ak (dueOf ws k,(k:Int))/\x=[]:=by
   refine B8 (A3 (A7 (A7 (A7 (A1 rfl (A1 rfl (AH (by rw[Dc,CU]) (FH hk) (AG (AH (ds:=[.im (.int (ws[k]).len),.im (.int (ws[k]).com),.im (.tup [.str "miss",.int (ws[k]).due,.int (ws[k]).wt])]) rfl (Ef _ _ _ _) (AG (AH (ds:=[.im (.str "miss"),.im (.int (ws[k]).due),.im (.int (ws[k]).wt)]) rfl (E9 _ _ _) (A3 (A1 rfl (A4 ⟨Cm,?_,rfl⟩))))))))))))));rw[Jr hk];rfl
  obtain⟨d,x,e,rfl,rfl⟩:=w;exact e
 .rw[Zz ok hB pm pw];exact⟨rfl,rfl⟩
end T48.Tb
namespace Lt
def IsMin(E:List Int)(o:Option Int):Prop:=(o=none/\E=[])∨∃m,o=some m/\m∈E/\∀e∈E,m<=e
def LB:IsMin [] none:=.inl ⟨rfl,rfl⟩
noncomputable def fq(o:Option Int)(e:Int):Option Int:=match o with|none=>some e|some x=>if e<x then some e else some x
noncomputable def comb(kept more:Option Int):Option Int:=match more with|none=>kept|some y=>match kept with|some x=>if x<=y then some x else some y|none=>some y
theorem IsMin.comb{A B:List Int}{o o':Option Int}(h:IsMin A o)(h':IsMin B o'):IsMin (A++B) (comb o o'):=by
 rcases h' with⟨rfl,rfl⟩|⟨y,rfl,hy,ly⟩
 .rw[i4];exact h
 .rcases h with⟨rfl,rfl⟩|⟨x,rfl,hx,lx⟩
  .exact .inr ⟨y,rfl,by simpa using hy,by simpa using ly⟩
  .unfold Lt.comb;dsimp only;split
   .exact .inr ⟨x,rfl,by simp[hx],λe he=>by rcases mem_append.mp he with q|q;exact lx e q;have:=ly e q;omega⟩
   .exact .inr ⟨y,rfl,by simp[hy],λe he=>by rcases mem_append.mp he with q|q;have:=lx e q;omega;exact ly e q⟩
noncomputable def behind(l d:Int)(o:Option Int):Option Int:=match o with|none=>none|some x=>if x+l<=d then some (x+l)else none
theorem IsMin.behind{A:List Int}{o:Option Int}(l d:Int)(h:IsMin A o):IsMin ((A.map (·+l)).filter λe=>decide (e<=d)) (behind l d o):=by
 rcases h with⟨rfl,rfl⟩|⟨x,rfl,hx,lx⟩
 .exact LB
 .unfold Lt.behind;dsimp only;split
  .next q=>
   refine .inr ⟨x+l,rfl,mem_filter.mpr ⟨mem_map.mpr ⟨x,hx,rfl⟩,by simpa using q⟩,λe he=>?_⟩;obtain⟨z,hz,rfl⟩:=mem_map.mp (mem_filter.mp he).1;have:=lx z hz;omega
  .next q=>
   refine .inl ⟨rfl,List.filter_eq_nil_iff.mpr λe he=>?_⟩;obtain⟨z,hz,rfl⟩:=mem_map.mp he;have:=lx z hz;simp;omega
noncomputable abbrev En:=Nat×Nat×Int
noncomputable abbrev Wx:=Int×Int×Nat
noncomputable def more(i:Nat)(w:Wx)(E:List En):List En:=(E.filter λe=>decide (e.2.2+w.1<=w.2.1)).map λe=>(i+1,e.2.1+w.2.2,e.2.2+w.1)
noncomputable def AQ(c:Int):List Wx->Nat->List En
 |_,0=>[(0,0,c)]
 |L,i+1=>AQ c L i++(match L[i]? with|some w=>more i w (AQ c L i)|none=>[])
noncomputable def sel(w:Nat)(E:List En):List Int:=(E.filter λe=>decide (e.2.1=w)).map λe=>e.2.2
def OW(w:Nat)(E F:List En):sel w (E++F)=sel w E++sel w F:=by simp[sel]
def TQ(i:Nat)(x:Wx)(w:Nat)(E:List En):sel w (more i x E)=if w<x.2.2 then []else((sel (w-x.2.2) E).map (·+x.1)).filter λe=>decide (e<=x.2.1):=by
 induction E with
 |nil=>simp[more,sel]
 |cons e r ih=>
  have em:more i x (e::r)=(if e.2.2+x.1<=x.2.1 then [(i+1,e.2.1+x.2.2,e.2.2+x.1)]else [])++more i x r:=by
   unfold more;rw[gP];by_cases q:e.2.2+x.1<=x.2.1<;>simp[q]
  rw[em,OW,ih];by_cases hw:w<x.2.2
  .rw[gc hw,gc hw,i4];by_cases q:e.2.2+x.1<=x.2.1
   .have:¬ e.2.1+x.2.2=w:=by omega
    simp[q,sel,this]
   .simp[q,sel]
  .rw[gf hw,gf hw];have ec:sel (w-x.2.2) (e::r)=(if e.2.1=w-x.2.2 then [e.2.2]else [])++sel (w-x.2.2) r:=by
    unfold sel;rw[gP];by_cases q:e.2.1=w-x.2.2<;>simp[q]
   rw[ec,ik,List.filter_append]
   congr 1
   by_cases q1:e.2.2+x.1<=x.2.1
   .by_cases q2:e.2.1=w-x.2.2
    .have e3:w-x.2.2+x.2.2=w:=Nat.sub_add_cancel (Nat.le_of_not_lt hw);simp[q1,q2,sel,e3]
    .have:¬ e.2.1+x.2.2=w:=by omega
     simp[q1,q2,sel,this]
   .by_cases q2:e.2.1=w-x.2.2<;>simp[q1,q2,sel]
noncomputable def As(x:Wx)(f:Nat->Option Int)(w:Nat):Option Int:=comb (f w) (if w<x.2.2 then none else behind x.1 x.2.1 (f (w-x.2.2)))
def next_min{c:Int}{L:List Wx}{i:Nat}{x:Wx}(hx:L[i]?=some x){f:Nat->Option Int}{w:Nat}(h:IsMin (sel w (AQ c L i)) (f w))(h':¬ w<x.2.2->IsMin (sel (w-x.2.2) (AQ c L i)) (f (w-x.2.2))):IsMin (sel w (AQ c L (i+1))) (As x f w):=by
 have e:AQ c L (i+1)=AQ c L i++more i x (AQ c L i):=by rw[AQ,hx]
 rw[e,OW,TQ];unfold As;refine h.comb ?_;by_cases q:w<x.2.2
 .rw[gc q,gc q];exact LB
 .rw[gf q,gf q];exact(h' q).behind _ _
end Lt
namespace T48.Tb
open PySem L2 Bd
noncomputable abbrev enD(q:D×Nat):D:=AW [.im (.int (q.2:Int)),q.1]
open Lt (IsMin comb behind As sel AQ Wx)
def OO{is js:List I}{hd:Hd}{QE:D->Hd->Prop}(h0:is≠[])(h1:is.length+js.length<=100)(q:QE (.im (.tup (is++js))) hd):WP (Aw (.im (.tup is)) (.im (.tup js)) hd) QE:=by
 have cat:VX (is.map D.im) (js.map D.im):=⟨by simpa using h0,AT 79⟩
 refine WP.eq (z:=.im (.tup (is++js))) (h:=hd) ?_ q;show(match KR (.im (.tup is)) (.im (.tup js)) hd with|some z=>some z|none=>Gf (.im (.tup is)) (.im (.tup js)) hd)=_;rw[show KR (.im (.tup is)) (.im (.tup js)) hd=none from rfl];unfold Gf;rw[show Aa (.im (.tup is))=some (is.map D.im)from rfl,show Aa (.im (.tup js))=some (js.map D.im)from rfl,gq,gq,gc cat,<- ik,BG]
def Sx{w:Nat}{F:List D->Hd->Option (D×Hd)}{m:MA}{ls:Ls}{hd pre rest:Hd}{ds:List D}{QE:D->Hd->Prop}(e:m ls hd=some (ds,pre++rest))(hw:pre.length=w)(hc:Az w ds=true)(hp:pre.all (clO w)=true)
 (hF:WF F ds pre λd x=>∃k es pre' g,d=.mu k/\w<=k/\x=pre'++g/\pre'.length=w/\pre'.all (clO w)=true/\x[k]?=some (.lst es)/\Az w es=true/\QE (.mu (w+rest.length)) (pre'++rest++[.lst es])):WE (A8 w F m) ls hd QE:=by
 subst hw;obtain⟨d,x,e2,k,es,pre',g,rfl,hk,rfl,lp,cp,e3,c3,q⟩:=hF;refine⟨_,_,?_,q⟩;have t1:(pre++rest).take pre.length=pre:=by simp
 have t2:(pre'++g).take pre.length=pre':=by rw[<- lp];simp
 have t3:¬ k<pre.length:=by omega
 simp only[A8,e,gq,t1,hc,hp,e2,fin,t2,cp,gf t3,e3,c3,gw];simp
def HD{w:Nat}{F:List D->Hd->Option (D×Hd)}{m:MA}{ls:Ls}{hd:Hd}{QE:D->Hd->Prop}(h:WA m ls hd λds x=>∃pre rest,x=pre++rest/\pre.length=w/\Az w ds=true/\pre.all (clO w)=true/\WF F ds pre λd x=>∃k es pre' g,d=.mu k/\w<=k/\x=pre'++g/\pre'.length=w/\pre'.all (clO w)=true/\x[k]?=some (.lst es)/\Az w es=true/\QE (.mu (w+rest.length)) (pre'++rest++[.lst es])):WE (A8 w F m) ls hd QE:=by
 obtain⟨ds,x,e,pre,rest,rfl,hw,hc,hp,hF⟩:=h;exact Sx e hw hc hp hF
noncomputable def EZ:Option Int->I|none=>.non|some x=>.int x
noncomputable abbrev B6(o:Option Int):D:=.im (EZ o)
def HC{neg:Bool}{ma:ME}{ls:Ls}{hd:Hd}{QE:D->Hd->Prop}(h:WE ma ls hd λd x=>∃o:Option Int,d=B6 o/\QE (.im (.bl (if o.isNone then !neg else neg))) x):WE (Cc neg ma) ls hd QE:=by
 obtain⟨d,x,e,o,rfl,q⟩:=h;refine⟨_,x,?_,q⟩;simp only[Cc,e,gq];cases o<;>rfl
noncomputable def rowI(N:Nat)(f:Nat->Option Int):I:=.tup ((71 N).map λw=>EZ (f w))
def row_at{N:Nat}{f:Nat->Option Int}{w:Nat}(hw:w<N):atI (((71 N).map λw=>EZ (f w)).map D.im) (w:Int)=some (B6 (f w)):=FE rfl (by simp[hw])
noncomputable def wx(p:Wm):Wx:=(p.len,p.due,p.wt.toNat)
def VH{B c:Int}{p:Wm}(ok:okM B c p){N:Nat}(f:Nat->Option Int){w:Nat}(hw:w<N):WF Co [.im (rowI N f),wmD p,.im (.int (w:Int))] [] λd x=>d=B6 (if w<(wx p).2.2 then none else behind (wx p).1 (wx p).2.1 (f (w-(wx p).2.2))):=by
 have h0:=ok.2.2.2;unfold Co;refine Ac rfl ?_;refine AB (Qs (A1 rfl ⟨[some (.im (rowI N f)),some (wmD p),some (.im (.int (w:Int))),some (.im (.int p.len)),some (.im (.int p.com)),some (.im (.str "miss")),some (.im (.int p.due)),some (.im (.int p.wt)),none],rfl,A6 ?_⟩));refine AB (Af (GE (AO (A7 (A1 rfl (A1 rfl (FG ⟨_,rfl,?_⟩)))))));by_cases q:w<(wx p).2.2
 .have q':(w:Int)<p.wt:=by unfold wx at q;dsimp only at q;omega
  rw[gc (by simpa using q'),gc q];exact⟨λ_=>AY (AG rfl),λh=>by cases h⟩
 .have q':¬ (w:Int)<p.wt:=by unfold wx at q;dsimp only at q;omega
  rw[gf (by simpa using q'),gf q];have ek:(w:Int)-p.wt=((w-(wx p).2.2:Nat):Int):=by unfold wx at q ⊢;dsimp only at q ⊢;omega
  have hk:w-(wx p).2.2<N:=by omega
  refine AO (HC (A7 (A1 rfl (A7 (A1 rfl (A1 rfl (CQ ?_)))))));rw[ek];refine AH rfl (row_at hk) ⟨_,rfl,_,rfl,λh=>?_,λh=>AX (A6 ?_)⟩
  .have e:f (w-(wx p).2.2)=none:=by
    cases e:f (w-(wx p).2.2)with
    |none=>rfl
    |some x=>rw[e]at h;simp at h
   refine AY (AG ?_);rw[e];rfl
  .obtain⟨x,e⟩:∃x,f (w-(wx p).2.2)=some x:=by
    cases e:f (w-(wx p).2.2)with
    |none=>rw[e]at h;simp at h
    |some x=>exact⟨x,rfl⟩
   refine AB (AL (A7 (A7 (A1 rfl (A7 (A1 rfl (A1 rfl (CQ ?_))))))));rw[ek];refine AH rfl (row_at hk) ?_;rw[e];refine A1 rfl (Bm (A6 (AY (YH (AO (A7 (A1 rfl (A1 rfl (GF ⟨_,rfl,λh=>?_,λh=>?_⟩)))))))))
   .have h:x+p.len<=p.due:=by simpa using h
    refine A1 rfl ?_;unfold behind wx;dsimp only;rw[gc h];rfl
   .have h:¬ x+p.len<=p.due:=by simpa using h
    refine AG ?_;unfold behind wx;dsimp only;rw[gf h];rfl
noncomputable def nm(one other:Option Int):Bool:=match other with|none=>true|some y=>match one with|some x=>decide (x<=y)|none=>false
def Y8(a b:Option Int):comb a b=if nm a b=true then a else b:=by
 cases b with
 |none=>simp[comb,nm]
 |some y=>
  cases a with
  |none=>simp[comb,nm]
  |some x=>simp[comb,nm]
def FN(a b:Option Int):WF Cp [B6 a,B6 b] [] λd x=>d=.im (.bl (nm a b)):=by
 unfold Cp;refine Ac rfl ?_;refine AY (YG (AO (HC (A1 rfl ⟨b,rfl,_,rfl,?_⟩))));cases b with
 |none=>rfl
 |some y=>
  rw[gf 77];refine K0 (AO (HC (A1 rfl ⟨a,rfl,_,rfl,?_⟩)));cases a with
  |none=>rfl
  |some x=>
   rw[gc 77];exact A7 (A1 rfl (A1 rfl (GF rfl)))
inductive I_next_row_w(p:Wm)(N:Nat)(f:Nat->Option Int)(r:List D)(ls:Ls)(hd:Hd):Prop
 |mk (j:Nat) (z3 z4 z5:Option D) (h0:j<=N) (h1:r=(((List.range' j (N-j)).map λw=>B6 (f w)).zipIdx j).map enD) (h2:ls=[some (.im (rowI N f)),some (wmD p),some (.mu 0),z3,z4,z5]) (h3:hd=[.lst ((71 j).map λw=>B6 (As (wx p) f w))]):I_next_row_w p N f r ls hd
def QD{B c:Int}{p:Wm}(ok:okM B c p){N:Nat}(hN:N<=100)(f:Nat->Option Int):WF Em [.im (rowI N f),wmD p] [] λd x=>d=.im (rowI N (As (wx p) f)):=by
 unfold Em;refine Ac rfl ?_;refine AB (AL (B9 (Bg (A4 ⟨Dm,A6 ?_⟩))));refine AB (BM (Dx (BP (A1 rfl ⟨((71 N).map λw=>EZ (f w)).map D.im,rfl,?_⟩))));change WP (B2 _ _ _ (((((71 N).map λw=>EZ (f w)).map D.im).zipIdx 0).map enD) [some (.im (rowI N f)),some (wmD p),some (.mu 0),none,none,none] [.lst []]) _;have e0:((71 N).map λw=>EZ (f w)).map D.im=(List.range' 0 (N-0)).map λw=>B6 (f w):=by rw[gH,List.range_eq_range',Nat.sub_zero];rfl
 rw[e0];refine BD (I_next_row_w p N f) ⟨0,none,none,none,by omega,rfl,rfl,rfl⟩ ?_ ?_
 .rintro d r ls hd ⟨j,z3,z4,z5,hj,er,rfl,rfl⟩;obtain⟨m,hm⟩:∃m,N-j=m+1:=by
   cases q:N-j with
   |zero=>rw[q]at er;cases er
   |succ m=>exact⟨m,rfl⟩
  rw[hm,List.range'_succ,gm,iS,gm]at er;obtain⟨rfl,rfl⟩:=List.cons.inj er;refine⟨[some (.im (rowI N f)),some (wmD p),some (.mu 0),some (.im (.int (j:Int))),some (B6 (f j)),z5],rfl,?_⟩;refine AB (AL (AC (A3 (A1 rfl (A3 (A1 rfl (A3 (A1 rfl (A4 ⟨by simp[wmI,rowI],(VH ok f 67).mono ?_⟩)))))))));rintro d x rfl;refine⟨_,rfl,A6 ?_⟩;refine Aq (Db (A1 rfl ⟨⟨_,rfl⟩,A3 (V2 (BL (AC (A3 (A1 rfl (A3 (A1 rfl (A4 ⟨by simp,(FN _ _).mono ?_⟩))))))))⟩));rintro d x rfl;refine⟨_,rfl,_,rfl,?_⟩;have fin:∀o:Option Int,o=As (wx p) f j->WA A5 [some (.im (rowI N f)),some (wmD p),some (.mu 0),some (.im (.int (j:Int))),some (B6 (f j)),some (B6 (if j<(wx p).2.2 then none else behind (wx p).1 (wx p).2.1 (f (j-(wx p).2.2))))] [.lst ((71 j).map λw=>B6 (As (wx p) f w))] λds y=>WP (BI (.mu 0) (B6 o::ds) y) λ_ x=>GOk x []/\I_next_row_w p N f ((((List.range' (j+1) m).map λw=>B6 (f w)).zipIdx (j+1)).map enD) [some (D.im (rowI N f)),some (wmD p),some (.mu 0),some (.im (.int (j:Int))),some (B6 (f j)),some (B6 (if j<(wx p).2.2 then none else behind (wx p).1 (wx p).2.1 (f (j-(wx p).2.2))))] x:=by
   rintro o rfl;refine A4 (EN rfl (CN 79) ⟨AJ _,j+1,_,_,_,by omega,by rw[show N-(j+1)=m by omega],rfl,?_⟩);rw[range_succ];simp
  have ec:As (wx p) f j=if nm (f j) (if j<(wx p).2.2 then none else behind (wx p).1 (wx p).2.1 (f (j-(wx p).2.2)))=true then f j else(if j<(wx p).2.2 then none else behind (wx p).1 (wx p).2.1 (f (j-(wx p).2.2))):=by
   unfold As;rw[Y8]
  by_cases q:nm (f j) (if j<(wx p).2.2 then none else behind (wx p).1 (wx p).2.1 (f (j-(wx p).2.2)))=true
  .rw[gc q]at ec ⊢;exact A1 rfl (fin _ ec.symm)
  .rw[gf q]at ec ⊢;exact A1 rfl (fin _ ec.symm)
 .rintro ls hd ⟨j,z3,z4,z5,hj,er,rfl,rfl⟩;have:j=N:=by
   cases q:N-j with
   |zero=>omega
   |succ m=>rw[q]at er;cases er
  subst this;refine A6 (AY (BJ (A3 (A1 rfl (A4 (C0 rfl rfl ?_))))));have e2:((71 j).map λw=>B6 (As (wx p) f w))=((71 j).map λw=>EZ (As (wx p) f w)).map D.im:=by rw[gH];rfl
  rw[e2,BG];rfl
end T48.Tb
namespace T48.Tb
open PySem L2 Bd
open Lt (IsMin comb behind As sel AQ Wx)
noncomputable def tabI(n N:Nat)(f:Nat->Nat->Option Int):I:=.tup ((71 (n+1)).map λk=>rowI N (f k))
noncomputable def wxs(ws:List Wm):List Wx:=(ordI ws).map λi=>(ws[i.toNat]?.map wx).getD (0,0,0)
def ord_perm(ws:List Wm):(ordI ws).Perm ((71 68).map λk:Nat=>(k:Int)):=by
 have p2:(B4 (duePs ws)).Perm (duePs ws):=iZ ..;have:=p2.map (·.2);unfold ordI;refine this.trans ?_;unfold duePs;rw[gH];exact .refl _
def ord_mem{ws:List Wm}{i:Int}(h:i∈ordI ws):∃k:Nat,k<68/\i=k:=by
 obtain⟨k,hk,rfl⟩:=mem_map.mp ((ord_perm ws).mem_iff.mp h);exact⟨k,by simpa using hk,rfl⟩
def ord_len(ws:List Wm):(ordI ws).length=ws.length:=by simpa using (ord_perm ws).length_eq
noncomputable def fT(c:Int)(L:List Wx):Nat->Nat->Option Int
 |0,w=>if w=0 then some c else none
 |k+1,w=>match L[k]? with|some x=>As x (fT c L k) w|none=>none
theorem fT_min(c:Int)(L:List Wx):∀k,k<=L.length->∀w,IsMin (sel w (AQ c L k)) (fT c L k w)
 |0,_,w=>by
  unfold fT AQ sel;by_cases h:w=0
  .subst h;exact .inr ⟨c,by simp,by simp,by simp⟩
  .have:¬ (0=w):=λz=>h z.symm;simp only[gf h];exact .inl ⟨rfl,by simp[this]⟩
 |k+1,hk,w=>by
  have hx:L[k]?=some L[k]:=by simp[Nat.lt_of_succ_le hk]
  have ih:=fT_min c L k 67;have e:fT c L (k+1) w=As L[k] (fT c L k) w:=by rw[fT,hx]
  rw[e];exact Lt.next_min hx (ih w) λ_=>ih _
def d8(c:Int)(m:Nat)(L:List Wx):[I.int c]++(96 m [I.non]).flatten=(71 (m+1)).map λw=>EZ (fT c L 0 w):=by
 have e1:(96 m [I.non]).flatten=96 m I.non:=by
  induction m with
  |zero=>rfl
  |succ m ih=>rw[iw,iY,ih,iw];rfl
 rw[e1];refine List.ext_getElem 77 λi h1 h2=>?_;simp only[List.getElem_map,List.getElem_range];cases i with
 |zero=>rfl
 |succ i=>
  simp[fT,EZ]
def Xv{B c:Int}{ws:List Wm}(ok:okMs B c ws):0<=fullW ws/\fullW ws<=72:=by
 have:∀vs:List Wm,(∀w∈vs,okM B c w)->0<=fullW vs/\fullW vs<=9*vs.length:=by
  intro vs
  induction vs with
  |nil=>intro _;simp[fullW]
  |cons v r ih=>
   intro h;have:=ih λw hw=>h w (by simp[hw]);have:=(h v 77).2.2.2;simp only[fullW,gm,gL,hX]at *;omega
 have:=this ws ok.2.2.2;have:=ok.2.1;omega
inductive I_table_of_w(c:Int)(ws:List Wm)(r:List D)(ls:Ls)(hd:Hd):Prop
 |mk (dn rest:List Int) (z3:Option D) (h0:ordI ws=dn++rest) (h1:r=intD rest) (h2:ls=[some (.im (wmsI ws)),some (.im (.int c)),some (.mu 0),z3]) (h3:hd=[.lst ((List.range (dn.length+1)).map λk=>D.im (rowI ((fullW ws).toNat+1) (fT c (wxs ws) k))),.lst (intD (ordI ws))]):I_table_of_w c ws r ls hd
def table_of_w{B c:Int}{ws:List Wm}(ok:okMs B c ws)(hB:B<=2000):WF Dv [.im (wmsI ws)] [] λd x=>d=.im (tabI 68 ((fullW ws).toNat+1) (fT c (wxs ws))):=by
 have hl8:=ok.2.1;have hf:=Xv ok;unfold Dv;refine Ac rfl ?_;refine AB (AL (AC (A3 (A1 rfl (A4 ⟨by simp,(NI ok).mono ?_⟩)))));rintro d x rfl;refine⟨_,rfl,A6 ?_⟩;refine AB (AL (B9 (Bg (A3 (A7 (B8 (A3 (A1 rfl (A4 ⟨Dk,?_⟩)))))))));refine Vd (B8 (A3 (AG (A4 ⟨Dk,AC (A3 (A1 rfl (A4 ⟨by simp,(SR ok).mono ?_⟩)))⟩))));rintro d x rfl;refine⟨_,rfl,[.non],fullW ws,rfl,rfl,by simp,by omega,by simp;omega,?_⟩;rw[Os];refine OO 77 79 ?_;rw[d8 c _ (wxs ws)];refine A4 ⟨Dk,A6 ?_⟩;change WS _ [some (.im (wmsI ws)),some (.im (.int c)),some (.mu 0),none] [.lst [.im (rowI ((fullW ws).toNat+1) (fT c (wxs ws) 0))]] _;refine AB (BM (EY (HD (A3 (A1 rfl (A4 ⟨[],[.lst [.im (rowI ((fullW ws).toNat+1) (fT c (wxs ws) 0))]],rfl,rfl,by simp,rfl,(Hu ok hB).mono ?_⟩))))));rintro d x ⟨rfl,rfl⟩;refine⟨0,_,[],_,rfl,gg _,rfl,rfl,rfl,rfl,DV _ _,1,intD (ordI ws),rfl,rfl,?_⟩;refine BD (I_table_of_w c ws) ⟨[],ordI ws,none,rfl,rfl,rfl,rfl⟩ ?_ ?_
 .rintro d r ls hd ⟨dn,rest,z3,e1,er,rfl,rfl⟩;cases rest with
  |nil=>cases er
  |cons i rest=>
   obtain⟨rfl,rfl⟩:=List.cons.inj er;obtain⟨k,hk,rfl⟩:=ord_mem (ws:=ws) (i:=i) (by rw[e1];simp);have hle:dn.length<ws.length:=by have:=ord_len ws;rw[e1]at this;simp at this;omega
   have ex:(wxs ws)[dn.length]?=some (wx ws[k]):=by
    unfold wxs;rw[e1,List.getElem?_map,List.getElem?_append_right (gg _)];simp[hk]
   refine⟨[some (.im (wmsI ws)),some (.im (.int c)),some (.mu 0),some (.im 94)],rfl,?_⟩;refine Aq (Db (A1 rfl ⟨⟨_,rfl⟩,A3 (AC (A3 (A7 (A1 rfl (Ft (AG ⟨_,rfl,AH rfl (e:=.im (rowI ((fullW ws).toNat+1) (fT c (wxs ws) dn.length))) ?_ (A3 (A7 (A1 rfl (A1 rfl (AH (by rw[Dc,CU]) (FH hk) (A4 ⟨by simp[wmI,rowI],(QD (ok.2.2.2 _ (List.getElem_mem hk)) 67 _).mono ?_⟩))))))⟩))))))⟩))
   .rw[range_succ,ik];exact JC _ _
   rintro d x rfl;refine⟨_,rfl,A4 (EN rfl (CN 79) ?_)⟩;refine⟨by intro q hq;rw[gK]at hq;subst hq;rfl,dn++[(k:Int)],rest,_,by rw[e1];simp,rfl,rfl,?_⟩;have e2:As (wx ws[k]) (fT c (wxs ws) dn.length)=fT c (wxs ws) (dn.length+1):=by
    funext w
    rw[fT,ex]
   rw[e2];simp only[ie,hX,iJ,Nat.zero_add];rw[range_succ (n:=dn.length+1),ik];rfl
 .rintro ls hd ⟨dn,rest,z3,e1,er,rfl,rfl⟩;have:rest=[]:=by cases rest with
   |nil=>rfl
   |cons t r=>cases er
  subst this;rw[i4]at e1;have hle:dn.length=ws.length:=by rw[<- e1];exact ord_len ws
  refine A6 (AY (BJ (A3 (A1 rfl (A4 (C0 rfl rfl ?_))))));have e2:((71 (dn.length+1)).map λk=>D.im (rowI ((fullW ws).toNat+1) (fT c (wxs ws) k)))=((71 (dn.length+1)).map λk=>rowI ((fullW ws).toNat+1) (fT c (wxs ws) k)).map D.im:=by rw[gH];rfl
  rw[e2,BG,hle];rfl
def number_w(x:Int):WF D8 [.im (.int x)] [] λd _=>d=.im (.bl true):=by
 unfold D8;refine Ac rfl ?_;refine AY (K0 (AO (MF (A1 rfl ⟨true,rfl,_,rfl,?_⟩))));rw[gc rfl];exact Ve (AO (MF (A1 rfl ⟨false,rfl,_,rfl,rfl⟩)))
def tuple_w{n:Int}{is:List I}(h:(is.length:Int)=n):WF Bf [.im (.int n),.im (.tup is)] [] λd _=>d=.im (.bl true):=by
 unfold Bf;refine Ac rfl ?_;refine AY (K0 (AO (MF (A1 rfl ⟨true,rfl,_,rfl,?_⟩))));rw[gc rfl];refine A7 (BJ (A3 (A1 rfl (A4 (C0 rfl rfl (A1 rfl (Cf ?_)))))));simp[h]
inductive I_shape_w(pt:List I)(ws:List Wm)(n N:Nat)(f:Nat->Nat->Option Int)(r:List D)(ls:Ls)(hd:Hd):Prop
 |mk (dn rest:List Nat) (z4 z5 z6 z7:Option D) (h0:List.range (n+1)=dn++rest) (h1:r=((rest.map λk=>D.im (rowI N (f k))).zipIdx dn.length).map enD) (h2:ls=[some (.im (wmsI ws)),some (.im (tabI n N f)),some (.im (.tup pt)),some (.im (.int (N:Int))),z4,z5,z6,z7]) (h3:hd=[]):I_shape_w pt ws n N f r ls hd
def shape_w{pt:List I}{B c:Int}{ws:List Wm}(ok:okMs B c ws){n N:Nat}(hn:n=68)(hN:(N:Int)=fullW ws+1)(f:Nat->Nat->Option Int):WF Cd [.im (wmsI ws),.im (tabI n N f),.im (.tup pt)] [] λd x=>d=.im .non:=by
 unfold Cd;refine Ac rfl ?_;refine AB (Af (CP (BL (AC (A3 (A7 (BJ (A3 (A1 rfl (A4 (C0 rfl rfl (AG (Bm (A3 (A1 rfl (A4 ⟨by simp,(tuple_w (by simp[hn])).mono ?_⟩))))))))))))))) );rintro d x rfl;refine⟨_,rfl,_,rfl,(λh=>by cases h),λ_=>AX (A6 ?_)⟩;refine AB (AL (A7 (AC (A3 (A1 rfl (A4 ⟨by simp,(SR ok).mono ?_⟩))))));rintro d x rfl;refine⟨_,rfl,AG (Bm (A6 ?_))⟩;rw[<- hN];refine BM (Dx (BP (A1 rfl ⟨(71 (n+1)).map λk=>D.im (rowI N (f k)),by simp[tabI],?_⟩)));change WP (B2 _ _ _ ((((71 (n+1)).map λk=>D.im (rowI N (f k))).zipIdx 0).map enD) [some (.im (wmsI ws)),some (.im (tabI n N f)),some (.im (.tup pt)),some (.im (.int (N:Int))),none,none,none,none] []) _;refine BD (I_shape_w pt ws n N f) ⟨[],_,none,none,none,none,rfl,rfl,rfl,rfl⟩ ?_ ?_
 .rintro d r ls hd ⟨dn,rest,z4,z5,z6,z7,e1,er,rfl,rfl⟩;cases rest with
  |nil=>cases er
  |cons k rest=>
   rw[gm,iS,gm]at er;obtain⟨rfl,rfl⟩:=List.cons.inj er;refine⟨[some (.im (wmsI ws)),some (.im (tabI n N f)),some (.im (.tup pt)),some (.im (.int (N:Int))),some (.im (.int (dn.length:Int))),some (.im (rowI N (f k))),z6,z7],rfl,?_⟩;refine AB (Af (CP (BL (AC (A3 (A1 rfl (A3 (A1 rfl (A4 ⟨by simp[rowI],(tuple_w 77).mono ?_⟩)))))))));rintro d x rfl;refine⟨_,rfl,_,rfl,(λh=>by cases h),λ_=>AX (A6 ?_)⟩;refine BM (Dx (BP (A1 rfl ⟨(71 N).map λw=>B6 (f k w),by simp[rowI],?_⟩)));change WP (B2 _ _ _ ((((71 N).map λw=>B6 (f k w)).zipIdx 0).map enD) _ []) _;refine BD (λr ls hd=>∃(dn' rest':List Nat) (z6 z7:Option D),r=((rest'.map λw=>B6 (f k w)).zipIdx dn'.length).map enD/\ls=[some (.im (wmsI ws)),some (.im (tabI n N f)),some (.im (.tup pt)),some (.im (.int (N:Int))),some (.im (.int (dn.length:Int))),some (.im (rowI N (f k))),z6,z7]/\hd=[]) ⟨[],_,z6,z7,rfl,rfl,rfl⟩ ?_ ?_
   .rintro d r ls hd ⟨dn',rest',z6,z7,er,rfl,rfl⟩;cases rest' with
    |nil=>cases er
    |cons w rest'=>
     rw[gm,iS,gm]at er;obtain⟨rfl,rfl⟩:=List.cons.inj er;have fin:∀r',r'=((rest'.map λw=>B6 (f k w)).zipIdx (dn'.length+1)).map enD->∃(dn'' rest'':List Nat) (y6 y7:Option D),r'=((rest''.map λw=>B6 (f k w)).zipIdx dn''.length).map enD/\[some (D.im (wmsI ws)),some (.im (tabI n N f)),some (.im (.tup pt)),some (.im (.int (N:Int))),some (.im (.int (dn.length:Int))),some (.im (rowI N (f k))),some (.im (.int (dn'.length:Int))),some (B6 (f k w))]=[some (.im (wmsI ws)),some (.im (tabI n N f)),some (.im (.tup pt)),some (.im (.int (N:Int))),some (.im (.int (dn.length:Int))),some (.im (rowI N (f k))),y6,y7]/\([]:Hd)=[]:=λr' e=>⟨dn'++[w],rest',_,_,by rw[e];simp,rfl,rfl⟩
     refine⟨[some (.im (wmsI ws)),some (.im (tabI n N f)),some (.im (.tup pt)),some (.im (.int (N:Int))),some (.im (.int (dn.length:Int))),some (.im (rowI N (f k))),some (.im (.int (dn'.length:Int))),some (B6 (f k w))],rfl,?_⟩;refine Af (DY (AO (HC (A1 rfl ⟨f k w,rfl,_,rfl,?_⟩))));cases hx:f k w with
     |none=>
      rw[gf 77];rw[hx]at fin;exact⟨(λh=>by cases h),λ_=>AX ⟨AJ _,fin _ rfl⟩⟩
     |some x=>
      rw[gc 77];rw[hx]at fin;refine CP (BL (AC (A3 (A1 rfl (A4 ⟨by simp[EZ],(number_w x).mono ?_⟩)))));rintro d x rfl;exact⟨_,rfl,_,rfl,(λh=>by cases h),λ_=>AX ⟨AJ _,fin _ rfl⟩⟩
   .rintro ls hd ⟨dn',rest',z6,z7,er,rfl,rfl⟩;exact⟨AJ _,dn++[k],rest,_,_,_,_,by rw[e1];simp,by simp,rfl,rfl⟩
 .rintro ls hd ⟨dn,rest,z4,z5,z6,z7,e1,er,rfl,rfl⟩;rfl
def dJ(a b:Option Int):nm (comb a b) a=true:=by
 cases a with
 |none=>cases b<;>rfl
 |some x=>cases b with
  |none=>simp[comb,nm]
  |some y=>
   by_cases h:x<=y
   .simp[comb,h,nm]
   .simp[comb,h,nm];omega
def dH(a b:Option Int):nm (comb a b) b=true:=by
 cases b with
 |none=>cases a<;>rfl
 |some y=>cases a with
  |none=>simp[comb,nm]
  |some x=>
   by_cases h:x<=y
   .simp[comb,h,nm]
   .simp[comb,h,nm]
inductive I_look_row_w(p:Wm)(N:Nat)(f:Nat->Option Int)(i:I)(r:List D)(ls:Ls)(hd:Hd):Prop
 |mk (j:Nat) (z4 z5:Option D) (h0:j<=N) (h1:r=(((List.range' j (N-j)).map λw=>B6 (As (wx p) f w)).zipIdx j).map enD) (h2:ls=[some (wmD p),some (.im (rowI N f)),some (.im (rowI N (As (wx p) f))),some (.im i),z4,z5]) (h3:hd=[]):I_look_row_w p N f i r ls hd
def QP{B c:Int}{p:Wm}(ok:okM B c p){N:Nat}(hN:N<=100)(f:Nat->Option Int){i:I}:WF DI [wmD p,.im (rowI N f),.im (rowI N (As (wx p) f)),.im i] [] λd x=>d=.im .non:=by
 unfold DI;refine Ac rfl ?_;refine BM (Dx (BP (A1 rfl ⟨(List.range' 0 (N-0)).map λw=>B6 (As (wx p) f w),by rw[Nat.sub_zero,<- List.range_eq_range'];simp[rowI],?_⟩)));change WP (B2 _ _ _ ((((List.range' 0 (N-0)).map λw=>B6 (As (wx p) f w)).zipIdx 0).map enD) [some (wmD p),some (.im (rowI N f)),some (.im (rowI N (As (wx p) f))),some (.im i),none,none] []) _;refine BD (I_look_row_w p N f i) ⟨0,none,none,by omega,rfl,rfl,rfl⟩ ?_ ?_
 .rintro d r ls hd ⟨j,z4,z5,hj,er,rfl,rfl⟩;obtain⟨m,hm⟩:∃m,N-j=m+1:=by
   cases q:N-j with
   |zero=>rw[q]at er;cases er
   |succ m=>exact⟨m,rfl⟩
  rw[hm,List.range'_succ,gm,iS,gm]at er;obtain⟨rfl,rfl⟩:=List.cons.inj er;refine⟨[some (wmD p),some (.im (rowI N f)),some (.im (rowI N (As (wx p) f))),some (.im i),some (.im (.int (j:Int))),some (B6 (As (wx p) f j))],rfl,?_⟩;refine AB (Af (CP (BL (AC (A3 (A1 rfl (A3 (A7 (A1 rfl (A1 rfl (AH rfl (row_at 67) (A4 ⟨by simp,(FN _ _).mono ?_⟩))))))))))));rintro d x rfl;refine⟨_,rfl,_,rfl,(λh=>?_),λ_=>AX (A6 ?_)⟩
  .rw[As,dJ]at h;cases h
  refine Af (CP (BL (AC (A3 (A1 rfl (A3 (AC (A3 (A1 rfl (A3 (A1 rfl (A3 (A1 rfl (A4 ⟨by simp[wmI,rowI],(VH ok f 67).mono ?_⟩))))))))))))));rintro d x rfl;refine⟨_,rfl,A4 ⟨by simp,(FN _ _).mono ?_⟩⟩;rintro d x rfl;refine⟨_,rfl,_,rfl,(λh=>?_),λ_=>AX ⟨AJ _,j+1,_,_,by omega,by rw[show N-(j+1)=m by omega],rfl,rfl⟩⟩;rw[As,dH]at h;cases h
 .rintro ls hd ⟨j,z4,z5,hj,er,rfl,rfl⟩;rfl
def Vc{is js:List I}{hd:Hd}{QE:D->Hd->Prop}(h1:is.length+js.length<=100)(q:QE (.im (.tup (is++js))) hd):WP (Qe (.im (.tup is)) (.im (.tup js)) hd) QE:=by
 by_cases h0:is=[]
 .subst h0;refine WP.eq (z:=.im (.tup js)) (h:=hd) ?_ q;show(match Aw (.im (.tup [])) (.im (.tup js)) hd with|some z=>some z|none=>IG (.im (.tup [])) (.im (.tup js)) hd)=_;have e:Aw (.im (.tup [])) (.im (.tup js)) hd=none:=by
   show(match KR (.im (.tup [])) (.im (.tup js)) hd with|some z=>some z|none=>Gf (.im (.tup [])) (.im (.tup js)) hd)=_;rw[show KR (.im (.tup [])) (.im (.tup js)) hd=none from rfl];unfold Gf;rw[show Aa (.im (.tup []))=some []from rfl,show Aa (.im (.tup js))=some (js.map D.im)from rfl,gq,gq,gf (λz=>z.1 rfl)]
  rw[e];unfold IG;rw[show Aa (.im (.tup []))=some []from rfl,show Aa (.im (.tup js))=some (js.map D.im)from rfl,gq,gq,gc rfl,BG]
 .obtain⟨d,x,e,q⟩:=OO (QE:=QE) h0 h1 q;refine⟨d,x,?_,q⟩;show(match Aw (.im (.tup is)) (.im (.tup js)) hd with|some z=>some z|none=>IG (.im (.tup is)) (.im (.tup js)) hd)=_;rw[e]
def MK{n N:Nat}{f:Nat->Nat->Option Int}{k:Nat}(hk:k<n+1):atI (((71 (n+1)).map λk=>rowI N (f k)).map D.im) (k:Int)=some (.im (rowI N (f k))):=FE rfl (by simp[hk])
inductive I_places_w(pt:List I)(c:Int)(ws:List Wm)(N:Nat)(r:List D)(ls:Ls)(hd:Hd):Prop
 |mk (dn rest:List Int) (z3 z4:Option D) (h0:ordI ws=dn++rest) (h1:r=((intD rest).zipIdx dn.length).map (λq=>AW [.im (.int ((q.2:Int)+1)),q.1])) (h2:ls=[some (.im (wmsI ws)),some (.im (tabI 68 N (fT c (wxs ws)))),some (.im (.tup pt)),z3,z4]) (h3:hd=[.lst (intD (ordI ws))]):I_places_w pt c ws N r ls hd
def places_w{pt:List I}(hpt:pt.length<=9){B c:Int}{ws:List Wm}(ok:okMs B c ws)(hB:B<=2000){N:Nat}(hN:N<=100)(h0:0<N):WF CO [.im (wmsI ws),.im (tabI 68 N (fT c (wxs ws))),.im (.tup pt)] [] λd x=>d=.im .non:=by
 have hl8:=ok.2.1;unfold CO;refine Ac rfl ?_;refine AB (Af (CP (BL (AC (A3 (A7 (A7 (A1 rfl (AG (AH rfl (MK (k:=0) 67) (AG (AH rfl (row_at (w:=0) h0) (A3 (AC (A3 (A1 rfl (A4 ⟨by simp,(NI ok).mono ?_⟩)))))))))))))))));rintro d x rfl;refine⟨_,rfl,A4 ⟨by simp,(FN (fT c (wxs ws) 0 0) (some c)).mono ?_⟩⟩;rintro d x rfl;refine⟨_,rfl,_,rfl,(λh=>?_),λ_=>AX (A6 ?_)⟩
 .simp[fT,nm]at h
 refine BM (Sv (EY (HD (A3 (A1 rfl (A4 ⟨[],[],rfl,rfl,by simp,rfl,(Hu ok hB).mono ?_⟩))))));rintro d x ⟨rfl,rfl⟩;refine⟨0,_,[],_,rfl,gg _,rfl,rfl,rfl,rfl,DV _ _,0,intD (ordI ws),rfl,rfl,?_⟩;refine BD (I_places_w pt c ws N) ⟨[],ordI ws,none,none,rfl,rfl,rfl,rfl⟩ ?_ ?_
 .rintro d r ls hd ⟨dn,rest,z3,z4,e1,er,rfl,rfl⟩;cases rest with
  |nil=>cases er
  |cons i rest=>
   rw[show intD (i::rest)=.im (.int i)::intD rest from rfl,iS,gm]at er;obtain⟨rfl,rfl⟩:=List.cons.inj er;obtain⟨k,hk,rfl⟩:=ord_mem (ws:=ws) (i:=i) (by rw[e1];simp);have hle:dn.length<ws.length:=by have:=ord_len ws;rw[e1]at this;simp at this;omega
   have ex:(wxs ws)[dn.length]?=some (wx ws[k]):=by
    unfold wxs;rw[e1,List.getElem?_map,List.getElem?_append_right (gg _)];simp[hk]
   have e2:As (wx ws[k]) (fT c (wxs ws) dn.length)=fT c (wxs ws) (dn.length+1):=by
    funext w
    rw[fT,ex]
   refine⟨[some (.im (wmsI ws)),some (.im (tabI 68 N (fT c (wxs ws)))),some (.im (.tup pt)),some (.im (.int ((dn.length:Int)+1))),some (.im 94)],rfl,?_⟩;refine Aq (AC (A3 (A7 (A1 rfl (A1 rfl (AH (by rw[Dc,CU]) (FH hk) (A3 (A7 (A1 rfl (A7 (A1 rfl (AG (CQ ?_)))))))))))));rw[show(dn.length:Int)+1-1=(dn.length:Int) by omega];refine AH rfl (MK 67) (A3 (A7 (A1 rfl (A1 rfl ?_))));rw[show(dn.length:Int)+1=((dn.length+1:Nat):Int) by omega];refine AH rfl (MK 67) (A3 (A7 (A1 rfl (B8 (A3 (A1 rfl (A4 ⟨Dk,?_⟩)))))));rw[Os];refine Vc 79 (A4 ⟨by simp[wmI,rowI],?_⟩);rw[<- e2];refine(QP (ok.2.2.2 _ (List.getElem_mem hk)) hN _).mono ?_;rintro d x rfl;exact⟨_,rfl,by intro q hq;rw[gK]at hq;subst hq;rfl,dn++[(k:Int)],rest,_,_,by rw[e1];simp,by simp,rfl,rfl⟩
 .rintro ls hd ⟨dn,rest,z3,z4,e1,er,rfl,rfl⟩;rfl
def greatest_w{n N m:Nat}{f:Nat->Nat->Option Int}(hN:N<=100)(hm:m<N)(h1:(f n m).isSome=true)(h2:∀w,(f n w).isSome=true->w<=m):WF CA [.im (tabI n N f)] [] λd x=>d=.im (.int (m:Int)):=by
 unfold CA;refine Ac rfl ?_;refine AY (BA (Ah (Dx (BP (A7 (A1 rfl (Ft (AG ⟨_,rfl,AH rfl (e:=.im (rowI N (f n))) ?_ ⟨(71 N).map λw=>B6 (f n w),by simp[rowI],?_⟩⟩))))))))
 .rw[gH,range_succ,ik];exact JC _ _
 have ez:(((71 N).map λw=>B6 (f n w)).zipIdx.map λq=>AW [.im (.int (q.2:Int)),q.1])=(71 N).map λw:Nat=>D.im (.tup [.int (w:Int),EZ (f n w)]):=by
  refine List.ext_getElem 77 λi a b=>?_;simp
 rw[ez];refine⟨AT 79,?_⟩;refine B0 (λw:Nat=>D.im (.tup [.int (w:Int),EZ (f n w)])) (λw=>if(f n w).isSome=true then some (.im (.int (w:Int)))else none) (λ_ ls=>∃x y,ls=[some x,some y]) _ (AJ _) ?_ ?_
 .rintro w hw ls hls;refine⟨[some (.im (.int (w:Int))),some (B6 (f n w))],by rcases hls with rfl|⟨_,x,y,rfl⟩<;>rfl,⟨_,_,rfl⟩,?_⟩;refine AO (HC (A1 rfl ⟨f n w,rfl,_,rfl,rfl,?_⟩));cases hx:f n w with
  |none=>
   rw[gf 77];exact gf 77
  |some x=>
   rw[gc 77];exact⟨_,gc 77,A1 rfl ⟨rfl,rfl⟩⟩
 have ei:((71 N).filterMap λw:Nat=>if(f n w).isSome=true then some (D.im (.int (w:Int)))else none)=intD (((71 N).filter λw:Nat=>(f n w).isSome).map λw:Nat=>(w:Int)):=by
  generalize 71 N=L
  induction L with
  |nil=>rfl
  |cons x r ih=>
   rw[ic,gP];by_cases h:(f n x).isSome=true
   .simp[h,intD]at ih ⊢;exact ih
   .simp[h,intD]at ih ⊢;exact ih
 rw[ei];have hmm:(m:Int)∈((71 N).filter λw:Nat=>(f n w).isSome).map λw:Nat=>(w:Int):=mem_map.mpr ⟨m,mem_filter.mpr ⟨by simpa using hm,h1⟩,rfl⟩;have hne:=List.ne_nil_of_mem hmm;refine⟨_,by unfold Iv;rw[FS,gq,gf hne],?_⟩;have ms:=Hc hne;obtain⟨w,hw,ew⟩:=mem_map.mp ms.1;have h3:=ms.2 _ hmm;have h4:=h2 w (mem_filter.mp hw).2;have:GR (((71 N).filter λw:Nat=>(f n w).isSome).map λw:Nat=>(w:Int))=(m:Int):=by omega
 rw[this]
end T48.Tb
namespace T48
open PySem L2 Bd S7
def ac:F_ends_of=Bd.F_ends_of:=rfl
def ay{ws:List Wk}{P:List Pl.Pc}(n8:68<=8)(hP:∀p∈P,p.1<68):WF F_ends_of [.im (AV ws),.im (.tup (P.map Ar))] [] λd x=>d=.im (CK ((71 68).map (Pl.E P))):=by
 obtain⟨g,e⟩:=Qf ws P hP 67;rw[Pl.ends_map]at e;exact WP.eq (ac ▸ e) rfl
def ce{n:Nat}{ln cm:Nat->Nat}{G:Nat->Nat->Nat}{t:Nat}(H:Hist n ln cm G t){τ:Nat}(h:τ<=t)(j:Nat):G τ j<=ln j:=by
 have:=Uy H j τ 0 67;rw[H.g0,Nat.zero_add]at this;exact this
theorem YR{n:Nat}{ln cm:Nat->Nat}{G:Nat->Nat->Nat}{t C:Nat}(H:Hist n ln cm G t)(hC:∀j,j<n->cm j<=C):∀d,C+d<=t->(∀j,j<n->G (C+d) j=0)∨sl (G (C+d)) (71 n)+d<=sl ln (71 n)
 |0,h=>.inr (by have:=Lz (S:=71 n) λi _=>ce H (τ:=C+0) h i;omega)
 |d+1,h=>by
  rcases H.st (C+d) 67 with⟨z,e⟩|⟨k,kn,kc,k0,kl,e⟩
  .exact .inl λj hj=>by rw[show C+(d+1)=C+d+1 by omega,e j];exact z j hj (by have:=hC j hj;omega)
  .rcases YR H hC d 67 with q|q
   .exact absurd (q k kn) 67
   .refine .inr ?_;have:=RJ (f:=G (C+d)) (g:=G (C+d+1)) k0 e nodup_range (by simpa using kn);rw[show C+(d+1)=C+d+1 by omega];omega
def bL{n:Nat}{ln cm:Nat->Nat}{G:Nat->Nat->Nat}{t C:Nat}(H:Hist n ln cm G t)(hC:∀j,j<n->cm j<=C)(h:C+sl ln (71 n)<=t):∀j,j<n->G (C+sl ln (71 n)) j=0:=by
 rcases YR H hC _ h with q|q
 .exact q
 .have q:sl (G (C+sl ln (71 n))) (71 n)=0:=by omega
  exact λj hj=>K4 q j (by simpa using hj)
def bC{n:Nat}{ln cm lf:Nat->Nat}{P:List Pc}{t C:Nat}{G:Nat->Nat->Nat}(S:St n ln cm lf P t G)(z:∀j,j<n->lf j=0)(hC:∀j,j<n->cm j<=C){j:Nat}(hj:j<n):Pl.E P j<=((C+sl ln (71 n):Nat):Int):=by
 by_cases h:C+sl ln (71 n)<=t
 .exact(S.en j hj (z j hj) _ h).mp (bL S.H hC h j hj)
 .have:=(S.en j hj (z j hj) t (gg _)).mp (by rw[S.gl];exact z j hj);omega
theorem MW{f:Nat->Nat}{B:Nat}:∀{L:List Nat},(∀i∈L,f i<=B)->sl f L<=B*L.length
 |[],_=>by simp[sl]
 |x::r,h=>by
  have h1:=h x 77;have ih:=MW (L:=r) λi hi=>h i (by simp[hi]);simp only[sl,gm,gL,hX]at ih ⊢;rw[Nat.mul_succ];omega
def dm{w:Int}{ws:List Wk}(W:EW w ws){lf:Nat->Nat}{P:List Pc}{t:Nat}{G:Nat->Nat->Nat}(S:St 68 (lnN ws) (cmN ws) lf P t G)(z:∀j,j<68->lf j=0){j:Nat}(hj:j<68):Pl.E P j<=220:=by
 have h1:=bC S z (C:=60) (λj hj=>(FC W hj).2) hj;have h2:=MW (f:=lnN ws) (B:=20) (L:=71 68) λi hi=>(CS W (by simpa using hi)).2.2;have:=W.n8;rw[List.length_range]at h2;omega
def cj{w:Int}{ws:List Wk}(W:EW w ws){lf:Nat->Nat}{P:List Pc}{t:Nat}{G:Nat->Nat->Nat}(S:St 68 (lnN ws) (cmN ws) lf P t G)(z:∀j,j<68->lf j=0){j:Nat}(hj:j<68):1<=Pl.E P j:=by
 refine Classical.byContradiction λq=>?_;have:=(S.en j hj (z j hj) 0 (gW _)).mpr 67;rw[S.H.g0]at this;have:=(CS W hj).2.1;omega
noncomputable def tw(t:Int)(ws:List Wk):List Tb.Wm:=ws.map λw=>⟨w.len,0,t-w.com,1⟩
def BO(t:Int)(ws:List Wk):(tw t ws).length=ws.length:=by simp[tw]
def GH{w t:Int}{ws:List Wk}(W:EW w ws)(h0:-1000<=t)(h1:t<=1000):Tb.okMs 2000 0 (tw t ws):=by
 refine⟨λq=>?_,by rw[BO];exact W.n8,by omega,λw hw=>?_⟩
 .have e:=i3 List.length q;rw[BO]at e;have:=W.n1;rw[e]at this;exact absurd this 98
 .obtain⟨v,hv,rfl⟩:=mem_map.mp hw;obtain⟨g1,g2,_⟩:=W.ea v hv;exact⟨g1,rfl,by dsimp only;omega,by dsimp only;omega⟩
def OQ(t:Int)(ws:List Wk):Tb.fullW (tw t ws)=(ws.length:Int):=by
 unfold Tb.fullW tw
 induction ws with
 |nil=>rfl
 |cons x r ih=>simp only[gm,gL,hX]at ih ⊢;omega
def GI{w t:Int}{ws:List Wk}(W:EW w ws):WF DO [.im (AV ws),.im (.int t)] [] λd x=>d=.im (Tb.wmsI (tw t ws)):=by
 have hl:=W.n8;unfold DO;refine Ac rfl ?_;refine AY (BA (Ah (BP (A1 rfl ⟨_,rfl,?_⟩))));rw[Eu];refine⟨AT 79,?_⟩;refine B0 wkD (λw=>some (Tb.wmD ⟨w.len,0,t-w.com,1⟩)) (λ_ ls=>∃x y z,ls=[some x,some y,some z,some (.im (.int t))]) _ (AJ _) ?_ ?_
 .rintro w hw ls hls;refine⟨[some (.im (.int w.len)),some (.im (.int w.com)),some (.im (C3 w.cost)),some (.im (.int t))],by rcases hls with rfl|⟨_,x,y,z,rfl⟩<;>rfl,⟨_,_,_,rfl⟩,BV ⟨rfl,?_⟩⟩;rw[gc rfl];refine⟨_,rfl,B8 (A3 (A1 rfl (A3 (AG (A3 (B8 (A3 (AG (A3 (A7 (A1 rfl (A1 rfl (CQ (A3 (AG (A4 ⟨CV,A4 ⟨CV,rfl,rfl⟩⟩))))))))))))))))⟩
 have e:(ws.filterMap λw=>some (Tb.wmD ⟨w.len,0,t-w.com,1⟩))=((tw t ws).map Tb.wmI).map D.im:=by simp[tw]
 rw[e];refine⟨_,rfl,?_⟩;rw[BG]
open Lt (Wx En AQ more sel IsMin)
def JE(ws:List Wk)(S:List Nat)(t:Int):Prop:=∀j∈S,(sl (lnN ws) (S.filter λi=>decide (cmN ws j<=cmN ws i)):Int)+(cmN ws j:Int)<=t
def aa(f:Nat->Nat)(p:Nat->Bool)(S:List Nat):sl f (S.filter p)<=sl f S:=by
 induction S with
 |nil=>exact gg _
 |cons x r ih=>
  rw[gP];split
  .simp only[sl,gm,gL]at ih ⊢;omega
  .simp only[sl,gm,gL]at ih ⊢;omega
def JM{L:List Int}(hs:L.Pairwise (·<=·)){i:Nat}{e τ:Int}(h:L[i]?=some e)(lt:τ<e):L.countP (λx=>decide (x<=τ))<=i:=by
 obtain⟨hi,rfl⟩:=78 h;have e1:L.countP (λx=>decide (x<=τ))=(L.take i).countP (λx=>decide (x<=τ))+(L.drop i).countP (λx=>decide (x<=τ)):=by rw[<- List.countP_append,iL]
 have e2:(L.drop i).countP (λx=>decide (x<=τ))=0:=by
  rw[List.countP_eq_zero];intro x hx;rw[ig hi]at hx;have pw:(L.drop i).Pairwise (·<=·):=hs.sublist (List.drop_sublist _ _);rw[ig hi]at pw;rcases mem_cons.mp hx with rfl|hx
  .simp;omega
  .have:=(pairwise_cons.mp pw).1 x hx;simp;omega
 have e3:=List.countP_le_length (p:=λx=>decide (x<=τ)) (l:=L.take i);rw[i6]at e3;omega
def few{n:Nat}{E:Nat->Int}{i:Nat}{e:Int}{τ:Nat}{p:Nat->Bool}(h:(B1 ((71 n).map E))[i]?=some e)(lt:(τ:Int)<e)(hp:∀j,j<n->p j=true->E j<=(τ:Int)):((71 n).filter p).length<=i:=by
 have h1:=JM (Ci _) h lt;rw[(Aj _).countP_eq,List.countP_map]at h1;refine gQ ?_ h1;rw[<- List.countP_eq_length_filter];exact List.countP_mono_left λj hj q=>by simpa using hp j (by simpa using hj) q
def Up{w:Int}{ws:List Wk}(W:EW w ws){lf:Nat->Nat}{P:List Pc}{t:Nat}{G:Nat->Nat->Nat}(S0:St 68 (lnN ws) (cmN ws) lf P t G)(z:∀j,j<68->lf j=0){i:Nat}{e:Int}(h:(B1 ((71 68).map (Pl.E P)))[i]?=some e){S:List Nat}(nd:S.Nodup)(hS:∀i∈S,i<68)(F:JE ws S (e-1)):S.length<=i:=by
 by_cases q:S=[]
 .subst q;simp
 .obtain⟨j,hj⟩:=List.exists_mem_of_ne_nil _ q;have e1:=F j hj;have hm:e∈(71 68).map (Pl.E P):=(Aj _).mem_iff.mp (gJ h);obtain⟨k,hk,rfl⟩:=mem_map.mp hm;have hk:k<ws.length:=by simpa using hk
  have et:Pl.E P k<=(t:Int):=(S0.en k hk (z k hk) t (gg _)).mp (by rw[S0.gl,z k hk]);obtain⟨τ,eτ⟩:∃τ:Nat,Pl.E P k-1=(τ:Int):=⟨(Pl.E P k-1).toNat,by omega⟩
  have ht:τ<=t:=by omega
  refine gQ (P2 S0.H ht nd hS (λi hi=>(CS W (hS i hi)).2.1) λj hj=>?_) (few (τ:=τ) h 67 λj hj hp=>?_)
  .have:=F j hj;rw[eτ]at this;omega
  .have hp:cmN ws j<=τ/\G τ j=0:=by simpa using hp
   exact(S0.en j hj (z j hj) τ ht).mp hp.2
structure Fs(ws:List Wk)(T:Int)(dn:List Int)(m:Nat)(s:Int):Prop where
 ex:∃S:List Nat,S.Nodup/\(∀i∈S,(i:Int)∈dn)/\m=S.length/\s=(sl (lnN ws) S:Int)/\JE ws S T
def Fs.add{ws:List Wk}{T:Int}{dn:List Int}{m:Nat}{s:Int}(h:Fs ws T dn m s){k:Nat}(nk:(k:Int)∉dn)(le:∀i:Nat,(i:Int)∈dn->cmN ws k<=cmN ws i)(c:s+(lnN ws k:Int)<=T-(cmN ws k:Int)):Fs ws T (dn++[(k:Int)]) (m+1) (s+(lnN ws k:Int)):=by
 obtain⟨S,n1,n2,rfl,rfl,n4⟩:=h;have kS:k∉S:=λz=>nk (n2 k z);have tot:sl (lnN ws) (S++[k])=sl (lnN ws) S+lnN ws k:=by rw[MX];simp[sl]
 refine⟨S++[k],?_,λi hi=>?_,by simp,by rw[tot];simp,λj hj=>?_⟩
 .rw[nodup_append];exact⟨n1,by simp,λa ha b hb e=>by rw[gK]at hb;subst hb;subst e;exact kS ha⟩
 .rcases mem_append.mp hi with q|q
  .simp[n2 i q]
  .rw[gK]at q;subst q;simp
 .by_cases e:cmN ws j=cmN ws k
  .have:=aa (lnN ws) (λi=>decide (cmN ws j<=cmN ws i)) (S++[k]);rw[tot]at this;omega
  .have jS:j∈S:=by
    rcases mem_append.mp hj with q|q
    .exact q
    .rw[gK]at q;subst q;exact absurd rfl e
   have h1:=le j (n2 j jS);have h2:=n4 j jS;rw[List.filter_append,MX];have:[k].filter (λi=>decide (cmN ws j<=cmN ws i))=[]:=by
    rw[gP,gM 67];rfl
   rw[this];simpa [sl]using h2
def Fs.mono{ws:List Wk}{T:Int}{dn dn':List Int}{m:Nat}{s:Int}(h:Fs ws T dn m s)(hs:∀x∈dn,x∈dn'):Fs ws T dn' m s:=by
 obtain⟨S,n1,n2,n3⟩:=h;exact⟨S,n1,λi hi=>hs _ (n2 i hi),n3⟩
def JI{t:Int}{ws:List Wk}{k:Nat}(hk:k<68):(tw t ws)[k]?=some ⟨ws[k].len,0,t-ws[k].com,1⟩:=by simp[tw,hk]
def Jq{w t:Int}{ws:List Wk}(W:EW w ws){k:Nat}(hk:k<68):Tb.dueOf (tw t ws) k=t-(cmN ws k:Int):=by
 unfold Tb.dueOf;rw[JI hk,<- (FC W hk).1];rfl
def Iz{B c:Int}{ws:List Tb.Wm}(ok:Tb.okMs B c ws)(hB:B<=2000):(Tb.ordI ws).Pairwise λa b=>Tb.dueOf ws a.toNat<=Tb.dueOf ws b.toNat:=by
 have w2:(B4 (Tb.duePs ws)).Pairwise λa b=>AZ a<=AZ b:=HI _;have p2:(B4 (Tb.duePs ws)).Perm (Tb.duePs ws):=Eh _;unfold Tb.ordI;rw[iH];refine w2.imp_of_mem λ{a b} ha hb hab=>?_
 have fa:∀a∈B4 (Tb.duePs ws),Tb.dueOf ws a.2.toNat=a.1/\pok a:=λa ha=>by
  obtain⟨k,hk,rfl⟩:=mem_map.mp (p2.mem_iff.mp ha);exact⟨rfl,Tb.due_ok ok hB (by simpa using hk)⟩
 obtain⟨e1,o1⟩:=fa a ha;obtain⟨e2,o2⟩:=fa b hb;rw[e1,e2];unfold AZ at hab;unfold pok at o1 o2;omega
def S4(ws:List Tb.Wm):(Tb.ordI ws).Nodup:=by
 refine(Tb.ord_perm ws).nodup_iff.mpr (List.Pairwise.map _ (λa b h=>?_) nodup_range);omega
theorem Iw{w T:Int}{ws:List Wk}(W:EW w ws)(h0:-1000<=T)(h1:T<=1000):∀i,i<=68->∀e∈AQ 0 (Tb.wxs (tw T ws)) i,Fs ws T ((Tb.ordI (tw T ws)).take i) e.2.1 e.2.2
 |0,_,e,he=>by
  simp only[AQ,gK]at he;subst he;exact⟨[],by simp,by simp,rfl,rfl,λj hj=>by cases hj⟩
 |i+1,hi,e,he=>by
  have ih:=Iw W h0 h1 i 67;have len:(Tb.ordI (tw T ws)).length=ws.length:=by rw[Tb.ord_len,BO]
  have hlt:i<(Tb.ordI (tw T ws)).length:=by omega
  obtain⟨k,hk,ek⟩:=Tb.ord_mem (ws:=tw T ws) (List.getElem_mem hlt);rw[BO]at hk;have et:(Tb.ordI (tw T ws)).take (i+1)=(Tb.ordI (tw T ws)).take i++[(k:Int)]:=by rw[List.take_succ_eq_append_getElem hlt,ek]
  have ed:Tb.ordI (tw T ws)=(Tb.ordI (tw T ws)).take i++(k:Int)::(Tb.ordI (tw T ws)).drop (i+1):=by
   rw[<- ek,<- ig hlt,iL]
  have ex:(Tb.wxs (tw T ws))[i]?=some ((lnN ws k:Int),T-(cmN ws k:Int),1):=by
   unfold Tb.wxs;rw[List.getElem?_map,List.getElem?_eq_getElem hlt,ek,gR,gV,JI hk];show some (Tb.wx ⟨ws[k].len,0,T-ws[k].com,1⟩)=_;rw[(CS W hk).1,(FC W hk).1];rfl
  rw[AQ,ex]at he;rcases mem_append.mp he with he|he
  .rw[et];exact(ih e he).mono λx hx=>i9 _ hx
  .unfold more at he;obtain⟨e0,h2,rfl⟩:=mem_map.mp he;obtain⟨h2,h3⟩:=mem_filter.mp h2;have nd:=S4 (tw T ws);have ri:=Iz (GH W h0 h1) 98;rw[ed]at nd ri;rw[et];refine(ih e0 h2).add (λz=>(nodup_append.mp nd).2.2 _ z _ 77 rfl) (λj hj=>?_) (by simpa using h3);have hj2:j<ws.length:=by
    obtain⟨k2,q1,q2⟩:=Tb.ord_mem (ws:=tw T ws) (List.mem_of_mem_take hj);rw[BO]at q1;omega
   have:=(pairwise_append.mp ri).2.2 _ hj (k:Int) 77;rw[gV,gV,Jq W hj2,Jq W hk]at this;omega
noncomputable abbrev fN(t:Int)(ws:List Wk):Nat->Nat->Option Int:=Tb.fT 0 (Tb.wxs (tw t ws))
def ON(t:Int)(ws:List Wk):(Tb.wxs (tw t ws)).length=ws.length:=by unfold Tb.wxs;rw[gy,Tb.ord_len,BO]
def SV{w T:Int}{ws:List Wk}(W:EW w ws)(h0:-1000<=T)(h1:T<=1000){m:Nat}(h:(fN T ws 68 m).isSome=true):∃S:List Nat,S.Nodup/\(∀i∈S,i<68)/\m=S.length/\JE ws S T:=by
 have q:=Tb.fT_min 0 (Tb.wxs (tw T ws)) 68 (by rw[ON];exact gg _) m;rcases q with⟨q,_⟩|⟨x,_,hx,_⟩
 .rw[show fN T ws 68 m=none from q]at h;cases h
 .obtain⟨e,he,rfl⟩:=mem_map.mp hx;obtain⟨he,e2⟩:=mem_filter.mp he;obtain⟨S,n1,n2,n3,n4,n5⟩:=Iw W h0 h1 _ (gg _) e he;refine⟨S,n1,λi hi=>?_,by rw[<- n3];exact(ia e2).symm,n5⟩;obtain⟨k2,q1,q2⟩:=Tb.ord_mem (ws:=tw T ws) (List.mem_of_mem_take (n2 i hi));rw[BO]at q1;omega
def dQ(T:Int)(ws:List Wk):(fN T ws 68 0).isSome=true:=by
 have q:=Tb.fT_min 0 (Tb.wxs (tw T ws)) 68 (by rw[ON];exact gg _) 0;have mem:∀i,(0,0,(0:Int))∈AQ 0 (Tb.wxs (tw T ws)) i:=λi=>by
  induction i with
  |zero=>simp[AQ]
  |succ i ih=>rw[AQ];exact i9 _ ih
 rcases q with⟨_,q⟩|⟨x,q,_⟩
 .have:(0:Int)∈sel 0 (AQ 0 (Tb.wxs (tw T ws)) 68):=mem_map.mpr ⟨_,mem_filter.mpr ⟨mem _,by simp⟩,rfl⟩;rw[q]at this;cases this
 .rw[show fN T ws 68 0=some x from q];rfl
theorem Qy(p:Nat->Bool):∀n,(∀w,p w=true->w<=n)->p 0=true->∃m,m<=n/\p m=true/\∀w,p w=true->w<=m
 |0,h,h0=>⟨0,gg _,h0,h⟩
 |n+1,h,h0=>by
  by_cases q:p (n+1)=true
  .exact⟨n+1,gg _,q,h⟩
  .obtain⟨m,h1,h2,h3⟩:=Qy p n (λw hw=>by
    have:=h w hw;by_cases e:w=n+1
    .subst e;exact absurd hw q
    .omega) h0
   exact⟨m,by omega,h2,h3⟩
def wa_sorted{mi:MI}{ls:Ls}{hd:Hd}{QA:List D->Hd->Prop}(h:WI mi ls hd λp x=>∃ns:List Int,p.1=intD ns/\ns.length<64/\QA (intD (B1 ns)) x):WA (BX mi) ls hd QA:=by
 obtain⟨p,x,e,ns,e1,hl,q⟩:=h;refine⟨_,_,?_,q⟩;simp only[BX,e,gq,e1,show Am (intD ns)=some ns from EU ns,hl,gw]
noncomputable abbrev HF(t:Int)(ws:List Wk):I:=Tb.tabI 68 (68+1) (fN t ws)
noncomputable abbrev DM(ws:List Wk)(e:Int):I:=.tup [.int e,HF (e-1) ws]
noncomputable abbrev Q9(ws:List Wk)(es:List Int):I:=.tup (es.map (DM ws))
def Vk{w t:Int}{ws:List Wk}(W:EW w ws)(h0:-1000<=t)(h1:t<=1000):WF Dv [.im (Tb.wmsI (tw t ws))] [] λd _=>d=.im (HF t ws):=by
 refine(Tb.table_of_w (GH W h0 h1) 98).mono ?_;rintro d x rfl;rw[BO,OQ,gV]
structure Pq(ws:List Wk)(es:List Int):Prop where
 ln:es.length=68
 rg:∀e∈es,1<=e/\e<=220
 fw:∀k e,es[k]?=some e->∀m,(fN (e-1) ws 68 m).isSome=true->m<=k
def NZ{w:Int}{ws:List Wk}(W:EW w ws){P:List Pl.Pc}(hp:WF C9 [.im (AV ws)] [] λd _=>d=.im (.tup (P.map Ar)))(hP:∀p∈P,p.1<68)(rg:∀j,j<68->1<=Pl.E P j/\Pl.E P j<=220):WF Cq [.im (AV ws)] [] λd _=>d=.im (Q9 ws (B1 ((71 68).map (Pl.E P)))):=by
 have n8:=W.n8;unfold Cq;refine Ac rfl ?_;refine AB (AL (B9 (wa_sorted (BP (AC (A3 (A1 rfl (A3 (AC (A3 (A1 rfl (A4 ⟨by simp,hp.mono ?_⟩))))))))))));rintro d x rfl;refine⟨_,rfl,A4 ⟨by simp,(ay n8 hP).mono ?_⟩⟩;rintro d x rfl;refine⟨_,rfl,_,rfl,(71 68).map (Pl.E P),by simp[intD],by simp;omega,A6 ?_⟩;have rg2:∀e∈B1 ((71 68).map (Pl.E P)),1<=e/\e<=220:=λe he=>by
  obtain⟨j,hj,rfl⟩:=mem_map.mp ((Aj _).mem_iff.mp he);exact rg j (by simpa using hj)
 have ln2:(B1 ((71 68).map (Pl.E P))).length=ws.length:=by rw[(Aj _).length_eq];simp
 generalize B1 ((71 68).map (Pl.E P))=es at rg2 ln2;refine AY (BA (Ah (EY (A1 rfl ⟨0,intD es,rfl,rfl,AT (by simp[intD];omega),?_⟩))));refine B0 (xs:=es) (λe:Int=>D.im (.int e)) (λe=>some (.im (DM ws e))) (λ_ ls=>∃x,ls=[some x,some (.im (AV ws))]) _ (by intro p hp;rw[gK]at hp;subst hp;rfl) ?_ ?_
 .rintro e he ls hls;obtain⟨e1,e2⟩:=rg2 e he;refine⟨[some (.im (.int e)),some (.im (AV ws))],by rcases hls with rfl|⟨_,x,rfl⟩<;>rfl,⟨_,rfl⟩,BV ⟨rfl,?_⟩⟩;rw[gc rfl];refine⟨_,rfl,B8 (A3 (A1 rfl (A3 (AC (A3 (AC (A3 (A1 rfl (A3 (A7 (A1 rfl (AG (CQ (A4 ⟨by simp,(GI W).mono ?_⟩))))))))))))))⟩;rintro d x rfl;refine⟨_,rfl,A4 ⟨by simp,(Vk W 67 67).mono ?_⟩⟩;rintro d x rfl;exact⟨_,rfl,A4 ⟨Cm,rfl,rfl⟩⟩
 have e:(es.filterMap λe=>some (D.im (DM ws e)))=(es.map (DM ws)).map D.im:=by simp
 rw[e];refine⟨_,rfl,?_⟩;rw[BG]
def OF{w:Int}{ws:List Wk}(W:EW w ws){e:Int}(h1:1<=e)(h2:e<=220)(k:Nat):WF BY [.im (AV ws),.im 94,.im (DM ws e)] [] λd _=>d=.im .non:=by
 unfold BY;refine Ac rfl ?_;refine AB (Af (GE (CP (BL (AC (A3 (AG (A3 (A1 rfl (A4 ⟨by simp,(Tb.tuple_w (n:=2) (is:=[.int e,HF (e-1) ws]) rfl).mono ?_⟩))))))))));rintro d x rfl;refine⟨_,rfl,_,rfl,?_⟩;rw[gf 77];refine CP (BL (AC (A3 (A7 (A1 rfl (AG (AH (ds:=[.im (.int e),.im (HF (e-1) ws)]) rfl (Du _ _) (A4 ⟨by simp,(Tb.number_w e).mono ?_⟩))))))));rintro d x rfl;refine⟨_,rfl,_,rfl,(λh=>by cases h),λ_=>AX (A6 ?_)⟩;refine Aq (AC (A3 (AC (A3 (A1 rfl (A3 (A7 (A7 (A1 rfl (AG (AH (ds:=[.im (.int e),.im (HF (e-1) ws)]) rfl (Du _ _) (AG (CQ (A4 ⟨by simp,(GI W).mono ?_⟩))))))))))))));rintro d x rfl;refine⟨_,rfl,A3 (A7 (A1 rfl (AG (AH (ds:=[.im (.int e),.im (HF (e-1) ws)]) rfl (E9 _ _ _) (A3 (B8 (A3 (A1 rfl (A3 (AG (A4 ⟨Cm,A4 ⟨by simp,?_⟩⟩)))))))))))⟩;refine(Tb.shape_w (pt:=[.int (k:Int),.int 1]) (GH W 67 67) (n:=68) (N:=68+1) (BO _ _).symm (by rw[OQ];omega) (fN (e-1) ws)).mono ?_;rintro d x rfl;exact⟨_,rfl,rfl⟩
def cW{w:Int}{ws:List Wk}(W:EW w ws){e:Int}(h1:1<=e)(h2:e<=220){k:Nat}(hf:∀m,(fN (e-1) ws 68 m).isSome=true->m<=k):WF Ce [.im (AV ws),.im 94,.im (DM ws e)] [] λd _=>d=.im .non:=by
 have n8:=W.n8;have ok:=GH W (t:=e-1) 67 67;obtain⟨m,hm,m1,m2⟩:=Qy (λm=>(fN (e-1) ws 68 m).isSome) 68 (λm hm=>by
  obtain⟨S,n1,n2,rfl,_⟩:=SV W 67 67 hm;have:=JZ n1 (L:=71 68) λx hx=>by simpa using n2 x hx
  simpa using this) (dQ _ _)
 have mk:=hf m m1;unfold Ce;refine Ac rfl ?_;refine AB (Qs (A1 rfl ⟨[some (.im (AV ws)),some (.im 94),some (.im (DM ws e)),some (.im (.int e)),some (.im (HF (e-1) ws))],rfl,A6 ?_⟩));refine AB (Aq (AC (A3 (AC (A3 (A1 rfl (A3 (A7 (A1 rfl (AG (CQ (A4 ⟨by simp,(GI W).mono ?_⟩))))))))))));rintro d x rfl;refine⟨_,rfl,A3 (A1 rfl (A3 (B8 (A3 (A1 rfl (A3 (AG (A4 ⟨Cm,A4 ⟨by simp,?_⟩⟩))))))))⟩;have q:=Tb.places_w (pt:=[.int (k:Int),.int 1]) 77 ok 98 (N:=68+1) 67 67;rw[BO]at q;refine q.mono ?_;rintro d x rfl;refine⟨_,rfl,A6 ?_⟩;refine Af (AO (A7 (AC (A3 (A1 rfl (A4 ⟨by simp,(Tb.greatest_w (n:=68) (N:=68+1) (m:=m) (f:=fN (e-1) ws) 67 67 m1 m2).mono ?_⟩))))));rintro d x rfl;exact⟨_,rfl,A1 rfl (EA ⟨_,rfl,(λh=>absurd h 79),λ_=>AX rfl⟩)⟩
noncomputable abbrev Lq(ws:List Wk)(es:List Int)(w:Int)(z3 z4:Option D):Ls:=[some (.im (AV ws)),some (.im (Q9 ws es)),some (.im (.int w)),z3,z4]
noncomputable abbrev enI(ws:List Wk)(q:Int×Nat):D:=AW [.im (.int (q.2:Int)),.im (DM ws q.1)]
inductive I_lq(ws:List Wk)(es:List Int)(w:Int)(r:List D)(ls:Ls)(hd:Hd):Prop
 |mk (z3 z4:Option D) (h1:∀d∈r,∃(k:Nat) (e:Int),es[k]?=some e/\d=enI ws (e,k)) (h2:ls=Lq ws es w z3 z4) (h3:hd=[]):I_lq ws es w r ls hd
def Sb{ws:List Wk}{es:List Int}:∀d∈((es.map (DM ws)).map D.im).zipIdx.map λq=>AW [.im (.int (q.2:Int)),q.1],∃(k:Nat) (e:Int),es[k]?=some e/\d=enI ws (e,k):=λd hd=>by
 obtain⟨⟨x,i⟩,hq,rfl⟩:=mem_map.mp hd;have:=List.mem_zipIdx_iff_getElem?.mp hq;simp only[gH,List.getElem?_map,map_eq_some_iff]at this;obtain⟨e,h1,rfl⟩:=this;exact⟨i,e,h1,rfl⟩
def OD{w:Int}{ws:List Wk}(W:EW w ws){es:List Int}(Q:Pq ws es):WF EK [.im (AV ws),.im (Q9 ws es)] [] λd _=>d=.im (.int (w*es.sum)):=by
 have n8:=W.n8;have ln:=Q.ln;unfold EK;refine Ac rfl ?_;refine AB (AL (AC (A3 (A1 rfl (A4 ⟨by simp,(Hj W).mono ?_⟩)))));rintro d x rfl;refine⟨_,rfl,A6 ?_⟩;refine AB (Af (CP (BL (AC (A3 (BJ (A3 (A1 rfl (A4 (C0 (ds:=(ws.map BC).map D.im) (z:=.im (.int (ws.length:Int))) rfl (by simp[B7]) (A3 (A1 rfl (A4 ⟨by simp,(Tb.tuple_w (n:=(ws.length:Int)) (is:=es.map (DM ws)) (by simp[ln])).mono ?_⟩)))))))))))));rintro d x rfl;refine⟨_,rfl,_,rfl,(λh=>by cases h),λ_=>AX (A6 ?_)⟩;refine AB (BM (Dx (BP (A1 rfl ⟨_,rfl,?_⟩))));refine BD (I_lq ws es w) (.mk none none Sb rfl rfl) ?_ ?_
 .intro d r ls hd hI;obtain⟨z3,z4,hr,rfl,rfl⟩:=hI;obtain⟨k,e,he,rfl⟩:=hr d 77;obtain⟨e1,e2⟩:=Q.rg e (gJ he);refine⟨Lq ws es w (some (.im 94)) (some (.im (DM ws e))),rfl,?_⟩;refine Aq (AC (A3 (A1 rfl (A3 (A1 rfl (A3 (A1 rfl (A4 ⟨by simp,(OF W e1 e2 k).mono ?_⟩))))))));rintro d x rfl;exact⟨_,rfl,AJ _,.mk _ _ (λd hd=>hr d (by simp[hd])) rfl rfl⟩
 intro ls hd hI;obtain⟨z3,z4,hr,rfl,rfl⟩:=hI;refine A6 (AB (BM (Dx (BP (A1 rfl ⟨_,rfl,?_⟩)))));refine BD (I_lq ws es w) (.mk _ _ Sb rfl rfl) ?_ ?_
 .intro d r ls hd hI;obtain⟨z3,z4,hr,rfl,rfl⟩:=hI;obtain⟨k,e,he,rfl⟩:=hr d 77;obtain⟨e1,e2⟩:=Q.rg e (gJ he);refine⟨Lq ws es w (some (.im 94)) (some (.im (DM ws e))),rfl,?_⟩;refine Aq (AC (A3 (A1 rfl (A3 (A1 rfl (A3 (A1 rfl (A4 ⟨by simp,(cW W e1 e2 (Q.fw k e he)).mono ?_⟩))))))));rintro d x rfl;exact⟨_,rfl,AJ _,.mk _ _ (λd hd=>hr d (by simp[hd])) rfl rfl⟩
 intro ls hd hI;obtain⟨z3,z4,hr,rfl,rfl⟩:=hI;refine A6 (AY (A7 (A1 rfl (BA (Ah (BP (A1 rfl ⟨_,rfl,AT 79,?_⟩)))))));rw[show(es.map (DM ws)).map D.im=es.map λe=>D.im (DM ws e) by simp];refine B0 (xs:=es) (λe=>D.im (DM ws e)) (λe=>some (.im (.int e))) (λ_ ls=>∃x y,ls=[some x,some y]) _ (AJ _) ?_ ?_
 .rintro e he ls hls;refine⟨[some (.im (.int e)),some (.im (HF (e-1) ws))],by rcases hls with rfl|⟨_,x,y,rfl⟩<;>rfl,⟨_,_,rfl⟩,BV ⟨rfl,?_⟩⟩;rw[gc rfl];exact⟨_,rfl,A1 rfl ⟨rfl,rfl⟩⟩
 have e9:(es.filterMap λe=>some (D.im (.int e)))=intD es:=by simp[intD]
 rw[e9];refine⟨.im (.int es.sum),by unfold Dj;rw[show Am (intD es)=some es from EU es];rfl,JG (CB ?_ ?_) rfl⟩
 .have:=W.w0;omega
 .have:=W.w0;omega
open Lt (Wx En AQ more sel IsMin)
theorem sl_fil(f:Nat->Nat)(p:Nat->Bool):∀S:List Nat,sl f (S.filter p)=sl (λj=>if p j then f j else 0) S
 |[]=>rfl
 |x::r=>by
  have ih:=sl_fil f p r;rw[gP];by_cases h:p x=true
  .rw[gc h];simp only[sl,gm,gL,h,gw]at ih ⊢;omega
  .rw[gf h];simp only[sl,gm,gL,h]at ih ⊢;simpa using ih
theorem RK(f g:Nat->Nat):∀S:List Nat,sl (λj=>f j+g j) S=sl f S+sl g S
 |[]=>rfl
 |x::r=>by
  have ih:=RK f g r;simp only[sl,gm,gL]at ih ⊢;omega
theorem R9{k v:Nat}:∀{S:List Nat},S.Nodup->k∈S->sl (λj=>if j=k then v else 0) S=v
 |x::r,nd,h=>by
  obtain⟨n1,n2⟩:=nodup_cons.mp nd;by_cases e:x=k
  .subst e;have:sl (λj=>if j=x then v else 0) r=0:=by
    have:=GM (f:=λj=>if j=x then v else 0) (g:=λ_=>0) (S:=r) λi hi=>gf λq:i=x=>n1 (q ▸ hi);rw[this];clear this n1 n2 nd h
    induction r with
    |nil=>rfl
    |cons y r ih=>simpa [sl]using ih
   simp only[sl,gm,gL,gw]at this ⊢;omega
  .have hr:k∈r:=by
    rcases mem_cons.mp h with q|q
    .exact absurd q.symm e
    .exact q
   have ih:=R9 (v:=v) n2 hr;simp only[sl,gm,gL,gf e]at ih ⊢;omega
def NV(f:Nat->Nat){p q:Nat->Bool}{k:Nat}{S:List Nat}(nd:S.Nodup)(hk:k∈S)(h0:p k=false)(h:∀j,q j=(p j||decide (j=k))):sl f (S.filter q)=sl f (S.filter p)+f k:=by
 rw[sl_fil,sl_fil,<- R9 (v:=f k) nd hk,<- RK];refine GM λj _=>?_;rw[h j];by_cases e:j=k
 .subst e;simp[h0]
 .simp[e]
def SK(S:List Nat):S.length=sl (λ_=>1) S:=by
 induction S with
 |nil=>rfl
 |cons x r ih=>simp only[sl,gm,gL,hX]at ih ⊢;omega
def YS(f:Nat->Nat){p q:Nat->Bool}:∀{S:List Nat},(∀j∈S,p j=true->q j=true)->sl f (S.filter p)<=sl f (S.filter q):=λ{S} h=>by
 rw[sl_fil,sl_fil];refine Lz λj hj=>?_;by_cases e:p j=true
 .rw[gc e,gc (h j hj e)];exact gg _
 .rw[gf e];exact gW _
theorem LF{w T:Int}{ws:List Wk}(W:EW w ws)(h0:-1000<=T)(h1:T<=1000){S:List Nat}(nd:S.Nodup)(hS:∀j∈S,j<68)(F:JE ws S T):∀i,i<=68->∃e∈AQ 0 (Tb.wxs (tw T ws)) i,e.2.1=(S.filter λj:Nat=>decide ((j:Int)∈(Tb.ordI (tw T ws)).take i)).length/\e.2.2=(sl (lnN ws) (S.filter λj:Nat=>decide ((j:Int)∈(Tb.ordI (tw T ws)).take i)):Int)
 |0,_=>by
  have z:(S.filter λj:Nat=>decide ((j:Int)∈(Tb.ordI (tw T ws)).take 0))=[]:=by
   rw[List.filter_eq_nil_iff];intro j _;simp
  rw[z];exact⟨(0,0,0),by simp[AQ],rfl,rfl⟩
 |i+1,hi=>by
  obtain⟨e,he,e1,e2⟩:=LF W h0 h1 nd hS F i 67;have len:(Tb.ordI (tw T ws)).length=ws.length:=by rw[Tb.ord_len,BO]
  have hlt:i<(Tb.ordI (tw T ws)).length:=by omega
  obtain⟨k,hk,ek⟩:=Tb.ord_mem (ws:=tw T ws) (List.getElem_mem hlt);rw[BO]at hk;have et:(Tb.ordI (tw T ws)).take (i+1)=(Tb.ordI (tw T ws)).take i++[(k:Int)]:=by rw[List.take_succ_eq_append_getElem hlt,ek]
  have ed:Tb.ordI (tw T ws)=(Tb.ordI (tw T ws)).take i++(k:Int)::(Tb.ordI (tw T ws)).drop (i+1):=by
   rw[<- ek,<- ig hlt,iL]
  have ex:(Tb.wxs (tw T ws))[i]?=some ((lnN ws k:Int),T-(cmN ws k:Int),1):=by
   unfold Tb.wxs;rw[List.getElem?_map,List.getElem?_eq_getElem hlt,ek,gR,gV,JI hk];show some (Tb.wx ⟨ws[k].len,0,T-ws[k].com,1⟩)=_;rw[(CS W hk).1,(FC W hk).1];rfl
  have nd2:=S4 (tw T ws);have ri:=Iz (GH W h0 h1) 98;rw[ed]at nd2 ri;have nk:(k:Int)∉(Tb.ordI (tw T ws)).take i:=λz=>(nodup_append.mp nd2).2.2 _ z _ 77 rfl;have pq:∀j:Nat,decide ((j:Int)∈(Tb.ordI (tw T ws)).take (i+1))=(decide ((j:Int)∈(Tb.ordI (tw T ws)).take i)||decide (j=k)):=λj=>by
   rw[et];by_cases e:j=k
   .simp[e]
   .have:¬ (j:Int)=(k:Int):=by omega
    simp[e,this]
  by_cases kS:k∈S
  .have s1:=NV (lnN ws) nd kS (gM nk) pq;have s2:=NV (λ_=>1) nd kS (gM nk) pq;rw[<- SK,<- SK]at s2;have le:sl (lnN ws) (S.filter λj:Nat=>decide ((j:Int)∈(Tb.ordI (tw T ws)).take (i+1)))<=sl (lnN ws) (S.filter λj=>decide (cmN ws k<=cmN ws j)):=YS _ λj hj hm=>by
    have hm:=ia hm;rw[et]at hm;rcases mem_append.mp hm with hm|hm
    .have:=(pairwise_append.mp ri).2.2 _ hm (k:Int) 77;rw[gV,gV,Jq W (hS j hj),Jq W hk]at this;exact gN 67
    .have:j=k:=by
      have:=mem_singleton.mp hm;omega
     subst this;exact gN (gg _)
   have f1:=F k kS;refine⟨(i+1,e.2.1+1,e.2.2+(lnN ws k:Int)),?_,by rw[s2,e1],by rw[s1,e2];simp⟩;rw[AQ,ex];refine gn _ ?_;unfold more;refine mem_map.mpr ⟨e,mem_filter.mpr ⟨he,?_⟩,rfl⟩;simp only[iE];omega
  .have eqf:(S.filter λj:Nat=>decide ((j:Int)∈(Tb.ordI (tw T ws)).take (i+1)))=S.filter λj:Nat=>decide ((j:Int)∈(Tb.ordI (tw T ws)).take i):=List.filter_congr λj hj=>by
    rw[pq j,gM (show ¬ j=k from λe=>kS (e ▸ hj)),Bool.or_false]
   rw[eqf];exact⟨e,by rw[AQ];exact i9 _ he,e1,e2⟩
def SU{w T:Int}{ws:List Wk}(W:EW w ws)(h0:-1000<=T)(h1:T<=1000){S:List Nat}(nd:S.Nodup)(hS:∀j∈S,j<68)(F:JE ws S T):∃e∈AQ 0 (Tb.wxs (tw T ws)) 68,e.2.1=S.length:=by
 obtain⟨e,he,e1,_⟩:=LF W h0 h1 nd hS F 68 (gg _);refine⟨e,he,?_⟩;rw[e1]
 congr 1
 rw[List.filter_eq_self];intro j hj;have len:(Tb.ordI (tw T ws)).length=ws.length:=by rw[Tb.ord_len,BO]
 rw[<- len,List.take_length];refine gN ((Tb.ord_perm _).mem_iff.mpr (mem_map.mpr ⟨j,?_,rfl⟩));rw[BO];simpa using hS j hj
structure Whole(ws:List Wk)(P:List Pl.Pc):Prop where
 pw:P.Pairwise λp q=>p.2.2<=q.2.1
 ea:∀p∈P,p.1<68/\(cmN ws p.1:Int)<=p.2.1/\p.2.1<p.2.2
 dn:∀k,k<68->Pl.dn P k=(lnN ws k:Int)
def Whole.ok{ws:List Wk}{P:List Pl.Pc}(O:Whole ws P):Pl.Ok 68 0 P:=⟨O.pw,λp hp=>⟨(O.ea p hp).1,by have:=(O.ea p hp).2.1;omega,(O.ea p hp).2.2⟩⟩
def Whole.has{w:Int}{ws:List Wk}(W:EW w ws){P:List Pl.Pc}(O:Whole ws P){k:Nat}(hk:k<68):∃p∈P,p.1=k:=by
 refine Classical.byContradiction λz=>?_;have h2:=Pl.dn_no (k:=k) (ps:=P) λp hp e=>z ⟨p,hp,e⟩;have h3:=O.dn k hk;have:=(CS W hk).2.1;omega
def Whole.fit{w:Int}{ws:List Wk}(W:EW w ws){P:List Pl.Pc}(O:Whole ws P)(t:Int):JE ws ((71 68).filter λj=>decide (Pl.E P j<=t)) t:=by
 intro j hj;obtain⟨hj,ej⟩:=mem_filter.mp hj;have hj:j<ws.length:=by simpa using hj
 have ej:Pl.E P j<=t:=ia ej;generalize hD:((71 68).filter λj=>decide (Pl.E P j<=t)).filter (λi=>decide (cmN ws j<=cmN ws i))=D;have mD:∀i∈D,i<68/\Pl.E P i<=t/\cmN ws j<=cmN ws i:=λi hi=>by
  rw[<- hD]at hi;obtain⟨h1,h2⟩:=mem_filter.mp hi;obtain⟨h3,h4⟩:=mem_filter.mp h1;exact⟨by simpa using h3,ia h4,ia h2⟩
 have nD:D.Nodup:=by rw[<- hD];exact(nodup_range.filter _).filter _
 have hp:∀p∈P,decide (p.1∈D)=true->(cmN ws j:Int)<=p.2.1/\p.2.1<p.2.2/\p.2.2<=t:=λp hp hm=>by
  obtain⟨h1,h2,h3⟩:=mD _ (ia hm);have h4:=O.ea p hp;have h5:p.2.2<=Pl.E P p.1:=Pl.last_ge (v:=0) O.ok p hp rfl;exact⟨by omega,h4.2.2,by omega⟩
 have hcd:(cmN ws j:Int)<=t:=by
  obtain⟨p,hpP,rfl⟩:=O.has W hj;have h4:=O.ea p hpP;have h5:p.2.2<=Pl.E P p.1:=Pl.last_ge (v:=0) O.ok p hpP rfl;omega
 have tot:=Pl.tot_le (λp=>decide (p.1∈D)) (c:=(cmN ws j:Int)) (T:=t) O.pw hp hcd;have es:(D.map (Pl.dn P)).sum=(sl (lnN ws) D:Int):=by
  have:D.map (Pl.dn P)=D.map λk=>(lnN ws k:Int):=j3 λk hk=>O.dn k (mD k hk).1;rw[this];clear this tot hp mD nD hD
  induction D with
  |nil=>rfl
  |cons x r ih=>simp only[sl,gm,gL]at ih ⊢;omega
 have sd:=Pl.sum_dn nD P;rw[es]at sd;omega
end T48
namespace Mh
open Lt
noncomputable def ins(l:Int):List Int->List Int
 |[]=>[l]
 |a::r=>if l<=a then l::a::r else a::ins l r
noncomputable def pre(A:List Int)(k:Nat):Int:=(A.take k).sum
theorem KP(l:Int):∀A:List Int,(ins l A).length=A.length+1
 |[]=>rfl
 |a::r=>by
  unfold ins;split
  .rfl
  .simp[KP l r]
theorem ins_perm(l:Int):∀A:List Int,(ins l A).Perm (l::A)
 |[]=>.refl _
 |a::r=>by
  unfold ins;split
  .exact .refl _
  .exact((ins_perm l r).cons a).trans (List.Perm.swap l a r)
theorem ins_sorted(l:Int):∀{A:List Int},A.Pairwise (·<=·)->(ins l A).Pairwise (·<=·)
 |[],_=>by simp[ins]
 |a::r,h=>by
  unfold ins;obtain⟨h1,h2⟩:=pairwise_cons.mp h;split
  .next q=>
   refine pairwise_cons.mpr ⟨λx hx=>?_,h⟩;rcases mem_cons.mp hx with rfl|hx
   .exact q
   .have:=h1 x hx;omega
  .next q=>
   refine pairwise_cons.mpr ⟨λx hx=>?_,ins_sorted l h2⟩;rcases mem_cons.mp ((ins_perm l r).mem_iff.mp hx)with rfl|hx
   .omega
   .exact h1 x hx
def DK(A:List Int):pre A 0=0:=by simp[pre]
def Cj(a:Int)(r:List Int)(k:Nat):pre (a::r) (k+1)=a+pre r k:=by simp[pre]
theorem My{l:Int}:∀{B:List Int} {k:Nat},(∀x∈B,l<=x)->k<B.length->pre B k+l<=pre B (k+1)
 |[],k,_,h=>by simp at h
 |b::r,0,hl,_=>by
  rw[Cj,DK,DK];have:=hl b 77;omega
 |b::r,k+1,hl,h=>by
  rw[Cj,Cj];have:=My (B:=r) (k:=k) (λx hx=>hl x (by simp[hx])) (by simpa using h);omega
theorem KG{l:Int}:∀{A:List Int} {k:Nat},A.Pairwise (·<=·)->k<=A.length->pre (ins l A) (k+1)=if k<A.length then min (pre A (k+1)) (pre A k+l)else pre A k+l
 |[],k,_,h=>by
  have:k=0:=by simpa using h
  subst this;simp[ins,pre]
 |a::r,k,hs,h=>by
  obtain⟨h1,h2⟩:=pairwise_cons.mp hs;unfold ins;split
  .next q=>
   rw[Cj];have all:∀x∈a::r,l<=x:=λx hx=>by
    rcases mem_cons.mp hx with rfl|hx
    .exact q
    .have:=h1 x hx;omega
   split
   .next c=>
    have:=My all c;omega
   .omega
  .next q=>
   rw[Cj];cases k with
   |zero=>
    rw[gc 77,Cj,DK,DK,DK];omega
   |succ k=>
    rw[KG h2 (by simpa using h),Cj,Cj];by_cases c:k<r.length
    .rw[gc c,gc (by simpa using c)];omega
    .rw[gf c,gf (by simpa using c)];omega
noncomputable def keep(d l:Int)(A:List Int):List Int:=if A.sum+l<=d then ins l A else(ins l A).dropLast
noncomputable def tabl(A:List Int)(k:Nat):Option Int:=if k<=A.length then some (pre A k)else none
def Om(A:List Int):pre A A.length=A.sum:=by simp[pre]
def UF{A:List Int}(hp:∀x∈A,0<=x)(k:Nat):pre A k<=A.sum:=by
 have:A.sum=(A.take k).sum+(A.drop k).sum:=by rw[<- sum_append,iL]
 have nn:0<=(A.drop k).sum:=by
  have:∀B:List Int,(∀x∈B,0<=x)->0<=B.sum:=by
   intro B
   induction B with
   |nil=>intro _;simp
   |cons b r ih=>intro h;have:=ih λx hx=>h x (by simp[hx]);have:=h b 77;simp;omega
  exact this _ λx hx=>hp x (List.mem_of_mem_drop hx)
 unfold pre;omega
def step{A:List Int}{d l:Int}(hs:A.Pairwise (·<=·))(hp:∀x∈A,0<=x)(hl:0<=l)(hd:A≠[]->A.sum<=d)(k:Nat):As (l,d,1) (tabl A) k=tabl (keep d l A) k:=by
 unfold As;cases k with
 |zero=>
  have e:tabl (keep d l A) 0=some 0:=by simp[tabl,DK]
  rw[e];simp[comb,tabl,DK]
 |succ k=>
  have hk1:¬ (k+1<1):=by omega
  simp only[gf hk1,Nat.add_sub_cancel];have li:=KP l A;have lk:(keep d l A).length=if A.sum+l<=d then A.length+1 else A.length:=by
   unfold keep;split
   .exact li
   .simp[li]
  have pk:k+1<=(keep d l A).length->pre (keep d l A) (k+1)=pre (ins l A) (k+1):=by
   intro h;unfold keep at h ⊢;split
   .rfl
   .next c=>
    rw[gf c]at h;unfold pre;rw[List.dropLast_eq_take,List.take_take]
    congr 2
    simp[li]at h ⊢;omega
  by_cases c1:k+1<=A.length
  .have e1:tabl A (k+1)=some (pre A (k+1)):=gc c1;have e2:tabl A k=some (pre A k):=gc 67;have hk:k+1<=(keep d l A).length:=by rw[lk];split<;>omega
   have e3:tabl (keep d l A) (k+1)=some (min (pre A (k+1)) (pre A k+l)):=by
    unfold tabl;rw[gc hk,pk hk,KG hs 67,gc 67]
   rw[e1,e2,e3];unfold behind;dsimp only;have hne:A≠[]:=λz=>by rw[z]at c1;simp at c1
   have hm:=UF hp (k+1);have:=hd hne;split
   .unfold comb;dsimp only;split<;>(congr 1;omega)
   .unfold comb;dsimp only
    congr 1;omega
  .have e1:tabl A (k+1)=none:=gf c1;rw[e1];by_cases c2:k=A.length
   .subst c2;have e2:tabl A A.length=some A.sum:=by unfold tabl;rw[gc (gg _),Om]
    rw[e2];unfold behind;dsimp only;by_cases c3:A.sum+l<=d
    .have hk:A.length+1<=(keep d l A).length:=by rw[lk,gc c3];exact gg _
     rw[gc c3];unfold tabl;rw[gc hk,pk hk,KG hs (gg _),gf (i7 _),Om];rfl
    .have hk:¬ A.length+1<=(keep d l A).length:=by rw[lk,gf c3];omega
     rw[gf c3];unfold tabl;rw[gf hk];rfl
   .have e2:tabl A k=none:=gf 67;have hk:¬ k+1<=(keep d l A).length:=by rw[lk];split<;>omega
    rw[e2];unfold tabl;rw[gf hk];rfl
end Mh
namespace T48.Tb
open PySem L2 Bd
open Lt (En Wx AQ more IsMin sel)
def Sy{w:Nat}{F:List D->Hd->Option (D×Hd)}{m:MA}{ls:Ls}{hd:Hd}{QE:D->Hd->Prop}(h:WA m ls hd λds x=>∃pre rest,x=pre++rest/\pre.length=w/\Az w ds=true/\pre.all (clO w)=true/\WF F ds pre λd y=>∃i pre' g,d=.im i/\y=pre'++g/\pre'.length=w/\pre'.all (clO w)=true/\QE (.im i) (pre'++rest)):WE (A8 w F m) ls hd QE:=by
 obtain⟨ds,x,e,pre,rest,rfl,hw,hc,hp,d,y,e2,i,pre',g,rfl,rfl,lp,cp,q⟩:=h;exact⟨_,_,J9 (w:=w) (pre:=pre) (pre':=pre') (rest:=rest) (g:=g) hw lp e hc hp cp e2,q⟩
def N3{B c:Int}{ws:List Wm}(ok:okMs B c ws)(h1:∀w∈ws,w.wt=1):WF Bv [.im (wmsI ws)] [] λd x=>d=.im (.int 1):=by
 obtain⟨hne,hl8,hc,hws⟩:=ok;have hl0:0<ws.length:=DR hne;unfold Bv;refine Ac rfl ?_;refine AB (AL (AC (A3 (A7 (A1 rfl (AG (AH (by rw[Dc,CU]) (FH (k:=0) hl0) (A4 ⟨by simp[wmI],(weight_w _).mono ?_⟩))))))));rintro d x rfl;refine⟨_,rfl,A6 ?_⟩;rw[h1 _ (List.getElem_mem hl0)];refine AB (Af (BL (BA (Ah (BP (A1 rfl ⟨_,rfl,?_⟩))))));rw[CU];refine⟨AT 79,?_⟩;refine B0 wmD (λ_=>some (.im (.bl false))) (λ_ ls=>∃x,ls=[some x,some (.im (.int 1))]) _ (AJ _) ?_ ?_
 .rintro p hp ls hls;refine⟨[some (wmD p),some (.im (.int 1))],by rcases hls with rfl|⟨_,x,rfl⟩<;>rfl,⟨_,rfl⟩,BV ⟨rfl,?_⟩⟩;rw[gc rfl];refine⟨_,rfl,A7 (AC (A3 (A1 rfl (A4 ⟨by simp[wmI],(weight_w p).mono ?_⟩))))⟩;rintro d y rfl;rw[h1 p hp];exact⟨_,rfl,A1 rfl (DZ ⟨rfl,by simp⟩)⟩
 have e:(ws.filterMap λ_=>some (D.im (.bl false)))=blD (ws.map λ_=>false):=by simp[blD]
 rw[e];refine⟨_,by rw[GZ,blsD_map];rfl,_,rfl,?_⟩;exact⟨(λh=>by simp at h),λ_=>AX (A6 (AY (A1 rfl rfl)))⟩
noncomputable def lnOf(ws:List Wm)(k:Nat):Int:=(ws[k]?.map Wm.len).getD 0
def VQ{ws:List Wm}{k:Nat}(hk:k<68):(ws[k]).len=lnOf ws k:=by simp[lnOf,hk]
end T48.Tb
namespace Mh
noncomputable def moore:List 103->List Int->List Int
 |[],A=>A
 |(l,d)::r,A=>moore r (keep d l A)
def moore_snoc(L:List 103)(l d:Int):∀A,moore (L++[(l,d)]) A=keep d l (moore L A):=by
 induction L with
 |nil=>intro A;rfl
 |cons p r ih=>intro A;obtain⟨x,y⟩:=p;exact ih _
def NJ{A:List Int}(hs:A.Pairwise (·<=·))(hne:A≠[]):∀x∈A,x<=A.getLast hne:=by
 intro x hx;have e:=List.dropLast_concat_getLast hne;rw[<- e]at hx;rcases mem_append.mp hx with q|q
 .rw[<- e]at hs;exact(pairwise_append.mp hs).2.2 x q _ 77
 .simp at q;omega
def drop_perm{α:Type}[DecidableEq α]{ks:List α}{f:α->Int}{A:List Int}{b:α}(hs:A.Pairwise (·<=·))(pm:(ks.map f).Perm A)(hb:b∈ks)(hm:∀x∈ks,f x<=f b):((ks.erase b).map f).Perm A.dropLast:=by
 have hne:A≠[]:=λz=>by
  have:=pm.length_eq;rw[z]at this;have:ks=[]:=by simpa using this
  rw[this]at hb;cases hb
 have p1:ks.Perm (b::ks.erase b):=List.perm_cons_erase hb;have p2:(f b::(ks.erase b).map f).Perm A:=((p1.map f).symm.trans pm)
 have e:f b=A.getLast hne:=by
  have h1:=NJ hs hne (f b) (p2.mem_iff.mp gp);have h2:A.getLast hne<=f b:=by
   obtain⟨x,hx,ex⟩:=mem_map.mp (pm.mem_iff.mpr (List.getLast_mem hne));rw[<- ex];exact hm x hx
  omega
 have p3:A.Perm (f b::A.dropLast):=by
  have:=List.dropLast_concat_getLast hne;rw[<- e]at this
  conv=>lhs;rw[<- this]
  exact List.perm_append_comm
 exact(p2.trans p3).cons_inv
def OE{A:List Int}{d l:Int}(hs:A.Pairwise (·<=·)):(keep d l A).Pairwise (·<=·):=by
 unfold keep;split
 .exact ins_sorted l hs
 .exact(ins_sorted l hs).sublist (List.dropLast_sublist _)
theorem moore_sorted:∀(L:List 103) {A:List Int},A.Pairwise (·<=·)->(moore L A).Pairwise (·<=·)
 |[],_,h=>h
 |(l,d)::r,_,h=>moore_sorted r (OE h)
end Mh
namespace T48.Tb
open PySem L2 Bd
open Lt (En Wx AQ more IsMin sel)
def dF{L M:List Int}(h:L.Perm M):L.sum=M.sum:=by
 induction h with
 |nil=>rfl
 |cons x _ ih=>simp[ih]
 |swap x y l=>simp;omega
 |trans _ _ ih1 ih2=>exact ih1.trans ih2
theorem era(i:Int):∀L:List Int,L.eraseIdx (L.idxOf i)=L.erase i
 |[]=>rfl
 |y::r=>by
  rw[List.idxOf_cons,List.erase_cons];by_cases h:y=i
  .subst h;simp
  .have h1:(y==i)=false:=by simpa using h
   rw[h1];simp only[cond_false,List.eraseIdx_cons_succ,Bool.false_eq_true,gT];rw[era i r]
noncomputable abbrev lnI(ws:List Wm)(i:Int):Int:=lnOf ws i.toNat
noncomputable def lds(ws:List Wm)(L:List Int):List 103:=L.map λi=>(lnI ws i,dueOf ws i.toNat)
def wa_sorted{mi:MI}{ls:Ls}{hd:Hd}{QA:List D->Hd->Prop}(h:WI mi ls hd λp x=>∃ns:List Int,p.1=intD ns/\ns.length<64/\QA (intD (B1 ns)) x):WA (BX mi) ls hd QA:=by
 obtain⟨p,x,e,ns,e1,hl,q⟩:=h;refine⟨_,_,?_,q⟩;simp only[BX,e,gq,e1,FS,hl,gw]
def SJ{ws:List Wm}{ns:List Int}(hk:∀i∈ns,∃k:Nat,k<68/\i=k)(hl:ns.length<=100):WF EL [.im (wmsI ws),.mu 0] [.lst (intD ns)] λd x=>d=.im (.int (ns.map (lnI ws)).sum)/\x=[.lst (intD ns)]:=by
 unfold EL;refine Ac rfl ?_;refine AY (BA (Ah (EY (A1 rfl ⟨0,intD ns,rfl,rfl,AT (by simp[intD];omega),?_⟩))));refine B0 (λi:Int=>D.im (.int i)) (λi=>some (.im (.int (lnI ws i)))) (λ_ ls=>∃x,ls=[some x,some (.im (wmsI ws))]) _ (by intro q hq;rw[gK]at hq;subst hq;rfl) ?_ ?_
 .rintro i hi ls hls;obtain⟨k,hkn,rfl⟩:=hk i hi;refine⟨[some (.im 94),some (.im (wmsI ws))],by rcases hls with rfl|⟨_,x,rfl⟩<;>rfl,⟨_,rfl⟩,BV ⟨rfl,?_⟩⟩;rw[gc rfl];refine⟨_,rfl,A7 (A7 (A1 rfl (A1 rfl (AH (by rw[Dc,CU]) (FH hkn) (AG (AH (ds:=[.im (.int (ws[k]).len),.im (.int (ws[k]).com),.im (.tup [.str "miss",.int (ws[k]).due,.int (ws[k]).wt])]) rfl (Du _ _) ⟨rfl,?_⟩))))))⟩;rw[VQ hkn];rfl
 have e:(ns.filterMap λi=>some (D.im (.int (lnI ws i))))=intD (ns.map (lnI ws)):=by simp[intD]
 rw[e];exact⟨_,by unfold Dj;rw[FS];rfl,rfl,rfl⟩
noncomputable def kfD(ws:List Wm):D->Int|.im (.int i)=>lnI ws i|_=>0
def put_out_w{ws:List Wm}(ok:okMs 2000 0 ws)(h1:∀w∈ws,w.wt=1):WF FZ [.im (wmsI ws)] [] λd x=>∃is js,d=.im (.tup [.tup is,js])/\is.length=(Mh.moore (lds ws (ordI ws)) []).length:=by
 have hl8:=ok.2.1;unfold FZ;refine Ac rfl ?_;refine AB (AL (AC (A3 (A1 rfl (A4 ⟨by simp,(NI ok).mono ?_⟩)))));rintro d x rfl;refine⟨_,rfl,A6 ?_⟩;refine AB (Aq (AC (A3 (A1 rfl (A4 ⟨by simp,(N3 ok h1).mono ?_⟩)))));rintro d x rfl;refine⟨_,rfl,A6 ?_⟩;refine AB (AL (B9 (Bg (A4 ⟨Dm,A6 ?_⟩))));change WS _ [some (.im (wmsI ws)),some (.im (.int 0)),some (.mu 0),none] [.lst []] _;refine AB (BM (EY (HD (A3 (A1 rfl (A4 ⟨[],[.lst []],rfl,rfl,by simp,rfl,(Hu ok 98).mono ?_⟩))))));rintro d x ⟨rfl,rfl⟩;refine⟨0,_,[],_,rfl,gg _,rfl,rfl,rfl,rfl,DV _ _,1,intD (ordI ws),rfl,rfl,?_⟩;refine BD (λr ls hd=>∃(dn rest ns:List Int) (z3:Option D),ordI ws=dn++rest/\r=intD rest/\ls=[some (.im (wmsI ws)),some (.im (.int 0)),some (.mu 0),z3]/\hd=[.lst (intD ns),.lst (intD (ordI ws))]/\(∀i∈ns,i∈dn)/\ns.length<=dn.length/\(ns.map (lnI ws)).Perm (Mh.moore (lds ws dn) [])) ⟨[],ordI ws,[],none,rfl,rfl,rfl,rfl,by simp,by simp,.refl _⟩ ?_ ?_
 .rintro d r ls hd ⟨dn,rest,ns,z3,e1,er,rfl,rfl,hsub,hle,pm⟩;cases rest with
  |nil=>cases er
  |cons i rest=>
   obtain⟨rfl,rfl⟩:=List.cons.inj er;obtain⟨k,hk,rfl⟩:=ord_mem (ws:=ws) (i:=i) (by rw[e1];simp);have hdl:dn.length<ws.length:=by have:=ord_len ws;rw[e1]at this;simp at this;omega
   have hmem:∀i∈ns++[(k:Int)],∃k:Nat,k<68/\i=k:=λi hi=>by
    rcases mem_append.mp hi with q|q
    .exact ord_mem (by rw[e1];exact i9 _ (hsub i q))
    .rw[gK]at q;exact⟨k,hk,q⟩
   have srt:=Mh.moore_sorted (lds ws dn) (A:=[]) .nil;have eL:lds ws (dn++[(k:Int)])=lds ws dn++[(lnI ws k,dueOf ws k)]:=by simp[lds]
   have eM:Mh.moore (lds ws (dn++[(k:Int)])) []=Mh.keep (dueOf ws k) (lnI ws k) (Mh.moore (lds ws dn) []):=by rw[eL,Mh.moore_snoc]
   have pm1:((ns++[(k:Int)]).map (lnI ws)).Perm (Mh.ins (lnI ws k) (Mh.moore (lds ws dn) [])):=by
    rw[ik];refine(List.perm_append_comm).trans ?_;exact((pm.cons _)).trans (Mh.ins_perm _ _).symm
   have hsum:((ns++[(k:Int)]).map (lnI ws)).sum=(Mh.moore (lds ws dn) []).sum+lnI ws k:=by
    have e2:=dF pm;rw[ik,sum_append,e2];simp
   refine⟨[some (.im (wmsI ws)),some (.im (.int 0)),some (.mu 0),some (.im 94)],rfl,?_⟩;refine AB (Aq (Db (A1 rfl ⟨⟨_,rfl⟩,A3 (A1 rfl (A4 (EN rfl (CN (by simp[intD];omega)) (A6 ?_))))⟩)));have eh:([MO.lst (intD ns),.lst (intD (ordI ws))]:Hd).set 0 (.lst (intD ns++[.im 94]))=[.lst (intD (ns++[(k:Int)])),.lst (intD (ordI ws))]:=by simp[intD]
   rw[eh];refine Af (AO (A7 (A7 (A1 rfl (Sy (A3 (A1 rfl (A3 (A1 rfl (A4 ⟨[.lst (intD (ns++[(k:Int)]))],[.lst (intD (ordI ws))],rfl,rfl,by simp[wmI,clD],by simp[clO,DV,intD],(SJ hmem 79).mono ?_⟩))))))))));rintro d x ⟨rfl,rfl⟩;refine⟨_,[.lst (intD (ns++[(k:Int)]))],[],rfl,rfl,rfl,by simp[clO,DV,intD],Bm ?_⟩;refine A7 (A7 (A7 (A1 rfl (A1 rfl (AH (by rw[Dc,CU]) (FH hk) (AG (AH (ds:=[.im (.int (ws[k]).len),.im (.int (ws[k]).com),.im (.tup [.str "miss",.int (ws[k]).due,.int (ws[k]).wt])]) rfl (Ef _ _ _ _) (AG (AH (ds:=[.im (.str "miss"),.im (.int (ws[k]).due),.im (.int (ws[k]).wt)]) rfl (E9 _ _ _) (EA ⟨_,rfl,λh=>?_,λh=>?_⟩))))))))))
   .have h:(Mh.moore (lds ws dn) []).sum+lnI ws k>dueOf ws k:=by
     rw[Jr hk,hsum]at h;have:=ia h;omega
    obtain⟨i0,is0,e0⟩:∃i0 is0,ns++[(k:Int)]=i0::is0:=by
     cases ns with
     |nil=>exact⟨_,_,rfl⟩
     |cons a r=>exact⟨_,_,rfl⟩
    have ks:=Mh.ins_sorted (lnI ws k) srt;have bm:=JA (kfD ws) (intD is0) (.im (.int i0));obtain⟨b,hb,eb⟩:∃b,b∈ns++[(k:Int)]/\DF (λn m=>decide (n>m)) (intD is0) ((intD is0).map (kfD ws)) (.im (.int i0)) (kfD ws (.im (.int i0)))=.im (.int b):=by
     have h2:DF (λn m=>decide (n>m)) (intD is0) ((intD is0).map (kfD ws)) (.im (.int i0)) (kfD ws (.im (.int i0)))∈intD (i0::is0):=bm.1;obtain⟨b,hb,eb⟩:=mem_map.mp h2;exact⟨b,by rw[e0];exact hb,eb.symm⟩
    have hbm:∀x∈ns++[(k:Int)],lnI ws x<=lnI ws b:=λx hx=>by
     have h3:=bm.2 (.im (.int x)) (by rw[e0]at hx;exact(show D.im (.int x)∈intD (i0::is0)from mem_map.mpr ⟨x,hx,rfl⟩));rw[eb]at h3;exact h3
    refine Aq (Db (A1 rfl ⟨⟨_,rfl⟩,A3 (T0 (A1 rfl ⟨.im (.int i0),intD is0,kfD ws,?_,λy hy=>?_,?_⟩))⟩))
    .show some (intD (ns++[(k:Int)]))=_;rw[e0];rfl
    .obtain⟨x,hx,rfl⟩:=mem_map.mp (show y∈intD (i0::is0)from hy);obtain⟨kk,hkk,rfl⟩:=hmem x (by rw[e0];exact hx);have w:WE (mOp gIx (mOp gIx (A0 1) 85) 101) [some (.im (.int (kk:Int))),some (.im (wmsI ws))] [.lst (intD (ns++[(k:Int)])),.lst (intD (ordI ws))] λd x=>d=.im (.int (lnI ws kk))/\x=[.lst (intD (ns++[(k:Int)])),.lst (intD (ordI ws))]:=by
      refine A7 (A7 (A1 rfl (A1 rfl (AH (by rw[Dc,CU]) (FH hkk) (AG (AH (ds:=[.im (.int (ws[kk]).len),.im (.int (ws[kk]).com),.im (.tup [.str "miss",.int (ws[kk]).due,.int (ws[kk]).wt])]) rfl (Du _ _) ⟨?_,rfl⟩))))));rw[VQ hkk];rfl
     obtain⟨d,x,e,rfl,rfl⟩:=w;exact e
    .rw[eb];refine A4 (Qt (ns:=ns++[(k:Int)]) rfl hb ?_);rw[era];refine⟨by intro q hq;rw[gK]at hq;subst hq;rfl,dn++[(k:Int)],rest,(ns++[(k:Int)]).erase b,_,by rw[e1];simp,rfl,rfl,rfl,λi hi=>?_,?_,?_⟩
     .rcases mem_append.mp (List.mem_of_mem_erase hi)with q|q
      .exact i9 _ (hsub i q)
      .exact gn _ q
     .rw[List.length_erase_of_mem hb];simp;omega
     .rw[eM];unfold Mh.keep;rw[gf 67];exact Mh.drop_perm ks pm1 hb hbm
   .have h:¬ (Mh.moore (lds ws dn) []).sum+lnI ws k>dueOf ws k:=by
     rw[Jr hk,hsum]at h;have:=of_decide_eq_false h;omega
    refine AX ⟨by intro q hq;rw[gK]at hq;subst hq;rfl,dn++[(k:Int)],rest,ns++[(k:Int)],_,by rw[e1];simp,rfl,rfl,rfl,λi hi=>?_,by simp;omega,?_⟩
    .rcases mem_append.mp hi with q|q
     .exact i9 _ (hsub i q)
     .exact gn _ q
    .rw[eM];unfold Mh.keep;rw[gc 67];exact pm1
 .rintro ls hd ⟨dn,rest,ns,z3,e1,er,rfl,rfl,hsub,hle,pm⟩;have:rest=[]:=by cases rest with
   |nil=>rfl
   |cons t r=>cases er
  subst this;rw[i4]at e1;have hdl:dn.length=ws.length:=by rw[<- e1];exact ord_len ws
  refine A6 (AY (B8 (A3 (BA (wa_sorted (EY (A1 rfl ⟨0,intD ns,rfl,rfl,ns,rfl,by omega,_,rfl,?_⟩)))))));refine A3 (BA (Ah (GG (A3 (BJ (A3 (A1 rfl (A4 (C0 rfl rfl (A4 ⟨(ws.length:Int),by simp,E2 67 67,?_⟩))))))))));rw[gV,Ei];refine⟨AT (by simp[Ba];omega),?_⟩;refine B0 (λk:Nat=>D.im 94) (λk=>if ¬ (k:Int)∈ns then some (.im 94)else none) (λ_ ls=>∃x,ls=[some x,some (.mu 0)]) _ (AJ _) ?_ ?_
  .rintro k hk' ls hls;refine⟨[some (.im 94),some (.mu 0)],by rcases hls with rfl|⟨_,x,rfl⟩<;>rfl,⟨_,rfl⟩,?_⟩;refine AO (A7 (A1 rfl (A1 rfl (YE (xs:=ns) rfl ⟨_,rfl,rfl,?_⟩))));by_cases q:(k:Int)∈ns
   .rw[gf (by simp[q])];exact gf (λz=>z q)
   .rw[gc (by simp[q])];exact⟨_,gc q,A1 rfl ⟨rfl,rfl⟩⟩
  have ei:((71 68).filterMap λk:Nat=>if ¬ (k:Int)∈ns then some (D.im 94)else none)=intD (((71 68).filter λk:Nat=>decide (¬ (k:Int)∈ns)).map λk:Nat=>(k:Int)):=by
   generalize 71 68=L
   induction L with
   |nil=>rfl
   |cons x r ih=>
    rw[ic,gP];by_cases h:(x:Int)∈ns
    .simp[h]at ih ⊢;exact ih
    .simp[h,intD]at ih ⊢;exact ih
  rw[ei];have mi:∀L:List Int,AW (intD L)=.im (.tup (L.map I.int)):=λL=>by
   have:intD L=(L.map I.int).map D.im:=by simp[intD]
   rw[this,BG]
  refine⟨_,rfl,A4 ⟨Cm,?_⟩⟩;rw[mi,mi,KI];refine⟨_,_,rfl,?_⟩;rw[gy,(Aj ns).length_eq,e1,<- pm.length_eq,gy]
end T48.Tb
namespace Mh
open Lt
def Uf{A:List Int}{d l x:Int}(h:x∈keep d l A):x=l∨x∈A:=by
 have:x∈ins l A:=by
  unfold keep at h;split at h
  .exact h
  .exact(List.dropLast_sublist _).subset h
 exact mem_cons.mp ((ins_perm l A).mem_iff.mp this)
def bo{L M:List Int}(h:L.Perm M):L.sum=M.sum:=by
 induction h with
 |nil=>rfl
 |cons x _ ih=>simp[ih]
 |swap x y l=>simp;omega
 |trans _ _ ih1 ih2=>exact ih1.trans ih2
def Ue{A:List Int}{d l:Int}(hs:A.Pairwise (·<=·))(hd:A≠[]->A.sum<=d)(hne:keep d l A≠[]):(keep d l A).sum<=d:=by
 unfold keep at hne ⊢;have e:=bo (ins_perm l A);rw[gL]at e;split
 .next c=>omega
 .next c=>
  rw[gf c]at hne;have hA:A≠[]:=λz=>by rw[z]at hne;simp[ins]at hne
  have hi:ins l A≠[]:=λz=>by have:=KP l A;rw[z]at this;simp at this
  have e2:=List.dropLast_concat_getLast hi;have e3:(ins l A).sum=(ins l A).dropLast.sum+(ins l A).getLast hi:=by
   conv=>lhs;rw[<- e2]
   rw[sum_append];simp
  have:=NJ (ins_sorted l hs) hi l ((ins_perm l A).mem_iff.mpr gp);have:=hd hA;omega
noncomputable def toW(p:Int×Int):Wx:=(p.1,p.2,1)
theorem table_moore{L:List 103}(hl:∀p∈L,0<=p.1)(hd:L.Pairwise λp q=>p.2<=q.2):∀k,k<=L.length->(∀w,IsMin (sel w (AQ 0 (L.map toW) k)) (tabl (moore (L.take k) []) w))/\(∀x∈moore (L.take k) [],0<=x)/\(∀j,k<=j->∀q,L[j]?=some q->moore (L.take k) []≠[]->(moore (L.take k) []).sum<=q.2)
 |0,_=>by
  refine⟨λw=>?_,by simp[moore],λj _ q _ h=>by simp[moore]at h⟩;unfold AQ sel;by_cases h:w=0
  .subst h;exact .inr ⟨0,by simp[tabl,moore,pre],by simp,by simp⟩
  .have h':¬ (0=w):=λz=>h z.symm;exact .inl ⟨by simp[tabl,moore,h],by simp[h']⟩
 |k+1,hk=>by
  obtain⟨ih1,ih2,ih3⟩:=table_moore hl hd k 67;have hkl:k<L.length:=by omega
  have ek:L[k]?=some L[k]:=List.getElem?_eq_getElem hkl;have et:L.take (k+1)=L.take k++[L[k]]:=by rw[List.take_succ,ek];rfl
  have em:moore (L.take (k+1)) []=keep (L[k]).2 (L[k]).1 (moore (L.take k) []):=by rw[et,moore_snoc]
  have hl0:=hl L[k] (List.getElem_mem hkl);have hs:=moore_sorted (L.take k) (A:=[]) .nil;have hle:=ih3 k (gg _) _ ek;refine⟨λw=>?_,λx hx=>?_,λj hj q hq hne=>?_⟩
  .have hx:(L.map toW)[k]?=some (toW L[k]):=by rw[List.getElem?_map,ek];rfl
   have:=Lt.next_min (c:=0) hx (f:=tabl (moore (L.take k) [])) (w:=w) (ih1 w) λ_=>ih1 _;rw[em,<- step hs ih2 hl0 hle w];exact this
  .rw[em]at hx;rcases Uf hx with rfl|hx
   .exact hl0
   .exact ih2 x hx
  .rw[em]at hne ⊢;have h1:=Ue hs hle hne;have h2:(L[k]).2<=q.2:=by
    obtain⟨hjl,rfl⟩:=78 hq;exact List.pairwise_iff_getElem.mp hd k j hkl hjl 67
   omega
end Mh
namespace T48
open PySem L2 Bd S7
open Lt (Wx En AQ more sel IsMin)
noncomputable abbrev Kd(ws:List Wk)(P:List Pl.Pc)(t:Int):Nat:=((71 68).filter λj=>decide (Pl.E P j<=t)).length
def NG{w:Int}{ws:List Wk}(W:EW w ws){lf:Nat->Nat}{P:List Pc}{T:Nat}{G:Nat->Nat->Nat}(S0:St 68 (lnN ws) (cmN ws) lf P T G)(z:∀j,j<68->lf j=0){t:Int}{S:List Nat}(nd:S.Nodup)(hS:∀i∈S,i<68)(F:JE ws S t):S.length<=Kd ws P t:=by
 by_cases q:S=[]
 .subst q;simp
 .obtain⟨j,hj⟩:=List.exists_mem_of_ne_nil _ q;have e1:=F j hj;obtain⟨τ,eτ⟩:∃τ:Nat,t=(τ:Int):=⟨t.toNat,by omega⟩
  subst eτ;by_cases ht:τ<=T
  .refine gQ (P2 S0.H ht nd hS (λi hi=>(CS W (hS i hi)).2.1) λj hj=>?_) ?_
   .have:=F j hj;omega
   .unfold Kd;rw[<- List.countP_eq_length_filter,<- List.countP_eq_length_filter];refine List.countP_mono_left λj hj hp=>?_;have hj:j<ws.length:=by simpa using hj
    have hp:cmN ws j<=τ/\G τ j=0:=by simpa using hp
    exact gN ((S0.en j hj (z j hj) τ ht).mp hp.2)
  .have all:((71 68).filter λj=>decide (Pl.E P j<=(τ:Int)))=71 ws.length:=List.filter_eq_self.mpr λj hj=>by
    have hj:j<ws.length:=by simpa using hj
    have:=(S0.en j hj (z j hj) T (gg _)).mp (by rw[S0.gl,z j hj]);exact gN 67
   unfold Kd;rw[all];exact JZ nd λx hx=>by simpa using hS x hx
def OK{w:Int}{ws:List Wk}(W:EW w ws){lf:Nat->Nat}{P:List Pc}{T:Nat}{G:Nat->Nat->Nat}(S0:St 68 (lnN ws) (cmN ws) lf P T G)(z:∀j,j<68->lf j=0){P':List Pl.Pc}(O:Whole ws P')(t:Int):Kd ws P' t<=Kd ws P t:=
 NG W S0 z (nodup_range.filter _) (λi hi=>by simpa using (mem_filter.mp hi).1) (O.fit W t)
noncomputable abbrev mr(t:Int)(ws:List Wk):List Int:=Mh.moore (Tb.lds (tw t ws) (Tb.ordI (tw t ws))) []
def aP{w t:Int}{ws:List Wk}(W:EW w ws):(Tb.lds (tw t ws) (Tb.ordI (tw t ws))).map Mh.toW=Tb.wxs (tw t ws):=by
 unfold Tb.lds Tb.wxs;rw[gH];refine j3 λi hi=>?_;obtain⟨k,hk,rfl⟩:=Tb.ord_mem hi;rw[BO]at hk;simp[Function.comp,Mh.toW,Tb.lnI,Tb.lnOf,Tb.dueOf,JI hk,Tb.wx]
def SC{w t:Int}{ws:List Wk}(W:EW w ws)(h0:-1000<=t)(h1:t<=1000):(∃e∈AQ 0 (Tb.wxs (tw t ws)) 68,e.2.1=(mr t ws).length)/\∀e∈AQ 0 (Tb.wxs (tw t ws)) 68,e.2.1<=(mr t ws).length:=by
 have ok:=GH W h0 h1;have hl:(Tb.lds (tw t ws) (Tb.ordI (tw t ws))).length=ws.length:=by simp[Tb.lds,Tb.ord_len,BO]
 have hp:∀p∈Tb.lds (tw t ws) (Tb.ordI (tw t ws)),0<=p.1:=λp hp=>by
  obtain⟨i,hi,rfl⟩:=mem_map.mp hp;obtain⟨k,hk,rfl⟩:=Tb.ord_mem hi;rw[BO]at hk;have:=(CS W hk).1;simp[Tb.lnI,Tb.lnOf,JI hk];omega
 have ri:(Tb.lds (tw t ws) (Tb.ordI (tw t ws))).Pairwise λp q=>p.2<=q.2:=by
  unfold Tb.lds;rw[iH];exact Iz ok 98
 obtain⟨tm,_,_⟩:=Mh.table_moore hp ri 68 67;rw[List.take_of_length_le 67,aP W]at tm;generalize hE:AQ 0 (Tb.wxs (tw t ws)) 68=E at *;show(∃e∈E,e.2.1=(Mh.moore (Tb.lds (tw t ws) (Tb.ordI (tw t ws))) []).length)/\∀e∈E,e.2.1<=(Mh.moore (Tb.lds (tw t ws) (Tb.ordI (tw t ws))) []).length;generalize hM:Mh.moore (Tb.lds (tw t ws) (Tb.ordI (tw t ws))) []=M at *;refine⟨?_,λe he=>Nat.le_of_not_lt λhlt=>?_⟩
 .have h1:=tm M.length;unfold Mh.tabl at h1;rw[gc (gg _)]at h1;rcases h1 with⟨h,_⟩|⟨m,_,hm,_⟩
  .cases h
  .obtain⟨e,he,rfl⟩:=mem_map.mp hm;exact⟨e,(mem_filter.mp he).1,by simpa using (mem_filter.mp he).2⟩
 .have h1:=tm e.2.1;unfold Mh.tabl at h1;rw[gf 67]at h1;rcases h1 with⟨_,h⟩|⟨m,h,_⟩
  .have:e.2.2∈sel e.2.1 E:=mem_map.mpr ⟨e,mem_filter.mpr ⟨he,by simp⟩,rfl⟩;rw[h]at this;cases this
  .cases h
def Kx{w t:Int}{ws:List Wk}(W:EW w ws)(h0:-1000<=t)(h1:t<=1000){lf:Nat->Nat}{P:List Pc}{T:Nat}{G:Nat->Nat->Nat}(S0:St 68 (lnN ws) (cmN ws) lf P T G)(z:∀j,j<68->lf j=0)(O:Whole ws P):(mr t ws).length=Kd ws P t:=by
 obtain⟨⟨e,he,e1⟩,hm⟩:=SC W h0 h1;refine Nat.le_antisymm ?_ ?_
 .obtain⟨S,n1,n2,n3,_,n5⟩:=Iw W h0 h1 _ (gg _) e he;rw[<- e1,n3];refine NG W S0 z n1 (λi hi=>?_) n5;obtain⟨k2,q1,q2⟩:=Tb.ord_mem (ws:=tw t ws) (List.mem_of_mem_take (n2 i hi));rw[BO]at q1;omega
 .obtain⟨e',he',e2⟩:=SU W h0 h1 (nodup_range.filter λj=>decide (Pl.E P j<=t)) (λi hi=>by simpa using (mem_filter.mp hi).1) (O.fit W t);have:=hm e' he';rw[e2]at this;exact this
def Hq{w t:Int}{ws:List Wk}(W:EW w ws)(h0:-1000<=t)(h1:t<=1000):WF DW [.im (AV ws),.im (.int t)] [] λd _=>d=.im (.int ((mr t ws).length:Int)):=by
 unfold DW;refine Ac rfl ?_;refine AY (BJ (A3 (A7 (AC (A3 (AC (A3 (A1 rfl (A3 (A1 rfl (A4 ⟨by simp,(GI W).mono ?_⟩)))))))))));rintro d x rfl;refine⟨_,rfl,A4 ⟨by simp,(Tb.put_out_w (GH W h0 h1) (λw hw=>by obtain⟨v,_,rfl⟩:=mem_map.mp hw;rfl)).mono ?_⟩⟩;rintro d x ⟨is,js,rfl,hl⟩;refine⟨_,rfl,AG (AH (ds:=[.im (.tup is),.im js]) rfl (Du _ _) (A4 (C0 rfl rfl ?_)))⟩;show _=_;rw[gy,hl]
def Nd{n:Nat}(E:Nat->Int)(t:Int):((71 n).filter λj=>decide (E j<=t)).length=(B1 ((71 n).map E)).countP λx=>decide (x<=t):=by
 rw[(Aj _).countP_eq,List.countP_map,<- List.countP_eq_length_filter];rfl
def b0{L:List Int}(hs:L.Pairwise (·<=·)){i:Nat}{e:Int}(h:L[i]?=some e):i+1<=L.countP λx=>decide (x<=e):=by
 obtain⟨hi,rfl⟩:=78 h;have e1:L.countP (λx=>decide (x<=L[i]))=(L.take (i+1)).countP (λx=>decide (x<=L[i]))+(L.drop (i+1)).countP (λx=>decide (x<=L[i])):=by rw[<- List.countP_append,iL]
 have e2:(L.take (i+1)).countP (λx=>decide (x<=L[i]))=(L.take (i+1)).length:=by
  rw[List.countP_eq_length];intro x hx;obtain⟨j,hj,rfl⟩:=List.mem_iff_getElem.mp hx;rw[List.getElem_take];rw[i6]at hj;by_cases q:j=i
  .subst q;simp
  .exact gN (List.pairwise_iff_getElem.mp hs j i 67 hi 67)
 rw[i6]at e2;omega
def cz{n:Nat}{E E':Nat->Int}(h:∀t,((71 n).filter λj=>decide (E' j<=t)).length<=((71 n).filter λj=>decide (E j<=t)).length){i:Nat}{a b:Int}(ha:(B1 ((71 n).map E))[i]?=some a)(hb:(B1 ((71 n).map E'))[i]?=some b):a<=b:=by
 refine Int.not_lt.mp λq=>?_;have h1:=h b;rw[Nd,Nd]at h1;have h2:=b0 (Ci _) hb;have h3:=JM (Ci _) ha q;omega
theorem Kl:∀{L M:List Int},L.length=M.length->(∀(i:Nat) (a b:Int),L[i]?=some a->M[i]?=some b->a<=b)->L.sum<=M.sum
 |[],[],_,_=>Int.le_refl _
 |x::L,y::M,hl,h=>by
  have h1:=h 0 x y rfl rfl;have ih:=Kl (L:=L) (M:=M) (by simpa using hl) λi a b ha hb=>h (i+1) a b (by simpa using ha) (by simpa using hb);simp only[gL];omega
noncomputable abbrev wI(ps:List 103):I:=.tup (ps.map HZ)
structure Wsh(n:Nat)(ps:List 103):Prop where
 len:ps.length<=16
 al:∃seq:List Nat,seq.Perm (71 n)/\Along seq ps
def Wsh.nats{n:Nat}{ps:List 103}(h:Wsh n ps):∀p∈ps,∃a b:Nat,p=((a:Int),(b:Int))/\a<n/\b<n:=λp hp=>by
 obtain⟨seq,pm,al⟩:=h.al;obtain⟨i,j,a,b,_,e1,e2,e⟩:=al p hp;exact⟨a,b,e,by simpa using pm.mem_iff.mp (gJ e1),by simpa using pm.mem_iff.mp (gJ e2)⟩
def Ww{hd:Hd}{k:Nat}{ns:List Int}(e:hd[k]?=some (.lst (intD ns))):pyD hd (.mu k)=some (.list (ns.map PyData.int)):=by
 show(match hd[k]? with|some (.lst ds)=>(BK ds).map λis=>PyData.list (I.pys is)|_=>none)=_;rw[e];show(BK (ns.map λi=>D.im (.int i))).map _=_;rw[Cv,gR,DJ]
theorem Js:∀ns:List Int,PyData.depthAll (ns.map PyData.int)=0
 |[]=>by simp[PyData.depthAll]
 |n::r=>by simp[PyData.depthAll,PyData.depth,Js r]
def NH(ns:List Int):(PyData.list (ns.map PyData.int)).canLay0=true:=by
 rw[PyData.canLay0]
 induction ns with
 |nil=>rfl
 |cons x r ih=>simp[PyData.canLayAll0,PyData.canLay0]at ih ⊢;try exact ih
theorem NY:∀as bs:List Int,PyData.eqvAll (as.map PyData.int) (bs.map PyData.int)=decide (as=bs)
 |[],[]=>by simp[PyData.eqvAll]
 |[],b::r=>by simp[PyData.eqvAll]
 |a::r,[]=>by simp[PyData.eqvAll]
 |a::r,b::s=>by
  have ih:=NY r s;simp only[gm,PyData.eqvAll,PyData.eqv,ih];by_cases h:a=b
  .subst h;simp
  .simp[h]
def Vf{ma:ME}{ml:MA}{ls:Ls}{hd:Hd}{QE:D->Hd->Prop}(h:WE ma ls hd λd x=>WA ml ls x λds y=>∃as bs:List Int,pyD y d=some (.list (as.map PyData.int))/\ds=intD bs/\QE (.im (.bl (!decide (as=bs)))) y):WE (Dh true ma ml) ls hd QE:=by
 obtain⟨d,x,e1,ds,y,e2,as,bs,e3,rfl,q⟩:=h;refine⟨_,y,?_,q⟩;unfold Dh;rw[e1];simp only[gq,e2,e3];simp only[intD,Cv,gq,DJ];unfold KW;rw[gc ⟨NH as,NH bs,by simp[PyData.depth,Js]⟩];simp[PyData.eqv,NY]
local macro_rules | `(tactic| nofun) => `(tactic| repeat (first | (with_reducible refine A6 ?_; try dsimp only [set_cons_zero, set_cons_succ, gm, iA, iF, iR, List.replicate, Nat.reduceSub, Int.reduceToNat]) | (with_reducible first | refine Ib ?_ | refine AB ?_ | refine AL ?_ | refine AY ?_ | refine Aq ?_ | refine AX ?_ | refine Af ?_ | refine MB ?_ | refine Eo ?_ | refine BM ?_ | refine A1 (d := _) rfl ?_ | refine AG ?_ | refine A7 ?_ | refine B8 ?_ | refine B9 ?_ | refine BA ?_ | refine Ev ?_ | refine BJ ?_ | refine Db ?_ | refine Dy ?_ | refine Jz ?_ | refine AO ?_ | refine CP ?_ | refine DY ?_ | refine GE ?_ | refine BV ?_ | refine A4 ?_ | refine A3 ?_ | refine Bg ?_ | refine Ah ?_ | refine GG ?_ | refine Ln ?_ | refine BP ?_ | refine MD ?_ | refine EY ?_ | refine Bm ?_ | refine CQ ?_ | refine FG ?_ | refine GF ?_ | refine EA ?_ | refine PD ?_ | refine Cf ?_ | refine DZ ?_ | refine MC ?_ | refine HB ?_ | refine Fr ?_ | refine Jy ?_ | refine ⟨_, rfl, ?_⟩) | refine AH rfl (Du _ _) ?_ | refine AH rfl (E9 _ _ _) ?_ | refine AH rfl (Ef _ _ _ _) ?_ | refine ⟨_, _, _, _, rfl, rfl, rfl, rfl, ?_⟩ | refine ⟨⟨_, rfl⟩, ?_⟩ | refine ⟨Cm, ?_⟩ | refine ⟨CV, ?_⟩ | refine ⟨NU, ?_⟩ | refine ⟨Jm, ?_⟩ | refine ⟨Dm, ?_⟩ | refine ⟨Dk, ?_⟩ | (with_reducible first | refine we_nilEN ?_)))
def Ta{n:Nat}(h:n<=8):GN (n:Int):=E2 67 67
def Su(k:Nat)(n:Nat)(hn:n<=8):∀a b,T (k+100) a b->WF Go [.mu 1,.im (.int (n:Int))] [a,b] λd x=>∃i a' b' g,d=.im i/\(∃ps,i=wI ps/\Wsh n ps)/\T k a' b'/\x=a'::b'::g:=by
 intro a b hT;unfold Go;refine Ac rfl ?_
 nofun
 refine Vh rfl (TZ 67 67) ?_
 nofun
 refine⟨Ta 67,?_⟩;refine BD (λr ls hd=>∃(left seq:List Nat) (a b:MO) (z4:Option D),r=Ab (seq.length:Int) (n-seq.length)/\ls=[some (.mu 1),some (.im (.int (n:Int))),some (.mu 2),some (.mu 3),z4,none,none,none,none]/\hd=[a,b,.lst (Ba left),.lst (Ba seq)]/\T (k+80+left.length) a b/\(seq++left).Perm (71 n)) ?_ ?_ ?_
 .refine⟨71 n,[],a,b,none,by simp,rfl,?_,tap.le hT 79,by simp⟩;rw[gV,Ei];rfl
 .rintro d r ls hd ⟨left,seq,a,b,z4,er,rfl,rfl,hT,pm⟩;have sl:seq.length+left.length=n:=by simpa using pm.length_eq
  obtain⟨m,hm⟩:∃m,n-seq.length=m+1:=by
   cases q:n-seq.length with
   |zero=>rw[q]at er;cases er
   |succ m=>exact⟨m,rfl⟩
  rw[hm,Ab]at er;obtain⟨rfl,rfl⟩:=List.cons.inj er;obtain⟨l,hl2⟩:∃l,left.length=l+1:=⟨left.length-1,by omega⟩
  rw[hl2]at hT;refine⟨_,rfl,?_⟩;dsimp only[set_cons_zero,set_cons_succ]
  nofun
  refine tap.draw (many:=(left.length:Int)) (rest:=[.lst (Ba left),.lst (Ba seq)]) hT (by simp[B7]) 67 67 λr a b hT pr qr=>?_
  nofun
  have hr:r.toNat<left.length:=by omega
  have e1:left[r.toNat]?=some left[r.toNat]:=by simp[hr]
  refine Ss rfl (E2 67 67) (Xp (n:=(Ba left).length) pr 79) (by simp[e1];rfl) ?_
  nofun
  refine EN rfl (CN 79) ?_;refine⟨AJ _,left.eraseIdx r.toNat,seq++[left[r.toNat]],a,b,_,?_,rfl,?_,by rw[List.length_eraseIdx,gc hr];exact tap.le hT (show k+80+(left.length-1)<=k+80+l by omega),(Rx e1).trans pm⟩
  .rw[ie,List.length_singleton,show n-(seq.length+1)=m by omega];rfl
  .have er:(Ba left).eraseIdx r.toNat=Ba (left.eraseIdx r.toNat):=erase_map _ _ _;simp[er]
 .rintro ls hd ⟨left,seq,a,b,z4,er,rfl,rfl,hT,pm⟩;have sl:seq.length+left.length=n:=by simpa using pm.length_eq
  have:n-seq.length=0:=by
   cases q:n-seq.length with
   |zero=>rfl
   |succ m=>rw[q]at er;cases er
  have hl:left=[]:=List.length_eq_zero_iff.mp 67;subst hl;simp only[i4]at pm;have sl:seq.length=n:=by simpa using sl
  simp only[iJ]at hT
  nofun
  refine tap.draw hT rfl (by first|decide|omega) (by first|decide|omega) λr1 a b hT pr1 qr1=>?_
  nofun
  refine⟨Ta 67,?_⟩;refine BD (λr ls hd=>∃(ps:List 103) (i:Nat) (a b:MO) (z y:Option D),r=Ab (i:Int) (n-i)/\i<=n/\ls=[some (.mu 1),some (.im (.int (n:Int))),some (.mu 2),some (.mu 3),z4,some (.im (.int r1)),some (.mu 4),z,y]/\hd=[a,b,.lst [],.lst (Ba seq),.lst (ps.map Ak)]/\T (k+8*(n-i)) a b/\ps.length<=8*i-i/\Along seq ps) ?_ ?_ ?_
  .exact⟨[],0,a,b,none,none,by simp,by omega,rfl,rfl,tap.le hT 67,by simp,(by intro p hp;cases hp)⟩
  .rintro d r ls hd ⟨ps,i,a,b,z,y,er,hi,rfl,rfl,hT,hl,ho⟩;obtain⟨m,hm⟩:∃m,n-i=m+1:=by
    cases q:n-i with
    |zero=>rw[q]at er;cases er
    |succ m=>exact⟨m,rfl⟩
   rw[hm,Ab]at er;obtain⟨rfl,rfl⟩:=List.cons.inj er;rw[hm]at hT;refine⟨_,rfl,?_⟩;dsimp only[set_cons_zero,set_cons_succ];refine BM (Ln (A3 (A7 (A1 rfl (AG (Bm (A3 (A1 rfl (A4 ⟨(i:Int)+1,(n:Int),rfl,Vz 67 67 67 67,?_⟩)))))))));rw[show((n:Int)-((i:Int)+1)).toNat=n-(i+1) by omega,show(i:Int)+1=((i+1:Nat):Int) by omega];refine BD (λr ls hd=>∃(ps:List 103) (j:Nat) (a b:MO) (y:Option D),r=Ab (j:Int) (n-j)/\i<j/\j<=n/\ls=[some (.mu 1),some (.im (.int (n:Int))),some (.mu 2),some (.mu 3),z4,some (.im (.int r1)),some (.mu 4),some (.im (.int (i:Int))),y]/\hd=[a,b,.lst [],.lst (Ba seq),.lst (ps.map Ak)]/\T (k+8*m+(n-j)) a b/\ps.length+(i+1)<=8*i-i+j/\Along seq ps) ?_ ?_ ?_
   .exact⟨ps,i+1,a,b,y,rfl,by omega,by omega,rfl,rfl,tap.le hT 67,by omega,ho⟩
   .rintro d r ls hd ⟨ps,j,a,b,y,er,hij,hj,rfl,rfl,hT,hl,ho⟩;obtain⟨m2,hm2⟩:∃m2,n-j=m2+1:=by
     cases q:n-j with
     |zero=>rw[q]at er;cases er
     |succ m=>exact⟨m,rfl⟩
    rw[hm2,Ab]at er;obtain⟨rfl,rfl⟩:=List.cons.inj er;have ej:((j:Int)+1)=((j+1:Nat):Int):=by omega
    have em:m2=n-(j+1):=by omega
    have hT:T (k+8*m+(n-(j+1))+1) a b:=tap.le hT 67;refine⟨_,rfl,?_⟩;dsimp only[set_cons_zero,set_cons_succ];refine Af (AO (A7 ?_));refine tap.draw (many:=4) (rest:=[.lst [],.lst (Ba seq),.lst (ps.map Ak)]) hT rfl 67 67 λr a b hT pr qr=>?_;refine A1 rfl (FG ⟨_,rfl,λ_=>?_,λ_=>?_⟩)
    .have hj1:j<seq.length:=by omega
     have hi1:i<seq.length:=by omega
     have sj:seq[j]?=some seq[j]:=by simp[hj1]
     have si:seq[i]?=some seq[i]:=by simp[hi1]
     refine Aq (Db (A1 rfl ⟨⟨_,rfl⟩,A3 (B8 (A3 (A7 (A1 rfl (A1 rfl (AH rfl (N8 si) (A3 (A7 (A1 rfl (A1 rfl (AH rfl (N8 sj) (A4 ⟨Cm,A4 (EN rfl (CN 79) ?_)⟩))))))))))))⟩));refine⟨AJ _,ps++[((seq[i]:Int),(seq[j]:Int))],j+1,a,b,_,by rw[ej,em],by omega,by omega,rfl,by simp[Ak,KI,HZ],hT,by simp;omega,?_⟩;intro p hp;rcases mem_append.mp hp with hp|hp
     .exact ho p hp
     .simp at hp;exact⟨i,j,_,_,by omega,si,sj,hp⟩
    .exact AX ⟨AJ _,ps,j+1,a,b,_,by rw[ej,em],by omega,by omega,rfl,rfl,hT,by omega,ho⟩
   .rintro ls hd ⟨ps,j,a,b,y,er,hij,hj,rfl,rfl,hT,hl,ho⟩;have:n-j=0:=by
     cases q:n-j with
     |zero=>rfl
     |succ m=>rw[q]at er;cases er
    exact⟨AJ _,ps,i+1,a,b,_,_,by rw[show n-(i+1)=m by omega]<;>rfl,by omega,rfl,rfl,tap.le hT 67,by omega,ho⟩
  .rintro ls hd ⟨ps,i,a,b,z,y,er,hi,rfl,rfl,hT,hl,ho⟩;have pk:=ho.pok pm 67;have c64:ps.length<64/\∀q∈ps,pok q:=⟨by omega,pk⟩
   nofun
   have sub:((B4 ps).take 16).Sublist (B4 ps):=List.take_sublist _ _;have cut:FB ((B4 ps).map Ak) none (some 16)=((B4 ps).map Ak).take 16:=Ur ((B4 ps).map Ak) 16;have mk:AW (((B4 ps).map Ak).take 16)=.im (.tup (((B4 ps).take 16).map HZ)):=by
    have:((B4 ps).map Ak).take 16=(((B4 ps).take 16).map HZ).map D.im:=by rw[<- map_take,gH];rfl
    rw[this,BG]
   refine WP.eq (z:=((B4 ps).take 16).map Ak) (h:=[a,b,.lst [],.lst (Ba seq),.lst (ps.map Ak),.lst ((B4 ps).map Ak)]) ?_ ?_
   .simp;rw[gc c64];simp[cut]
   .refine⟨_,rfl,_,a,b,_,?_,⟨(B4 ps).take 16,rfl,by rw[i6];omega,seq,pm,λp h=>ho p ((Eh ps).mem_iff.mp (sub.subset h))⟩,tap.le hT 67,rfl⟩;rw[map_take];exact mk
noncomputable abbrev flD(n:Nat)(f:Nat->Int):List D:=intD ((71 n).map f)
noncomputable def upd(f:Nat->Int)(k:Nat)(v:Int):Nat->Int:=λj=>if j=k then v else f j
def Jl{n:Nat}{f:Nat->Int}{k:Nat}(hk:k<n):atI (flD n f) (k:Int)=some (.im (.int (f k))):=FE rfl (by simp[flD,intD,hk])
def aZ{n:Nat}{f:Nat->Int}{k:Nat}{v:Int}(hk:k<n):(flD n f).set k (.im (.int v))=flD n (upd f k v):=by
 refine iG λi=>?_;rw[List.getElem?_set];by_cases hi:k=i
 .subst hi;simp[flD,intD,upd,hk]
 .by_cases hi2:i<n
  .have:¬ i=k:=λz=>hi z.symm;simp[hi,flD,intD,upd,hi2,this]
  .simp[hi,flD,intD,hi2]
structure PlI(n:Nat)(l:Nat->Int)(c:Nat->Int)(W:List 103)(t:Nat)(left:Nat->Int)(P:List Pl.Pc)(now:Int):Prop where
 dn:∀k,k<n->Pl.dn P k=l k-left k
 nn:∀k,k<n->0<=left k/\left k<=20
 ch:P.Pairwise λp q=>p.2.2<=q.2.1
 ea:∀p∈P,p.1<n/\c p.1<=p.2.1/\p.2.1<p.2.2/\p.2.2<=now
 n0:0<=now/\now<=60+24*t
 kp:∀q∈W,∀p∈P,(p.1:Int)=q.2->left q.1.toNat=0/\∀r∈P,(r.1:Int)=q.1->r.2.2<=p.2.1
 ln:P.length<=t
 un:((71 n).filter λk=>decide (0<left k)).length<=3*n-t
noncomputable def opn(n:Nat)(W:List 103)(left:Nat->Int):List Nat:=(71 n).filter λk=>decide (0<left k/\∀q∈W,q.2=(k:Int)->left q.1.toNat=0)
def UQ{n:Nat}{W:List 103}(hW:Wsh n W){left:Nat->Int}(nn:∀k,k<n->0<=left k){k:Nat}(hk:k<n)(h0:0<left k):opn n W left≠[]:=by
 obtain⟨seq,pm,al⟩:=hW.al;have nd:seq.Nodup:=pm.nodup_iff.mpr nodup_range;have:∀(m i:Nat),i<=m->∀j,seq[i]?=some j->0<left j->∃j,j<n/\0<left j/\∀q∈W,q.2=(j:Int)->left q.1.toNat=0:=by
  intro m
  induction m with
  |zero=>
   intro i hi j hj h0;have hi:i=0:=by omega
   subst hi;refine⟨j,by simpa using pm.mem_iff.mp (gJ hj),h0,λq hq e=>?_⟩;obtain⟨x,y,a,b,hxy,e1,e2,rfl⟩:=al q hq;have:b=j:=by have e:(b:Int)=(j:Int):=e;omega
   subst this;have:=(List.getElem?_inj (i:=y) (j:=0) (by exact(78 e2).1) nd).mp (e2.trans hj.symm);omega
  |succ m ih=>
   intro i hi j hj h0;by_cases hb:∀q∈W,q.2=(j:Int)->left q.1.toNat=0
   .exact⟨j,by simpa using pm.mem_iff.mp (gJ hj),h0,hb⟩
   .simp only[Classical.not_forall]at hb;obtain⟨q,hq,e,hl⟩:=hb;obtain⟨x,y,a,b,hxy,e1,e2,rfl⟩:=al q hq;have:b=j:=by have e:(b:Int)=(j:Int):=e;omega
    subst this;have hy:=(List.getElem?_inj (i:=y) (j:=i) (by exact(78 e2).1) nd).mp (e2.trans hj.symm);have ha:a<n:=by simpa using pm.mem_iff.mp (gJ e1)
    have hl:left a≠0:=by simpa using hl
    have:=nn a ha;exact ih x 67 a e1 67
 obtain⟨i,hi,ei⟩:=List.getElem_of_mem (pm.mem_iff.mpr (by simpa using hk:k∈71 n));obtain⟨j,hj,h1,h2⟩:=this i i (gg _) k (by rw[List.getElem?_eq_getElem hi,ei]) h0;exact List.ne_nil_of_mem (mem_filter.mpr ⟨by simpa using hj,gN ⟨h1,h2⟩⟩)
def Um{n:Nat}{f g:Nat->Bool}{k:Nat}(hk:k<n)(hf:f k=true)(hg:g k=false)(h:∀j,j≠k->g j=f j):((71 n).filter g).length+1=((71 n).filter f).length:=by
 have:∀L:List Nat,L.Nodup->k∈L->(L.filter g).length+1=(L.filter f).length:=by
  intro L
  induction L with
  |nil=>intro _ h;cases h
  |cons x r ih=>
   intro nd hm;obtain⟨h1,h2⟩:=nodup_cons.mp nd;by_cases e:x=k
   .subst e;have:r.filter g=r.filter f:=List.filter_congr λj hj=>h j λz=>h1 (z ▸ hj);rw[gP,gP,hf,hg,this];simp
   .have ih:=ih h2 ((mem_cons.mp hm).resolve_left λz=>e z.symm);rw[gP,gP,h x e];cases f x<;>simp<;>omega
 exact this _ nodup_range (by simpa using hk)
def PlI.put{n:Nat}{l:Nat->Int}{c:Nat->Int}{W:List 103}{t:Nat}{left:Nat->Int}{P:List Pl.Pc}{now:Int}(I:PlI n l c W t left P now)(hW:Wsh n W){k:Nat}(hk:k∈opn n W left){b m:Int}(hb:now<=b)(hc:c k<=b)(hb4:b<=60+24*t+4)(m1:1<=m)(m2:m<=left k)(hf:2*n<=t->m=left k)(ht:t<3*n):PlI n l c W (t+1) (upd left k (left k-m)) (P++[(k,b,b+m)]) (b+m):=by
 obtain⟨k1,k2⟩:=mem_filter.mp hk;have kn:k<n:=by simpa using k1
 have k2:0<left k/\∀q∈W,q.2=(k:Int)->left q.1.toNat=0:=ia k2;have kk:=I.nn k kn;have n0:=I.n0;have ups:∀j,left j=0->upd left k (left k-m) j=0:=λj hj=>by
  unfold upd;split
  .next e=>subst e;omega
  .exact hj
 refine⟨λj hj=>?_,λj hj=>?_,?_,λp hp=>?_,by omega,λq hq p hp e=>?_,by simp;have:=I.ln;omega,?_⟩
 .rw[G9,I.dn j hj];unfold upd;by_cases e:k=j
  .subst e;simp;omega
  .rw[gf (show ¬ (k,b,b+m).1=j from e),gf (λz=>e z.symm)];omega
 .have:=I.nn j hj;unfold upd;split
  .next e=>subst e;omega
  .exact this
 .rw[pairwise_append];refine⟨I.ch,by simp,λp hp q hq=>?_⟩;rw[gK]at hq;subst hq;have:=(I.ea p hp).2.2.2;dsimp only;omega
 .rcases mem_append.mp hp with hp|hp
  .have:=I.ea p hp;exact⟨this.1,this.2.1,this.2.2.1,by omega⟩
  .rw[gK]at hp;subst hp;exact⟨kn,hc,by dsimp only;omega,Int.le_refl _⟩
 .rcases mem_append.mp hp with hp|hp
  .obtain⟨g1,g2⟩:=I.kp q hq p hp e;refine⟨ups _ g1,λr hr er=>?_⟩;rcases mem_append.mp hr with hr|hr
   .exact g2 r hr er
   .rw[gK]at hr;subst hr;have:q.1.toNat=k:=by have:((k:Nat):Int)=q.1:=er;omega
    rw[this]at g1;omega
  .rw[gK]at hp;subst hp;have g1:=k2.2 q hq e.symm;refine⟨ups _ g1,λr hr er=>?_⟩;rcases mem_append.mp hr with hr|hr
   .have:=(I.ea r hr).2.2.2;dsimp only;omega
   .rw[gK]at hr;subst hr;have:q.1.toNat=k:=by have:((k:Nat):Int)=q.1:=er;omega
    rw[this]at g1;omega
 .by_cases h:2*n<=t
  .have hm:=hf h;have:=Um (n:=n) (f:=λj=>decide (0<left j)) (g:=λj=>decide (0<upd left k (left k-m) j)) kn (by simpa using k2.1) (by simp[upd,hm]) (λj hj=>by simp[upd,hj]);have:=I.un;omega
  .have:((71 n).filter λj=>decide (0<upd left k (left k-m) j)).length<=n:=gQ (j9 _ _) 77;omega
def PlI.idle{n:Nat}{l:Nat->Int}{c:Nat->Int}{W:List 103}{t:Nat}{left:Nat->Int}{P:List Pl.Pc}{now:Int}(I:PlI n l c W t left P now)(hW:Wsh n W)(ho:opn n W left=[]):PlI n l c W (t+1) left P now:=by
 refine⟨I.dn,I.nn,I.ch,I.ea,by have:=I.n0;omega,I.kp,by have:=I.ln;omega,?_⟩;have:((71 n).filter λk=>decide (0<left k))=[]:=by
  rw[List.filter_eq_nil_iff];intro k hk;have hk:k<n:=by simpa using hk
  simpa using λh0=>UQ hW (λj hj=>(I.nn j hj).1) hk h0 ho
 rw[this];simp
def PlI.done{n:Nat}{l:Nat->Int}{c:Nat->Int}{W:List 103}{left:Nat->Int}{P:List Pl.Pc}{now:Int}(I:PlI n l c W (3*n) left P now):∀k,k<n->left k=0:=λk hk=>by
 have h1:=I.un;rw[Nat.sub_self]at h1;have h2:=List.length_eq_zero_iff.mp (Nat.le_zero.mp h1);rw[List.filter_eq_nil_iff]at h2;have h3:=h2 k (by simpa using hk);have:=I.nn k hk;have:¬ 0<left k:=by simpa using h3
 omega
def blsD_map(bs:List Bool):C8 (blD bs)=some bs:=by
 induction bs with
 |nil=>rfl
 |cons b r ih=>simp[blD]at ih ⊢
def Xn(bs:List Bool):Ga (blD bs)=some (.im (.bl (bs.all id))):=by rw[Ga,blsD_map];rfl
def at5{r:Int}(h0:0<=r)(h1:r<5):∃x:Int,(0<=x/\x<=4)/\atI [D.im (.int 0),.im (.int 0),.im (.int 0),.im (.int 1),.im (.int 4)] r=some (.im (.int x)):=by
 have:r=0∨r=1∨r=2∨r=3∨r=4:=by omega
 rcases this with rfl|rfl|rfl|rfl|rfl
 .exact⟨0,by omega,Cu (j:=0) rfl⟩
 .exact⟨0,by omega,Cu (j:=1) rfl⟩
 .exact⟨0,by omega,Cu (j:=2) rfl⟩
 .exact⟨1,by omega,Cu (j:=3) rfl⟩
 .exact⟨4,by omega,Cu (j:=4) rfl⟩
def a0{n:Nat}(n8:n<=8){W:List 103}(hW:Wsh n W){left:Nat->Int}{a b y:MO}{g:Hd}{z1 z6:Option D}{src:Option D}{z5 z7 z8 z9 z10:Option D}{QA:List D->Hd->Prop}(q:QA (Ba (opn n W left)) (a::b::.lst (flD n left)::y::g)):
 WA (Ad 1 [4,2] (DL (A2 (A0 3) A5)) (AD 0) (E6 (AF (mOp gGt (mOp gIx (A0 1) 85) 101)) (Bx (Ay Ga (Ad 2 [0,1] (An (A0 2)) (BE 2 (AM (AD 0) (AM (AD 1) BF))) (AF (mOp gEq (A0 1) (A0 2))) (mOp gEq (mOp gIx (A0 3) 85) 101))))) 85) [src,z1,some (.im (wI W)),some (.im (.int (n:Int))),some (.mu 2),z5,z6,z7,z8,z9,z10] (a::b::.lst (flD n left)::y::g) QA:=by
 have h16:=hW.len;refine Ah (GG (A3 (A1 rfl (A4 ⟨_,rfl,Ta 67,?_⟩))));rw[gV,Ei];refine⟨AT (by simp[Ba];omega),?_⟩;refine B0 (λk:Nat=>D.im 94) (λk=>if 0<left k/\∀q∈W,q.2=(k:Int)->left q.1.toNat=0 then some (.im 94)else none) (λ_ ls=>∃x,ls=[some x,some (.mu 2),some (.im (wI W))]) _ (AJ _) ?_ ?_
 .rintro k hk ls hls;have hk:k<n:=by simpa using hk
  refine⟨[some (.im 94),some (.mu 2),some (.im (wI W))],by rcases hls with rfl|⟨_,x,rfl⟩<;>rfl,⟨_,rfl⟩,?_⟩;refine DY (AO (A7 (A7 (A1 rfl (A1 rfl (AH (ds:=flD n left) rfl (Jl hk) (AG (EA ⟨_,rfl,?_⟩))))))));by_cases h0:0<left k
  .rw[gc (by simpa using h0)];refine BL (BA (Ah (BP (A1 rfl ⟨W.map Ak,by rw[<- Rw.pairs_im];rfl,AT 79,?_⟩))));refine B0 (λp:Int×Int=>Ak p) (λp=>if p.2=(k:Int)then some (.im (.bl (decide (left p.1.toNat=0))))else none) (λ_ ls=>∃x y,ls=[some x,some y,some (.im 94),some (.mu 2)]) _ (AJ _) ?_ ?_
   .rintro p hp ls hls;obtain⟨u,v,rfl,hu,hv⟩:=hW.nats p hp;refine⟨[some (.im (.int (u:Int))),some (.im (.int (v:Int))),some (.im 94),some (.mu 2)],by rcases hls with rfl|⟨_,x,y,rfl⟩<;>rfl,⟨_,_,rfl⟩,?_⟩;refine AO (A7 (A1 rfl (A1 rfl (Cf ⟨_,rfl,rfl,?_⟩))));by_cases e:(v:Int)=(k:Int)
    .rw[gc (by simpa using e)];exact⟨_,gc e,A7 (A7 (A1 rfl (A1 rfl (AH (ds:=flD n left) rfl (Jl hu) (AG (Cf ⟨rfl,by simp⟩))))))⟩
    .rw[gf (by simpa using e)];exact gf e
   have ef:∀L:List 103,(L.filterMap λp:Int×Int=>if p.2=(k:Int)then some (D.im (.bl (decide (left p.1.toNat=0))))else none)=blD ((L.filter λp=>decide (p.2=(k:Int))).map λp=>decide (left p.1.toNat=0)):=λL=>by
    induction L with
    |nil=>rfl
    |cons p r ih=>
     rw[ic,gP];by_cases e:p.2=(k:Int)
     .simp[e]at ih ⊢;exact ih
     .simp[e]at ih ⊢;exact ih
   rw[ef];refine⟨_,Xn _,_,rfl,rfl,?_⟩;have ei:(((W.filter λp=>decide (p.2=(k:Int))).map λp=>decide (left p.1.toNat=0)).all id=true)↔∀q∈W,q.2=(k:Int)->left q.1.toNat=0:=by
    rw[all_eq_true];refine⟨λh q hq e=>?_,λh x hx=>?_⟩
    .have:=h _ (mem_map.mpr ⟨q,mem_filter.mpr ⟨hq,gN e⟩,rfl⟩);exact ia this
    .obtain⟨p,hp,rfl⟩:=mem_map.mp hx;obtain⟨h1,h2⟩:=mem_filter.mp hp;exact gN (h p h1 (ia h2))
   by_cases ha:∀q∈W,q.2=(k:Int)->left q.1.toNat=0
   .rw[gc (ei.mpr ha)];exact⟨_,gc ⟨h0,ha⟩,A1 rfl ⟨rfl,rfl⟩⟩
   .rw[gf (λz=>ha (ei.mp z))];exact gf (λz=>ha z.2)
  .rw[gf (by simpa using h0)];exact⟨rfl,gf (λz=>h0 z.1)⟩
 have ef:∀L:List Nat,(L.filterMap λk:Nat=>if 0<left k/\∀q∈W,q.2=(k:Int)->left q.1.toNat=0 then some (D.im 94)else none)=Ba (L.filter λk=>decide (0<left k/\∀q∈W,q.2=(k:Int)->left q.1.toNat=0)):=λL=>by
  induction L with
  |nil=>rfl
  |cons x r ih=>
   rw[ic,gP];by_cases h:0<left x/\∀q∈W,q.2=(x:Int)->left q.1.toNat=0
   .rw[gc h,gc (gN h),ih];rfl
   .rw[gf h,gf (λz=>h (ia z)),ih]
 rw[ef];exact q
def XZ(B:List Nat):Ba B=intD (B.map λk:Nat=>(k:Int)):=by simp[Ba,intD]
noncomputable abbrev lI(ws:List Wk)(k:Nat):Int:=(lnN ws k:Int)
noncomputable abbrev cI(ws:List Wk)(k:Nat):Int:=(cmN ws k:Int)
def bG{ws:List Wk}{k:Nat}(hk:k<68):atI ((ws.map BC).map D.im) (k:Int)=some (wkD ws[k]):=FE rfl (by simp[hk])
def VL(P:List Pl.Pc):(P.map Ar).map D.im=pcD P:=by simp
noncomputable abbrev F3(P:List Pl.Pc):List D:=P.map λp=>D.im (Ar p)
noncomputable abbrev Lpl(ws:List Wk)(W:List 103)(now:Int)(z7 z8 z9 z10:Option D):Ls:=[some (.mu 1),some (.im (AV ws)),some (.im (wI W)),some (.im (.int (ws.length:Int))),some (.mu 2),some (.mu 3),some (.im (.int now)),z7,z8,z9,z10]
inductive I_plan(ws:List Wk)(W:List 103)(kk:Nat)(r:List D)(ls:Ls)(hd:Hd):Prop
 |mk (t:Nat) (left:Nat->Int) (P:List Pl.Pc) (now:Int) (a b:MO) (g:Hd) (z7 z8 z9 z10:Option D) (h0:t<=3*68) (h1:r=Ab (t:Int) (3*68-t)) (h2:ls=Lpl ws W now z7 z8 z9 z10) (h3:hd=a::b::.lst (flD 68 left)::.lst (F3 P)::g) (h4:T (kk+4*(3*68-t)) a b) (h5:PlI 68 (lI ws) (cI ws) W t left P now):I_plan ws W kk r ls hd
inductive J_part(ws:List Wk)(W:List 103)(kk t k:Nat)(left:Nat->Int)(P:List Pl.Pc)(now:Int)(z8:Option D)(g:Hd)(f:Fl)(x:Hd):Prop
 |mk (m:Int) (a b:MO) (h0:f=Fl.nx (Lpl ws W now (some (.im (.int (t:Int)))) z8 (some (.im 94)) (some (.im (.int m))))) (h1:x=a::b::.lst (flD 68 left)::.lst (F3 P)::g) (h2:1<=m) (h3:m<=left k) (h4:2*68<=t->m=left k) (h5:T kk a b):J_part ws W kk t k left P now z8 g f x
def Zi(kk:Nat){w0:Int}{ws:List Wk}(E:EW w0 ws){W:List 103}(hW:Wsh 68 W):∀a b,T (kk+100) a b->WF Jx [.mu 1,.im (AV ws),.im (wI W)] [a,b] λd x=>∃i a' b' g,d=.im i/\(∃P left now,i=.tup (P.map Ar)/\PlI 68 (lI ws) (cI ws) W (3*68) left P now)/\T kk a' b'/\x=a'::b'::g:=by
 intro a b hT;have n8:=E.n8;unfold Jx;refine Ac rfl ?_;refine AB (AL (BJ (A3 (A1 rfl (A4 (C0 (ds:=(ws.map BC).map D.im) (z:=.im (.int (ws.length:Int))) rfl (by simp[B7]) (A6 ?_)))))));refine AB (AL (B9 (Ah (BP (A1 rfl ⟨_,rfl,?_⟩)))));rw[Eu];refine⟨AT 79,?_⟩;refine B0 wkD (λw=>some (.im (.int w.len))) (λ_ ls=>∃x,ls=[some x]) _ (AJ _) ?_ ?_
 .rintro p hp ls hls;refine⟨[some (wkD p)],by rcases hls with rfl|⟨_,x,rfl⟩<;>rfl,⟨_,rfl⟩,BV ⟨rfl,?_⟩⟩;rw[gc rfl];exact⟨_,rfl,A7 (A1 rfl (AG (AH (ds:=[.im (.int p.len),.im (.int p.com),.im (C3 p.cost)]) rfl (Du _ _) ⟨rfl,rfl⟩)))⟩
 have e:(ws.filterMap λw=>some (D.im (.int w.len)))=flD 68 (lI ws):=by
  refine List.ext_getElem (by simp[flD,intD]) λi h1 h2=>?_;have hi:i<ws.length:=by simpa [flD,intD]using h2
  simp[flD,intD,lI,(CS E hi).1]
 rw[e];refine A6 (AB (AL (B9 (Bg (A4 ⟨Dm,A6 ?_⟩)))));refine AB (AL (AG (A6 ?_)));refine AB (BM (GG (A3 (A7 (AG (A1 rfl (JG (CB 67 67) (A4 ⟨((3*ws.length:Nat):Int),by simp,E2 67 67,?_⟩))))))));rw[gV];refine BD (I_plan ws W kk) ⟨0,lI ws,[],0,a,b,[],none,none,none,none,by omega,rfl,rfl,rfl,tap.le hT 67,?_⟩ ?_ ?_
 .refine⟨λk hk=>?_,λk hk=>?_,.nil,λp hp=>(by cases hp),by omega,λq hq p hp=>(by cases hp),by simp,gQ (j9 _ _) 79⟩
  .show(0:Int)=_;omega
  .have:=(CS E hk).2;show(0:Int)<=(lnN ws k:Int)/\(lnN ws k:Int)<=20;omega
 .rintro d r ls hd ⟨t,left,P,now,a,b,g,z7,z8,z9,z10,ht,er,rfl,rfl,hT,I⟩;obtain⟨m,hm⟩:∃m,3*ws.length-t=m+1:=by
   cases q:3*68-t with
   |zero=>rw[q]at er;cases er
   |succ m=>exact⟨m,rfl⟩
  rw[hm,Ab]at er;obtain⟨rfl,rfl⟩:=List.cons.inj er;have ej:((t:Int)+1)=((t+1:Nat):Int):=by omega
  have em:m=3*68-(t+1):=by omega
  have n0:=I.n0;have hPl:=I.ln;refine⟨Lpl ws W now (some (.im (.int (t:Int)))) z8 z9 z10,rfl,?_⟩;refine AB (AL (B9 (a0 n8 hW (A6 ?_))));change WS _ (Lpl ws W now (some (.im (.int (t:Int)))) (some (.mu (g.length+4))) z9 z10) (a::b::.lst (flD 68 left)::.lst (F3 P)::(g++[.lst (Ba (opn 68 W left))])) _;have hO:∀a b x y:MO,(a::b::x::y::(g++[MO.lst (Ba (opn 68 W left))]))[g.length+4]?=some (.lst (Ba (opn 68 W left))):=λa b x y=>by
   simp
  generalize g++[MO.lst (Ba (opn 68 W left))]=g' at hO ⊢;have ol:(opn 68 W left).length<=8:=gQ (j9 _ _) (by simpa using n8);refine Af (AO (Vf (A1 rfl (Bg (A4 ⟨Dm,(opn 68 W left).map (λk:Nat=>(k:Int)),[],Ww (by rw[hO,XZ]),rfl,_,rfl,λh=>?_,λh=>?_⟩)))))
  .have hne:opn 68 W left≠[]:=by simpa using h
   have ol0:0<(opn 68 W left).length:=List.length_pos_iff.mpr hne;have hT:T (kk+4*(3*68-(t+1))+3+1) a b:=tap.le hT 67;refine AB (AL (A7 (A1 rfl ?_)));refine tap.draw (many:=((opn 68 W left).length:Int)) (rest:=.lst (flD 68 left)::.lst (F3 P)::g') hT (by simp[hO,B7]) 67 67 λr a b hT pr qr=>?_;have hr:r.toNat<(opn 68 W left).length:=by omega
   obtain⟨k,ek⟩:∃k,k=(opn ws.length W left)[r.toNat]:=⟨_,rfl⟩
   have hk:k∈opn 68 W left:=by rw[ek];exact List.getElem_mem hr
   have kn:k<ws.length:=by simpa using (mem_filter.mp hk).1
   have k0:0<left k:=(ia (mem_filter.mp hk).2).1;have eat:atI (Ba (opn 68 W left)) r=some (.im 94):=by
    have:=N8 (seq:=opn 68 W left) (i:=r.toNat) (a:=k) (by rw[ek];simp[hr])
    rwa [Int.toNat_of_nonneg pr]at this
   refine AH (ds:=Ba (opn 68 W left)) (by rw[bK,VP,hO]) eat (A6 ?_)
   refine AB (AL (A7 (BJ (A3 (A1 rfl (A3 (A7 (A7 (A1 rfl (A1 rfl (AH (ds:=(ws.map BC).map D.im) rfl (bG kn) (AG (AH (ds:=[.im (.int (ws[k]).len),.im (.int (ws[k]).com),.im (C3 (ws[k]).cost)]) rfl (E9 _ _ _) (A4 (Fr (Ev (Bg (A3 (AG (A3 (AG (A3 (AG (A3 (AG (A3 (AG (A4 ⟨Jm,?_⟩))))))))))))))))))))))))))));have hT:T (kk+4*(3*68-(t+1))+2+1) a b:=tap.le hT 67;refine tap.draw (many:=5) (rest:=.lst (flD 68 left)::.lst (F3 P)::g') hT rfl 67 67 λr5 a b hT p5 q5=>?_;obtain⟨x,hx,ex⟩:=at5 p5 q5;refine⟨_,_,rfl,ex,Bm (A6 ?_)⟩;rw[(FC E kn).1];have ck:=(FC E kn).2;refine AB (AL (A7 (A1 rfl (A1 rfl (AH (ds:=flD 68 left) rfl (Jl kn) (A6 ?_))))));change WS _ (Lpl ws W (max now (cmN ws k:Int)+x) (some (.im (.int (t:Int)))) (some (.mu (g.length+4))) (some (.im 94)) (some (.im (.int (left k))))) (a::b::.lst (flD 68 left)::.lst (F3 P)::g') _;refine AB (WP.mono (Q:=J_part ws W (kk+4*(3*68-(t+1))) t k left P (max now (cmN ws k:Int)+x) (some (.mu (g.length+4))) g') (Af (DY (AO (A7 (A1 rfl (A7 (AG (A1 rfl (JG (CB 67 67) (FG ⟨_,rfl,?_⟩)))))))))) ?_)
   .by_cases h2:(t:Int)<2*(ws.length:Int)
    .rw[gc (by simpa using h2)];have hT:T (kk+4*(3*68-(t+1))+1+1) a b:=tap.le hT 67;refine AO (A7 ?_);refine tap.draw (many:=2) (rest:=.lst (flD 68 left)::.lst (F3 P)::g') hT rfl 67 67 λr2 a b hT p2 q2=>?_;refine AG (Cf ⟨_,rfl,λ_=>?_,λ_=>AX ⟨left k,a,b,rfl,rfl,by omega,by omega,λ_=>rfl,tap.le hT 67⟩⟩);refine AL (A7 (AG ?_));refine tap.draw (many:=left k) (rest:=.lst (flD 68 left)::.lst (F3 P)::g') hT ?_ k0 (by have:=I.nn k kn;omega) λrp a b hT pp qp=>?_
     .have:=Jl (n:=68) (f:=left) kn;simp[flD]at this;simp[flD,this]
     exact Bm ⟨1+rp,a,b,rfl,rfl,by omega,by omega,λz=>by omega,hT⟩
    .rw[gf (by simpa using h2)];exact⟨(λh=>by cases h),λ_=>AX ⟨left k,a,b,rfl,rfl,by omega,by omega,λ_=>rfl,tap.le hT 67⟩⟩
   rintro f y ⟨mm,a,b,rfl,rfl,m1,m2,m3,hT⟩;have I':=I.put hW hk (b:=max now (cmN ws k:Int)+x) (m:=mm) 67 (by show(cmN ws k:Int)<=_;omega) 67 m1 m2 m3 67;refine A6 (AB (Aq (Db (A1 rfl ⟨⟨_,rfl⟩,A3 (B8 (A3 (A1 rfl (A3 (A1 rfl (A3 (A7 (A1 rfl (A1 rfl (Bm (A4 ⟨CV,A4 (EN rfl (CN 79) (A6 ?_))⟩)))))))))))⟩))));have hix:ixN (flD 68 left).length (k:Int)=some k:=by unfold ixN;simp[flD,intD,kn]
   refine AB (Eo (A7 (A7 (A1 rfl (A1 rfl (AH (ds:=flD 68 left) rfl (Jl kn) (A1 rfl (CQ (A1 rfl (A1 rfl ⟨2,(k:Int),k,_,rfl,rfl,rfl,hix,A6 ?_⟩))))))))));rw[aZ kn];refine AL (A7 (A1 rfl (A1 rfl (Bm ⟨AJ _,t+1,upd left k (left k-mm),P++[(k,max now (cmN ws k:Int)+x,max now (cmN ws k:Int)+x+mm)],max now (cmN ws k:Int)+x+mm,a,b,g',_,_,_,_,by omega,by rw[ej,em],rfl,?_,hT,I'⟩))));show _::_::_::MO.lst _::_=_::_::_::MO.lst _::_;rw[Xb];simp[F3,Ar]
  .have ho:opn 68 W left=[]:=by simpa using h
   exact AX ⟨AJ _,t+1,left,P,now,a,b,g',_,_,_,_,by omega,by rw[ej,em],rfl,rfl,tap.le hT 67,I.idle hW ho⟩
 .rintro ls hd ⟨t,left,P,now,a,b,g,z7,z8,z9,z10,ht,er,rfl,rfl,hT,I⟩;have:3*68-t=0:=by
   cases q:3*68-t with
   |zero=>rfl
   |succ m=>rw[q]at er;cases er
  have:t=3*ws.length:=by omega
  subst this;refine A6 (AY (BJ (A3 (A1 rfl (A4 (C0 (ds:=F3 P) rfl rfl ?_))))));rw[show F3 P=(P.map Ar).map D.im from(VL P).symm,BG];exact⟨_,a,b,_,rfl,⟨P,left,now,rfl,I⟩,tap.le hT 67,rfl⟩
def YI{ml:MA}{mb:ME}{ls:Ls}{hd:Hd}{QA:List D->Hd->Prop}(h:WA ml ls hd λds x=>WE mb ls x λe y=>∃k,e=.im (.int k)/\(0<=k/\k<=1000)/\Bj (ds.length*k.toNat)/\QA (96 k.toNat ds).flatten y):WA (KK ml mb) ls hd QA:=by
 obtain⟨ds,x,e1,d,y,e2,k,rfl,h1,h2,q⟩:=h;exact⟨_,_,by simp only[KK,e1,gq,e2,h1,h2,and_self,gw],q⟩
def Xa(L:List Int):AW (intD L)=.im (CK L):=by
 have:intD L=(L.map I.int).map D.im:=by simp[intD]
 rw[this,BG]
def d9(n:Nat):(96 (Int.toNat (n:Int)) [D.im (.int 0)]).flatten=intD (96 n 0):=by
 rw[gV];simp[intD,List.map_replicate]
theorem Jp(q:Pl.Pc):∀(P:List Pl.Pc) (es:List Int),C2 es (P++[q])=(C2 es P).set q.1 q.2.2
 |[],es=>rfl
 |p::r,es=>by rw[iF,C2,C2,Jp q r]
theorem LI:∀(P:List Pl.Pc) (es:List Int),(C2 es P).length=es.length
 |[],es=>rfl
 |p::r,es=>by rw[C2,LI r,List.length_set]
inductive I_pe(ws:List Wk)(P:List Pl.Pc)(r:List D)(ls:Ls)(hd:Hd):Prop
 |mk (d0 rest:List Pl.Pc) (z3 z4 z5:Option D) (h0:P=d0++rest) (h1:r=pcD rest) (h2:ls=[some (.im (AV ws)),some (.im (.tup (P.map Ar))),some (.mu 0),z3,z4,z5]) (h3:hd=[.lst (intD (C2 (96 68 0) d0))]):I_pe ws P r ls hd
def IV{ws:List Wk}(n8:68<=8){P:List Pl.Pc}(hP:∀p∈P,p.1<68):WF D7 [.im (AV ws),.im (.tup (P.map Ar))] [] λd _=>d=.im (CK ((71 68).map (Pl.E P))):=by
 unfold D7;refine Ac rfl ?_;refine AB (AL (B9 (YI (Bg (A3 (AG (A4 ⟨Dk,BJ (A3 (A1 rfl (A4 (C0 (ds:=(ws.map BC).map D.im) (z:=.im (.int (ws.length:Int))) rfl (by simp[B7]) ⟨_,rfl,by omega,AT 79,A6 ?_⟩))))⟩)))))));rw[d9];refine AB (BM (BP (A1 rfl ⟨_,rfl,?_⟩)));rw[VL];refine BD (I_pe ws P) (.mk [] P none none none rfl rfl rfl rfl) ?_ ?_
 .intro d r ls hd hI;obtain⟨d0,rest,z3,z4,z5,e1,er,rfl,rfl⟩:=hI;cases rest with
  |nil=>cases er
  |cons p rest=>
   obtain⟨rfl,rfl⟩:=List.cons.inj er;have hp:=hP p (by rw[e1];simp);obtain⟨k,b,e⟩:=p;dsimp only at hp;refine⟨[some (.im (AV ws)),some (.im (.tup (P.map Ar))),some (.mu 0),some (.im 94),some (.im (.int b)),some (.im (.int e))],rfl,?_⟩;have hix:ixN (intD (C2 (96 68 0) d0)).length (k:Int)=some k:=by
    unfold ixN;simp[intD,LI,hp]
   refine Eo (A1 rfl (A1 rfl (A1 rfl ⟨0,(k:Int),k,_,rfl,rfl,rfl,hix,?_⟩)));refine⟨AJ _,.mk (d0++[(k,b,e)]) rest _ _ _ (by rw[e1];simp) rfl rfl ?_⟩;rw[Jp];simp[intD,List.map_set]
 .intro ls hd hI;obtain⟨d0,rest,z3,z4,z5,e1,er,rfl,rfl⟩:=hI;have:rest=[]:=by cases rest with
   |nil=>rfl
   |cons _ _=>cases er
  subst this;rw[i4]at e1;subst e1;refine A6 (AY (BJ (A3 (A1 rfl (A4 (C0 rfl rfl ?_))))));rw[Pl.ends_map];exact Xa _
def Q7{L M:List Int}(h:L.Perm M):L.sum=M.sum:=by
 induction h with
 |nil=>rfl
 |cons x _ ih=>simp only[gL,ih]
 |swap x y l=>simp only[gL];omega
 |trans _ _ a b=>exact a.trans b
def cy{w:Int}{ws:List Wk}(W:EW w ws){QE:D->Hd->Prop}{ls:Ls}{hd:Hd}{i:Nat}(h:ls[i]?=some (some (D.im (AV ws))))(q:QE (.im (.int w)) hd):WE (mOp gIx (mOp gIx (mOp gIx (A0 i) 101) (mC (.int 2))) 99) ls hd QE:=by
 have n1:=W.n1;have h0:0<ws.length:=by omega
 have ec:(ws[0]).cost=.ends w:=(W.ea _ (List.getElem_mem h0)).2.2;refine A7 (A7 (A7 (A1 h (AG (AH (ds:=(ws.map BC).map D.im) rfl (FE (k:=0) rfl (by simp[h0]:((ws.map BC).map D.im)[0]?=some (wkD ws[0]))) (AG (AH (ds:=[.im (.int (ws[0]).len),.im (.int (ws[0]).com),.im (C3 (ws[0]).cost)]) rfl (Ef _ _ _ _) (AG ?_))))))));rw[ec];exact AH (ds:=[.im (.str "ends"),.im (.int w)]) rfl (E9 _ _ _) q
def Xx:F_worth=Bd.F_worth:=rfl
theorem LJ{w:Int}:∀{ws:List Wk} {es:List Int},(∀z∈ws,z.cost=.ends w)->es.length=68->(D5 ws es).sum=w*es.sum
 |[],[],_,_=>by simp[D5]
 |z::ws,e::es,h,hl=>by
  have ih:=LJ (ws:=ws) (es:=es) (λy hy=>h y (by simp[hy])) (by simpa using hl);have hz:=h z 77;show(z.cost.at e::D5 ws es).sum=_;rw[gL,gL,ih,hz,Int.mul_add];rfl
def OP{w:Int}{ws:List Wk}(W:EW w ws){es:List Int}(hl:es.length=68):WF F_worth [.im (AV ws),.im (CK es),.im (.str "sum")] [] λd _=>d=.im (.int (w*es.sum)):=by
 have hw:∀z∈ws,z.cost.wok:=λz hz=>by
  rw[(W.ea z hz).2.2];have:=W.w0;show 0<=w/\w<=1000000;omega
 have q:=Qu ws es hw (by have:=W.n8;omega);rw[LJ (λz hz=>(W.ea z hz).2.2) hl]at q;exact WP.eq (Xx ▸ q) rfl
def Vo{w:Int}{ws:List Wk}(W:EW w ws){es:List Int}(Q:Pq ws es)(pp:WF Cq [.im (AV ws)] [] λd _=>d=.im (Q9 ws es)):WF IJ [.im (AV ws)] [] λd _=>d=.im (.int (w*es.sum)):=by
 unfold IJ;refine Ac rfl ?_;refine AB (AL (AG (A6 (AB (Va (AL (AC (A3 (A1 rfl (A3 (AC (A3 (A1 rfl (A4 ⟨by simp,pp.mono ?_⟩))))))))))))));rintro d x rfl;refine⟨_,rfl,A4 ⟨by simp,(OD W Q).mono ?_⟩⟩;rintro d x rfl;exact⟨_,rfl,A6 (AY (A1 rfl rfl))⟩
def KY{n:Nat}(n8:n<=8)(E:Nat->Int)(t:Int):WF Et [.im (CK ((71 n).map E)),.im (.int t)] [] λd _=>d=.im (.int (((71 n).filter λj=>decide (E j<=t)).length:Int)):=by
 unfold Et;refine Ac rfl ?_;refine AY (BA (Ah (BP (A1 rfl ⟨_,rfl,AT 79,?_⟩))));rw[show(((List.range n).map E).map I.int).map D.im=(List.range n).map λj=>D.im (.int (E j)) by simp];refine B0 (xs:=71 n) (λj=>D.im (.int (E j))) (λj=>if E j<=t then some (.im (.int (E j)))else none) (λ_ ls=>∃x,ls=[some x,some (.im (.int t))]) _ (AJ _) ?_ ?_
 .rintro j hj ls hls;refine⟨[some (.im (.int (E j))),some (.im (.int t))],by rcases hls with rfl|⟨_,x,rfl⟩<;>rfl,⟨_,rfl⟩,?_⟩;refine AO (A7 (A1 rfl (A1 rfl (GF ⟨_,rfl,rfl,?_⟩))));by_cases h:E j<=t
  .rw[gc (by simpa using h),gc h];exact⟨_,rfl,A1 rfl ⟨rfl,rfl⟩⟩
  .rw[gf (by simpa using h),gf h]
 have e:((71 n).filterMap λj=>if E j<=t then some (D.im (.int (E j)))else none).length=((71 n).filter λj=>decide (E j<=t)).length:=by
  generalize 71 n=L
  induction L with
  |nil=>rfl
  |cons x r ih=>
   rw[ic,gP];by_cases h:E x<=t
   .rw[gc h,gN h,gc rfl,hX,hX,ih]
   .rw[gf h,gM h,gf 77,ih]
 exact⟨_,by unfold B7;rfl,by rw[e]⟩
def Whole.left{ws:List Wk}{lf:Nat->Nat}{P:List Pc}{t:Nat}{G:Nat->Nat->Nat}(S:St 68 (lnN ws) (cmN ws) lf P t G)(z:∀j,j<68->lf j=0):Whole ws P:=
 ⟨S.ps.pw,λp hp=>⟨(S.ps.pc p hp).1,(S.ps.pc p hp).2.1,(S.ps.pc p hp).2.2.1⟩,λk hk=>by have:=S.dn k hk;rw[z k hk]at this;omega⟩
def Whole.drawn{ws:List Wk}{W:List 103}{left:Nat->Int}{P:List Pl.Pc}{now:Int}(I:PlI 68 (lI ws) (cI ws) W (3*68) left P now):Whole ws P:=
 ⟨I.ch,λp hp=>⟨(I.ea p hp).1,(I.ea p hp).2.1,(I.ea p hp).2.2.1⟩,λk hk=>by rw[I.dn k hk,I.done k hk];show(lnN ws k:Int)-0=_;omega⟩
def ci{w:Int}{ws:List Wk}(E:EW w ws){W:List 103}{left:Nat->Int}{P:List Pl.Pc}{now:Int}(I:PlI 68 (lI ws) (cI ws) W (3*68) left P now){j:Nat}(hj:j<68):0<=Pl.E P j/\Pl.E P j<=700:=by
 have O:=Whole.drawn I;obtain⟨p,hp,e1,e2⟩:=Pl.last_in (v:=0) (k:=j) (ps:=P) (O.has E hj);have h1:=I.ea p hp;have h2:=I.n0;have:=E.n8;show 0<=Pl.last P j 0/\Pl.last P j 0<=700;rw[e2];have h3:=h1.2.1;have:(0:Int)<=cI ws p.1:=by show(0:Int)<=(cmN ws p.1:Int);omega
 omega
noncomputable abbrev Lw(ns:List Int)(mo:Int)(ws:List Wk)(es:List Int)(cost:Int)(z6 z7 z8 z9 z10:Option D):Ls:=[some (.ro ns),some (.mu 1),some (.im (.int mo)),some (.im (AV ws)),some (.im (CK es)),some (.im (.int cost)),z6,z7,z8,z9,z10]
inductive I_law(ns:List Int)(mo:Int)(ws:List Wk)(es:List Int)(cost:Int)(r:List D)(ls:Ls)(hd:Hd):Prop
 |mk (j:Nat) (a b:MO) (z6 z7 z8 z9 z10:Option D) (h0:j<=3) (h1:r=Ab (j:Int) (3-j)) (h2:ls=Lw ns mo ws es cost z6 z7 z8 z9 z10) (h3:hd=[a,b]) (h4:T (500*(3-j)) a b):I_law ns mo ws es cost r ls hd
inductive I_zp(ns:List Int)(mo:Int)(ws:List Wk)(es es':List Int)(cost:Int)(z6 z7:Option D)(h0:Hd)(r:List D)(ls:Ls)(hd:Hd):Prop
 |mk (z9 z10:Option D) (h1:∀d∈r,∃(i:Nat) (x y:Int),(B1 es)[i]?=some x/\(B1 es')[i]?=some y/\d=AW [.im (.int x),.im (.int y)]) (h2:ls=Lw ns mo ws es cost z6 z7 (some (.im (CK es'))) z9 z10) (h3:hd=h0):I_zp ns mo ws es es' cost z6 z7 h0 r ls hd
def YF{ma mb:MI}{ls:Ls}{hd:Hd}{QI:List D×Gd->Hd->Prop}(h:WI ma ls hd λp x=>WI mb ls x λq y=>GOk y p.2/\QI (List.zipWith (λx y=>AW [x,y]) p.1 q.1,p.2++q.2) y):WI (GT ma mb) ls hd QI:=by
 obtain⟨p,x,e1,q,y,e2,g,k⟩:=h;exact⟨_,_,by simp only[GT,e1,gq,e2,g,gw],k⟩
set_option maxHeartbeats 2000000 in
def cO(ns:List Int):WF gE [.ro ns] [] λd x=>d=.im (.bl true):=by
 unfold gE;refine Ac rfl ?_;refine AB (AL (Dy (A3 (A1 rfl (A4 ((TL ns).mono ?_))))));rintro d x ⟨rfl,a,b,hT,rfl⟩;have hT:T (20000+1) a b:=tap.le hT 67;refine A6 (AB (AL (Ev (Bg (A3 (AG (A3 (AG (A3 (AG (A4 ⟨CV,?_⟩)))))))))));refine tap.draw hT rfl (by first|decide|omega) (by first|decide|omega) λr2 a b hT pr2 qr2=>?_;obtain⟨d2,hd2,ed2⟩:=at3 pr2 qr2 (.im (.int 3)) (.im (.int 5)) (.im (.int 8));refine⟨_,_,rfl,ed2,?_⟩;obtain⟨mo,rfl,m1,m8⟩:∃t,d2=.im (.int t)/\1<=t/\t<=8:=by
  rcases hd2 with rfl|rfl|rfl<;>exact⟨_,rfl,by omega,by omega⟩
 have hT:T (10000+100) a b:=tap.le hT 67;refine A6 (AB (AL ?_));refine tap.call hT (as:=[.im (.int mo)]) (rest:=[]) rfl rfl (OG _ m1 m8) ?_;rintro i a b hT ⟨ws,w,rfl,W⟩;have n8:=W.n8;obtain⟨dP,xP,eP,P,rfl,lp⟩:=aO W;obtain⟨⟨lf,t,G,S,z⟩,pl⟩:=lp;have hp:WF C9 [.im (AV ws)] [] λd _=>d=.im (.tup (P.map Ar)):=⟨_,_,eP,rfl⟩
 have hP:∀p∈P,p.1<ws.length:=λp hp=>(S.ps.pc p hp).1;have rg:∀j,j<68->1<=Pl.E P j/\Pl.E P j<=220:=λj hj=>⟨cj W S z hj,dm W S z hj⟩
 have O:=Whole.left S z;have es:(B1 ((71 68).map (Pl.E P))).sum=((71 68).map (Pl.E P)).sum:=Q7 (Aj _);have Q:Pq ws (B1 ((71 68).map (Pl.E P))):=by
  have r2:∀e∈B1 ((71 68).map (Pl.E P)),1<=e/\e<=220:=λe he=>by
   obtain⟨j,hj,rfl⟩:=mem_map.mp ((Aj _).mem_iff.mp he);exact rg j (by simpa using hj)
  refine⟨by rw[(Aj _).length_eq];simp,r2,λk e he m hm=>?_⟩;have:=r2 e (gJ he);obtain⟨S',n1,n2,rfl,n5⟩:=SV W 67 67 hm;exact Up W S z he n1 n2 n5
 have pp:=NZ W hp hP rg;have sh:=Vo W Q pp;rw[es]at sh;clear pp;refine A6 (AB (AL (AC (A3 (A1 rfl (A3 (AC (A3 (A1 rfl (A4 ⟨by simp,hp.mono ?_⟩))))))))));rintro d x rfl;refine⟨_,rfl,A4 ⟨by simp,(IV n8 hP).mono ?_⟩⟩;rintro d x rfl;have el:((71 68).map (Pl.E P)).length=ws.length:=by simp
 refine⟨_,rfl,A6 (AB (AL (A7 (cy W rfl (BJ (A3 (A1 rfl (A4 (C0 (ds:=intD ((71 68).map (Pl.E P))) (z:=.im (.int ((71 68).map (Pl.E P)).sum)) (by simp[Av,Aa,intD]) (by unfold Dj;rw[show Am (intD ((List.range 68).map (Pl.E P)))=some _ from EU _];rfl) (JG (CB (by have:=W.w0;omega) (by have:=W.w0;omega)) (A6 ?_)))))))))))⟩;refine AB (Af (GE (AO (A7 (AC (A3 (A1 rfl (A3 (A1 rfl (A3 (AG (A4 ⟨by simp,(OP W el).mono ?_⟩))))))))))));rintro d x rfl;refine⟨_,rfl,A1 rfl (DZ ⟨_,rfl,?_⟩)⟩;rw[gf 77];refine AO (A7 (AC (A3 (A1 rfl (A4 ⟨by simp,sh.mono ?_⟩)))));rintro d x rfl;refine⟨_,rfl,A1 rfl (DZ ⟨_,rfl,(λq=>absurd q 77),λ_=>AX (A6 ?_)⟩)⟩;clear sh hp Q es;refine AB (BM (GG (A3 (AG (A4 ⟨_,rfl,E2 98 98,?_⟩)))));change WP (B2 _ _ _ (Ab 0 3) (Lw ns mo ws ((71 68).map (Pl.E P)) (w*((71 68).map (Pl.E P)).sum) none none none none none) [a,b]) _;refine BD (I_law ns mo ws _ _) (.mk 0 a b none none none none none 67 rfl rfl rfl (tap.le hT 67)) ?_ ?_
 .intro d r ls hd hI;obtain⟨j,a,b,z6,z7,z8,z9,z10,hj,er,rfl,rfl,hT⟩:=hI;obtain⟨m,hm⟩:∃m,3-j=m+1:=by
   cases q:3-j with
   |zero=>rw[q]at er;cases er
   |succ m=>exact⟨m,rfl⟩
  rw[hm,Ab]at er;obtain⟨rfl,rfl⟩:=List.cons.inj er;have ej:((j:Int)+1)=((j+1:Nat):Int):=by omega
  have emj:m=3-(j+1):=by omega
  have hT:T (500*(3-(j+1))+200+100) a b:=tap.le hT 67;refine⟨Lw ns mo ws _ _ (some (.im (.int (j:Int)))) z7 z8 z9 z10,rfl,?_⟩;refine AB (AL ?_);refine tap.call hT (as:=[.im (.int (ws.length:Int))]) (rest:=[]) (by simp[B7]) 77 (Su _ 68 n8) ?_;rintro i a b hT ⟨wi,rfl,hW⟩;have hT:T (500*(3-(j+1))+100) a b:=tap.le hT 67;refine A6 (AB (AL (AC (A3 (A1 rfl (A3 ?_))))));refine tap.call hT (as:=[.im (AV ws),.im (wI wi)]) (rest:=[]) rfl 77 (Zi _ W hW) ?_;rintro i a b hT ⟨P',left,now,rfl,I⟩;have O':=Whole.drawn I;have hP':∀p∈P',p.1<ws.length:=λp hp=>(I.ea p hp).1;refine A4 ⟨by simp,(IV n8 hP').mono ?_⟩;rintro d x rfl;have el':((71 68).map (Pl.E P')).length=ws.length:=by simp
  have le:=OK W S z O';have sd:∀(i:Nat) (x y:Int),(B1 ((71 68).map (Pl.E P)))[i]?=some x->(B1 ((71 68).map (Pl.E P')))[i]?=some y->x<=y:=λi x y h1 h2=>cz le h1 h2;have sums:((71 68).map (Pl.E P)).sum<=((71 68).map (Pl.E P')).sum:=by
   rw[<- Q7 (Aj _),<- Q7 (Aj ((List.range 68).map (Pl.E P')))];exact Kl (by rw[(Aj _).length_eq,(Aj _).length_eq];simp) sd
  refine⟨_,rfl,A6 ?_⟩;refine AB (Af (AO (A7 (AC (A3 (A1 rfl (A3 (A1 rfl (A3 (AG (A4 ⟨by simp,(OP W el').mono ?_⟩)))))))))));rintro d x rfl;have mul:w*((71 68).map (Pl.E P)).sum<=w*((71 68).map (Pl.E P')).sum:=Int.mul_le_mul_of_nonneg_left sums W.w0.1;refine⟨_,rfl,A1 rfl (FG ⟨_,rfl,(λq=>absurd q 79),λ_=>AX (A6 ?_)⟩)⟩;refine BM (YF (MD (wa_sorted (BP (A1 rfl ⟨_,rfl,(71 68).map (Pl.E P),by simp[intD],by omega,MD (wa_sorted (BP (A1 rfl ⟨_,rfl,(71 68).map (Pl.E P'),by simp[intD],by omega,AJ _,?_⟩)))⟩)))));refine BD (I_zp ns mo ws ((71 68).map (Pl.E P)) ((71 68).map (Pl.E P')) _ (some (.im (.int (j:Int)))) (some (.im (wI wi))) [a,b]) (.mk z9 z10 (λd hd=>?_) rfl rfl) ?_ ?_
  .obtain⟨i,hi,rfl⟩:=List.mem_iff_getElem.mp hd;simp only[intD,List.getElem_zipWith,List.getElem_map];simp only[intD,List.length_zipWith,gy]at hi;exact⟨i,_,_,List.getElem?_eq_getElem 67,List.getElem?_eq_getElem 67,rfl⟩
  .intro d r ls hd hI;obtain⟨z9,z10,hr,rfl,rfl⟩:=hI;obtain⟨i,x,y,hx,hy,rfl⟩:=hr d 77;have xy:=sd i x y hx hy;have xr:0<=x/\x<=700:=by
    obtain⟨j,hj,rfl⟩:=mem_map.mp ((Aj _).mem_iff.mp (gJ hx));have:=rg j (by simpa using hj);omega
   have yr:0<=y/\y<=700:=by
    obtain⟨j,hj,rfl⟩:=mem_map.mp ((Aj _).mem_iff.mp (gJ hy));exact ci W I (by simpa using hj)
   have c1:=Kx W (t:=x) 67 67 S z O;have c2:=Kx W (t:=y) 67 67 S z O;have c3:=le y;refine⟨Lw ns mo ws _ _ (some (.im (.int (j:Int)))) (some (.im (wI wi))) (some (.im (CK ((71 68).map (Pl.E P'))))) (some (.im (.int x))) (some (.im (.int y))),rfl,?_⟩;refine AB (Af (AO (A7 (A1 rfl (A1 rfl (EA ⟨_,rfl,(λq=>absurd q 79),λ_=>AX (A6 ?_)⟩))))));refine AB (Af (GE (AO (A7 (AC (A3 (A1 rfl (A3 (A1 rfl (A4 ⟨by simp,(Hq W 67 67).mono ?_⟩))))))))));rintro d1 x1 rfl;refine⟨_,rfl,AC (A3 (A1 rfl (A3 (A1 rfl (A4 ⟨by simp,(KY n8 (Pl.E P) x).mono ?_⟩)))))⟩;rintro d1 x1 rfl;refine⟨_,rfl,DZ ⟨_,rfl,?_⟩⟩;rw[c1,gf 77];refine AO (A7 (AC (A3 (A1 rfl (A3 (A1 rfl (A4 ⟨by simp,(Hq W 67 67).mono ?_⟩)))))));rintro d1 x1 rfl;refine⟨_,rfl,AC (A3 (A1 rfl (A3 (A1 rfl (A4 ⟨by simp,(KY n8 (Pl.E P) y).mono ?_⟩)))))⟩;rintro d1 x1 rfl;refine⟨_,rfl,DZ ⟨_,rfl,?_⟩⟩;rw[c2];refine⟨(λq=>absurd q 77),λ_=>AX (A6 ?_)⟩;refine Af (AO (A7 (AC (A3 (A1 rfl (A3 (A1 rfl (A4 ⟨by simp,(Hq W 67 67).mono ?_⟩))))))));rintro d1 x1 rfl;refine⟨_,rfl,AC (A3 (A1 rfl (A3 (A1 rfl (A4 ⟨by simp,(KY n8 (Pl.E P') y).mono ?_⟩)))))⟩;rintro d1 x1 rfl;rw[c2];refine⟨_,rfl,FG ⟨_,rfl,(λq=>absurd q (by simp;exact c3)),λ_=>AX ?_⟩⟩;exact⟨AJ _,.mk _ _ (λd hd=>hr d (by simp[hd])) rfl rfl⟩
  .intro ls hd hI;obtain⟨z9,z10,hr,rfl,rfl⟩:=hI;exact⟨AJ _,.mk (j+1) a b _ _ _ _ _ 67 (by rw[ej,emj]) rfl rfl hT⟩
 .intro ls hd hI;obtain⟨j,a,b,z6,z7,z8,z9,z10,hj,er,rfl,rfl,hT⟩:=hI;exact A6 (AY (AG rfl))
def law_eq(ns:List Int):∃hd,gE [.ro ns] []=some (.im (.bl true),hd):=by
 obtain⟨d,x,e,rfl⟩:=cO ns;exact⟨x,e⟩
open PySem L2 PySem.W PyProof.Rows
noncomputable abbrev xS:Xs:=[("by_dues",((("by_dues":Str)++".<locals>.")++"<lambda>"),88,41),("put_out",((("put_out":Str)++".<locals>.")++"<lambda>"),143,38),("ranked_plan",((("ranked_plan":Str)++".<locals>.")++"<lambda>"),76,62),("left_plan",((("left_plan":Str)++".<locals>.")++"<lambda>"),161,59)]
def all_mk{l:OpenLaw}{w:World}{K:Frag}{h:Heap}{mg:Str->Option Value}{fa:Addr}{c P:Str->Addr}(X:K.In h)(G:h.Ns mainGlobals mg)(hfa:mg "law"=some (.ref fa))(hx:HX xS mg h c P)(F:Qq K):HG l w K xS mg c P fa Qg:=by
 obtain⟨Z,h0,h1,h2,h3,h4,h5,h6,h7,h10,h11,h12,h14,h16,h17,h18,h19,h20,h21,h22,h23,h24,h25,h26,h27,h28,h29,h30,h31,h32,h33,h34,h35,h36,h37,h38,h39,h40,h41,h42,h43,p8,p9,p13,p15,h8,h9,h13,h15,tn⟩:=F;have B:=(zsE Z).blt X G;have nd:((Ch (BS K (tbs xS P))).map (·.1)).Nodup:=cD (ps:=[p8,p9,p13,p15]) (by show [P "by_dues",P "put_out",P "ranked_plan",P "left_plan"]=_;rw[((flE (e:=DU) h8).code X G hx (.head _)).1,((flE (e:=FV) h9).code X G hx (.tail _ (.head _))).1,((flE (e:=DD) h13).code X G hx (.tail _ (.tail _ (.head _)))).1,((flE (e:=D4) h15).code X G hx (.tail _ (.tail _ (.tail _ (.head _))))).1]) tn;refine Ui X G hfa hx (feE h0) bd1 rfl λbase hd bl=>?_;obtain⟨o_is_number,o_is_tuple_of,o_steps_at,o_cost_at,o_length_of,o_same_coming,o_one_coming,o_refuse_other_costs,o_weight_of,o_one_weight,o_add_piece,o_ranked_plan,o_late_coming,o_by_dues,o_full_weight,o_no_more,o_put_behind,o_greatest_weight,o_look_at_shape,o_look_at_row,o_look_at_places,o_next_row,o_table_of,o_put_out,o_ends_of,o_turned,o_done_by,o_end_weight,o_left_plan,o_ends_paper,o_costs_of,o_worth,o_look_at_entry_shape,o_look_at_entry,o_lets_ends,o_source,o_pick,o_end_works,o_wishes,o_plan,o_plan_ends,o_ended,o_shown,o_law⟩:=oks (E:=enM l w K xS P mg base) B;have g1:=o_length_of ((feE h1).dn X G hx bd2 l w base);have g2:=o_weight_of ((feE h2).dn X G hx bd1 l w base);have g3:=o_one_weight ((feE h3).dn X G hx bd1 l w base) g2;have g4:=o_same_coming ((feE h4).dn X G hx bd1 l w base);have g5:=o_one_coming ((feE h5).dn X G hx bd1 l w base) g4;have g6:=o_refuse_other_costs ((feE h6).dn X G hx bd2 l w base);have g7:=o_late_coming ((feE h7).dn X G hx bd1 l w base) g5 g6;have g8:=o_by_dues ((flE h8).dl X G hx bd1 (.head _) l w hd bl nd rfl);have g9:=o_put_out ((flE h9).dl X G hx bd1 (.tail _ (.head _)) l w hd bl nd rfl) g1 g3 g7 g8;have g10:=o_turned ((feE h10).dn X G hx bd2 l w base);have g11:=o_done_by ((feE h11).dn X G hx bd2 l w base) g9 g10;have g12:=o_add_piece ((feE h12).dn X G hx bd4 l w base);have g13:=o_ranked_plan ((flE h13).dl X G hx bd3 (.tail _ (.tail _ (.head _))) l w hd bl nd rfl) g12;have g14:=o_end_weight ((feE h14).dn X G hx bd1 l w base) g6 g3;have g15:=o_left_plan ((flE h15).dl X G hx bd1 (.tail _ (.tail _ (.tail _ (.head _)))) l w hd bl nd rfl) g13 g14;have g16:=o_steps_at ((feE h16).dn X G hx bd2 l w base)
 have g17:=o_cost_at ((feE h17).dn X G hx bd2 l w base) g16;have g18:=o_costs_of ((feE h18).dn X G hx bd2 l w base) g17;have g19:=o_worth ((feE h19).dn X G hx bd3 l w base) g18;have g20:=o_source ((feE h20).dn X G hx bd1 l w base);have g21:=o_pick ((feE h21).dn X G hx bd2 l w base);have g22:=o_end_works ((feE h22).dn X G hx bd2 l w base) g21;have g23:=o_wishes ((feE h23).dn X G hx bd2 l w base) g21;have g24:=o_plan ((feE h24).dn X G hx bd3 l w base) g21;have g25:=o_plan_ends ((feE h25).dn X G hx bd2 l w base);have g26:=o_ended ((feE h26).dn X G hx bd2 l w base);have g27:=o_full_weight ((feE h27).dn X G hx bd1 l w base) g2;have g28:=o_no_more ((feE h28).dn X G hx bd2 l w base);have g29:=o_put_behind ((feE h29).dn X G hx bd3 l w base);have g30:=o_next_row ((feE h30).dn X G hx bd2 l w base) g28 g29;have g31:=o_table_of ((feE h31).dn X G hx bd1 l w base) g7 g8 g27 g30;have g32:=o_ends_of ((feE h32).dn X G hx bd2 l w base);have g33:=o_ends_paper ((feE h33).dn X G hx bd1 l w base) g31 g32 g10 g15;have g34:=o_is_tuple_of ((feE h34).dn X G hx bd2 l w base);have g35:=o_is_number ((feE h35).dn X G hx bd1 l w base);have g36:=o_look_at_shape ((feE h36).dn X G hx bd3 l w base) g35 g34 g27;have g37:=o_look_at_entry_shape ((feE h37).dn X G hx bd3 l w base) g35 g34 g36 g10;have g38:=o_greatest_weight ((feE h38).dn X G hx bd1 l w base);have g39:=o_look_at_row ((feE h39).dn X G hx bd4 l w base) g28 g29;have g40:=o_look_at_places ((feE h40).dn X G hx bd3 l w base) g7 g8 g28 g39;have g41:=o_look_at_entry ((feE h41).dn X G hx bd3 l w base) g38 g40 g10;have g42:=o_lets_ends ((feE h42).dn X G hx bd2 l w base) g34 g14 g37 g41;have g43:=o_shown ((feE h43).dn X G hx bd1 l w base) g33 g42;exact o_law ((feE h0).dn X G hx bd1 l w base) g11 g15 g19 g20 g21 g22 g23 g24 g25 g26 g43
end T48
theorem PySem.Challenge.cw_benchdays_k48_whole_least_left_is_best_holds : PySem.Challenge.rw_benchdays_k48_whole_least_left_is_best.Holds := by
 refine T48.early λK F d hd hdf=>L2.walkL T48.xS (l:=PySem.Challenge.rw_benchdays_k48_whole_least_left_is_best) (n:=63) (k:=9) (F:=T48.gE) rfl 98 hdf ⟨rfl,by decide,by decide,rfl⟩ (by intro x hx;simp only[T48.xS,gj,hZ,hJ]at hx;rcases hx with rfl|rfl|rfl|rfl<;>exact⟨_,rfl⟩) T48.law_eq (λw h Y=>Y) λw mg fa h c P X G hmg hx=>?_;rw[hd]at hmg;exact T48.all_mk X G hmg hx (F w)
