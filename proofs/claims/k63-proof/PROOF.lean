import PyProof.Rows.All
import Wide.All
import OpenK.AllK
import Wide.FinOn
import Lean
import PyProof.EqAt
import PyProof.EqKinds
import PyProof.TupleCall
import KE.KSortKey
import PyProof.ListMulRoad
import PyProof.Draws
import PyProof.EnumMake
import PyProof.ListNew
import KE.KRevIter
import KE.KMinKey
import PySem.Challenge.RW_benchdays_k63_whole_forest_meets
set_option Elab.async false
set_option linter.all false
set_option maxRecDepth 100000
set_option compiler.extract_closed false
noncomputable section
open PySem.W(Frag fnOf OpenLaw keepIn codeIn)
set_option hygiene false in
local macro_rules | `(tactic| and_intros) => `(tactic| intro ρ σ H hd ls Q d hd' hR hL hm hQ)
open List(mem_cons mem_filter mem_append mem_filterMap nodup_cons all_cons any_cons mem_map all_eq_true mem_singleton nodup_append drop_length map_take map_drop set_cons_succ set_cons_zero pairwise_cons sum_append mem_flatten mem_iff_getElem sum_cons mem_flatMap map_id all_map)
open Option(isSome_iff_exists none_or getD_some)
open Nat(le_succ not_lt)
open Int(zero_mul add_zero mul_zero zero_add mul_neg)
def gV{α β:Type _}{o:Option α}{f:α->Option β}{b:β}(h:o.bind f=some b):∃a,o=some a/\f a=some b:=Option.bind_eq_some_iff.mp h
def iS{α β:Type _}{o:Option α}{f:α->β}{b:β}(h:o.map f=some b):∃a,o=some a/\f a=b:=Option.map_eq_some_iff.mp h
def ic:=@if_pos
def ie:=@PySem.wpAny_bind
def ig:=@if_neg
def ik:=@Option.bind_some
def ip:=@PySem.wpAny_pure
def iq:=@Nat.le_refl
def ir:=@List.mem_cons
def iu:=@List.size_toArray
def iw:=@List.map_cons
def iT:=@List.mem_append
def iU:=@if_true
def iV:=@List.length_append
def iW:=@Nat.ne_of_lt
def iX:=@List.length_map
def iY:=@Option.map_some
def iZ:=@List.map_map
def j0:=@PySem.wpAny_mono
def j3:=@Nat.lt_of_lt_of_le
def j4:=@List.mem_cons_of_mem
def j5:=@List.mem_of_getElem?
def j6:=@List.length_cons
def j7:=@List.mem_append_right
def j8:=@List.lookup_cons
def j9:=@List.cons_append
def ja:=@Nat.le_of_lt
def jc:=@List.flatten_append
def jd:=@Int.mul_comm
def je:=@List.append_nil
def jf:=@List.take_append_drop
def jg:=@List.mem_cons_self
def jh:=@List.mem_singleton
def ji:=@congrArg
def jj:=@Int.toNat_natCast
def jk:=@Int.mul_add
def jl:=@List.map_append
def jn:=@List.not_mem_nil
def jo:=@Nat.le_trans
def jq:=@Int.mul_assoc
def jr:=@or_false
def jt:=@List.map_nil
def ju:=@List.mem_of_mem_take
def jv:=@List.flatten_cons
def jw:=@Nat.lt_irrefl
def jx:=@Nat.ne_of_gt
def jy:=@if_false
def jA:=@PySem.wpAny_field
def jB:=@List.length_take
def jC:=@Nat.lt_or_ge
def jD:=@decide_eq_false
def jE:=@List.drop_eq_getElem_cons
def jF:=@Nat.zero_le
def jG:=@PySem.wpAny_standAt
def jH:=@List.range_succ
def jI:=@decide_eq_true
def jJ:=@List.filterMap_cons
def jK:=@List.mem_append_left
def jL:=@List.append_assoc
def jM:=@List.take_of_length_le
def jN:=@List.length_nil
def jO:=@Int.add_mul
def jP:=@List.map_congr_left
def jQ:=@List.nil_append
def jR:=@List.nodup_range
def jS:=@Int.mul_nonneg
def jT:=@Int.mul_pos
def jU:=@PySem.wpAny_holding
def jV:=@PySem.wpAny_newObj_type
def jW:=@PySem.wpAny_rule
def jX:=@decide_eq_true_eq
def jY:=@List.lookup_append
def jZ:=@List.ext_getElem?
def k0:=@List.flatMap_cons
def k5:=@List.filter_cons
def k8:=@Nat.min_eq_left
def k9:=@PySem.wpAny_call_entry
def kc:=@PySem.wpAny_seqItems
def kd:=@List.length_drop
def ke:=@List.pairwise_map
def kf:=@List.append_of_mem
def kg:=@List.idxOf_append
def kh:=@Nat.lt_succ_of_lt
def ki:=@Nat.le_add_right
def kj:=@PySem.wpAny_truthy_bool
def kl:=@PySem.wpAny_passesOwn
def km:=@PySem.sizeLine_eq
def ko:=@PyProof.Rows.assignInOrder_cons
def kq:=@PySem.wpAny_callSpecial?_slot
def kr:=@of_decide_eq_true
def ku:=@PySem.wpAny_setField_rec
def kx:=@PySem.wpAny_bindName
def ky:=@decide_true
def kz:=@PySem.wpAny_Call_Name_kw
def kA:=@PySem.wpAny_comprehension_free
def kB:=@PySem.wpAny_pyIter_enum
set_option compiler.extract_closed false
local macro_rules | `(tactic| omega) => `(tactic| first | lia | omega (config := {}))
namespace Ea
open PySem PySem.W
noncomputable def dA(s:Stmt):Arguments:=match s with
 |.FunctionDef _ a _ _ _ _ _ _ _ _=>a
 |_=>{ posonlyargs:=[],args:=[],vararg:=none,kwonlyargs:=[],kw_defaults:=[],kwarg:=none,defaults:=[] }
noncomputable def dB(s:Stmt):List Stmt:=match s with
 |.FunctionDef _ _ b _ _ _ _ _ _ _=>b
 |_=>[]
noncomputable def dS(s:Stmt):Scope:=match s with
 |.FunctionDef _ _ _ _ _ _ sc _ _ _=>sc
 |_=>{ kind:=.function,names:=[],isGenerator:=false,isCoroutine:=false }
noncomputable def tO(o:Obj):Option Addr:=match o.data with
 | .fields vs=>(match (vs[11]?:Option Value)with
  |some (Value.ref P)=>some P
  | _=>none)
 |_=>none
def At(K:Frag)(n:Str)(s:Stmt)(f:Addr)(cd:Value):Prop:=∃oc kV dc pm ct od an sl,nsIn K mainGlobals n=some (some (.ref f))/\K.lookup f=some ⟨oc,od,.func (fnOf n n (dA s) (dB s) (dS s) .none kV dc pm an cd ct),sl⟩/\codeIn K cd n=true/\keepIn K (.ref f)=true
def Fe(K:Frag)(n:Str)(s:Stmt):Prop:=∃f cd,At K n s f cd
def Fl(K:Frag)(n:Str)(s:Stmt)(p:Addr):Prop:=∃f ca ob,At K n s f (.ref ca)/\K.lookup ca=some ob/\tO ob=some p
section
variable{K:Frag}{kV:Value}
def feI(a:nsIn K mainGlobals n=some (some (.ref f)))(l:K.lookup f=some ⟨oc,od,.func (fnOf n n (dA s) (dB s) (dS s) .none kV dc pm an cd ct),sl⟩)(c:codeIn K cd n=true)(k:keepIn K (.ref f)=true):Fe K n s:=⟨f,cd,_,_,_,_,_,_,_,_,a,l,c,k⟩
end
noncomputable abbrev dO:List Str:=["list","tuple","len","range","repr","sum","min","max","abs","all","any","sorted","zip","isinstance","int","bool","str","set","enumerate","reversed","dict"]
def Zs(K:Frag):Prop:=∀n∈dO,nsIn K mainGlobals n=some none
def Zg(K:Frag)(l:List Str):Prop:=∀n∈l,nsIn K mainGlobals n=some none
def zs0{K:Frag}:Zg K []:=λ_ h=>nomatch h
def zs1{K:Frag}(h:nsIn K mainGlobals n=some none)(r:Zg K l):Zg K (n::l):=λm hm=>by
 rcases mem_cons.mp hm with rfl|hm
 .exact h
 .exact r m hm
end Ea
namespace L2
open PySem
noncomputable def fK(nm:Str)(p:Addr×Obj):Bool:=match p.2.data with
 |.cls cd=>cd.name==nm
 |_=>false
def fL(K:Frag)(nm:Str):Option Addr:=(K.find? (fK nm)).map (·.1)
end L2
namespace Hl
open PySem PySem.W PyProof.Rows
noncomputable def PP(p:Program)(w:World)(m:Nat)(ann:Option Value):Nat->SharedT->Thread->Option SharedT
 |0,_,_=>none
 |n+1,s,t=>match through t with
  |true=>some s
  |false=>match stepOk m ann t with
   |false=>none
   |true=>match stepT (denote treeTable) p w s t with
    |some (s',t')=>PP p w m ann n s' t'
    |none=>none
theorem O3{m:Nat}:∀{n:Nat} {s s':SharedT} {t:Thread},PP p w m ann n s t=some s'->topRun treeTable p w m ann n s.abs t=some s'.abs
 |0,_,_,_,h=>by cases h
 |n+1,s,s',t,h=>by
  rw[PP]at h;rw[topRun];cases h1:through t with
  |true=>rw[h1]at h;cases h;rfl
  |false=>
   rw[h1]at h;cases h2:stepOk m ann t with
   |false=>rw[h2]at h;cases h
   |true=>
    rw[h2]at h;cases h3:stepT (denote treeTable) p w s t with
    |none=>rw[h3]at h;cases h
    |some r=>obtain⟨s2,t2⟩:=r;rw[h3]at h;rw[stepT_spec h3];exact O3 h
noncomputable def Vq:Nat->List Obj->BT->BT
 |_,[],t=>t
 |n,o::r,t=>Vq (n+1) r (t.ins n o)
noncomputable def bT(P:Params):BT:=Vq 0 (boot_heap P).objs.toList .nil
def dN(P:Params):absHeap (bT P) 11 (boot_heap P).life=boot_heap P:=by kernel_rfl
def ft(P:Params):((boot_heap P).isNs mainGlobals,(boot_heap P).nsMap mainGlobals "__annotations__")=(true,some (.ref 6)):=by kernel_rfl
variable{Xt:Shared->Bool}{α:Type}{Yf:Shared->α}{Ya:World->α}{N M:Nat}
def cO(p q:Program)(loose:List Str)(Xt:Shared->Bool)(Yf:Shared->α)(M:Nat)(w:World)(os:OsState):=
 match PP p w 11 (some (.ref 6)) M ⟨bT w.params,11,(boot_heap w.params).life,Array.mk [],boot_drawn,boot_toks,os⟩ (topStub p)with
 | some s=>(match staticsOk (importedModules p.main.body) (boot_heap w.params) s.abs.heap&&namesBound p s.abs.heap&&gensDone s.abs&&laidKept (boot_heap w.params) s.abs.heap with
  |true=>some (openSeen q loose (importedModules p.main.body) Xt true s.abs,Yf s.abs)
  | false=>none)
 |none=>none
def left(e:opening p=plainProg p.main.scope.names)(f:∀s,fenceModules? p s=some s)(hN:Nat.ble 600 N=true)(hM:Nat.ble M N=true)(h:∀w os,cO p q loose Xt Yf M w os=some (openGood q loose,Ya w)):LeftO p q loose Xt Yf Ya N:=λw=>by
 obtain⟨⟨hp,gs,d,k,os⟩,e1,e2⟩:=iS (boot_open e hN f w);simp only[Prod.mk.injEq]at e2;obtain⟨rfl,rfl,rfl,rfl⟩:=e2;have hl:=h w os;unfold cO at hl;split at hl
 .next s hs=>
  have r:=topRun_mono (N-M) _ _ _ _ (O3 hs);rw[show M+(N-M)=N by have:=Nat.le_of_ble_eq_true hM;omega]at r;have ea:(SharedT.mk (bT w.params) 11 (boot_heap w.params).life (Array.mk []) boot_drawn boot_toks os).abs=⟨boot_heap w.params,Array.mk [],boot_drawn,boot_toks,os⟩:=by
   show Shared.mk (absHeap (bT w.params) 11 (boot_heap w.params).life) _ _ _ _=_;rw[dN]
  rw[ea]at r;obtain⟨z1,z2⟩:=Prod.mk.inj (ft w.params);have z3:(boot_heap w.params).objs.size=11:=rfl;split at hl
  .next c=>
   show((fencedOpening treeTable p w N).bind (topFrom treeTable p w N)).map _=_;rw[e1,ik];have t:topFrom treeTable p w N ⟨boot_heap w.params,Array.mk [],boot_drawn,boot_toks,os⟩=some s.abs:=by
    unfold topFrom;dsimp only;rw[z1,z2,z3,r];show(match staticsOk (importedModules p.main.body) (boot_heap w.params) s.abs.heap&&namesBound p s.abs.heap&&gensDone s.abs&&laidKept (boot_heap w.params) s.abs.heap with|true=>some s.abs|false=>none)=_;rw[c]
   rw[t];exact hl
  .cases hl
 .cases hl
end Hl
namespace T63
open PySem PySem.W PyProof.Rows Ea
noncomputable def top(i:Nat):Stmt:=PySem.Challenge.pw_benchdays_k63_whole_forest_meets.main.body.getD i (.Pass ⟨0,0,0,0⟩)
def vw:PySem.Program:={ PySem.Challenge.pw_benchdays_k63_whole_forest_meets with main:={ PySem.Challenge.pw_benchdays_k63_whole_forest_meets.main with body:=[1,2,3,5,6,7,8,9,10,12,13,14,15,16,17,19,20,21,22,23,25,26,27,28,30,31,32,34,35,36,37,38,39,41,42,43,44,45,47,48,49,50,51,52,53,54,55].map top } }
def Qp(K:Frag):Prop:=Zs K/\Fe K "law" (top 55)/\Fe K "weight_of" (top 23)/\Fe K "same_coming" (top 20)/\Fe K "one_coming" (top 21)/\Fe K "refuse_other_costs" (top 22)/\Fe K "weighted_coming" (top 25)/\Fe K "pair_sum_of" (top 27)/\Fe K "pair_sum" (top 28)/\Fe K "is_forest" (top 32)/\Fe K "refuse_no_forest" (top 34)/\Fe K "less" (top 16)/\Fe K "falling" (top 17)/\Fe K "common_divisor" (top 12)/\Fe K "fraction" (top 14)/\Fe K "length_of" (top 19)/\Fe K "ratio_of" (top 26)/\Fe K "row_of" (top 35)/\Fe K "line_of" (top 36)/\Fe K "joined" (top 37)/\Fe K "minus" (top 15)/\Fe K "prices_of" (top 38)/\Fe K "forest_order" (top 39)/\Fe K "gain" (top 41)/\Fe K "is_tuple_of" (top 8)/\Fe K "is_number" (top 5)/\Fe K "is_number_from" (top 6)/\Fe K "is_number_of_work" (top 7)/\Fe K "rises" (top 9)/\Fe K "is_set_of_works" (top 10)/\Fe K "is_fraction" (top 13)/\Fe K "reached" (top 30)/\Fe K "behind" (top 31)/\Fe K "fault_of" (top 42)/\Fe K "look_at_prices" (top 43)/\Fe K "common_bottom" (top 44)/\Fe K "priced" (top 45)/\Fe K "_law_tape" (top 47)/\Fe K "_law_pick" (top 48)/\Fe K "_law_works" (top 49)/\Fe K "_law_forest" (top 50)/\Fe K "_law_drawn" (top 51)/\Fe K "_law_wished" (top 52)/\Fe K "_law_orders" (top 53)/\Fe K "_law_cost" (top 54)
def fj{K:Frag}(z:Zs K)(h0:Fe K "law" (top 55))(h1:Fe K "weight_of" (top 23))(h2:Fe K "same_coming" (top 20))(h3:Fe K "one_coming" (top 21))(h4:Fe K "refuse_other_costs" (top 22))(h5:Fe K "weighted_coming" (top 25))(h6:Fe K "pair_sum_of" (top 27))(h7:Fe K "pair_sum" (top 28))(h8:Fe K "is_forest" (top 32))(h9:Fe K "refuse_no_forest" (top 34))(h10:Fe K "less" (top 16))(h11:Fe K "falling" (top 17))(h12:Fe K "common_divisor" (top 12))(h13:Fe K "fraction" (top 14))(h14:Fe K "length_of" (top 19))(h15:Fe K "ratio_of" (top 26))(h16:Fe K "row_of" (top 35))(h17:Fe K "line_of" (top 36))(h18:Fe K "joined" (top 37))(h19:Fe K "minus" (top 15))(h20:Fe K "prices_of" (top 38))(h21:Fe K "forest_order" (top 39))(h22:Fe K "gain" (top 41))(h23:Fe K "is_tuple_of" (top 8))(h24:Fe K "is_number" (top 5))(h25:Fe K "is_number_from" (top 6))(h26:Fe K "is_number_of_work" (top 7))(h27:Fe K "rises" (top 9))(h28:Fe K "is_set_of_works" (top 10))(h29:Fe K "is_fraction" (top 13))(h30:Fe K "reached" (top 30))(h31:Fe K "behind" (top 31))(h32:Fe K "fault_of" (top 42))(h33:Fe K "look_at_prices" (top 43))(h34:Fe K "common_bottom" (top 44))(h35:Fe K "priced" (top 45))(h36:Fe K "_law_tape" (top 47))(h37:Fe K "_law_pick" (top 48))(h38:Fe K "_law_works" (top 49))(h39:Fe K "_law_forest" (top 50))(h40:Fe K "_law_drawn" (top 51))(h41:Fe K "_law_wished" (top 52))(h42:Fe K "_law_orders" (top 53))(h43:Fe K "_law_cost" (top 54)):Qp K:=⟨z,h0,h1,h2,h3,h4,h5,h6,h7,h8,h9,h10,h11,h12,h13,h14,h15,h16,h17,h18,h19,h20,h21,h22,h23,h24,h25,h26,h27,h28,h29,h30,h31,h32,h33,h34,h35,h36,h37,h38,h39,h40,h41,h42,h43⟩
local macro_rules | `(tactic| o_head $H) => `(tactic| (refine holds_open (r := PySem.Challenge.rw_benchdays_k63_whole_forest_meets.row) (q := T63.vw) (loose := []) (Xt := λ s => xlAt T63.vw [] s && recOk (RowW.records (OpenRow.toRowW PySem.Challenge.rw_benchdays_k63_whole_forest_meets.row)) s) (XP := XL T63.vw []) (Yf := Hook.obs $H) (Ya := Hook.val $H) (YP := Hook.says $H) (N := 100000) ?hl (Hook.of $H) (Hook.keeps $H) (λ s e => xl_of s (Bool.and_eq_true_iff.mp e).1) XL.keeps (by rfl) (by rfl) (by rfl) (λ s e => recFacts_of (Bool.and_eq_true_iff.mp e).2) (by rfl) (by first | assumption | decide +kernel) (by decide +kernel) ⟨rfl, rfl, rfl, rfl, rfl, by decide +kernel⟩ ?hw ?hc; (case hl => exact Hl.left (M := 10000) (by rfl) (λ s => by rfl) (by decide) (by decide) λ w os => by kernel_rfl)))
set_option maxRecDepth 100000 in
set_option maxHeartbeats 0 in
def early(hG:∀(K:Params->Frag),(∀w:World,Qp (K w.params))->∀d:DefRec,d.name="law"->d.params.defaults=[]->WalkO T63.vw [] (XL T63.vw []) (λw h=>(K w.params).In h) PySem.Challenge.rw_benchdays_k63_whole_forest_meets.row.toRowW d [] (λf vs=>PySem.call f vs)):PySem.Challenge.rw_benchdays_k63_whole_forest_meets.Holds:=by
 w_on;o_law;k_head;(case hw=>w_witness2)
 k_fill
 refine λw s₀ s₁ mg mb G Y=>hG _ ?F _ rfl rfl w s₀ s₁ mg mb G (kIn_of Y)
 case F=>
  intro w;refine' fj ?z ?h0 ?h1 ?h2 ?h3 ?h4 ?h5 ?h6 ?h7 ?h8 ?h9 ?h10 ?h11 ?h12 ?h13 ?h14 ?h15 ?h16 ?h17 ?h18 ?h19 ?h20 ?h21 ?h22 ?h23 ?h24 ?h25 ?h26 ?h27 ?h28 ?h29 ?h30 ?h31 ?h32 ?h33 ?h34 ?h35 ?h36 ?h37 ?h38 ?h39 ?h40 ?h41 ?h42 ?h43 
  case z=>(refine' zs1 _ (zs1 _ (zs1 _ (zs1 _ (zs1 _ (zs1 _ (zs1 _ (zs1 _ (zs1 _ (zs1 _ (zs1 _ (zs1 _ (zs1 _ (zs1 _ (zs1 _ (zs1 _ (zs1 _ (zs1 _ (zs1 _ (zs1 _ (zs1 _ (zs0)))))))))))))))))))))<;>k_is)
  case h0|h1|h2|h3|h4|h5|h6|h7|h8|h9|h10|h11|h12|h13|h14|h15|h16|h17|h18|h19|h20|h21|h22|h23|h24|h25|h26|h27|h28|h29|h30|h31|h32|h33|h34|h35|h36|h37|h38|h39|h40|h41|h42|h43=>(refine' feI ?a ?l ?c ?k;case a|l|c|k=>k_is)
end T63
set_option hygiene false in
local macro_rules|`(66)=>`(by omega)|`(67)=>`(s.heap.objs.size)|`(68)=>`(ws.length)|`(69)=>`(List.range)|`(70)=>`(by simp)|`(71)=>`(List Nat)|`(72)=>`(List.getElem?_eq_some_iff.mp)|`(73)=>`(model X.prog X.w)|`(74)=>`(Heap.get?_push_of_some)|`(75)=>`(by simp;omega)|`(76)=>`(cCx X (loc++fr) scope s H ex)|`(77)=>`(Value->Shared->Prop)|`(78)=>`(Heap.lt_size)|`(79)=>`(xs.length)|`(80)=>`(by decide)|`(81)=>`(lf ws)|`(82)=>`(ds.length)|`(83)=>`(Inv X pins σ H s)|`(84)=>`(List (Int×Int))|`(85)=>`(Heap.get?_push_size)|`(86)=>`(s2.heap.objs.size)|`(87)=>`(model prog w)
namespace L2
open PySem PySem.Spec PyProof.Rows
noncomputable abbrev Key:=Sum Int Str
noncomputable def WU:Key->Value->Bool
 |.inl k,v=>Value.isInt k v
 |.inr x,v=>Value.isStrOf x v
noncomputable def fg(w:World):Key->Int
 |.inl k=>hashInt k
 |.inr x=>hashStr w x
def BX:∀{k:Key} {v:Value},WU k v=true->(∃i t,k=Sum.inl i/\v=Value.int i t)∨(∃x t,k=Sum.inr x/\v=Value.str x t)
 |.inl i,v,h=>by
  obtain⟨t,e⟩:=Value.isInt_shape (k:=i) (v:=v) h;exact .inl ⟨i,t,rfl,e⟩
 |.inr x,v,h=>by
  obtain⟨t,e⟩:=Value.isStrOf_shape (x:=x) (v:=v) h;exact .inr ⟨x,t,rfl,e⟩
def cW(a b:Int):decide ((Sum.inl a:Key)=Sum.inl b)=(a==b):=by
 by_cases e:a=b
 .subst e;simp
 .have h:¬ (Sum.inl a:Key)=Sum.inl b:=λq=>e (Sum.inl.inj q);rw[jD h];exact(beq_eq_false_iff_ne.mpr e).symm
def cT(a b:Str):decide ((Sum.inr a:Key)=Sum.inr b)=decide (a=b):=by
 by_cases e:a=b
 .subst e;simp
 .have h:¬ (Sum.inr a:Key)=Sum.inr b:=λq=>e (Sum.inr.inj q);rw[jD h,jD e]
def cV(a:Int)(b:Str):decide ((Sum.inl a:Key)=Sum.inr b)=false:=jD (λq=>nomatch q)
def cU(a:Str)(b:Int):decide ((Sum.inr a:Key)=Sum.inl b)=false:=jD (λq=>nomatch q)
noncomputable def KM(prog:Program)(w:World):PySem.KeyKind prog w Key where
 is:=WU
 hash:=fg w
 inj:=λv a b ha hb=>by
  rcases BX ha with⟨i,t,rfl,rfl⟩|⟨x,t,rfl,rfl⟩
  .rcases BX hb with⟨j,u,rfl,e⟩|⟨y,u,rfl,e⟩
   .injection e with e1 _;rw[e1]
   .exact nomatch e
  .rcases BX hb with⟨j,u,rfl,e⟩|⟨y,u,rfl,e⟩
   .exact nomatch e
   .injection e with e1 _;rw[e1]
 byValue:=λk v h=>by
  rcases BX h with⟨i,t,rfl,rfl⟩|⟨x,t,rfl,rfl⟩<;>rfl
 pyHash:=λhv h=>by
  rcases BX hv with⟨i,t,rfl,rfl⟩|⟨x,t,rfl,rfl⟩
  .exact wpAny_pyHash_int h
  .exact wpAny_pyHash_str h
 eqBool:=λhu hv h=>by
  rcases BX hu with⟨i,t,rfl,rfl⟩|⟨x,t,rfl,rfl⟩
  .rcases BX hv with⟨j,u,rfl,rfl⟩|⟨y,u,rfl,rfl⟩
   .rw[cW]at h;exact wpAny_eqBool_int h
   .rw[cV]at h;exact SeqAt.EqAt.int_str i t y u _ _ _ _ h
  .rcases BX hv with⟨j,u,rfl,rfl⟩|⟨y,u,rfl,rfl⟩
   .rw[cU]at h;exact SeqAt.EqAt.str_int x t j u _ _ _ _ h
   .rw[cT]at h;exact wpAny_eqBool_str h
 «strs»:=λk x t v h=>by
  rcases BX h with⟨i,u,rfl,e⟩|⟨y,u,rfl,e⟩
  .exact nomatch e
  .injection e with e1 _
   subst e1;cases v<;>rfl
inductive V where
 |non|bl (b:Bool)|int (i:Int)|str (x:Str)|byt (b:Array UInt8)|flt (b:UInt64)|ref (a:Addr)|ty (n:String)
 deriving DecidableEq
def RelV:V->Value->Prop
 |.non,u=>u=Value.none
 |.bl b,u=>u=Value.bool b
 |.int i,u=>∃t,u=Value.int i t
 |.str x,u=>∃t,u=Value.str x t
 |.byt b,u=>∃t,u=Value.bytes b t
 |.flt b,u=>∃t,u=Value.float b t
 |.ref a,u=>u=Value.ref a
 |.ty n,u=>u=Value.type n
abbrev Vals:List V->List Value->Prop:=Paired RelV
theorem Vals.length{xs:List V}{us:List Value}(r:Vals xs us):79=us.length:=Paired.length r
def Vals.get{xs:List V}{us:List Value}{i:Nat}{x:V}(h:Vals xs us)(e:xs[i]?=some x):∃u,us[i]?=some u/\RelV x u:=by
 induction h generalizing i with
 |nil=>simp at e
 |cons r t ih=>cases i with
  |zero=>simp at e;subst e;exact⟨_,rfl,r⟩
  |succ i=>simpa using ih (i:=i) (by simpa using e)
theorem Vals.set{x:V}{u:Value}(r:RelV x u){xs:List V}{us:List Value}(i:Nat)(h:Vals xs us):Vals (xs.set i x) (us.set i u):=by
 induction h generalizing i with
 |nil=>exact .nil
 |cons q t ih=>cases i with
  |zero=>exact .cons r t
  |succ i=>exact .cons q (ih i)
def Vals.append{xs ys:List V}{us ws:List Value}(h:Vals xs us)(s:Vals ys ws):Vals (xs++ys) (us++ws):=by
 induction h with
 |nil=>exact s
 |cons r t ih=>exact .cons r ih
theorem Vals.take{xs:List V}{us:List Value}(n:Nat)(h:Vals xs us):Vals (xs.take n) (us.take n):=by
 induction h generalizing n with
 |nil=>cases n<;>exact .nil
 |cons r t ih=>cases n with
  |zero=>exact .nil
  |succ n=>exact .cons r (ih n)
theorem Vals.drop{xs:List V}{us:List Value}(n:Nat)(h:Vals xs us):Vals (xs.drop n) (us.drop n):=by
 induction h generalizing n with
 |nil=>cases n<;>exact .nil
 |cons r t ih=>cases n with
  |zero=>exact .cons r t
  |succ n=>exact ih n
def dU:Option V->Option Value->Prop
 |some v,some u=>RelV v u
 |none,none=>True
 |_,_=>False
def KV{κ:Type}:List (κ×V)->List (κ×Value)->Prop:=Paired λ(p:κ×V) (q:κ×Value)=>p.1=q.1/\RelV p.2 q.2
noncomputable def kV:Key->V
 |.inl i=>.int i
 |.inr x=>.str x
inductive HO where
 /-- a list -/
 |lst (xs:List V)
 /-- a tuple (never changes) -/
 |tup (xs:List V)
 /-- a dict whose keys are ints and texts;one whose keys are tuples of ints and texts (the empty one is both) -/
 |dK (kvs:List (Key×V))|dT (kvs:List (List Key×V))
 /-- a set of ints: its members,its size -/
 |set (S:Int->Bool) (n:Nat)
 /-- an instance of the class at C,its dict at dx,its attributes -/
 |ins (C dx:Addr) (fs:List (Str×V))
 /-- the dict of the instance at x -/
 |own (x:Addr)
 /-- the dict of an exception -/
 |xd (fs:List (Str×V))
 /-- a bound method,f of x -/
 |met (f x:Addr)
 /-- a range object lo,lo+1,.. below hi -/
 |rng (lo hi:Int)
 /-- a thing that is known to the object (the script;a dict while a loop walks it): read,never written while it is so -/
 |frz (o:Obj) (u:HO)
 /-- a code object's table -/
 |tbl (ps:Array Value)
 /-- any other thing,by what is true of its one object (a def of one's own: SetO a S n:=HO.ext λh=>..) -/
 |ext (φ:Heap->Prop)
noncomputable abbrev Hp:=Addr->Option HO
noncomputable def upd(H:Hp)(a:Addr)(o:HO):Hp:=λb=>if b=a then some o else H b
def Af{H:Hp}{a:Addr}{o:HO}:upd H a o a=some o:=by unfold upd;rw[ic rfl]
def AW{H:Hp}{a b:Addr}{o:HO}(h:b≠a):upd H a o b=H b:=by unfold upd;rw[ig h]
def Am{H:Hp}{a b:Addr}{o:HO}(h:H a=some o)(h':H b=none):a≠b:=by
 intro e;subst e;rw[h]at h';cases h'
def IsTupD(h:Heap)(a:Addr)(items:Array Value):Prop:=∃o,h.get? a=some o/\o.cls=.type "tuple"/\(∃n,o.data=.seq items n)/\o.dict=none
def IsTupD.t{h:Heap}{a:Addr}{items:Array Value}(x:IsTupD h a items):IsTup h a items:=let ⟨o,e,c,d,_⟩:=x;⟨o,e,c,d⟩
def IsTupD.new(h:Heap)(items:Array Value):IsTupD (h.push { cls:=.type "tuple",data:=.seq items }) h.objs.size items:=⟨_,85 _ rfl,rfl,⟨_,rfl⟩,rfl⟩
section
variable(P:Program)(w:World)
noncomputable def ObjOk(H:Hp)(h:Heap)(a:Addr):HO->Prop
 |.lst xs=>79<=sizeLine/\∃(its:List Value) (n:Nat),Vals xs its/\h.get? a=some { cls:=.type "list",data:=.seq its.toArray n }
 |.tup xs=>79<=sizeLine/\∃its:List Value,Vals xs its/\IsTupD h a its.toArray
 |.dK kvs=>kvs.length<=sizeLine/\(a==sysModules)=false/\∃vs,KV kvs vs/\h.DictOf (KM P w) a vs
 |.dT kvs=>kvs.length<=sizeLine/\(a==sysModules)=false/\∃xs:List (List Key×Addr×Value),
  Paired (λ(p:List Key×V) (q:List Key×Addr×Value)=>p.1=q.1/\H q.2.1=some (.tup (p.1.map kV))/\RelV p.2 q.2.2) kvs xs /\
  ∃o es ep,h.get? a=some o/\o.ExactDict/\o.data=.dict es ep/\es.toList=xs.map (entryOfKey (tupleKind (KM P w)))/\(xs.map (·.1)).Nodup
 |.set S n=>h.SetOf (intKind P w) a S n
 |.ins C dx fs=>H dx=some (.own a)/\fs.length<=1000/\dx≠a/\h.get? a=some (PySem.W.instObj C dx)/\
  ∃mA,h.Ns1 dx mA/\(∀f,dU (fs.lookup f) (mA f))/\PySem.Within mA (fs.map (·.1))
 |.own _=>∃o,h.get? a=some o
 |.xd fs=>∃mA,h.Ns1 a mA/\∀f,dU (fs.lookup f) (mA f)
 |.rng lo hi=>∃t u v,h.get? a=some { cls:=.type "range",data:=.fields #[.int lo t,.int hi u,.int 1 v] }
 |.frz o u=>h.get? a=some o/\ObjOk H h a u
 |.tbl ps=>h.get? a=some { cls:=.none,data:=.fields ps }
 |.met f x=>h.get? a=some (PySem.W.methodObj (.ref f) (.ref x))
 |.ext φ=>φ h/\(∃o,h.get? a=some o)/\∀h1 h2:Heap,φ h1->(∀o,h1.get? a=some o->h2.get? a=some o)->φ h2
def HOk(H:Hp)(h:Heap):Prop:=∀a o,H a=some o->ObjOk P w H h a o
end
section
variable{P:Program}{w:World}{H H':Hp}{h h':Heap}{a:Addr}{o:HO}
def ObjOk.lt(x:ObjOk P w H h a o):a<h.objs.size:=by
 cases o with
 |lst xs=>obtain⟨_,_,_,_,e⟩:=x;exact 78 e
 |tup xs=>obtain⟨_,_,_,o,e,_⟩:=x;exact 78 e
 |dK kvs=>obtain⟨_,_,_,_,o,_,_,e,_⟩:=x;exact 78 e
 |dT kvs=>obtain⟨_,_,_,_,o,_,_,e,_⟩:=x;exact 78 e
 |set S n=>obtain⟨o,_,_,_,e,_⟩:=x;exact 78 e
 |ins C dx fs=>obtain⟨_,_,_,e,_⟩:=x;exact 78 e
 |own y=>obtain⟨_,e⟩:=x;exact 78 e
 |xd fs=>obtain⟨_,⟨_,_,_,e,_⟩,_⟩:=x;exact 78 e
 |rng lo hi=>obtain⟨_,_,_,e⟩:=x;exact 78 e
 |frz ob u=>obtain⟨e,_⟩:=x;exact 78 e
 |tbl ps=>exact 78 (show h.get? a=some _ from x)
 |met f y=>exact 78 (show h.get? a=some _ from x)
 |ext φ=>obtain⟨_,⟨_,e⟩,_⟩:=x;exact 78 e
def Paired.mapP{α β:Type}{F G:α->β->Prop}{l₁:List α}{l₂:List β}(h:Paired F l₁ l₂)(f:∀a b,F a b->G a b):Paired G l₁ l₂:=by
 induction h with
 |nil=>exact .nil
 |cons r t ih=>exact .cons (f _ _ r) ih
def ObjOk.stay(x:ObjOk P w H h a o)(k:∀b u,(b=a∨H b=some (.own a))->h.get? b=some u->h'.get? b=some u)
 (ho:∀b,H b=some (.own a)->H' b=some (.own a)) (ht:∀b xs,H b=some (.tup xs)->H' b=some (.tup xs)):ObjOk P w H' h' a o:=by
 induction o with
 |lst xs=>obtain⟨z,its,n,r,e⟩:=x;exact⟨z,its,n,r,k _ _ (.inl rfl) e⟩
 |tup xs=>obtain⟨z,its,r,ob,e,c⟩:=x;exact⟨z,its,r,ob,k _ _ (.inl rfl) e,c⟩
 |dK kvs=>obtain⟨z,y,vs,r,ob,es,ep,e,c⟩:=x;exact⟨z,y,vs,r,ob,es,ep,k _ _ (.inl rfl) e,c⟩
 |dT kvs=>
  obtain⟨z,y,xs,r,ob,es,ep,e,c⟩:=x;exact⟨z,y,xs,Paired.mapP r λp q z=>⟨z.1,ht _ _ z.2.1,z.2.2⟩,ob,es,ep,k _ _ (.inl rfl) e,c⟩
 |set S n=>obtain⟨ob,es,ep,t,e,c⟩:=x;exact⟨ob,es,ep,t,k _ _ (.inl rfl) e,c⟩
 |ins C dx fs=>
  obtain⟨d,z,ne,e,mA,⟨od,es,ep,e2,c⟩,r⟩:=x;exact⟨ho _ d,z,ne,k _ _ (.inl rfl) e,mA,⟨od,es,ep,k _ _ (.inr d) e2,c⟩,r⟩
 |own y=>obtain⟨ob,e⟩:=x;exact⟨ob,k _ _ (.inl rfl) e⟩
 |xd fs=>obtain⟨mA,⟨od,es,ep,e,c⟩,r⟩:=x;exact⟨mA,⟨od,es,ep,k _ _ (.inl rfl) e,c⟩,r⟩
 |rng lo hi=>obtain⟨t,u,v,e⟩:=x;exact⟨t,u,v,k _ _ (.inl rfl) e⟩
 |frz ob u ih=>obtain⟨e,q⟩:=x;exact⟨k _ _ (.inl rfl) e,ih q⟩
 |tbl ps=>
  have e:h.get? a=some { cls:=.none,data:=.fields ps }:=x;show h'.get? a=some { cls:=.none,data:=.fields ps };exact k a _ (.inl rfl) e
 |met f y=>
  have e:h.get? a=some (PySem.W.methodObj (.ref f) (.ref y)):=x;show h'.get? a=some (PySem.W.methodObj (.ref f) (.ref y));exact k a _ (.inl rfl) e
 |ext φ=>obtain⟨p,⟨o,e⟩,st⟩:=x;exact⟨st _ _ p λo q=>k _ _ (.inl rfl) q,⟨o,k _ _ (.inl rfl) e⟩,st⟩
theorem HOk.lt(x:HOk P w H h)(e:H a=some o):a<h.objs.size:=(x a o e).lt
def HOk.fresh(x:HOk P w H h)(e:h.objs.size<=a):H a=none:=by
 cases q:H a with
 |none=>rfl
 |some u=>exact absurd (j3 (x.lt q) e) (jw _)
def HOk.kept(x:HOk P w H h)(k:∀b u,h.get? b=some u->h'.get? b=some u):HOk P w H h':=λa o e=>
 (x a o e).stay (λb u _ q=>k b u q) (λ_ q=>q) λ_ _ q=>q
def HOk.laid(x:HOk P w H h)(k:∀b u,h.get? b=some u->h'.get? b=some u)(hp:h.objs.size<=a)(new:ObjOk P w (upd H a o) h' a o):HOk P w (upd H a o) h':=λb u e=>by
 have hn:=x.fresh hp;by_cases hb:b=a
 .subst hb;rw[Af]at e;cases e;exact new
 .rw[AW hb]at e;exact(x b u e).stay (λc v _ q=>k c v q) (λc q=>by rw[AW (Am q hn)];exact q) λc xs q=>by rw[AW (Am q hn)];exact q
end
def Rd(H:Hp)(a:Addr)(u:HO):Prop:=H a=some u∨∃o,H a=some (.frz o u)
def Rd.ok{P:Program}{w:World}{H:Hp}{h:Heap}{a:Addr}{u:HO}(r:Rd H a u)(x:HOk P w H h):ObjOk P w H h a u:=by
 rcases r with r|⟨o,r⟩
 .exact x a u r
 .obtain⟨_,q⟩:=x a _ r;exact q
def Mut:Option HO->Prop
 |some (.lst _)=>True
 |some (.dK _)=>True
 |some (.dT _)=>True
 |some (.set _ _)=>True
 |some (.ins _ _ _)=>True
 |some (.ext _)=>True
 |_=>False
section
variable{P:Program}{w:World}{H:Hp}{h h':Heap}{x e:Addr}{o':HO}
def HOk.write(ok:HOk P w H h)(mu:Mut (H x))(he:e=x∨H e=some (.own x))(k:∀b u,b≠e->h.get? b=some u->h'.get? b=some u)(heo:∃u,h'.get? e=some u)
 (new:ObjOk P w (upd H x o') h' x o'):HOk P w (upd H x o') h':=λb u q=>by
 have nown:∀c y,H c=some (.own y)->c≠x:=λc y r z=>by subst z;rw[r]at mu;exact mu
 have ntup:∀c xs,H c=some (.tup xs)->c≠x:=λc xs r z=>by subst z;rw[r]at mu;exact mu
 by_cases hb:b=x
 .subst hb;rw[Af]at q;cases q;exact new
 .rw[AW hb]at q;by_cases hbe:b=e
  .have q':H b=some (.own x):=by
    rcases he with z|z
    .exact absurd (hbe.trans z) hb
    .rw[hbe];exact z
   rw[q]at q';cases q';obtain⟨v,hv⟩:=heo;exact⟨v,by rw[hbe];exact hv⟩
  .refine(ok b u q).stay (λc v hc r=>k c v ?_ r) (λc r=>by rw[AW (nown c b r)];exact r) λc xs r=>by rw[AW (ntup c xs r)];exact r
   rcases hc with rfl|hc
   .exact hbe
   .rintro rfl;rcases he with z|z
    .exact nown c b hc z
    .rw[hc]at z;cases z;exact hb rfl
end
structure Un(fs ex:List Addr)(H H':Hp)(h h':Heap):Prop where
 keep:∀b o,h.get? b=some o->H b=none->b∉fs->b∉ex->h'.get? b=some o
 slot:∀b o,h.get? b=some o->H b=none->b∈fs->b∉ex->∃sl,h'.get? b=some { o with slots:=sl }
 free:∀b o,h.get? b=some o->H b=none->b∉ex->H' b=none
 there:∀b o,h.get? b=some o->b∉ex->∃o',h'.get? b=some o'
 tups:∀b xs,H b=some (.tup xs)->H' b=some (.tup xs)
 frzs:∀b o u,H b=some (.frz o u)->H' b=some (.frz o u)
 tbls:∀b ps,H b=some (.tbl ps)->∃more,H' b=some (.tbl (ps++more))
section
variable{fs fs' ex ex':List Addr}{H H1 H2:Hp}{h h1 h2 h':Heap}{a x e:Addr}{o:HO}
def Un.any(u:Un fs ex H H1 h h1){b:Addr}{ob:Obj}(q:h.get? b=some ob)(n:H b=none)(hx:b∉ex):∃sl,h1.get? b=some { ob with slots:=sl }:=by
 by_cases hb:b∈fs
 .exact u.slot b ob q n hb hx
 .exact⟨ob.slots,u.keep b ob q n hb hx⟩
def Un.kept(k:∀b u,h.get? b=some u->h'.get? b=some u):Un fs ex H H h h':=
 ⟨λb ob q _ _ _=>k b ob q,λb ob q _ _ _=>⟨ob.slots,k b ob q⟩,λ_ _ _ n _=>n,λb ob q _=>⟨ob,k b ob q⟩,λ_ _ q=>q,λ_ _ _ q=>q,λ_ ps q=>⟨#[],by rw[q];simp⟩⟩
def Un.refl:Un fs ex H H h h:=Un.kept λ_ _ q=>q
def Un.laid(k:∀b u,h.get? b=some u->h'.get? b=some u)(hp:h.objs.size<=a)(hn:H a=none):Un fs ex H (upd H a o) h h' where
 keep:=λb u q _ _ _=>k b u q
 slot:=λb u q _ _ _=>⟨u.slots,k b u q⟩
 free:=λb u q n _=>by rw[AW (iW (j3 (Heap.lt_size q) hp))];exact n
 there:=λb u q _=>⟨u,k b u q⟩
 tups:=λb xs q=>by rw[AW (Am q hn)];exact q
 frzs:=λb u xs q=>by rw[AW (Am q hn)];exact q
 tbls:=λb ps q=>⟨#[],by rw[AW (Am q hn),q];simp⟩
def Un.write(mu:Mut (H x))(he:e=x∨H e=some (.own x))(k:∀b u,b≠e->h.get? b=some u->h'.get? b=some u)(heo:∃u,h'.get? e=some u):Un fs ex H (upd H x o) h h':=by
 have hx:∀b,H b=none->b≠x:=λb n z=>by subst z;rw[n]at mu;exact mu
 have hb:∀b,H b=none->b≠e:=λb n z=>by
  subst z;rcases he with r|r
  .exact hx b n r
  .rw[n]at r;cases r
 have hm:∀b u,H b=some u->¬ Mut (some u)->b≠x:=λb u q nm z=>by subst z;rw[q]at mu;exact nm mu
 refine⟨λb u q n _ _=>k b u (hb b n) q,λb u q n _ _=>⟨u.slots,k b u (hb b n) q⟩,λb u q n _=>by rw[AW (hx b n)];exact n,λb u q _=>?_,
  λb xs q=>by rw[AW (hm b _ q λz=>z)];exact q,λb u xs q=>by rw[AW (hm b _ q λz=>z)];exact q,λb ps q=>⟨#[],by rw[AW (hm b _ q λz=>z),q];simp⟩⟩
 by_cases hbe:b=e
 .subst hbe;exact heo
 .exact⟨u,k b u hbe q⟩
end
noncomputable def trk(h:Heap)(H:Hp):List Addr:=(69 h.objs.size).filter λa=>(H a).isSome
noncomputable def Gc(h:Heap)(H:Hp):Heap:=PySem.W.hideAll h (trk h H)
def Ss(h:Heap)(H:Hp):(Gc h H).objs.size=h.objs.size:=PySem.W.hideAll_size _ _
def VQ{h:Heap}{H:Hp}{b:Addr}{o:Obj}(e:h.get? b=some o)(n:H b=none):(Gc h H).get? b=some o:=
 PySem.W.hideAll_get _ e λhm=>by
  have q:(H b).isSome=true:=(mem_filter.mp hm).2;rw[n]at q;simp at q
def Yd{h:Heap}{H:Hp}{b:Addr}{o:Obj}(e:(Gc h H).get? b=some o):h.get? b=some o/\H b=none:=by
 have e':h.get? b=some o:=PySem.W.of_hideAll (trk h H) e;refine⟨e',?_⟩;cases q:H b with
 |none=>rfl
 |some x=>
  have hm:b∈trk h H:=mem_filter.mpr ⟨List.mem_range.mpr (78 e'),by simp[q]⟩;have z:(Gc h H).get? b=none:=PySem.W.hideAll_none (trk h H) hm;rw[z]at e;cases e
structure Mod(K:Frag)(mg:Str->Option Value)(base:Heap):Prop where
 kin:K.In base
 glob:base.Ns mainGlobals mg
 blt:∃mb,base.Ns builtinsNs mb/\∀x:Str,x≠"__name__"->mb x=bootBuiltins x
 nolimit:base.NoLimit
structure Cx where
 prog:Program
 w:World
 K:Frag
 mg:Str->Option Value
 base:Heap
 A:Around
 N:List Str
 s₀:Shared
 H₀:Hp
 env:Env
 outer:List Env
 stack:List Env
 ex:List Addr
 fn:Str->Bool
 calm:Bool
 pn:List (Addr×Obj)
 xe:Value->Shared->Prop
noncomputable def frs(l:List Env):List Addr:=l.filterMap (·.frame)
abbrev Cx.fs(X:Cx):List Addr:=frs X.outer
def Vis(sc:Scope)(x:Str):Prop:=sc.names.lookup x=some .local∨sc.names.lookup x=some .cell∨sc.names.lookup x=some .free
def Loc(sc:Scope)(x:Str):Prop:=sc.names.lookup x=some .local∨sc.names.lookup x=some .cell
def gD(env:Env)(h:Heap)(m:Str->Option Value)(x:Str)(u:Value):Prop:=
 (env.kindOf x=some .local/\m x=some u)∨((env.kindOf x=some .cell∨env.kindOf x=some .free)/\∃c,env.cells.lookup x=some c/\h.IsCell c (some u))
structure Cx.Ok(X:Cx):Prop where
 mod:Mod X.K X.mg X.base
 kind:X.env.scope.kind=.function
 glob:X.env.globals=mainGlobals
 blt:X.env.builtins=builtinsNs
 above:X.s₀.heap.objs.size<=X.env.locals
 inj:∀x y c,X.env.cells.lookup x=some c->X.env.cells.lookup y=some c->x=y
 has:∀x,(X.env.kindOf x=some .cell∨X.env.kindOf x=some .free)->∃c,X.env.cells.lookup x=some c
 cab:∀x c,X.fn x=true->X.env.cells.lookup x=some c->X.s₀.heap.objs.size<=c
 hd:X.calm=true->X.A.handled=none
 frames:X.A.frames=some X.stack
 stk:X.stack=X.outer∨(X.stack=X.env::X.outer/\X.env.frame=some X.env.locals)
 exf:∀b∈X.ex,b≠X.env.locals/\∀x c,X.env.cells.lookup x=some c->c≠b
 bs:∀b o,X.base.get? b=some o->X.s₀.heap.get? b=some o/\X.H₀ b=none
 bsz:X.base.objs.size<=X.s₀.heap.objs.size
 noex:∀b o,X.base.get? b=some o->b∉X.ex
 exfs:∀b∈X.ex,b∉X.fs
 funs:X.s₀.heap.FunFrames X.base X.outer
 frf:∀b∈X.fs,X.H₀ b=none
structure Inv(X:Cx)(pins:List (Addr×Obj))(σ:List (Option V))(H:Hp)(s:Shared):Prop where
 ok:X.Ok
 os:s.os=X.s₀.os
 bare:AllBare s.gens
 base:Un X.fs X.ex X.H₀ H X.s₀.heap s.heap
 loc:∃m,s.heap.Ns X.env.locals m/\∀(i:Nat) (x:Str) (v:V),X.N[i]?=some x->σ[i]?=some (some v)->Vis X.env.scope x->∃u,RelV v u/\gD X.env s.heap m x u
 cell:∀x c,X.env.cells.lookup x=some c->∃v,s.heap.IsCell c v
 free:H X.env.locals=none
 freeC:∀x c,X.env.cells.lookup x=some c->H c=none
 pin:∀p∈X.pn++pins,s.heap.get? p.1=some p.2/\H p.1=none/\p.1≠X.env.locals/\p.1∉X.fs/\∀v,p.2.data≠.cell v
 hok:HOk X.prog X.w H s.heap
 len:σ.length=X.N.length
section
variable{X:Cx}{pins:List (Addr×Obj)}{σ:List (Option V)}{H H':Hp}{s:Shared}{h':Heap}
def Cx.Ok.nofr(ok:X.Ok){b:Addr}{o:Obj}(e:X.base.get? b=some o):b∉X.fs:=λhb=>by
 have:=(ok.funs.mem hb).1;rw[e]at this;cases this
theorem Inv.bs(I:83):∀b o,X.base.get? b=some o->s.heap.get? b=some o/\H b=none:=λb o e=>
 ⟨I.base.keep b o (I.ok.bs b o e).1 (I.ok.bs b o e).2 (I.ok.nofr e) (I.ok.noex b o e),I.base.free b o (I.ok.bs b o e).1 (I.ok.bs b o e).2 (I.ok.noex b o e)⟩
def Inv.bk(I:83):∀b o,X.base.get? b=some o->s.heap.get? b=some o:=λb o e=>(I.bs b o e).1
theorem Inv.mod(I:83):Mod X.K X.mg X.base:=I.ok.mod
def Inv.kIn(I:83):X.K.In s.heap:=I.ok.mod.kin.keeps I.bk
theorem Inv.lt(I:83):X.env.locals<s.heap.objs.size:=let ⟨_,hn,_⟩:=I.loc;hn.lt
def Inv.sz(I:83):X.s₀.heap.objs.size<=s.heap.objs.size:=jo I.ok.above (ja I.lt)
def Inv.nofs(I:83){a:Addr}(h:67<=a):a∉X.fs:=λhb=>by
 obtain⟨_,o,ho,_⟩:=I.ok.funs.mem hb;exact absurd (j3 (78 ho) (jo I.sz h)) (jw _)
def Inv.cne(I:83):∀x c,X.env.cells.lookup x=some c->c≠X.env.locals:=λx c e z=>by
 obtain⟨v,o,ho,hd⟩:=I.cell x c e;obtain⟨m,⟨o',es,ep,ho',hd',_⟩,_⟩:=I.loc;rw[z,ho']at ho;cases ho;rw[hd']at hd;cases hd
theorem Inv.funs(I:83):s.heap.FunFrames X.base X.outer:=by
 have all:∀(l:List Env),(∀b∈frs l,b∈X.fs)->X.s₀.heap.FunFrames X.base l->s.heap.FunFrames X.base l:=by
  intro l
  induction l with
  |nil=>intro _ _;trivial
  |cons env r ih=>
   intro hs hl;obtain⟨hk,⟨L,o,hf,hn,ho,hd⟩,hr⟩:=hl;have hL:L∈X.fs:=hs L (by unfold frs;rw[jJ,hf];exact jg);obtain⟨sl,e⟩:=I.base.slot L o ho (I.ok.frf L hL) hL λz=>I.ok.exfs L z hL;exact⟨hk,⟨L,_,hf,hn,e,hd⟩,ih (λb hb=>hs b (by unfold frs;rw[jJ,hf];exact j4 _ hb)) hr⟩
 exact all X.outer (λ_ hb=>hb) I.ok.funs
theorem Inv.stack(I:83):s.heap.FunFrames X.base X.stack:=by
 rcases I.ok.stk with e|⟨e,hf⟩
 .rw[e];exact I.funs
 .rw[e];obtain⟨m,hn,_⟩:=I.loc;refine .cons (by rw[I.ok.kind];decide) hf hn ?_ I.funs;exact Heap.get?_none_of_le (jo I.ok.bsz I.ok.above)
def Inv.stkSub(I:83):∀b∈frs X.stack,b∈X.env.locals::X.fs:=λb hb=>by
 rcases I.ok.stk with e|⟨e,hf⟩
 .rw[e]at hb;exact j4 _ hb
 .rw[e]at hb;unfold frs at hb;rw[jJ,hf]at hb;exact hb
def Inv.stkFree(I:83):∀b∈frs X.stack,H b=none:=λb hb=>by
 rcases mem_cons.mp (I.stkSub b hb)with e|hb
 .rw[e];exact I.free
 .obtain⟨_,o,ho,_⟩:=I.ok.funs.mem hb;exact I.base.free b o ho (I.ok.frf b hb) λz=>I.ok.exfs b z hb
def Inv.step{g':Array GenState}{t':Nat}{d':Drawn}{ch:List Addr}(I:83)
 (hch:∀b∈ch,(b∈X.ex∨X.s₀.heap.objs.size<=b)/\b≠X.env.locals/\(∀x c,X.env.cells.lookup x=some c->c≠b)/\∀p∈X.pn++pins,p.1≠b)
 (keep:∀b o,b≠X.env.locals->b∉X.fs->b∉ch->s.heap.get? b=some o->H b=none->h'.get? b=some o)
 (slot:∀b o,b≠X.env.locals->b∈X.fs->b∉ch->s.heap.get? b=some o->H b=none->∃sl,h'.get? b=some { o with slots:=sl }) (free:∀b o,b∉ch->s.heap.get? b=some o->H b=none->H' b=none)
 (there:∀b o,b∉ch->s.heap.get? b=some o->∃o',h'.get? b=some o')
 (tups:∀b xs,H b=some (.tup xs)->H' b=some (.tup xs)) (frzs:∀b o u,H b=some (.frz o u)->H' b=some (.frz o u)) (tbls:∀b ps,H b=some (.tbl ps)->∃more,H' b=some (.tbl (ps++more)))
 (ns:∀m,s.heap.Ns X.env.locals m->h'.Ns X.env.locals m) (hok:HOk X.prog X.w H' h') (hg:AllBare g'):
 Inv X pins σ H' { s with heap:=h',gens:=g',drawn:=d',toks:=t' }:=by
 have neL:∀b o,X.s₀.heap.get? b=some o->b≠X.env.locals:=λb o e=>iW (j3 (78 e) I.ok.above);have neC:∀b o,X.s₀.heap.get? b=some o->b∉X.ex->b∉ch:=λb o e hx hb=>by
  rcases(hch b hb).1 with z|z
  .exact hx z
  .exact absurd (j3 (78 e) z) (jw _)
 have cellK:∀x c,X.env.cells.lookup x=some c->∀v,s.heap.IsCell c v->h'.IsCell c v:=λx c e v ⟨o,ho,hd⟩=>by
  have nch:c∉ch:=λz=>(hch c z).2.2.1 x c e rfl;by_cases hc:c∈X.fs
  .obtain⟨sl,q⟩:=slot c o (I.cne x c e) hc nch ho (I.freeC x c e);exact⟨_,q,hd⟩
  .exact⟨o,keep c o (I.cne x c e) hc nch ho (I.freeC x c e),hd⟩
 refine⟨I.ok,I.os,hg,⟨λb o e n hb hx=>?_,λb o e n hb hx=>?_,λb o e n hx=>?_,λb o e hx=>?_,λb xs e=>tups b xs (I.base.tups b xs e),λb o xs e=>frzs b o xs (I.base.frzs b o xs e),λb ps e=>?_⟩,?_,λx c e=>?_,?_,λx c e=>?_,λp hp=>?_,hok,I.len⟩
 .exact keep b o (neL b o e) hb (neC b o e hx) (I.base.keep b o e n hb hx) (I.base.free b o e n hx)
 .obtain⟨sl,e1⟩:=I.base.slot b o e n hb hx;obtain⟨sl',e2⟩:=slot b _ (neL b o e) hb (neC b o e hx) e1 (I.base.free b o e n hx);exact⟨sl',e2⟩
 .obtain⟨o',e1⟩:=I.base.there b o e hx;exact free b o' (neC b o e hx) e1 (I.base.free b o e n hx)
 .obtain⟨o',e1⟩:=I.base.there b o e hx;exact there b o' (neC b o e hx) e1
 .obtain⟨m1,e1⟩:=I.base.tbls b ps e;obtain⟨m2,e2⟩:=tbls b _ e1;exact⟨m1++m2,by rw[e2,Array.append_assoc]⟩
 .obtain⟨m,hn,hl⟩:=I.loc;refine⟨m,ns m hn,λi x v e1 e2 e3=>?_⟩;obtain⟨u,r,l⟩:=hl i x v e1 e2 e3;refine⟨u,r,?_⟩;rcases l with l|⟨k,c,e,z⟩
  .exact .inl l
  .exact .inr ⟨k,c,e,cellK x c e _ z⟩
 .obtain⟨v,z⟩:=I.cell x c e;exact⟨v,cellK x c e v z⟩
 .obtain⟨m,⟨o,_,_,ho,_⟩,_⟩:=I.loc;exact free _ o (λz=>(hch _ z).2.1 rfl) ho I.free
 .obtain⟨v,o,ho,hd⟩:=I.cell x c e;exact free c o (λz=>(hch c z).2.2.1 x c e rfl) ho (I.freeC x c e)
 .obtain⟨e,n,ne,nf,d⟩:=I.pin p hp;have nch:p.1∉ch:=λz=>(hch p.1 z).2.2.2 p hp rfl;exact⟨keep p.1 p.2 ne nf nch e n,free p.1 p.2 nch e n,ne,nf,d⟩
def Inv.un{t':Nat}(I:83)(u:Un X.fs [] H H' s.heap h')(hok:HOk X.prog X.w H' h'):Inv X pins σ H' { s with heap:=h',toks:=t' }:=by
 obtain⟨m,⟨o,es,ep,ho,r⟩,_⟩:=id I.loc;obtain⟨sl,hL⟩:=u.any ho I.free 70;exact I.step (g':=s.gens) (d':=s.drawn) (ch:=[]) (λ_ z=>nomatch z) (λb o _ hb _ e n=>u.keep b o e n hb 70) (λb o _ hb _ e n=>u.slot b o e n hb 70) (λb o _ e n=>u.free b o e n 70) (λb o _ e=>u.there b o e 70) u.tups u.frzs u.tbls (λm' hm=>by
  obtain⟨o',es',ep',ho',r'⟩:=hm;rw[ho]at ho';cases ho';exact⟨_,es',ep',hL,r'⟩) hok I.bare
def Inv.call{g':Array GenState}{t':Nat}{d':Drawn}{ch:List Addr}(I:83)(u:Un (frs X.stack) ch H H' s.heap h')(hok:HOk X.prog X.w H' h')(hg:AllBare g')
 (hch:∀b∈ch,(b∈X.ex∨X.s₀.heap.objs.size<=b)/\b≠X.env.locals/\(∀x c,X.env.cells.lookup x=some c->c≠b)/\∀p∈X.pn++pins,p.1≠b):
 Inv X pins σ H' { s with heap:=h',gens:=g',drawn:=d',toks:=t' }:=by
 obtain⟨m,⟨o,es,ep,ho,r⟩,_⟩:=id I.loc;obtain⟨sl,hL⟩:=u.any ho I.free λz=>(hch _ z).2.1 rfl;exact I.step (ch:=ch) hch (λb o hL hb hc e n=>u.keep b o e n (λz=>(mem_cons.mp (I.stkSub b z)).elim hL hb) hc) (λb o _ _ hc e n=>u.any e n hc) (λb o hc e n=>u.free b o e n hc) (λb o hc e=>u.there b o e hc) u.tups u.frzs u.tbls (λm' hm=>by
  obtain⟨o',es',ep',ho',r'⟩:=hm;rw[ho]at ho';cases ho';exact⟨_,es',ep',hL,r'⟩) hok hg
def Inv.turned{t':Nat}{it:Addr}(I:83)(k:∀b o,b≠it->s.heap.get? b=some o->h'.get? b=some o)(hn:H it=none)(hL:it≠X.env.locals)
 (h1:it∈X.ex∨X.s₀.heap.objs.size<=it) (h2:∀x c,X.env.cells.lookup x=some c->c≠it) (h3:∀p∈X.pn++pins,p.1≠it):Inv X pins σ H { s with heap:=h',toks:=t' }:=by
 have nit:∀b u,H b=some u->b≠it:=λb u e z=>by rw[z,hn]at e;cases e
 refine I.step (g':=s.gens) (d':=s.drawn) (ch:=[it]) (λb hb=>?_) (λb o _ _ hc e _=>k b o (λz=>hc (by simp[z])) e) (λb o _ _ hc e _=>⟨o.slots,k b o (λz=>hc (by simp[z])) e⟩) (λ_ _ _ _ n=>n)
  (λb o hc e=>⟨o,k b o (λz=>hc (by simp[z])) e⟩) (λ_ _ e=>e) (λ_ _ _ e=>e) (λb ps e=>⟨#[],by rw[e];simp⟩) (λm hm=>?_) (λb u e=>?_) I.bare
 .have e:b=it:=by simpa using hb
  subst e;exact⟨h1,hL,h2,h3⟩
 .obtain⟨o,es,ep,ho,r⟩:=hm;exact⟨o,es,ep,k _ o (Ne.symm hL) ho,r⟩
 .refine(I.hok b u e).stay (λc v hc q=>k c v ?_ q) (λ_ q=>q) λ_ _ q=>q;rcases hc with z|z
  .rw[z];exact nit b u e
  .exact nit c _ z
def Inv.tok(I:83)(t:Nat):Inv X pins σ H { s with toks:=t }:=I.un (h':=s.heap) (t':=t) Un.refl I.hok
theorem Inv.kept{t':Nat}(I:83)(k:∀b u,s.heap.get? b=some u->h'.get? b=some u):Inv X pins σ H { s with heap:=h',toks:=t' }:=I.un (Un.kept k) (I.hok.kept k)
theorem Inv.laid{a:Addr}{o:HO}{t':Nat}(I:83)(k:∀b u,s.heap.get? b=some u->h'.get? b=some u)(hp:67<=a)(new:ObjOk X.prog X.w (upd H a o) h' a o):
 Inv X pins σ (upd H a o) { s with heap:=h',toks:=t' }:=I.un (Un.laid k hp (I.hok.fresh hp)) (I.hok.laid k hp new)
theorem Inv.write{x e:Addr}{o:HO}{t':Nat}(I:83)(mu:Mut (H x))(he:e=x∨H e=some (.own x))(k:∀b u,b≠e->s.heap.get? b=some u->h'.get? b=some u)(heo:∃u,h'.get? e=some u)
 (new:ObjOk X.prog X.w (upd H x o) h' x o):Inv X pins σ (upd H x o) { s with heap:=h',toks:=t' }:=I.un (Un.write mu he k heo) (I.hok.write mu he k heo new)
def Inv.pins_of{pins':List (Addr×Obj)}(I:83)(h:∀p∈pins',s.heap.get? p.1=some p.2/\H p.1=none/\p.1≠X.env.locals/\p.1∉X.fs/\∀v,p.2.data≠.cell v):Inv X pins' σ H s:=
 ⟨I.ok,I.os,I.bare,I.base,I.loc,I.cell,I.free,I.freeC,λp hp=>(mem_append.mp hp).elim (λz=>I.pin p (jK _ z)) (h p),I.hok,I.len⟩
def Mx{N:List Str}(hN:N.Nodup){i j:Nat}{x:Str}(a:N[i]?=some x)(b:N[j]?=some x):i=j:=by
 obtain⟨h1,e1⟩:=72 a;obtain⟨h2,e2⟩:=72 b;exact(List.getElem_inj hN).mp (e1.trans e2.symm)
def HH{M:Model}{A:Around}{E:77}{i:Nat}{x:Str}{v:V}{u:Value}{Q:Unit->Shared->Prop}(I:83)(hN:X.N.Nodup)(hi:X.N[i]?=some x)(hx:Loc X.env.scope x)(r:RelV v u)
 (h:∀s',Inv X pins (σ.set i (some v)) H s'->(∃a,Heap.SameBut a s.heap s'.heap/\(a=X.env.locals∨X.env.cells.lookup x=some a))->Q () s') (hf:X.fn x=true∨X.env.scope.names.lookup x=some .local:=by first|exact .inl rfl|exact .inr rfl|assumption):wpAny M A (storeName X.env x u) Q E s:=by
 obtain⟨m,hn,hl⟩:=id I.loc;have hcls:(X.env.scope.kind==.class||(X.env.scope.kind==.module&&X.env.locals != X.env.globals))=false:=by rw[I.ok.kind];rfl
 have hiσ:i<σ.length:=by rw[I.len];exact(72 hi).1
 have cne:=I.cne;have tracked:∀{a:Addr} {h':Heap},(∃o,s.heap.get? a=some o/\H a=none)->Heap.SameBut a s.heap h'->HOk X.prog X.w H h':=λ{a h'} ha hs b ob e=>by
  obtain⟨_,_,hfree⟩:=ha;refine(I.hok b ob e).stay (λc w' hc q=>(hs.2 c ?_).trans q) (λ_ q=>q) λ_ _ q=>q;rintro rfl;rcases hc with rfl|hc
  .rw[hfree]at e;cases e
  .rw[hfree]at hc;cases hc
 rcases hx with hk|hk
 .refine wpAny_storeName_local hk hn (λh' hn' hs=>?_) hcls;obtain⟨oL,_,_,hoL,_⟩:=id hn;refine h _ ⟨I.ok,I.os,I.bare,⟨λb o e n hb hx=>?_,λb o e n hb hx=>?_,I.base.free,λb o e hx=>?_,I.base.tups,I.base.frzs,I.base.tbls⟩,⟨_,hn',λj y v' e1 e2 e3=>?_⟩,λy c e=>?_,I.free,I.freeC,λp hp=>?_,tracked ⟨oL,hoL,I.free⟩ hs,by simpa using I.len⟩ ⟨_,hs,.inl rfl⟩
  .exact(hs.2 b (iW (j3 (78 e) I.ok.above))).trans (I.base.keep b o e n hb hx)
  .obtain⟨sl,e1⟩:=I.base.slot b o e n hb hx;exact⟨sl,(hs.2 b (iW (j3 (78 e) I.ok.above))).trans e1⟩
  .obtain⟨o',e1⟩:=I.base.there b o e hx;exact⟨o',(hs.2 b (iW (j3 (78 e) I.ok.above))).trans e1⟩
  .by_cases hj:j=i
   .subst hj;rw[hi]at e1;cases e1;rw[List.getElem?_set_self hiσ]at e2;cases e2;exact⟨u,r,.inl ⟨hk,by simp⟩⟩
   .rw[List.getElem?_set_ne (Ne.symm hj)]at e2;obtain⟨u',r',q⟩:=hl j y v' e1 e2 e3;refine⟨u',r',?_⟩;rcases q with⟨k,e⟩|⟨k,c,e,z⟩
    .refine .inl ⟨k,?_⟩;have:y≠x:=λe=>hj (Mx hN e1 (e ▸ hi));simp[this,e]
    .exact .inr ⟨k,c,e,z.sameBut hs (cne y c e)⟩
  .obtain⟨w',z⟩:=I.cell y c e;exact⟨w',z.sameBut hs (cne y c e)⟩
  .obtain⟨e,n,ne,nf,d⟩:=I.pin p hp;exact⟨(hs.2 p.1 ne).trans e,n,ne,nf,d⟩
 .have hfn:X.fn x=true:=by
   rcases hf with z|z
   .exact z
   .rw[z]at hk;cases hk
  obtain⟨c,hc⟩:=I.ok.has x (.inl hk);obtain⟨w',z⟩:=I.cell x c hc;refine wpAny_storeName_cell I.ok.kind hk hc z (λh' hc' hs=>?_);obtain⟨oc,hoc,hocd⟩:=id z;refine h { s with heap:=h' } ⟨I.ok,I.os,I.bare,⟨λb o e n hb hx=>?_,λb o e n hb hx=>?_,I.base.free,λb o e hx=>?_,I.base.tups,I.base.frzs,I.base.tbls⟩,⟨m,hn.sameBut hs (Ne.symm (cne x c hc)),λj y v' e1 e2 e3=>?_⟩,λy c' e=>?_,I.free,I.freeC,λp hp=>?_,tracked ⟨oc,hoc,I.freeC x c hc⟩ hs,by simpa using I.len⟩ ⟨c,hs,.inr hc⟩
  .exact(hs.2 b (iW (j3 (78 e) (I.ok.cab x c hfn hc)))).trans (I.base.keep b o e n hb hx)
  .obtain⟨sl,e1⟩:=I.base.slot b o e n hb hx;exact⟨sl,(hs.2 b (iW (j3 (78 e) (I.ok.cab x c hfn hc)))).trans e1⟩
  .obtain⟨o',e1⟩:=I.base.there b o e hx;exact⟨o',(hs.2 b (iW (j3 (78 e) (I.ok.cab x c hfn hc)))).trans e1⟩
  .by_cases hj:j=i
   .subst hj;rw[hi]at e1;cases e1;rw[List.getElem?_set_self hiσ]at e2;cases e2;exact⟨u,r,.inr ⟨.inl hk,c,hc,hc'⟩⟩
   .rw[List.getElem?_set_ne (Ne.symm hj)]at e2;obtain⟨u',r',q⟩:=hl j y v' e1 e2 e3;refine⟨u',r',?_⟩;rcases q with q|⟨k,c',e,z'⟩
    .exact .inl q
    .refine .inr ⟨k,c',e,z'.sameBut hs ?_⟩;rintro rfl;exact hj (Mx hN e1 (I.ok.inj _ _ _ e hc ▸ hi))
  .by_cases hcc:c'=c
   .subst hcc;exact⟨_,hc'⟩
   .obtain⟨w2,z2⟩:=I.cell y c' e;exact⟨w2,z2.sameBut hs hcc⟩
  .obtain⟨e,n,ne,nf,d⟩:=I.pin p hp;refine⟨(hs.2 p.1 ?_).trans e,n,ne,nf,d⟩;intro q;rw[q,hoc]at e;have q':oc=p.2:=Option.some.inj e;exact d w' (by rw[<- q'];exact hocd)
def Cm{M:Model}{A:Around}{E:77}{i:Nat}{x:Str}{v:V}{u:Value}{Q:Unit->Shared->Prop}(I:83)(hN:X.N.Nodup)(hi:X.N[i]?=some x)(hx:Loc X.env.scope x)(r:RelV v u)
 (h:∀s',Inv X pins (σ.set i (some v)) H s'->Q () s') (hf:X.fn x=true∨X.env.scope.names.lookup x=some .local:=by first|exact .inl rfl|exact .inr rfl|assumption):wpAny M A (storeName X.env x u) Q E s:=
 HH I hN hi hx r (λs' I' _=>h s' I') hf
def Inv.call'{s':Shared}{ch:List Addr}(I:83)(ho:s'.os=s.os)(u:Un (frs X.stack) ch H H' s.heap s'.heap)(hok:HOk X.prog X.w H' s'.heap)(hg:AllBare s'.gens)
 (hch:∀b∈ch,(b∈X.ex∨X.s₀.heap.objs.size<=b)/\b≠X.env.locals/\(∀x c,X.env.cells.lookup x=some c->c≠b)/\∀p∈X.pn++pins,p.1≠b):Inv X pins σ H' s':=by
 obtain⟨h',g',d',t',o'⟩:=s';have e:o'=s.os:=ho;subst e;exact I.call (g':=g') (t':=t') (d':=d') u hok hg hch
end
noncomputable abbrev XK:=Value->Option Addr->Hp->Prop
noncomputable abbrev St:=List (Option V)
noncomputable abbrev VK:=V->Hp->Prop
noncomputable abbrev TE:=St->Hp->VK->Prop
noncomputable abbrev TT:=St->Hp->(Bool->Hp->Prop)->Prop
noncomputable abbrev TA:=St->Hp->(List V->Hp->Prop)->Prop
structure Ends where
 nx:St->Hp->Prop
 rt:VK
 bk:St->Hp->Prop:=λ_ _=>False
 ct:St->Hp->Prop:=λ_ _=>False
noncomputable abbrev TS:=Ends->St->Hp->Prop
def EP(X:Cx)(pins:List (Addr×Obj))(σ:St)(Q:VK)(u:Value)(s':Shared):Prop:=∃v H',Inv X pins σ H' s'/\RelV v u/\Q v H'
def TP(X:Cx)(pins:List (Addr×Obj))(σ:St)(Q:Bool->Hp->Prop)(b:Bool)(s':Shared):Prop:=∃H',Inv X pins σ H' s'/\Q b H'
def AP(X:Cx)(pins:List (Addr×Obj))(σ:St)(Q:List V->Hp->Prop)(us:List Value)(s':Shared):Prop:=∃vs H',Inv X pins σ H' s'/\Vals vs us/\Q vs H'
def SP(X:Cx)(pins:List (Addr×Obj))(D:Ends)(f:Flow)(s':Shared):Prop:=
 match f with
 |.next=>∃σ' H',Inv X pins σ' H' s'/\D.nx σ' H'
 |.brk=>∃σ' H',Inv X pins σ' H' s'/\D.bk σ' H'
 |.cont=>∃σ' H',Inv X pins σ' H' s'/\D.ct σ' H'
 |.ret u=>∃v σ' H',Inv X pins σ' H' s'/\RelV v u/\D.rt v H'
def PE(X:Cx)(e:Expr)(t:TE):Prop:=
 ∀(pins:List (Addr×Obj)) (s:Shared) (σ:St) (H:Hp) (Q:VK),Inv X pins σ H s->t σ H Q->wpAny 73 X.A (eval e X.env) (EP X pins σ Q) X.xe s
def PT(X:Cx)(e:Expr)(t:TT):Prop:=
 ∀(pins:List (Addr×Obj)) (s:Shared) (σ:St) (H:Hp) (Q:Bool->Hp->Prop),Inv X pins σ H s->t σ H Q->wpAny 73 X.A (isTrue e X.env (eval e X.env)) (TP X pins σ Q) X.xe s
def PW(X:Cx)(e:Expr)(t:TT):Prop:=
 ∀(whole:Sem Value) (pins:List (Addr×Obj)) (s:Shared) (σ:St) (H:Hp) (Q:Bool->Hp->Prop),Inv X pins σ H s->t σ H Q->wpAny 73 X.A (isTrue e X.env whole) (TP X pins σ Q) X.xe s
def PW.pt{X:Cx}{e:Expr}{t:TT}(h:PW X e t):PT X e t:=h _
def PA(X:Cx)(es:List Expr)(t:TA):Prop:=
 ∀(pos:Pos) (pins:List (Addr×Obj)) (s:Shared) (σ:St) (H:Hp) (Q:List V->Hp->Prop),Inv X pins σ H s->t σ H Q->wpAny 73 X.A (spliced (backTo pos (starEach es X.env))) (AP X pins σ Q) X.xe s
def PS(X:Cx)(st:Stmt)(t:TS):Prop:=
 ∀(pins:List (Addr×Obj)) (s:Shared) (σ:St) (H:Hp) (D:Ends),Inv X pins σ H s->t D σ H->wpAny 73 X.A (exec st X.env) (SP X pins D) X.xe s
def PSs(X:Cx)(st:List Stmt)(t:TS):Prop:=
 ∀(pins:List (Addr×Obj)) (s:Shared) (σ:St) (H:Hp) (D:Ends),Inv X pins σ H s->t D σ H->wpAny 73 X.A (execs st X.env) (SP X pins D) X.xe s
def thn{α:Type}{t:Sem α}{Q Q':α->Shared->Prop}{M:Model}{A:Around}{E:77}{s:Shared}(h:wpAny M A t Q E s)(hQ:∀a s,Q a s->Q' a s):wpAny M A t Q' E s:=j0 h hQ λ_ _ x=>x
section
variable{X:Cx}
noncomputable def Ts(i:Nat):TE:=λσ H Q=>∃v,σ[i]?=some (some v)/\Q v H
noncomputable def tC(v:V):TE:=λ_ H Q=>Q v H
def bU{i:Nat}{x:Str}{pos:Pos}(hN:X.N[i]?=some x)(hv:Vis X.env.scope x)(hd:(x==("__debug__":Str))=false:=by decide)(hcd:(x==("__classdict__":Str))=false:=by decide):PE X (.Name x pos) (Ts i):=by
 intro pins s σ H Q I h;obtain⟨v,e,h⟩:=h;obtain⟨m,hn,hl⟩:=I.loc;obtain⟨u,r,l⟩:=hl i x v hN e hv;have fin:EP X pins σ Q u s:=⟨v,H,I,r,h⟩
 rcases l with⟨hk,hm⟩|⟨hk,c,hc,hcell⟩
 .exact wpAny_Name (wpAny_loadName_local I.ok.kind hk hn hm fin) hd
 .rcases hk with hk|hk
  .exact wpAny_Name (wpAny_loadName_cell I.ok.kind hk hc hcell fin) hd
  .exact wpAny_Name (wpAny_loadName_free I.ok.kind hk hc hcell fin hcd) hd
def bf{i j pos}:PE X (.Constant (.int i) j pos) (tC (.int i)):=λ_ _ _ H _ I h=>wpAny_Constant_int ⟨.int i,H,I.tok _,⟨_,rfl⟩,h⟩
def eU{b j pos}:PE X (.Constant (.bool b) j pos) (tC (.bl b)):=λ_ _ _ H _ I h=>Constant_bool ⟨.bl b,H,I,rfl,h⟩
def bZ{j pos}:PE X (.Constant .none j pos) (tC .non):=λ_ _ _ H _ I h=>Constant_none ⟨.non,H,I,rfl,h⟩
def bW{x j pos}:PE X (.Constant (.str x) j pos) (tC (.str x)):=λ_ _ _ H _ I h=>Calls.Constant_str ⟨.str x,H,I.tok _,⟨_,rfl⟩,h⟩
def Gl(X:Cx)(x:Str):Prop:=X.env.kindOf x=some .globalImplicit
def Yu{E:77}{pins:List (Addr×Obj)}{s:Shared}{σ:St}{H:Hp}{x:Str}{u:Value}{pos:Pos}{Q:77}(I:83)(hg:Gl X x)(hm:X.mg x=some u)(h:Q u s)
 (hd:(x==("__debug__":Str))=false:=by decide):wpAny 73 X.A (eval (.Name x pos) X.env) Q E s:=
 Calls.Name_function_global I.ok.kind hg (Calls.loadGlobal_global (by rw[I.ok.glob];exact I.mod.glob.keeps I.bk) hm h) hd
def Dg{E:77}{pins:List (Addr×Obj)}{s:Shared}{σ:St}{H:Hp}{x:Str}{u:Value}{pos:Pos}{Q:77}(I:83)(hg:Gl X x)(hm:X.mg x=none)(hv:bootBuiltins x=some u)(h:Q u s)
 (hn:x≠"__name__":=by decide) (hd:(x==("__debug__":Str))=false:=by decide):wpAny 73 X.A (eval (.Name x pos) X.env) Q E s:=by
 obtain⟨mb,h1,h2⟩:=I.mod.blt;exact Calls.Name_function_global I.ok.kind hg (Calls.loadGlobal_builtin (by rw[I.ok.glob];exact I.mod.glob.keeps I.bk) hm (by rw[I.ok.blt];exact h1.keeps I.bk) ((h2 x hn).trans hv) h) hd
variable{a b:Expr}{ta tb:TE}{pos:Pos}
def PC(X:Cx)(op:CmpOp)(a b:Expr)(t:TE):Prop:=
 ∀(pins:List (Addr×Obj)) (s:Shared) (σ:St) (H:Hp) (Q:VK),Inv X pins σ H s->t σ H Q ->
   wpAny 73 X.A (eval a X.env) (λv s₁=>wpAny 73 X.A (eval b X.env) (λu s₂=>wpAny 73 X.A (compareOp op v u) (EP X pins σ Q) X.xe s₂) X.xe s₁) X.xe s
def VC(b:Expr){op:CmpOp}(h:op≠.In)(h2:op≠.NotIn):behindInMarks op b=false:=by
 have e1:(op==CmpOp.In)=false:=by cases op<;>first|rfl|exact absurd rfl h
 have e2:(op==CmpOp.NotIn)=false:=by cases op<;>first|rfl|exact absurd rfl h2
 cases b<;>simp[behindInMarks,e1,e2]
noncomputable def U2(ta:TE):TE:=λσ H Q=>ta σ H λx H1=>Q (.bl (decide (x=.non))) H1
noncomputable def PV(ta:TE):TE:=λσ H Q=>ta σ H λx H1=>Q (.bl (!decide (x=.non))) H1
def RelV.none_iff{x:V}{v:Value}(r:RelV x v):(v==Value.none)=decide (x=.non):=by
 cases x with
 |non=>cases r;rfl
 |bl _=>cases r;rfl
 |int _=>obtain⟨t,rfl⟩:=r;rfl
 |str _=>obtain⟨t,rfl⟩:=r;rfl
 |byt _=>obtain⟨t,rfl⟩:=r;rfl
 |flt _=>obtain⟨t,rfl⟩:=r;rfl
 |ref _=>cases r;rfl
 |ty _=>cases r;rfl
def bo{j pos'}(ha:PE X a ta):PC X .Is a (.Constant .none j pos') (U2 ta):=by
 intro pins s σ H Q I h;refine thn (ha pins s σ H _ I h) λv s1 ⟨x,H1,I1,r1,q1⟩=>?_;exact Constant_none (is_none_gen ⟨.bl _,H1,I1,by rw[r1.none_iff];rfl,q1⟩)
def YW{j pos'}(ha:PE X a ta):PC X .IsNot a (.Constant .none j pos') (PV ta):=by
 intro pins s σ H Q I h;refine thn (ha pins s σ H _ I h) λv s1 ⟨x,H1,I1,r1,q1⟩=>?_;exact Constant_none (isnot_none_gen ⟨.bl _,H1,I1,by rw[r1.none_iff];rfl,q1⟩)
noncomputable def tB(t:TE):TT:=λσ H Q=>t σ H λx H1=>∃c,x=.bl c/\Q c H1
def SJ{op:CmpOp}{t:TE}(h:PC X op a b t)(h1:behindInMarks op b=false:=by first|exact VC _ 80 80|rfl):PT X (.Compare a [op] [b] pos) (tB t):=by
 intro pins s σ H Q I hw;refine wpAny_isTrue_Compare1 (thn (h pins s σ H _ I hw) λv s1 h1=>thn h1 λu s2 h2=>thn h2 λc s3 ⟨x,H1,I1,r1,q1⟩=>?_) h1;obtain⟨d,rfl,q⟩:=q1;cases r1;exact kj ⟨H1,I1,q⟩
variable{tA tB':TT}{rest:List Expr}
noncomputable def U7(t u:TT):TT:=λσ H Q=>t σ H λc H1=>if c=true then u σ H1 Q else Q false H1
noncomputable def tOr(t u:TT):TT:=λσ H Q=>t σ H λc H1=>if c=true then Q true H1 else u σ H1 Q
noncomputable def Tz(t:TT):TT:=λσ H Q=>t σ H λc H1=>Q (!c) H1
def Y9(ha:PT X a tA):PW X (.BoolOp .And [a] pos) tA:=by
 intro wh pins s σ H Q I h;refine isTrue_and (thn (ha pins s σ H Q I h) λc s1 e=>?_);cases c with
 |true=>exact isTrue_and_nil e
 |false=>exact e
def bA(ha:PT X a tA):PW X (.BoolOp .Or [a] pos) tA:=by
 intro wh pins s σ H Q I h;refine isTrue_or (thn (ha pins s σ H Q I h) λc s1 e=>?_);cases c with
 |false=>exact isTrue_or_nil e
 |true=>exact e
def bC(ha:PT X a tA)(hb:PW X (.BoolOp .And (b::rest) pos) tB'):PW X (.BoolOp .And (a::b::rest) pos) (U7 tA tB'):=by
 intro wh pins s σ H Q I h;refine isTrue_and (thn (ha pins s σ H _ I h) λc s1 ⟨H1,I1,q1⟩=>?_);cases c with
 |true=>exact hb wh pins s1 σ H1 Q I1 q1
 |false=>exact⟨H1,I1,q1⟩
def eM(ha:PT X a tA)(hb:PW X (.BoolOp .Or (b::rest) pos) tB'):PW X (.BoolOp .Or (a::b::rest) pos) (tOr tA tB'):=by
 intro wh pins s σ H Q I h;refine isTrue_or (thn (ha pins s σ H _ I h) λc s1 ⟨H1,I1,q1⟩=>?_);cases c with
 |true=>exact⟨H1,I1,q1⟩
 |false=>exact hb wh pins s1 σ H1 Q I1 q1
def bG(ha:PT X a tA):PT X (.UnaryOp .Not a pos) (Tz tA):=by
 intro pins s σ H Q I h;exact isTrue_not (ha pins s σ H (λc H1=>Q (!c) H1) I h)
noncomputable def PZ(ta tb:TE):TE:=λσ H Q=>ta σ H λx H1=>∃c,x=.bl c/\if c=true then tb σ H1 Q else Q (.bl false) H1
noncomputable def PU(ta:TE):TE:=λσ H Q=>ta σ H λx H1=>∃c,x=.bl c/\Q (.bl (!c)) H1
def bX{op}{t:TE}(h:PE X a t):PE X (.BoolOp op [a] pos) t:=λpins s σ H Q I hw=>BoolOp_one (h pins s σ H Q I hw)
def bn(ha:PE X a ta)(hb:PE X (.BoolOp .And (b::rest) pos) tb):PE X (.BoolOp .And (a::b::rest) pos) (PZ ta tb):=by
 intro pins s σ H Q I h;refine BoolOp_and (thn (ha pins s σ H _ I h) λv s1 ⟨x,H1,I1,r1,q1⟩=>?_);obtain⟨c,rfl,q1⟩:=q1;cases r1;refine kj ?_;cases c with
 |true=>exact hb pins s1 σ H1 Q I1 q1
 |false=>exact⟨.bl false,H1,I1,rfl,q1⟩
def bY(ha:PE X a ta):PE X (.UnaryOp .Not a pos) (PU ta):=by
 intro pins s σ H Q I h;refine UnaryOp_ (thn (ha pins s σ H _ I h) λv s1 ⟨x,H1,I1,r1,q1⟩=>?_);obtain⟨c,rfl,q1⟩:=q1;cases r1;exact not_of (kj ⟨.bl (!c),H1,I1,rfl,q1⟩)
noncomputable def tIf(t:TT)(ta tb:TE):TE:=λσ H Q=>t σ H λc H1=>if c=true then ta σ H1 Q else tb σ H1 Q
def V7{c:Expr}(hc:PT X c tA)(ha:PE X a ta)(hb:PE X b tb):PE X (.IfExp c a b pos) (tIf tA ta tb):=by
 intro pins s σ H Q I h;refine wpAny_IfExp (thn (hc pins s σ H _ I h) λd s1 ⟨H1,I1,q1⟩=>?_);cases d with
 |true=>exact ha pins s1 σ H1 Q I1 q1
 |false=>exact hb pins s1 σ H1 Q I1 q1
end
def SqL(K:Frag)(H:Hp)(a:Addr)(xs:List V):Prop:=
 Rd H a (.lst xs) ∨
  ∃(o:Obj) (its:Array Value) (n:Nat),K.lookup a=some o/\o.cls=.type "list"/\o.dict=none/\o.data=.seq its n/\its.size<=sizeLine/\Vals xs its.toList
def SqT(K:Frag)(H:Hp)(a:Addr)(xs:List V):Prop:=
 Rd H a (.tup xs) ∨
  ∃(o:Obj) (its:Array Value) (n:Nat),K.lookup a=some o/\o.cls=.type "tuple"/\o.dict=none/\o.data=.seq its n/\its.size<=sizeLine/\Vals xs its.toList
noncomputable def gB:Value->Option V
 |.none=>some .non
 |.bool b=>some (.bl b)
 |.int i _=>some (.int i)
 |.str x _=>some (.str x)
 |.bytes b _=>some (.byt b)
 |.float b _=>some (.flt b)
 |.ref a=>some (.ref a)
 |.type n=>some (.ty n)
 |_=>none
def RelV.abs{x:V}{u:Value}(r:RelV x u):gB u=some x:=by
 cases x with
 |non=>cases r;rfl
 |bl _=>cases r;rfl
 |int _=>obtain⟨t,rfl⟩:=r;rfl
 |str _=>obtain⟨t,rfl⟩:=r;rfl
 |byt _=>obtain⟨t,rfl⟩:=r;rfl
 |flt _=>obtain⟨t,rfl⟩:=r;rfl
 |ref _=>cases r;rfl
 |ty _=>cases r;rfl
theorem RelV.inj{x y:V}{u:Value}(r:RelV x u)(q:RelV y u):x=y:=Option.some.inj (r.abs.symm.trans q.abs)
theorem Vals.inj{xs ys:List V}{us:List Value}(h:Vals xs us)(g:Vals ys us):xs=ys:=by
 induction h generalizing ys with
 |nil=>cases g;rfl
 |cons r t ih=>cases g with|cons r' t'=>rw[r.inj r',ih t']
section
variable{X:Cx}{pins:List (Addr×Obj)}{σ:St}{H:Hp}{s:Shared}{a:Addr}{xs ys:List V}
def SqL.of{K:Frag}(h:H a=some (.lst xs)):SqL K H a xs:=.inl (.inl h)
def SqT.of{K:Frag}(h:H a=some (.tup xs)):SqT K H a xs:=.inl (.inl h)
def Inv.list(I:83)(h:SqL X.K H a xs):∃its:List Value,Vals xs its/\PlainL s.heap a its.toArray/\79<=sizeLine:=by
 rcases h with h|⟨o,its,n,hk,hc,hd,hs,hz,r⟩
 .obtain⟨z,its,n,r,e⟩:=h.ok I.hok;exact⟨its,r,⟨_,n,e,rfl,rfl,rfl⟩,z⟩
 .refine⟨its.toList,r,⟨o,n,I.kIn a o hk,hc,hd,by simpa using hs⟩,?_⟩;have e:=r.length;simp only[Array.length_toList]at e;omega
def Inv.tuple(I:83)(h:SqT X.K H a xs):∃its:List Value,Vals xs its/\IsTup s.heap a its.toArray/\79<=sizeLine:=by
 rcases h with h|⟨o,its,n,hk,hc,_,hs,hz,r⟩
 .obtain⟨z,its,r,p⟩:=h.ok I.hok;exact⟨its,r,p.t,z⟩
 .refine⟨its.toList,r,⟨o,I.kIn a o hk,hc,n,by simpa using hs⟩,?_⟩;have e:=r.length;simp only[Array.length_toList]at e;omega
def Inv.tupleD(I:83)(h:SqT X.K H a xs):∃ob,s.heap.get? a=some ob/\ob.cls=.type "tuple"/\ob.dict=none:=by
 rcases h with h|⟨o,its,n,hk,hc,hd,_⟩
 .obtain⟨_,_,_,o,e,c,_,d⟩:=h.ok I.hok;exact⟨o,e,c,d⟩
 .exact⟨o,I.kIn a o hk,hc,hd⟩
def Inv.list_inj(I:83)(h:SqL X.K H a xs)(h':SqL X.K H a ys):xs=ys:=by
 obtain⟨its,r,⟨o,n,e,_,_,d⟩,_⟩:=I.list h;obtain⟨its',r',⟨o',n',e',_,_,d'⟩,_⟩:=I.list h';rw[e]at e';cases e';rw[d]at d'
 injection d' with d1 _
 have:its=its':=by simpa using ji Array.toList d1
 subst this;exact r.inj r'
def Inv.tuple_inj(I:83)(h:SqT X.K H a xs)(h':SqT X.K H a ys):xs=ys:=by
 obtain⟨its,r,⟨o,e,_,n,d⟩,_⟩:=I.tuple h;obtain⟨its',r',⟨o',e',_,n',d'⟩,_⟩:=I.tuple h';rw[e]at e';cases e';rw[d]at d'
 injection d' with d1 _
 have:its=its':=by simpa using ji Array.toList d1
 subst this;exact r.inj r'
end
noncomputable abbrev Cx.wish(X:Cx)(E:77):Cx:={ X with xe:=E }
abbrev Cx.nox(X:Cx):Cx:=X.wish λ_ _=>False
theorem Cx.Ok.wish{X:Cx}(ok:X.Ok)(E:77):(X.wish E).Ok:=
 ⟨ok.mod,ok.kind,ok.glob,ok.blt,ok.above,ok.inj,ok.has,ok.cab,ok.hd,ok.frames,ok.stk,ok.exf,ok.bs,ok.bsz,ok.noex,ok.exfs,ok.funs,ok.frf⟩
def Cx.Ok.unwish{X:Cx}{E:77}(ok:(X.wish E).Ok):X.Ok:=
 ⟨ok.mod,ok.kind,ok.glob,ok.blt,ok.above,ok.inj,ok.has,ok.cab,ok.hd,ok.frames,ok.stk,ok.exf,ok.bs,ok.bsz,ok.noex,ok.exfs,ok.funs,ok.frf⟩
section
variable{X:Cx}{pins:List (Addr×Obj)}{σ:St}{H:Hp}{s:Shared}{E:77}
theorem Inv.wish(I:83)(E:77):Inv (X.wish E) pins σ H s:=⟨I.ok.wish E,I.os,I.bare,I.base,I.loc,I.cell,I.free,I.freeC,I.pin,I.hok,I.len⟩
theorem Inv.unwish(I:Inv (X.wish E) pins σ H s):Inv X pins σ H s:=⟨I.ok.unwish,I.os,I.bare,I.base,I.loc,I.cell,I.free,I.freeC,I.pin,I.hok,I.len⟩
theorem SP.unwish{D:Ends}{f:Flow}{s':Shared}(h:SP (X.wish E) pins D f s'):SP X pins D f s':=by
 cases f with
 |next=>obtain⟨σ',H',I,q⟩:=h;exact⟨σ',H',I.unwish,q⟩
 |brk=>obtain⟨σ',H',I,q⟩:=h;exact⟨σ',H',I.unwish,q⟩
 |cont=>obtain⟨σ',H',I,q⟩:=h;exact⟨σ',H',I.unwish,q⟩
 |ret u=>obtain⟨v,σ',H',I,r,q⟩:=h;exact⟨v,σ',H',I.unwish,r,q⟩
theorem PSs.nox{st:List Stmt}{t:TS}(h:PSs X.nox st t):PSs X st t:=λpins s σ H D I hw=>
 j0 (h pins s σ H D (I.wish _) hw) (λ_ _ q=>q.unwish) λ_ _ z=>False.elim z
end
section
variable{X:Cx}{st:Stmt}{rest:List Stmt}{t u:TS}{e:Expr}{te:TE}{pos:Pos}
noncomputable def JT:TS:=λD σ H=>D.nx σ H
noncomputable def Tu(t u:TS):TS:=λD σ H=>t { D with nx:=u D } σ H
def YB:PSs X [] JT:=λ_ _ σ H _ I h=>wpAny_execs_nil ⟨σ,H,I,h⟩
def Uu(h1:PS X st t)(h2:PSs X rest u):PSs X (st::rest) (Tu t u):=by
 intro pins s σ H D I h;refine wpAny_execs_cons (thn (h1 pins s σ H { D with nx:=u D } I h) λf s1 q=>?_);cases f with
 |next=>
  obtain⟨σ',H',I',q⟩:=q;exact h2 pins s1 σ' H' D I' q
 |ret v=>exact q
 |brk=>exact q
 |cont=>exact q
def YA(h1:PS X st t):PSs X [st] t:=by
 intro pins s σ H D I h;refine wpAny_execs_cons (thn (h1 pins s σ H D I h) λf s1 q=>?_);cases f with
 |next=>exact wpAny_execs_nil q
 |ret v=>exact q
 |brk=>exact q
 |cont=>exact q
def YD:PS X (.Pass pos) JT:=λ_ _ σ H _ I h=>wpAny_Pass ⟨σ,H,I,h⟩
def Inv.quiet{pins:List (Addr×Obj)}{σ:St}{H:Hp}{s:Shared}(I:83):interactive X.env=false:=by simp[interactive,I.ok.kind]
noncomputable def PX(te:TE):TS:=λD σ H=>te σ H λ_ H1=>D.nx σ H1
def YF(he:PE X e te)(hs:swapsWith e none pos.line X.env=pure false:=by rfl):PS X (.Expr e pos) (PX te):=by
 intro pins s σ H D I h;exact wpAny_Expr_any (thn (he pins s σ H _ I h) λv s1 ⟨x,H1,I1,r1,q1⟩=>⟨σ,H1,I1,q1⟩) I.quiet hs
noncomputable def Tw(te:TE):TS:=λD σ H=>te σ H D.rt
def bI(he:PE X e te):PS X (.Return (some e) pos) (Tw te):=by
 intro pins s σ H D I h;exact wpAny_Return_some (thn (he pins s σ H _ I h) λv s1 ⟨x,H1,I1,r1,q1⟩=>⟨x,σ,H1,I1,r1,q1⟩)
noncomputable def U3(c:TT)(t u:TS):TS:=λD σ H=>c σ H λb H1=>if b=true then t D σ H1 else u D σ H1
def eN{c:Expr}{a b:List Stmt}{tc:TT}(hc:PT X c tc)(ha:PSs X a t)(hb:PSs X b u):PS X (.If c a b pos) (U3 tc t u):=by
 intro pins s σ H D I h;refine wpAny_If (thn (hc pins s σ H _ I h) λd s1 ⟨H1,I1,q1⟩=>?_);cases d with
 |true=>exact ha pins s1 σ H1 D I1 q1
 |false=>exact hb pins s1 σ H1 D I1 q1
noncomputable def M2:TS:=λ_ _ _=>False
def Ux:PS X st M2:=λ_ _ _ _ _ _ h=>h.elim
end
noncomputable abbrev TG:=V->St->Hp->(St->Hp->Prop)->Prop
noncomputable abbrev TGs:=List V->St->Hp->(St->Hp->Prop)->Prop
def PG(X:Cx)(target:Expr)(t:TG):Prop:=
 ∀(pins:List (Addr×Obj)) (s:Shared) (σ:St) (H:Hp) (v:V) (u:Value) (Q:St->Hp->Prop),Inv X pins σ H s->RelV v u->t v σ H Q ->
   wpAny 73 X.A (assign target X.env u) (λ_ s'=>∃σ' H',Inv X pins σ' H' s'/\Q σ' H') X.xe s
def PGs(X:Cx)(ts:List Expr)(t:TGs):Prop:=
 ∀(pins:List (Addr×Obj)) (s:Shared) (σ:St) (H:Hp) (vs:List V) (us:List Value) (Q:St->Hp->Prop),Inv X pins σ H s->Vals vs us->t vs σ H Q ->
   wpAny 73 X.A (assignInOrder ((assignEach ts X.env).map (·.2)) us) (λ_ s'=>∃σ' H',Inv X pins σ' H' s'/\Q σ' H') X.xe s
noncomputable abbrev Nc:=V->V->V->Hp->(Hp->Prop)->Prop
def Vm(X:Cx)(t:Nc):Prop:=
 ∀(pins:List (Addr×Obj)) (s:Shared) (σ:St) (H:Hp) (o i v:V) (ov iv u:Value) (Q:Hp->Prop),Inv X pins σ H s->RelV o ov->RelV i iv->RelV v u->t o i v H Q ->
   wpAny 73 X.A (setItem ov iv u) (λ_ s'=>∃H',Inv X pins σ H' s'/\Q H') X.xe s
noncomputable abbrev TIp:=V->V->Hp->VK->Prop
def PIp(X:Cx)(op:Operator)(t:TIp):Prop:=
 ∀(pins:List (Addr×Obj)) (s:Shared) (σ:St) (H:Hp) (x y:V) (v u:Value) (Q:VK),Inv X pins σ H s->RelV x v->RelV y u->t x y H Q ->
   wpAny 73 X.A (inplaceOp op v u) (EP X pins σ Q) X.xe s
section
variable{X:Cx}{pos:Pos}
noncomputable def Cv(i:Nat):TG:=λv σ H Q=>Q (σ.set i (some v)) H
def YS{i:Nat}{x:Str}(hN:X.N.Nodup)(hi:X.N[i]?=some x)(hx:Loc X.env.scope x)(hf:X.fn x=true∨X.env.scope.names.lookup x=some .local:=by first|exact .inl rfl|exact .inr rfl|assumption):PG X (.Name x pos) (Cv i):=by
 intro pins s σ H v u Q I r h;exact wpAny_assign_Name (Cm I hN hi hx r (λs' I'=>⟨_,H,I',h⟩) hf)
noncomputable def VV:TGs:=λvs σ H Q=>vs=[]/\Q σ H
noncomputable def QY(t:TG)(u:TGs):TGs:=λvs σ H Q=>∃v r,vs=v::r/\t v σ H λσ' H'=>u r σ' H' Q
def YQ:PGs X [] VV:=by
 intro pins s σ H vs us Q I r h;obtain⟨e,h⟩:=h;subst e;cases r;exact assignInOrder_nil ⟨σ,H,I,h⟩
def V5{e:Expr}{es:List Expr}{t:TG}{u:TGs}(h1:PG X e t)(h2:PGs X es u)
 (hs:(assignEach (e::es) X.env).map (·.2)=assign e X.env::(assignEach es X.env).map (·.2):=by rfl):PGs X (e::es) (QY t u):=by
 intro pins s σ H vs us Q I r h;obtain⟨v,vr,e1,h⟩:=h;subst e1;cases r with
 |cons r rr=>
  rw[hs];refine ko (thn (h1 pins s σ H _ _ _ I r h) λ_ s1 ⟨σ1,H1,I1,q1⟩=>?_);exact h2 pins s1 σ1 H1 _ _ Q I1 rr q1
noncomputable def QX(K:Frag)(n:Nat)(t:TGs):TG:=λv σ H Q=>∃a xs,v=.ref a/\SqT K H a xs/\79=n/\t xs σ H Q
def bO{es:List Expr}{k:Nat}{t:TGs}{n:Nat}(hc:X.calm=true)(h:PGs X es t)
 (hn:(assignEach es X.env).length=n:=by rfl) (hst:(assignEach es X.env).findIdx? (·.1)=none:=by rfl):PG X (.Tuple es k pos) (QX X.K n t):=by
 intro pins s σ H v u Q I r hw;obtain⟨a,xs,e1,hq,hl,hw⟩:=hw;subst e1;cases r;obtain⟨its,rv,ht,hz⟩:=I.tuple hq;refine assign_Tuple_tuple (I.ok.hd hc) ht (by simp[hn,<- hl,rv.length]) hst λh' hx=>?_;have I1:Inv X pins σ H { s with heap:=h' }:=I.kept (t':=s.toks) λb o e=>hx b o (iW (78 e)) e;exact h pins _ σ H xs _ Q I1 (by simpa using rv) hw
noncomputable def VT(to ti:TE)(t:Nc):TG:=λv σ H Q=>to σ H λo H1=>ti σ H1 λi H2=>t o i v H2 λH3=>Q σ H3
def bP{o i:Expr}{to ti:TE}{t:Nc}(ho:PE X o to)(hi:PE X i ti)(hs:Vm X t)
 (ha:∀v,assign (.Subscript o i pos) X.env v=(do
  let ov <- holding [v] (eval o X.env)
  let iv <- holding [v,ov] (eval i X.env)
  standAt pos
  holding [v,ov,iv] (setItem ov iv v)
  release [v,ov,iv] []):=by intro _;rfl):PG X (.Subscript o i pos) (VT to ti t):=by
 intro pins s σ H v u Q I r h;rw[ha];refine ie (jU (thn (ho pins s σ H _ I h) λov s1 ⟨x,H1,I1,r1,q1⟩=>?_));refine ie (jU (thn (hi pins s1 σ H1 _ I1 q1) λiv s2 ⟨y,H2,I2,r2,q2⟩=>?_));refine ie (jG (ie (jU (thn (hs pins s2 σ H2 x y v ov iv u _ I2 r1 r2 r q2) λ_ s3 ⟨H3,I3,q3⟩=>?_))));exact wpAny_release ⟨σ,H3,I3,q3⟩
noncomputable def DX(te:TE)(g:TG):TS:=λD σ H=>te σ H λx H1=>g x σ H1 D.nx
def SK{tg e:Expr}{te:TE}{g:TG}(he:PE X e te)(hg:PG X tg g)(hs:swapsWithSole [tg] e pos.line X.env=pure false:=by rfl)(hw:swappedStores [tg] e X.env=pure none:=by rfl)
 (h1:(assignEach [tg] X.env).map (·.2)=[assign tg X.env]:=by rfl):PS X (.Assign [tg] e pos) (DX te g):=by
 intro pins s σ H D I h;refine wpAny_Assign_stores (thn (he pins s σ H _ I h) λv s1 ⟨x,H1,I1,r1,q1⟩=>?_) hs hw;rw[h1];exact thn (hg pins s1 σ H1 x v _ I1 r1 q1) λ_ s2 q=>q
def bH{i:Nat}{x:Str}{e:Expr}{te:TE}{pos':Pos}(hN:X.N.Nodup)(hi:X.N[i]?=some x)(hx:Loc X.env.scope x)(he:PE X e te)(hs:swapsWith e (some (.Name x pos')) pos.line X.env=pure false:=by rfl)(hf:X.fn x=true∨X.env.scope.names.lookup x=some .local:=by first|exact .inl rfl|exact .inr rfl|assumption):
 PS X (.Assign [.Name x pos'] e pos) (DX te (Cv i)):=by
 intro pins s σ H D I h;refine wpAny_Assign_Name (thn (he pins s σ H _ I h) λv s1 ⟨y,H1,I1,r1,q1⟩=>?_) hs;exact Cm I1 hN hi hx r1 (λs2 I2=>⟨_,H1,I2,q1⟩) hf
noncomputable def Tx(i j:Nat)(ta:TA):TS:=λD σ H=>ta σ H λvs H1=>∃v w,vs=[v,w]/\D.nx ((σ.set i (some v)).set j (some w)) H1
def bJ{i j:Nat}{x y:Str}{a b:Expr}{ta:TA}{px py pt:Pos}{kt k2 pt2}(hc:X.calm=true)(hN:X.N.Nodup)(hi:X.N[i]?=some x)(hj:X.N[j]?=some y)(hij:i≠j)
 (hx:X.env.scope.names.lookup x=some .local) (hy:X.env.scope.names.lookup y=some .local) (ha:PA X [a,b] ta)
 (hw:swappedStores [.Tuple [.Name x px,.Name y py] kt pt] (.Tuple [a,b] k2 pt2) X.env=pure (some [x,y]))
 (hs:swapsWithSole [.Tuple [.Name x px,.Name y py] kt pt] (.Tuple [a,b] k2 pt2) pos.line X.env=pure false:=by rfl):
 PS X (.Assign [.Tuple [.Name x px,.Name y py] kt pt] (.Tuple [a,b] k2 pt2) pos) (Tx i j ta):=by
 intro pins s σ H D I h;rw[exec_Assign_arm];refine ie (jG ?_);rw[hs];refine ie (ip ?_);rw[ig 80];refine ie (Tuple_ (thn (ha _ pins s σ H _ I h) λus s1 ⟨vs,H1,I1,r1,q1⟩=>?_));obtain⟨v,w,e1,q1⟩:=q1;subst e1;obtain⟨u1,u2,rfl,rv,rw'⟩:∃u1 u2,us=[u1,u2]/\RelV v u1/\RelV w u2:=by
  cases r1 with
  |cons p q=>
   cases q with
   |cons p' q'=>
    cases q';exact⟨_,_,rfl,p,p'⟩
 refine jV ?_ (by show 2<=sizeLine;decide);have I2:Inv X pins σ H1 { s1 with heap:=s1.heap.push { cls:=.type "tuple",data:=.seq [u1,u2].toArray } }:=I1.kept (t':=s1.toks) λb o e=>74 _ e;rw[hw];refine ie (ip ?_);show wpAny 73 X.A (do rule "assign.swapped-stores";let items <- unpackItems (.ref s1.heap.objs.size) 2 none;assignInOrder [λv=>bindName X.env y v,λv=>bindName X.env x v] items.reverse;pure Flow.next) _ _ _;refine ie (jW (ie (unpackItems_tuple (items:=#[u1,u2]) (I.ok.hd hc) (IsTup.new s1.heap _) λh' hx'=>?_)));have I3:=I2.kept (h':=h') (t':=s1.toks) λb o e=>hx' b o (iW (78 e)) e;show wpAny _ _ (assignInOrder [λv=>bindName X.env y v,λv=>bindName X.env x v] [u2,u1] >>= λ_=>pure Flow.next) _ _ _;refine ie (ko (kx (Cm I3 hN hj (.inl hy) rw' (λs2 I4=>?_) (.inr hy))));refine ko (kx (Cm I4 hN hi (.inl hx) rv (λs3 I5=>assignInOrder_nil (ip ?_)) (.inr hx)));rw[List.set_comm _ _ (Ne.symm hij)]at I5;exact⟨_,H1,I5,q1⟩
noncomputable def HE(i:Nat)(te:TE)(ti:TIp):TS:=λD σ H=>∃x,σ[i]?=some (some x)/\te σ H λy H1=>ti x y H1 λz H2=>D.nx (σ.set i (some z)) H2
def Mo{i:Nat}{x:Str}{e:Expr}{te:TE}{op:Operator}{ti:TIp}{pos':Pos}(hN:X.N.Nodup)(hi:X.N[i]?=some x)(hx:Loc X.env.scope x)(he:PE X e te)(ho:PIp X op ti)(hf:X.fn x=true∨X.env.scope.names.lookup x=some .local:=by first|exact .inl rfl|exact .inr rfl|assumption):
 PS X (.AugAssign (.Name x pos') op e pos) (HE i te ti):=by
 intro pins s σ H D I h;obtain⟨v,e1,h⟩:=h;obtain⟨m,hn,hl⟩:=I.loc;have vis:Vis X.env.scope x:=by rcases hx with k|k;exact .inl k;exact .inr (.inl k)
 obtain⟨u,r,l⟩:=hl i x v hi e1 vis;refine wpAny_AugAssign_Name ?_;have go:wpAny 73 X.A (eval e X.env) (λw s₂=>wpAny 73 X.A (inplaceOp op u w) (λr s₃=>wpAny 73 X.A (storeName X.env x r) (λ_=>SP X pins D .next) X.xe s₃) X.xe s₂) X.xe s:=by
  refine thn (he pins s σ H _ I h) λw s1 ⟨y,H1,I1,r1,q1⟩=>?_;refine thn (ho pins s1 σ H1 v y u w _ I1 r r1 q1) λz s2 ⟨zv,H2,I2,r2,q2⟩=>?_;exact Cm I2 hN hi hx r2 (λs3 I3=>⟨_,H2,I3,q2⟩) hf
 rcases l with⟨hk,hm⟩|⟨hk,c,hc,hcell⟩
 .exact wpAny_loadName_local I.ok.kind hk hn hm go
 .rcases hk with hk|hk
  .exact wpAny_loadName_cell I.ok.kind hk hc hcell go
  .rcases hx with k|k
   .have:X.env.scope.names.lookup x=some .free:=hk;rw[k]at this;cases this
   .have:X.env.scope.names.lookup x=some .free:=hk;rw[k]at this;cases this
noncomputable def PY(to ti te:TE)(tget:V->V->Hp->VK->Prop)(tip:TIp)(tset:Nc):TS:=λD σ H=>to σ H λo H1=>ti σ H1 λi H2=>tget o i H2 λx H3=>te σ H3 λy H4=>tip x y H4 λz H5=>tset o i z H5 λH6=>D.nx σ H6
def dW(X:Cx)(t:V->V->Hp->VK->Prop):Prop:=
 ∀(pins:List (Addr×Obj)) (s:Shared) (σ:St) (H:Hp) (o i:V) (ov iv:Value) (Q:VK),Inv X pins σ H s->RelV o ov->RelV i iv->t o i H Q ->
   wpAny 73 X.A (getItem ov iv) (EP X pins σ Q) X.xe s
def YG{o i e:Expr}{to ti te:TE}{tget:V->V->Hp->VK->Prop}{tip:TIp}{tset:Nc}{op:Operator}{tpos:Pos}(ho:PE X o to)(hi:PE X i ti)(hg:dW X tget)(he:PE X e te)(hp:PIp X op tip)(hs:Vm X tset)
 (ha:∀ov iv new,augStore i ov iv new=(do holding [new,ov,iv] (setItem ov iv new);release [new,ov,iv] [];pure .next):=by intros;rfl):PS X (.AugAssign (.Subscript o i tpos) op e pos) (PY to ti te tget tip tset):=by
 intro pins s σ H D I h;refine wpAny_AugAssign_SubscriptAny (thn (ho pins s σ H _ I h) λov s1 ⟨x1,H1,I1,r1,q1⟩=>?_) ha;refine thn (hi pins s1 σ H1 _ I1 q1) λiv s2 ⟨x2,H2,I2,r2,q2⟩=>?_;refine thn (hg pins s2 σ H2 x1 x2 ov iv _ I2 r1 r2 q2) λold s3 ⟨x3,H3,I3,r3,q3⟩=>?_;refine thn (he pins s3 σ H3 _ I3 q3) λv s4 ⟨x4,H4,I4,r4,q4⟩=>?_;refine thn (hp pins s4 σ H4 x3 x4 old v _ I4 r3 r4 q4) λnew s5 ⟨x5,H5,I5,r5,q5⟩=>?_;exact thn (hs pins s5 σ H5 x1 x2 x5 ov iv new _ I5 r1 r2 r5 q5) λ_ s6 ⟨H6,I6,q6⟩=>⟨σ,H6,I6,q6⟩
noncomputable def ipI(f:Int->Int->Int):TIp:=λx y H Q=>∃i j,x=.int i/\y=.int j/\Q (.int (f i j)) H
def Sq:PIp X .Add (ipI λi j=>i+j):=by
 intro pins s σ H x y v u Q I r1 r2 h;obtain⟨i,j,e1,e2,q⟩:=h;subst e1;subst e2;obtain⟨t,rfl⟩:=r1;obtain⟨t',rfl⟩:=r2;exact iadd_int ⟨.int _,H,I.tok _,⟨_,rfl⟩,q⟩
def cf:PIp X .Sub (ipI λi j=>i-j):=by
 intro pins s σ H x y v u Q I r1 r2 h;obtain⟨i,j,e1,e2,q⟩:=h;subst e1;subst e2;obtain⟨t,rfl⟩:=r1;obtain⟨t',rfl⟩:=r2;exact isub_int ⟨.int _,H,I.tok _,⟨_,rfl⟩,q⟩
end
section
variable{X:Cx}{pos:Pos}
noncomputable def M1(c:TT)(tb:TS):TS:=λD σ H=>∃W:Nat->St->Hp->Prop,(∃m,W m σ H)/\∀m σ H,W m σ H ->
 c σ H λb H1=>if b=true then ∃N:St->Hp->Prop,(∀σ' H',N σ' H'->∃m',m'<m/\W m' σ' H')/\tb { D with nx:=N,ct:=N,bk:=D.nx } σ H1 else D.nx σ H1
def Uv{c:Expr}{body:List Stmt}{tc:TT}{tb:TS}(hp:PassesOwn 73 X.A X.env X.xe)(hc:PT X c tc)(hb:PSs X body tb):PS X (.While c body [] pos) (M1 tc tb):=by
 intro pins s σ H D I h;obtain⟨W,⟨m0,w0⟩,turn⟩:=h;refine wpAny_While (codeAny_whileLoop (λn s'=>∃σ' H',Inv X pins σ' H' s'/\W n σ' H') ?_ m0 ⟨σ,H,I,w0⟩);rintro n s1 ⟨σ1,H1,I1,w1⟩;refine kl hp (thn (hc pins s1 σ1 H1 _ I1 (turn n σ1 H1 w1)) λb s2 ⟨H2,I2,q2⟩=>?_);cases b with
 |true=>
  obtain⟨N,hN,q2⟩:=q2;rw[ic rfl];refine kl hp (thn (hb pins s2 σ1 H2 _ I2 q2) λf s3 q3=>?_);cases f with
  |next=>
   obtain⟨σ3,H3,I3,n3⟩:=q3;obtain⟨m',hm,w3⟩:=hN σ3 H3 n3;exact⟨m',hm,σ3,H3,I3,w3⟩
  |cont=>
   obtain⟨σ3,H3,I3,n3⟩:=q3;obtain⟨m',hm,w3⟩:=hN σ3 H3 n3;exact⟨m',hm,σ3,H3,I3,w3⟩
  |brk=>exact q3
  |ret v=>exact q3
 |false=>
  rw[ig Bool.false_ne_true];exact wpAny_execs_nil ⟨σ1,H2,I2,q2⟩
end
structure It where
 go:Nat->Hp->Prop
 yld:Nat->Hp->V->Hp->Prop
 stop:Nat->Hp->Prop
def CO(X:Cx)(pins:List (Addr×Obj))(H:Hp)(b:Addr):Prop:=
 H b=none/\b≠X.env.locals/\b∉X.fs/\(b∈X.ex∨X.s₀.heap.objs.size<=b)/\(∀x c,X.env.cells.lookup x=some c->c≠b)/\∀p∈X.pn++pins,p.1≠b
def Inv.fpOk{X:Cx}{pins:List (Addr×Obj)}{σ:St}{H H':Hp}{s:Shared}{b:Addr}(I:83)(hb:67<=b)(hn:H' b=none):CO X pins H' b:=by
 refine⟨hn,jx (j3 I.lt hb),I.nofs hb,.inr (jo I.sz hb),λx c e z=>?_,λp hp z=>?_⟩
 .obtain⟨v,q⟩:=I.cell x c e;exact absurd (j3 q.lt (by rw[z];exact hb)) (jw _)
 .exact absurd (j3 (78 (I.pin p hp).1) (by rw[z];exact hb)) (jw _)
structure Turn(P:Program)(w:World)(K:Frag)(tg:Expr)(J:It)(fp:List Addr)(it:Addr)(tn:Nat->Heap->Prop):Prop where
 mem:it∈fp
 obj:∀i h,tn i h->∀b∈fp,∃o,h.get? b=some o/\∀v,o.data≠.cell v
 keep:∀i h h',tn i h->(∀b∈fp,∀o,h.get? b=some o->h'.get? b=some o)->tn i h'
 item:∀(X:Cx),X.prog=P->X.w=w->X.K=K->X.calm=true->∀(i:Nat) (pins:List (Addr×Obj)) (s:Shared) (σ:St) (H:Hp) (E:77),Inv X pins σ H s->(∀b∈fp,CO X pins H b)->tn i s.heap->J.go i H ->
  wpAny (model P w) X.A (pyNext (.ref it)) (λr s1=>∃u,r=some u /\
   wpAny (model P w) X.A (letOwnedTupleGo tg (.ref it) u) (λ_ s2=>∃x H',Inv X pins σ H' s2/\RelV x u/\J.yld i H x H'/\tn (i+1) s2.heap/\∀b∈fp,H' b=none) E s1) E s
 done:∀(X:Cx),X.prog=P->X.w=w->X.K=K->X.calm=true->∀(i:Nat) (pins:List (Addr×Obj)) (s:Shared) (σ:St) (H:Hp) (E:77),Inv X pins σ H s->(∀b∈fp,CO X pins H b)->tn i s.heap->J.stop i H ->
  wpAny (model P w) X.A (pyNext (.ref it)) (λr s1=>r=none/\Inv X pins σ H s1) E s
 self:∀(A:Around) (i:Nat) (s:Shared) (Q:77) (E:77),tn i s.heap->Q (.ref it) s->wpAny (model P w) A (pyIter (.ref it)) Q E s
noncomputable abbrev TI:=St->Hp->(It->Hp->Prop)->Prop
def PIE(X:Cx)(pins:List (Addr×Obj))(σ:St)(tg:Expr)(R:It->Hp->Prop)(itv:Value)(s2:Shared):Prop:=
 ∃(it:Addr) (fp:List Addr) (tn:Nat->Heap->Prop) (J:It) (H':Hp),itv=.ref it/\Inv X pins σ H' s2/\Turn X.prog X.w X.K tg J fp it tn/\tn 0 s2.heap/\(∀b∈fp,CO X pins H' b)/\R J H'
def PI(X:Cx)(tg iter:Expr)(wi:TI):Prop:=
 ∀(pins:List (Addr×Obj)) (s:Shared) (σ:St) (H:Hp) (R:It->Hp->Prop),Inv X pins σ H s->wi σ H R ->
   wpAny 73 X.A (eval iter X.env) (λv s1=>wpAny 73 X.A (pyIter v) (PIE X pins σ tg R) X.xe s1) X.xe s
def QV{M:Model}{A:Around}{E:77}{s:Shared}{tg:Expr}{it:Addr}{u:Value}{o:Obj}{n:String}{vs:Array Value}{Q:Unit->Shared->Prop}(ho:s.heap.get? it=some o)(hc:o.cls=.type n)(hd:o.data=.fields vs)
 (hn:["enumerate","zip","dict_itemiterator","dict_reverseitemiterator","odict_iterator","itertools.zip_longest","itertools.pairwise"].contains n=false) (hQ:Q () s):wpAny M A (letOwnedTupleGo tg (.ref it) u) Q E s:=by
 unfold letOwnedTupleGo;cases tg<;>first
  |exact ip hQ
  | (cases u<;>first
   |exact ip hQ
   | (refine ie (wpAny_load ho ?_)
      rw[hc,hd];show wpAny M A (if(["enumerate","zip","dict_itemiterator","dict_reverseitemiterator","odict_iterator","itertools.zip_longest","itertools.pairwise"].contains n&&vs[0]?==some (rawInt _))=true then _ else _) Q E s;rw[ig (by intro h;rw[hn,Bool.false_and]at h;cases h)];exact ip hQ))
noncomputable def Itl(K:Frag)(a:Addr):It:=
 ⟨λi H=>∃xs x,SqL K H a xs/\xs[i]?=some x,λi H x H'=>H'=H/\∀xs,SqL K H a xs->xs[i]?=some x,λi H=>∃xs,SqL K H a xs/\79<=i⟩
noncomputable def Itt(K:Frag)(a:Addr):It:=
 ⟨λi H=>∃xs x,SqT K H a xs/\xs[i]?=some x,λi H x H'=>H'=H/\∀xs,SqT K H a xs->xs[i]?=some x,λi H=>∃xs,SqT K H a xs/\79<=i⟩
noncomputable def Itr(lo:Int)(n:Nat):It:=⟨λi _=>i<n,λi H x H'=>H'=H/\x=.int (lo+i),λi _=>n<=i⟩
def RO{P:Program}{w:World}{K:Frag}{tg:Expr}(a it:Addr):Turn P w K tg (Itl K a) [it] it (λi h=>h.IsListIter it a i) where
 mem:=by simp
 obj:=λi h st b hb=>by
  have e:b=it:=by simpa using hb
  subst e;obtain⟨o,e,c,d⟩:=st;exact⟨o,e,λv z=>by rw[d]at z;cases z⟩
 keep:=λi h h' st k=>st.at λo e=>k it 70 o e
 item:=by
  intro X hP hw hK hc i pins s σ H E I hf st hg;subst hP hw hK;obtain⟨xs,x,hq,hx⟩:=hg;obtain⟨its,rv,p,hz⟩:=I.list hq;obtain⟨u,hu,ru⟩:=rv.get hx;obtain⟨f0,f1,f2,f3,f4,f5⟩:=hf it 70;refine wpAny_pyNext_list_item st p.isList (x:=u) (by simpa using hu) λh' st' sb=>?_;have I1:Inv X pins σ H { s with heap:=h' }:=I.turned (t':=s.toks) (λb o hb e=>(sb.2 b hb).trans e) f0 f1 f3 f4 f5;obtain⟨o,e,c,d⟩:=id st';exact⟨u,rfl,QV (s:={ s with heap:=h' }) e c d 80 ⟨x,H,I1,ru,⟨rfl,λys hy=>by rw[I.list_inj hy hq];exact hx⟩,st',λb hb=>(hf b hb).1⟩⟩
 done:=by
  intro X hP hw hK hc i pins s σ H E I hf st hg;subst hP hw hK;obtain⟨xs,hq,hx⟩:=hg;obtain⟨its,rv,p,hz⟩:=I.list hq;obtain⟨f0,f1,f2,f3,f4,f5⟩:=hf it 70;have hl:=rv.length;exact wpAny_pyNext_list_end (I.ok.hd hc) st p.isList 75 λh' eb=>⟨rfl,I.turned (t':=s.toks) (λb o hb e=>eb b o hb e) f0 f1 f3 f4 f5⟩
 self:=λ_ _ _ _ _ st h=>wpAny_pyIter_listiter st h
def PK{P:Program}{w:World}{K:Frag}{tg:Expr}(a it:Addr):Turn P w K tg (Itt K a) [it] it (λi h=>h.IsTupleIter it a i) where
 mem:=by simp
 obj:=λi h st b hb=>by
  have e:b=it:=by simpa using hb
  subst e;obtain⟨o,e,c,d⟩:=st;exact⟨o,e,λv z=>by rw[d]at z;cases z⟩
 keep:=λi h h' st k=>st.at λo e=>k it 70 o e
 item:=by
  intro X hP hw hK hc i pins s σ H E I hf st hg;subst hP hw hK;obtain⟨xs,x,hq,hx⟩:=hg;obtain⟨its,rv,p,hz⟩:=I.tuple hq;obtain⟨u,hu,ru⟩:=rv.get hx;obtain⟨f0,f1,f2,f3,f4,f5⟩:=hf it 70;refine wpAny_pyNext_tuple_item st (show s.heap.IsTuple a its.toArray from p) (x:=u) (by simpa using hu) λh' st' sb=>?_;have I1:Inv X pins σ H { s with heap:=h' }:=I.turned (t':=s.toks) (λb o hb e=>(sb.2 b hb).trans e) f0 f1 f3 f4 f5;obtain⟨o,e,c,d⟩:=id st';exact⟨u,rfl,QV (s:={ s with heap:=h' }) e c d 80 ⟨x,H,I1,ru,⟨rfl,λys hy=>by rw[I.tuple_inj hy hq];exact hx⟩,st',λb hb=>(hf b hb).1⟩⟩
 done:=by
  intro X hP hw hK hc i pins s σ H E I hf st hg;subst hP hw hK;obtain⟨xs,hq,hx⟩:=hg;obtain⟨its,rv,p,hz⟩:=I.tuple hq;obtain⟨f0,f1,f2,f3,f4,f5⟩:=hf it 70;have hl:=rv.length;exact wpAny_pyNext_tuple_end (I.ok.hd hc) st (show s.heap.IsTuple a its.toArray from p) 75 λh' eb=>⟨rfl,I.turned (t':=s.toks) (λb o hb e=>eb b o hb e) f0 f1 f3 f4 f5⟩
 self:=λ_ _ _ _ _ st h=>wpAny_pyIter_tupleiter st h
def PL{P:Program}{w:World}{K:Frag}{tg:Expr}(it:Addr)(lo:Int)(n:Nat):Turn P w K tg (Itr lo n) [it] it (λi h=>IsRangeIter h it (lo+(i:Nat)*1) ((n:Int)-(i:Nat)) 1) where
 mem:=by simp
 obj:=λi h st b hb=>by
  have e:b=it:=by simpa using hb
  subst e;exact⟨_,st,λv z=>by
   have z':Data.fields _=Data.cell v:=z;cases z'⟩
 keep:=λi h h' st k=>k it 70 _ st
 item:=by
  intro X hP hw hK hc i pins s σ H E I hf st hg;subst hP hw hK;obtain⟨f0,f1,f2,f3,f4,f5⟩:=hf it 70;have W:=Walks.range (prog:=X.prog) (w:=X.w) (I.ok.hd hc) it lo 1 n;refine W.item i s _ _ hg st λv h' tk hv st' kk=>?_;obtain⟨t,rfl⟩:=hv;have I1:Inv X pins σ H { s with heap:=h',toks:=tk }:=I.turned (λb o hb e=>kk b o (by simpa using hb) e) f0 f1 f3 f4 f5;refine⟨_,rfl,QV (s:={ s with heap:=h',toks:=tk }) (n:="range_iterator") st' rfl rfl 80 ⟨.int (lo+i),H,I1,⟨t,?_⟩,⟨rfl,rfl⟩,st',λb hb=>(hf b hb).1⟩⟩;rw[Int.mul_one]
 done:=by
  intro X hP hw hK hc i pins s σ H E I hf st hg;subst hP hw hK;obtain⟨f0,f1,f2,f3,f4,f5⟩:=hf it 70;exact wpAny_pyNext_range_end (I.ok.hd hc) st (by have:n<=i:=hg;omega) λh' eb=>⟨rfl,I.turned (t':=s.toks) (λb o hb e=>eb b o hb e) f0 f1 f3 f4 f5⟩
 self:=λ_ _ _ _ _ st h=>wpAny_pyIter_rangeiter st h
section
variable{X:Cx}{tg:Expr}
noncomputable def Js(K:Frag)(tl:TE):TI:=λσ H R=>tl σ H λx H1=>∃a,x=.ref a/\(∃xs,SqL K H1 a xs)/\R (Itl K a) H1
noncomputable def NA(K:Frag)(tl:TE):TI:=λσ H R=>tl σ H λx H1=>∃a,x=.ref a/\(∃xs,SqT K H1 a xs)/\R (Itt K a) H1
def YN{l:Expr}{tl:TE}(hl:PE X l tl):PI X tg l (Js X.K tl):=by
 intro pins s σ H R I h;refine thn (hl pins s σ H _ I h) λv s1 ⟨x,H1,I1,r1,q1⟩=>?_;obtain⟨a,e,⟨xs,hq⟩,q⟩:=q1;subst e;cases r1;obtain⟨its,rv,p,hz⟩:=I1.list hq;refine wpAny_pyIter_list p.isList ?_;refine⟨s1.heap.objs.size,[s1.heap.objs.size],_,_,H1,rfl,I1.kept (t':=s1.toks) λb o e=>74 _ e,RO a _,⟨_,85 _ rfl,rfl,rfl⟩,λb hb=>?_,q⟩;have e:b=s1.heap.objs.size:=by simpa using hb
 subst e;exact I1.fpOk (iq _) (I1.hok.fresh (iq _))
def bN{l:Expr}{tl:TE}(hl:PE X l tl):PI X tg l (NA X.K tl):=by
 intro pins s σ H R I h;refine thn (hl pins s σ H _ I h) λv s1 ⟨x,H1,I1,r1,q1⟩=>?_;obtain⟨a,e,⟨xs,hq⟩,q⟩:=q1;subst e;cases r1;obtain⟨its,rv,p,hz⟩:=I1.tuple hq;refine wpAny_pyIter_tuple (show s1.heap.IsTuple a its.toArray from p) ?_;refine⟨s1.heap.objs.size,[s1.heap.objs.size],_,_,H1,rfl,I1.kept (t':=s1.toks) λb o e=>74 _ e,PK a _,⟨_,85 _ rfl,rfl,rfl⟩,λb hb=>?_,q⟩;have e:b=s1.heap.objs.size:=by simpa using hb
 subst e;exact I1.fpOk (iq _) (I1.hok.fresh (iq _))
def Mi{pins:List (Addr×Obj)}{σ:St}{H:Hp}{s:Shared}{R:It->Hp->Prop}{E:77}{lo hi:Int}{t u v:Tok}{tk:Nat}(I:83)(h1:-(2^62)<=lo)(h2:lo<2^62)(h3:-(2^62)<=hi)(h4:hi<2^62)
 (q:R (Itr lo (hi-lo).toNat) H):wpAny 73 X.A (pyIter (.ref 67)) (PIE X pins σ tg R) E { s with heap:=s.heap.push { cls:=.type "range",data:=.fields #[.int lo t,.int hi u,.int 1 v] },toks:=tk }:=by
 refine wpAny_pyIter_range (IsRange.new ..) (small_one h1 h2 h3 h4) ?_;have I1:Inv X pins σ H { s with heap:=s.heap.push { cls:=.type "range",data:=.fields #[.int lo t,.int hi u,.int 1 v] },toks:=tk }:=I.kept λb o e=>74 _ e;refine⟨(s.heap.push { cls:=.type "range",data:=.fields #[.int lo t,.int hi u,.int 1 v] }).objs.size,[(s.heap.push { cls:=.type "range",data:=.fields #[.int lo t,.int hi u,.int 1 v] }).objs.size],_,_,H,rfl,
  I1.kept (t':=tk) λb o e=>74 _ e,PL _ lo (hi-lo).toNat,?_,λb hb=>?_,q⟩
 .have e1:lo+((0:Nat):Int)*1=lo:=by simp
  have e2:(((hi-lo).toNat:Nat):Int)-((0:Nat):Int)=Builtin.Range.rangeSize lo hi 1:=by rw[rangeSize_one];split<;>omega
  show IsRangeIter _ _ (lo+((0:Nat):Int)*1) ((((hi-lo).toNat:Nat):Int)-((0:Nat):Int)) 1;rw[e1,e2];exact 85 _ rfl
 .have e:b=(s.heap.push { cls:=.type "range",data:=.fields #[.int lo t,.int hi u,.int 1 v] }).objs.size:=by simpa using hb
  subst e;exact I1.fpOk (iq _) (I1.hok.fresh (iq _))
noncomputable def QQ(ta:TA):TI:=λσ H R=>ta σ H λvs H1=>∃j:Int,vs=[.int j]/\-(2^62)<=j/\j<2^62/\R (Itr 0 j.toNat) H1
noncomputable def QP(ta:TA):TI:=λσ H R=>ta σ H λvs H1=>∃i j:Int,vs=[.int i,.int j]/\(-(2^62)<=i/\i<2^62/\-(2^62)<=j/\j<2^62)/\R (Itr i (j-i).toNat) H1
def SN{a:Expr}{ta:TA}{p pos:Pos}(hg:Gl X "range")(hm:X.mg "range"=none)(ha:PA X [a] ta)(hs:starEach [a] X.env=[(false,eval a X.env)]:=by rfl):PI X tg (.Call (.Name "range" p) [a] [] pos) (QQ ta):=by
 intro pins s σ H R I h;refine Call_ (Dg I hg hm boot_range (PyProof.Rows.callWith_type1 (thn (ha pos pins s σ H _ I h) λus s1 ⟨vs,H1,I1,r1,q1⟩=>?_) hs rfl));obtain⟨j,e,q1,q2,q⟩:=q1;subst e;cases r1 with
 |cons r rr=>
  cases rr;obtain⟨t,rfl⟩:=r;exact call_range_1 (Mi I1 66 66 q1 q2 (by simpa using q))
def SM{a b:Expr}{ta:TA}{p pos:Pos}(hg:Gl X "range")(hm:X.mg "range"=none)(ha:PA X [a,b] ta)(hs:starEach [a,b] X.env=[(false,eval a X.env),(false,eval b X.env)]:=by rfl)(hs2:starEach [b] X.env=[(false,eval b X.env)]:=by rfl):
 PI X tg (.Call (.Name "range" p) [a,b] [] pos) (QP ta):=by
 intro pins s σ H R I h;refine Call_ (Dg I hg hm boot_range (PyProof.Rows.callWith_type1 (thn (ha pos pins s σ H _ I h) λus s1 ⟨vs,H1,I1,r1,q1⟩=>?_) (by rw[hs,hs2]) (by rw[hs2];rfl)));obtain⟨i,j,e,⟨q1,q2,q3,q4⟩,q⟩:=q1;subst e;cases r1 with
 |cons r rr=>
  cases rr with
  |cons r' rr=>
   cases rr;obtain⟨t,rfl⟩:=r;obtain⟨t',rfl⟩:=r';exact call_range_2 (Mi I1 q1 q2 q3 q4 q)
noncomputable def U4(wi:TI)(g:TG)(tb:TS):TS:=λD σ H=>wi σ H λJ H1=>∃W:Nat->Nat->St->Hp->Prop,(∃m,W 0 m σ H1)/\∀i m σ H,W i m σ H ->
 (J.stop i H/\D.nx σ H)∨(J.go i H/\∃N:St->Hp->Prop,(∀σ' H',N σ' H'->∃m',m'<m/\W (i+1) m' σ' H')/\∀x H',J.yld i H x H'->g x σ H' λσ2 H2=>tb { D with nx:=N,ct:=N,bk:=D.nx } σ2 H2)
noncomputable def FK(fp:List Addr)(h:Heap):List (Addr×Obj):=fp.filterMap λb=>(h.get? b).map λo=>(b,o)
def CD{fp:List Addr}{h:Heap}{b:Addr}{o:Obj}(hb:b∈fp)(e:h.get? b=some o):(b,o)∈FK fp h:=mem_filterMap.mpr ⟨b,hb,by rw[e];rfl⟩
def Sb{fp:List Addr}{h:Heap}{p:Addr×Obj}(hp:p∈FK fp h):p.1∈fp/\h.get? p.1=some p.2:=by
 obtain⟨b,hb,e⟩:=mem_filterMap.mp hp;cases q:h.get? b with
 |none=>rw[q]at e;cases e
 |some o=>
  rw[q]at e;have e':(b,o)=p:=Option.some.inj e;subst e';exact⟨hb,q⟩
def Inv.pinned{pins:List (Addr×Obj)}{σ:St}{H:Hp}{s:Shared}{fp:List Addr}(I:83)(hf:∀b∈fp,CO X pins H b)(ho:∀b∈fp,∃o,s.heap.get? b=some o/\∀v,o.data≠.cell v):Inv X (pins++FK fp s.heap) σ H s:=
 I.pins_of λp hp=>(mem_append.mp hp).elim (λz=>I.pin p (j7 _ z)) λz=>by
  obtain⟨hb,e⟩:=Sb z;obtain⟨f0,f1,f2,_⟩:=hf p.1 hb;obtain⟨o,e',d⟩:=ho p.1 hb;rw[e]at e';cases e';exact⟨e,f0,f1,f2,d⟩
def Inv.unpinned{pins pl:List (Addr×Obj)}{σ:St}{H:Hp}{s:Shared}(I:Inv X (pins++pl) σ H s):Inv X pins σ H s:=I.pins_of λp hp=>I.pin p (j7 _ (jK _ hp))
def bK{iter:Expr}{body:List Stmt}{wi:TI}{g:TG}{tb:TS}{pos:Pos}(hp:PassesOwn 73 X.A X.env X.xe)(hc:X.calm=true)(hi:PI X tg iter wi)(hg:PG X tg g)(hb:PSs X body tb)
 (hs:∀x,foldedSetIterable iter X.env x=pure x:=by intro _;rfl):PS X (.For tg iter body [] pos) (U4 wi g tb):=by
 intro pins s σ H D I h;refine wpAny_For (thn (hi pins s σ H _ I h) λv s1 h1=>thn h1 λitv s2 h2=>?_) hs;obtain⟨it,fp,tn,J,H2,e,I2,T,st2,f2,W,⟨m0,w0⟩,turn⟩:=h2;subst e
 -- what stays true of the iterator's objects through the loop
 have stat:∀{H':Hp},(∀b∈fp,H' b=none)->∀b∈fp,CO X pins H' b:=λhn b hb=>⟨hn b hb,(f2 b hb).2⟩
 refine codeAny_forLoop_any (λn s'=>∃i σ' H',Inv X pins σ' H' s'/\tn i s'.heap/\(∀b∈fp,H' b=none)/\W i n σ' H') ?_ m0 ⟨0,σ,H2,I2,st2,λb hb=>(f2 b hb).1,w0⟩;rintro n s3 ⟨i,σ3,H3,I3,st3,fr3,w3⟩;rcases turn i n σ3 H3 w3 with⟨stop,qn⟩|⟨go,N,hN,step⟩
 .refine kl hp (thn (T.done X rfl rfl rfl hc i pins s3 σ3 H3 X.xe I3 (stat fr3) st3 stop) λr s4 ⟨hr,I4⟩=>?_);subst hr;exact wpAny_execs_nil ⟨σ3,H3,I4,qn⟩
 .refine kl hp (thn (T.item X rfl rfl rfl hc i pins s3 σ3 H3 X.xe I3 (stat fr3) st3 go) λr s4 ⟨u,hr,h4⟩=>?_);subst hr;refine kl hp (thn h4 λ_ s5 ⟨x,H5,I5,r5,y5,st5,fr5⟩=>?_);have I5':=I5.pinned (stat fr5) (T.obj _ _ st5);refine kl hp (thn (hg _ s5 σ3 H5 x u _ I5' r5 (step x H5 y5)) λ_ s6 ⟨σ6,H6,I6,q6⟩=>?_);refine kl hp (thn (hb _ s6 σ6 H6 _ I6 q6) λf s7 q7=>?_);have again:∀{σ7:St} {H7:Hp},Inv X (pins++FK fp s5.heap) σ7 H7 s7->N σ7 H7->∃m,m<n/\∃i σ' H',Inv X pins σ' H' s7/\tn i s7.heap/\(∀b∈fp,H' b=none)/\W i m σ' H':=λ{σ7 H7} I7 n7=>by
   obtain⟨m',hm,w7⟩:=hN σ7 H7 n7;refine⟨m',hm,i+1,σ7,H7,I7.unpinned,T.keep _ _ _ st5 λb hb o e=>(I7.pin (b,o) (j7 _ (j7 _ (CD hb e)))).1,λb hb=>?_,w7⟩;obtain⟨o,e,d⟩:=T.obj _ _ st5 b hb;exact(I7.pin (b,o) (j7 _ (j7 _ (CD hb e)))).2.1
  cases f with
  |next=>obtain⟨σ7,H7,I7,n7⟩:=q7;exact again I7 n7
  |cont=>obtain⟨σ7,H7,I7,n7⟩:=q7;exact again I7 n7
  |brk=>obtain⟨σ7,H7,I7,q7⟩:=q7;exact⟨σ7,H7,I7.unpinned,q7⟩
  |ret v=>obtain⟨x7,σ7,H7,I7,r7,q7⟩:=q7;exact⟨x7,σ7,H7,I7.unpinned,r7,q7⟩
end
noncomputable abbrev R2:=V->V->Hp->VK->Prop
def OpR(X:Cx)(f:Value->Value->Sem Value)(r:R2):Prop:=
 ∀(pins:List (Addr×Obj)) (s:Shared) (σ:St) (H:Hp) (x y:V) (v u:Value) (Q:VK),Inv X pins σ H s->RelV x v->RelV y u->r x y H Q ->
   wpAny 73 X.A (f v u) (EP X pins σ Q) X.xe s
def UnR(X:Cx)(f:Value->Sem Value)(r:V->Hp->VK->Prop):Prop:=
 ∀(pins:List (Addr×Obj)) (s:Shared) (σ:St) (H:Hp) (x:V) (v:Value) (Q:VK),Inv X pins σ H s->RelV x v->r x H Q ->
   wpAny 73 X.A (f v) (EP X pins σ Q) X.xe s
def CallR(X:Cx)(f:Value)(r:List V->Hp->VK->Prop):Prop:=
 ∀(pins:List (Addr×Obj)) (s:Shared) (σ:St) (H:Hp) (xs:List V) (us:List Value) (Q:VK),Inv X pins σ H s->Vals xs us->r xs H Q ->
   wpAny 73 X.A (call f us) (EP X pins σ Q) X.xe s
def gC(X:Cx)(r:V->Hp->(Bool->Hp->Prop)->Prop):Prop:=
 ∀(pins:List (Addr×Obj)) (s:Shared) (σ:St) (H:Hp) (x:V) (v:Value) (Q:Bool->Hp->Prop),Inv X pins σ H s->RelV x v->r x H Q ->
   wpAny 73 X.A (truthy v) (TP X pins σ Q) X.xe s
noncomputable def tOp(r:R2)(ta tb:TE):TE:=λσ H Q=>ta σ H λx H1=>tb σ H1 λy H2=>r x y H2 Q
noncomputable def tUn(r:V->Hp->VK->Prop)(ta:TE):TE:=λσ H Q=>ta σ H λx H1=>r x H1 Q
noncomputable def rI(C:Int->Int->Prop)(g:Int->Int->V):R2:=λx y H Q=>∃i j,x=.int i/\y=.int j/\C i j/\Q (g i j) H
noncomputable def rI0(g:Int->Int->V):R2:=λx y H Q=>∃i j,x=.int i/\y=.int j/\Q (g i j) H
def rU(g:Int->V):V->Hp->VK->Prop:=λx H Q=>∃i,x=.int i/\Q (g i) H
section
variable{X:Cx}{a b c:Expr}{ta tb tc:TE}{pos:Pos}
def Vl(ha:PE X a ta)(hb:PE X b tb){pins:List (Addr×Obj)}{s:Shared}{σ:St}{H:Hp}{R:V->V->Hp->Prop}(I:83)
 (h:ta σ H λx H1=>tb σ H1 λy H2=>R x y H2) {Q:77} {f:Value->Value->Sem Value}
 (hf:∀v u s2 x y H2,Inv X pins σ H2 s2->RelV x v->RelV y u->R x y H2->wpAny 73 X.A (f v u) Q X.xe s2):
 wpAny 73 X.A (eval a X.env) (λv s₁=>wpAny 73 X.A (eval b X.env) (λu s₂=>wpAny 73 X.A (f v u) Q X.xe s₂) X.xe s₁) X.xe s:=by
 refine thn (ha pins s σ H _ I h) λv s1 ⟨x,H1,I1,r1,q1⟩=>?_;refine thn (hb pins s1 σ H1 _ I1 q1) λu s2 ⟨y,H2,I2,r2,q2⟩=>?_;exact hf v u s2 x y H2 I2 r1 r2 q2
def WB{op:Operator}{r:R2}(ho:OpR X (binaryOp op) r)(ha:PE X a ta)(hb:PE X b tb):PE X (.BinOp a op b pos) (tOp r ta tb):=by
 intro pins s σ H Q I h;exact wpAny_BinOp (Vl ha hb I h λv u s2 x y H2 I2 rx ry q=>ho pins s2 σ H2 x y v u Q I2 rx ry q)
def eO{op:UnaryOp}{r:V->Hp->VK->Prop}(ho:UnR X (unaryOp op) r)(ha:PE X a ta):PE X (.UnaryOp op a pos) (tUn r ta):=by
 intro pins s σ H Q I h;exact UnaryOp_ (thn (ha pins s σ H _ I h) λv s1 ⟨x,H1,I1,r1,q1⟩=>ho pins s1 σ H1 x v Q I1 r1 q1)
def opI{f:Value->Value->Sem Value}{C:Int->Int->Prop}{g:Int->Int->Int}
 (rule:∀(i j:Int) (t u:Tok) (s:Shared) (Q:77) (E:77),C i j->Q (.int (g i j) s.toks) { s with toks:=s.toks+1 }->wpAny 73 X.A (f (.int i t) (.int j u)) Q E s):
 OpR X f (rI C λi j=>.int (g i j)):=by
 intro pins s σ H x y v u Q I rx ry h;obtain⟨i,j,rfl,rfl,hc,q⟩:=h;obtain⟨t,rfl⟩:=rx;obtain⟨t',rfl⟩:=ry;exact rule i j t t' s _ _ hc ⟨.int (g i j),H,I.tok _,⟨_,rfl⟩,q⟩
def c9{f:Value->Value->Sem Value}{g:Int->Int->Int}
 (rule:∀(i j:Int) (t u:Tok) (s:Shared) (Q:77) (E:77),Q (.int (g i j) s.toks) { s with toks:=s.toks+1 }->wpAny 73 X.A (f (.int i t) (.int j u)) Q E s):
 OpR X f (rI0 λi j=>.int (g i j)):=by
 intro pins s σ H x y v u Q I rx ry h;obtain⟨i,j,rfl,rfl,q⟩:=h;obtain⟨t,rfl⟩:=rx;obtain⟨t',rfl⟩:=ry;exact rule i j t t' s _ _ ⟨.int (g i j),H,I.tok _,⟨_,rfl⟩,q⟩
def Q3{f:Value->Value->Sem Value}{g:Int->Int->Bool}
 (rule:∀(i j:Int) (t u:Tok) (s:Shared) (Q:77) (E:77),Q (.bool (g i j)) s->wpAny 73 X.A (f (.int i t) (.int j u)) Q E s):
 OpR X f (rI0 λi j=>.bl (g i j)):=by
 intro pins s σ H x y v u Q I rx ry h;obtain⟨i,j,rfl,rfl,q⟩:=h;obtain⟨t,rfl⟩:=rx;obtain⟨t',rfl⟩:=ry;exact rule i j t t' s _ _ ⟨.bl (g i j),H,I,rfl,q⟩
def dY(i j:Int):Prop:=0<j/\j<1073741824
def dX(i j:Int):Prop:=0<=j/\j<=1000000/\i.natAbs<2^64
def CMul(i j:Int):Prop:=(-(2^64)<i/\i<2^64)∨(-(2^64)<j/\j<2^64)
def CMul.ok{i j:Int}(h:CMul i j):IntMulOk i j:=by
 rcases h with⟨h1,h2⟩|⟨h1,h2⟩
 .exact .of_left (intBits_le_64 h1 h2)
 .exact .of_right (intBits_le_64 h1 h2)
def SY:OpR X (binaryOp .Add) (rI0 λi j=>.int (i+j)):=c9 λ_ _ _ _ _ _ _ q=>add_int q
def br:OpR X (binaryOp .Sub) (rI0 λi j=>.int (i-j)):=c9 λ_ _ _ _ _ _ _ q=>sub_int q
def bv:OpR X (binaryOp .Mult) (rI CMul λi j=>.int (i*j)):=opI λ_ _ _ _ _ _ _ hc q=>mul_int q hc.ok
def YY:OpR X (binaryOp .FloorDiv) (rI dY λi j=>.int (i/j)):=opI λi j _ _ _ _ _ hc q=>by
 have h1:(0:Int)<j:=hc.1;have h2:j<1073741824:=hc.2;exact floordiv_int 66 (by rw[Int.fdiv_eq_ediv_of_nonneg i 66];exact q) (.inl (PyProof.noPylong_small 66))
def bw:OpR X (binaryOp .Mod) (rI (λ_ j=>0<j) λi j=>.int (i%j)):=opI λi j _ _ _ _ _ hc q=>by
 have h1:(0:Int)<j:=hc;exact mod_int' 66 (by rw[Int.fmod_eq_emod_of_nonneg i 66];exact q)
def bt:OpR X (binaryOp .Pow) (rI dX λi j=>.int (i^j.toNat)):=opI λ_ _ _ _ _ _ _ hc q=>pow_int_small hc.1 hc.2.1 hc.2.2 q
def unI{f:Value->Sem Value}{g:Int->Int}
 (rule:∀(i:Int) (t:Tok) (s:Shared) (Q:77) (E:77),Q (.int (g i) s.toks) { s with toks:=s.toks+1 }->wpAny 73 X.A (f (.int i t)) Q E s):
 UnR X f (rU λi=>.int (g i)):=by
 intro pins s σ H x v Q I rx h;obtain⟨i,rfl,q⟩:=h;obtain⟨t,rfl⟩:=rx;exact rule i t s _ _ ⟨.int (g i),H,I.tok _,⟨_,rfl⟩,q⟩
def ZP:UnR X (unaryOp .USub) (rU λi=>.int (-i)):=unI λ_ _ _ _ _ q=>neg_int q
end
noncomputable def MH:V->V->Bool
 |.non,.non=>true|.non,.int _=>true|.int _,.non=>true|.non,.bl _=>true|.bl _,.non=>true|.non,.str _=>true|.str _,.non=>true
 |.int _,.int _=>true|.bl _,.bl _=>true|.str _,.str _=>true|.byt _,.byt _=>true
 |.int _,.str _=>true|.str _,.int _=>true|.bl _,.str _=>true|.str _,.bl _=>true
 |_,_=>false
noncomputable def rEq:R2:=λx y H Q=>MH x y=true/\Q (.bl (decide (x=y))) H
noncomputable def rNe:R2:=λx y H Q=>MH x y=true/\Q (.bl (!decide (x=y))) H
def Ow{i j:Int}:decide (V.int i=V.int j)=(i==j):=by
 rw[Bool.eq_iff_iff];simp
def TD{i j:Bool}:decide (V.bl i=V.bl j)=(i==j):=by
 rw[Bool.eq_iff_iff];simp
def Ou{i j:Str}:decide (V.str i=V.str j)=(i==j):=by
 rw[Bool.eq_iff_iff];simp
def Ox{i j:Array UInt8}:decide (V.byt i=V.byt j)=(i.toList==j.toList):=by
 rw[Bool.eq_iff_iff];cases i;cases j;simp
section
variable{X:Cx}{a b c:Expr}{ta tb tc:TE}{pos:Pos}
def Ao{pins:List (Addr×Obj)}{σ:St}{H:Hp}{s:Shared}{Q:VK}{k k':Bool}(I:83)(q:Q (.bl k) H)(e:k=k'):EP X pins σ Q (.bool k') s:=by
 subst e;exact⟨.bl k,H,I,rfl,q⟩
def WK:OpR X (compareOp .Eq) rEq:=by
 intro pins s σ H x y v u Q I rx ry h;obtain⟨hs,q⟩:=h;cases x with
 |non=>
  cases rx;cases y with
  |non=>cases ry;exact PySem.EqNone.eq_none_none (Ao I q 70)
  |bl j=>cases ry;exact PySem.EqNone.eq_none_bool (Ao I q 70)
  |int j=>obtain⟨t',rfl⟩:=ry;exact PySem.EqNone.eq_none_int (Ao I q 70)
  |str j=>obtain⟨t',rfl⟩:=ry;exact PySem.EqNone.eq_none_str (Ao I q 70)
  |_=>exact absurd (show false=true from hs) Bool.false_ne_true
 |bl i=>
  cases rx;cases y with
  |non=>cases ry;exact PySem.EqNone.eq_bool_none (Ao I q 70)
  |bl j=>cases ry;exact eq_bool (Ao I q TD)
  |str j=>obtain⟨t',rfl⟩:=ry;exact PySem.EqMixed.eq_bool_str (Ao I q 70)
  |_=>exact absurd (show false=true from hs) Bool.false_ne_true
 |int i=>
  obtain⟨t,rfl⟩:=rx;cases y with
  |non=>cases ry;exact PySem.EqNone.eq_int_none (Ao I q 70)
  |int j=>obtain⟨t',rfl⟩:=ry;exact eq_int (Ao I q Ow)
  |str j=>obtain⟨t',rfl⟩:=ry;exact PySem.EqMixed.eq_int_str (Ao I q 70)
  |_=>exact absurd (show false=true from hs) Bool.false_ne_true
 |str i=>
  obtain⟨t,rfl⟩:=rx;cases y with
  |non=>cases ry;exact PySem.EqNone.eq_str_none (Ao I q 70)
  |bl j=>cases ry;exact PySem.EqMixed.eq_str_bool (Ao I q 70)
  |int j=>obtain⟨t',rfl⟩:=ry;exact PySem.EqMixed.eq_str_int (Ao I q 70)
  |str j=>obtain⟨t',rfl⟩:=ry;exact eq_str (Ao I q Ou)
  |_=>exact absurd (show false=true from hs) Bool.false_ne_true
 |byt i=>
  obtain⟨t,rfl⟩:=rx;cases y with
  |byt j=>obtain⟨t',rfl⟩:=ry;exact PySem.W.eq_bytes (Ao I q Ox)
  |_=>exact absurd (show false=true from hs) Bool.false_ne_true
 |_=>cases y<;>exact absurd (show false=true from hs) Bool.false_ne_true
def WG:OpR X (compareOp .NotEq) rNe:=by
 intro pins s σ H x y v u Q I rx ry h;obtain⟨hs,q⟩:=h;cases x with
 |non=>
  cases rx;cases y with
  |non=>cases ry;exact PySem.EqNone.ne_none_none (Ao I q 70)
  |bl j=>cases ry;exact PySem.EqNone.ne_none_bool (Ao I q 70)
  |int j=>obtain⟨t',rfl⟩:=ry;exact PySem.EqNone.ne_none_int (Ao I q 70)
  |str j=>obtain⟨t',rfl⟩:=ry;exact PySem.EqNone.ne_none_str (Ao I q 70)
  |_=>exact absurd (show false=true from hs) Bool.false_ne_true
 |bl i=>
  cases rx;cases y with
  |non=>cases ry;exact PySem.EqNone.ne_bool_none (Ao I q 70)
  |bl j=>cases ry;exact ne_bool (Ao I q (ji not TD))
  |str j=>obtain⟨t',rfl⟩:=ry;exact PySem.EqMixed.ne_bool_str (Ao I q 70)
  |_=>exact absurd (show false=true from hs) Bool.false_ne_true
 |int i=>
  obtain⟨t,rfl⟩:=rx;cases y with
  |non=>cases ry;exact PySem.EqNone.ne_int_none (Ao I q 70)
  |int j=>obtain⟨t',rfl⟩:=ry;exact ne_int (Ao I q (ji not Ow))
  |str j=>obtain⟨t',rfl⟩:=ry;exact PySem.EqMixed.ne_int_str (Ao I q 70)
  |_=>exact absurd (show false=true from hs) Bool.false_ne_true
 |str i=>
  obtain⟨t,rfl⟩:=rx;cases y with
  |non=>cases ry;exact PySem.EqNone.ne_str_none (Ao I q 70)
  |bl j=>cases ry;exact PySem.EqMixed.ne_str_bool (Ao I q 70)
  |int j=>obtain⟨t',rfl⟩:=ry;exact PySem.EqMixed.ne_str_int (Ao I q 70)
  |str j=>obtain⟨t',rfl⟩:=ry;exact ne_str (Ao I q (ji not Ou))
  |_=>exact absurd (show false=true from hs) Bool.false_ne_true
 |byt i=>
  obtain⟨t,rfl⟩:=rx;cases y with
  |byt j=>obtain⟨t',rfl⟩:=ry;exact PySem.W.ne_bytes (Ao I q (ji not Ox))
  |_=>exact absurd (show false=true from hs) Bool.false_ne_true
 |_=>cases y<;>exact absurd (show false=true from hs) Bool.false_ne_true
def WH:OpR X (compareOp .Lt) (rI0 λi j=>.bl (decide (i<j))):=Q3 λ_ _ _ _ _ _ _ q=>lt_int q
def eW:OpR X (compareOp .LtE) (rI0 λi j=>.bl (decide (i<=j))):=Q3 λ_ _ _ _ _ _ _ q=>le_int q
def f6:OpR X (compareOp .Gt) (rI0 λi j=>.bl (decide (j<i))):=Q3 λ_ _ _ _ _ _ _ q=>gt_int q
def WJ:OpR X (compareOp .GtE) (rI0 λi j=>.bl (decide (j<=i))):=Q3 λ_ _ _ _ _ _ _ q=>ge_int q
def OpR.or{f:Value->Value->Sem Value}{r r':R2}(h:OpR X f r)(h':OpR X f r'):OpR X f (λx y H Q=>r x y H Q∨r' x y H Q):=by
 intro pins s σ H x y v u Q I rx ry q;rcases q with q|q
 .exact h pins s σ H x y v u Q I rx ry q
 .exact h' pins s σ H x y v u Q I rx ry q
def G7(b:Expr){op:CmpOp}(h:op≠.In:=by decide)(h2:op≠.NotIn:=by decide):behindInMarks op b=false:=by
 have e1:(op==CmpOp.In)=false:=by cases op<;>first|rfl|exact absurd rfl h
 have e2:(op==CmpOp.NotIn)=false:=by cases op<;>first|rfl|exact absurd rfl h2
 cases b<;>simp[behindInMarks,e1,e2]
def OZ{op:CmpOp}{r:R2}(ho:OpR X (compareOp op) r)(ha:PE X a ta)(hb:PE X b tb)(hm:behindInMarks op b=false):PE X (.Compare a [op] [b] pos) (tOp r ta tb):=by
 intro pins s σ H Q I h;exact wpAny_Compare1 (Vl ha hb I h λv u s2 x y H2 I2 rx ry q=>ho pins s2 σ H2 x y v u Q I2 rx ry q) hm
noncomputable def Hv(t:TE):TT:=λσ H Q=>t σ H λx H'=>∃k,x=.bl k/\Q k H'
def Hz{op:CmpOp}{r:R2}(ho:OpR X (compareOp op) r)(ha:PE X a ta)(hb:PE X b tb)(hm:behindInMarks op b=false):PT X (.Compare a [op] [b] pos) (Hv (tOp r ta tb)):=by
 intro pins s σ H Q I h;refine wpAny_isTrue_Compare1 (thn (ha pins s σ H _ I h) λv s1 ⟨x,H1,I1,r1,q1⟩=>thn (hb pins s1 σ H1 _ I1 q1) λu s2 ⟨y,H2,I2,r2,q2⟩=>
  thn (ho pins s2 σ H2 x y v u _ I2 r1 r2 q2) λc s3 ⟨z,H3,I3,r3,k,e,q3⟩=>?_) hm
 subst e;cases r3;exact kj ⟨H3,I3,q3⟩
def Nb(K:Frag)(x:V)(H:Hp)(k:Bool):Prop:=
 match x with
 |.non=>k=false
 |.bl b=>k=b
 |.int i=>k=(i != 0)
 |.str y=>y.length<=sizeLine/\k=((y.length:Int) != 0)
 |.byt y=>y.size<=sizeLine/\k=((y.size:Int) != 0)
 |.ref p=>(∃xs,SqL K H p xs/\k=!xs.isEmpty)∨(∃xs,SqT K H p xs/\k=!xs.isEmpty)∨∃kvs,H p=some (.dK kvs)/\k=!kvs.isEmpty
 |_=>False
def QJ{κ:Type}{kvs:List (κ×V)}{vs:List (κ×Value)}(r:KV kvs vs):(!vs.isEmpty)=!kvs.isEmpty:=by
 cases r<;>rfl
def Jq{xs:List V}{its:List Value}(r:Vals xs its):(!its.toArray.isEmpty)=!xs.isEmpty:=by
 cases r<;>simp
def FO:(sizeLine:Nat)<2^63:=by rw[km];decide
def ZR:gC X (λx H Q=>∃k,Nb X.K x H k/\Q k H):=by
 intro pins s σ H x v Q I rx h;obtain⟨k,e,q⟩:=h;have hl:=FO;have hs:sizeLine=16777216:=km;cases x with
 |non=>
  cases rx;have e':k=false:=e;subst e';exact truthy_none ⟨H,I,q⟩
 |bl b=>
  cases rx;have e':k=b:=e;subst e';exact kj ⟨H,I,q⟩
 |int i=>
  obtain⟨t,rfl⟩:=rx;have e':k=(i != 0):=e;subst e';exact PySem.P.truthy_int ⟨H,I,q⟩
 |str y=>
  obtain⟨t,rfl⟩:=rx;obtain⟨hy,e'⟩:y.length<=sizeLine/\k=((y.length:Int) != 0):=e;subst e';exact PySem.P.truthy_str 66 ⟨H,I.tok _,q⟩
 |byt y=>
  obtain⟨t,rfl⟩:=rx;obtain⟨hy,e'⟩:y.size<=sizeLine/\k=((y.size:Int) != 0):=e;subst e';exact PySem.W.truthy_bytes 66 ⟨H,I.tok _,q⟩
 |ref p=>
  cases rx;have e':(∃xs,SqL X.K H p xs/\k=!xs.isEmpty)∨(∃xs,SqT X.K H p xs/\k=!xs.isEmpty)∨∃kvs,H p=some (.dK kvs)/\k=!kvs.isEmpty:=e;rcases e' with⟨xs,hx,e'⟩|⟨xs,hx,e'⟩|⟨kvs,hx,e'⟩
  .subst e';obtain⟨its,r,pl,hz⟩:=I.list hx;have hlen:=r.length;exact wpAny_truthy_list pl.isList (by simp only[iu];omega) ⟨H,I.tok _,by rw[Jq r];exact q⟩
  .subst e';obtain⟨its,r,pl,hz⟩:=I.tuple hx;have hlen:=r.length;exact truthy_tuple pl (by simp only[iu];omega) ⟨H,I.tok _,by rw[Jq r];exact q⟩
  .subst e';obtain⟨hz,hS,vs,r,m⟩:kvs.length<=sizeLine/\(p==sysModules)=false/\∃vs,KV kvs vs/\s.heap.DictOf (KM X.prog X.w) p vs:=I.hok p _ hx;have hlen:kvs.length=vs.length:=Paired.length r;exact wpAny_truthy_dict hS m 66 ⟨H,I.tok _,by rw[QJ r];exact q⟩
 |_=>exact(show False from e).elim
def Ut(ha:PE X a ta)(he:∀whole,isTrue a X.env whole=(do let v <- whole;standAt a.pos;holding [v] (truthy v))):
 PT X a (λσ H Q=>ta σ H λx H'=>∃k,Nb X.K x H' k/\Q k H'):=by
 intro pins s σ H Q I h;exact isTrue_plain (thn (ha pins s σ H _ I h) λv s1 ⟨x,H1,I1,r1,q1⟩=>ZR pins s1 σ H1 x v Q I1 r1 q1) (he _)
def CJ{x:V}{us:List Value}(r:Vals [x] us):∃u,us=[u]/\RelV x u:=by
 cases r with
 |cons r1 r2=>cases r2;exact⟨_,rfl,r1⟩
def Ld{x y:V}{us:List Value}(r:Vals [x,y] us):∃u w',us=[u,w']/\RelV x u/\RelV y w':=by
 cases r with
 |cons r1 r2=>
  cases r2 with
  |cons r3 r4=>cases r4;exact⟨_,_,rfl,r1,r3⟩
def Vi:CallR X (.builtin "abs") (λxs H Q=>∃i,xs=[.int i]/\Q (.int (if i<0 then -i else i)) H):=by
 intro pins s σ H xs us Q I r h;obtain⟨i,rfl,q⟩:=h;obtain⟨u,rfl,t,rfl⟩:=CJ r;exact call_abs_int λu tk=>⟨.int (if i<0 then -i else i),H,I.tok _,⟨_,rfl⟩,q⟩
def TR(hc:X.calm=true):CallR X (.builtin "min") (λxs H Q=>∃i j,xs=[.int i,.int j]/\Q (.int (if j<i then j else i)) H):=by
 intro pins s σ H xs us Q I r h;obtain⟨i,j,rfl,q⟩:=h;obtain⟨u,w',rfl,⟨t,rfl⟩,⟨t',rfl⟩⟩:=Ld r;refine min_two_ints (I.ok.hd hc) λh' tk k=>⟨_,H,I.kept k,?_,q⟩
 by_cases hj:j<i
 .rw[ic hj,ic hj];exact⟨_,rfl⟩
 .rw[ig hj,ig hj];exact⟨_,rfl⟩
end
structure Room(k:Nat)(A:Around):Prop where
 hd:A.handled=none
 dp:A.depth+3*k+5<recursionLimit
 un:A.units+16*k+200<cLine
 gd:A.guards=some []
def Room.mono{j k:Nat}{A:Around}(r:Room k A)(h:j<=k):Room j A:=⟨r.hd,by have:=r.dp;omega,by have:=r.un;omega,r.gd⟩
theorem Room.deeper{k:Nat}{A:Around}(r:Room (k+1) A)(env:Env):Room k (A.deeper env):=
 ⟨r.hd,by have:=r.dp;show A.depth+1+3*k+5<_;omega,by have:=r.un;show A.units+3+16*k+200<_;omega,by first|exact r.gd|(simpa [Around.deeper,Around.under,Code.guards,Code.isGuard,pushGuards]using r.gd)⟩
theorem Room.depth{k:Nat}{A:Around}(r:Room k A):A.depth<recursionLimit:=by have:=r.dp;omega
theorem Room.units{k:Nat}{A:Around}(r:Room k A):A.units+64<cLine:=by have:=r.un;omega
noncomputable def Bn:TA:=λ_ H Q=>Q [] H
noncomputable def BD(ta:TE)(tr:TA):TA:=λσ H Q=>ta σ H λx H1=>tr σ H1 λxs H2=>Q (x::xs) H2
section
variable{X:Cx}{e:Expr}{es:List Expr}{te:TE}{t:TA}{pos:Pos}
def Ca:PA X [] Bn:=λ_ _ _ _ H Q I h=>Calls.spliced_nil ⟨[],H,I,.nil,h⟩
def Bu(ha:PE X e te)(hr:PA X es t)(hs:starEach (e::es) X.env=(false,eval e X.env)::starEach es X.env:=by rfl):PA X (e::es) (BD te t):=by
 intro pos pins s σ H Q I h;rw[hs];show wpAny _ _ (spliced ((false,eval e X.env)::backTo pos (starEach es X.env))) _ _ s;refine Calls.spliced_cons (thn (ha pins s σ H _ I h) λu s1 ⟨x,H1,I1,r1,q1⟩=>?_);exact thn (hr pos pins s1 σ H1 _ I1 q1) λus s2 ⟨xs,H2,I2,r2,q2⟩=>⟨x::xs,H2,I2,.cons r1 r2,q2⟩
noncomputable def Tt(t:TA):TE:=λσ H Q=>t σ H λxs H1=>79<=sizeLine/\∀p,H1 p=none->Q (.ref p) (upd H1 p (.tup xs))
noncomputable def U0(t:TA):TE:=λσ H Q=>t σ H λxs H1=>79<=sizeLine/\∀p,H1 p=none->Q (.ref p) (upd H1 p (.lst xs))
def bV{x1}(h:PA X es t):PE X (.Tuple es x1 pos) (Tt t):=by
 intro pins s σ H Q I hq;refine wpAny_Tuple_spliced (thn (h pos pins s σ H _ I hq) λus s1 ⟨xs,H1,I1,r,z,q⟩=>⟨by rw[<- r.length];exact z,?_⟩);have hf:H1 s1.heap.objs.size=none:=I1.hok.fresh (iq _);refine⟨.ref s1.heap.objs.size,upd H1 s1.heap.objs.size (.tup xs),I1.laid (t':=s1.toks) (λb u e=>74 _ e) (iq _) ?_,rfl,q _ hf⟩;exact⟨z,us,r,⟨_,85 _ rfl,rfl,⟨_,rfl⟩,rfl⟩⟩
def ba(h:PA X es t):PE X (.List es pos) (U0 t):=by
 intro pins s σ H Q I hq;refine wpAny_List_spliced (thn (h pos pins s σ H _ I hq) λus s1 ⟨xs,H1,I1,r,z,q⟩=>⟨by rw[<- r.length];exact z,?_⟩);have hf:H1 s1.heap.objs.size=none:=I1.hok.fresh (iq _);refine⟨.ref s1.heap.objs.size,upd H1 s1.heap.objs.size (.lst xs),I1.laid (t':=s1.toks) (λb u e=>74 _ e) (iq _) ?_,rfl,q _ hf⟩;exact⟨z,us,0,r,85 _ rfl⟩
end
noncomputable abbrev Sp:=List V->Hp->VK->XK->Prop
noncomputable abbrev CXT:=List Env->Hp->Shared->XK->Value->Shared->Prop
structure Env0(P:Program)(w:World)(K:Frag)(mg:Str->Option Value)(base:Heap)(A:Around)(outer:List Env)(s:Shared)(H:Hp):Prop where
 frames:A.frames=some outer
 mod:Mod K mg base
 bs:∀b o,base.get? b=some o->s.heap.get? b=some o/\H b=none
 bsz:base.objs.size<=67
 funs:s.heap.FunFrames base outer
 frf:∀b∈frs outer,H b=none
 hok:HOk P w H s.heap
 bare:AllBare s.gens
def CE(outer:List Env)(P:Program)(w:World)(H:Hp)(s:Shared)(Q:VK)(u:Value)(s':Shared):Prop:=
 ∃v H',s'.os=s.os/\AllBare s'.gens/\Un (frs outer) [] H H' s.heap s'.heap/\HOk P w H' s'.heap/\RelV v u/\Q v H'
def CR(CX:CXT)(outer:List Env)(P:Program)(w:World)(H:Hp)(s:Shared)(Q:VK)(E:XK)(r:Result)(s':Shared):Prop:=
 match r with
 |.ok (.ret u)=>CE outer P w H s Q u s'
 |.ok _=>False
 |.error e=>CX outer H s E e s'
structure FnOk(P:Program)(w:World)(K:Frag)(mg:Str->Option Value)(base:Heap)(CX:CXT)(k:Nat)(f:Addr)(fd:FuncData)(ps:List Str)(sp:Sp):Prop where
 len:∀vs H Q E,sp vs H Q E->vs.length=ps.length
 run:∀(A:Around) (outer:List Env) (s:Shared) (H:Hp) (args:Args) (us:List Value) (vs:List V) (Q:VK) (E:XK),Room k A->Env0 P w K mg base A outer s H->BindsTo s fd args (ps.zip us)->Vals vs us->sp vs H Q E ->
  codeAny (model P w) A (.call (.ref f) args) (CR CX outer P w H s Q E) s
theorem FnOk.mono{P:Program}{w:World}{K:Frag}{mg:Str->Option Value}{base:Heap}{CX:CXT}{j k:Nat}{f:Addr}{fd:FuncData}{ps:List Str}{sp:Sp}(F:FnOk P w K mg base CX j f fd ps sp)(h:j<=k):
 FnOk P w K mg base CX k f fd ps sp:=⟨F.len,λA outer s H args us vs Q E hr=>F.run A outer s H args us vs Q E (hr.mono h)⟩
section
variable{X:Cx}{pins:List (Addr×Obj)}{σ:St}{H:Hp}{s s':Shared}
def Inv.env0(I:83):Env0 X.prog X.w X.K X.mg X.base X.A X.stack s H:=
 ⟨I.ok.frames,I.ok.mod,I.bs,jo I.ok.bsz I.sz,I.stack,I.stkFree,I.hok,I.bare⟩
def Inv.after{Q:VK}{u:Value}(I:83)(h:CE X.stack X.prog X.w H s Q u s'):EP X pins σ Q u s':=by
 obtain⟨v,H',os,bare,un,hok,r,q⟩:=h;obtain⟨hh,g,d,t,os'⟩:=s';obtain rfl:os'=s.os:=os;exact⟨v,H',I.call (h':=hh) (g':=g) (d':=d) (t':=t) (ch:=[]) un hok bare (λb z=>absurd z 70),r,q⟩
end
noncomputable def DW(sp:Sp)(dvs:List V)(E:XK)(t:TA):TE:=λσ H Q=>t σ H λvs H1=>sp (vs++dvs) H1 Q E
def Binds(K:Frag)(fd:FuncData)(ps:List Str)(ds:List Value):Prop:=
 ∀(s:Shared) (us:List Value),K.In s.heap->(us++ds).length=ps.length->BindsTo s fd ⟨us,[]⟩ (ps.zip (us++ds))
def Binds.all{K:Frag}{fd:FuncData}{ps:List Str}(h:∀us:List Value,us.length=ps.length->bindArgs fd ⟨us,[]⟩=pure (ps.zip us)):Binds K fd ps []:=λs us _ hl=>by
 rw[je]at hl ⊢;exact .of_eq (h us hl)
def Ng(CX:CXT)(X:Cx)(E:XK):Prop:=∀(pins:List (Addr×Obj)) (σ:St) (H:Hp) (s:Shared) (e:Value) (s':Shared),Inv X pins σ H s->CX X.stack H s E e s'->X.xe e s'
section
variable{X:Cx}{CX:CXT}{k:Nat}{f C:Addr}{fd:FuncData}{ps:List Str}{sp:Sp}{dvs:List V}{ds:List Value}{E:XK}{x m:Str}{p pos apos:Pos}{e o:Expr}{es:List Expr}{ta:TE}{t:TA}
def ZZ{pins:List (Addr×Obj)}{σ:St}{H:Hp}{s:Shared}{Q:VK}{us:List Value}{vs:List V}(F:FnOk X.prog X.w X.K X.mg X.base CX k f fd ps sp)(hr:Room k X.A)(hb:Binds X.K fd ps ds)(hd:Vals dvs ds)(hx:Ng CX X E)
 (I:83) (r:Vals vs us) (h:sp (vs++dvs) H Q E):wpAny 73 X.A (call (.ref f) us) (EP X pins σ Q) X.xe s:=by
 have r2:Vals (vs++dvs) (us++ds):=r.append hd;have hl:(us++ds).length=ps.length:=by rw[<- r2.length];exact F.len _ _ _ _ h
 refine wpAny_call (codeAny_mono (F.run X.A X.stack s H ⟨us,[]⟩ (us++ds) (vs++dvs) Q E hr I.env0 (hb s us I.kIn hl) r2 h) λr s' hq=>?_);cases r with
 |error e=>exact hx pins σ H s e s' I hq
 |ok fl=>
  cases fl with
  |ret u=>exact I.after hq
  |next=>exact False.elim hq
  |brk=>exact False.elim hq
  |cont=>exact False.elim hq
def YV(F:FnOk X.prog X.w X.K X.mg X.base CX k f fd ps sp)(hr:Room k X.A)(hg:Gl X x)(hm:X.mg x=some (.ref f))(hk:keepIn X.K (.ref f)=true)(hb:Binds X.K fd ps ds)(hd:Vals dvs ds)(hx:Ng CX X E)
 (ha:PA X (e::es) t) (hdb:(x==("__debug__":Str))=false:=by decide) (he:starEach (e::es) X.env=(false,eval e X.env)::starEach es X.env:=by rfl) (hpl:(backTo pos (starEach es X.env)).any (·.1)=false:=by rfl):
 PE X (.Call (.Name x p) (e::es) [] pos) (DW sp dvs E t):=by
 intro pins s σ H Q I h;refine kz (Yu I hg hm ?_ hdb);refine PySem.W.callWith_K (h₀:=X.base) I.ok.mod.kin hk (thn (ha pos pins s σ H _ I h) λus s1 ⟨vs,H1,I1,r,q⟩=>⟨I1.kIn,?_⟩) he hpl;exact ZZ F hr hb hd hx I1 r q
end
structure FnScope(N P:List Str)(sc:Scope):Prop where
 kind:sc.kind=.function
 co:sc.isCoroutine=false
 gen:sc.isGenerator=false
 nd:N.Nodup
 pre:N.take P.length=P
 par:∀x∈P,sc.names.lookup x=some .local∨sc.names.lookup x=some .cell
 nofree:∀y∈sc.names,y.2≠.free
theorem LM{kindOf:Str->Option NameKind}{x:Str}:∀{binds:List (Str×Value)} {m:Str->Option Value},(∀v,(x,v)∉binds)->bindL kindOf binds m x=m x
 |[],_,_=>rfl
 |(n,v)::r,m,h=>by
   unfold bindL;rw[LM λw hw=>h w (j4 _ hw)];split
   .have:x≠n:=by rintro rfl;exact h v jg
    simp[this]
   .rfl
theorem LO{kindOf:Str->Option NameKind}{x:Str}:∀{binds:List (Str×Value)} {m:Str->Option Value},(∀v,(x,v)∉binds)->bindC kindOf binds m x=m x
 |[],_,_=>rfl
 |(n,v)::r,m,h=>by
   unfold bindC;rw[LO λw hw=>h w (j4 _ hw)];split
   .rfl
   .have:x≠n:=by rintro rfl;exact h v jg
    simp[this]
theorem LN{kindOf:Str->Option NameKind}{x:Str}{v:Value}:∀{P:List Str} {vs:List Value} {i:Nat} {m:Str->Option Value},P.Nodup->P[i]?=some x->vs[i]?=some v->kindOf x=some .local ->
 bindL kindOf (P.zip vs) m x=some v
 |[],_,_,_,_,h,_,_=>by simp at h
 |_::_,[],_,_,_,_,h,_=>by simp at h
 |p::P,w::vs,0,m,nd,h1,h2,hk=>by
  simp at h1 h2;subst h1;subst h2;show bindL kindOf ((p,w)::P.zip vs) m p=_;unfold bindL;rw[LM λv hv=>(nodup_cons.mp nd).1 (List.of_mem_zip hv).1,ic hk];simp
 |p::P,w::vs,i+1,m,nd,h1,h2,hk=>by
  show bindL kindOf ((p,w)::P.zip vs) m x=_;unfold bindL;exact LN (i:=i) (nodup_cons.mp nd).2 (by simpa using h1) (by simpa using h2) hk
theorem LP{kindOf:Str->Option NameKind}{x:Str}{v:Value}:∀{P:List Str} {vs:List Value} {i:Nat} {m:Str->Option Value},P.Nodup->P[i]?=some x->vs[i]?=some v->kindOf x≠some .local ->
 bindC kindOf (P.zip vs) m x=some v
 |[],_,_,_,_,h,_,_=>by simp at h
 |_::_,[],_,_,_,_,h,_=>by simp at h
 |p::P,w::vs,0,m,nd,h1,h2,hk=>by
  simp at h1 h2;subst h1;subst h2;show bindC kindOf ((p,w)::P.zip vs) m p=_;unfold bindC;rw[LO λv hv=>(nodup_cons.mp nd).1 (List.of_mem_zip hv).1,ig hk];simp
 |p::P,w::vs,i+1,m,nd,h1,h2,hk=>by
  show bindC kindOf ((p,w)::P.zip vs) m x=_;unfold bindC;exact LP (i:=i) (nodup_cons.mp nd).2 (by simpa using h1) (by simpa using h2) hk
noncomputable def Cs(N:List Str)(vs:List V):St:=vs.map some++List.replicate (N.length-vs.length) none
noncomputable def Ho(CX:CXT)(P:Program)(w:World)(K:Frag)(mg:Str->Option Value)(base:Heap)(N:List Str)(qual:Str)(scope:Scope)(f:Addr)(cd:Value)(A:Around)(outer:List Env)(s:Shared)(H:Hp)(E:XK):Cx where
 prog:=P
 w:=w
 K:=K
 mg:=mg
 base:=base
 A:=A.deeper (envOfC qual scope 67 f cd)
 N:=N
 s₀:=s
 H₀:=H
 env:=envOfC qual scope 67 f cd
 outer:=outer
 stack:=envOfC qual scope 67 f cd::outer
 ex:=[]
 calm:=true
 fn:=λ_=>true
 pn:=[]
 xe:=λe s'=>wpAny (model P w) (A.deeper (envOfC qual scope 67 f cd)) (leaving (envOfC qual scope 67 f cd) e) (λ_ s''=>CX outer H s E e s'') (λe' s''=>CX outer H s E e' s'') s'
def NR{sc:Scope}{n:Nat}{x:Str}(h:sc.names.lookup x=some .cell):∃c,(cellsFrom n sc.names []).lookup x=some c:=by
 have q:=PySem.W.cellsFrom_some sc.names n [] (.inl h);exact isSome_iff_exists.mp q
def Sr{CX:CXT}{P:Program}{w:World}{K:Frag}{mg:Str->Option Value}{base:Heap}{N ps:List Str}{qual:Str}{scope:Scope}{f:Addr}{cd:Value}{A:Around}{outer:List Env}{s s1:Shared}{H:Hp}{E:XK}{us:List Value}{vs:List V}
 (S:FnScope N ps scope) (hd:A.handled=none) (e0:Env0 P w K mg base A outer s H) (hl:vs.length=ps.length) (r:Vals vs us)
 (x:InCallC s 67 (bindL (envOfC qual scope 67 f cd).kindOf (ps.zip us) λ_=>none) (cellsFrom (67+1) scope.names []) (bindC (envOfC qual scope 67 f cd).kindOf (ps.zip us) λ_=>none) s1):
 Inv (Ho CX P w K mg base N qual scope f cd A outer s H E) [] (Cs N vs) H s1:=by
 have hpl:ps.length<=N.length:=by have:=ji List.length S.pre;rw[jB]at this;omega
 obtain⟨h1,tk,rfl,hk⟩:=x.done;have noA:∀b:Addr,b∉(Ho CX P w K mg base N qual scope f cd A outer s H E).ex:=λb z=>absurd (show b∈([]:List Addr)from z) 70;refine⟨⟨e0.mod,S.kind,rfl,rfl,iq _,λy z c h1 h2=>?_,λy hy=>?_,λy c _ h=>?_,λ_=>hd,Around.frames_deeper e0.frames,.inr ⟨rfl,rfl⟩,λb z=>absurd z (noA b),e0.bs,e0.bsz,λb _ _=>noA b,λb z=>absurd z (noA b),e0.funs,e0.frf⟩,
  rfl,e0.bare,Un.kept hk,⟨_,x.toInCall.ns,λi y v h1 h2 h3=>?_⟩,λy c h=>⟨_,x.cell y c h⟩,e0.hok.fresh (iq _),λy c h=>?_,λp hp=>absurd (show p∈([]:List (Addr×Obj))from hp) 70,e0.hok.kept hk,?_⟩
 .exact name_of_addr x.apart (PySem.mem_of_lookup h1) (PySem.mem_of_lookup h2)
 .have hy:scope.names.lookup y=some .cell∨scope.names.lookup y=some .free:=hy;rcases hy with hy|hy
  .exact NR hy
  .exact absurd rfl (S.nofree _ (PySem.mem_of_lookup hy))
 .exact ja (x.above y c (PySem.mem_of_lookup h))
 .have hi:i<vs.length:=by
   unfold Cs at h2;by_cases hi:i<vs.length
   .exact hi
   .rw[List.getElem?_append_right (by simpa using hi)]at h2;rw[List.getElem?_replicate]at h2;split at h2<;>cases h2
  have ha:vs[i]?=some v:=by
   unfold Cs at h2;rw[List.getElem?_append_left (by simpa using hi),List.getElem?_map]at h2;cases e:vs[i]? with
   |none=>rw[e]at h2;cases h2
   |some a=>rw[e]at h2;cases h2;rfl
  obtain⟨u,hu,rv⟩:=r.get ha;have hp:ps[i]?=some y:=by
   rw[<- S.pre,List.getElem?_take_of_lt 66];exact h1
  have ndP:ps.Nodup:=by rw[<- S.pre];exact S.nd.sublist (List.take_sublist _ _)
  refine⟨u,rv,?_⟩;rcases S.par y (j5 hp)with k|k
  .exact .inl ⟨k,LN ndP hp hu k⟩
  .obtain⟨c,e⟩:=NR (n:=67+1) k;refine .inr ⟨.inl k,c,e,?_⟩;have q:=x.cell y c e;rw[LP ndP hp hu (by show scope.names.lookup y≠_;rw[k];decide)]at q;exact q
 .exact e0.hok.fresh (ja (x.above y c (PySem.mem_of_lookup h)))
 .unfold Cs;show _=N.length;rw[iV,iX,List.length_replicate];omega
def fC{CX:CXT}{P:Program}{w:World}{K:Frag}{mg:Str->Option Value}{base:Heap}{k:Nat}{f:Addr}{name qual:Str}{params:Arguments}{body:List Stmt}{scope:Scope}{dV kV doc pm cdv ct oc:Value}{an od:Option Addr}
 {osl:Array (Option Value)} {N ps:List Str} {sp:Sp} (lk:K.lookup f=some ⟨oc,od,.func (fnOf name qual params body scope dV kV doc pm an cdv ct),osl⟩) (hcd:codeIn K cdv qual=true) (S:FnScope N ps scope)
 (len:∀vs H Q E,sp vs H Q E->vs.length=ps.length)
 (hbody:∀(A:Around) (outer:List Env) (s:Shared) (H:Hp) (vs:List V) (Q:VK) (E:XK),Room k (A.deeper (envOfC qual scope 67 f cdv))->sp vs H Q E ->
  ∃t,PSs (Ho CX P w K mg base N qual scope f cdv A outer s H E) body t/\t { nx:=λ_ H'=>Q .non H',rt:=Q } (Cs N vs) H):
 FnOk P w K mg base CX (k+1) f (fnOf name qual params body scope dV kV doc pm an cdv ct) ps sp:=by
 refine⟨len,λA outer s H args us vs Q E hr e0 hb r hsp=>?_⟩;have hl:=len _ _ _ _ hsp;have KX:K.In s.heap:=e0.mod.kin.keeps λb o e=>(e0.bs b o e).1;have lim:s.heap.NoLimit:=e0.mod.nolimit.keeps λb o e=>(e0.bs b o e).1;have hkind:∀y∈ps.zip us,scope.names.lookup y.1=some .local∨(scope.names.lookup y.1=some .cell/\((cellsFrom (67+1) scope.names []).lookup y.1).isSome=true):=λ⟨n,v⟩ hy=>by
  rcases S.par n (List.of_mem_zip hy).1 with q|q
  .exact .inl q
  .exact .inr ⟨q,PySem.W.cellsFrom_some _ _ _ (.inl q)⟩
 refine codeAny_call_function hr.depth (KX _ _ lk) rfl S.co S.gen rfl (PySem.W.codeRec_of KX hcd) (hb _ _ _ _ ?_);refine wpAny_newFunctionEnv_cells S.kind hkind λenv he s1 x=>?_;subst he;refine⟨lim.keeps x.toInCall.keep,codeAny_func ?_⟩;obtain⟨t,ht,hq⟩:=hbody A outer s H vs Q E (hr.deeper _) hsp;have I:Inv (Ho CX P w K mg base N qual scope f cdv A outer s H E) [] (Cs N vs) H s1:=Sr S hr.hd e0 hl r x;refine j0 (ht [] s1 (Cs N vs) H _ I hq) (λfl s' hs=>?_) λe s' hs=>hs;have fin:∀{σ':St} {H':Hp} {v:V} {u:Value},Inv (Ho CX P w K mg base N qual scope f cdv A outer s H E) [] σ' H' s'->RelV v u->Q v H'->CE outer P w H s Q u s':=
  λ{σ' H' v u} J rv q=>⟨v,H',J.os,J.bare,J.base,J.hok,rv,q⟩
 cases fl with
 |ret u=>
  obtain⟨v,σ',H',J,rv,q⟩:=hs;exact fin J rv q
 |next=>
  obtain⟨σ',H',J,q⟩:=hs;exact fin (v:=V.non) (u:=Value.none) J rfl q
 |brk=>
  obtain⟨_,_,_,q⟩:=hs;exact False.elim q
 |cont=>
  obtain⟨_,_,_,q⟩:=hs;exact False.elim q
section
variable{X:Cx}{x:Str}{p pos:Pos}{e:Expr}{es:List Expr}{t:TA}{id T:String}{r:List V->Hp->VK->Prop}
noncomputable def tCB(r:List V->Hp->VK->Prop)(t:TA):TE:=λσ H Q=>t σ H λvs H1=>r vs H1 Q
def E2(hc:CallR X (.builtin id) r)(hg:Gl X x)(hm:X.mg x=none)(hv:bootBuiltins x=some (.builtin id))(ha:PA X (e::es) t)(hn:x≠"__name__":=by decide)(hdb:(x==("__debug__":Str))=false:=by decide)
 (he:starEach (e::es) X.env=(false,eval e X.env)::starEach es X.env:=by rfl) (hpl:(backTo pos (starEach es X.env)).any (·.1)=false:=by rfl):PE X (.Call (.Name x p) (e::es) [] pos) (tCB r t):=by
 intro pins s σ H Q I h;refine kz (Dg I hg hm hv ?_ hn hdb);exact PyProof.Rows.callWith_builtin1 (thn (ha pos pins s σ H _ I h) λus s1 ⟨vs,H1,I1,r1,q1⟩=>hc pins s1 σ H1 vs us Q I1 r1 q1) he hpl
def EQ(hc:CallR X (.type T) r)(hg:Gl X x)(hm:X.mg x=none)(hv:bootBuiltins x=some (.type T))(ha:PA X (e::es) t)(hn:x≠"__name__":=by decide)(hdb:(x==("__debug__":Str))=false:=by decide)
 (he:starEach (e::es) X.env=(false,eval e X.env)::starEach es X.env:=by rfl) (hpl:(backTo pos (starEach es X.env)).any (·.1)=false:=by rfl):PE X (.Call (.Name x p) (e::es) [] pos) (tCB r t):=by
 intro pins s σ H Q I h;refine kz (Dg I hg hm hv ?_ hn hdb);exact PyProof.Rows.callWith_type1 (thn (ha pos pins s σ H _ I h) λus s1 ⟨vs,H1,I1,r1,q1⟩=>hc pins s1 σ H1 vs us Q I1 r1 q1) he hpl
end
end L2
namespace HT
open PySem PyProof.Rows
section
variable{prog:Program}{w:World}{A:Around}{E:77}{s:Shared}
def cat_tup{t b:Addr}{vs ws:List Value}{Q:77}(ht:IsTup s.heap t vs.toArray)(hb:IsTup s.heap b ws.toArray)(hv:vs≠[])
 (h1:ws=[]->Q (.ref t) s) (h2:ws≠[]->Q (.ref 67) { s with heap:=s.heap.push { cls:=.type "tuple",data:=.seq (vs++ws).toArray } })
 (hsz:vs.length+68<=sizeLine):wpAny 87 A (binaryOp .Add (.ref t) (.ref b)) Q E s:=by
 obtain⟨⟨cls,dd,data,sl⟩,ho,hc,n,hd⟩:=id ht;obtain⟨⟨cls2,dd2,data2,sl2⟩,ho2,hc2,n2,hd2⟩:=id hb;simp only at hc hd hc2 hd2;subst hc hd hc2 hd2;have e:vs.toArray++ws.toArray=(vs++ws).toArray:=by simp
 by_cases hw:ws=[]
 .exact concat_meets ⟨_,ho,rfl⟩ ⟨_,ho2,rfl⟩ noFill_tuple_add seq_tuple_add PySem.F.slot_tuple_add PySem.F.entry_tuple_add (PySem.F.args_tuple_add_2 _ _)
   (tuple_addW1 t b vs.toArray ws.toArray n n2 dd dd2 sl sl2 (by simpa using hv) (by simp[hw])) ⟨ho,ho2,h1 hw⟩
 .refine concat_meets ⟨_,ho,rfl⟩ ⟨_,ho2,rfl⟩ noFill_tuple_add seq_tuple_add PySem.F.slot_tuple_add PySem.F.entry_tuple_add (PySem.F.args_tuple_add_2 _ _)
   (tuple_addW2 t b vs.toArray ws.toArray n n2 dd dd2 sl sl2 (by simpa using hv) (by simpa using hw) (by rw[iu,iu];exact hsz)) ⟨ho,ho2,?_⟩
  rw[e];exact h2 hw
noncomputable def sIx(n d:Nat):Option Int->Nat
 |none=>d
 |some v=>if v<0 then(v+(n:Int)).toNat else min v.toNat n
def sIx_none(n d:Nat):sIx n d none=d:=rfl
def sIx_nat(n d k:Nat):sIx n d (some (k:Int))=min k n:=by
 show(if(k:Int)<0 then((k:Int)+(n:Int)).toNat else min (k:Int).toNat n)=min k n;rw[ig 66,jj]
def ZX(n d:Nat)(hd:d<=n)(o:Option Int):sIx n d o<=n:=by
 cases o with
 |none=>exact hd
 |some v=>
  show(if v<0 then(v+(n:Int)).toNat else min v.toNat n)<=n;by_cases hv:v<0
  .rw[ic hv];omega
  .rw[ig hv];exact Nat.min_le_right _ _
def P3(v:Int)(n d:Nat):(if v<0 then max (v+(n:Int)) 0 else min v (n:Int))=((sIx n d (some v):Nat):Int):=by
 show(if v<0 then max (v+(n:Int)) 0 else min v (n:Int))=(((if v<0 then(v+(n:Int)).toNat else min v.toNat n):Nat):Int);by_cases hv:v<0
 .simp only[ic hv];omega
 .simp only[ig hv];omega
def Ql(lo hi:Option Int)(n:Nat):Builtin.Slice.sliceAdjust lo hi 1 (n:Int)=(((sIx n 0 lo:Nat):Int),((sIx n n hi:Nat):Int)):=by
 have h1:¬ ((1:Int)<0):=by omega
 unfold Builtin.Slice.sliceAdjust;simp only[h1,jy];refine Prod.ext ?_ ?_
 .cases lo with
  |none=>rfl
  |some v=>exact P3 v n 0
 .cases hi with
  |none=>rfl
  |some v=>exact P3 v n n
def Pz(i j:Nat):Builtin.Slice.slicePlaces (i:Int) (j:Int) 1=j-i:=by
 unfold Builtin.Slice.slicePlaces;have h1:(1:Int)>0:=by omega
 simp only[h1,iU,Int.ediv_one];split<;>omega
def JV{v:Value}{o:Option Int}{Q:Option Int->Shared->Prop}(p:IsPart v o)(h:Q o s):wpAny 87 A (Builtin.Slice.slicePartIndex v) Q E s:=by
 cases p with
 |none=>exact slicePart_none h
 |int i t=>exact slicePart_int h
def FC{sl:Addr}{vl vu:Value}{lo hi:Option Int}{n:Nat}{Q:Int×Int×Nat->Shared->Prop}(hs:s.heap.IsSliceOf sl vl vu .none)(pl:IsPart vl lo)(pu:IsPart vu hi)
 (h:Q (((sIx n 0 lo:Nat):Int),1,sIx n n hi-sIx n 0 lo) s):wpAny 87 A (Builtin.Slice.sliceApplied (.ref sl) (pure (n:Int))) Q E s:=by
 obtain⟨os,hos,hcs,hds⟩:=id hs;unfold Builtin.Slice.sliceApplied Builtin.Slice.sliceFields;refine ie (ie (jA hos hds (x:=vl) rfl (ie (jA hos hds (x:=vu) rfl (ie (jA hos hds (x:=.none) rfl (ip ?_)))))));refine ie (slicePart_none ?_);show wpAny _ _ (if((1:Int)==0)=true then _ else _) _ _ s;rw[ig 80];refine ie (JV pl (ie (JV pu (ie (ip ?_)))));show wpAny _ _ (match Builtin.Slice.sliceAdjust lo hi 1 (n:Int)with|(lo,hi)=>pure (lo,(1:Int),Builtin.Slice.slicePlaces lo hi 1)) _ _ s;rw[Ql lo hi n];show wpAny _ _ (pure (((sIx n 0 lo:Nat):Int),(1:Int),Builtin.Slice.slicePlaces ((sIx n 0 lo:Nat):Int) ((sIx n n hi:Nat):Int) 1)) _ _ s;rw[Pz];exact ip h
def V3(xs:Array Value)(i k:Nat):((69 k).filterMap λ(m:Nat)=>xs[((i:Int)+(m:Int)*1).toNat]?).toArray=((xs.toList.drop i).take k).toArray:=by
 have e:(λ(m:Nat)=>xs[((i:Int)+(m:Int)*1).toNat]?)=λm=>xs[i+m]? := by
  funext m
  have:((i:Int)+(m:Int)*1).toNat=i+m:=by omega
  rw[this]
 rw[e];have:=pick_run xs i k;rw[List.filterMap_map]at this;have e2:((λx=>xs[x]?) ∘ λx=>i+x)=λm=>xs[i+m]? := rfl;rw[e2]at this;rw[this]
def getItem_tuple_cut{t sl:Addr}{items:Array Value}{vl vu:Value}{lo hi:Option Int}{Q:77}(ht:IsTup s.heap t items)(hs:s.heap.IsSliceOf sl vl vu .none)(pl:IsPart vl lo)(pu:IsPart vu hi)
 (hw:¬ (sIx items.size 0 lo=0/\sIx items.size items.size hi=items.size))
 (h:Q (.ref 67) { s with heap:=s.heap.push { cls:=.type "tuple",data:=.seq ((items.toList.drop (sIx items.size 0 lo)).take (sIx items.size items.size hi-sIx items.size 0 lo)).toArray } })
 (hsz:items.size<=sizeLine):wpAny 87 A (getItem (.ref t) (.ref sl)) Q E s:=by
 have htake:sizeOk (.seq ((items.toList.drop (sIx items.size 0 lo)).take (sIx items.size items.size hi-sIx items.size 0 lo)).toArray):=by
  show((items.toList.drop (sIx items.size 0 lo)).take (sIx items.size items.size hi-sIx items.size 0 lo)).toArray.size<=sizeLine;rw[iu,jB,kd,Array.length_toList];omega
 have hj:sIx items.size items.size hi<=items.size:=ZX _ _ (iq _) hi;obtain⟨os,hos,hcs,hds⟩:=id hs;have hTs:s.TypeIs (.ref sl) "slice":=⟨os,hos,hcs⟩
 unfold getItem
 try with_reducible refine jU ?_
 first|refine ie (ip ?_)|skip
 refine ie (wpAny_sequenceKey ht.typeIs 80 ?_);refine ie (kq (name:=Str.ofString "__getitem__") ht.typeIs PyProof.Rows.slot_tuple_getitem
  (k9 PyProof.Rows.slot_tuple_getitem ht.typeIs entry_tuple_getitem ?_ (args_tuple_getitem _ _)))
 show wpAny _ _ (Builtin.Tuple.tupleItemsOf (.ref t) >>= _) _ _ s;refine ie (tupleItemsOf_ ht ?_);refine ie (wpAny_typeOf hTs ?_);rw[ic 80];refine ie (FC hs pl pu ?_);have hno:¬ ((((sIx items.size 0 lo:Nat):Int)==0&&(1:Int)==1&&(sIx items.size items.size hi-sIx items.size 0 lo)==items.size)=true):=by
  intro q;rw[Bool.and_eq_true,Bool.and_eq_true]at q;have q1:((sIx items.size 0 lo:Nat):Int)=0:=eq_of_beq q.1.1;have q2:sIx items.size items.size hi-sIx items.size 0 lo=items.size:=eq_of_beq q.2;exact hw ⟨by omega,by omega⟩
 show wpAny _ _ (if(((sIx items.size 0 lo:Nat):Int)==0&&(1:Int)==1&&(sIx items.size items.size hi-sIx items.size 0 lo)==items.size)=true then _ else _) _ _ s;rw[ig hno,V3]
 first
  |exact ie (m:=Builtin.Tuple.tupleExact _) (jV (ip ⟨_,rfl,ip h⟩) htake)
  |exact ie (m:=Builtin.Tuple.tupleExact _) (jV (ie (ip (ip ⟨_,rfl,ip h⟩))) htake)
  |exact ie (ie (m:=Builtin.Tuple.tupleExact _) (jV (ip (ip ⟨_,rfl,ip h⟩)) htake))
  |exact ie (ie (m:=Builtin.Tuple.tupleExact _) (jV (ip ⟨_,rfl,ip h⟩) htake))
end
end HT
namespace L2
open PySem PySem.Spec PyProof.Rows
noncomputable abbrev TO:=St->Hp->(Option Int->Hp->Prop)->Prop
def PO(X:Cx)(e:Option Expr)(t:TO):Prop:=
 ∀(pins:List (Addr×Obj)) (s:Shared) (σ:St) (H:Hp) (Q:Option Int->Hp->Prop),Inv X pins σ H s->t σ H Q ->
   wpAny 73 X.A (evalPart e X.env) (λu s'=>∃o H',Inv X pins σ H' s'/\IsPart u o/\Q o H') X.xe s
noncomputable def KA:TO:=λ_ H Q=>Q none H
noncomputable def PQ(t:TE):TO:=λσ H Q=>t σ H λx H1=>∃i,x=.int i/\Q (some i) H1
def QK{ns:List Int}:∀{us:List Value},Vals (ns.map V.int) us->IntsAre us ns:=by
 induction ns with
 |nil=>intro us r;rw[jt]at r;cases r;exact .nil
 |cons n ns ih=>
  intro us r;rw[iw]at r;cases r with
  |cons r1 r2=>
   obtain⟨t,e⟩:=r1;subst e;exact .cons n t (ih r2)
section
variable{X:Cx}{e:Expr}{te:TE}{lo hi:Option Expr}{tl th:TO}{pos p2:Pos}
def YK:PO X none KA:=by
 intro pins s σ H Q I h;rw[evalPart_none];exact ip ⟨none,H,I,.none,h⟩
def YJ(h:PE X e te):PO X (some e) (PQ te):=by
 intro pins s σ H Q I hw;rw[evalPart_some];refine thn (h pins s σ H _ I hw) λu s1 ⟨x,H1,I1,r1,q1⟩=>?_;obtain⟨i,rfl,q⟩:=q1;obtain⟨t,rfl⟩:=r1;exact⟨some i,H1,I1,.int i t,q⟩
def SlR(X:Cx)(r:V->Option Int->Option Int->Hp->VK->Prop):Prop:=
 ∀(pins:List (Addr×Obj)) (s:Shared) (σ:St) (H:Hp) (x:V) (v vl vu:Value) (lo hi:Option Int) (sl:Addr) (Q:VK),Inv X pins σ H s->RelV x v->s.heap.IsSliceOf sl vl vu .none->IsPart vl lo->IsPart vu hi->r x lo hi H Q ->
   ∃T id,typeLookup (.type T) "__getitem__"=pure (some (.builtin id))/\s.TypeIs v T/\wpAny 73 X.A (getItem v (.ref sl)) (EP X pins σ Q) X.xe s
noncomputable def tSl(r:V->Option Int->Option Int->Hp->VK->Prop)(te:TE)(tl th:TO):TE:=λσ H Q=>te σ H λx H1=>tl σ H1 λl H2=>th σ H2 λu H3=>r x l u H3 Q
def Mt{r:V->Option Int->Option Int->Hp->VK->Prop}(hr:SlR X r)(he:PE X e te)(hl:PO X lo tl)(hu:PO X hi th):PE X (.Subscript e (.Slice lo hi none p2) pos) (tSl r te tl th):=by
 intro pins s σ H Q I h;refine Subscript_ (thn (he pins s σ H _ I h) λv s1 ⟨x,H1,I1,r1,q1⟩=>?_);refine wpAny_Slice (thn (hl pins s1 σ H1 _ I1 q1) λvl s2 ⟨l,H2,I2,pl,q2⟩=>thn (hu pins s2 σ H2 _ I2 q2) λvu s3 ⟨u,H3,I3,pu,q3⟩=>?_);rw[evalPart_none];refine ip ?_;have I4:Inv X pins σ H3 { s3 with heap:=s3.heap.push { cls:=.type "slice",data:=.fields #[vl,vu,.none] } }:=I3.kept (t':=s3.toks) λb ob q=>74 _ q;obtain⟨T,id,hT,ht,hg⟩:=hr pins { s3 with heap:=s3.heap.push { cls:=.type "slice",data:=.fields #[vl,vu,.none] } } σ H3 x v vl vu l u s3.heap.objs.size Q I4 r1 (Heap.IsSliceOf.new ..) pl pu q3;show wpAny 73 X.A (subscriptTail e (.Slice lo hi none p2) v (.ref s3.heap.objs.size)) (EP X pins σ Q) X.xe { s3 with heap:=s3.heap.push { cls:=.type "slice",data:=.fields #[vl,vu,.none] } };exact tail_any (ops:=[.ref s3.heap.objs.size,v]) ht hT hg (by with_unfolding_all rfl)
noncomputable def Fp(xs:List V)(lo hi:Option Int):List V:=(xs.drop (HT.sIx 79 0 lo)).take (HT.sIx 79 79 hi-HT.sIx 79 0 lo)
def Ig(xs:List V)(lo hi:Option Int):(Fp xs lo hi).length<=xs.length:=by
 unfold Fp;rw[jB,kd];omega
def aI(K:Frag):V->Option Int->Option Int->Hp->VK->Prop:=λx lo hi H Q=>∃a xs,x=.ref a/\SqT K H a xs /\
 ¬ (HT.sIx 79 0 lo=0/\HT.sIx 79 79 hi=79)/\∀p,H p=none->Q (.ref p) (upd H p (.tup (Fp xs lo hi)))
def ZV:SlR X (aI X.K):=by
 intro pins s σ H x v vl vu lo hi sl Q I rx hs pl pu h;obtain⟨a,xs,rfl,hx,hw,q⟩:=h;cases rx;obtain⟨its,r,ht,hz⟩:=I.tuple hx;have hlen:its.toArray.size=xs.length:=by rw[iu];exact r.length.symm
 refine⟨"tuple",_,PyProof.Rows.slot_tuple_getitem.lookup,ht.typeIs,?_⟩;refine HT.getItem_tuple_cut ht hs pl pu (by rw[hlen];exact hw) ?_ (by rw[hlen];exact hz);rw[hlen];refine⟨.ref 67,_,I.laid (t':=s.toks) (o:=.tup (Fp xs lo hi)) (λb ob q=>74 _ q) (iq _) ?_,rfl,q _ (I.hok.fresh (iq _))⟩;exact⟨jo (Ig xs lo hi) hz,_,(r.drop (HT.sIx 79 0 lo)).take (HT.sIx 79 79 hi-HT.sIx 79 0 lo),IsTupD.new _ _⟩
noncomputable def Pt(K:Frag):R2:=λx y H Q=>∃a b xs ys,x=.ref a/\y=.ref b/\SqT K H a xs/\SqT K H b ys/\xs≠[]/\79+ys.length<=sizeLine /\
 (ys=[]->Q (.ref a) H)/\(ys≠[]->∀p,H p=none->Q (.ref p) (upd H p (.tup (xs++ys))))
def Vals.nil_iff{xs:List V}{us:List Value}(r:Vals xs us):us=[]↔xs=[]:=by
 cases r with
 |nil=>simp
 |cons _ _=>simp
def YZ:OpR X (binaryOp .Add) (Pt X.K):=by
 intro pins s σ H x y v u Q I rx ry h;obtain⟨a,b,xs,ys,rfl,rfl,ha,hb,hx,hz,q1,q2⟩:=h;cases rx;cases ry;obtain⟨its,r1,p1,_⟩:=I.tuple ha;obtain⟨its2,r2,p2,_⟩:=I.tuple hb;refine HT.cat_tup p1 p2 (λz=>hx (r1.nil_iff.mp z)) (λz=>⟨.ref a,H,I,rfl,q1 (r2.nil_iff.mp z)⟩) (λz=>?_) (by rw[<- r1.length,<- r2.length];exact hz);refine⟨.ref 67,_,I.laid (t':=s.toks) (o:=.tup (xs++ys)) (λb ob q=>74 _ q) (iq _) ?_,rfl,q2 (λw=>z (r2.nil_iff.mpr w)) _ (I.hok.fresh (iq _))⟩;exact⟨by rw[iV];exact hz,_,r1.append r2,IsTupD.new _ _⟩
end
noncomputable def ixN(n:Nat)(i:Int):Option Nat:=if 0<=i then(if i<n then some i.toNat else none)else if -(n:Int)<=i then some (i+n).toNat else none
def atI{α:Type}(xs:List α)(i:Int):Option α:=(ixN 79 i).bind λj=>xs[j]?
def KU{n:Nat}{i:Int}{j:Nat}(h:ixN n i=some j):seqIndex? i n=some j/\j<n/\-(n:Int)<=i/\i<n:=by
 unfold ixN at h;by_cases h0:0<=i
 .rw[ic h0]at h;by_cases h1:i<n
  .rw[ic h1]at h;have e:i.toNat=j:=Option.some.inj h;exact⟨by rw[seqIndex_of h0 h1,e],by omega,by omega,h1⟩
  .rw[ig h1]at h;cases h
 .rw[ig h0]at h;by_cases h1:-(n:Int)<=i
  .rw[ic h1]at h;have e:(i+n).toNat=j:=Option.some.inj h;exact⟨by rw[seqIndex_neg 66 h1,e],by omega,h1,by omega⟩
  .rw[ig h1]at h;cases h
def Km{α:Type}{xs:List α}{i:Int}{v:α}(h:atI xs i=some v):∃j,seqIndex? i 79=some j/\xs[j]?=some v/\j<79/\-(xs.length:Int)<=i/\i<xs.length:=by
 unfold atI at h;cases e:ixN 79 i with
 |none=>rw[e]at h;cases h
 |some j=>
  rw[e]at h;obtain⟨h1,h2,h3,h4⟩:=KU e;exact⟨j,h1,h,h2,h3,h4⟩
def DT{α:Type}{xs:List α}{j:Nat}{v:α}(h:xs[j]?=some v):atI xs (j:Int)=some v:=by
 have hj:j<xs.length:=(72 h).1;have e:ixN 79 (j:Int)=some j:=by
  unfold ixN;rw[ic 66,ic 66];simp
 unfold atI;rw[e];exact h
def Ko(b:Expr):Prop:=∀o i,subscripted b false o i=operate [o,i] (getItem o i)
def IxR(X:Cx)(r:R2):Prop:=
 ∀(value slice:Expr) (pins:List (Addr×Obj)) (s:Shared) (σ:St) (H:Hp) (x y:V) (v u:Value) (Q:VK),Inv X pins σ H s->RelV x v->RelV y u->r x y H Q ->
   subscripted slice false v u=operate [v,u] (getItem v u)->wpAny 73 X.A (subscriptTail value slice v u) (EP X pins σ Q) X.xe s
def MtR(X:Cx)(id:String)(r:V->List V->Hp->VK->Prop):Prop:=
 ∀(pins:List (Addr×Obj)) (s:Shared) (σ:St) (H:Hp) (x:V) (xs:List V) (v:Value) (us:List Value) (Q:VK),Inv X pins σ H s->RelV x v->Vals xs us->r x xs H Q ->
   wpAny 73 X.A (call (.builtin id) (v::us)) (EP X pins σ Q) X.xe s
section
variable{X:Cx}{a b:Expr}{ta tb:TE}{pos:Pos}
def IxR.or{r r':R2}(h:IxR X r)(h':IxR X r'):IxR X (λx y H Q=>r x y H Q∨r' x y H Q):=by
 intro value slice pins s σ H x y v u Q I rx ry q hs;rcases q with q|q
 .exact h value slice pins s σ H x y v u Q I rx ry q hs
 .exact h' value slice pins s σ H x y v u Q I rx ry q hs
def WC{r:R2}(hr:IxR X r)(ha:PE X a ta)(hb:PE X b tb)(hs:Ko b):PE X (.Subscript a b pos) (tOp r ta tb):=by
 intro pins s σ H Q I h;exact Subscript_ (Vl ha hb I h λv u s2 x y H2 I2 rx ry q=>hr a b pins s2 σ H2 x y v u Q I2 rx ry q (hs _ _))
noncomputable def KK(K:Frag):R2:=λx y H Q=>∃p xs i v,x=.ref p/\y=.int i/\SqL K H p xs/\atI xs i=some v/\Q v H
noncomputable def Ua(K:Frag):R2:=λx y H Q=>∃p xs i v,x=.ref p/\y=.int i/\SqT K H p xs/\atI xs i=some v/\Q v H
def Yv:IxR X (KK X.K):=by
 intro value slice pins s σ H x y v u Q I rx ry h hs;obtain⟨p,xs,i,z,rfl,rfl,hq,he,q⟩:=h;cases rx;obtain⟨t,rfl⟩:=ry;obtain⟨its,r,pl,hz⟩:=I.list hq;obtain⟨j,h1,h2,h3,h4,h5⟩:=Km he;obtain⟨w,ew,rw'⟩:=r.get h2;have hl:=r.length;have hn:=FO;have fin:EP X pins σ Q w s:=⟨z,H,I,rw',q⟩
 by_cases h0:0<=i
 .have hj:i.toNat=j:=by
   rw[seqIndex_of h0 h5]at h1;exact Option.some.inj h1
  exact item_listR pl.isList h0 66 (by rw[hj];simpa using ew) fin hs
 .have hj:(i+(its.toArray.size:Int)).toNat=j:=by
   rw[seqIndex_neg 66 h4]at h1;rw[iu,<- hl];exact Option.some.inj h1
  exact subscriptTail_builtinR (x:=w) pl.isList.typeIs slot_list_getitem.lookup
   (wpAny_getItem_list_neg (Q:=λr s'=>r=w/\EP X pins σ Q r s') pl.isList 66 (by rw[iu]<;>omega) 66 (by rw[hj];simpa using ew) ⟨rfl,fin⟩) hs
def cX:IxR X (Ua X.K):=by
 intro value slice pins s σ H x y v u Q I rx ry h hs;obtain⟨p,xs,i,z,rfl,rfl,hq,he,q⟩:=h;cases rx;obtain⟨t,rfl⟩:=ry;obtain⟨its,r,pl,hz⟩:=I.tuple hq;obtain⟨j,h1,h2,h3,h4,h5⟩:=Km he;obtain⟨w,ew,rw'⟩:=r.get h2;have hl:=r.length;have hn:=FO;have fin:EP X pins σ Q w s:=⟨z,H,I,rw',q⟩
 exact subscriptTail_builtinR (x:=w) pl.typeIs slot_tuple_getitem.lookup
  (getItem_tuple (j:=j) (Q:=λr s'=>r=w/\EP X pins σ Q r s') pl 66 66 (by rw[iu,<- hl];exact h1) (by simpa using ew) ⟨rfl,fin⟩) hs
def Q4(its:List Value)(n j:Nat)(u:Value):Obj.mapSeq (·.setIfInBounds j u) { cls:=.type "list",data:=.seq its.toArray n }={ cls:=.type "list",data:=.seq (its.set j u).toArray n }:=by
 simp[Obj.mapSeq]
theorem Inv.lst{pins:List (Addr×Obj)}{σ:St}{H:Hp}{s:Shared}{p:Addr}{xs:List V}(I:83)(h:H p=some (.lst xs)):
 ∃(its:List Value) (n:Nat),Vals xs its/\s.heap.get? p=some { cls:=.type "list",data:=.seq its.toArray n }/\79<=sizeLine:=by
 obtain⟨z,its,n,r,e⟩:=I.hok p _ h;exact⟨its,n,r,e,z⟩
def Inv.lstUpd{pins:List (Addr×Obj)}{σ:St}{H:Hp}{s:Shared}{p:Addr}{xs ys:List V}{its its':List Value}{n n':Nat}{f:Obj->Obj}(I:83)(h:H p=some (.lst xs))
 (ho:s.heap.get? p=some { cls:=.type "list",data:=.seq its.toArray n }) (hf:f { cls:=.type "list",data:=.seq its.toArray n }={ cls:=.type "list",data:=.seq its'.toArray n' }) (r:Vals ys its') (hz:ys.length<=sizeLine) (t:Nat):
 Inv X pins σ (upd H p (.lst ys)) { s with heap:=s.heap.update p f,toks:=t }:=by
 have e:(s.heap.update p f).get? p=some { cls:=.type "list",data:=.seq its'.toArray n' }:=by
  rw[Heap.get?_update_self f ho (by rw[hf]<;>rfl),hf]
 refine I.write (x:=p) (e:=p) (by rw[h];trivial) (.inl rfl) (λb u hb q=>(Heap.get?_update_other _ _ (Ne.symm hb)).trans q) ⟨_,e⟩ ?_;exact⟨hz,its',n',r,e⟩
def Ji:V->V->V->Hp->(Hp->Prop)->Prop:=λo i v H Q=>∃p xs k j,o=.ref p/\i=.int k/\H p=some (.lst xs)/\ixN 79 k=some j/\Q (upd H p (.lst (xs.set j v)))
def MD:Vm X Ji:=by
 intro pins s σ H o i v ov iv u Q I ro ri rv h;obtain⟨p,xs,k,j,rfl,rfl,hp,hj,q⟩:=h;cases ro;obtain⟨t,rfl⟩:=ri;obtain⟨its,n,r,ho,hz⟩:=I.lst hp;obtain⟨h1,h2,h3,h4⟩:=KU hj;have hl:=r.length;have hn:=FO;have I':Inv X pins σ (upd H p (.lst (xs.set j v))) { s with heap:=s.heap.update p (Obj.mapSeq (·.setIfInBounds j u)) }:=
  I.lstUpd hp ho (Q4 its n j u) (r.set rv j) (by rw[List.length_set];exact hz) s.toks
 by_cases h0:0<=k
 .have hk:k.toNat=j:=by
   rw[seqIndex_of h0 h4]at h1;exact Option.some.inj h1
  exact PySem.W.ki_setAt ho h0 66 (by rw[iu,<- hl];exact h4) (by rw[hk];exact⟨_,I',q⟩)
 .have hk:(k+(its.toArray.size:Int)).toNat=j:=by
   rw[seqIndex_neg 66 h3]at h1;rw[iu,<- hl];exact Option.some.inj h1
  exact PySem.W.ki_setBack ho 66 (by rw[iu,<- hl];exact h3) 66 (by rw[hk];exact⟨_,I',q⟩)
def M9(lo hi:Option Int)(n:Nat):(sliceBounds lo hi none n).1=((HT.sIx n 0 lo:Nat):Int)/\(sliceBounds lo hi none n).2.1=((HT.sIx n n hi:Nat):Int)/\(sliceBounds lo hi none n).2.2=1:=by
 refine⟨?_,?_,rfl⟩
 .cases lo with
  |none=>simp[sliceBounds,HT.sIx]
  |some i=>
   simp only[sliceBounds,HT.sIx,Option.getD_none,show(1:Int)>0 by decide,iU];by_cases h:i<0
   .simp only[h,iU]<;>omega
   .simp only[h,jy]<;>omega
 .cases hi with
  |none=>simp[sliceBounds,HT.sIx]
  |some i=>
   simp only[sliceBounds,HT.sIx,Option.getD_none,show(1:Int)>0 by decide,iU];by_cases h:i<0
   .simp only[h,iU]<;>omega
   .simp only[h,jy]<;>omega
def LR(its:List Value)(lo hi:Option Int):slicePick its.toArray lo hi none=((its.drop (HT.sIx its.length 0 lo)).take (HT.sIx its.length its.length hi-HT.sIx its.length 0 lo)).toArray:=by
 obtain⟨h1,h2,h3⟩:=M9 lo hi its.toArray.size;unfold slicePick;rw[h1,h2,h3];simp only[sliceRange_one,pick_run,iu]<;>rfl
def Pr(K:Frag):V->Option Int->Option Int->Hp->VK->Prop:=λx lo hi H Q=>∃a xs,x=.ref a/\SqL K H a xs/\∀p,H p=none->Q (.ref p) (upd H p (.lst (Fp xs lo hi)))
def Ww:SlR X (Pr X.K):=by
 intro pins s σ H x v vl vu lo hi sl Q I rx hs pl pu h;obtain⟨a,xs,rfl,hx,q⟩:=h;cases rx;obtain⟨its,r,ht,hz⟩:=I.list hx;have hlen:=r.length;refine⟨"list",_,slot_list_getitem.lookup,ht.isList.typeIs,?_⟩;refine wpAny_getItem_list_slice ht.isList hs pl pu .none 70 ?_ (by rw[iu]<;>omega);rw[LR,<- hlen];refine⟨.ref 67,_,I.laid (t':=s.toks) (o:=.lst (Fp xs lo hi)) (λb ob q=>74 _ q) (iq _) ?_,rfl,q _ (I.hok.fresh (iq _))⟩;exact⟨jo (Ig xs lo hi) hz,_,0,(r.drop (HT.sIx 79 0 lo)).take (HT.sIx 79 79 hi-HT.sIx 79 0 lo),85 _ rfl⟩
noncomputable def EF:V->Bool
 |.non=>true
 |.bl _=>true
 |.int _=>true
 |.str _=>true
 |_=>false
noncomputable def eqV:V->V->Bool
 |.non,.non=>true
 |.bl a,.bl b=>a==b
 |.bl a,.int b=>(if a then 1 else 0)==b
 |.int a,.bl b=>a==(if b then 1 else 0)
 |.int a,.int b=>a==b
 |.str a,.str b=>a==b
 |_,_=>false
def dC{A:Around}{s:Shared}{y x:V}{u v:Value}(ry:RelV y u)(rx:RelV x v)(fy:EF y=true)(fx:EF x=true):SeqAt.EqAt A s u v (eqV y x):=by
 cases y with
 |non=>
  cases ry;cases x with
  |non=>cases rx;exact SeqAt.EqAt.same _
  |bl b=>cases rx;exact SeqAt.EqAt.none_bool b
  |int b=>obtain⟨t,rfl⟩:=rx;exact SeqAt.EqAt.none_int b t
  |str b=>obtain⟨t,rfl⟩:=rx;exact SeqAt.EqAt.none_str b t
  |_=>exact absurd (show false=true from fx) Bool.false_ne_true
 |bl a=>
  cases ry;cases x with
  |non=>cases rx;exact SeqAt.EqAt.bool_none a
  |bl b=>cases rx;exact SeqAt.EqAt.bool_bool a b
  |int b=>obtain⟨t,rfl⟩:=rx;exact SeqAt.EqAt.bool_int a b t
  |str b=>obtain⟨t,rfl⟩:=rx;exact SeqAt.EqAt.bool_str a b t
  |_=>exact absurd (show false=true from fx) Bool.false_ne_true
 |int a=>
  obtain⟨t',rfl⟩:=ry;cases x with
  |non=>cases rx;exact SeqAt.EqAt.int_none a t'
  |bl b=>cases rx;exact SeqAt.EqAt.int_bool a t' b
  |int b=>obtain⟨t,rfl⟩:=rx;exact SeqAt.EqAt.int_int a t' b t
  |str b=>obtain⟨t,rfl⟩:=rx;exact SeqAt.EqAt.int_str a t' b t
  |_=>exact absurd (show false=true from fx) Bool.false_ne_true
 |str a=>
  obtain⟨t',rfl⟩:=ry;cases x with
  |non=>cases rx;exact SeqAt.EqAt.str_none a t'
  |bl b=>cases rx;exact SeqAt.EqAt.str_bool a t' b
  |int b=>obtain⟨t,rfl⟩:=rx;exact SeqAt.EqAt.str_int a t' b t
  |str b=>obtain⟨t,rfl⟩:=rx;exact SeqAt.EqAt.str_str a t' b t
  |_=>exact absurd (show false=true from fx) Bool.false_ne_true
 |_=>exact absurd (show false=true from fy) Bool.false_ne_true
def eqU(x:V)(u:Value):Bool:=match u with
 |.none=>eqV .non x
 |.bool b=>eqV (.bl b) x
 |.int i _=>eqV (.int i) x
 |.str z _=>eqV (.str z) x
 |_=>false
def T8{x y:V}{u:Value}(r:RelV y u)(f:EF y=true):eqU x u=eqV y x:=by
 cases y with
 |non=>cases r;rfl
 |bl b=>cases r;rfl
 |int i=>obtain⟨t,rfl⟩:=r;rfl
 |str z=>obtain⟨t,rfl⟩:=r;rfl
 |_=>exact absurd (show false=true from f) Bool.false_ne_true
theorem GG{x:V}:∀{xs:List V} {us:List Value},Vals xs us->xs.all EF=true->us.any (eqU x)=xs.any λy=>eqV y x
 |_,_,.nil,_=>rfl
 |y::xs,u::us,.cons r t,f=>by
  rw[all_cons,Bool.and_eq_true]at f;rw[any_cons,any_cons,T8 r f.1,GG t f.2]
theorem FM{A:Around}{s:Shared}{x:V}{v:Value}(rx:RelV x v)(fx:EF x=true):∀{xs:List V} {us:List Value},Vals xs us->xs.all EF=true->∀u∈us,SeqAt.EqAt A s u v (eqU x u)
 |_,_,.nil,_=>λu hu=>by cases hu
 |y::xs,u::us,.cons r t,f=>λu' hu=>by
  rw[all_cons,Bool.and_eq_true]at f;rcases mem_cons.mp hu with rfl|hu
  .rw[T8 r f.1];exact dC r rx f.1 fx
  .exact FM rx fx t f.2 u' hu
def inV(x:V)(xs:List V):Bool:=xs.any λy=>eqV y x
def rIn(K:Frag)(neg:Bool):R2:=λx y H Q=>∃p xs,y=.ref p/\(SqL K H p xs∨SqT K H p xs)/\EF x=true/\xs.all EF=true/\Q (.bl (if neg then !inV x xs else inV x xs)) H
def SW:OpR X (compareOp .In) (rIn X.K false):=by
 intro pins s σ H x y v u Q I rx ry h;obtain⟨p,xs,rfl,hq,fx,fs,q⟩:=h;cases ry;rcases hq with hq|hq
 .obtain⟨its,r,pl,hz⟩:=I.list hq;refine SeqAt.in_listAt (eqU x) pl.isList (λw hw=>FM rx fx r fs w (by simpa using hw)) ⟨.bl _,H,I,rfl,?_⟩;rw[show its.toArray.any (eqU x)=its.any (eqU x) by simp,GG r fs];exact q
 .obtain⟨its,r,pl,hz⟩:=I.tuple hq;refine SeqAt.in_tupleAt (eqU x) pl (λw hw=>FM rx fx r fs w (by simpa using hw)) ⟨.bl _,H,I,rfl,?_⟩;rw[show its.toArray.any (eqU x)=its.any (eqU x) by simp,GG r fs];exact q
def Mv:OpR X (compareOp .NotIn) (rIn X.K true):=by
 intro pins s σ H x y v u Q I rx ry h;obtain⟨p,xs,rfl,hq,fx,fs,q⟩:=h;cases ry;rcases hq with hq|hq
 .obtain⟨its,r,pl,hz⟩:=I.list hq;refine SeqAt.notIn_listAt (eqU x) pl.isList (λw hw=>FM rx fx r fs w (by simpa using hw)) ⟨.bl _,H,I,rfl,?_⟩;rw[show its.toArray.any (eqU x)=its.any (eqU x) by simp,GG r fs];exact q
 .obtain⟨its,r,pl,hz⟩:=I.tuple hq;refine SeqAt.notIn_tupleAt (eqU x) pl (λw hw=>FM rx fx r fs w (by simpa using hw)) ⟨.bl _,H,I,rfl,?_⟩;rw[show its.toArray.any (eqU x)=its.any (eqU x) by simp,GG r fs];exact q
def NW:CallR X (.builtin "len") (λxs H Q=>∃p ys,xs=[.ref p]/\(SqL X.K H p ys∨SqT X.K H p ys)/\Q (.int ys.length) H):=by
 intro pins s σ H xs us Q I r h;obtain⟨p,ys,rfl,hq,q⟩:=h;obtain⟨u,rfl,rx⟩:=CJ r;cases rx;have hn:=FO;rcases hq with hq|hq
 .obtain⟨its,r',pl,hz⟩:=I.list hq;have hlen:=r'.length;exact Calls.call_len_list pl.isList (by simp only[iu]<;>omega) ⟨.int ys.length,H,I.tok _,⟨s.toks+1,by rw[iu,hlen]⟩,q⟩
 .obtain⟨its,r',pl,hz⟩:=I.tuple hq;have hlen:=r'.length;exact len_tuple pl (by simp only[iu]<;>omega) ⟨.int ys.length,H,I.tok _,⟨s.toks+1,by rw[iu,hlen]⟩,q⟩
def CallR.or{f:Value}{r r':List V->Hp->VK->Prop}(h:CallR X f r)(h':CallR X f r'):CallR X f (λxs H Q=>r xs H Q∨r' xs H Q):=by
 intro pins s σ H xs us Q I rs q;rcases q with q|q
 .exact h pins s σ H xs us Q I rs q
 .exact h' pins s σ H xs us Q I rs q
def NV:CallR X (.type "list") (λxs H Q=>∃p ys,xs=[.ref p]/\(SqL X.K H p ys∨SqT X.K H p ys)/\∀l,H l=none->Q (.ref l) (upd H l (.lst ys))):=by
 intro pins s σ H xs us Q I r h;obtain⟨p,ys,rfl,hq,q⟩:=h;obtain⟨u,rfl,rx⟩:=CJ r;cases rx;have fin:∀(its:List Value),Vals ys its->ys.length<=sizeLine->∀(h':Heap) (c':Nat),(∀b o',s.heap.get? b=some o'->h'.get? b=some o') ->
  h'.get? 67=some { cls:=.type "list",dict:=none,data:=.seq its.toArray c',slots:=#[] }->EP X pins σ Q (.ref 67) { s with heap:=h' }:=λits r' hz h' c' kp e=>
  ⟨.ref 67,_,I.laid (t':=s.toks) kp (iq _) (show ObjOk X.prog X.w _ h' _ (.lst ys)from⟨hz,its,c',r',e⟩),rfl,q _ (I.hok.fresh (iq _))⟩
 rcases hq with hq|hq
 .obtain⟨its,r',pl,hz⟩:=I.list hq;have hlen:=r'.length;obtain⟨o,ho,hc,n,hd⟩:=pl.isList;exact call_list_seq p (.inl rfl) ho hc hd (λh' c' kp e=>fin its r' hz h' c' kp e) (by simp only[iu]<;>omega)
 .obtain⟨its,r',pl,hz⟩:=I.tuple hq;have hlen:=r'.length;obtain⟨o,ho,hc,n,hd⟩:=pl;exact call_list_seq p (.inr rfl) ho hc hd (λh' c' kp e=>fin its r' hz h' c' kp e) (by simp only[iu]<;>omega)
def La:CallR X (.type "tuple") (λxs H Q=>∃p ys,xs=[.ref p]/\((SqL X.K H p ys/\∀l,H l=none->Q (.ref l) (upd H l (.tup ys)))∨(SqT X.K H p ys/\Q (.ref p) H))):=by
 intro pins s σ H xs us Q I r h;obtain⟨p,ys,rfl,h⟩:=h;obtain⟨u,rfl,rx⟩:=CJ r;cases rx;rcases h with⟨hq,q⟩|⟨hq,q⟩
 .obtain⟨its,r',pl,hz⟩:=I.list hq;have hlen:=r'.length;refine call_tuple_list pl.isList (λh' kp=>?_) (by simp only[iu]<;>omega);have I1:Inv X pins σ H { s with heap:=h' }:=I.kept (t':=s.toks) kp;have I2:Inv X pins σ (upd H h'.objs.size (.tup ys)) { s with heap:=h'.push { cls:=.type "tuple",data:=.seq its.toArray } }:=
   I1.laid (t':=s.toks) (λb o e=>74 _ e) (iq _) (show ObjOk X.prog X.w _ _ _ (.tup ys)from⟨hz,its,r',IsTupD.new _ _⟩)
  exact⟨.ref h'.objs.size,_,I2,rfl,q _ (I1.hok.fresh (iq _))⟩
 .obtain⟨its,r',pl,hz⟩:=I.tuple hq;exact call_tuple_same pl ⟨.ref p,H,I,rfl,q⟩
def tyV(K:Frag)(T:String)(x:V)(H:Hp):Prop:=match x with
 |.str _=>T="str"
 |.int _=>T="int"
 |.ref p=>(T="list"/\∃xs,SqL K H p xs)∨(T="tuple"/\∃o,K.lookup p=some o/\o.cls=.type "tuple"/\o.dict=none) ∨
  (T="dict"/\((∃kvs,H p=some (.dK kvs))∨∃kvs,H p=some (.dT kvs)))∨(T="set"/\∃S n,H p=some (.set S n))
 |_=>False
def RK{pins:List (Addr×Obj)}{σ:St}{H:Hp}{s:Shared}{T:String}{x:V}{v:Value}(I:83)(r:RelV x v)(ty:tyV X.K T x H):
 s.TypeIs v T/\∀a,v=.ref a->∃ob,s.heap.get? a=some ob/\ob.dict=none:=by
 cases x with
 |str z=>
  obtain⟨t,rfl⟩:=r;cases(show T="str" from ty);exact⟨typeIs_str s z t,λ_ e=>nomatch e⟩
 |int i=>
  obtain⟨t,rfl⟩:=r;cases(show T="int" from ty);exact⟨typeIs_int s i t,λ_ e=>nomatch e⟩
 |ref p=>
  cases r;rcases ty with⟨rfl,xs,hq⟩|⟨rfl,o,hk,hc,hd⟩|⟨rfl,hk⟩|⟨rfl,S,n,hk⟩
  .obtain⟨its,_,pl,_⟩:=I.list hq;refine⟨pl.isList.typeIs,λa e=>?_⟩;cases e;obtain⟨o,n,e,c,hd,_⟩:=pl;exact⟨o,e,hd⟩
  .refine⟨⟨o,I.kIn p o hk,hc⟩,λa e=>?_⟩;cases e;exact⟨o,I.kIn _ o hk,hd⟩
  .have z:∃o,s.heap.get? p=some o/\o.ExactDict:=by
    rcases hk with⟨kvs,hk⟩|⟨kvs,hk⟩
    .obtain⟨_,_,_,_,o,_,_,e,ex,_⟩:=I.hok p _ hk;exact⟨o,e,ex⟩
    .obtain⟨_,_,_,_,o,_,_,e,ex,_⟩:=I.hok p _ hk;exact⟨o,e,ex⟩
   obtain⟨o,e,ex⟩:=z;refine⟨⟨o,e,ex.1⟩,λa e2=>?_⟩;cases e2;exact⟨o,e,ex.2.1⟩
  .obtain⟨o,_,_,_,e,ex,_⟩:=I.hok p _ hk;refine⟨⟨o,e,ex.1⟩,λa e2=>?_⟩;cases e2;exact⟨o,e,ex.2.1⟩
 |_=>exact False.elim ty
noncomputable def U6(K:Frag)(T:String)(r:V->List V->Hp->VK->Prop)(to:TE):TE:=λσ H Q=>to σ H λx H1=>tyV K T x H1/\r x [] H1 Q
noncomputable def tBM(K:Frag)(T:String)(r:V->List V->Hp->VK->Prop)(to:TE)(t:TA):TE:=λσ H Q=>to σ H λx H1=>tyV K T x H1/\t σ H1 λxs H2=>r x xs H2 Q
variable{o e:Expr}{es:List Expr}{to:TE}{t:TA}{name:Str}{apos cpos:Pos}{T id:String}{r:V->List V->Hp->VK->Prop}
def bh(pa:PlainAttrs T)(slot:Slot T name id)(hty:typeOf (.builtin id)=pure (.type "method_descriptor"))(hm:MtR X id r)(ho:PE X o to)
 (hbase:attributeBase o name X.env (eval o X.env)=eval o X.env:=by rfl) (hline:(apos.endLine==cpos.line)=true:=by rfl):PE X (.Call (.Attribute o name apos) [] [] cpos) (U6 X.K T r to):=by
 intro pins s σ H Q I h;refine wpAny_Call_method0_late hbase hline (thn (ho pins s σ H _ I h) λv s1 ⟨x,H1,I1,r1,ty,q1⟩=>?_);obtain⟨h1,h2⟩:=RK I1 r1 ty;exact⟨T,id,pa,slot,hty,h1,h2,Calls.callWith_builtin rfl (PySem.evalArgs_none (hm pins s1 σ H1 x [] v [] Q I1 r1 .nil q1))⟩
def eQ(pa:PlainAttrs T)(slot:Slot T name id)(hty:typeOf (.builtin id)=pure (.type "method_descriptor"))(hm:MtR X id r)(ho:PE X o to)(ha:PA X (e::es) t)
 (hbase:attributeBase o name X.env (eval o X.env)=eval o X.env:=by rfl)
 (hfew:((backTo cpos (starEach (e::es) X.env)).all (λx=>!x.1)&&(backToKw cpos (keywordEach [] X.env)).all (λx=>x.1.isSome)
  && decide ((e::es).length+([]:List Keyword).length+(if([]:List Keyword).isEmpty then 0 else 1)<30))=true:=by rfl)
 (hline:(apos.endLine==cpos.line)=true:=by rfl) (hs:starEach (e::es) X.env=(false,eval e X.env)::starEach es X.env:=by rfl) (hplain:(backTo cpos (starEach es X.env)).any (·.1)=false:=by rfl):
 PE X (.Call (.Attribute o name apos) (e::es) [] cpos) (tBM X.K T r to t):=by
 intro pins s σ H Q I h;refine wpAny_Call_method_late hbase hfew hline rfl (thn (ho pins s σ H _ I h) λv s1 ⟨x,H1,I1,r1,ty,q1⟩=>?_);obtain⟨h1,h2⟩:=RK I1 r1 ty;refine⟨T,id,pa,slot,hty,h1,h2,?_⟩;have hA:=ha cpos pins s1 σ H1 _ I1 q1;rw[hs]at hA ⊢;refine Calls.callWith_builtin (by show(false||(backTo cpos (starEach es X.env)).any (·.1))=false;rw[hplain]<;>rfl) (Calls.evalArgs_plain ?_);exact thn hA λus s2 ⟨vs,H2,I2,r2,q2⟩=>hm pins s2 σ H2 x vs v us Q I2 r1 r2 q2
end
def MtM(X:Cx)(id:String)(r:V->List V->Hp->VK->Prop):Prop:=
 ∀(pins:List (Addr×Obj)) (s:Shared) (σ:St) (H:Hp) (x:V) (xs:List V) (v:Value) (us:List Value) (Q:VK),Inv X pins σ H s->RelV x v->Vals xs us->r x xs H Q ->
   wpAny 73 X.A (call (.builtin id) (v::us)) (EP X pins σ Q) X.xe s
def Vals.one{x:V}{us:List Value}(h:Vals [x] us):∃u,us=[u]/\RelV x u:=CJ h
def Vals.zero:∀{us:List Value},Vals [] us->us=[]
 |_,.nil=>rfl
theorem Vals.dropLast{xs:List V}{us:List Value}(h:Vals xs us):Vals xs.dropLast us.dropLast:=by
 induction h with
 |nil=>exact .nil
 |cons r t ih=>
  cases t with
  |nil=>exact .nil
  |cons q t'=>exact .cons r ih
theorem Vals.eraseIdx{xs:List V}{us:List Value}(i:Nat)(h:Vals xs us):Vals (xs.eraseIdx i) (us.eraseIdx i):=by
 induction h generalizing i with
 |nil=>exact .nil
 |cons r t ih=>cases i with
  |zero=>exact t
  |succ i=>exact .cons r (ih i)
def Qc{α:Type}(l:List α):l.eraseIdx (l.length-1)=l.dropLast:=by
 induction l with
 |nil=>rfl
 |cons a r ih=>
  cases r with
  |nil=>rfl
  |cons b r=>
   have e:(a::b::r).length-1=((b::r).length-1)+1:=by
    have h1:(a::b::r).length=r.length+2:=rfl;have h2:(b::r).length=r.length+1:=rfl;omega
   rw[e,List.eraseIdx_cons_succ,ih]
   all_goals rfl
theorem L8{α:Type}:∀(l:List α) (i:Nat),(l.eraseIdx i).length<=l.length
 |[],_=>iq _
 |_::_,0=>le_succ _
 |_::r,i+1=>Nat.succ_le_succ (L8 r i)
section
variable{X:Cx}{pins:List (Addr×Obj)}{σ:St}{H:Hp}{s:Shared}{l b:Addr}{xs ys zs:List V}
def Inv.lset{its its':List Value}{n:Nat}{f:Array Value->Array Value}{t':Nat}(I:83)(hH:H l=some (.lst xs))
 (e:s.heap.get? l=some { cls:=.type "list",data:=.seq its.toArray n }) (hf:f its.toArray=its'.toArray) (hv:Vals ys its') (hz:ys.length<=sizeLine):
 Inv X pins σ (upd H l (.lst ys)) { s with heap:=s.heap.update l (Obj.mapSeq f),toks:=t' }:=by
 have q:=PySem.IsL.update e f;rw[hf]at q;refine I.write (x:=l) (e:=l) (by rw[hH];exact trivial) (.inl rfl) (λb' u hb hu=>(Heap.get?_update_other s.heap (Obj.mapSeq f) (Ne.symm hb)).trans hu) ⟨_,q⟩ ?_;exact⟨hz,its',_,hv,q⟩
def Inv.lnew{its:List Value}{t':Nat}(I:83)(hv:Vals ys its)(hz:ys.length<=sizeLine):
 Inv X pins σ (upd H 67 (.lst ys)) { s with heap:=s.heap.push { cls:=.type "list",data:=.seq its.toArray },toks:=t' }:=
 I.laid (λ_ _ q=>74 _ q) (iq _) ⟨hz,its,0,hv,85 _ rfl⟩
theorem Inv.fresh(I:83):H 67=none:=I.hok.fresh (iq _)
def Inv.lstM(I:83)(hH:H l=some (.lst xs)):79<=sizeLine/\∃(its:List Value) (n:Nat),Vals xs its/\79=its.length/\s.heap.get? l=some { cls:=.type "list",data:=.seq its.toArray n }:=by
 obtain⟨z,its,n,r,e⟩:=I.hok l _ hH;exact⟨z,its,n,r,r.length,e⟩
def VB{n:Nat}(h:n<=sizeLine):Builtin.List.listTooLong n=false:=by
 unfold Builtin.List.listTooLong;exact jD 66
end
section
variable{X:Cx}
def OR:V->List V->Hp->VK->Prop:=λx vs H Q=>∃l xs y,x=.ref l/\vs=[y]/\H l=some (.lst xs)/\79<sizeLine/\Q .non (upd H l (.lst (xs++[y])))
def Kx:MtM X "list.append" OR:=by
 intro pins s σ H x vs v us Q I rx rv h;obtain⟨l,xs,y,rfl,rfl,hH,hz,q⟩:=h;cases rx;obtain⟨u,rfl,ru⟩:=rv.one;obtain⟨z,its,n,r,hl,e⟩:=I.lstM hH;refine call_meets F.slot_list_append ⟨_,e,rfl⟩ F.entry_list_append (F.args_list_append_2 _ _) (PySem.list_append l its.toArray n u (by rw[iu];omega)) ⟨e,?_⟩;refine⟨.non,_,I.lset (its':=its++[u]) hH e 70 (r.append (.cons ru .nil)) ?_,rfl,q⟩;rw[iV,List.length_singleton];omega
def gF:V->List V->Hp->VK->Prop:=λx vs H Q=>∃l b xs zs,x=.ref l/\vs=[.ref b]/\H l=some (.lst xs)/\H b=some (.lst zs)/\79+zs.length<=sizeLine/\Q .non (upd H l (.lst (xs++zs)))
def aJ:V->List V->Hp->VK->Prop:=λx vs H Q=>∃l xs y,x=.ref l/\vs=[]/\H l=some (.lst xs)/\xs[79-1]?=some y/\Q y (upd H l (.lst xs.dropLast))
def cD:MtM X "list.pop" aJ:=by
 intro pins s σ H x vs v us Q I rx rv h;obtain⟨l,xs,y,rfl,rfl,hH,hy,q⟩:=h;cases rx;have hus:=rv.zero;subst hus;obtain⟨z,its,n,r,hl,e⟩:=I.lstM hH;obtain⟨u,hu,ru⟩:=r.get hy;have hy':its.toArray[its.toArray.size-1]?=some u:=by
  show its.toArray[its.length-1]?=some u;rw[<- Array.getElem?_toList,<- hl];exact hu
 refine call_meets F.slot_list_pop ⟨_,e,rfl⟩ F.entry_list_pop (F.args_list_pop_1 _) (MeetsSeq.list_pop_last l its.toArray n u hy' (by rw[iu];omega)) ⟨e,?_⟩;refine⟨y,_,I.lset (its':=its.dropLast) hH e ?_ r.dropLast ?_,ru,q⟩
 .show its.toArray.eraseIdxIfInBounds (its.toArray.size-1)=its.dropLast.toArray;rw[iu,List.eraseIdxIfInBounds_toArray,Qc]
 .rw[List.length_dropLast];omega
def SH:V->List V->Hp->VK->Prop:=λx vs H Q=>∃l xs i k y,x=.ref l/\vs=[.int i]/\H l=some (.lst xs)/\-(2^63)<=i/\i<2^63/\seqIndex? i 79=some k/\xs[k]?=some y/\Q y (upd H l (.lst (xs.eraseIdx k)))
def VD:MtM X "list.pop" SH:=by
 intro pins s σ H x vs v us Q I rx rv h;obtain⟨l,xs,i,k,y,rfl,rfl,hH,h1,h2,hk,hy,q⟩:=h;cases rx;obtain⟨u,rfl,ru⟩:=rv.one;obtain⟨t,rfl⟩:=ru;obtain⟨z,its,n,r,hl,e⟩:=I.lstM hH;obtain⟨w,hw,rw'⟩:=r.get hy;refine call_meets F.slot_list_pop ⟨_,e,rfl⟩ F.entry_list_pop (F.args_list_pop_2 _ _)
  (MeetsSeq.list_pop_at l its.toArray n i t k w (fitsIndex_both h1 h2) (by rw[iu,<- hl];exact hk) (by rw[<- Array.getElem?_toList];exact hw) (by rw[iu];omega)) ⟨e,?_⟩
 refine⟨y,_,I.lset (its':=its.eraseIdx k) hH e ?_ (r.eraseIdx k) ?_,rw',q⟩
 .show its.toArray.eraseIdxIfInBounds k=(its.eraseIdx k).toArray;rw[List.eraseIdxIfInBounds_toArray]
 .have:=L8 xs k;omega
noncomputable def Uc:R2:=λx y H Q=>∃l b xs zs,x=.ref l/\y=.ref b/\H l=some (.lst xs)/\H b=some (.lst zs)/\79+zs.length<=sizeLine/\∀p,H p=none->Q (.ref p) (upd H p (.lst (xs++zs)))
def c8:OpR X (binaryOp .Add) Uc:=by
 intro pins s σ H x y v u Q I rx ry h;obtain⟨l,b,xs,zs,rfl,rfl,hH,hB,hz,q⟩:=h;cases rx;cases ry;obtain⟨z,its,n,r,hl,e⟩:=I.lstM hH;obtain⟨z2,its2,n2,r2,hl2,e2⟩:=I.lstM hB;refine PySem.P.add_list e e2 ?_ (by rw[iu,iu];omega);have ea:its.toArray++its2.toArray=(its++its2).toArray:=by simp
 rw[ea];exact⟨.ref _,_,I.lnew (t':=s.toks) (r.append r2) (by rw[iV];omega),rfl,q _ I.fresh⟩
end
end L2
namespace Att
open PySem PySem.W PySem.Calls PyProof.Rows
def Jr{P:Params}{h:Heap}:∀(ns:List Int) (vs:List Value),WellAll P h vs (ns.map WData.int)->IntsAre vs ns:=by
 intro ns
 induction ns with
 |nil=>
  intro vs w;rw[jt]at w;cases w;exact .nil
 |cons n ns ih=>
  intro vs w;rw[iw]at w;cases w with
  |cons a b=>
   cases a;exact .cons _ _ (ih _ b)
def Ra{l:OpenLaw}{n:Nat}(hn:l.most=some n){P:Params}{h:Heap}{args:List WData}{vals:List Value}
 (hpre:l.row.toRowW.claim.pre args=true) (hwl:WellAll P h vals args):
 ∃a vs ns,vals=[Value.ref a]/\args=[WData.list (ns.map WData.int)]/\h.get? a=some { cls:=.type "list",data:=.seq vs.toArray }/\IntsAre vs ns/\ns.length<=n:=by
 have hsh:WShape.hasAll [] args [.list .int]=true:=(pre_splitW hpre).1;have hc:l.pre.holds [] { args:=args }=true:=(pre_splitW hpre).2;obtain⟨d,r,rfl,h1,h2⟩:=hasAllW_cons hsh;obtain rfl:=hasAllW_nil h2;obtain⟨xs,rfl,h3⟩:=hasW_list h1;obtain⟨ns,rfl⟩:=items_int h3;have hlen:ns.length<=n:=by
  unfold OpenLaw.pre at hc;have h4:(WTm.not (.lt (.lit (.int (n:Int))) (.len (.arg 0)))).holds [] { args:=[.list (ns.map .int)] }=true:=by
   have h4:=(holds_andW hc).1;rw[hn]at h4;exact h4
  have h5:=condW_of h4 (w_not (w_lt w_lit (w_len_list (w_arg rfl))));rw[iX]at h5;refine Nat.le_of_not_lt λq=>?_;have q':(n:Int)<((ns.length:Nat):Int):=by omega
  first
   |(rw[jI q']at h5;exact absurd h5 80)
   |(simp at h5;omega)
 cases hwl with
 |cons w1 w2=>
  cases w2;cases w1 with
  |list ho hall=>exact⟨_,_,ns,rfl,rfl,ho,Jr ns _ hall,hlen⟩
def SL(l:OpenLaw)(args:List WData):l.row.toRowW.claim.post args (.bool true) args=true:=
 postW_of (r:=l.row.toRowW) (X:=(true==true))
  (show WShape.has [] (.bool true) .bool=true by first|rfl|decide|simp[WShape.has,WShape.arms,WShape.armsAll])
  (show(WTm.eq .res (.lit (.bool true))).value [] { args:=args,res:=some (.bool true),after:=args }=some (.bool (true==true))from w_eq_bool (w_res rfl) w_lit) rfl
def attach_call{l:OpenLaw}{n:Nat}{q:Program}{loose:List Str}{XP:(Str->Option Value)->Heap->Prop}{YP:World->Heap->Prop}{d:DefRec}
 (hn:l.most=some n) (hdf:d.params.defaults=[])
 (call:∀(w:World) (s₀ s₁:Shared) (mg mb:Str->Option Value) (fa:Addr) (o:Obj) (pm cd doc:Value) (a:Addr) (vs:List Value) (ns:List Int),
  Ground q loose [] XP w s₀ mg mb s₁.heap->YP w s₁.heap ->
  s₁.heap.get? fa=some o->o.data=.func (docDef d.name d.params d.body d.scope pm cd doc)->s₁.heap.CodeRec cd d.name->mg d.name=some (.ref fa) ->
  s₁.heap.get? a=some { cls:=.type "list",data:=.seq vs.toArray }->IntsAre vs ns->ns.length<=n->s₁.gens=#[] ->
  codeAny (model l.prog w) callerA (.call (.ref fa) ⟨[.ref a],[]⟩) (λr s'=>r=.ok (.ret (.bool true))/\OldK s₁.heap s'.heap/\s'.os=s₁.os/\AllBare s'.gens) s₁):
 WalkO q loose XP YP l.row.toRowW d [] (λf vs=>PySem.call f vs):=by
 intro w s₀ s₁ mg mb G Y fa o pm cd doc dV kV ho hd hcd hD hmg hg args vals as hpre hlay hrd hwl hlo;obtain rfl:dV=.none:=Dflts.none hD hdf;obtain rfl:kV=.none:=Dflts.noKw hD;obtain⟨a,vs,ns,rfl,rfl,hobj,hints,hlen⟩:=Ra hn hpre hwl;refine enter_call (codeAny_mono (call w s₀ s₁ mg mb fa o pm cd doc a vs ns G Y ho (fd_plain hd) hcd hmg hobj hints hlen hg) λr s' hq=>?_);obtain⟨rfl,h2,h3,h4⟩:=hq;exact⟨.inl ⟨.bool true,.bool true,[],rfl,λ_=>rfl,.bool true,SL l _,λ_=>⟨List.Pairwise.nil,λ_ hm=>(nomatch hm)⟩⟩,h2,h3,h4⟩
end Att
namespace L2
open PySem PySem.Spec PyProof.Rows
theorem HD:∀{vs:List Value} {ns:List Int},IntsAre vs ns->Vals (ns.map V.int) vs
 |_,_,.nil=>.nil
 |_,_,.cons n t h=>.cons ⟨t,rfl⟩ (HD h)
noncomputable def Cy(s:Stmt):Arguments:=match s with
 |.FunctionDef _ a _ _ _ _ _ _ _ _=>a
 |_=>{ posonlyargs:=[],args:=[],vararg:=none,kwonlyargs:=[],kw_defaults:=[],kwarg:=none,defaults:=[] }
noncomputable def C8(s:Stmt):List Stmt:=match s with
 |.FunctionDef _ _ b _ _ _ _ _ _ _=>b
 |_=>[]
noncomputable def AC(s:Stmt):Scope:=match s with
 |.FunctionDef _ _ _ _ _ _ sc _ _ _=>sc
 |_=>{ kind:=.function,names:=[],isGenerator:=false,isCoroutine:=false }
noncomputable abbrev CX0:CXT:=λ_ _ _ _ _ _=>False
noncomputable abbrev E0:XK:=λ_ _ _=>False
def eV{X:Cx}:Ng CX0 X E0:=λ_ _ _ _ _ _ _ h=>h.elim
structure Fun(K:Frag)(x qual:Str)(st:Stmt)(f:Addr)(fd:FuncData):Prop where
 ex:∃(oc:Value) (od:Option Addr) (kV doc pm:Value) (an:Option Addr) (cdv ct:Value) (osl:Array (Option Value)),
  fd=fnOf x qual (Cy st) (C8 st) (AC st) .none kV doc pm an cdv ct/\K.lookup f=some ⟨oc,od,.func fd,osl⟩/\codeIn K cdv qual=true
 kp:keepIn K (.ref f)=true
section
variable{P:Program}{w:World}{K:Frag}{mg:Str->Option Value}{base:Heap}
def Fun.ok{x qual:Str}{st:Stmt}{f:Addr}{fd:FuncData}{N ps:List Str}{k:Nat}{sp:Sp}(F:Fun K x qual st f fd)(S:FnScope N ps (AC st))(len:∀vs H Q E,sp vs H Q E->vs.length=ps.length)
 (hbody:∀(cdv:Value) (A:Around) (outer:List Env) (s:Shared) (H:Hp) (vs:List V) (Q:VK) (E:XK),Room k (A.deeper (envOfC qual (AC st) 67 f cdv))->sp vs H Q E ->
  ∃t,PSs (Ho CX0 P w K mg base N qual (AC st) f cdv A outer s H E).nox (C8 st) t/\t { nx:=λ_ H'=>Q .non H',rt:=Q } (Cs N vs) H):FnOk P w K mg base CX0 (k+1) f fd ps sp:=by
 obtain⟨oc,od,kV,doc,pm,an,cdv,ct,osl,rfl,lk,hcd⟩:=F.ex;refine fC lk hcd S len λA outer s H vs Q E hr hsp=>?_;obtain⟨t,h,q⟩:=hbody cdv A outer s H vs Q E hr hsp;exact⟨t,h.nox,q⟩
def Fun.binds{x qual:Str}{st:Stmt}{f:Addr}{fd:FuncData}{ps:List Str}(F:Fun K x qual st f fd)
 (h:∀(kV doc pm:Value) (an:Option Addr) (cdv ct:Value) (us:List Value),us.length=ps.length->bindArgs (fnOf x qual (Cy st) (C8 st) (AC st) .none kV doc pm an cdv ct) ⟨us,[]⟩=pure (ps.zip us)):Binds K fd ps []:=by
 obtain⟨oc,od,kV,doc,pm,an,cdv,ct,osl,rfl,lk,hcd⟩:=F.ex;exact .all (h kV doc pm an cdv ct)
def ck{x qual:Str}{st:Stmt}{f:Addr}{oc:Value}{od an:Option Addr}{osl:Array (Option Value)}{kV doc pm cdv ct:Value}(l:K.lookup f=some ⟨oc,od,.func (fnOf x qual (Cy st) (C8 st) (AC st) .none kV doc pm an cdv ct),osl⟩)
 (c:codeIn K cdv qual=true) (k:keepIn K (.ref f)=true):Fun K x qual st f (fnOf x qual (Cy st) (C8 st) (AC st) .none kV doc pm an cdv ct):=⟨⟨oc,od,kV,doc,pm,an,cdv,ct,osl,rfl,l,c⟩,k⟩
end
def HI{n:Nat}(h:n<=1000):n<sizeLine:=Nat.lt_of_le_of_lt h 80
section
variable{A:Around}{E:77}
def ZC{t':Nat}(I:83)(mu:Mut (H a))(hs:Heap.SameBut a s.heap h')(he:∃q,h'.get? a=some q)(new:ObjOk X.prog X.w (upd H a ob) h' a ob):
 Inv X pins σ (upd H a ob) { s with heap:=h',toks:=t' }:=
 I.write (x:=a) (e:=a) mu (.inl rfl) (λb q hb z=>(hs.2 b hb).trans z) he new
end
noncomputable def BC(cells:List (Str×Addr)):List (Str×NameKind)->List (Str×Addr)->List (Str×Addr)
 |[],acc=>acc
 |(n,k)::r,acc=>if k==.free then BC cells r ((n,(cells.lookup n).getD 0)::acc)else BC cells r acc
theorem GE(f:Str×NameKind->List (Str×Addr)->Sem (ForInStep (List (Str×Addr))))
 (hf:∀name kind cs,f (name,kind) cs=if(kind==NameKind.free)=true then(do let a <- cellOf env name;pure (ForInStep.yield ((name,a)::cs)))else pure (ForInStep.yield cs)):
 ∀(names:List (Str×NameKind)) (acc:List (Str×Addr)),(∀y∈names,y.2=.free->∃c,env.cells.lookup y.1=some c)->forIn names acc f=pure (BC env.cells names acc)
 |[],acc,_=>rfl
 |(n,k)::r,acc,hy=>by
   rw[List.forIn_cons,hf];have ih:=λa=>GE f hf r a λz hz=>hy z (j4 _ hz);by_cases hk:(k==NameKind.free)=true
   .obtain⟨c,hc⟩:=hy (n,k) jg (by simpa using hk);have hc:env.cells.lookup n=some c:=hc;have e1:cellOf env n=pure c:=by unfold cellOf;rw[hc]
    rw[ic hk,e1];show forIn r ((n,c)::acc) f=_;have e2:BC env.cells ((n,k)::r) acc=BC env.cells r ((n,c)::acc):=by
     rw[BC,ic hk,hc];rfl
    rw[ih,e2]
   .rw[ig hk];show forIn r acc f=_;have e2:BC env.cells ((n,k)::r) acc=BC env.cells r acc:=by
     rw[BC,ig hk]
    rw[ih,e2]
def DK{scope:Scope}{env:Env}(h:∀y∈scope.names,y.2=.free->∃c,env.cells.lookup y.1=some c):closureFor scope env=pure (BC env.cells scope.names []):=by
 unfold closureFor;dsimp only;rw[GE _ (λname kind cs=>rfl) scope.names [] h];rfl
theorem Eu{cells:List (Str×Addr)}:∀{names:List (Str×NameKind)} {acc:List (Str×Addr)},(∀y∈names,y.2=.free->∃c,cells.lookup y.1=some c)->(∀x c,acc.lookup x=some c->cells.lookup x=some c) ->
 ∀x c,(BC cells names acc).lookup x=some c->cells.lookup x=some c
 |[],_,_,ha,x,c,e=>ha x c e
 |(n,k)::r,acc,hy,ha,x,c,e=>by
   unfold BC at e;have hr:∀y∈r,y.2=.free->∃c,cells.lookup y.1=some c:=λz hz=>hy z (j4 _ hz);by_cases hk:(k==NameKind.free)=true
   .rw[ic hk]at e;refine Eu hr (λz d q=>?_) x c e;obtain⟨c0,hc0⟩:=hy (n,k) jg (by simpa using hk);have hc0:cells.lookup n=some c0:=hc0;rw[j8]at q;by_cases hz:(z==n)=true
    .rw[hz,hc0]at q;have:z=n:=by simpa using hz
     subst this;simpa [hc0]using q
    .have hz':(z==n)=false:=by simpa using hz
     rw[hz']at q;exact ha z d q
   .rw[ig hk]at e;exact Eu hr ha x c e
theorem Ev:∀{names:List (Str×NameKind)} {acc:List (Str×Addr)} {x:Str},((acc.lookup x).isSome=true∨(x,NameKind.free)∈names)->((BC cells names acc).lookup x).isSome=true
 |[],_,_,h=>h.elim id λz=>by cases z
 |(n,k)::r,acc,x,h=>by
   unfold BC;by_cases hk:(k==NameKind.free)=true
   .rw[ic hk];refine Ev ?_;by_cases hx:(x==n)=true
    .exact .inl (by rw[j8,hx];rfl)
    .have hx':(x==n)=false:=by simpa using hx
     rcases h with h|h
     .exact .inl (by rw[j8,hx'];exact h)
     .rcases mem_cons.mp h with h|h
      .cases h;simp at hx
      .exact .inr h
   .rw[ig hk];refine Ev ?_;rcases h with h|h
    .exact .inl h
    .rcases mem_cons.mp h with h|h
     .cases h;simp at hk
     .exact .inr h
noncomputable def Ce:Nat->List (Str×NameKind)->List (Str×Addr)
 |_,[]=>[]
 |n,(x,k)::r=>if k==.cell then Ce (n+1) r++[(x,n)]else Ce n r
theorem C9:∀(names:List (Str×NameKind)) (n:Nat) (acc:List (Str×Addr)),cellsFrom n names acc=Ce n names++acc
 |[],_,_=>rfl
 |(x,k)::r,n,acc=>by
   unfold cellsFrom Ce;by_cases hk:(k==NameKind.cell)=true
   .rw[ic hk,ic hk,C9 r (n+1),jL];rfl
   .rw[ig hk,ig hk,C9 r n]
theorem Ix:∀(names:List (Str×NameKind)) (n:Nat) (x:Str) (c:Addr),(Ce n names).lookup x=some c->(x,NameKind.cell)∈names
 |[],_,_,_,e=>by cases e
 |(y,k)::r,n,x,c,e=>by
   unfold Ce at e;by_cases hk:(k==NameKind.cell)=true
   .rw[ic hk]at e;have hk':k=.cell:=by simpa using hk
    rw[jY]at e;cases q:(Ce (n+1) r).lookup x with
    |some d=>exact j4 _ (Ix r _ x d q)
    |none=>
     rw[q]at e;simp only[none_or,j8]at e;by_cases hx:(x==y)=true
     .have:x=y:=by simpa using hx
      subst this;subst hk';exact jg
     .have hx':(x==y)=false:=by simpa using hx
      rw[hx']at e;cases e
   .rw[ig hk]at e;exact j4 _ (Ix r n x c e)
theorem Iy:∀(names:List (Str×NameKind)) (n:Nat) (x:Str),(x,NameKind.cell)∈names->∃c,(Ce n names).lookup x=some c
 |[],_,_,h=>by cases h
 |(y,k)::r,n,x,h=>by
   unfold Ce;by_cases hk:(k==NameKind.cell)=true
   .rw[ic hk,jY];rcases mem_cons.mp h with h|h
    .obtain⟨rfl,rfl⟩:=Prod.mk.inj h;cases q:(Ce (n+1) r).lookup x with
     |some d=>exact⟨d,rfl⟩
     |none=>exact⟨n,by simp[j8]⟩
    .obtain⟨c,hc⟩:=Iy r (n+1) x h;exact⟨c,by rw[hc];rfl⟩
   .rw[ig hk];rcases mem_cons.mp h with h|h
    .cases h;simp at hk
    .exact Iy r n x h
noncomputable def Vj(scope:Scope)(C:Addr)(env:Env):Env:=
 { scope:=relabel scope env,locals:=C,globals:=env.globals,cells:=cellsFrom (C+1) scope.names (BC env.cells scope.names []),qual:=env.qual,func:=none,code:=env.code,frame:=env.frame,builtins:=env.builtins }
def Oe{M:Model}{A:Around}{E:77}{s:Shared}{scope:Scope}{env:Env}{Q:Env->Shared->Prop}
 (hQ:∀h',(∀b o,s.heap.get? b=some o->h'.get? b=some o)->h'.Ns 67 (λ_=>none)->(∀x c,(Ce (67+1) scope.names).lookup x=some c->h'.IsCell c none/\67<c) ->
  ((Ce (67+1) scope.names).Pairwise λx y=>x.2≠y.2) ->
  Q { scope:=scope,locals:=67,globals:=env.globals,cells:=cellsFrom (67+1) scope.names cl,qual:=env.qual,func:=none,code:=env.code,frame:=env.frame,builtins:=env.builtins } { s with heap:=h' }):
 wpAny M A (newFunctionEnv scope env.globals cl [] env.qual none .none (some env)) Q E s:=by
 simp only[newFunctionEnv,Option.isSome_some,iU];refine ie (wpAny_alloc ?_);refine ie (wpAny_layCells _ (λname kind cells=>by cases hkc:kind==NameKind.cell<;>simp[hkc]) _ _ _ _ ?_);have ok:=cellsFrom_ok scope.names (s.heap.push { cls:=.type "dict",data:=.dict #[] }) (67+1) [] ⟨λ_ _ hm=>(nomatch hm),List.Pairwise.nil⟩ (by rw[Heap.size_push];exact iq _);rw[Heap.size_push,C9,je]at ok;rw[show({ s with heap:=s.heap.push { cls:=.type "dict",data:=.dict #[] } }:Shared).heap.objs.size=67+1 from Heap.size_push ..];refine ie (ip (ip ?_));exact hQ _ (λb o e=>pushCells_keeps _ _ b o (74 _ e)) ((Heap.Ns.new s.heap (.type "dict")).keeps (pushCells_keeps _ _)) (λx c hc=>⟨(ok.empty x c (mem_of_lookup hc)).1,(ok.empty x c (mem_of_lookup hc)).2⟩) ok.apart
theorem Kw:∀{names:List (Str×NameKind)} {x:Str} {k k':NameKind},(names.map (·.1)).Nodup->(x,k)∈names->(x,k')∈names->k=k'
 |[],_,_,_,_,h,_=>by cases h
 |(y,q)::r,x,k,k',nd,h,h'=>by
   have nd:(y::r.map (·.1)).Nodup:=nd;obtain⟨n1,n2⟩:=nodup_cons.mp nd;have out:∀{z:NameKind},(y,z)∈r->False:=λm=>n1 (mem_map.mpr ⟨_,m,rfl⟩);rcases mem_cons.mp h with e|e<;>rcases mem_cons.mp h' with e'|e'
   .cases e;cases e';rfl
   .cases e;exact(out e').elim
   .cases e';exact(out e).elim
   .exact Kw n2 e e'
theorem Gy{env:Env}{x:Str}:∀{names:List (Str×NameKind)},names.lookup x=some .free ->
 (names.map λ(n,k)=>if(k==NameKind.free&&env.scope.kind==.function&&env.kindOf n==some .cell)then(n,NameKind.cell)else(n,k)).lookup x=some .cell ∨
 (names.map λ(n,k)=>if(k==NameKind.free&&env.scope.kind==.function&&env.kindOf n==some .cell)then(n,NameKind.cell)else(n,k)).lookup x=some .free
 |[],h=>by simp at h
 |(n,k)::r,h=>by
   have ih:=@Gy env x r;show List.lookup x ((if(k==NameKind.free&&env.scope.kind==.function&&env.kindOf n==some .cell)=true then(n,NameKind.cell)else(n,k))::_)=_∨List.lookup x ((if(k==NameKind.free&&env.scope.kind==.function&&env.kindOf n==some .cell)=true then(n,NameKind.cell)else(n,k))::_)=_;cases hx:x==n with
   |true=>
    simp only[j8,hx]at h;cases h;by_cases hc:(NameKind.free==NameKind.free&&env.scope.kind==.function&&env.kindOf n==some .cell)=true
    .rw[ic hc];exact .inl (by simp only[j8,hx])
    .rw[ig hc];exact .inr (by simp only[j8,hx])
   |false=>
    simp only[j8,hx]at h;by_cases hc:(k==NameKind.free&&env.scope.kind==.function&&env.kindOf n==some .cell)=true
    .rw[ic hc];simp only[j8,hx];exact ih h
    .rw[ig hc];simp only[j8,hx];exact ih h
theorem HU{env:Env}{x:Str}:∀{names:List (Str×NameKind)},
 ((names.map λ(n,k)=>if(k==NameKind.free&&env.scope.kind==.function&&env.kindOf n==some .cell)then(n,NameKind.cell)else(n,k)).lookup x=some .cell ∨
 (names.map λ(n,k)=>if(k==NameKind.free&&env.scope.kind==.function&&env.kindOf n==some .cell)then(n,NameKind.cell)else(n,k)).lookup x=some .free) ->
 names.lookup x=some .cell∨names.lookup x=some .free
 |[],h=>by simp at h
 |(n,k)::r,h=>by
   have ih:=@HU env x r;have h:List.lookup x ((if(k==NameKind.free&&env.scope.kind==.function&&env.kindOf n==some .cell)=true then(n,NameKind.cell)else(n,k))::_)=_∨List.lookup x ((if(k==NameKind.free&&env.scope.kind==.function&&env.kindOf n==some .cell)=true then(n,NameKind.cell)else(n,k))::_)=_:=h;cases hx:x==n with
   |true=>
    by_cases hc:(k==NameKind.free&&env.scope.kind==.function&&env.kindOf n==some .cell)=true
    .have hk:k=.free:=by
      have:=(Bool.and_eq_true _ _ ▸ (Bool.and_eq_true _ _ ▸ hc).1:(k==NameKind.free)=true/\_).1;simpa using this
     exact .inr (by simp only[j8,hx,hk])
    .rw[ig hc]at h;simp only[j8,hx]at h ⊢;exact h
   |false=>
    simp only[j8,hx];refine ih ?_;by_cases hc:(k==NameKind.free&&env.scope.kind==.function&&env.kindOf n==some .cell)=true
    .rw[ic hc]at h;simp only[j8,hx]at h;exact h
    .rw[ig hc]at h;simp only[j8,hx]at h;exact h
noncomputable def cCx(X:Cx)(N':List Str)(scope:Scope)(s:Shared)(H:Hp)(ex:List Addr):Cx:=
 { X with N:=N',s₀:=s,H₀:=H,env:=Vj scope s.heap.objs.size X.env,outer:=X.stack,ex:=ex,fn:=λx=>decide ((x,NameKind.cell)∈scope.names),pn:=[],xe:=λ_ _=>False }
structure CSc(X:Cx)(scope:Scope)(fr:List Str)(ix:71):Prop where
 kind:scope.kind=.function
 nd:(scope.names.map (·.1)).Nodup
 free:(scope.names.all λy=>y.2 != .free||X.env.kindOf y.1==some .cell||X.env.kindOf y.1==some .free)=true
 frs:(fr.all λx=>scope.names.lookup x==some .free)=true
 ixs:fr.map some=ix.map λi=>X.N[i]?
 loc:(scope.names.all λy=>y.2 != .local||scope.names.lookup y.1==some .local)=true
noncomputable def Fq(n:Nat)(ix:71)(σ:St):St:=List.replicate n none++ix.map λi=>(σ[i]?).join
section
def CSc.outer(S:CSc X scope fr ix)(hy:y∈scope.names)(e:y.2=.free):X.env.kindOf y.1=some .cell∨X.env.kindOf y.1=some .free:=by
 have h:=all_eq_true.mp S.free y hy;rw[e]at h;simpa using h
def CSc.clos(S:CSc X scope fr ix)(ok:X.Ok):∀y∈scope.names,y.2=.free->∃c,X.env.cells.lookup y.1=some c:=λy hy e=>ok.has y.1 (S.outer hy e)
def DD(S:CSc X scope fr ix)(ok:X.Ok){n:Nat}(e:(cellsFrom n scope.names (BC X.env.cells scope.names [])).lookup x=some c):
 (Ce n scope.names).lookup x=some c∨X.env.cells.lookup x=some c:=by
 rw[C9,jY]at e;cases q:(Ce n scope.names).lookup x with
 |some d=>rw[q]at e;exact .inl e
 |none=>
  rw[q]at e;exact .inr (Eu (S.clos ok) (λ_ _ z=>by simp at z) x c e)
def N8(S:CSc X scope fr ix)(I:83)(hex:∀b∈ex,CO X pins H b){h':Heap}(hk:∀b o,s.heap.get? b=some o->h'.get? b=some o)(hn:h'.Ns 67 λ_=>none)
 (ho:∀x c,(Ce (67+1) scope.names).lookup x=some c->h'.IsCell c none/\67<c) (ha:(Ce (67+1) scope.names).Pairwise λx y=>x.2≠y.2) (hlt:∀b∈ex,b<67):
 Inv 76 [] (Fq loc.length ix σ) H { s with heap:=h' }:=by
 have old:∀x c,X.env.cells.lookup x=some c->c<s.heap.objs.size:=λx c e=>let ⟨v,z⟩:=I.cell x c e;z.lt
 have lenix:fr.length=ix.length:=by simpa using ji List.length S.ixs
 refine⟨⟨I.ok.mod,?_,I.ok.glob,I.ok.blt,iq _,?_,?_,?_,I.ok.hd,I.ok.frames,.inl rfl,?_,I.bs,jo I.ok.bsz I.sz,?_,?_,I.stack,I.stkFree⟩,rfl,I.bare,Un.kept hk,⟨_,hn,?_⟩,?_,I.hok.fresh (iq _),?_,?_,I.hok.kept hk,?_⟩
 .exact S.kind
 .intro x y c e1 e2;rcases DD S I.ok e1 with a|a<;>rcases DD S I.ok e2 with b|b
  .exact name_of_addr ha (PySem.mem_of_lookup a) (PySem.mem_of_lookup b)
  .exact absurd (Nat.lt_trans (ho x c a).2 (old y c b)) (jw _)
  .exact absurd (Nat.lt_trans (ho y c b).2 (old x c a)) (jw _)
  .exact I.ok.inj x y c a b
 .intro x hx;rcases HU hx with e|e
  .exact isSome_iff_exists.mp (PySem.W.cellsFrom_some _ _ _ (.inl e))
  .exact isSome_iff_exists.mp (PySem.W.cellsFrom_some _ _ _ (.inr (Ev (.inr (PySem.mem_of_lookup e)))))
 .intro x c hf e;have hf:(x,NameKind.cell)∈scope.names:=kr hf;obtain⟨d,hd⟩:=Iy scope.names (67+1) x hf;have e':(cellsFrom (67+1) scope.names (BC X.env.cells scope.names [])).lookup x=some c:=e;rw[C9,jY,hd]at e';cases e';exact ja (ho x _ hd).2
 .intro b hb;refine⟨iW (hlt b hb),λx c e z=>?_⟩;rcases DD S I.ok e with a|a
  .exact absurd (Nat.lt_trans (ho x c a).2 (by rw[z];exact hlt b hb)) (jw _)
  .exact(hex b hb).2.2.2.2.1 x c a z
 .intro b o e hb;rcases(hex b hb).2.2.2.1 with z|z
  .exact I.ok.noex b o e z
  .exact absurd (j3 (78 (I.ok.bs b o e).1) z) (jw _)
 .intro b hb hf;rcases mem_cons.mp (I.stkSub b hf)with z|z
  .exact(hex b hb).2.1 z
  .exact(hex b hb).2.2.1 z
 .intro i x v e1 e2 e3;have e1:(loc++fr)[i]?=some x:=e1;unfold Fq at e2;by_cases hi:i<loc.length
  .rw[List.getElem?_append_left (by simpa using hi),List.getElem?_replicate]at e2;split at e2<;>cases e2
  .have hi':loc.length<=i:=not_lt.mp hi;rw[List.getElem?_append_right (by simpa using hi')]at e2;rw[List.getElem?_append_right hi']at e1;rw[List.length_replicate,List.getElem?_map]at e2;generalize hj:i-loc.length=j at e1 e2;have e4:(fr.map some)[j]?=some (some x):=by rw[List.getElem?_map,e1];rfl
   rw[S.ixs,List.getElem?_map]at e4;cases q:ix[j]? with
   |none=>rw[q]at e2;cases e2
   |some k=>
    rw[q]at e2 e4;have e2:(σ[k]?).join=some v:=Option.some.inj e2;have e4:X.N[k]?=some x:=Option.some.inj e4;have e5:σ[k]?=some (some v):=by
     cases w:σ[k]? with
     |none=>rw[w]at e2;cases e2
     |some z=>rw[w]at e2;simpa using e2
    have hfx:=all_eq_true.mp S.frs x (j5 e1);have hfx:scope.names.lookup x=some .free:=by simpa using hfx
    have hmem:=PySem.mem_of_lookup hfx;have hout:=S.outer hmem rfl;obtain⟨m,hm,hl⟩:=I.loc;obtain⟨u,r,l⟩:=hl k x v e4 e5 (.inr hout);refine⟨u,r,.inr ⟨Gy hfx,?_⟩⟩;rcases l with⟨kk,_⟩|⟨kk,c,ec,z⟩
    .rcases hout with w|w
     .rw[kk]at w;cases w
     .rw[kk]at w;cases w
    .have own0:(Ce (67+1) scope.names).lookup x=none:=by
      cases w:(Ce (67+1) scope.names).lookup x with
      |none=>rfl
      |some d=>exact absurd (Kw S.nd (Ix _ _ _ _ w) hmem) 80
     have hc:(BC X.env.cells scope.names []).lookup x=some c:=by
      obtain⟨d,hd⟩:=isSome_iff_exists.mp (Ev (cells:=X.env.cells) (acc:=[]) (.inr hmem));have:=Eu (S.clos I.ok) (λ_ _ z=>by simp at z) x d hd;rw[ec]at this;cases this;exact hd
     refine⟨c,?_,z.keeps hk⟩;show(cellsFrom (67+1) scope.names (BC X.env.cells scope.names [])).lookup x=some c;rw[C9,jY,own0,hc];rfl
 .intro x c e;rcases DD S I.ok e with a|a
  .exact⟨_,(ho x c a).1⟩
  .obtain⟨v,z⟩:=I.cell x c a;exact⟨v,z.keeps hk⟩
 .intro x c e;rcases DD S I.ok e with a|a
  .exact I.hok.fresh (ja (ho x c a).2)
  .exact I.freeC x c a
 .intro p hp;cases hp
 .unfold Fq;show _=(loc++fr).length;simp[lenix]
end
section
variable{A:Around}{R:Result->Shared->Prop}
def TH{iter:Expr}{ifs:List Expr}{emit:Sem Unit}(I:Nat->Shared->Prop)
 (hden:(87).den (.compLoop e 0 it acc env)=(compTurn e 0 it acc env).onRaise (λx=>do noteFrame x env;theTreesLotGoes x))
 (hund:A.under (.compLoop e 0 it acc env)=A)
 (hturn:compTurn e 0 it acc env=(do
  standAt iter.pos
  match <- pyNext it with
  |none=>pure (.done .next)
  |some x=>
   letOwnedTupleGo target it x
   assign target env x
   let mut ok:=true
   for c in ifs do
    if ok then ok <- isTrue c env (eval c env)
   if ok then emit
   again (.compLoop e 0 it acc env)))
 (turn:∀n s,I n s->wpAny 87 A (pyNext it) (λr s₁=>match r with
  |none=>R (.ok .next) s₁
  | some v=>wpAny 87 A (letOwnedTupleGo target it v) (λ_ s₁=>wpAny 87 A (assign target env v) (λ_ s₂=>
   wpAny 87 A (forIn ifs true λc r=>if r=true then do let ok <- isTrue c env (eval c env);pure (ForInStep.yield ok)else pure (ForInStep.yield r)) (λok s₃=>
    if ok=true then wpAny 87 A emit (λ_ s₅=>∃m,m<n/\I m s₅) (λ_ _=>False) s₃
    else ∃m,m<n/\I m s₃) (λ_ _=>False) s₂) (λ_ _=>False) s₁) (λ_ _=>False) s₁) (λ_ _=>False) s)
 (n:Nat) (h:I n s):
 codeAny 87 A (.compLoop e 0 it acc env) R s:=by
 refine codeAny_loop rfl I (λn s hI=>?_) n h;rw[hden,hund];refine wpAny_noted ?_;rw[hturn];refine ie (jG (ie (j0 (turn n s hI) (λr s₁ h₁=>?_) λ_ _ h'=>h'.elim)));cases r with
 |none=>exact ip h₁
 |some v=>
  refine ie (j0 h₁ (λ_ s₁ h₁=>?_) λ_ _ h'=>h'.elim);refine ie (j0 h₁ (λ_ s₂ h₂=>ie (j0 h₂ (λok s₃ h₃=>?_) λ_ _ h'=>h'.elim)) λ_ _ h'=>h'.elim);cases ok with
  |false=>exact ip ⟨rfl,h₃⟩
  |true=>
   exact ie (j0 h₃ (λx s₄ h₄=>ip ⟨rfl,h₄⟩) λ_ _ h'=>h'.elim)
def Qi(hcl:clausesOf e=g::gs)(hasy:g.is_async=0)
 (hden:(87).den (.compStart e 0 it acc env)=(compStart e 0 it acc env).onRaise (λx=>do noteFrame x env;standAt theWindowsPlace))
 (hund:A.under (.compStart e 0 it acc env)=A)
 (h0:codeAny 87 A (.compLoop e 0 it acc env) R s)
 (h:wpAny 87 A (pyIter it) (λit' s'=>codeAny 87 A (.compLoop e 0 it' acc env) R s')
  (notedBy 87 A env λx s'=>R (.error x) s') s):
 codeAny 87 A (.compStart e 0 it acc env) R s:=by
 refine codeAny_of_tree ?_;rw[hden,hund];refine wpAny_notedAt ?_;have e1:((clausesOf e)[0]?).elim false (·.is_async != 0)=false:=by rw[hcl];simp[hasy]
 have e2:(clausesOf e)[0]?=some g:=by rw[hcl];rfl
 unfold compStart;rw[e1,e2];show wpAny _ _ (ask >>= _) _ _ s;refine ie (wpAny_askSetting (wpAny_ite ?_));split
 .first
   |exact ie (ip (ip (And.intro rfl h0)))
   |exact ip (And.intro rfl h0)
 .first
   |exact ie (jW (ie (jG (ie (j0 h (λit' s' h'=>ip (And.intro rfl h')) λ_ _ x=>x)))))
   |(refine ie (jW ?_);show wpAny _ _ (standAt g.iter.pos >>= _) _ _ s;exact ie (jG (ie (j0 h (λit' s' h'=>ip (And.intro rfl h')) λ_ _ x=>x))))
end
def PF(X:Cx)(ifs:List Expr)(t:TT):Prop:=
 ∀(pins:List (Addr×Obj)) (s:Shared) (σ:St) (H:Hp) (Q:Bool->Hp->Prop),Inv X pins σ H s->t σ H Q ->
   wpAny 73 X.A (forIn ifs true λc r=>if r=true then do let ok <- isTrue c X.env (eval c X.env);pure (ForInStep.yield ok)else pure (ForInStep.yield r)) (TP X pins σ Q) X.xe s
noncomputable def Tr:TT:=λ_ H Q=>Q true H
def bR:PF X [] Tr:=λpins s σ H Q I h=>wpAny_tests_nil ⟨H,I,h⟩
def bQ(h:PT X c t):PF X [c] t:=λpins s σ H Q I q=>wpAny_tests_one (h pins s σ H Q I q)
noncomputable abbrev TM:=Addr->St->Hp->(Hp->Prop)->Prop
def PM(X:Cx)(emit:Value->Env->Sem Unit)(t:TM):Prop:=
 ∀(D:Addr) (pins:List (Addr×Obj)) (s:Shared) (σ:St) (H:Hp) (Q:Hp->Prop),Inv X pins σ H s->t D σ H Q->wpAny 73 X.A (emit (.ref D) X.env) (λ_ s'=>∃H',Inv X pins σ H' s'/\Q H') X.xe s
def Ta(J:It)(D:Addr)(o:HO)(σ0:St)(H0:Hp)(g:TG)(tf:TT)(tm:TM)(Q:VK):Prop:=∃W:Nat->Nat->St->Hp->Prop,
 (∃m,W 0 m σ0 (upd H0 D o))/\∀i m σ H,W i m σ H ->
  ((J.stop i H/\Q (.ref D) H)∨(J.go i H/\∃N:St->Hp->Prop,(∀σ' H',N σ' H'->∃m',m'<m/\W (i+1) m' σ' H')/\
    ∀x H',J.yld i H x H'->g x σ H' λσ2 H2=>tf σ2 H2 λb H3=>
     if b=true then tm D σ2 H3 λH4=>N σ2 H4 else N σ2 H3))
noncomputable def Ft(o:HO)(n:Nat)(ix:71)(wi:TI)(g:TG)(tf:TT)(tm:TM):TE:=λσ H Q=>wi σ H λJ H1=>∀D,H1 D=none->Ta J D o (Fq n ix σ) H1 g tf tm Q
section
def TW{D:Addr}{Q:77}{E:77}(I:83)(hD:H D=some (.lst ys))(r:RelV x u)(hz:ys.length<sizeLine)
 (h:∀v s',Inv X pins σ (upd H D (.lst (ys++[x]))) s'->Q v s'):wpAny 73 X.A (call (.builtin "list.append") [.ref D,u]) Q E s:=by
 have I':=I.wish λ_ _=>False;have q:=Kx (X:=X.wish λ_ _=>False) pins s σ H (.ref D) [x] (.ref D) [u] (λv H'=>H'=upd H D (.lst (ys++[x]))) I' rfl (.cons r .nil) ⟨D,ys,x,rfl,rfl,hD,hz,rfl⟩;refine j0 q (λv s' ⟨v',H',I2,_,e⟩=>?_) λ_ _ z=>False.elim z;subst e;exact h v s' I2.unwish
structure Kd(X:Cx)(e tg iter:Expr)(ifs:List Expr)(emit:Value->Env->Sem Unit)(newAcc:Sem Value)(ho:HO):Prop where
 cl:clausesOf e=[⟨tg,iter,ifs,0⟩]
 turn:∀it acc env,compTurn e 0 it acc env=(do
  standAt iter.pos
  match <- pyNext it with
  |none=>pure (.done .next)
  |some x=>
   letOwnedTupleGo tg it x
   assign tg env x
   let mut ok:=true
   for c in ifs do
    if ok then ok <- isTrue c env (eval c env)
   if ok then emit acc env
   again (.compLoop e 0 it acc env))
 d1:∀it acc env,(73).den (.compLoop e 0 it acc env)=(compTurn e 0 it acc env).onRaise (λx=>do noteFrame x env;theTreesLotGoes x)
 d2:∀it acc env,(73).den (.compStart e 0 it acc env)=(compStart e 0 it acc env).onRaise (λx=>do noteFrame x env;standAt theWindowsPlace)
 u1:∀it acc env,X.A.under (.compLoop e 0 it acc env)=X.A
 u2:∀it acc env,X.A.under (.compStart e 0 it acc env)=X.A
 new:∀(pins:List (Addr×Obj)) (s:Shared) (σ:St) (H:Hp) (E:77) (Q:77),Inv X pins σ H s->(∀ob,Inv X pins σ (upd H 67 ho) { s with heap:=s.heap.push ob }->Q (.ref 67) { s with heap:=s.heap.push ob })->wpAny 73 X.A newAcc Q E s
def K1{iter:Expr}{emit:Value->Env->Sem Unit}{tn:Nat->Heap->Prop}{s2:Shared}{E:77}
 {RR:Value->Addr->Result->Shared->Prop} (Z:Kd X e tg iter ifs emit newAcc ho) (hc:X.calm=true) (S:CSc X scope fr ix)
 (hg:∀s H ex,PG 76 tg g) (hf:∀s H ex,PF 76 ifs tf) (he:∀s H ex,PM 76 emit tm)
 (I2:Inv X pins σ H2 s2) (T:Turn X.prog X.w X.K tg J fp it tn) (st2:tn 0 s2.heap) (f2:∀b∈fp,CO X pins H2 b) (hW:∀D,H2 D=none->Ta J D ho (Fq loc.length ix σ) H2 g tf tm Q)
 (hfin:∀(s3 s6:Shared) (H5:Hp) (σ5:St) (D:Addr),Inv X pins σ (upd H2 D ho) s3->Inv (cCx X (loc++fr) scope s3 (upd H2 D ho) fp) [] σ5 H5 s6->(∀b∈fp,CO X pins (upd H2 D ho) b)->Q (.ref D) H5->RR (.ref D) s3.heap.objs.size (.ok .next) s6):
 wpAny 73 X.A newAcc (λacc s₃=>wpAny 73 X.A (newFunctionEnv scope X.env.globals (BC X.env.cells scope.names []) [] X.env.qual none .none (some X.env)) (λcenv s₄=>
  codeAny 73 X.A (.compStart e 0 (.ref it) acc { cenv with scope:=relabel scope X.env }) (RR acc cenv.locals) s₄) E s₃) E s2:=by
 refine Z.new pins s2 σ H2 _ _ I2 λob I3=>?_;have fresh2:H2 86=none:=I2.hok.fresh (iq _);obtain⟨W,⟨m0,w0⟩,turn⟩:=hW 86 fresh2;have lt2:∀b∈fp,b<s2.heap.objs.size:=λb hb=>let ⟨o,e,_⟩:=T.obj 0 _ st2 b hb;78 e
 have f3:∀b∈fp,CO X pins (upd H2 86 ho) b:=λb hb=>⟨by rw[AW (iW (lt2 b hb))];exact(f2 b hb).1,(f2 b hb).2⟩
 have lt3:∀b∈fp,b<(s2.heap.push ob).objs.size:=λb hb=>by rw[Heap.size_push];exact kh (lt2 b hb)
 generalize hs3:({ s2 with heap:=s2.heap.push ob }:Shared)=s3 at *;have lt3:∀b∈fp,b<s3.heap.objs.size:=by rw[<- hs3];exact lt3
 have st3:tn 0 s3.heap:=T.keep _ _ _ st2 λb hb o e=>by rw[<- hs3];exact 74 _ e
 refine Oe λh' hk hn ho' ha=>?_;have I4:=N8 (loc:=loc) S I3 f3 hk hn ho' ha lt3;have fpX:∀{H':Hp},(∀b∈fp,H' b=none)->∀b∈fp,CO (cCx X (loc++fr) scope s3 (upd H2 86 ho) fp) [] H' b:=λhn b hb=>
  ⟨hn b hb,(I4.ok.exf b hb).1,I4.ok.exfs b hb,.inl hb,(I4.ok.exf b hb).2,λp hp=>by cases hp⟩
 have loop:codeAny 73 X.A (.compLoop e 0 (.ref it) (.ref 86) (Vj scope s3.heap.objs.size X.env))
  (RR (.ref 86) s3.heap.objs.size) { s3 with heap:=h' }:=by
  refine TH (λn s'=>∃i σ' H',Inv (cCx X (loc++fr) scope s3 (upd H2 86 ho) fp) [] σ' H' s'/\tn i s'.heap/\(∀b∈fp,H' b=none)/\W i n σ' H') (Z.d1 _ _ _) (Z.u1 _ _ _) (Z.turn _ _ _) ?_ m0
   ⟨0,_,_,I4,T.keep _ _ _ st3 λb hb o e=>hk b o e,λb hb=>(f3 b hb).1,w0⟩
  rintro n s5 ⟨i,σ5,H5,I5,st5,fr5,w5⟩;have w5:=turn i n σ5 H5 w5;rcases w5 with⟨stop,qn⟩|⟨go,N,hN,step⟩
  .refine thn (T.done (cCx X (loc++fr) scope s3 (upd H2 86 ho) fp) rfl rfl rfl hc i [] s5 σ5 H5 _ I5 (fpX fr5) st5 stop) λr s6 ⟨hr,I6⟩=>?_;subst hr;exact hfin s3 s6 H5 σ5 86 I3 I6 f3 qn
  .refine thn (T.item (cCx X (loc++fr) scope s3 (upd H2 86 ho) fp) rfl rfl rfl hc i [] s5 σ5 H5 _ I5 (fpX fr5) st5 go) λr s6 ⟨u,hr,h6⟩=>?_;subst hr;refine thn h6 λ_ s7 ⟨x,H7,I7,r7,y7,st7,fr7⟩=>?_;have I7':=I7.pinned (fpX fr7) (T.obj _ _ st7);have keepI:∀{σ8:St} {H8:Hp} {s8:Shared},Inv (cCx X (loc++fr) scope s3 (upd H2 86 ho) fp) ([]++FK fp s7.heap) σ8 H8 s8->tn (i+1) s8.heap/\∀b∈fp,H8 b=none:=λ{σ8 H8 s8} I8=>by
    refine⟨T.keep _ _ _ st7 λb hb o e=>(I8.pin (b,o) (j7 _ (j7 _ (CD hb e)))).1,λb hb=>?_⟩;obtain⟨o,e,d⟩:=T.obj _ _ st7 b hb;exact(I8.pin (b,o) (j7 _ (j7 _ (CD hb e)))).2.1
   refine thn (hg s3 (upd H2 86 ho) fp _ s7 σ5 H7 x u _ I7' r7 (step x H7 y7)) λ_ s8 ⟨σ8,H8,I8,q8⟩=>?_;refine thn (hf s3 (upd H2 86 ho) fp _ s8 σ8 H8 _ I8 q8) λb s9 ⟨H9,I9,q9⟩=>?_;cases b with
   |false=>
    rw[ig Bool.false_ne_true]at q9 ⊢;obtain⟨m',hm,w9⟩:=hN _ _ q9;exact⟨m',hm,i+1,σ8,H9,I9.unpinned,(keepI I9).1,(keepI I9).2,w9⟩
   |true=>
    rw[ic rfl]at q9 ⊢;refine thn (he s3 (upd H2 86 ho) fp _ _ s9 σ8 H9 _ I9 q9) λe10 s10 ⟨H10,I10,n10⟩=>?_;obtain⟨m',hm,w10⟩:=hN _ _ n10;exact⟨m',hm,i+1,σ8,_,I10.unpinned,(keepI I10).1,(keepI I10).2,w10⟩
 exact Qi Z.cl rfl (Z.d2 _ _ _) (Z.u2 _ _ _) loop (T.self X.A 0 _ _ _ (T.keep _ _ _ st3 λb hb o e=>hk b o e) loop)
def EK{s3:Shared}(I3:Inv X pins σ H3 s3)(I6:Inv (cCx X N' scope s3 H3 fp) [] σ5 H5 s6)(f3:∀b∈fp,CO X pins H3 b)
 (hs:Heap.SameBut s3.heap.objs.size s6.heap h''):Inv X pins σ H5 { s6 with heap:=h'' }:=by
 have neC:∀b o,s3.heap.get? b=some o->b≠s3.heap.objs.size:=λb o e=>iW (78 e);have un:=I6.base;refine I3.call' (s':={ s6 with heap:=h'' }) (ch:=fp) I6.os ⟨λb o e n hb hx=>?_,λb o e n hb hx=>?_,un.free,λb o e hx=>?_,un.tups,un.frzs,un.tbls⟩ ?_ I6.bare ?_
 .exact(hs.2 b (neC b o e)).trans (un.keep b o e n hb hx)
 .obtain⟨sl,q⟩:=un.slot b o e n hb hx;exact⟨sl,(hs.2 b (neC b o e)).trans q⟩
 .obtain⟨o',q⟩:=un.there b o e hx;exact⟨o',(hs.2 b (neC b o e)).trans q⟩
 .intro b ob e;have hfree:H5 s3.heap.objs.size=none:=I6.free;refine(I6.hok b ob e).stay (λc w' hc q=>(hs.2 c ?_).trans q) (λ_ q=>q) λ_ _ q=>q;intro z;rcases hc with hc|hc
  .rw[<- hc,z,hfree]at e;cases e
  .rw[z,hfree]at hc;cases hc
 .intro b hb;obtain⟨_,a2,_,a4,a5,a6⟩:=f3 b hb;exact⟨a4,a2,a5,a6⟩
def Rh(S:CSc X scope fr ix):∀y∈scope.names,y.2=.local->scope.names.lookup y.1=some .local:=λy hy e=>by
 have:=all_eq_true.mp S.loc y hy;rw[e]at this;simpa using this
def Mu{iter:Expr}{emit:Value->Env->Sem Unit}(Z:Kd X e tg iter ifs emit newAcc ho)
 (hc:X.calm=true) (S:CSc X scope fr ix) (hi:PI X tg iter wi)
 (hg:∀s H ex,PG 76 tg g) (hf:∀s H ex,PF 76 ifs tf) (he:∀s H ex,PM 76 emit tm)
 (hev:eval e X.env=comprehension e scope X.env pos newAcc false (eval iter X.env)) (hs:∀x,foldedSetIterable iter X.env x=pure x):PE X e (Ft ho loc.length ix wi g tf tm):=by
 intro pins s σ H Q I h;rw[hev];refine kA (use:=none) Z.cl hs (DK (S.clos I.ok)) S.kind (Rh S) (thn (hi pins s σ H _ I h) λv s1 h1=>thn h1 λitv s2 h2=>?_);obtain⟨it,fp,tn,J,H2,rfl,I2,T,st2,f2,hW⟩:=h2;refine K1 (RR:=λacc C=>compPost 73 X.A X.xe none (EP X pins σ Q) acc C) Z hc S hg hf he I2 T st2 f2 hW λs3 s6 H5 σ5 L I3 I6 f3 q=>?_;obtain⟨m,hm,_⟩:=I6.loc;exact⟨m,hm,λh'' hs'=>⟨.ref L,H5,EK I3 I6 f3 hs',rfl,q⟩⟩
noncomputable def QC(te:TE):TM:=λD σ H Q=>te σ H λv H1=>∃ys,H1 D=some (.lst ys)/\ys.length<sizeLine/\Q (upd H1 D (.lst (ys++[v])))
noncomputable def Qe(elt:Expr):Value->Env->Sem Unit:=λacc env=>do let _ <- call (.builtin "list.append") [acc,<- eval elt env]
def OX(he:PE X elt te):PM X (Qe elt) (QC te):=by
 intro D pins s σ H Q I h;unfold Qe;refine ie (thn (he pins s σ H _ I h) λu s1 ⟨y,H1,I1,r1,ys,hD,hz,q⟩=>ie (TW I1 hD r1 hz λ_ s2 I2=>ip ⟨_,I2,q⟩))
def Oi{iter:Expr}:Kd X (.ListComp elt [⟨tg,iter,ifs,0⟩] scope pos) tg iter ifs (Qe elt) (newList []) (.lst []):=
 ⟨rfl,λ_ _ _=>compTurn_list ..,λ_ _ _=>rfl,λ_ _ _=>rfl,λ_ _ _=>rfl,λ_ _ _=>rfl,λpins s σ H E Q I h=>jV (h _ (I.lnew (its:=[]) (ys:=[]) (t':=s.toks) .nil (jF _)))⟩
noncomputable abbrev GM(n:Nat)(ix:71)(wi:TI)(g:TG)(tf:TT)(te:TE):TE:=Ft (.lst []) n ix wi g tf (QC te)
def YU{iter:Expr}(hc:X.calm=true)(S:CSc X scope fr ix)(hi:PI X tg iter wi)
 (hg:∀s H ex,PG 76 tg g) (hf:∀s H ex,PF 76 ifs tf) (he:∀s H ex,PE 76 elt te)
 (hs:∀x,foldedSetIterable iter X.env x=pure x:=by intro _;rfl):PE X (.ListComp elt [⟨tg,iter,ifs,0⟩] scope pos) (GM loc.length ix wi g tf te):=
 Mu Oi hc S hi hg hf (λs H ex=>OX (he s H ex)) (eval_ListComp ..) hs
end
section
variable{X:Cx}
def YC{i:Nat}{iter:Expr}{spos:Pos}(hN:X.N.Nodup)(hiN:X.N[i]?=some y)(hy:X.env.scope.names.lookup y=some .local)
 (hc:X.calm=true) (S:CSc X scope fr ix) (hi:PI X tg iter wi)
 (hg:∀s H ex,PG 76 tg g) (hf:∀s H ex,PF 76 ifs tf) (he:∀s H ex,PE 76 elt te)
 (hsw:swapsWith (.ListComp elt [⟨tg,iter,ifs,0⟩] scope pos) (some (.Name y py)) spos.line X.env=pure true:=by rfl) (hs:∀x,foldedSetIterable iter X.env x=pure x:=by intro _;rfl):
 PS X (.Assign [.Name y py] (.ListComp elt [⟨tg,iter,ifs,0⟩] scope pos) spos) (DX (GM loc.length ix wi g tf te) (Cv i)):=by
 intro pins s σ H D I h;rw[exec_Assign_Name_used _ _ _ _ hsw];refine ie (jG (ie ?_));show wpAny _ _ (do let _ <- comprehension (.ListComp elt [⟨tg,iter,ifs,0⟩] scope pos) scope X.env _ (newList []) false (eval iter X.env) (some (assign (.Name y py) X.env))) _ _ s;refine ie (j0 (kA (use:=some (assign (.Name y py) X.env)) (Q:=λ_ s'=>SP X pins D .next s') rfl hs (DK (S.clos I.ok)) S.kind (Rh S)
  (thn (hi pins s σ H _ I h) λv s1 h1=>thn h1 λitv s2 h2=>?_)) (λ_ s' hq=>ip (ip hq)) λ_ _ e=>e)
 obtain⟨it,fp,tn,J,H2,rfl,I2,T,st2,f2,hW⟩:=h2;refine K1 (RR:=λacc C=>compPost 73 X.A X.xe (some (assign (.Name y py) X.env)) (λ_ s'=>SP X pins D .next s') acc C) Oi hc S hg hf (λs H ex=>OX (he s H ex)) I2 T st2 f2 hW λs3 s6 H5 σ5 L I3 I6 f3 q=>?_;have J6:Inv X pins σ H5 s6:=EK (h'':=s6.heap) I3 I6 f3 (.refl ..);obtain⟨m,hm,_⟩:=I6.loc;have hm:s6.heap.Ns s3.heap.objs.size m:=hm;have hL:s3.heap.objs.size≠X.env.locals:=Ne.symm (iW I3.lt);show wpAny _ _ (assign (.Name y py) X.env (.ref L)) _ _ s6;refine wpAny_assign_Name (HH (v:=.ref L) J6 hN hiN (.inl hy) rfl (λs7 I7 ⟨a,sb,ha⟩=>?_) (.inr hy));have hca:s3.heap.objs.size≠a:=by
  rcases ha with rfl|ha
  .exact hL
  .obtain⟨v,z⟩:=I3.cell y a ha;exact Ne.symm (iW z.lt)
 refine⟨m,hm.sameBut sb hca,λh' hs'=>?_⟩;refine⟨_,H5,I7.turned (t':=s7.toks) (it:=s3.heap.objs.size) (λb o hb e=>(hs'.2 b hb).trans e) I6.free hL (.inr I3.sz) (λx c e z=>?_) (λp hp z=>?_),q⟩
 .obtain⟨v,w⟩:=I3.cell x c e;exact absurd w.lt (by rw[z];exact jw _)
 .exact absurd (78 (I3.pin p hp).1) (by rw[z];exact jw _)
end
mutual
def Rep(K:Frag)(H:Hp):PyData->V->Prop
 |.none,v=>v=.non
 |.bool b,v=>v=.bl b
 |.int i,v=>v=.int i
 |.str x,v=>v=.str x
 |.list ds,v=>∃a xs,v=.ref a/\SqL K H a xs/\Bz K H ds xs
 |.tuple ds,v=>∃a xs,v=.ref a/\SqT K H a xs/\Bz K H ds xs
 |.dict _,_=>False
def Bz(K:Frag)(H:Hp):List PyData->List V->Prop
 |[],xs=>xs=[]
 |d::ds,xs=>∃x r,xs=x::r/\Rep K H d x/\Bz K H ds r
end
section
mutual
theorem EO(I:83):∀(d:PyData) (v:V) (u:Value),Rep X.K H d v->RelV v u->∃as,Reads s.heap u d as
 |.none,v,u,h,r=>by
  have h:v=.non:=by simpa only[Rep]using h
  subst h;cases r;exact⟨_,.none⟩
 |.bool b,v,u,h,r=>by
  have h:v=.bl b:=by simpa only[Rep]using h
  subst h;cases r;exact⟨_,.bool b⟩
 |.int i,v,u,h,r=>by
  have h:v=.int i:=by simpa only[Rep]using h
  subst h;obtain⟨t,rfl⟩:=r;exact⟨_,.int i t⟩
 |.str x,v,u,h,r=>by
  have h:v=.str x:=by simpa only[Rep]using h
  subst h;obtain⟨t,rfl⟩:=r;exact⟨_,.str x t⟩
 |.list ds,v,u,h,r=>by
  have h:∃a xs,v=.ref a/\SqL X.K H a xs/\Bz X.K H ds xs:=by simpa only[Rep]using h
  obtain⟨a,xs,rfl,hq,ha⟩:=h;cases r;obtain⟨its,rv,⟨o,n,e,c,_,dd⟩,hz⟩:=I.list hq;obtain⟨as,q⟩:=FI I ds xs its ha rv;exact⟨_,.list e c dd (by simpa using q)⟩
 |.tuple ds,v,u,h,r=>by
  have h:∃a xs,v=.ref a/\SqT X.K H a xs/\Bz X.K H ds xs:=by simpa only[Rep]using h
  obtain⟨a,xs,rfl,hq,ha⟩:=h;cases r;obtain⟨its,rv,⟨o,e,c,n,dd⟩,hz⟩:=I.tuple hq;obtain⟨as,q⟩:=FI I ds xs its ha rv;exact⟨_,.tuple e c dd (by simpa using q)⟩
 |.dict _,v,u,h,r=>by
  have h:False:=by simpa only[Rep]using h
  exact h.elim
theorem FI(I:83):∀(ds:List PyData) (xs:List V) (us:List Value),Bz X.K H ds xs->Vals xs us->∃as,ReadsAll s.heap us ds as
 |[],xs,us,h,r=>by
  have h:xs=[]:=by simpa only[Bz]using h
  subst h;cases r;exact⟨_,.nil⟩
 |d::ds,xs,us,h,r=>by
  have h:∃x r,xs=x::r/\Rep X.K H d x/\Bz X.K H ds r:=by simpa only[Bz]using h
  obtain⟨x,rr,rfl,h1,h2⟩:=h;cases r with
  |cons r1 r2=>
   obtain⟨as,q1⟩:=EO I d _ _ h1 r1;obtain⟨bs,q2⟩:=FI I ds _ _ h2 r2;exact⟨_,.cons q1 q2⟩
end
end
def Stb:HO->Prop
 |.tup _=>True
 |.frz _ _=>True
 |.ext _=>True
 |.xd _=>True
 |_=>False
structure Grow(H H':Hp):Prop where
 keep:∀b o,Stb o->H b=some o->H' b=some o
theorem Grow.tup(g:Grow H H'):∀b xs,H b=some (.tup xs)->H' b=some (.tup xs):=λb _ h=>g.keep b _ trivial h
theorem Grow.frz(g:Grow H H'):∀b o u,H b=some (.frz o u)->H' b=some (.frz o u):=λb _ _ h=>g.keep b _ trivial h
def Grow.refl:Grow H H:=⟨λ_ _ _ h=>h⟩
def Chg(H:Hp)(p:Addr):Prop:=∀o,Stb o->H p≠some o
def Grow.put(a:Grow H H')(h:Chg H' p):Grow H (upd H' p o):=⟨λc u s e=>by
 have q:=a.keep c u s e;have n:c≠p:=λz=>h u s (by rw[<- z];exact q);rw[AW n];exact q⟩
def Grow.sq{K:Frag}(g:Grow H H')(h:SqT K H a xs):SqT K H' a xs:=by
 rcases h with(h|⟨o,h⟩)|h
 .exact .inl (.inl (g.tup _ _ h))
 .exact .inl (.inr ⟨o,g.frz _ _ _ h⟩)
 .exact .inr h
section
variable{X:Cx}
noncomputable def Ps(K:Frag):R2:=λx y H Q=>∃d e,Rep K H d x/\Rep K H e y/\d.canLay0=true/\e.canLay0=true/\min d.depth e.depth<=60/\Q (.bl (!PyData.eqv d e)) H
noncomputable def Ub(K:Frag):R2:=λx y H Q=>∃d e,Rep K H d x/\Rep K H e y/\d.canLay0=true/\e.canLay0=true/\min d.depth e.depth<=60/\Q (.bl (PyData.eqv d e)) H
def bu(hu:X.A.units+64<cLine):OpR X (compareOp .NotEq) (Ps X.K):=by
 intro pins s σ H x y v u Q I rx ry h;obtain⟨d,e,h1,h2,c1,c2,hm,q⟩:=h;obtain⟨as,q1⟩:=EO I d x v h1 rx;obtain⟨bs,q2⟩:=EO I e y u h2 ry;exact PySem.SeqAt.compareNe_reads q1 q2 c1 c2 66 ⟨.bl _,H,I,rfl,q⟩
def c5(hu:X.A.units+64<cLine):OpR X (compareOp .Eq) (Ub X.K):=by
 intro pins s σ H x y v u Q I rx ry h;obtain⟨d,e,h1,h2,c1,c2,hm,q⟩:=h;obtain⟨as,q1⟩:=EO I d x v h1 rx;obtain⟨bs,q2⟩:=EO I e y u h2 ry;exact PySem.SeqAt.compareEq_reads q1 q2 c1 c2 66 ⟨.bl _,H,I,rfl,q⟩
def G9{ns:List Int}(h:Vals (ns.map V.int) us):IntsAre us ns:=QK h
def TL(hc:X.calm=true):CallR X (.builtin "sum") (λxs H Q=>∃(a:Addr) (ns:List Int),xs=[.ref a]/\SqL X.K H a (ns.map V.int)/\Q (.int ns.sum) H):=by
 intro pins s σ H xs us Q I r h;obtain⟨a,ns,rfl,hq,q⟩:=h;obtain⟨u,rfl,ru⟩:=CJ r;cases ru;obtain⟨its,rv,p,hz⟩:=I.list hq;have hi:=G9 rv;obtain⟨xs,hx⟩:=hi.allInts.items;have hl':s.heap.IsList a (intItems xs):=hx ▸ p.isList;refine sum_intListG (I.ok.hd hc) hl' λh' tk t' hk=>?_;have e1:ns=xs.toList.map (·.1):=by
  rw[<- nums_intItems,<- hx];exact(show numsOf its.toArray.toList=ns from hi.numsOf).symm
 have e2:preSum (numAt xs) xs.size=ns.sum:=by
  rw[preSum_eq,jM 70,e1]
 rw[e2];exact⟨.int ns.sum,H,I.kept hk,⟨_,rfl⟩,q⟩
end
end L2
namespace L2
open PySem PySem.Spec PyProof.Rows
section
variable(K:Frag){X:Cx}
def N7(hK:X.K=K:=by rfl):IxR X (KK K):=by subst hK;exact Yv
def Oj(hK:X.K=K:=by rfl):IxR X (Ua K):=by subst hK;exact cX
def UB(hK:X.K=K:=by rfl):SlR X (Pr K):=by subst hK;exact Ww
def SX(hK:X.K=K:=by rfl):OpR X (compareOp .In) (rIn K false):=by subst hK;exact SW
def Ku(hK:X.K=K:=by rfl):OpR X (compareOp .NotIn) (rIn K true):=by subst hK;exact Mv
def Oc(hu:X.A.units+64<cLine)(hK:X.K=K:=by rfl):OpR X (compareOp .Eq) (Ub K):=by subst hK;exact c5 hu
def I0(hu:X.A.units+64<cLine)(hK:X.K=K:=by rfl):OpR X (compareOp .NotEq) (Ps K):=by subst hK;exact bu hu
def Mw(hK:X.K=K:=by rfl):OpR X (binaryOp .Add) (Pt K):=by subst hK;exact YZ
def aK:List V->Hp->VK->Prop:=λxs H Q=>∃p ys,xs=[.ref p]/\(SqL K H p ys∨SqT K H p ys)/\Q (.int ys.length) H
def LH(hK:X.K=K:=by rfl):CallR X (.builtin "len") (aK K):=by subst hK;exact NW
def KJ:List V->Hp->VK->Prop:=λxs H Q=>∃p ys,xs=[.ref p]/\(SqL K H p ys∨SqT K H p ys)/\∀l,H l=none->Q (.ref l) (upd H l (.lst ys))
def Qk(hK:X.K=K:=by rfl):CallR X (.type "list") (KJ K):=by subst hK;exact NV
def Mj:List V->Hp->VK->Prop:=λxs H Q=>∃p ys,xs=[.ref p]/\((SqL K H p ys/\∀l,H l=none->Q (.ref l) (upd H l (.tup ys)))∨(SqT K H p ys/\Q (.ref p) H))
def Ij(hK:X.K=K:=by rfl):CallR X (.type "tuple") (Mj K):=by subst hK;exact La
def W4:List V->Hp->VK->Prop:=λxs H Q=>∃(a:Addr) (ns:List Int),xs=[.ref a]/\SqL K H a (ns.map V.int)/\Q (.int ns.sum) H
def LG(hc:X.calm=true)(hK:X.K=K:=by rfl):CallR X (.builtin "sum") (W4 K):=by subst hK;exact TL hc
def Ms(hl:PE X l tl)(hK:X.K=K:=by rfl):PI X tg l (Js K tl):=by subst hK;exact YN hl
def OY(hl:PE X l tl)(hK:X.K=K:=by rfl):PI X tg l (NA K tl):=by subst hK;exact bN hl
def YR{pos:Pos}{k:Nat}{n:Nat}(hc:X.calm=true)(h:PGs X es t)(hK:X.K=K:=by rfl)
 (hn:(assignEach es X.env).length=n:=by rfl) (hst:(assignEach es X.env).findIdx? (·.1)=none:=by rfl):PG X (.Tuple es k pos) (QX K n t):=by
 subst hK;exact bO hc h hn hst
end
section
variable(K:Frag){X:Cx}
def LL{bs:List Bool}{us:List Value}{i:Nat}{v:Value}(h:Vals (bs.map V.bl) us)(e:us[i]?=some v):∃b,bs[i]?=some b/\v=.bool b:=by
 induction bs generalizing us i with
 |nil=>cases h;simp at e
 |cons b bs ih=>cases h with
  |cons r t=>cases i with
   |zero=>simp at e;subst e;exact⟨b,rfl,r⟩
   |succ i=>simpa using ih (i:=i) t (by simpa using e)
def aM:List V->Hp->VK->Prop:=λxs H Q=>∃(a:Addr) (bs:List Bool),xs=[.ref a]/\SqL K H a (bs.map V.bl)/\Q (.bl (bs.all id)) H
def aL:List V->Hp->VK->Prop:=λxs H Q=>∃(a:Addr) (bs:List Bool),xs=[.ref a]/\SqL K H a (bs.map V.bl)/\Q (.bl (bs.any id)) H
def LJ(hc:X.calm=true)(hK:X.K=K:=by rfl):CallR X (.builtin "all") (aM K):=by
 subst hK;intro pins s σ H xs us Q I r h;obtain⟨a,bs,rfl,hq,q⟩:=h;obtain⟨u,rfl,ru⟩:=CJ r;cases ru;obtain⟨its,rv,p,hz⟩:=I.list hq;have hl:=p.isList;have hlen:=rv.length;have hlt:a<s.heap.objs.size:=by obtain⟨_,e,_⟩:=hl;exact 78 e
 refine call_all_walk (wpAny_pyIter_list hl ?_);refine⟨67,[67,a],[67],its.toArray.size,_,_,λi=>(bs[i]?).getD true,rfl,Walks.list (A:=X.A.in1) (I.ok.hd hc) _ a (iW hlt) its.toArray,
  ⟨⟨_,85 _ rfl,rfl,rfl⟩,hl.push _⟩,λi v s' Q' E' hP hQ=>?_,λh' tk hk=>?_⟩
 .obtain⟨b,e,rfl⟩:=LL rv (by simpa using hP);simp only[e,getD_some]at hQ;exact kj hQ
 .have e:((69 its.toArray.size).all λi=>(bs[i]?).getD true)=bs.all id:=by
   rw[iu,<- hlen,iX];exact LSm.range_all bs
  rw[e];exact⟨.bl _,H,I.kept (LSm.kept_iter hk),rfl,q⟩
def LI(hc:X.calm=true)(hK:X.K=K:=by rfl):CallR X (.builtin "any") (aL K):=by
 subst hK;intro pins s σ H xs us Q I r h;obtain⟨a,bs,rfl,hq,q⟩:=h;obtain⟨u,rfl,ru⟩:=CJ r;cases ru;obtain⟨its,rv,p,hz⟩:=I.list hq;have hl:=p.isList;have hlen:=rv.length;have hlt:a<s.heap.objs.size:=by obtain⟨_,e,_⟩:=hl;exact 78 e
 refine call_any_walk (wpAny_pyIter_list hl ?_);refine⟨67,[67,a],[67],its.toArray.size,_,_,λi=>(bs[i]?).getD false,rfl,Walks.list (A:=X.A.in1) (I.ok.hd hc) _ a (iW hlt) its.toArray,
  ⟨⟨_,85 _ rfl,rfl,rfl⟩,hl.push _⟩,λi v s' Q' E' hP hQ=>?_,λh' tk hk=>?_⟩
 .obtain⟨b,e,rfl⟩:=LL rv (by simpa using hP);simp only[e,getD_some]at hQ;exact kj hQ
 .have e:((69 its.toArray.size).any λi=>(bs[i]?).getD false)=bs.any id:=by
   rw[iu,<- hlen,iX];exact LSm.range_any bs
  rw[e];exact⟨.bl _,H,I.kept (LSm.kept_iter hk),rfl,q⟩
def KI:List V->Hp->VK->Prop:=λxs H Q=>∃(a:Addr) (ns:List Int),xs=[.ref a]/\SqL K H a (ns.map V.int)/\ns.length<64/\∀(p:Addr) (ns':List Int),H p=none->ns'.Perm ns->ns'.Pairwise (·<=·)->Q (.ref p) (upd H p (.lst (ns'.map V.int)))
def Nx{ns:List Int}{us:List Value}(h:IntsAre us ns):Vals (ns.map V.int) us:=HD h
def NU(hK:X.K=K:=by rfl):CallR X (.builtin "sorted") (KI K):=by
 subst hK;intro pins s σ H xs us Q I r h;obtain⟨a,ns,rfl,hq,h64,q⟩:=h;obtain⟨u,rfl,ru⟩:=CJ r;cases ru;obtain⟨its,rv,p,hz⟩:=I.list hq;have hlen:=rv.length;rw[iX]at hlen;refine sorted_ints p.isList (G9 rv) 66 λout ns' a1 a2 a3=>?_;obtain⟨e,he⟩:=sortedAll_at s.heap its out;have hl':ns'.length=ns.length:=a2.length_eq;refine⟨.ref (67+1),_,I.laid (a:=67+1) (o:=.lst (ns'.map V.int)) (t':=s.toks) (λb o hb=>sortedAll_old hb) (le_succ _) ⟨?_,out.toList,e,Nx a1,he⟩,rfl,q _ _ (I.hok.fresh (le_succ _)) a2 a3⟩;rw[iX,hl'];exact ja (HI 66)
def i4:List V->Hp->VK->Prop:=λxs H Q=>∃(a:Addr) (ns:List Int),xs=[.ref a]/\SqL K H a (ns.map V.int)/\0<ns.length/\∀M:Int,M∈ns->(∀x∈ns,x<=M)->Q (.int M) H
def W5:List V->Hp->VK->Prop:=λxs H Q=>∃(a:Addr) (ns:List Int),xs=[.ref a]/\SqL K H a (ns.map V.int)/\0<ns.length/\∀M:Int,M∈ns->(∀x∈ns,M<=x)->Q (.int M) H
def TQ(hc:X.calm=true)(hK:X.K=K:=by rfl):CallR X (.builtin "min") (W5 K):=by
 subst hK;intro pins s σ H xs us Q I r h;obtain⟨a,ns,rfl,hq,hne,q⟩:=h;obtain⟨u,rfl,ru⟩:=CJ r;cases ru;obtain⟨its,rv,p,hz⟩:=I.list hq;have hi:=G9 rv;obtain⟨ys,e⟩:=hi.allInts.items;have hns:ns=ys.toList.map (·.1):=by
  rw[<- hi.numsOf,<- nums_intItems,<- e]
 have hsz:0<ys.size:=by
  have h3:=hne;rw[hns,iX,Array.length_toList]at h3;exact h3
 have hl:=p.isList;rw[e]at hl;refine min_intList (I.ok.hd hc) hl hsz λv h' tk hv hk=>?_;obtain⟨t,rfl⟩:=intItems_at hv;obtain⟨h1,h2⟩:=argBest_lt (numAt ys) (ys.size-1);refine⟨.int _,H,I.kept hk,⟨t,rfl⟩,q _ ?_ λx hx=>?_⟩
 .rw[hns,numAt_eq];exact getD_mem (by rw[iX,Array.length_toList];omega)
 .rw[hns]at hx;obtain⟨j,hj,rfl⟩:=mem_getD hx;rw[iX,Array.length_toList]at hj;rw[<- numAt_eq];exact h2 j 66
end
section
variable{E:77}{s:Shared}
def LZ{Q:77}(hl:s.heap.IsTuple l (intItems xs))
 (h:∀s₂:Shared,s₂={ s with heap:=s.heap.push { cls:=.type "tuple_iterator",data:=.fields #[.ref l,.int 0 0] } } ->
  (s₂.heap.IsTupleIter 67 l 0/\s₂.heap.IsTuple l (intItems xs))->(∀b∈[67,l],b<s₂.heap.objs.size)->l≠67->Q (.ref 67) s₂):
 wpAny 87 A (pyIter (.ref l)) Q E s:=by
 have hlt:l<s.heap.objs.size:=by obtain⟨_,e,_⟩:=hl;exact 78 e
 refine wpAny_pyIter_tuple hl (h _ rfl ⟨⟨_,85 _ rfl,rfl,rfl⟩,hl.push _⟩ (λb hb=>?_) (iW hlt));show b<(s.heap.push _).objs.size;rw[Heap.size_push];rcases mem_cons.mp hb with rfl|hb
 .exact Nat.lt_succ_self _
 .rcases mem_cons.mp hb with rfl|hb
  .exact kh hlt
  .cases hb
def SZ{h':Heap}(hk:∀b x,b∉[67]->(s.heap.push o).get? b=some x->h'.get? b=some x):∀b x,s.heap.get? b=some x->h'.get? b=some x:=
 λb x e=>hk b x (λhm=>by rw[mem_singleton.mp hm]at e;exact jw _ (78 e)) (74 _ e)
def M3{Q:77}(hh:A.handled=none)(hl:s.heap.IsTuple l (intItems xs))
 (h:∀h' tk t',(∀b o,s.heap.get? b=some o->h'.get? b=some o)->Q (.int (preSum (numAt xs) xs.size) t') { s with heap:=h',toks:=tk }):
 wpAny 87 A (call (.builtin "sum") [.ref l]) Q E s:=by
 refine call_sum_walkG (LZ hl λs₂ e st hfp hlI=>?_);subst e;refine⟨_,_,_,_,_,_,numAt xs,rfl,Walks.tuple (A:=A.in1) hh _ l hlI (intItems xs),st,hfp,(λ_ _=>intItems_at),λh' tk t' hk=>?_⟩;have:=h h' tk t' (SZ hk);simpa [intItems]using this
end
section
variable(K:Frag){X:Cx}
def W3:List V->Hp->VK->Prop:=λxs H Q=>∃(a:Addr) (ns:List Int),xs=[.ref a]/\SqT K H a (ns.map V.int)/\Q (.int ns.sum) H
def K2(hc:X.calm=true)(hK:X.K=K:=by rfl):CallR X (.builtin "sum") (W3 K):=by
 subst hK;intro pins s σ H xs us Q I r h;obtain⟨a,ns,rfl,hq,q⟩:=h;obtain⟨u,rfl,ru⟩:=CJ r;cases ru;obtain⟨its,rv,p,hz⟩:=I.tuple hq;have hi:=G9 rv;obtain⟨xs,hx⟩:=hi.allInts.items;have hl':s.heap.IsTuple a (intItems xs):=hx ▸ (show s.heap.IsTuple a its.toArray from p);refine M3 (I.ok.hd hc) hl' λh' tk t' hk=>?_;have e1:ns=xs.toList.map (·.1):=by
  rw[<- nums_intItems,<- hx];exact(show numsOf its.toArray.toList=ns from hi.numsOf).symm
 have e2:preSum (numAt xs) xs.size=ns.sum:=by
  rw[preSum_eq,jM 70,e1]
 rw[e2];exact⟨.int ns.sum,H,I.kept hk,⟨_,rfl⟩,q⟩
end
structure DefAt(K:Frag)(mg:Str->Option Value)(x:Str)(st:Stmt)(f:Addr)(fd:FuncData)(ps:List Str):Prop where
 fn:Fun K x x st f fd
 mg:mg x=some (.ref f)
 bd:Binds K fd ps []
def Q0{X:Cx}{j k:Nat}{st:Stmt}{p:Pos}(F:FnOk X.prog X.w X.K X.mg X.base CX0 j f fd ps sp)(hr:Room k X.A)(D:DefAt X.K X.mg x st f fd ps)(ha:PA X (e::es) t)
 (hjk:j<=k:=by decide) (hg:Gl X x:=by rfl) (hdb:(x==("__debug__":Str))=false:=by decide) (he:starEach (e::es) X.env=(false,eval e X.env)::starEach es X.env:=by rfl) (hpl:(backTo pos (starEach es X.env)).any (·.1)=false:=by rfl):
 PE X (.Call (.Name x p) (e::es) [] pos) (DW sp [] E0 t):=
 YV (F.mono hjk) hr hg D.mg D.fn.kp D.bd .nil eV ha hdb he hpl
noncomputable def PR(i j k:Nat)(ta:TA):TS:=λD σ H=>ta σ H λvs H1=>∃v w z,vs=[v,w,z]/\D.nx (((σ.set k (some z)).set j (some w)).set i (some v)) H1
def YE{X:Cx}{i j k:Nat}{pos:Pos}{kt k2 pt2}(hc:X.calm=true)(hN:X.N.Nodup)(hi:X.N[i]?=some x)(hj:X.N[j]?=some y)(hk:X.N[k]?=some z)
 (hx:X.env.scope.names.lookup x=some .local) (hy:X.env.scope.names.lookup y=some .local) (hz:X.env.scope.names.lookup z=some .local) (ha:PA X [a,b,c] ta)
 (hw:swappedStores [.Tuple [.Name x px,.Name y py,.Name z pz] kt pt] (.Tuple [a,b,c] k2 pt2) X.env=pure (some [x,y,z]))
 (hs:swapsWithSole [.Tuple [.Name x px,.Name y py,.Name z pz] kt pt] (.Tuple [a,b,c] k2 pt2) pos.line X.env=pure false:=by rfl):
 PS X (.Assign [.Tuple [.Name x px,.Name y py,.Name z pz] kt pt] (.Tuple [a,b,c] k2 pt2) pos) (PR i j k ta):=by
 intro pins s σ H D I h;rw[exec_Assign_arm];refine ie (jG ?_);rw[hs];refine ie (ip ?_);rw[ig 80];refine ie (Tuple_ (thn (ha _ pins s σ H _ I h) λus s1 ⟨vs,H1,I1,r1,q1⟩=>?_));obtain⟨v,w,q,e1,q1⟩:=q1;subst e1;obtain⟨u1,u2,u3,rfl,rv,rw',rq⟩:∃u1 u2 u3,us=[u1,u2,u3]/\RelV v u1/\RelV w u2/\RelV q u3:=by
  cases r1 with
  |cons p1 q1=>
   cases q1 with
   |cons p2 q2=>
    cases q2 with
    |cons p3 q3=>
     cases q3;exact⟨_,_,_,rfl,p1,p2,p3⟩
 refine jV ?_ (by show 3<=sizeLine;decide);have I2:Inv X pins σ H1 { s1 with heap:=s1.heap.push { cls:=.type "tuple",data:=.seq [u1,u2,u3].toArray } }:=I1.kept (t':=s1.toks) λb o e=>74 _ e;rw[hw];refine ie (ip ?_);show wpAny 73 X.A (do rule "assign.swapped-stores";let items <- unpackItems (.ref s1.heap.objs.size) 3 none;assignInOrder [λv=>bindName X.env z v,λv=>bindName X.env y v,λv=>bindName X.env x v] items.reverse;pure Flow.next) _ _ _;refine ie (jW (ie (unpackItems_tuple (items:=#[u1,u2,u3]) (I.ok.hd hc) (IsTup.new s1.heap _) λh' hx'=>?_)));have I3:=I2.kept (h':=h') (t':=s1.toks) λb o e=>hx' b o (iW (78 e)) e;show wpAny _ _ (assignInOrder [λv=>bindName X.env z v,λv=>bindName X.env y v,λv=>bindName X.env x v] [u3,u2,u1] >>= λ_=>pure Flow.next) _ _ _;refine ie (ko (kx (Cm I3 hN hk (.inl hz) rq (λs2 I4=>?_) (.inr hz))));refine ko (kx (Cm I4 hN hj (.inl hy) rw' (λs3 I5=>?_) (.inr hy)));refine ko (kx (Cm I5 hN hi (.inl hx) rv (λs4 I6=>assignInOrder_nil (ip ?_)) (.inr hx)));exact⟨_,H1,I6,q1⟩
def P6:bootBuiltins "list"=some (.type "list"):=by decide +kernel
def bt_tuple:bootBuiltins "tuple"=some (.type "tuple"):=by decide +kernel
def bt_len:bootBuiltins "len"=some (.builtin "len"):=by decide +kernel
def bt_sum:bootBuiltins "sum"=some (.builtin "sum"):=by decide +kernel
def bt_min:bootBuiltins "min"=some (.builtin "min"):=by decide +kernel
def bt_abs:bootBuiltins "abs"=some (.builtin "abs"):=by decide +kernel
def Hq:bootBuiltins "sorted"=some (.builtin "sorted"):=by decide +kernel
def bt_all:bootBuiltins "all"=some (.builtin "all"):=by decide +kernel
def bt_any:bootBuiltins "any"=some (.builtin "any"):=by decide +kernel
def Lb:bootBuiltins "isinstance"=some (.builtin "isinstance"):=by decide +kernel
mutual
theorem Ii:∀ns:List Int,PyData.canLayAll0 (ns.map PyData.int)=true
 |[]=>by simp[PyData.canLayAll0]
 |n::ns=>by simp[PyData.canLayAll0,PyData.canLay0,Ii ns]
end
end L2
namespace L2
open PySem PySem.Spec PyProof.Rows PySem.W
structure LSc(scope:Scope)(p:Str):Prop where
 nocell:(scope.names.all λy=>y.2 != .cell)=true
 par:scope.names.lookup p=some .local
 co:scope.isCoroutine=false
 gen:scope.isGenerator=false
def cdF(c:Addr)(q:Str):Heap->Prop:=λh=>h.CodeRec (.ref c) q
def fR(H:Hp)(q:Str)(pos:Pos)(ps:Array Value):Prop:=ps=#[]∨∃c,ps=#[rawInt pos.line,rawInt pos.col,.ref c]/\H c=some (.ext (cdF c q))
end L2
namespace L2
open PySem PySem.Spec PyProof.Rows
def Exo(h:Heap)(a C:Addr)(dx:Option Addr)(tb:Value):Prop:=∃vs sl,h.get? a=some ⟨.ref C,dx,.fields vs,sl⟩/\vs[1]?=some tb
end L2
namespace L2
open PySem PySem.Spec PyProof.Rows
open Builtin Builtin.ObjectAttr
def XO(a C:Addr)(dx:Option Addr)(h:Heap):Prop:=∃tb,Exo h a C dx tb
def XdAt(H:Hp):Option Addr->List (Str×V)->Prop
 |none,fs=>fs=[]
 |some d,fs=>H d=some (.xd fs)
end L2
namespace L2
open PySem PySem.Spec PyProof.Rows
def XdAt.grow(g:Grow H H')(h:XdAt H dx fs):XdAt H' dx fs:=by
 cases dx with
 |none=>exact h
 |some d=>exact g.keep _ _ trivial h
def ExR(K:Frag)(nm:Str)(fs:List Str)(H:Hp)(a:Addr)(xs:List V):Prop:=∃C dx,fL K nm=some C/\H a=some (.ext (XO a C dx))/\XdAt H dx (fs.zip xs)/\79=fs.length
theorem ExR.grow{K:Frag}(g:Grow H H')(h:ExR K nm fs H a xs):ExR K nm fs H' a xs:=
 let ⟨C,dx,h1,h2,h3,h4⟩:=h;⟨C,dx,h1,g.keep _ _ trivial h2,h3.grow g,h4⟩
end L2
namespace L2
open PySem PySem.Spec PyProof.Rows PySem.W
structure CapOk(q:Str)(params:Arguments)(scope:Scope)(body:Expr)(p1 p2 x:Str):Prop where
 ne:p1≠p2
 n1:p1≠x
 n2:p2≠x
 l1:LSc scope p1
 l2:LSc scope p2
 lx:scope.names.lookup x=some .free
 only:(scope.names.all λy=>y.2 != .free||y.1==x)=true
 kind:scope.kind=.function
 d1:(p1==("__debug__":Str))=false
 d2:(p1==("__classdict__":Str))=false
 d3:(x==("__debug__":Str))=false
 d4:(x==("__classdict__":Str))=false
 bind:∀(cl:List (Str×Addr)) (pm cd ctv u v:Value),bindArgs (kla_fn "<lambda>" q params body scope cl pm cd ctv) ⟨[u,v],[]⟩=pure [(p1,u),(p2,v)]
def fnG(f c:Addr)(q:Str)(cl:Addr):Heap->Prop:=λh=>∃params scope p1 p2 x px pp pos pm ctv,h.get? f=some { cls:=.type "function",data:=.func (kla_fn "<lambda>" q params (.Subscript (.Name x px) (.Name p1 pp) pos) scope [(x,cl)] pm (.ref c) ctv) }/\CapOk q params scope (.Subscript (.Name x px) (.Name p1 pp) pos) p1 p2 x
def fN(o:Obj)(a0:Addr):Prop:=o.data=.cell (some (.ref a0))
noncomputable abbrev fz:HO:=.ext λ_=>True
def FvR(k:Nat)(H:Hp)(a:Addr)(xs:List V):Prop:=k=1/\∃c q cl a0 o1 o2,H a=some (.ext (fnG a c q cl))/\H c=some (.ext (cdF c q))/\fN o1 a0/\H cl=some (.frz o1 fz)/\H a0=some (.frz o2 (.lst xs))
def FvR.grow{k:Nat}(g:Grow H H')(h:FvR k H a xs):FvR k H' a xs:=by
 obtain⟨h1,c,q,cl,a0,o1,o2,h2,h3,h4,h5,h6⟩:=h;exact⟨h1,c,q,cl,a0,o1,o2,g.keep _ _ trivial h2,g.keep _ _ trivial h3,h4,g.keep _ _ trivial h5,g.keep _ _ trivial h6⟩
end L2
namespace L2
open PySem PySem.Spec PyProof.Rows
inductive I where
 |non|bl (b:Bool)|int (i:Int)|str (x:Str)|tup (ds:List I)
inductive D where
 |im (i:I)|mu (n:Nat)|tm (ds:List D)|ro (ns:List Int)|op (nm:Str) (fs:List Str) (ds:List D)|fv (k:Nat) (ds:List D)
inductive MO where
 |lst (ds:List D)|dic (kvs:List (Key×D))
noncomputable abbrev Hd:=List MO
noncomputable abbrev Ls:=List (Option D)
def RoL(K:Frag)(H:Hp)(a:Addr)(xs:List V):Prop:=(∃o,H a=some (.frz o (.lst xs))) ∨
 ∃(o:Obj) (its:Array Value) (n:Nat),K.lookup a=some o/\o.cls=.type "list"/\o.dict=none/\o.data=.seq its n/\its.size<=sizeLine/\Vals xs its.toList
def RoL.sq{K:Frag}(h:RoL K H a xs):SqL K H a xs:=by
 rcases h with⟨o,h⟩|h
 .exact .inl (.inr ⟨o,h⟩)
 .exact .inr h
def RoL.grow{K:Frag}(g:Grow H H')(h:RoL K H a xs):RoL K H' a xs:=by
 rcases h with⟨o,h⟩|h
 .exact .inl ⟨o,g.frz _ _ _ h⟩
 .exact .inr h
def C6(n:Nat):Prop:=n<=sizeLine
def EH(n:Nat):Prop:=n<sizeLine
def Be(i j:Int):Prop:=(-(2^64)<i/\i<2^64)∨(-(2^64)<j/\j<2^64)
def Py(i j:Int):Prop:=0<=j/\j<=1000000/\i.natAbs<2^64
def Lo(j:Int):Prop:=0<j/\j<1073741824
def CC(j:Int):Prop:=0<j
def HQ(j:Int):Prop:=-(2^62)<=j/\j<2^62
def Pj(i j:Int):Prop:=(-(2^62)<=i/\i<2^62)/\-(2^62)<=j/\j<2^62
def Lh(j:Int):Prop:=j<2^24/\-(2^62)<=j
def Vw(i j:Int):Prop:=(-(2^62)<=i/\i<2^62)/\(-(2^62)<=j/\j<2^62)/\(j-i).toNat<=2^24
def AQ{n:Nat}(h:n<=1000000):C6 n:=jo h (by rw[km];decide)
def BU{n:Nat}(h:n<1000000):EH n:=j3 h (by rw[km];decide)
def B5{i j:Int}(a:-1000000000000<=i)(b:i<=1000000000000):Be i j:=.inl ⟨by omega,by omega⟩
def Og{i j:Int}(a:-1000000000000<=j)(b:j<=1000000000000):Be i j:=.inr ⟨by omega,by omega⟩
def BI{j:Int}(a:-1000000000000<=j)(b:j<=1000000000000):HQ j:=⟨by omega,by omega⟩
def XI{i j:Int}(a:-1000000000000<=i)(b:i<=1000000000000)(c:-1000000000000<=j)(d:j<=1000000000000):Pj i j:=⟨⟨by omega,by omega⟩,by omega,by omega⟩
def Mb{j:Int}(a:-1000000000000<=j)(b:j<=1000000):Lh j:=⟨by omega,by omega⟩
section
variable(K:Frag)
mutual
def RI(H:Hp):I->V->Prop
 |.non,v=>v=.non
 |.bl b,v=>v=.bl b
 |.int i,v=>v=.int i
 |.str x,v=>v=.str x
 |.tup ds,v=>∃a xs,v=.ref a/\SqT K H a xs/\RIs H ds xs
def RIs(H:Hp):List I->List V->Prop
 |[],xs=>xs=[]
 |d::ds,xs=>∃x r,xs=x::r/\RI H d x/\RIs H ds r
end
mutual
def RD(ρ:List Addr)(H:Hp):D->V->Prop
 |.im i,v=>RI K H i v
 |.mu n,v=>∃a,ρ[n]?=some a/\v=.ref a
 |.tm ds,v=>∃a xs,v=.ref a/\SqT K H a xs/\RDs ρ H ds xs
 |.ro ns,v=>∃a,v=.ref a/\RoL K H a (ns.map V.int)
 |.op nm fs ds,v=>∃a xs,v=.ref a/\ExR K nm fs H a xs/\RDs ρ H ds xs
 |.fv k ds,v=>∃a xs,v=.ref a/\FvR k H a xs/\RDs ρ H ds xs
def RDs(ρ:List Addr)(H:Hp):List D->List V->Prop
 |[],xs=>xs=[]
 |d::ds,xs=>∃x r,xs=x::r/\RD ρ H d x/\RDs ρ H ds r
end
def RKs(ρ:List Addr)(H:Hp):List (Key×D)->List (Key×V)->Prop
 |[],xs=>xs=[]
 |d::ds,xs=>∃x r,xs=x::r/\x.1=d.1/\RD K ρ H d.2 x.2/\RKs ρ H ds r
def RC(ρ:List Addr)(H:Hp):MO->HO->Prop
 |.lst ds,o=>∃xs,o=.lst xs/\RDs K ρ H ds xs
 |.dic kvs,o=>∃kv,o=.dK kv/\RKs K ρ H kvs kv
noncomputable def Lf:List Value->List (Addr×Str×Pos)
 |.ref P::.str q _::.int l _::.int c _::r=>(P,q,⟨l.toNat,c.toNat,0,0⟩)::Lf r
 |_=>[]
noncomputable def di(o:Obj):List (Addr×Str×Pos):=match o.cls,o.data with
 |.str _ _,.fields vs=>Lf vs.toList
 |_,_=>[]
noncomputable def JS(K:Frag):List (Addr×Str×Pos):=match K.getLast? with
 |some p=>di p.2
 |none=>[]
def TabsOk(K:Frag)(H:Hp):Prop:=∀x∈JS K,∃ps,H x.1=some (.tbl ps)/\fR H x.2.1 x.2.2 ps
structure RH(ρ:List Addr)(H:Hp)(hd:Hd):Prop where
 len:ρ.length=hd.length
 nd:ρ.Nodup
 tabs:TabsOk K H
 ob:∀(n:Nat) (o:MO) (a:Addr),hd[n]?=some o->ρ[n]?=some a->∃ho,H a=some ho/\RC K ρ H o ho
structure RL(ρ:List Addr)(H:Hp)(ls:Ls)(σ:St):Prop where
 len:ls.length=σ.length
 ob:∀(i:Nat) (d:D),ls[i]?=some (some d)->∃v,σ[i]?=some (some v)/\RD K ρ H d v
end
structure Ext(ρ:List Addr)(H:Hp)(ρ':List Addr)(H':Hp):Prop where
 pre:∃r,ρ'=ρ++r/\∀b∈r,H b=none
 keep:∀b o,H b=some o->b∉ρ->(∀ps,o≠.tbl ps)->H' b=some o
 tab:∀b ps,H b=some (.tbl ps)->∃ps',H' b=some (.tbl ps')
def nt{o:HO}(h:match o with|.tbl _=>False|_=>True:=by trivial):∀ps,o≠.tbl ps:=λps e=>by subst e;exact h
theorem TabsOk.upd{K:Frag}(t:TabsOk K H)(h1:∀ps,H a≠some (.tbl ps))(h2:∀φ,H a≠some (.ext φ)):TabsOk K (upd H a ho):=λx hx=>by
 obtain⟨ps,e,g⟩:=t x hx;have ne:x.1≠a:=λz=>h1 ps (by rw[<- z];exact e);refine⟨ps,by rw[AW ne];exact e,?_⟩;rcases g with g|⟨c,g1,g2⟩
 .exact .inl g
 .have nc:c≠a:=λz=>h2 _ (by rw[<- z];exact g2);exact .inr ⟨c,g1,by rw[AW nc];exact g2⟩
section
variable{K:Frag}{hd':Hd}
mutual
theorem RI.grow(g:Grow H H'):∀{i:I} {v:V},RI K H i v->RI K H' i v
 |.non,v,h=>by simpa only[RI]using h
 |.bl b,v,h=>by simpa only[RI]using h
 |.int b,v,h=>by simpa only[RI]using h
 |.str b,v,h=>by simpa only[RI]using h
 |.tup ds,v,h=>by
  simp only[RI]at h ⊢;obtain⟨a,xs,e,q,r⟩:=h;exact⟨a,xs,e,g.sq q,RIs.grow g r⟩
theorem RIs.grow(g:Grow H H'):∀{i:List I} {v:List V},RIs K H i v->RIs K H' i v
 |[],v,h=>by simpa only[RIs]using h
 |d::ds,v,h=>by
  simp only[RIs]at h ⊢;obtain⟨x,r,e,q,z⟩:=h;exact⟨x,r,e,q.grow g,RIs.grow g z⟩
end
def RH.mut(h:RH K ρ H hd)(m:a∈ρ):(∃xs,H a=some (.lst xs))∨∃kv,H a=some (.dK kv):=by
 obtain⟨n,e⟩:=List.mem_iff_getElem?.mp m;have hn:n<hd.length:=by rw[<- h.len];exact(72 e).1
 obtain⟨ho,e1,e2⟩:=h.ob n hd[n] a (by simp[hn]) e;cases q:hd[n]with
 |lst ds=>rw[q]at e2;obtain⟨xs,rfl,_⟩:=e2;exact .inl ⟨xs,e1⟩
 |dic ds=>rw[q]at e2;obtain⟨xs,rfl,_⟩:=e2;exact .inr ⟨xs,e1⟩
def RH.stb_out(h:RH K ρ H hd)(s:Stb o)(e:H a=some o):a∉ρ:=λm=>by
 rcases h.mut m with⟨y,z⟩|⟨y,z⟩<;>(rw[e]at z;cases z;exact s)
def RX(s:Stb o):∀ps,o≠.tbl ps:=λps e=>by subst e;exact s
def Ext.grow(e:Ext ρ H ρ' H')(h:RH K ρ H hd):Grow H H':=⟨λb o s q=>e.keep b _ q (h.stb_out s q) (RX s)⟩
def Ext.refl:Ext ρ H ρ H:=⟨⟨[],by simp,by simp⟩,λ_ _ h _ _=>h,λ_ ps h=>⟨ps,h⟩⟩
def Ext.trans(e:Ext ρ H ρ1 H1)(h0:RH K ρ1 H1 hd1)(e2:Ext ρ1 H1 ρ2 H2):Ext ρ H ρ2 H2:=by
 obtain⟨r1,rfl,f1⟩:=e.pre;obtain⟨r2,rfl,f2⟩:=e2.pre;refine⟨⟨r1++r2,by simp,λb m=>?_⟩,λb o q n t=>?_,λb ps q=>?_⟩
 .rcases mem_append.mp m with m|m
  .exact f1 b m
  .have z:=f2 b m;cases q:H b with
   |none=>rfl
   |some o=>
    by_cases n:b∈ρ
    .rcases h0.mut (jK r1 n)with⟨y,w⟩|⟨y,w⟩<;>(rw[z]at w;cases w)
    .by_cases t:∃ps,o=.tbl ps
     .obtain⟨ps,rfl⟩:=t;obtain⟨ps',this⟩:=e.tab b ps q;rw[z]at this;cases this
     .have:=e.keep b o q n λps y=>t ⟨ps,y⟩;rw[z]at this;cases this
 .refine e2.keep b o (e.keep b o q n t) (λm=>?_) t;rcases mem_append.mp m with m|m
  .exact n m
  .have:=f1 b m;rw[q]at this;cases this
 .obtain⟨ps',q'⟩:=e.tab b ps q;exact e2.tab b ps' q'
mutual
theorem RD.mono(g:Grow H H')(r:List Addr):∀{d:D} {v:V},RD K ρ H d v->RD K (ρ++r) H' d v
 |.im i,v,h=>by simp only[RD]at h ⊢;exact h.grow g
 |.mu n,v,h=>by
  simp only[RD]at h ⊢;obtain⟨a,e,q⟩:=h;exact⟨a,by rw[List.getElem?_append_left (List.getElem?_eq_some_iff.mp e).1];exact e,q⟩
 |.tm ds,v,h=>by
  simp only[RD]at h ⊢;obtain⟨a,xs,e,q,z⟩:=h;exact⟨a,xs,e,g.sq q,RDs.mono g r z⟩
 |.ro ns,v,h=>by
  simp only[RD]at h ⊢;obtain⟨a,e,q⟩:=h;exact⟨a,e,q.grow g⟩
 |.op nm fs ds,v,h=>by
  simp only[RD]at h ⊢;obtain⟨a,xs,e,q,z⟩:=h;exact⟨a,xs,e,q.grow g,RDs.mono g r z⟩
 |.fv k ds,v,h=>by
  simp only[RD]at h ⊢;obtain⟨a,xs,e,q,z⟩:=h;exact⟨a,xs,e,q.grow g,RDs.mono g r z⟩
theorem RDs.mono(g:Grow H H')(r:List Addr):∀{d:List D} {v:List V},RDs K ρ H d v->RDs K (ρ++r) H' d v
 |[],v,h=>by simpa only[RDs]using h
 |d::ds,v,h=>by
  simp only[RDs]at h ⊢;obtain⟨x,r',e,q,z⟩:=h;exact⟨x,r',e,q.mono g r,RDs.mono g r z⟩
end
theorem RKs.mono(g:Grow H H')(r:List Addr):∀{d:List (Key×D)} {v:List (Key×V)},RKs K ρ H d v->RKs K (ρ++r) H' d v
 |[],v,h=>by simpa only[RKs]using h
 |d::ds,v,h=>by
  simp only[RKs]at h ⊢;obtain⟨x,r',e,q1,q,z⟩:=h;exact⟨x,r',e,q1,q.mono g r,RKs.mono g r z⟩
theorem RC.mono(g:Grow H H')(r:List Addr)(h:RC K ρ H o ho):RC K (ρ++r) H' o ho:=by
 cases o with
 |lst ds=>obtain⟨xs,e,q⟩:=h;exact⟨xs,e,q.mono g r⟩
 |dic ds=>obtain⟨xs,e,q⟩:=h;exact⟨xs,e,q.mono g r⟩
def RD.ext(h:RH K ρ H hd)(e:Ext ρ H ρ' H')(q:RD K ρ H d v):RD K ρ' H' d v:=by
 obtain⟨r,rfl,_⟩:=e.pre;exact q.mono (e.grow h) r
def RDs.ext(h:RH K ρ H hd)(e:Ext ρ H ρ' H')(q:RDs K ρ H d v):RDs K ρ' H' d v:=by
 obtain⟨r,rfl,_⟩:=e.pre;exact q.mono (e.grow h) r
theorem RL.ext(h:RH K ρ H hd)(e:Ext ρ H ρ' H')(q:RL K ρ H ls σ):RL K ρ' H' ls σ:=
 ⟨q.len,λi d z=>let ⟨v,a,b⟩:=q.ob i d z;⟨v,a,b.ext h e⟩⟩
theorem RDs.len:∀{ds:List D} {xs:List V},RDs K ρ H ds xs->79=82
 |[],xs,h=>by simp only[RDs]at h;rw[h];rfl
 |d::ds,xs,h=>by
  simp only[RDs]at h;obtain⟨x,r,rfl,_,z⟩:=h;simp[RDs.len z]
theorem RDs.get:∀{ds:List D} {xs:List V} {i:Nat} {d:D},RDs K ρ H ds xs->ds[i]?=some d->∃x,xs[i]?=some x/\RD K ρ H d x
 |[],xs,i,d,h,e=>by simp at e
 |d::ds,xs,0,e,h,q=>by
  simp only[RDs]at h;obtain⟨x,r,rfl,z,_⟩:=h;simp at q;subst q;exact⟨x,rfl,z⟩
 |d::ds,xs,i+1,e,h,q=>by
  simp only[RDs]at h;obtain⟨x,r,rfl,_,z⟩:=h;obtain⟨y,a,b⟩:=RDs.get (i:=i) z (by simpa using q);exact⟨y,by simpa using a,b⟩
def RDs.nil:RDs K ρ H [] []:=by simp[RDs]
def RDs.cons(h:RD K ρ H d v)(t:RDs K ρ H ds vs):RDs K ρ H (d::ds) (v::vs):=by
 simp only[RDs];exact⟨v,vs,rfl,h,t⟩
theorem RDs.app:∀{ds es:List D} {xs ys:List V},RDs K ρ H ds xs->RDs K ρ H es ys->RDs K ρ H (ds++es) (xs++ys)
 |[],es,xs,ys,h,t=>by simp only[RDs]at h;subst h;simpa using t
 |d::ds,es,xs,ys,h,t=>by
  simp only[RDs]at h;obtain⟨x,r,rfl,z,q⟩:=h;simp only[j9];exact .cons z (q.app t)
theorem RDs.set:∀{ds:List D} {xs:List V} {d:D} {v:V} (i:Nat),RDs K ρ H ds xs->RD K ρ H d v->RDs K ρ H (ds.set i d) (xs.set i v)
 |[],xs,d,v,i,h,t=>by simp only[RDs]at h;subst h;simp[RDs]
 |d::ds,xs,e,v,0,h,t=>by
  simp only[RDs]at h;obtain⟨x,r,rfl,z,q⟩:=h;simpa using RDs.cons t q
 |d::ds,xs,e,v,i+1,h,t=>by
  simp only[RDs]at h;obtain⟨x,r,rfl,z,q⟩:=h;simpa using RDs.cons z (q.set i t)
theorem RDs.drop:∀{ds:List D} {xs:List V} (n:Nat),RDs K ρ H ds xs->RDs K ρ H (ds.drop n) (xs.drop n)
 |ds,xs,0,h=>by simpa using h
 |[],xs,n+1,h=>by simp only[RDs]at h;subst h;simp[RDs]
 |d::ds,xs,n+1,h=>by
  simp only[RDs]at h;obtain⟨x,r,rfl,z,q⟩:=h;simpa using q.drop n
theorem RDs.take:∀{ds:List D} {xs:List V} (n:Nat),RDs K ρ H ds xs->RDs K ρ H (ds.take n) (xs.take n)
 |ds,xs,0,h=>by simp[RDs]
 |[],xs,n+1,h=>by simp only[RDs]at h;subst h;simp[RDs]
 |d::ds,xs,n+1,h=>by
  simp only[RDs]at h;obtain⟨x,r,rfl,z,q⟩:=h;simpa using RDs.cons z (q.take n)
theorem RIs.ds:∀{is:List I} {xs:List V},RIs K H is xs->RDs K ρ H (is.map D.im) xs
 |[],xs,h=>by simpa only[RIs,RDs,jt]using h
 |i::is,xs,h=>by
  simp only[RIs]at h;obtain⟨x,r,rfl,z,q⟩:=h;exact .cons (by simpa only[RD]using z) q.ds
theorem RDs.is:∀{is:List I} {xs:List V},RDs K ρ H (is.map D.im) xs->RIs K H is xs
 |[],xs,h=>by simpa only[RIs,RDs,jt]using h
 |i::is,xs,h=>by
  simp only[iw,RDs]at h;obtain⟨x,r,rfl,z,q⟩:=h;simp only[RIs];exact⟨x,r,rfl,by simpa only[RD]using z,q.is⟩
def RH.new(h:RH K ρ H hd)(ha:H a=none)(c:RC K ρ H o ho):RH K (ρ++[a]) (upd H a ho) (hd++[o])/\Ext ρ H (ρ++[a]) (upd H a ho):=by
 have out:a∉ρ:=λm=>by rcases h.mut m with⟨y,z⟩|⟨y,z⟩<;>(rw[ha]at z;cases z)
 have ex:Ext ρ H (ρ++[a]) (upd H a ho):=⟨⟨[a],rfl,λb m=>by simp at m;subst m;exact ha⟩,λb o q n _=>by rw[AW (Am q ha)];exact q,λb ps q=>⟨ps,by rw[AW (Am q ha)];exact q⟩⟩
 refine⟨⟨by simp[h.len],?_,h.tabs.upd (by simp[ha]) (by simp[ha]),λn o' b e1 e2=>?_⟩,ex⟩
 .rw[nodup_append];refine⟨h.nd,by simp,λx hx y hy z=>?_⟩;simp at hy;subst hy;subst z;exact out hx
 .have gr:=ex.grow h;by_cases hn:n<ρ.length
  .rw[List.getElem?_append_left hn]at e2;rw[List.getElem?_append_left (by rw[<- h.len];exact hn)]at e1;obtain⟨ho',q1,q2⟩:=h.ob n o' b e1 e2;exact⟨ho',by rw[AW (Am q1 ha)];exact q1,q2.mono gr [a]⟩
  .have hn':n=ρ.length:=by
    have:=(72 e2).1;simp at this;omega
   subst hn';simp at e2;rw[h.len]at e1;simp at e1;subst e1;subst e2;exact⟨ho,Af,c.mono gr [a]⟩
def RH.put(h:RH K ρ H hd){n:Nat}(hn:ρ[n]?=some a)(c:RC K ρ H o ho):RH K ρ (upd H a ho) (hd.set n o)/\Ext ρ H ρ (upd H a ho):=by
 have ha:=h.mut (j5 hn);have n1:∀ps,H a≠some (.tbl ps):=λps e=>by rcases ha with⟨y,z⟩|⟨y,z⟩<;>(rw[e]at z;cases z)
 have n2:∀φ,H a≠some (.ext φ):=λps e=>by rcases ha with⟨y,z⟩|⟨y,z⟩<;>(rw[e]at z;cases z)
 have ex:Ext ρ H ρ (upd H a ho):=⟨⟨[],by simp,by simp⟩,λb o q m _=>by
  have:b≠a:=λz=>m (by rw[z];exact j5 hn);rw[AW this];exact q,λb ps q=>⟨ps,(AW (show b≠a from λz=>n1 ps (by rw[<- z];exact q))).trans q⟩⟩
 have gr:=ex.grow h;refine⟨⟨by simp[h.len],h.nd,h.tabs.upd n1 n2,λm o' b e1 e2=>?_⟩,ex⟩;have hm:m<hd.length:=by rw[<- h.len];exact(72 e2).1
 by_cases hmn:m=n
 .subst hmn;rw[hn]at e2;cases e2;rw[List.getElem?_set_self hm]at e1;cases e1;exact⟨ho,Af,by simpa using c.mono gr []⟩
 .rw[List.getElem?_set_ne (λz=>hmn z.symm)]at e1;obtain⟨ho',q1,q2⟩:=h.ob m o' b e1 e2;have:b≠a:=λz=>by
   subst z;have l1:=(72 e2).1;have l2:=(72 hn).1;exact hmn ((List.getElem?_inj l1 h.nd).mp (e2.trans hn.symm))
  exact⟨ho',by rw[AW this];exact q1,by simpa using q2.mono gr []⟩
theorem RH.lst(h:RH K ρ H hd){n:Nat}(hn:ρ[n]?=some a)(e:hd[n]?=some (.lst ds)):∃xs,H a=some (.lst xs)/\RDs K ρ H ds xs:=by
 obtain⟨ho,q,xs,rfl,r⟩:=h.ob n _ a e hn;exact⟨xs,q,r⟩
theorem RH.dic(h:RH K ρ H hd){n:Nat}(hn:ρ[n]?=some a)(e:hd[n]?=some (.dic ds)):∃xs,H a=some (.dK xs)/\RKs K ρ H ds xs:=by
 obtain⟨ho,q,xs,rfl,r⟩:=h.ob n _ a e hn;exact⟨xs,q,r⟩
def RH.hid(h:RH K ρ H hd)(ha:H a=none):RH K ρ (upd H a ho) hd/\Ext ρ H ρ (upd H a ho):=by
 have out:a∉ρ:=λm=>by rcases h.mut m with⟨y,z⟩|⟨y,z⟩<;>(rw[ha]at z;cases z)
 have ex:Ext ρ H ρ (upd H a ho):=⟨⟨[],by simp,by simp⟩,λb o q n _=>by rw[AW (Am q ha)];exact q,λb ps q=>⟨ps,by rw[AW (Am q ha)];exact q⟩⟩
 have gr:=ex.grow h;refine⟨⟨h.len,h.nd,h.tabs.upd (by simp[ha]) (by simp[ha]),λm o' b e1 e2=>?_⟩,ex⟩;obtain⟨ho',q1,q2⟩:=h.ob m o' b e1 e2;exact⟨ho',by rw[AW (Am q1 ha)];exact q1,by simpa using q2.mono gr []⟩
end
end L2
namespace L2
open PySem PySem.Spec PyProof.Rows
noncomputable abbrev ME:=Ls->Hd->Option (D×Hd)
noncomputable abbrev MT:=Ls->Hd->Option (Bool×Hd)
noncomputable abbrev MA:=Ls->Hd->Option (List D×Hd)
inductive Fl where
 |nx (ls:Ls)|rt (d:D)|bk (ls:Ls)|ct (ls:Ls)
noncomputable abbrev MS:=Ls->Hd->Option (Fl×Hd)
section
variable(K:Frag)
def RE(t:TE)(m:ME):Prop:=∀(ρ:List Addr) (σ:St) (H:Hp) (hd:Hd) (ls:Ls) (Q:VK) (d:D) (hd':Hd),RH K ρ H hd->RL K ρ H ls σ->m ls hd=some (d,hd') ->
 (∀ρ' H' v,Ext ρ H ρ' H'->RH K ρ' H' hd'->RD K ρ' H' d v->Q v H')->t σ H Q
def RT(t:TT)(m:MT):Prop:=∀(ρ:List Addr) (σ:St) (H:Hp) (hd:Hd) (ls:Ls) (Q:Bool->Hp->Prop) (d:Bool) (hd':Hd),RH K ρ H hd->RL K ρ H ls σ->m ls hd=some (d,hd') ->
 (∀ρ' H',Ext ρ H ρ' H'->RH K ρ' H' hd'->Q d H')->t σ H Q
def RA(t:TA)(m:MA):Prop:=∀(ρ:List Addr) (σ:St) (H:Hp) (hd:Hd) (ls:Ls) (Q:List V->Hp->Prop) (d:List D) (hd':Hd),RH K ρ H hd->RL K ρ H ls σ->m ls hd=some (d,hd') ->
 (∀ρ' H' v,Ext ρ H ρ' H'->RH K ρ' H' hd'->RDs K ρ' H' d v->Q v H')->t σ H Q
def RN(t:TE)(m:MA):Prop:=∀(ρ:List Addr) (σ:St) (H:Hp) (hd:Hd) (ls:Ls) (Q:VK) (d:List D) (hd':Hd),RH K ρ H hd->RL K ρ H ls σ->m ls hd=some (d,hd') ->
 (∀ρ' H' a xs,Ext ρ H ρ' H'->RH K ρ' H' hd'->H a=none->a∉ρ'->H' a=some (.lst xs)->RDs K ρ' H' d xs->Q (.ref a) H')->t σ H Q
def fQ(E:Ends)(ρ:List Addr)(H:Hp):Fl->Prop
 |.nx ls=>∀σ,RL K ρ H ls σ->E.nx σ H
 |.bk ls=>∀σ,RL K ρ H ls σ->E.bk σ H
 |.ct ls=>∀σ,RL K ρ H ls σ->E.ct σ H
 |.rt d=>∀v,RD K ρ H d v->E.rt v H
def RS(t:TS)(m:MS):Prop:=∀(ρ:List Addr) (σ:St) (H:Hp) (hd:Hd) (ls:Ls) (E:Ends) (f:Fl) (hd':Hd),RH K ρ H hd->RL K ρ H ls σ->m ls hd=some (f,hd') ->
 (∀ρ' H',Ext ρ H ρ' H'->RH K ρ' H' hd'->fQ K E ρ' H' f)->t E σ H
def RB(r:R2)(f:D->D->Hd->Option (D×Hd)):Prop:=∀(ρ:List Addr) (H:Hp) (hd:Hd) (d e:D) (v u:V) (Q:VK) (z:D) (hd':Hd),RH K ρ H hd->RD K ρ H d v->RD K ρ H e u->f d e hd=some (z,hd') ->
 (∀ρ' H' w,Ext ρ H ρ' H'->RH K ρ' H' hd'->RD K ρ' H' z w->Q w H')->r v u H Q
def RF(r:List V->Hp->VK->Prop)(f:List D->Hd->Option (D×Hd)):Prop:=∀(ρ:List Addr) (H:Hp) (hd:Hd) (ds:List D) (vs:List V) (Q:VK) (z:D) (hd':Hd),RH K ρ H hd->RDs K ρ H ds vs->f ds hd=some (z,hd') ->
 (∀ρ' H' w,Ext ρ H ρ' H'->RH K ρ' H' hd'->RD K ρ' H' z w->Q w H')->r vs H Q
def RG(tp:Bool)(r:List V->Hp->VK->Prop)(g:List D->Option D):Prop:=∀(ρ:List Addr) (H:Hp) (hd:Hd) (a:Addr) (xs:List V) (ds:List D) (Q:VK) (z:D),RH K ρ H hd->(SqL K H a xs∨(tp=true/\SqT K H a xs))->RDs K ρ H ds xs->g ds=some z ->
 (∀H' w,Ext ρ H ρ H'->RH K ρ H' hd->RD K ρ H' z w->Q w H')->r [.ref a] H Q
end
structure QE(K:Frag)(X:Cx)(e:Expr)(t:TE)(m:ME):Prop where
 p:PE X e t
 r:RE K t m
structure QT(K:Frag)(X:Cx)(e:Expr)(t:TT)(m:MT):Prop where
 p:PT X e t
 r:RT K t m
structure QW(K:Frag)(X:Cx)(e:Expr)(t:TT)(m:MT):Prop where
 p:PW X e t
 r:RT K t m
structure QA(K:Frag)(X:Cx)(e:List Expr)(t:TA)(m:MA):Prop where
 p:PA X e t
 r:RA K t m
structure QN(K:Frag)(X:Cx)(e:Expr)(t:TE)(m:MA):Prop where
 p:PE X e t
 r:RN K t m
structure QS(K:Frag)(X:Cx)(e:Stmt)(t:TS)(m:MS):Prop where
 p:PS X e t
 r:RS K t m
structure QSs(K:Frag)(X:Cx)(e:List Stmt)(t:TS)(m:MS):Prop where
 p:PSs X e t
 r:RS K t m
noncomputable def AN:D->Option (List D)
 |.im (.tup is)=>some (is.map .im)
 |.tm ds=>some ds
 |_=>none
noncomputable def Ap(hd:Hd):D->Option (List D)
 |.mu n=>match hd[n]? with
  |some (.lst ds)=>some ds
  |_=>none
 |.ro ns=>some (ns.map λn=>.im (.int n))
 |_=>none
noncomputable def As(hd:Hd)(d:D):Option (List D):=match AN d with
 |some ds=>some ds
 |none=>Ap hd d
noncomputable def B1:List D->Option (List I)
 |[]=>some []
 |.im i::r=>(B1 r).map (i::·)
 |_::_=>none
noncomputable def AT(ds:List D):D:=match B1 ds with
 |some is=>.im (.tup is)
 |none=>.tm ds
noncomputable def B4:List D->Option (List Int)
 |[]=>some []
 |.im (.int i)::r=>(B4 r).map (i::·)
 |_::_=>none
noncomputable def CN:List D->Option (List Bool)
 |[]=>some []
 |.im (.bl i)::r=>(CN r).map (i::·)
 |_::_=>none
section
variable{K:Frag}
theorem FT:∀{ds:List D} {is:List I},B1 ds=some is->ds=is.map .im
 |[],is,h=>by simp[B1]at h;subst h;rfl
 |.im i::r,is,h=>by
  simp only[B1,Option.map_eq_some_iff]at h;obtain⟨js,e,rfl⟩:=h;simp[FT e]
 |.mu _::_,is,h=>by simp[B1]at h
 |.tm _::_,is,h=>by simp[B1]at h
 |.ro _::_,is,h=>by simp[B1]at h
 |.op _ _ _::_,is,h=>by simp[B1]at h
 |.fv _ _::_,is,h=>by simp[B1]at h
theorem E6:∀{ds:List D} {is:List Int},B4 ds=some is->ds=is.map λi=>.im (.int i)
 |[],is,h=>by simp[B4]at h;subst h;rfl
 |.im (.int i)::r,is,h=>by
  simp only[B4,Option.map_eq_some_iff]at h;obtain⟨js,e,rfl⟩:=h;simp[E6 e]
 |.im (.bl _)::_,is,h=>by simp[B4]at h
 |.im (.str _)::_,is,h=>by simp[B4]at h
 |.im .non::_,is,h=>by simp[B4]at h
 |.im (.tup _)::_,is,h=>by simp[B4]at h
 |.mu _::_,is,h=>by simp[B4]at h
 |.tm _::_,is,h=>by simp[B4]at h
 |.ro _::_,is,h=>by simp[B4]at h
 |.op _ _ _::_,is,h=>by simp[B4]at h
 |.fv _ _::_,is,h=>by simp[B4]at h
theorem Kk:∀{ds:List D} {is:List Bool},CN ds=some is->ds=is.map λi=>.im (.bl i)
 |[],is,h=>by simp[CN]at h;subst h;rfl
 |.im (.bl i)::r,is,h=>by
  simp only[CN,Option.map_eq_some_iff]at h;obtain⟨js,e,rfl⟩:=h;simp[Kk e]
 |.im (.int _)::_,is,h=>by simp[CN]at h
 |.im (.str _)::_,is,h=>by simp[CN]at h
 |.im .non::_,is,h=>by simp[CN]at h
 |.im (.tup _)::_,is,h=>by simp[CN]at h
 |.mu _::_,is,h=>by simp[CN]at h
 |.tm _::_,is,h=>by simp[CN]at h
 |.ro _::_,is,h=>by simp[CN]at h
 |.op _ _ _::_,is,h=>by simp[CN]at h
 |.fv _ _::_,is,h=>by simp[CN]at h
@[simp] theorem TX(is:List I):B1 (is.map .im)=some is:=by induction is<;>simp_all [B1]
@[simp] theorem ES(is:List Int):B4 (is.map λi=>.im (.int i))=some is:=by induction is<;>simp_all [B4]
@[simp] theorem EA(is:List Bool):CN (is.map λi=>.im (.bl i))=some is:=by induction is<;>simp_all [CN]
theorem F0:∀{ns:List Int} {xs:List V},RDs K ρ H (ns.map λi=>.im (.int i)) xs->xs=ns.map V.int
 |[],xs,h=>by simpa [RDs]using h
 |n::ns,xs,h=>by
  simp only[iw,RDs,RD,RI]at h;obtain⟨x,r,rfl,rfl,z⟩:=h;rw[F0 z];rfl
theorem F1:∀{ns:List Int},RDs K ρ H (ns.map λi=>.im (.int i)) (ns.map V.int)
 |[]=>by simp[RDs]
 |n::ns=>by simp only[iw];exact .cons (by simp[RD,RI]) F1
theorem Me:∀{ns:List Bool} {xs:List V},RDs K ρ H (ns.map λi=>.im (.bl i)) xs->xs=ns.map V.bl
 |[],xs,h=>by simpa [RDs]using h
 |n::ns,xs,h=>by
  simp only[iw,RDs,RD,RI]at h;obtain⟨x,r,rfl,rfl,z⟩:=h;rw[Me z];rfl
theorem RD.tup(h:RD K ρ H d v)(e:AN d=some ds):∃a xs,v=.ref a/\SqT K H a xs/\RDs K ρ H ds xs:=by
 cases d with
 |im i=>
  cases i with
  |tup is=>
   simp only[AN,Option.some.injEq]at e;subst e;simp only[RD,RI]at h;obtain⟨a,xs,rfl,q,r⟩:=h;exact⟨a,xs,rfl,q,r.ds⟩
  |_=>simp[AN]at e
 |tm es=>
  simp only[AN,Option.some.injEq]at e;subst e;simpa only[RD]using h
 |_=>simp[AN]at e
theorem RD.lst(hR:RH K ρ H hd)(h:RD K ρ H d v)(e:Ap hd d=some ds):∃a xs,v=.ref a/\SqL K H a xs/\RDs K ρ H ds xs:=by
 cases d with
 |mu n=>
  simp only[Ap]at e;simp only[RD]at h;obtain⟨a,hn,rfl⟩:=h;split at e
  .next q=>
   cases e;obtain⟨xs,e1,e2⟩:=hR.lst hn q;exact⟨a,xs,rfl,SqL.of e1,e2⟩
  .cases e
 |ro ns=>
  simp only[Ap,Option.some.injEq]at e;subst e;simp only[RD]at h;obtain⟨a,rfl,q⟩:=h;exact⟨a,_,rfl,q.sq,F1⟩
 |_=>simp[Ap]at e
def RD.seq(hR:RH K ρ H hd)(h:RD K ρ H d v)(e:As hd d=some ds):∃a xs,v=.ref a/\(SqL K H a xs∨SqT K H a xs)/\RDs K ρ H ds xs:=by
 unfold As at e;split at e
 .next q=>
  cases e;obtain⟨a,xs,e1,e2,e3⟩:=h.tup q;exact⟨a,xs,e1,.inr e2,e3⟩
 .obtain⟨a,xs,e1,e2,e3⟩:=h.lst hR e;exact⟨a,xs,e1,.inl e2,e3⟩
def By(q:SqT K H a xs)(r:RDs K ρ H ds xs):RD K ρ H (AT ds) (.ref a):=by
 unfold AT;split
 .next e=>
  rw[FT e]at r;simp only[RD,RI];exact⟨a,xs,rfl,q,r.is⟩
 .simp only[RD];exact⟨a,xs,rfl,q,r⟩
@[simp] theorem LQ(ds:List D):AN (AT ds)=some ds:=by
 unfold AT;split
 .next e=>simp[AN,FT e]
 .rfl
noncomputable def A0(i:Nat):ME:=λls hd=>match ls[i]? with
 |some (some d)=>some (d,hd)
 |_=>none
def Zx{i:Nat}:RE K (Ts i) (A0 i):=by
 and_intros;unfold A0 at hm;split at hm
 .next e=>
  cases hm;obtain⟨v,e1,e2⟩:=hL.ob i _ e;exact⟨v,e1,hQ ρ H v .refl hR e2⟩
 .cases hm
noncomputable def mC(i:I):ME:=λ_ hd=>some (.im i,hd)
def Pp(h:∀H,RI K H i v):RE K (tC v) (mC i):=by
 and_intros;cases hm;exact hQ ρ H v .refl hR (by simpa only[RD]using h H)
noncomputable def mOp(f:D->D->Hd->Option (D×Hd))(ma mb:ME):ME:=λls hd=>(ma ls hd).bind λp=>(mb ls p.2).bind λq=>f p.1 q.1 q.2
def Li{f:D->D->Hd->Option (D×Hd)}(hr:RB K r f)(ha:RE K ta ma)(hb:RE K tb mb):RE K (tOp r ta tb) (mOp f ma mb):=by
 and_intros;obtain⟨⟨d1,h1⟩,e1,hm⟩:=gV hm;obtain⟨⟨d2,h2⟩,e2,hm⟩:=gV hm;refine ha ρ σ H hd ls _ d1 h1 hR hL e1 λρ1 H1 v1 x1 R1 r1=>?_;refine hb ρ1 σ H1 h1 ls _ d2 h2 R1 (hL.ext hR x1) e2 λρ2 H2 v2 x2 R2 r2=>?_;exact hr ρ2 H2 h2 d1 d2 v1 v2 Q d hd' R2 (r1.ext R1 x2) r2 hm λρ' H' w x3 R3 r3=>hQ ρ' H' w ((x1.trans R1 x2).trans R2 x3) R3 r3
noncomputable def DO(ta tb:MT):MT:=λls hd=>(ta ls hd).bind λp=>if p.1=true then tb ls p.2 else some (false,p.2)
noncomputable def mOr(ta tb:MT):MT:=λls hd=>(ta ls hd).bind λp=>if p.1=true then some (true,p.2)else tb ls p.2
noncomputable def CQ(ta:MT):MT:=λls hd=>(ta ls hd).bind λp=>some (!p.1,p.2)
def Zc(ha:RT K ta ma)(hb:RT K tb mb):RT K (U7 ta tb) (DO ma mb):=by
 and_intros;obtain⟨⟨d1,h1⟩,e1,hm⟩:=gV hm;refine ha ρ σ H hd ls _ d1 h1 hR hL e1 λρ1 H1 x1 R1=>?_;cases d1 with
 |true=>
  rw[ic rfl]at hm ⊢;exact hb ρ1 σ H1 h1 ls Q d hd' R1 (hL.ext hR x1) hm λρ2 H2 x2 R2=>hQ ρ2 H2 (x1.trans R1 x2) R2
 |false=>
  rw[ig Bool.false_ne_true]at hm ⊢;cases hm;exact hQ ρ1 H1 x1 R1
def dm(ha:RT K ta ma)(hb:RT K tb mb):RT K (tOr ta tb) (mOr ma mb):=by
 and_intros;obtain⟨⟨d1,h1⟩,e1,hm⟩:=gV hm;refine ha ρ σ H hd ls _ d1 h1 hR hL e1 λρ1 H1 x1 R1=>?_;cases d1 with
 |true=>
  rw[ic rfl]at hm ⊢;cases hm;exact hQ ρ1 H1 x1 R1
 |false=>
  rw[ig Bool.false_ne_true]at hm ⊢;exact hb ρ1 σ H1 h1 ls Q d hd' R1 (hL.ext hR x1) hm λρ2 H2 x2 R2=>hQ ρ2 H2 (x1.trans R1 x2) R2
def Zb(ha:RT K ta ma):RT K (Tz ta) (CQ ma):=by
 and_intros;obtain⟨⟨d1,h1⟩,e1,hm⟩:=gV hm;cases hm;exact ha ρ σ H hd ls _ d1 h1 hR hL e1 λρ1 H1 x1 R1=>hQ ρ1 H1 x1 R1
open Classical in
noncomputable def Ck(hd:Hd):D->Option Bool
 |.im .non=>some false
 |.im (.bl b)=>some b
 |.im (.int i)=>some (i != 0)
 |.im (.str x)=>if C6 x.length then some ((x.length:Int) != 0)else none
 |.im (.tup is)=>some (!is.isEmpty)
 |.tm is=>some (!is.isEmpty)
 |.ro ns=>some (!ns.isEmpty)
 |.op _ _ _=>none
 |.fv _ _=>none
 |.mu n=>match hd[n]? with
  |some (.lst ds)=>some (!ds.isEmpty)
  |some (.dic ds)=>some (!ds.isEmpty)
  |none=>none
def DB{α β:Type}{xs:List α}{ys:List β}(h:79=ys.length):xs.isEmpty=ys.isEmpty:=by
 cases xs<;>cases ys<;>simp_all
theorem RKs.len:∀{ds:List (Key×D)} {xs:List (Key×V)},RKs K ρ H ds xs->79=82
 |[],xs,h=>by simp only[RKs]at h;rw[h];rfl
 |d::ds,xs,h=>by
  simp only[RKs]at h;obtain⟨x,r,rfl,_,_,z⟩:=h;simp[RKs.len z]
def Wq{b:Bool}(hR:RH K ρ H hd)(h:RD K ρ H d v)(e:Ck hd d=some b):Nb K v H b:=by
 cases d with
 |im i=>
  cases i with
  |non=>simp only[RD,RI]at h;subst h;simp only[Ck,Option.some.injEq]at e;subst e;exact rfl
  |bl c=>simp only[RD,RI]at h;subst h;simp only[Ck,Option.some.injEq]at e;subst e;exact rfl
  |int c=>simp only[RD,RI]at h;subst h;simp only[Ck,Option.some.injEq]at e;subst e;exact rfl
  |str c=>
   simp only[RD,RI]at h;subst h;simp only[Ck]at e;split at e
   .next z=>cases e;exact⟨z,rfl⟩
   .cases e
  |tup is=>
   obtain⟨a,xs,rfl,q,r⟩:=h.tup (ds:=is.map .im) rfl;simp only[Ck,Option.some.injEq]at e;subst e;exact .inr (.inl ⟨xs,q,by rw[DB (show 79=is.length by simpa using r.len)]⟩)
 |tm ds=>
  obtain⟨a,xs,rfl,q,r⟩:=h.tup (ds:=ds) rfl;simp only[Ck,Option.some.injEq]at e;subst e;exact .inr (.inl ⟨xs,q,by rw[DB r.len]⟩)
 |ro ns=>
  obtain⟨a,xs,rfl,q,r⟩:=h.lst hR (hd:=hd) (ds:=ns.map λn=>.im (.int n)) rfl;simp only[Ck,Option.some.injEq]at e;subst e;exact .inl ⟨xs,q,by rw[DB (show 79=ns.length by simpa using r.len)]⟩
 |op _ _ _=>simp[Ck]at e
 |fv _ _=>simp[Ck]at e
 |mu n=>
  simp only[RD]at h;obtain⟨a,hn,rfl⟩:=h;simp only[Ck]at e;split at e
  .next q=>
   cases e;obtain⟨xs,e1,e2⟩:=hR.lst hn q;exact .inl ⟨xs,SqL.of e1,by rw[DB e2.len]⟩
  .next q=>
   cases e;obtain⟨xs,e1,e2⟩:=hR.dic hn q;exact .inr (.inr ⟨xs,e1,by rw[DB e2.len]⟩)
  .cases e
noncomputable def BH(ma:ME):MT:=λls hd=>(ma ls hd).bind λp=>(Ck p.2 p.1).map (·,p.2)
def UG(ha:RE K ta ma):RT K (λσ H Q=>ta σ H λx H'=>∃k,Nb K x H' k/\Q k H') (BH ma):=by
 and_intros;obtain⟨⟨d1,h1⟩,e1,hm⟩:=gV hm;obtain⟨b,e2,e3⟩:=iS hm;cases e3;exact ha ρ σ H hd ls _ d1 h1 hR hL e1 λρ1 H1 v x1 R1 r1=>⟨_,Wq R1 r1 e2,hQ ρ1 H1 x1 R1⟩
noncomputable def AG(ma:ME):MT:=λls hd=>(ma ls hd).bind λp=>match p.1 with
 |.im (.bl b)=>some (b,p.2)
 |_=>none
def Dv(ha:RE K ta ma):RT K (Hv ta) (AG ma):=by
 and_intros;obtain⟨⟨d1,h1⟩,e1,hm⟩:=gV hm;dsimp only at hm;split at hm
 .cases hm;exact ha ρ σ H hd ls _ _ _ hR hL e1 λρ1 H1 v x1 R1 r1=>⟨_,by simpa only[RD,RI]using r1,hQ ρ1 H1 x1 R1⟩
 .cases hm
def Zd(ha:RE K ta ma):RT K (tB ta) (AG ma):=Dv ha
noncomputable def mIf(c:MT)(ma mb:ME):ME:=λls hd=>(c ls hd).bind λp=>if p.1=true then ma ls p.2 else mb ls p.2
def dy(hc:RT K tc c)(ha:RE K ta ma)(hb:RE K tb mb):RE K (tIf tc ta tb) (mIf c ma mb):=by
 and_intros;obtain⟨⟨d1,h1⟩,e1,hm⟩:=gV hm;refine hc ρ σ H hd ls _ d1 h1 hR hL e1 λρ1 H1 x1 R1=>?_;cases d1 with
 |true=>
  rw[ic rfl]at hm ⊢;exact ha ρ1 σ H1 h1 ls Q d hd' R1 (hL.ext hR x1) hm λρ2 H2 v x2 R2 r2=>hQ ρ2 H2 v (x1.trans R1 x2) R2 r2
 |false=>
  rw[ig Bool.false_ne_true]at hm ⊢;exact hb ρ1 σ H1 h1 ls Q d hd' R1 (hL.ext hR x1) hm λρ2 H2 v x2 R2 r2=>hQ ρ2 H2 v (x1.trans R1 x2) R2 r2
noncomputable def De(ma mb:ME):ME:=λls hd=>(AG ma ls hd).bind λp=>if p.1=true then mb ls p.2 else some (.im (.bl false),p.2)
noncomputable def IC(ma:ME):ME:=λls hd=>(AG ma ls hd).bind λp=>some (.im (.bl (!p.1)),p.2)
def XY(ha:RE K ta ma)(hb:RE K tb mb):RE K (PZ ta tb) (De ma mb):=by
 and_intros;obtain⟨⟨d1,h1⟩,e1,hm⟩:=gV hm;refine Dv ha ρ σ H hd ls (λc H1=>if c=true then tb σ H1 Q else Q (.bl false) H1) d1 h1 hR hL e1 λρ1 H1 x1 R1=>?_;cases d1 with
 |true=>
  rw[ic rfl]at hm ⊢;exact hb ρ1 σ H1 h1 ls Q d hd' R1 (hL.ext hR x1) hm λρ2 H2 v x2 R2 r2=>hQ ρ2 H2 v (x1.trans R1 x2) R2 r2
 |false=>
  rw[ig Bool.false_ne_true]at hm ⊢;cases hm;exact hQ ρ1 H1 _ x1 R1 (by simp[RD,RI])
def XT(ha:RE K ta ma):RE K (PU ta) (IC ma):=by
 and_intros;obtain⟨⟨d1,h1⟩,e1,hm⟩:=gV hm;cases hm;exact Dv ha ρ σ H hd ls (λc H1=>Q (.bl (!c)) H1) d1 h1 hR hL e1 λρ1 H1 x1 R1=>hQ ρ1 H1 _ x1 R1 (by simp[RD,RI])
noncomputable def A4:MA:=λ_ hd=>some ([],hd)
noncomputable def A2(ma:ME)(mr:MA):MA:=λls hd=>(ma ls hd).bind λp=>(mr ls p.2).bind λq=>some (p.1::q.1,q.2)
def SF:RA K Bn A4:=by
 and_intros;cases hm;exact hQ ρ H [] .refl hR .nil
def Xc(ha:RE K ta ma)(hr:RA K tr mr):RA K (BD ta tr) (A2 ma mr):=by
 and_intros;obtain⟨⟨d1,h1⟩,e1,hm⟩:=gV hm;obtain⟨⟨d2,h2⟩,e2,hm⟩:=gV hm;cases hm;refine ha ρ σ H hd ls _ d1 h1 hR hL e1 λρ1 H1 v1 x1 R1 r1=>?_;exact hr ρ1 σ H1 h1 ls _ d2 _ R1 (hL.ext hR x1) e2 λρ2 H2 v2 x2 R2 r2=>hQ ρ2 H2 _ (x1.trans R1 x2) R2 (.cons (r1.ext R1 x2) r2)
open Classical in
noncomputable def Aw(ma:MA):ME:=λls hd=>(ma ls hd).bind λp=>if C6 p.1.length then some (AT p.1,p.2)else none
def Zy(h:RA K t m):RE K (Tt t) (Aw m):=by
 and_intros;obtain⟨⟨d1,h1⟩,e1,hm⟩:=gV hm;dsimp only at hm;split at hm
 .next z=>
  cases hm;refine h ρ σ H hd ls _ d1 _ hR hL e1 λρ1 H1 v1 x1 R1 r1=>⟨by rw[r1.len];exact z,λp hp=>?_⟩
  obtain⟨R2,x2⟩:=R1.hid (ho:=.tup v1) hp;exact hQ ρ1 _ _ (x1.trans R1 x2) R2 (By (SqT.of Af) (r1.ext R1 x2))
 .cases hm
open Classical in
noncomputable def Ba(ma:MA):MA:=λls hd=>(ma ls hd).bind λp=>if C6 p.1.length then some (p.1,p.2)else none
def RH.out(hR:RH K ρ H hd)(h:H a=none):a∉ρ:=λm=>by rcases hR.mut m with⟨y,z⟩|⟨y,z⟩<;>(rw[h]at z;cases z)
theorem Ext.none(e:Ext ρ H ρ' H')(hR:RH K ρ H hd)(h:H' a=none)(hR':RH K ρ' H' hd'):H a=none:=by
 cases q:H a with
 |none=>rfl
 |some o=>
  by_cases m:a∈ρ
  .obtain⟨r,rfl,_⟩:=e.pre;exact absurd (jK r m) (hR'.out h)
  .by_cases t:∃ps,o=.tbl ps
   .obtain⟨ps,rfl⟩:=t;obtain⟨ps',this⟩:=e.tab a ps q;rw[h]at this;cases this
   .rw[e.keep a o q m λps y=>t ⟨ps,y⟩]at h;cases h
def Zm(h:RA K t m):RN K (U0 t) (Ba m):=by
 and_intros;obtain⟨⟨d1,h1⟩,e1,hm⟩:=gV hm;dsimp only at hm;split at hm
 .next z=>
  cases hm;refine h ρ σ H hd ls _ _ _ hR hL e1 λρ1 H1 v1 x1 R1 r1=>⟨by rw[r1.len];exact z,λp hp=>?_⟩
  obtain⟨R2,x2⟩:=R1.hid (ho:=.lst v1) hp;exact hQ ρ1 _ p v1 (x1.trans R1 x2) R2 (x1.none hR hp R1) (R1.out hp) Af (r1.ext R1 x2)
 .cases hm
noncomputable def Ag(ml:MA):ME:=λls hd=>(ml ls hd).bind λp=>some (.mu p.2.length,p.2++[.lst p.1])
def RH.name(hR:RH K ρ H hd)(out:a∉ρ)(e:H a=some (.lst xs))(r:RDs K ρ H ds xs):RH K (ρ++[a]) H (hd++[.lst ds]):=by
 have mono:∀{o:MO} {ho:HO},RC K ρ H o ho->RC K (ρ++[a]) H o ho:=λc=>c.mono Grow.refl [a];refine⟨by simp[hR.len],?_,hR.tabs,λn o' b e1 e2=>?_⟩
 .rw[nodup_append];refine⟨hR.nd,by simp,λx hx y hy z=>?_⟩;simp at hy;subst hy;subst z;exact out hx
 .by_cases hn:n<ρ.length
  .rw[List.getElem?_append_left hn]at e2;rw[List.getElem?_append_left (by rw[<- hR.len];exact hn)]at e1;obtain⟨ho',q1,q2⟩:=hR.ob n o' b e1 e2;exact⟨ho',q1,mono q2⟩
  .have hn':n=ρ.length:=by
    have:=(72 e2).1;simp at this;omega
   subst hn';simp at e2;rw[hR.len]at e1;simp at e1;subst e1;subst e2;exact⟨_,e,mono ⟨xs,rfl,r⟩⟩
def Ext.name(e:Ext ρ H ρ' H')(h:H a=Option.none):Ext ρ H (ρ'++[a]) H':=by
 obtain⟨r,rfl,f⟩:=e.pre;refine⟨⟨r++[a],by simp,λb m=>?_⟩,e.keep,e.tab⟩;rcases mem_append.mp m with m|m
 .exact f b m
 .simp at m;subst m;exact h
def S5(h:RN K t m):RE K t (Ag m):=by
 and_intros;obtain⟨⟨d1,h1⟩,e1,hm⟩:=gV hm;cases hm;refine h ρ σ H hd ls Q d1 h1 hR hL e1 λρ1 H1 a xs x1 R1 na oa ea r1=>?_;refine hQ (ρ1++[a]) H1 _ (x1.name na) (R1.name oa ea r1) ?_;simp only[RD];exact⟨a,by rw[<- R1.len];simp,rfl⟩
end
section
variable{K:Frag}{ρ ρ':List Addr}{H H':Hp}{hd hd':Hd}
noncomputable def fI(g:Int->Int->Option I):D->D->Hd->Option (D×Hd)
 |.im (.int i),.im (.int j),hd=>(g i j).map (.im ·,hd)
 |_,_,_=>none
def Mf{C:Int->Int->Prop}{g:Int->Int->V}{f:Int->Int->Option I}(h:∀i j z,f i j=some z->C i j/\∀H,RI K H z (g i j)):RB K (rI C g) (fI f):=by
 intro ρ H hd d e v u Q z hd' hR h1 h2 hf hQ;unfold fI at hf;split at hf
 .simp only[RD,RI]at h1 h2;subst h1 h2;obtain⟨w,e1,e2⟩:=iS hf;cases e2;obtain⟨c,r⟩:=h _ _ _ e1;exact⟨_,_,rfl,rfl,c,hQ ρ H _ .refl hR (by simpa only[RD]using r H)⟩
 .cases hf
def Hx{g:Int->Int->V}{f:Int->Int->I}(h:∀i j H,RI K H (f i j) (g i j)):RB K (rI0 g) (fI λi j=>some (f i j)):=by
 intro ρ H hd d e v u Q z hd' hR h1 h2 hf hQ;unfold fI at hf;split at hf
 .simp only[RD,RI]at h1 h2;subst h1 h2;cases hf;exact⟨_,_,rfl,rfl,hQ ρ H _ .refl hR (by simpa only[RD]using h _ _ H)⟩
 .cases hf
noncomputable def CS(f g:D->D->Hd->Option (D×Hd)):D->D->Hd->Option (D×Hd):=λd e hd=>match f d e hd with
 |some z=>some z
 |none=>g d e hd
def Dx{r r':R2}{f g:D->D->Hd->Option (D×Hd)}(h:RB K r f)(h':RB K r' g):RB K (λx y H Q=>r x y H Q∨r' x y H Q) (CS f g):=by
 intro ρ H hd d e v u Q z hd' hR h1 h2 hf hQ;unfold CS at hf;split at hf
 .next q=>cases hf;exact .inl (h ρ H hd d e v u Q z hd' hR h1 h2 q hQ)
 .exact .inr (h' ρ H hd d e v u Q z hd' hR h1 h2 hf hQ)
noncomputable abbrev Gf:D->D->Hd->Option (D×Hd):=fI λi j=>some (.int (i+j))
noncomputable abbrev Jt:D->D->Hd->Option (D×Hd):=fI λi j=>some (.int (i-j))
def SC:RB K (rI0 λi j=>.int (i+j)) Gf:=Hx λ_ _ _=>by simp[RI]
def aD:RB K (rI0 λi j=>.int (i-j)) Jt:=Hx λ_ _ _=>by simp[RI]
open Classical in
noncomputable abbrev B8:D->D->Hd->Option (D×Hd):=fI λi j=>if Be i j then some (.int (i*j))else none
def aG:RB K (rI CMul λi j=>.int (i*j)) B8:=Mf λi j z h=>by
 split at h
 .next q=>cases h;exact⟨q,λ_=>by simp[RI]⟩
 .cases h
open Classical in
noncomputable abbrev Ed:D->D->Hd->Option (D×Hd):=fI λi j=>if CC j then some (.int (i%j))else none
def aH:RB K (rI (λ_ j=>0<j) λi j=>.int (i%j)) Ed:=Mf λi j z h=>by
 split at h
 .next q=>cases h;exact⟨q,λ_=>by simp[RI]⟩
 .cases h
open Classical in
noncomputable abbrev Ju:D->D->Hd->Option (D×Hd):=fI λi j=>if Lo j then some (.int (i/j))else none
def Xa:RB K (rI dY λi j=>.int (i/j)) Ju:=Mf λi j z h=>by
 split at h
 .next q=>cases h;exact⟨q,λ_=>by simp[RI]⟩
 .cases h
open Classical in
noncomputable abbrev VU:D->D->Hd->Option (D×Hd):=fI λi j=>if Py i j then some (.int (i^j.toNat))else none
def aE:RB K (rI dX λi j=>.int (i^j.toNat)) VU:=Mf λi j z h=>by
 split at h
 .next q=>cases h;exact⟨q,λ_=>by simp[RI]⟩
 .cases h
abbrev gLt:D->D->Hd->Option (D×Hd):=fI λi j=>some (.bl (decide (i<j)))
abbrev gLe:D->D->Hd->Option (D×Hd):=fI λi j=>some (.bl (decide (i<=j)))
abbrev gGt:D->D->Hd->Option (D×Hd):=fI λi j=>some (.bl (decide (j<i)))
abbrev gGe:D->D->Hd->Option (D×Hd):=fI λi j=>some (.bl (decide (j<=i)))
def Vz:RB K (rI0 λi j=>.bl (decide (i<j))) gLt:=Hx λ_ _ _=>by simp[RI]
def dz:RB K (rI0 λi j=>.bl (decide (i<=j))) gLe:=Hx λ_ _ _=>by simp[RI]
def eD:RB K (rI0 λi j=>.bl (decide (j<i))) gGt:=Hx λ_ _ _=>by simp[RI]
def W1:RB K (rI0 λi j=>.bl (decide (j<=i))) gGe:=Hx λ_ _ _=>by simp[RI]
noncomputable def scI:I->Option V
 |.non=>some .non
 |.bl b=>some (.bl b)
 |.int i=>some (.int i)
 |.str x=>some (.str x)
 |.tup _=>none
def JX{i:I}{v w:V}(e:scI i=some w)(h:RI K H i v):v=w:=by
 cases i with
 |tup _=>simp[scI]at e
 |_=>simp only[scI,Option.some.injEq]at e;subst e;simpa only[RI]using h
noncomputable def Fj(neg:Bool):D->D->Hd->Option (D×Hd)
 |.im i,.im j,hd=>match scI i,scI j with
  |some x,some y=>if MH x y=true then some (.im (.bl (if neg then !decide (x=y)else decide (x=y))),hd)else none
  |_,_=>none
 |_,_,_=>none
def SA:RB K rEq (Fj false):=by
 intro ρ H hd d e v u Q z hd' hR h1 h2 hf hQ;unfold Fj at hf;split at hf
 .split at hf
  .next x y e1 e2=>
   split at hf
   .next s=>
    cases hf;simp only[RD]at h1 h2;rw[JX e1 h1,JX e2 h2];exact⟨s,hQ ρ H _ .refl hR (by simp[RD,RI])⟩
   .cases hf
  .cases hf
 .cases hf
def S8:RB K rNe (Fj true):=by
 intro ρ H hd d e v u Q z hd' hR h1 h2 hf hQ;unfold Fj at hf;split at hf
 .split at hf
  .next x y e1 e2=>
   split at hf
   .next s=>
    cases hf;simp only[RD]at h1 h2;rw[JX e1 h1,JX e2 h2];exact⟨s,hQ ρ H _ .refl hR (by simp[RD,RI])⟩
   .cases hf
  .cases hf
 .cases hf
mutual
noncomputable def I.py:I->PyData
 |.non=>.none
 |.bl b=>.bool b
 |.int i=>.int i
 |.str x=>.str x
 |.tup ds=>.tuple (I.pys ds)
noncomputable def I.pys:List I->List PyData
 |[]=>[]
 |d::ds=>I.py d::I.pys ds
end
mutual
theorem RI.rep:∀{i:I} {v:V},RI K H i v->Rep K H i.py v
 |.non,v,h=>by simpa only[RI,I.py,Rep]using h
 |.bl _,v,h=>by simpa only[RI,I.py,Rep]using h
 |.int _,v,h=>by simpa only[RI,I.py,Rep]using h
 |.str _,v,h=>by simpa only[RI,I.py,Rep]using h
 |.tup ds,v,h=>by
  simp only[RI]at h;obtain⟨a,xs,e,q,r⟩:=h;simp only[I.py,Rep];exact⟨a,xs,e,q,RIs.rep r⟩
theorem RIs.rep:∀{i:List I} {v:List V},RIs K H i v->Bz K H (I.pys i) v
 |[],v,h=>by simpa only[RIs,I.pys,Bz]using h
 |d::ds,v,h=>by
  simp only[RIs]at h;obtain⟨x,r,e,q,z⟩:=h;simp only[I.pys,Bz];exact⟨x,r,e,q.rep,RIs.rep z⟩
end
def pyD(hd:Hd):D->Option PyData
 |.im i=>some i.py
 |.mu n=>match hd[n]? with
  |some (.lst ds)=>(B1 ds).map λis=>.list (I.pys is)
  |_=>none
 |.ro ns=>some (.list (I.pys (ns.map I.int)))
 |_=>none
def Dz{d:D}{v:V}{p:PyData}(hR:RH K ρ H hd)(h:RD K ρ H d v)(e:pyD hd d=some p):Rep K H p v:=by
 cases d with
 |im i=>simp only[pyD,Option.some.injEq]at e;subst e;simp only[RD]at h;exact h.rep
 |mu n=>
  simp only[pyD]at e;simp only[RD]at h;obtain⟨a,hn,rfl⟩:=h;split at e
  .next q=>
   obtain⟨is,e1,rfl⟩:=iS e;obtain⟨xs,e2,e3⟩:=hR.lst hn q;rw[FT e1]at e3;simp only[Rep];exact⟨a,xs,rfl,SqL.of e2,e3.is.rep⟩
  .cases e
 |ro ns=>
  simp only[pyD,Option.some.injEq]at e;subst e;obtain⟨a,xs,rfl,q,r⟩:=h.lst hR (hd:=hd) (ds:=ns.map λn=>.im (.int n)) rfl;simp only[Rep];refine⟨a,xs,rfl,q,RIs.rep (RDs.is (ρ:=ρ) ?_)⟩;rw[iZ];exact r
 |tm _=>simp[pyD]at e
 |op _ _ _=>simp[pyD]at e
 |fv _ _=>simp[pyD]at e
noncomputable def KZ(neg:Bool):D->D->Hd->Option (D×Hd):=λd e hd=>match pyD hd d,pyD hd e with
 |some x,some y=>if x.canLay0=true/\y.canLay0=true/\min x.depth y.depth<=60 then some (.im (.bl (if neg then !PyData.eqv x y else PyData.eqv x y)),hd)else none
 |_,_=>none
def SB:RB K (Ub K) (KZ false):=by
 intro ρ H hd d e v u Q z hd' hR h1 h2 hf hQ;unfold KZ at hf;split at hf
 .next e1 e2=>
  split at hf
  .next c=>cases hf;exact⟨_,_,Dz hR h1 e1,Dz hR h2 e2,c.1,c.2.1,c.2.2,hQ ρ H _ .refl hR (by simp[RD,RI])⟩
  .cases hf
 .cases hf
def S9:RB K (Ps K) (KZ true):=by
 intro ρ H hd d e v u Q z hd' hR h1 h2 hf hQ;unfold KZ at hf;split at hf
 .next e1 e2=>
  split at hf
  .next c=>cases hf;exact⟨_,_,Dz hR h1 e1,Dz hR h2 e2,c.1,c.2.1,c.2.2,hQ ρ H _ .refl hR (by simp[RD,RI])⟩
  .cases hf
 .cases hf
noncomputable abbrev gEq:=CS (Fj false) (KZ false)
noncomputable abbrev gNe:=CS (Fj true) (KZ true)
def gIx:D->D->Hd->Option (D×Hd)
 |d,.im (.int i),hd=>(As hd d).bind λds=>(atI ds i).map (·,hd)
 |_,_,_=>none
def P9{α β:Type}{xs:List α}{ys:List β}{i:Int}{y:β}(h:79=ys.length)(e:atI ys i=some y):∃(j:Nat),ys[j]?=some y/\∀x,xs[j]?=some x->atI xs i=some x:=by
 unfold atI at e;obtain⟨j,e1,e2⟩:=gV e;exact⟨j,e2,λx q=>by unfold atI;rw[h,e1];exact q⟩
noncomputable def Lj(K:Frag):R2:=λx y H Q=>KK K x y H Q∨Ua K x y H Q
def eC:RB K (Lj K) gIx:=by
 intro ρ H hd d e v u Q z hd' hR h1 h2 hf hQ;unfold gIx at hf;split at hf
 .obtain⟨ds,e1,hf⟩:=gV hf;obtain⟨w,e2,e3⟩:=iS hf;cases e3;obtain⟨a,xs,rfl,q,r⟩:=h1.seq hR e1;simp only[RD,RI]at h2;subst h2;obtain⟨j,j1,j2⟩:=P9 r.len e2;obtain⟨x,x1,x2⟩:=r.get j1;rcases q with q|q
  .exact .inl ⟨a,xs,_,x,rfl,rfl,q,j2 x x1,hQ ρ H x .refl hR x2⟩
  .exact .inr ⟨a,xs,_,x,rfl,rfl,q,j2 x x1,hQ ρ H x .refl hR x2⟩
 .cases hf
noncomputable def C7(xs:List D)(lo hi:Option Int):List D:=(xs.drop (HT.sIx 79 0 lo)).take (HT.sIx 79 79 hi-HT.sIx 79 0 lo)
def Oz{ds:List D}{xs:List V}{lo hi:Option Int}(r:RDs K ρ H ds xs):RDs K ρ H (C7 ds lo hi) (Fp xs lo hi):=by
 unfold C7 Fp;rw[r.len];exact(r.drop _).take _
noncomputable abbrev MO1:=Ls->Hd->Option (Option Int×Hd)
def RO1(K:Frag)(t:TO)(m:MO1):Prop:=∀(ρ:List Addr) (σ:St) (H:Hp) (hd:Hd) (ls:Ls) (Q:Option Int->Hp->Prop) (d:Option Int) (hd':Hd),RH K ρ H hd->RL K ρ H ls σ->m ls hd=some (d,hd') ->
 (∀ρ' H',Ext ρ H ρ' H'->RH K ρ' H' hd'->Q d H')->t σ H Q
noncomputable def B6:MO1:=λ_ hd=>some (none,hd)
noncomputable def Bf(m:ME):MO1:=λls hd=>(m ls hd).bind λp=>match p.1 with
 |.im (.int i)=>some (some i,p.2)
 |_=>none
def XG:RO1 K KA B6:=by
 and_intros;cases hm;exact hQ ρ H .refl hR
def XF{t:TE}{m:ME}(h:RE K t m):RO1 K (PQ t) (Bf m):=by
 and_intros;obtain⟨⟨d1,h1⟩,e1,hm⟩:=gV hm;dsimp only at hm;split at hm
 .cases hm;exact h ρ σ H hd ls _ _ _ hR hL e1 λρ1 H1 v x1 R1 r1=>⟨_,by simpa only[RD,RI]using r1,hQ ρ1 H1 x1 R1⟩
 .cases hm
noncomputable def Fg(m:ME)(ml mh:MO1):MA:=λls hd=>(m ls hd).bind λp=>(ml ls p.2).bind λl=>(mh ls l.2).bind λh=>(Ap h.2 p.1).bind λds=>some (C7 ds l.1 h.1,h.2)
def Zl{t:TE}{tl th:TO}{m:ME}{ml mh:MO1}(h:RE K t m)(hl:RO1 K tl ml)(hh:RO1 K th mh):RN K (tSl (Pr K) t tl th) (Fg m ml mh):=by
 and_intros;obtain⟨⟨d1,h1⟩,e1,hm⟩:=gV hm;obtain⟨⟨d2,h2⟩,e2,hm⟩:=gV hm;obtain⟨⟨d3,h3⟩,e3,hm⟩:=gV hm;obtain⟨ds,e4,hm⟩:=gV hm;dsimp only at e2 e3 e4 hm;cases hm;refine h ρ σ H hd ls _ d1 h1 hR hL e1 λρ1 H1 v1 x1 R1 r1=>?_;refine hl ρ1 σ H1 h1 ls _ d2 h2 R1 (hL.ext hR x1) e2 λρ2 H2 x2 R2=>?_;refine hh ρ2 σ H2 h2 ls _ d3 _ R2 (hL.ext hR (x1.trans R1 x2)) e3 λρ3 H3 x3 R3=>?_;obtain⟨a,xs,rfl,q,r⟩:=RD.lst R3 ((r1.ext R1 x2).ext R2 x3) e4;refine⟨a,xs,rfl,q,λp hp=>?_⟩;obtain⟨R4,x4⟩:=R3.hid (ho:=.lst (Fp xs d2 d3)) hp;have x123:=(x1.trans R1 x2).trans R2 x3;exact hQ ρ3 _ p _ (x123.trans R3 x4) R4 (x123.none hR hp R3) (R3.out hp) Af ((Oz r).ext R3 x4)
noncomputable def mCB(f:List D->Hd->Option (D×Hd))(ma:MA):ME:=λls hd=>(ma ls hd).bind λp=>f p.1 p.2
def Vy{r:List V->Hp->VK->Prop}{f:List D->Hd->Option (D×Hd)}{t:TA}{m:MA}(hr:RF K r f)(h:RA K t m):RE K (tCB r t) (mCB f m):=by
 and_intros;obtain⟨⟨d1,h1⟩,e1,hm⟩:=gV hm;refine h ρ σ H hd ls _ d1 h1 hR hL e1 λρ1 H1 v1 x1 R1 r1=>?_;exact hr ρ1 H1 h1 d1 v1 Q d hd' R1 r1 hm λρ' H' w x2 R2 r2=>hQ ρ' H' w (x1.trans R1 x2) R2 r2
noncomputable def f1(tp:Bool)(g:List D->Option D):List D->Hd->Option (D×Hd)
 |[d],hd=>((if tp then As hd d else Ap hd d)).bind λds=>(g ds).map (·,hd)
 |_,_=>none
def KG{tp:Bool}{r:List V->Hp->VK->Prop}{g:List D->Option D}(h:RG K tp r g):RF K r (f1 tp g):=by
 intro ρ H hd ds vs Q z hd' hR h1 hf hQ;unfold f1 at hf;split at hf
 .next d hd'=>
  obtain⟨es,e1,hf⟩:=gV hf;obtain⟨w,e2,e3⟩:=iS hf;cases e3;simp only[RDs]at h1;obtain⟨x,r,rfl,rx,rfl⟩:=h1;cases tp with
  |true=>
   rw[ic rfl]at e1;obtain⟨a,xs,rfl,q,rr⟩:=rx.seq hR e1;exact h ρ H hd a xs es Q z hR (q.imp id λq=>⟨rfl,q⟩) rr e2 λH' w x R r=>hQ ρ H' w x R r
  |false=>
   rw[ig Bool.false_ne_true]at e1;obtain⟨a,xs,rfl,q,rr⟩:=rx.lst hR e1;exact h ρ H hd a xs es Q z hR (.inl q) rr e2 λH' w x R r=>hQ ρ H' w x R r
 .cases hf
noncomputable def BM(g:List D->Option D)(ml:MA):ME:=λls hd=>(ml ls hd).bind λp=>(g p.1).map (·,p.2)
def S7{tp:Bool}{r:List V->Hp->VK->Prop}{g:List D->Option D}{t:TE}{m:MA}(hr:RG K tp r g)(h:RN K t m):RE K (tCB r (BD t Bn)) (BM g m):=by
 and_intros;obtain⟨⟨d1,h1⟩,e1,hm⟩:=gV hm;obtain⟨w,e2,e3⟩:=iS hm;cases e3;refine h ρ σ H hd ls _ d1 _ hR hL e1 λρ1 H1 a xs x1 R1 na oa ea r1=>?_;exact hr ρ1 H1 _ a xs d1 Q d R1 (.inl (SqL.of ea)) r1 e2 λH' w x R r=>hQ ρ1 H' w (x1.trans R1 x) R r
noncomputable def Aj(ds:List D):Option D:=some (.im (.int 82))
def S0:RG K true (aK K) Aj:=by
 intro ρ H hd a xs ds Q z hR q r e hQ;cases e;refine⟨a,xs,rfl,q.imp id λq=>q.2,?_⟩;rw[r.len];exact hQ H _ .refl hR (by simp[RD,RI])
noncomputable def Bb(ds:List D):Option D:=some (AT ds)
def Md:RG K true (Mj K) Bb:=by
 intro ρ H hd a xs ds Q z hR q r e hQ;cases e;refine⟨a,xs,rfl,?_⟩;rcases q with q|⟨_,q⟩
 .refine .inl ⟨q,λp hp=>?_⟩;obtain⟨R2,x2⟩:=hR.hid (ho:=.tup xs) hp;exact hQ _ _ x2 R2 (By (SqT.of Af) (r.ext hR x2))
 .exact .inr ⟨q,hQ H _ .refl hR (By q r)⟩
noncomputable def E5(ds:List D):Option D:=(B4 ds).map λns=>.im (.int ns.sum)
def fZ(K:Frag):List V->Hp->VK->Prop:=λxs H Q=>W4 K xs H Q∨W3 K xs H Q
def Rz:RG K true (fZ K) E5:=by
 intro ρ H hd a xs ds Q z hR q r e hQ;obtain⟨ns,e1,rfl⟩:=iS e;rw[E6 e1]at r;have:=F0 r;subst this;rcases q with q|⟨_,q⟩
 .exact .inl ⟨a,ns,rfl,q,hQ H _ .refl hR (by simp[RD,RI])⟩
 .exact .inr ⟨a,ns,rfl,q,hQ H _ .refl hR (by simp[RD,RI])⟩
noncomputable def Dh(ds:List D):Option D:=(CN ds).map λbs=>.im (.bl (bs.all id))
noncomputable def N6(ds:List D):Option D:=(CN ds).map λbs=>.im (.bl (bs.any id))
def S4:RG K false (aM K) Dh:=by
 intro ρ H hd a xs ds Q z hR q r e hQ;obtain⟨ns,e1,rfl⟩:=iS e;rw[Kk e1]at r;have:=Me r;subst this;rcases q with q|⟨q,_⟩
 .exact⟨a,ns,rfl,q,hQ H _ .refl hR (by simp[RD,RI])⟩
 .cases q
def S3:RG K false (aL K) N6:=by
 intro ρ H hd a xs ds Q z hR q r e hQ;obtain⟨ns,e1,rfl⟩:=iS e;rw[Kk e1]at r;have:=Me r;subst this;rcases q with q|⟨q,_⟩
 .exact⟨a,ns,rfl,q,hQ H _ .refl hR (by simp[RD,RI])⟩
 .cases q
noncomputable def KO:List Int->Int
 |[]=>0
 |[x]=>x
 |x::r=>if KO r>x then KO r else x
noncomputable def GT:List Int->Int
 |[]=>0
 |[x]=>x
 |x::r=>if GT r<x then GT r else x
theorem Sg:∀{xs:List Int},xs≠[]->KO xs∈xs/\∀x∈xs,x<=KO xs
 |[],h=>absurd rfl h
 |[x],_=>by simp[KO]
 |x::y::r,_=>by
  obtain⟨h1,h2⟩:=Sg (xs:=y::r) 70;rw[KO];split
  .next h=>exact⟨j4 _ h1,λz m=>by rcases mem_cons.mp m with rfl|m;omega;exact h2 z m⟩
  .next h=>exact⟨jg,λz m=>by rcases mem_cons.mp m with rfl|m;omega;exact Int.le_trans (h2 z m) 66⟩
  .simp
theorem HY:∀{xs:List Int},xs≠[]->GT xs∈xs/\∀x∈xs,GT xs<=x
 |[],h=>absurd rfl h
 |[x],_=>by simp[GT]
 |x::y::r,_=>by
  obtain⟨h1,h2⟩:=HY (xs:=y::r) 70;rw[GT];split
  .next h=>exact⟨j4 _ h1,λz m=>by rcases mem_cons.mp m with rfl|m;omega;exact h2 z m⟩
  .next h=>exact⟨jg,λz m=>by rcases mem_cons.mp m with rfl|m;omega;exact Int.le_trans 66 (h2 z m)⟩
  .simp
noncomputable def J9(ds:List D):Option D:=(B4 ds).bind λns=>if ns=[]then none else some (.im (.int (GT ns)))
def IH{α:Type}{xs:List α}(h:xs≠[]):0<xs.length:=by cases xs<;>simp_all
def Zv:RG K false (W5 K) J9:=by
 intro ρ H hd a xs ds Q z hR q r e hQ;obtain⟨ns,e1,e⟩:=gV e;split at e
 .cases e
 .next hn=>
  cases e;rw[E6 e1]at r;have:=F0 r;subst this;have u:∀M:Int,M∈ns->(∀x∈ns,M<=x)->M=GT ns:=λM m1 m2=>by
   obtain⟨n1,n2⟩:=HY hn;have:=n2 M m1;have:=m2 _ n1;omega
  rcases q with q|⟨q,_⟩
  .exact⟨a,ns,rfl,q,IH hn,λM m1 m2=>by rw[u M m1 m2];exact hQ H _ .refl hR (by simp[RD,RI])⟩
  .cases q
noncomputable def WZ:List D->Hd->Option (D×Hd)
 |[.im (.int i),.im (.int j)],hd=>some (.im (.int (if j>i then j else i)),hd)
 |_,_=>none
noncomputable def IJ:List D->Hd->Option (D×Hd)
 |[.im (.int i),.im (.int j)],hd=>some (.im (.int (if j<i then j else i)),hd)
 |_,_=>none
def XS:RF K (λxs H Q=>∃i j,xs=[.int i,.int j]/\Q (.int (if j<i then j else i)) H) IJ:=by
 intro ρ H hd ds vs Q z hd' hR h1 hf hQ;unfold IJ at hf;split at hf
 .cases hf;simp only[RDs,RD,RI]at h1;obtain⟨x,r,rfl,rfl,y,r2,rfl,rfl,rfl⟩:=h1;exact⟨_,_,rfl,hQ ρ H _ .refl hR (by simp[RD,RI])⟩
 .cases hf
noncomputable def Ka:List D->Hd->Option (D×Hd)
 |[.im (.int i)],hd=>some (.im (.int (if i<0 then -i else i)),hd)
 |_,_=>none
def Zw:RF K (λxs H Q=>∃i,xs=[.int i]/\Q (.int (if i<0 then -i else i)) H) Ka:=by
 intro ρ H hd ds vs Q z hd' hR h1 hf hQ;unfold Ka at hf;split at hf
 .cases hf;simp only[RDs,RD,RI]at h1;obtain⟨x,r,rfl,rfl,rfl⟩:=h1;exact⟨_,rfl,hQ ρ H _ .refl hR (by simp[RD,RI])⟩
 .cases hf
noncomputable def Hc(ml:MA):MA:=ml
def UO{t:TE}{m:MA}(h:RN K t m):RN K (tCB (KJ K) (BD t Bn)) (Hc m):=by
 and_intros;refine h ρ σ H hd ls _ d _ hR hL hm λρ1 H1 a xs x1 R1 na oa ea r1=>?_;refine⟨a,xs,rfl,.inl (SqL.of ea),λl hl=>?_⟩;obtain⟨R2,x2⟩:=R1.hid (ho:=.lst xs) hl;exact hQ ρ1 _ l xs (x1.trans R1 x2) R2 (x1.none hR hl R1) (R1.out hl) Af (r1.ext R1 x2)
noncomputable def EG:I->Option V
 |.non=>some .non
 |.bl b=>some (.bl b)
 |.int i=>some (.int i)
 |.str x=>some (.str x)
 |.tup _=>none
noncomputable def Bi:List D->Option (List V)
 |[]=>some []
 |.im i::r=>(EG i).bind λv=>(Bi r).map (v::·)
 |_::_=>none
def JA{i:I}{v w:V}(e:EG i=some w)(h:RI K H i v):v=w/\EF w=true:=by
 cases i with
 |tup _=>simp[EG]at e
 |_=>simp only[EG,Option.some.injEq]at e;subst e;exact⟨by simpa only[RI]using h,rfl⟩
theorem Hi:∀{ds:List D} {vs ws:List V},Bi ds=some ws->RDs K ρ H ds vs->vs=ws/\ws.all EF=true
 |[],vs,ws,e,h=>by simp[Bi]at e;subst e;simp only[RDs]at h;subst h;exact⟨rfl,rfl⟩
 |.im i::r,vs,ws,e,h=>by
  simp only[Bi]at e;obtain⟨v,e1,e⟩:=gV e;obtain⟨us,e2,rfl⟩:=iS e;simp only[RDs,RD]at h;obtain⟨x,y,rfl,h1,h2⟩:=h;obtain⟨rfl,f1⟩:=JA e1 h1;obtain⟨rfl,f2⟩:=Hi e2 h2;exact⟨rfl,by simp[f1,f2]⟩
 |.mu _::_,_,_,e,_=>by simp[Bi]at e
 |.tm _::_,_,_,e,_=>by simp[Bi]at e
 |.ro _::_,_,_,e,_=>by simp[Bi]at e
 |.op _ _ _::_,_,_,e,_=>by simp[Bi]at e
 |.fv _ _::_,_,_,e,_=>by simp[Bi]at e
def gIn(neg:Bool):D->D->Hd->Option (D×Hd)
 |.im i,e,hd=>(EG i).bind λx=>(As hd e).bind λds=>(Bi ds).map λxs=>(.im (.bl (if neg then !inV x xs else inV x xs)),hd)
 |_,_,_=>none
def W0{neg:Bool}:RB K (rIn K neg) (gIn neg):=by
 intro ρ H hd d e v u Q z hd' hR h1 h2 hf hQ;unfold gIn at hf;split at hf
 .obtain⟨x,e1,hf⟩:=gV hf;obtain⟨ds,e2,hf⟩:=gV hf;obtain⟨xs,e3,e4⟩:=iS hf;cases e4;simp only[RD]at h1;obtain⟨rfl,f1⟩:=JA e1 h1;obtain⟨a,ys,rfl,q,r⟩:=h2.seq hR e2;obtain⟨rfl,f2⟩:=Hi e3 r;exact⟨a,ys,rfl,q,f1,f2,hQ ρ H _ .refl hR (by simp[RD,RI])⟩
 .cases hf
noncomputable def mMt(f:D->List D->Hd->Option (D×Hd))(mo:ME)(ma:MA):ME:=λls hd=>(mo ls hd).bind λp=>match Ap p.2 p.1 with
 |some _=>(ma ls p.2).bind λq=>f p.1 q.1 q.2
 |none=>none
def RM(K:Frag)(r:V->List V->Hp->VK->Prop)(f:D->List D->Hd->Option (D×Hd)):Prop:=∀(ρ:List Addr) (H:Hp) (hd:Hd) (d:D) (v:V) (ds:List D) (vs:List V) (Q:VK) (z:D) (hd':Hd),RH K ρ H hd->RD K ρ H d v->RDs K ρ H ds vs->f d ds hd=some (z,hd') ->
 (∀ρ' H' w,Ext ρ H ρ' H'->RH K ρ' H' hd'->RD K ρ' H' z w->Q w H')->r v vs H Q
def Vx{r:V->List V->Hp->VK->Prop}{f:D->List D->Hd->Option (D×Hd)}{to:TE}{t:TA}{mo:ME}{ma:MA}(hr:RM K r f)(ho:RE K to mo)(ha:RA K t ma):RE K (tBM K "list" r to t) (mMt f mo ma):=by
 and_intros;obtain⟨⟨d1,h1⟩,e1,hm⟩:=gV hm;dsimp only at hm;split at hm
 .next e=>
  obtain⟨⟨d2,h2⟩,e2,hm⟩:=gV hm;refine ho ρ σ H hd ls _ d1 h1 hR hL e1 λρ1 H1 v x1 R1 r1=>⟨?_,?_⟩
  .obtain⟨a,xs,rfl,q,_⟩:=r1.lst R1 e;exact .inl ⟨rfl,xs,q⟩
  .exact ha ρ1 σ H1 h1 ls _ d2 h2 R1 (hL.ext hR x1) e2 λρ2 H2 vs x2 R2 r2=>hr ρ2 H2 h2 d1 v d2 vs Q d hd' R2 (r1.ext R1 x2) r2 hm λρ' H' w x3 R3 r3=>hQ ρ' H' w ((x1.trans R1 x2).trans R2 x3) R3 r3
 .cases hm
def a9{r:V->List V->Hp->VK->Prop}{f:D->List D->Hd->Option (D×Hd)}{to:TE}{mo:ME}(hr:RM K r f)(ho:RE K to mo):RE K (U6 K "list" r to) (mMt f mo A4):=Vx (t:=Bn) hr ho SF
open Classical in
noncomputable def Au:D->List D->Hd->Option (D×Hd)
 |.mu n,[x],hd=>match hd[n]? with
  |some (.lst ds)=>if EH 82 then some (.im .non,hd.set n (.lst (ds++[x])))else none
  |_=>none
 |_,_,_=>none
def Rx:RM K OR Au:=by
 intro ρ H hd d v ds vs Q z hd' hR h1 h2 hf hQ;unfold Au at hf;split at hf
 .split at hf
  .next q=>
   split at hf
   .next c=>
    cases hf;simp only[RD]at h1;obtain⟨a,hn,rfl⟩:=h1;simp only[RDs]at h2;obtain⟨x,r,rfl,rx,rfl⟩:=h2;obtain⟨xs,e1,e2⟩:=hR.lst hn q;obtain⟨R2,x2⟩:=hR.put hn (o:=.lst (_++[_])) (ho:=.lst (xs++[x])) ⟨_,rfl,e2.app (.cons rx .nil)⟩;exact⟨a,xs,x,rfl,rfl,e1,by rw[e2.len];exact c,hQ ρ _ _ x2 R2 (by simp[RD,RI])⟩
   .cases hf
  .cases hf
 .cases hf
noncomputable def Hj:D->List D->Hd->Option (D×Hd)
 |.mu n,[],hd=>match hd[n]? with
  |some (.lst ds)=>(ds[82-1]?).map λy=>(y,hd.set n (.lst ds.dropLast))
  |_=>none
 |_,_,_=>none
theorem RDs.dropLast{ds:List D}{xs:List V}(h:RDs K ρ H ds xs):RDs K ρ H ds.dropLast xs.dropLast:=by
 rw[List.dropLast_eq_take,List.dropLast_eq_take,h.len];exact h.take _
def Zo:RM K aJ Hj:=by
 intro ρ H hd d v ds vs Q z hd' hR h1 h2 hf hQ;unfold Hj at hf;split at hf
 .split at hf
  .next q=>
   obtain⟨y,e0,e3⟩:=iS hf;cases e3;simp only[RD]at h1;obtain⟨a,hn,rfl⟩:=h1;simp only[RDs]at h2;subst h2;obtain⟨xs,e1,e2⟩:=hR.lst hn q;obtain⟨x,x1,x3⟩:=e2.get e0;obtain⟨R2,x2⟩:=hR.put hn (o:=.lst _) (ho:=.lst xs.dropLast) ⟨_,rfl,e2.dropLast⟩;exact⟨a,xs,x,rfl,rfl,e1,by rw[e2.len];exact x1,hQ ρ _ _ x2 R2 (x3.ext hR x2)⟩
  .cases hf
 .cases hf
end
end L2
namespace L2
open PySem PySem.Spec PyProof.Rows
section
variable{K:Frag}{ρ ρ':List Addr}{H H':Hp}{hd hd':Hd}
noncomputable def Ah:MS:=λls hd=>some (.nx ls,hd)
def OF:RS K JT Ah:=by
 intro ρ σ H hd ls E f hd' hR hL hm hQ;cases hm;exact hQ ρ H .refl hR σ hL
noncomputable def A9(a b:MS):MS:=λls hd=>(a ls hd).bind λp=>match p.1 with
 |.nx ls1=>b ls1 p.2
 |f=>some (f,p.2)
def Ze(ha:RS K t a)(hb:RS K u b):RS K (Tu t u) (A9 a b):=by
 intro ρ σ H hd ls E f hd' hR hL hm hQ;obtain⟨⟨f1,h1⟩,e1,hm⟩:=gV hm;refine ha ρ σ H hd ls { E with nx:=u E } f1 h1 hR hL e1 λρ1 H1 x1 R1=>?_;cases f1 with
 |nx ls1=>
  intro σ1 L1;exact hb ρ1 σ1 H1 h1 ls1 E f hd' R1 L1 hm λρ2 H2 x2 R2=>hQ ρ2 H2 (x1.trans R1 x2) R2
 |bk ls1=>cases hm;exact hQ ρ1 H1 x1 R1
 |ct ls1=>cases hm;exact hQ ρ1 H1 x1 R1
 |rt d=>cases hm;exact hQ ρ1 H1 x1 R1
noncomputable def BF(m:ME):MS:=λls hd=>(m ls hd).bind λp=>some (.nx ls,p.2)
def XB(h:RE K t m):RS K (PX t) (BF m):=by
 intro ρ σ H hd ls E f hd' hR hL hm hQ;obtain⟨⟨d1,h1⟩,e1,hm⟩:=gV hm;cases hm;exact h ρ σ H hd ls _ d1 _ hR hL e1 λρ1 H1 v x1 R1 r1=>hQ ρ1 H1 x1 R1 σ (hL.ext hR x1)
noncomputable def AR(m:ME):MS:=λls hd=>(m ls hd).bind λp=>some (.rt p.1,p.2)
def Zf(h:RE K t m):RS K (Tw t) (AR m):=by
 intro ρ σ H hd ls E f hd' hR hL hm hQ;obtain⟨⟨d1,h1⟩,e1,hm⟩:=gV hm;cases hm;exact h ρ σ H hd ls _ d1 _ hR hL e1 λρ1 H1 v x1 R1 r1=>hQ ρ1 H1 x1 R1 v r1
noncomputable def Ax(c:MT)(a b:MS):MS:=λls hd=>(c ls hd).bind λp=>if p.1=true then a ls p.2 else b ls p.2
def du(hc:RT K tc c)(ha:RS K t a)(hb:RS K u b):RS K (U3 tc t u) (Ax c a b):=by
 intro ρ σ H hd ls E f hd' hR hL hm hQ;obtain⟨⟨d1,h1⟩,e1,hm⟩:=gV hm;refine hc ρ σ H hd ls _ d1 h1 hR hL e1 λρ1 H1 x1 R1=>?_;cases d1 with
 |true=>
  rw[ic rfl]at hm ⊢;exact ha ρ1 σ H1 h1 ls E f hd' R1 (hL.ext hR x1) hm λρ2 H2 x2 R2=>hQ ρ2 H2 (x1.trans R1 x2) R2
 |false=>
  rw[ig Bool.false_ne_true]at hm ⊢;exact hb ρ1 σ H1 h1 ls E f hd' R1 (hL.ext hR x1) hm λρ2 H2 x2 R2=>hQ ρ2 H2 (x1.trans R1 x2) R2
noncomputable def Dc:MS:=λ_ _=>none
def UJ:RS K M2 Dc:=by
 intro ρ σ H hd ls E f hd' hR hL hm hQ;cases hm
noncomputable abbrev MG:=D->Ls->Hd->Option Ls
noncomputable abbrev MGs:=List D->Ls->Hd->Option Ls
def RGt(K:Frag)(t:TG)(m:MG):Prop:=∀(ρ:List Addr) (σ:St) (H:Hp) (hd:Hd) (ls ls':Ls) (d:D) (v:V) (Q:St->Hp->Prop),RH K ρ H hd->RL K ρ H ls σ->RD K ρ H d v->m d ls hd=some ls' ->
 (∀σ',RL K ρ H ls' σ'->Q σ' H)->t v σ H Q
def Nf(K:Frag)(t:TGs)(m:MGs):Prop:=∀(ρ:List Addr) (σ:St) (H:Hp) (hd:Hd) (ls ls':Ls) (d:List D) (v:List V) (Q:St->Hp->Prop),RH K ρ H hd->RL K ρ H ls σ->RDs K ρ H d v->m d ls hd=some ls' ->
 (∀σ',RL K ρ H ls' σ'->Q σ' H)->t v σ H Q
theorem RL.set(h:RL K ρ H ls σ)(i:Nat)(r:RD K ρ H d v):RL K ρ H (ls.set i (some d)) (σ.set i (some v)):=by
 refine⟨by simp[h.len],λj e q=>?_⟩;by_cases hij:i=j
 .subst hij;have hl:i<ls.length:=by
   have:=(72 q).1;simpa using this
  rw[List.getElem?_set_self hl]at q;cases q;exact⟨v,by rw[List.getElem?_set_self (by rw[<- h.len];exact hl)],r⟩
 .rw[List.getElem?_set_ne hij]at q;obtain⟨w,e1,e2⟩:=h.ob j e q;exact⟨w,by rw[List.getElem?_set_ne hij];exact e1,e2⟩
noncomputable def AB(i:Nat):MG:=λd ls _=>some (ls.set i (some d))
def Hw{i:Nat}:RGt K (Cv i) (AB i):=by
 intro ρ σ H hd ls ls' d v Q hR hL hd hm hQ;cases hm;exact hQ _ (hL.set i hd)
noncomputable def BG:MGs:=λds ls _=>match ds with
 |[]=>some ls
 |_=>none
noncomputable def AJ(m:MG)(r:MGs):MGs:=λds ls hd=>match ds with
 |d::es=>(m d ls hd).bind λls1=>r es ls1 hd
 |[]=>none
def XR:Nf K VV BG:=by
 intro ρ σ H hd ls ls' d v Q hR hL hd hm hQ;cases d with
 |nil=>
  simp only[RDs]at hd;subst hd;cases hm;exact⟨rfl,hQ _ hL⟩
 |cons a b=>cases hm
def UR(h:RGt K t m)(h':Nf K u r):Nf K (QY t u) (AJ m r):=by
 intro ρ σ H hd ls ls' d v Q hR hL hd hm hQ;cases d with
 |nil=>cases hm
 |cons a b=>
  simp only[RDs]at hd;obtain⟨x,y,rfl,h1,h2⟩:=hd;obtain⟨ls1,e1,e2⟩:=gV hm;exact⟨x,y,rfl,h ρ σ H _ ls ls1 a x _ hR hL h1 e1 λσ1 L1=>h' ρ σ1 H _ ls1 ls' b y Q hR L1 h2 e2 hQ⟩
noncomputable def BB(n:Nat)(r:MGs):MG:=λd ls hd=>(AN d).bind λds=>if 82=n then r ds ls hd else none
def Zu{n:Nat}(h':Nf K u r):RGt K (QX K n u) (BB n r):=by
 intro ρ σ H hd ls ls' d v Q hR hL hd hm hQ;obtain⟨ds,e1,hm⟩:=gV hm;split at hm
 .next c=>
  obtain⟨a,xs,rfl,q,rr⟩:=hd.tup e1;exact⟨a,xs,rfl,q,by rw[rr.len];exact c,h' ρ σ H _ ls ls' ds xs Q hR hL rr hm hQ⟩
 .cases hm
noncomputable def Ec(m:ME)(g:MG):MS:=λls hd=>(m ls hd).bind λp=>(g p.1 ls p.2).map λls'=>(.nx ls',p.2)
def Je(h:RE K t m)(hg:RGt K g n):RS K (DX t g) (Ec m n):=by
 intro ρ σ H hd ls E f hd' hR hL hm hQ;obtain⟨⟨d1,h1⟩,e1,hm⟩:=gV hm;obtain⟨ls',e2,e3⟩:=iS hm;cases e3;exact h ρ σ H hd ls _ d1 _ hR hL e1 λρ1 H1 v x1 R1 r1=>hg ρ1 σ H1 _ ls ls' d1 v _ R1 (hL.ext hR x1) r1 e2 λσ' L'=>hQ ρ1 H1 x1 R1 σ' L'
noncomputable abbrev AF(i:Nat)(m:ME):MS:=Ec m (AB i)
noncomputable def D3(ix:71)(ma:MA):MS:=λls hd=>(ma ls hd).bind λp=>if p.1.length=ix.length then some (.nx ((ix.zip p.1).foldl (λl q=>l.set q.1 (some q.2)) ls),p.2)else none
def Zh{i j:Nat}(h:RA K t m):RS K (Tx i j t) (D3 [i,j] m):=by
 intro ρ σ H hd ls E f hd' hR hL hm hQ;obtain⟨⟨d1,h1⟩,e1,hm⟩:=gV hm;dsimp only at hm;split at hm
 .next c=>
  cases hm;refine h ρ σ H hd ls _ d1 _ hR hL e1 λρ1 H1 v x1 R1 r1=>?_
  match d1,c,r1,hQ with
  |[a,b],_,r1,hQ=>
   simp only[RDs]at r1;obtain⟨x,r,rfl,ra,y,r2,rfl,rb,rfl⟩:=r1;exact⟨x,y,rfl,hQ ρ1 H1 x1 R1 _ (((hL.ext hR x1).set i ra).set j rb)⟩
 .cases hm
noncomputable def IB(i j k:Nat)(ma:MA):MS:=D3 [k,j,i] (λls hd=>(ma ls hd).map λp=>(p.1.reverse,p.2))
def X8{i j k:Nat}(h:RA K t m):RS K (PR i j k t) (IB i j k m):=by
 intro ρ σ H hd ls E f hd' hR hL hm hQ;obtain⟨⟨d1,h1⟩,e1,hm⟩:=gV hm;obtain⟨⟨d2,h2⟩,e2,e3⟩:=iS e1;cases e3;dsimp only at hm;split at hm
 .next c=>
  cases hm;refine h ρ σ H hd ls _ d2 _ hR hL e2 λρ1 H1 v x1 R1 r1=>?_;have c:d2.length=3:=by simpa using c
  match d2,c,r1,hQ with
  |[a,b,e],_,r1,hQ=>
   simp only[RDs]at r1;obtain⟨x,r,rfl,ra,y,r2,rfl,rb,z,r3,rfl,rc,rfl⟩:=r1;exact⟨x,y,z,rfl,hQ ρ1 H1 x1 R1 _ ((((hL.ext hR x1).set k rc).set j rb).set i ra)⟩
 .cases hm
noncomputable abbrev Gd:=List (Nat×List D)
noncomputable abbrev MI:=Ls->Hd->Option ((List D×Gd)×Hd)
def GOk(hd:Hd)(g:Gd):Prop:=∀p∈g,hd[p.1]?=some (.lst p.2)
@[simp] theorem AE(hd:Hd):GOk hd []:=λp h=>by cases h
def K5(K:Frag)(ρ:List Addr)(H:Hp)(J:It)(ds:List D)(g:Gd):Prop:=∀(ρ2:List Addr) (H2:Hp) (hd2:Hd),Ext ρ H ρ2 H2->RH K ρ2 H2 hd2->GOk hd2 g ->
 ∀i:Nat,(i<82->J.go i H2/\∀x H3,J.yld i H2 x H3->∃ρ3 d,Ext ρ2 H2 ρ3 H3/\ρ3=ρ2/\RH K ρ3 H3 hd2/\ds[i]?=some d/\RD K ρ3 H3 d x)/\(i=82->J.stop i H2)
def RIt(K:Frag)(t:TI)(m:MI):Prop:=∀(ρ:List Addr) (σ:St) (H:Hp) (hd:Hd) (ls:Ls) (Q:It->Hp->Prop) (d:List D) (g:Gd) (hd':Hd),RH K ρ H hd->RL K ρ H ls σ->m ls hd=some ((d,g),hd') ->
 (∀ρ' H' J,Ext ρ H ρ' H'->RH K ρ' H' hd'->GOk hd' g->K5 K ρ' H' J d g->Q J H')->t σ H Q
def PB(hR:RH K ρ H hd)(q:SqT K H a xs)(r:RDs K ρ H ds xs)(g:Gd):K5 K ρ H (Itt K a) ds g:=by
 intro ρ2 H2 hd2 x2 R2 _ i;have q2:=(x2.grow hR).sq q;have r2:=r.ext hR x2;have uniq:∀ys,SqT K H2 a ys->True:=λ_ _=>trivial;refine⟨λhi=>?_,λhi=>⟨xs,q2,by rw[r2.len,hi];exact iq _⟩⟩;have e:ds[i]?=some ds[i]:=by simp[hi]
 obtain⟨x,x1,x3⟩:=r2.get e;refine⟨⟨xs,x,q2,x1⟩,λy H3 ⟨e3,hy⟩=>?_⟩;subst e3;have:=hy xs q2;rw[x1]at this;cases this;exact⟨ρ2,_,.refl,rfl,R2,e,x3⟩
noncomputable def Az(m:ME):MI:=λls hd=>(m ls hd).bind λp=>(AN p.1).map λds=>((ds,[]),p.2)
def Ry(h:RE K t m):RIt K (NA K t) (Az m):=by
 intro ρ σ H hd ls Q d g hd' hR hL hm hQ;obtain⟨⟨d1,h1⟩,e1,hm⟩:=gV hm;obtain⟨ds,e2,e3⟩:=iS hm;cases e3;refine h ρ σ H hd ls _ d1 _ hR hL e1 λρ1 H1 v x1 R1 r1=>?_;obtain⟨a,xs,rfl,q,r⟩:=r1.tup e2;exact⟨a,rfl,⟨xs,q⟩,hQ ρ1 H1 _ x1 R1 (AE _) (PB R1 q r [])⟩
noncomputable def BR(m:ME):MI:=λls hd=>(m ls hd).bind λp=>match p.1 with
 |.mu n=>match p.2[n]? with
  |some (.lst ds)=>some ((ds,[(n,ds)]),p.2)
  |_=>none
 |.ro ns=>some ((ns.map λn=>.im (.int n),[]),p.2)
 |_=>none
def OL(h:RE K t m):RIt K (Js K t) (BR m):=by
 intro ρ σ H hd ls Q d g hd' hR hL hm hQ;obtain⟨⟨d1,h1⟩,e1,hm⟩:=gV hm;dsimp only at hm;split at hm
 .next n=>
  split at hm
  .next ds q=>
   cases hm;refine h ρ σ H hd ls _ _ _ hR hL e1 λρ1 H1 v x1 R1 r1=>?_;simp only[RD]at r1;obtain⟨a,hn,rfl⟩:=r1;obtain⟨xs,e2,e3⟩:=R1.lst hn q;refine⟨a,rfl,⟨xs,SqL.of e2⟩,hQ ρ1 H1 _ x1 R1 (λp z=>by simp at z;subst z;exact q) ?_⟩;intro ρ2 H2 hd2 x2 R2 G2 i;have q2:=G2 (n,d) 70;have hn2:ρ2[n]?=some a:=by
    obtain⟨r,rfl,_⟩:=x2.pre;rw[List.getElem?_append_left (List.getElem?_eq_some_iff.mp hn).1];exact hn
   obtain⟨ys,e4,e5⟩:=R2.lst hn2 q2;refine⟨λhi=>?_,λhi=>⟨ys,SqL.of e4,by rw[e5.len,hi];exact iq _⟩⟩;have e:d[i]?=some d[i]:=by simp[hi]
   obtain⟨x,y1,y2⟩:=e5.get e;refine⟨⟨ys,x,SqL.of e4,y1⟩,λy H3 ⟨e6,hy⟩=>?_⟩;subst e6;have:=hy ys (SqL.of e4);rw[y1]at this;cases this;exact⟨ρ2,_,.refl,rfl,R2,e,y2⟩
  .cases hm
 .next ns=>
  cases hm;refine h ρ σ H hd ls _ _ _ hR hL e1 λρ1 H1 v x1 R1 r1=>?_;simp only[RD]at r1;obtain⟨a,rfl,q⟩:=r1;refine⟨a,rfl,⟨_,q.sq⟩,hQ ρ1 H1 _ x1 R1 (AE _) ?_⟩;intro ρ2 H2 hd2 x2 R2 G2 i;have q2:=(q.grow (x2.grow R1)).sq;have e5:RDs K ρ2 H2 (ns.map λn=>.im (.int n)) (ns.map V.int):=F1;refine⟨λhi=>?_,λhi=>⟨_,q2,by rw[e5.len,hi];exact iq _⟩⟩;have e:(ns.map λn=>D.im (.int n))[i]?=some ((ns.map λn=>D.im (.int n))[i]):=by simp[hi]
  obtain⟨x,y1,y2⟩:=e5.get e;refine⟨⟨_,x,q2,y1⟩,λy H3 ⟨e6,hy⟩=>?_⟩;subst e6;have:=hy _ q2;rw[y1]at this;cases this;exact⟨ρ2,_,.refl,rfl,R2,e,y2⟩
 .cases hm
noncomputable def cM(ml:MA):MI:=λls hd=>(ml ls hd).map λp=>((p.1,[]),p.2)
noncomputable def AI(lo:Int):Nat->List D
 |0=>[]
 |n+1=>.im (.int lo)::AI (lo+1) n
@[simp] theorem Jg(lo:Int)(n:Nat):(AI lo n).length=n:=by
 induction n generalizing lo with
 |zero=>rfl
 |succ n ih=>simp[AI,ih]
def Jh{n:Nat}:∀{lo:Int} {i:Nat},i<n->(AI lo n)[i]?=some (.im (.int (lo+i))):=by
 induction n with
 |zero=>intro lo i h;omega
 |succ n ih=>
  intro lo i h;cases i with
  |zero=>simp[AI]
  |succ i=>
   simp only[AI,List.getElem?_cons_succ];rw[ih 66]
   congr 3
   push_cast
   omega
def JM{lo:Int}{n:Nat}:K5 K ρ H (Itr lo n) (AI lo n) g:=by
 intro ρ2 H2 hd2 x2 R2 G2 i;refine⟨λhi=>?_,λhi=>by rw[hi,Jg];exact iq _⟩;rw[Jg]at hi;refine⟨hi,λx H3 ⟨e1,e2⟩=>?_⟩;subst e1 e2;exact⟨ρ2,_,.refl,rfl,R2,Jh hi,by simp[RD,RI]⟩
open Classical in
noncomputable def CL(m:MA):MI:=λls hd=>(m ls hd).bind λp=>match p.1 with
 |[.im (.int j)]=>if HQ j then some ((AI 0 j.toNat,[]),p.2)else none
 |_=>none
def XN(h:RA K t m):RIt K (QQ t) (CL m):=by
 intro ρ σ H hd ls Q d g hd' hR hL hm hQ;obtain⟨⟨d1,h1⟩,e1,hm⟩:=gV hm;dsimp only at hm;split at hm
 .next j=>
  split at hm
  .next c=>
   cases hm;refine h ρ σ H hd ls _ _ _ hR hL e1 λρ1 H1 v x1 R1 r1=>?_;simp only[RDs,RD,RI]at r1;obtain⟨x,r,rfl,rfl,rfl⟩:=r1;exact⟨j,rfl,c.1,c.2,hQ ρ1 H1 _ x1 R1 (AE _) JM⟩
  .cases hm
 .cases hm
open Classical in
noncomputable def IE(m:MA):MI:=λls hd=>(m ls hd).bind λp=>match p.1 with
 |[.im (.int i),.im (.int j)]=>if Pj i j then some ((AI i (j-i).toNat,[]),p.2)else none
 |_=>none
def XM(h:RA K t m):RIt K (QP t) (IE m):=by
 intro ρ σ H hd ls Q d g hd' hR hL hm hQ;obtain⟨⟨d1,h1⟩,e1,hm⟩:=gV hm;dsimp only at hm;split at hm
 .next i j=>
  split at hm
  .next c=>
   cases hm;refine h ρ σ H hd ls _ _ _ hR hL e1 λρ1 H1 v x1 R1 r1=>?_;simp only[RDs,RD,RI]at r1;obtain⟨x,r,rfl,rfl,y,r2,rfl,rfl,rfl⟩:=r1;exact⟨i,j,rfl,⟨c.1.1,c.1.2,c.2.1,c.2.2⟩,hQ ρ1 H1 _ x1 R1 (AE _) JM⟩
  .cases hm
 .cases hm
open Classical in
noncomputable def C4(n:MG)(b:MS)(g:Gd):List D->Ls->Hd->Option (Fl×Hd)
 |[],ls,hd=>some (.nx ls,hd)
 |d::r,ls,hd=>(n d ls hd).bind λls1=>(b ls1 hd).bind λp=>match p.1 with
  |.nx ls2=>if GOk p.2 g then C4 n b g r ls2 p.2 else none
  |.ct ls2=>if GOk p.2 g then C4 n b g r ls2 p.2 else none
  |.bk ls2=>some (.nx ls2,p.2)
  |.rt d=>some (.rt d,p.2)
noncomputable def Bo(mi:MI)(n:MG)(b:MS):MS:=λls hd=>(mi ls hd).bind λp=>C4 n b p.1.2 p.1.1 ls p.2
def Zi(hi:RIt K wi mi)(hg:RGt K g n)(hb:RS K tb b):RS K (U4 wi g tb) (Bo mi n b):=by
 intro ρ σ H hd ls E f hd' hR hL hm hQ;obtain⟨⟨⟨ds,gd⟩,h1⟩,e1,hm⟩:=gV hm;refine hi ρ σ H hd ls _ ds gd h1 hR hL e1 λρ1 H1 J x1 R1 G1 Y=>?_;dsimp only at hm;refine⟨λi m σ2 H2=>m=82-i/\i<=82/\∃ρ2 ls2 hd2,Ext ρ1 H1 ρ2 H2/\RH K ρ2 H2 hd2/\RL K ρ2 H2 ls2 σ2/\GOk hd2 gd/\C4 n b gd (ds.drop i) ls2 hd2=some (f,hd'),
  ⟨82,by simp,jF _,ρ1,ls,h1,.refl,R1,hL.ext hR x1,G1,by simpa using hm⟩,?_⟩
 rintro i m σ2 H2 ⟨rfl,hi,ρ2,ls2,hd2,x2,R2,L2',G2,hm2⟩;obtain⟨Y1,Y2⟩:=Y ρ2 H2 hd2 x2 R2 G2 i;by_cases hlt:i<82
 .obtain⟨go,Y1⟩:=Y1 hlt;have ed:ds.drop i=ds[i]::ds.drop (i+1):=jE hlt;rw[ed]at hm2;unfold C4 at hm2;obtain⟨ls3,e3,hm2⟩:=gV hm2;obtain⟨⟨fl,hd4⟩,e4,hm2⟩:=gV hm2;refine .inr ⟨go,λσ' H'=>∃ρ2 ls2 hd2,Ext ρ1 H1 ρ2 H'/\RH K ρ2 H' hd2/\RL K ρ2 H' ls2 σ'/\GOk hd2 gd/\C4 n b gd (ds.drop (i+1)) ls2 hd2=some (f,hd'),λσ' H' z=>⟨82-(i+1),by omega,rfl,hlt,z⟩,λx H3 y=>?_⟩;obtain⟨ρ3,d3,x3,rfl,R3,e5,r3⟩:=Y1 x H3 y;have e6:d3=ds[i]:=by
   have:ds[i]?=some ds[i]:=by simp[hlt]
   rw[this]at e5;exact(Option.some.inj e5).symm
  subst e6;refine hg ρ3 σ2 H3 hd2 ls2 ls3 _ x _ R3 (L2'.ext R2 x3) r3 e3 λσ4 L4=>?_;refine hb ρ3 σ4 H3 hd2 ls3 _ fl hd4 R3 L4 e4 λρ5 H5 x5 R5=>?_;have x15:=(x2.trans R2 x3).trans R3 x5;cases fl with
  |nx ls5=>
   intro σ5 L5;dsimp only at hm2;split at hm2
   .next c=>exact⟨ρ5,ls5,hd4,x15,R5,L5,c,hm2⟩
   .cases hm2
  |ct ls5=>
   intro σ5 L5;dsimp only at hm2;split at hm2
   .next c=>exact⟨ρ5,ls5,hd4,x15,R5,L5,c,hm2⟩
   .cases hm2
  |bk ls5=>
   intro σ5 L5;cases hm2;exact hQ ρ5 H5 (x1.trans R1 x15) R5 σ5 L5
  |rt d5=>
   intro v5 r5;cases hm2;exact hQ ρ5 H5 (x1.trans R1 x15) R5 v5 r5
 .have e:i=ds.length:=by omega
  subst e;rw[drop_length]at hm2;unfold C4 at hm2;cases hm2;exact .inl ⟨Y2 rfl,hQ ρ2 H2 (x1.trans R1 x2) R2 σ2 L2'⟩
open Classical in
noncomputable def BS(n:MG)(c:MT)(m:ME)(g:Gd):List D->Ls->Hd->Option (List D×Hd)
 |[],_,hd=>some ([],hd)
 |d::r,ls,hd=>(n d ls hd).bind λls1=>(c ls1 hd).bind λp=>if p.1=true then(m ls1 p.2).bind λq=>if GOk q.2 g then(BS n c m g r ls1 q.2).map λz=>(q.1::z.1,z.2)else none else if GOk p.2 g then BS n c m g r ls1 p.2 else none
noncomputable def Dl(k:Nat)(ix:71)(ls:Ls):Ls:=List.replicate k none++ix.map λi=>(ls[i]?).join
open Classical in
noncomputable def Ai(k:Nat)(ix:71)(mi:MI)(n:MG)(c:MT)(m:ME):MA:=λls hd=>(mi ls hd).bind λp=>if C6 p.1.1.length then BS n c m p.1.2 p.1.1 (Dl k ix ls) p.2 else none
def P5{k:Nat}(h:RL K ρ H ls σ):RL K ρ H (Dl k ix ls) (Fq k ix σ):=by
 refine⟨by simp[Dl,Fq],λi d e=>?_⟩;unfold Dl at e;unfold Fq;by_cases hi:i<k
 .rw[List.getElem?_append_left (by simpa using hi),List.getElem?_replicate]at e;split at e<;>cases e
 .have hi':k<=i:=not_lt.mp hi;rw[List.getElem?_append_right (by simpa using hi'),List.length_replicate,List.getElem?_map]at e ⊢;cases q:ix[i-k]? with
  |none=>rw[q]at e;cases e
  |some j=>
   rw[q]at e;simp only[iY,Option.some.injEq]at e ⊢;have e5:ls[j]?=some (some d):=by
    cases w:ls[j]? with
    |none=>rw[w]at e;cases e
    |some z=>rw[w]at e;simpa using e
   obtain⟨v,e6,e7⟩:=h.ob j d e5;exact⟨v,by rw[e6];rfl,e7⟩
def RH.hputO(h:RH K ρ H hd)(out:a∉ρ)(hl:H a=some o)(c:Chg H a)(n1:∀ps,o≠.tbl ps)(n2:∀φ,o≠.ext φ):RH K ρ (upd H a ho) hd:=by
 have gr:Grow H (upd H a ho):=Grow.refl.put c;refine⟨h.len,h.nd,h.tabs.upd (λps z=>n1 ps (Option.some.inj (hl.symm.trans z))) (λps z=>n2 ps (Option.some.inj (hl.symm.trans z))),λm o' b e1 e2=>?_⟩;obtain⟨ho',q1,q2⟩:=h.ob m o' b e1 e2;have:b≠a:=λz=>out (by rw[<- z];exact j5 e2);exact⟨ho',by rw[AW this];exact q1,by simpa using q2.mono gr []⟩
def Ext.outk(x:Ext ρ H ρ' H')(h:H a=some o)(out:a∉ρ):a∉ρ':=by
 obtain⟨r,rfl,fr⟩:=x.pre;intro z;rcases mem_append.mp z with z|z
 .exact out z
 .have:=fr _ z;rw[h]at this;cases this
structure Acc(K:Frag)(α:Type)(o0:HO)(a0:α) where
 rel:List Addr->Hp->α->HO->Prop
 mono:∀{ρ:List Addr} {H H':Hp} {a:α} {o:HO} (r:List Addr),Grow H H'->rel ρ H a o->rel (ρ++r) H' a o
 chg:∀{ρ:List Addr} {H:Hp} {a:α} {o:HO},rel ρ H a o->¬ Stb o
 chg2:∀{ρ:List Addr} {H:Hp} {a:α} {o:HO},rel ρ H a o->(∀xs,o≠.tbl xs)/\∀z,o≠.ext z
 init:∀ρ H,rel ρ H a0 o0
noncomputable abbrev MM(α:Type):=Ls->Hd->α->Option (α×Hd)
def RM1{α:Type}{o0:HO}{a0:α}(B:Acc K α o0 a0)(t:TM)(m:MM α):Prop:=∀(ρ:List Addr) (σ:St) (H:Hp) (hd:Hd) (ls:Ls) (a a':α) (hd':Hd) (Da:Addr) (o:HO) (Q:Hp->Prop),RH K ρ H hd->RL K ρ H ls σ->Da∉ρ->H Da=some o->B.rel ρ H a o ->
 m ls hd a=some (a',hd')->(∀ρ' H' o',Ext ρ H ρ' H'->RH K ρ' H' hd'->H' Da=some o->B.rel ρ' H' a' o'->Q (upd H' Da o'))->t Da σ H Q
open Classical in
noncomputable def mGo{α:Type}(n:MG)(c:MT)(me:MM α)(g:Gd):List D->Ls->Hd->α->Option (α×Hd)
 |[],_,hd,a=>some (a,hd)
 |d::r,ls,hd,a=>(n d ls hd).bind λls1=>(c ls1 hd).bind λp=>if p.1=true then(me ls1 p.2 a).bind λq=>if GOk q.2 g then mGo n c me g r ls1 q.2 q.1 else none else if GOk p.2 g then mGo n c me g r ls1 p.2 a else none
noncomputable def Hf{α:Type}(k:Nat)(ix:71)(mi:MI)(n:MG)(c:MT)(a0:α)(me:MM α):Ls->Hd->Option (α×Hd):=λls hd=>(mi ls hd).bind λp=>mGo n c me p.1.2 p.1.1 (Dl k ix ls) p.2 a0
def RNG{α:Type}{o0:HO}{a0:α}(B:Acc K α o0 a0)(t:TE)(m:Ls->Hd->Option (α×Hd)):Prop:=∀(ρ:List Addr) (σ:St) (H:Hp) (hd:Hd) (ls:Ls) (Q:VK) (a:α) (hd':Hd),RH K ρ H hd->RL K ρ H ls σ->m ls hd=some (a,hd') ->
 (∀ρ' H' Da o,Ext ρ H ρ' H'->RH K ρ' H' hd'->H Da=none->Da∉ρ'->H' Da=some o->B.rel ρ' H' a o->Q (.ref Da) H')->t σ H Q
def Ma{α:Type}{o0:HO}{a0:α}{B:Acc K α o0 a0}{k:Nat}{ix:71}{wi:TI}{g:TG}{tf:TT}{tm:TM}{mi:MI}{n:MG}{c:MT}{m:MM α}(hi:RIt K wi mi)(hg:RGt K g n)(hf:RT K tf c)(he:RM1 B tm m):RNG B (Ft o0 k ix wi g tf tm) (Hf k ix mi n c a0 m):=by
 intro ρ σ H hd ls Q out hd' hR hL hm hQ;obtain⟨⟨⟨ds,gd⟩,h1⟩,e1,hm⟩:=gV hm;dsimp only at hm;refine hi ρ σ H hd ls _ ds gd h1 hR hL e1 λρ1 H1 J x1 R1 G1 Y=>?_;intro Da hDa;obtain⟨R1',x1'⟩:=R1.hid (ho:=o0) hDa;have oD:Da∉ρ1:=R1.out hDa;have nD:H Da=none:=x1.none hR hDa R1;refine⟨λi mm σ2 H2=>mm=82-i/\i<=82/\∃ρ2 ls2 hd2 a2 o2,Ext ρ1 H1 ρ2 H2/\Da∉ρ2/\H2 Da=some o2/\RH K ρ2 H2 hd2/\RL K ρ2 H2 ls2 σ2/\B.rel ρ2 H2 a2 o2/\GOk hd2 gd/\mGo n c m gd (ds.drop i) ls2 hd2 a2=some (out,hd'),
  ⟨82,by simp,jF _,ρ1,_,h1,a0,o0,x1',oD,Af,R1',(P5 ((hL.ext hR x1).ext R1 x1')),B.init _ _,G1,by simpa using hm⟩,?_⟩
 rintro i mm σ2 H2 ⟨rfl,hi,ρ2,ls2,hd2,a2,o2,x2,oD2,hD2,R2,L2',r2,G2,hm2⟩;obtain⟨Y1,Y2⟩:=Y ρ2 H2 hd2 x2 R2 G2 i;by_cases hlt:i<82
 .obtain⟨go,Y1⟩:=Y1 hlt;have ed:ds.drop i=ds[i]::ds.drop (i+1):=jE hlt;rw[ed]at hm2;unfold mGo at hm2;obtain⟨ls3,e3,hm2⟩:=gV hm2;obtain⟨⟨bb,hd4⟩,e4,hm2⟩:=gV hm2;refine .inr ⟨go,λσ' H'=>∃ρ2 ls2 hd2 a2 o2,Ext ρ1 H1 ρ2 H'/\Da∉ρ2/\H' Da=some o2/\RH K ρ2 H' hd2/\RL K ρ2 H' ls2 σ'/\B.rel ρ2 H' a2 o2/\GOk hd2 gd/\mGo n c m gd (ds.drop (i+1)) ls2 hd2 a2=some (out,hd'),λσ' H' z=>⟨82-(i+1),by omega,rfl,hlt,z⟩,λx H3 y=>?_⟩;obtain⟨ρ3,d3,x3,rfl,R3,e5,r3⟩:=Y1 x H3 y;have e6:d3=ds[i]:=by
   have:ds[i]?=some ds[i]:=by simp[hlt]
   rw[this]at e5;exact(Option.some.inj e5).symm
  subst e6;refine hg ρ3 σ2 H3 hd2 ls2 ls3 _ x _ R3 (L2'.ext R2 x3) r3 e3 λσ4 L4=>?_;refine hf ρ3 σ4 H3 hd2 ls3 _ bb hd4 R3 L4 e4 λρ5 H5 x5 R5=>?_;have hD3:H3 Da=some o2:=x3.keep Da _ hD2 oD2 (B.chg2 r2).1;have hD5:H5 Da=some o2:=x5.keep Da _ hD3 oD2 (B.chg2 r2).1;have out5:Da∉ρ5:=x5.outk hD3 oD2;have y25:=x3.trans R3 x5;have r5:B.rel ρ5 H5 a2 o2:=by
   obtain⟨r,rfl,fr⟩:=y25.pre;exact B.mono r (y25.grow R2) r2
  cases bb with
  |false=>
   rw[ig Bool.false_ne_true]at hm2 ⊢;split at hm2
   .next g5=>exact⟨ρ5,ls3,hd4,a2,o2,x2.trans R2 y25,out5,hD5,R5,L4.ext R3 x5,r5,g5,hm2⟩
   .cases hm2
  |true=>
   rw[ic rfl]at hm2 ⊢;obtain⟨⟨z,hd6⟩,e6,hm2⟩:=gV hm2;dsimp only at hm2;split at hm2
   .next g6=>
    refine he ρ5 σ4 H5 hd4 ls3 a2 z hd6 Da o2 _ R5 (L4.ext R3 x5) out5 hD5 r5 e6 λρ6 H6 o6 x6 R6 hD6 r6=>?_;have out6:Da∉ρ6:=x6.outk hD5 out5;have c6:Chg H6 Da:=λu st z=>B.chg r5 (by rw[hD6]at z;cases z;exact st);have gr:Grow H6 (upd H6 Da o6):=Grow.refl.put c6;have R7:=R6.hputO (ho:=o6) out6 hD6 c6 (B.chg2 r5).1 (B.chg2 r5).2;have x12:=(x2.trans R2 y25).trans R5 x6;have ext7:Ext ρ1 H1 ρ6 (upd H6 Da o6):=⟨x12.pre,λb o q nb t=>by
     have:b≠Da:=Am q hDa;rw[AW this];exact x12.keep b o q nb t,λb ps q=>by
     have:b≠Da:=Am q hDa;rw[AW this];exact x12.tab b ps q⟩
    have L6:=(L4.ext R3 x5).ext R5 x6;exact⟨ρ6,ls3,hd6,z,o6,ext7,out6,Af,R7,⟨L6.len,λi d e=>let ⟨v,a,b⟩:=L6.ob i d e;⟨v,a,by simpa using b.mono gr []⟩⟩,by simpa using B.mono [] gr r6,g6,hm2⟩
   .cases hm2
 .have e:i=ds.length:=by omega
  subst e;rw[drop_length]at hm2;unfold mGo at hm2;cases hm2;exact .inl ⟨Y2 rfl,hQ ρ2 H2 Da o2 (x1.trans R1 x2) R2 nD oD2 hD2 r2⟩
noncomputable def gA(K:Frag):Acc K (List D) (.lst []) [] where
 rel:=λρ H a o=>∃xs,o=.lst xs/\RDs K ρ H a xs
 mono:=λr g ⟨xs,e,q⟩=>⟨xs,e,q.mono g r⟩
 chg:=λ⟨xs,e,q⟩ st=>by subst e;exact st
 chg2:=λ⟨xs,e,q⟩=>⟨λ_ z=>(by subst e;cases z),λ_ z=>(by subst e;cases z)⟩
 init:=λρ H=>⟨[],rfl,.nil⟩
noncomputable def Q9(m:ME):MM (List D):=λls hd a=>(m ls hd).bind λq=>if a.length<sizeLine then some (a++[q.1],q.2)else none
def Zp(he:RE K te m):RM1 (gA K) (QC te) (Q9 m):=by
 intro ρ σ H hd ls a a' hd' Da o Q hR hL out hD hrel hm hQ;obtain⟨⟨d1,h1⟩,e1,hm⟩:=gV hm;obtain⟨xs,rfl,r⟩:=hrel;dsimp only at hm;split at hm
 .next c=>
  cases hm;refine he ρ σ H hd ls _ d1 _ hR hL e1 λρ1 H1 v1 x1 R1 r1=>?_;have hD1:H1 Da=some (.lst xs):=x1.keep Da _ hD out nt;have r':=r.ext hR x1;exact⟨xs,hD1,by rw[r'.len];exact c,hQ ρ1 H1 _ x1 R1 hD1 ⟨_,rfl,r'.app (.cons r1 .nil)⟩⟩
 .cases hm
theorem N1{n:MG}{c:MT}{m:ME}{g:Gd}{hd':Hd}:∀{ds:List D} {ls:Ls} {hd:Hd} {a rest:List D},a.length+82<=sizeLine->BS n c m g ds ls hd=some (rest,hd')->mGo n c (Q9 m) g ds ls hd a=some (a++rest,hd')
 |[],ls,hd,a,rest,l,e=>by cases e;simp[mGo]
 |d::r,ls,hd,a,rest,l,e=>by
  rw[j6]at l;unfold BS at e;unfold mGo;obtain⟨ls1,e1,e⟩:=gV e;obtain⟨⟨b,h1⟩,e2,e⟩:=gV e;rw[e1,ik,e2,ik];cases b with
  |false=>
   simp only[Bool.false_eq_true,jy]at e ⊢;split at e
   .next q=>rw[ic q];exact N1 66 e
   .cases e
  |true=>
   simp only[iU]at e ⊢;obtain⟨⟨z,h2⟩,e3,e⟩:=gV e;dsimp only at e;split at e
   .next q=>
    obtain⟨⟨zs,h3⟩,e4,e⟩:=iS e;cases e;simp only[Q9,e3,ik];rw[ic (show a.length<sizeLine by omega)];simp only[ik];rw[ic q,N1 75 e4];simp
   .cases e
def OK{k:Nat}{ix:71}{wi:TI}{g:TG}{tf:TT}{te:TE}{mi:MI}{n:MG}{c:MT}{m:ME}(hi:RIt K wi mi)(hg:RGt K g n)(hf:RT K tf c)(he:RE K te m):RN K (GM k ix wi g tf te) (Ai k ix mi n c m):=by
 intro ρ σ H hd ls Q out hd' hR hL hm hQ;obtain⟨⟨⟨ds,gd⟩,h1⟩,e1,hm⟩:=gV hm;dsimp only at hm;split at hm
 .next hlen=>
  have hlen:82<=sizeLine:=hlen;refine Ma hi hg hf (Zp he) ρ σ H hd ls Q out hd' hR hL (Option.bind_eq_some_iff.mpr ⟨_,e1,N1 (by simpa using hlen) hm⟩) λρ' H' Da o x R n1 n2 e r=>?_;obtain⟨xs,rfl,r⟩:=r;exact hQ ρ' H' Da xs x R n1 n2 e r
 .cases hm
end
mutual
noncomputable def clD(w:Nat):D->Bool
 |.im _=>true
 |.mu n=>decide (n<w)
 |.tm ds=>Ay w ds
 |.ro _=>true
 |.op _ _ ds=>Ay w ds
 |.fv _ ds=>Ay w ds
noncomputable def Ay(w:Nat):List D->Bool
 |[]=>true
 |d::ds=>clD w d&&Ay w ds
end
noncomputable def Gk(w:Nat):List (Key×D)->Bool
 |[]=>true
 |d::ds=>clD w d.2&&Gk w ds
noncomputable def clO(w:Nat):MO->Bool
 |.lst ds=>Ay w ds
 |.dic ds=>Gk w ds
section
variable{K:Frag}
mutual
theorem RD.take(w:Nat):∀{d:D} {v:V},RD K ρ H d v->clD w d=true->RD K (ρ.take w) H d v
 |.im i,v,h,_=>by simp only[RD]at h ⊢;exact h
 |.mu n,v,h,c=>by
  simp only[RD]at h ⊢;obtain⟨a,e,q⟩:=h;exact⟨a,by rw[List.getElem?_take_of_lt (by simpa [clD]using c)];exact e,q⟩
 |.tm ds,v,h,c=>by
  simp only[RD]at h ⊢;obtain⟨a,xs,e,q,z⟩:=h;exact⟨a,xs,e,q,RDs.take' w z (by simpa [clD]using c)⟩
 |.ro ns,v,h,c=>by simp only[RD]at h ⊢;exact h
 |.op nm fs ds,v,h,c=>by
  simp only[RD]at h ⊢;obtain⟨a,xs,e,q,z⟩:=h;exact⟨a,xs,e,q,RDs.take' w z (by simpa [clD]using c)⟩
 |.fv k ds,v,h,c=>by
  simp only[RD]at h ⊢;obtain⟨a,xs,e,q,z⟩:=h;exact⟨a,xs,e,q,RDs.take' w z (by simpa [clD]using c)⟩
theorem RDs.take'(w:Nat):∀{d:List D} {v:List V},RDs K ρ H d v->Ay w d=true->RDs K (ρ.take w) H d v
 |[],v,h,_=>by simpa only[RDs]using h
 |d::ds,v,h,c=>by
  simp only[RDs]at h ⊢;obtain⟨x,r',e,q,z⟩:=h;have c:clD w d=true/\Ay w ds=true:=by simpa [Ay]using c
  exact⟨x,r',e,q.take w c.1,RDs.take' w z c.2⟩
end
theorem RKs.take(w:Nat):∀{d:List (Key×D)} {v:List (Key×V)},RKs K ρ H d v->Gk w d=true->RKs K (ρ.take w) H d v
 |[],v,h,_=>by simpa only[RKs]using h
 |d::ds,v,h,c=>by
  simp only[RKs]at h ⊢;obtain⟨x,r',e,q1,q,z⟩:=h;have c:clD w d.2=true/\Gk w ds=true:=by simpa [Gk]using c
  exact⟨x,r',e,q1,q.take w c.1,RKs.take w z c.2⟩
theorem RC.take(w:Nat)(h:RC K ρ H o ho)(c:clO w o=true):RC K (ρ.take w) H o ho:=by
 cases o with
 |lst ds=>obtain⟨xs,e,q⟩:=h;exact⟨xs,e,q.take' w c⟩
 |dic ds=>obtain⟨xs,e,q⟩:=h;exact⟨xs,e,q.take w c⟩
theorem RH.take(h:RH K ρ H hd)(w:Nat)(c:(hd.take w).all (clO w)=true):RH K (ρ.take w) H (hd.take w):=by
 refine⟨by simp[h.len],h.nd.sublist (List.take_sublist _ _),h.tabs,λn o a e1 e2=>?_⟩;have co:=all_eq_true.mp c o (j5 e1);have hn:n<w:=by
  have:=(72 e1).1;simp at this;omega
 rw[List.getElem?_take_of_lt hn]at e1 e2;obtain⟨ho,q1,q2⟩:=h.ob n o a e1 e2;exact⟨ho,q1,q2.take w co⟩
def RH.back(R1:RH K ρ1 H1 h1){w:Nat}(hw:w<=h1.length)(c1:(h1.take w).all (clO w)=true)(x:Ext (ρ1.take w) H1 ρ' H')(R':RH K ρ' H' h2)(c:(h2.take w).all (clO w)=true):
 RH K ρ1 H' (h2.take w++h1.drop w)/\Ext ρ1 H1 ρ1 H'/\ρ'.take w=ρ1.take w:=by
 obtain⟨r,rfl,fr⟩:=x.pre;have lw:(ρ1.take w).length=w:=by rw[jB,R1.len];omega
 have l2:w<=h2.length:=by rw[<- R'.len];simp[lw]
 have tk:(ρ1.take w++r).take w=ρ1.take w:=by rw[List.take_append_of_le_length 66,List.take_take];simp
 refine⟨⟨?_,R1.nd,R'.tabs,λn o a e1 e2=>?_⟩,⟨⟨[],by simp,by simp⟩,λb o q nb t=>x.keep b o q (λm=>nb (ju m)) t,x.tab⟩,tk⟩
 .rw[iV,jB,kd,R1.len];omega
 .by_cases hn:n<w
  .rw[List.getElem?_append_left (by rw[jB];omega),List.getElem?_take_of_lt hn]at e1;have e3:(ρ1.take w++r)[n]?=some a:=by
    rw[List.getElem?_append_left 66,List.getElem?_take_of_lt hn];exact e2
   obtain⟨ho,q1,q2⟩:=R'.ob n o a e1 e3;have co:=all_eq_true.mp c o (by
    have:(h2.take w)[n]?=some o:=by rw[List.getElem?_take_of_lt hn];exact e1
    exact j5 this)
   have q3:=q2.take w co;rw[tk]at q3;have q4:=q3.mono (Grow.refl (H:=H')) (ρ1.drop w);rw[jf]at q4;exact⟨ho,q1,q4⟩
  .rw[List.getElem?_append_right (by rw[jB];omega),jB,List.getElem?_drop]at e1;have e1:h1[n]?=some o:=by
    have:w+(n-min w h2.length)=n:=by omega
    rw[this]at e1;exact e1
   obtain⟨ho,q1,q2⟩:=R1.ob n o a e1 e2;have out:a∉ρ1.take w:=λm=>by
    obtain⟨k,hk⟩:=List.mem_iff_getElem?.mp m;have kw:k<w:=by
     have:=(72 hk).1;rw[lw]at this;exact this
    rw[List.getElem?_take_of_lt kw]at hk;have:=(List.getElem?_inj (72 e2).1 R1.nd).mp (e2.trans hk.symm);omega
   have gr:=x.grow (R1.take w c1);exact⟨ho,x.keep a ho q1 out (λps z=>by rcases R1.mut (j5 e2)with⟨y,w⟩|⟨y,w⟩<;>(rw[q1,z]at w;cases w)),by simpa using q2.mono gr []⟩
noncomputable def spF(K:Frag)(k:Nat)(F:List D->Hd->Option (D×Hd)):Sp:=λvs H Q _=>vs.length=k/\∃(ρ:List Addr) (hd:Hd) (ds:List D) (d:D) (hd':Hd),RH K ρ H hd/\RDs K ρ H ds vs/\F ds hd=some (d,hd')/\
 ∀ρ' H' v,Ext ρ H ρ' H'->RH K ρ' H' hd'->RD K ρ' H' d v->Q v H'
noncomputable def mkF(k n:Nat)(m:MS):List D->Hd->Option (D×Hd):=λds hd=>if 82=k then(match m (ds.map some++List.replicate (n-k) none) hd with
 |some (.rt d,hd')=>some (d,hd')
 |some (.nx _,hd')=>some (.im .non,hd')
 | _=>none)else none
def Mc{N:List Str}:∀{ds:List D} {vs:List V},RDs K ρ H ds vs->RL K ρ H (ds.map some++List.replicate (N.length-82) none) (Cs N vs):=by
 intro ds vs r;have hl:=r.len;refine⟨by simp[Cs,hl],λi d e=>?_⟩;unfold Cs;by_cases hi:i<82
 .rw[List.getElem?_append_left (by simpa using hi),List.getElem?_map]at e;have e':ds[i]?=some d:=by
   cases q:ds[i]? with
   |none=>rw[q]at e;cases e
   |some z=>rw[q]at e;simpa using e
  obtain⟨x,x1,x2⟩:=r.get e';exact⟨x,by rw[List.getElem?_append_left (by rw[iX,hl];exact hi),List.getElem?_map,x1];rfl,x2⟩
 .rw[List.getElem?_append_right (by simpa using not_lt.mp hi),List.getElem?_replicate]at e;split at e<;>cases e
def Wt{k:Nat}{N:List Str}(h:RS K t m)(s:spF K k (mkF k N.length m) vs H Q E):t { nx:=λ_ H'=>Q .non H',rt:=Q } (Cs N vs) H:=by
 obtain⟨hk,ρ,hd,ds,d,hd',hR,hr,hF,hQ⟩:=s;unfold mkF at hF;split at hF
 .next hl=>
  subst hl;split at hF
  .next q=>
   cases hF;exact h ρ _ H hd _ _ _ _ hR (Mc hr) q λρ' H' x R v r=>hQ ρ' H' v x R r
  .next q=>
   cases hF;exact h ρ _ H hd _ _ _ _ hR (Mc hr) q λρ' H' x R σ L=>hQ ρ' H' .non x R (by simp[RD,RI])
  .cases hF
 .cases hF
noncomputable def Cb(F:List D->Hd->Option (D×Hd))(ma:MA):ME:=λls hd=>(ma ls hd).bind λp=>F p.1 p.2
def UX{k:Nat}{F:List D->Hd->Option (D×Hd)}(h:RA K t m)(hk:∀ds hd z,F ds hd=some z->82=k):RE K (DW (spF K k F) [] E0 t) (Cb F m):=by
 and_intros;obtain⟨⟨d1,h1⟩,e1,hm⟩:=gV hm;refine h ρ σ H hd ls _ d1 h1 hR hL e1 λρ1 H1 v1 x1 R1 r1=>?_;rw[je];exact⟨by rw[r1.len];exact hk _ _ _ hm,ρ1,h1,d1,d,hd',R1,r1,hm,λρ' H' w x2 R2 r2=>hQ ρ' H' w (x1.trans R1 x2) R2 r2⟩
def Yg{k n:Nat}:∀ds hd z,mkF k n m ds hd=some z->82=k:=λds hd z h=>by
 unfold mkF at h;split at h
 .next e=>exact e
 .cases h
def fin(w:Nat)(d:D)(h2 rest:Hd):Option (D×Hd):=if(h2.take w).all (clO w)=true then(match d with
 | .mu k=>if k<w then some (.mu k,h2.take w++rest)else(match h2[k]? with
  |some (.lst ds)=>if Ay w ds=true then some (.mu (w+rest.length),h2.take w++rest++[.lst ds])else none
  | _=>none)
 | d=>if clD w d=true then some (d,h2.take w++rest)else none)else none
noncomputable def A8(w:Nat)(F:List D->Hd->Option (D×Hd))(ma:MA):ME:=λls hd=>(ma ls hd).bind λp=>
 if w<=p.2.length/\Ay w p.1=true/\(p.2.take w).all (clO w)=true then(F p.1 (p.2.take w)).bind λr=>fin w r.1 r.2 (p.2.drop w)else none
def UV{w k:Nat}{F:List D->Hd->Option (D×Hd)}(h:RA K t m)(hk:∀ds hd z,F ds hd=some z->82=k):RE K (DW (spF K k F) [] E0 t) (A8 w F m):=by
 and_intros;obtain⟨⟨d1,h1⟩,e1,hm⟩:=gV hm;dsimp only at hm;split at hm
 .next c=>
  obtain⟨c0,c1,c2⟩:=c;obtain⟨⟨d2,h2⟩,e2,hm⟩:=gV hm;refine h ρ σ H hd ls _ d1 h1 hR hL e1 λρ1 H1 v1 x1 R1 r1=>?_;rw[je];refine⟨by rw[r1.len];exact hk _ _ _ e2,ρ1.take w,h1.take w,d1,d2,h2,R1.take w c2,r1.take' w c1,e2,λρ' H' v x2 R2 r2=>?_⟩;unfold fin at hm;dsimp only at hm;split at hm
  .next c3=>
   obtain⟨R3,x3,tk⟩:=R1.back c0 c2 x2 R2 c3;have up:∀{d:D} {v:V},RD K ρ' H' d v->clD w d=true->RD K ρ1 H' d v:=λr c=>by
    have q:=r.take w c;rw[tk]at q;have q:=q.mono (Grow.refl (H:=H')) (ρ1.drop w);rw[jf]at q;exact q
   have ups:∀{d:List D} {v:List V},RDs K ρ' H' d v->Ay w d=true->RDs K ρ1 H' d v:=λr c=>by
    have q:=r.take' w c;rw[tk]at q;have q:=q.mono (Grow.refl (H:=H')) (ρ1.drop w);rw[jf]at q;exact q
   split at hm
   .next k'=>
    split at hm
    .next hk'=>
     cases hm;exact hQ ρ1 H' v (x1.trans R1 x3) R3 (up r2 (by simpa [clD]using hk'))
    .next hk'=>
     split at hm
     .next ds q=>
      split at hm
      .next c4=>
       cases hm;simp only[RD]at r2;obtain⟨a,ea,rfl⟩:=r2;obtain⟨xs,l1,l2⟩:=R2.lst ea q;have len3:=R3.len;have out:a∉ρ1:=λm=>by
        -- a is one of those made behind the first w
        obtain⟨r,er,fr⟩:=x2.pre;have lw:(ρ1.take w).length=w:=by rw[jB,R1.len];omega
        have ma:a∈r:=by
         rw[er,List.getElem?_append_right (by rw[lw];omega)]at ea;exact j5 ea
        exact R1.out (fr a ma) m
       have na:H1 a=none:=by
        obtain⟨r,er,fr⟩:=x2.pre;have lw:(ρ1.take w).length=w:=by rw[jB,R1.len];omega
        have ma:a∈r:=by
         rw[er,List.getElem?_append_right (by rw[lw];omega)]at ea;exact j5 ea
        exact fr a ma
       refine hQ (ρ1++[a]) H' _ (x1.trans R1 (x3.name na)) (R3.name out l1 (ups l2 c4)) ?_;simp only[RD];refine⟨a,?_,rfl⟩;have:w+(List.drop w h1).length=ρ1.length:=by rw[kd,R1.len];omega
       rw[this];simp
      .cases hm
     .cases hm
   .next d' nd=>
    split at hm
    .next c4=>cases hm;exact hQ ρ1 H' v (x1.trans R1 x3) R3 (up r2 c4)
    .cases hm
  .cases hm
 .cases hm
noncomputable def BA(c:MT)(b:MS):Nat->Ls->Hd->Option (Fl×Hd)
 |0,_,_=>none
 | k+1,ls,hd=>(c ls hd).bind λp=>if p.1=true then(b ls p.2).bind λq=>(match q.1 with
  |.nx ls2=>BA c b k ls2 q.2
  |.ct ls2=>BA c b k ls2 q.2
  |.bk ls2=>some (.nx ls2,q.2)
  | .rt d=>some (.rt d,q.2))else some (.nx ls,p.2)
open Classical in
noncomputable def Co(c:MT)(b:MS):MS:=λls hd=>if h:∃r k,BA c b k ls hd=some r then some h.choose else none
theorem EB:∀{k j:Nat} {ls:Ls} {hd:Hd} {r:Fl×Hd},BA c b k ls hd=some r->k<=j->BA c b j ls hd=some r
 |0,_,_,_,_,h,_=>by cases h
 |k+1,0,_,_,_,_,hj=>by omega
 |k+1,j+1,ls,hd,r,h,hj=>by
  unfold BA at h ⊢;obtain⟨p,e1,h⟩:=gV h;rw[e1];show(if p.1=true then _ else _)=_;split at h
  .next c=>
   rw[ic c];obtain⟨q,e2,h⟩:=gV h;rw[e2];obtain⟨f,hd2⟩:=q;cases f with
   |nx ls2=>exact EB h 66
   |ct ls2=>exact EB h 66
   |bk ls2=>exact h
   |rt d=>exact h
  .next c=>rw[ig c];exact h
def Kz{k:Nat}(h:BA c b k ls hd=some r):Co c b ls hd=some r:=by
 unfold Co;have ex:∃r k,BA c b k ls hd=some r:=⟨r,k,h⟩
 rw[dif_pos ex];obtain⟨j,e⟩:=ex.choose_spec;have e1:=EB e (Nat.le_max_left j k);have e2:=EB h (Nat.le_max_right j k);rw[e1]at e2;exact e2
def UH(hc:RT K tc c)(hb:RS K tb b):RS K (M1 tc tb) (Co c b):=by
 intro ρ σ H hd ls E f hd' hR hL hm hQ;obtain⟨k,hk⟩:∃k,BA c b k ls hd=some (f,hd'):=by
  unfold Co at hm;split at hm
  .next ex=>
   obtain⟨j,e⟩:=ex.choose_spec;exact⟨j,by rw[e];exact hm⟩
  .cases hm
 refine⟨λm σ2 H2=>∃ρ2 ls2 hd2,Ext ρ H ρ2 H2/\RH K ρ2 H2 hd2/\RL K ρ2 H2 ls2 σ2/\BA c b m ls2 hd2=some (f,hd'),⟨k,ρ,ls,hd,.refl,hR,hL,hk⟩,?_⟩;rintro m σ2 H2 ⟨ρ2,ls2,hd2,x2,R2,L2',hm2⟩;cases m with
 |zero=>cases hm2
 |succ m=>
  unfold BA at hm2;obtain⟨⟨bb,hd3⟩,e1,hm2⟩:=gV hm2;refine hc ρ2 σ2 H2 hd2 ls2 _ bb hd3 R2 L2' e1 λρ3 H3 x3 R3=>?_;cases bb with
  |false=>
   rw[ig Bool.false_ne_true]at hm2 ⊢;cases hm2;exact hQ ρ3 H3 (x2.trans R2 x3) R3 σ2 (L2'.ext R2 x3)
  |true=>
   rw[ic rfl]at hm2 ⊢;obtain⟨⟨fl,hd4⟩,e2,hm2⟩:=gV hm2;refine⟨λσ' H'=>∃ρ2 ls2 hd2,Ext ρ H ρ2 H'/\RH K ρ2 H' hd2/\RL K ρ2 H' ls2 σ'/\BA c b m ls2 hd2=some (f,hd'),λσ' H' z=>⟨m,Nat.lt_succ_self m,z⟩,?_⟩;refine hb ρ3 σ2 H3 hd3 ls2 _ fl hd4 R3 (L2'.ext R2 x3) e2 λρ5 H5 x5 R5=>?_;have x15:=(x2.trans R2 x3).trans R3 x5;cases fl with
   |nx ls5=>intro σ5 L5;exact⟨ρ5,ls5,hd4,x15,R5,L5,hm2⟩
   |ct ls5=>intro σ5 L5;exact⟨ρ5,ls5,hd4,x15,R5,L5,hm2⟩
   |bk ls5=>intro σ5 L5;cases hm2;exact hQ ρ5 H5 x15 R5 σ5 L5
   |rt d5=>intro v5 r5;cases hm2;exact hQ ρ5 H5 x15 R5 v5 r5
noncomputable def iF(kvs:List (Key×D))(k:Key):Option D:=(kvs.find? λkv=>decide (kv.1=k)).map (·.2)
noncomputable def bF(kvs:List (Key×D))(k:Key)(v:D):List (Key×D):=
 if(kvs.any λkv=>decide (kv.1=k))=true then kvs.map (λkv=>if kv.1=k then(kv.1,v)else kv)else kvs++[(k,v)]
noncomputable def QD:D->Option Key
 |.im (.int i)=>some (.inl i)
 |.im (.str x)=>some (.inr x)
 |_=>none
noncomputable def ZB(hd:Hd):D->Option (List (Key×D))
 |.mu n=>match hd[n]? with
  |some (.dic kvs)=>some kvs
  |_=>none
 |_=>none
open Classical in
def f9(md my mv:ME):MS:=λls hd=>(mv ls hd).bind λp=>(md ls p.2).bind λq=>(my ls q.2).bind λr=>(QD r.1).bind λk=>match q.1 with
 |.mu n=>match r.2[n]? with
  |some (.dic kvs)=>if EH kvs.length then some (.nx ls,r.2.set n (.dic (bF kvs k p.1)))else none
  |_=>none
 |_=>none
noncomputable def Es(mo mi mv:ME):MS:=λls hd=>(mv ls hd).bind λp=>(mo ls p.2).bind λq=>(mi ls q.2).bind λr=>match q.1,r.1 with
 |.mu n,.im (.int i)=>match r.2[n]? with
  |some (.lst ds)=>(ixN 82 i).map λj=>(.nx ls,r.2.set n (.lst (ds.set j p.1)))
  |_=>none
 |_,_=>none
def X9(ho:RE K to mo)(hi:RE K ti mi)(hv:RE K tv mv):RS K (DX tv (VT to ti Ji)) (Es mo mi mv):=by
 intro ρ σ H hd0 ls E f hd' hR hL hm hQ;obtain⟨⟨d1,h1⟩,e1,hm⟩:=gV hm;obtain⟨⟨d2,h2⟩,e2,hm⟩:=gV hm;obtain⟨⟨d3,h3⟩,e3,hm⟩:=gV hm;dsimp only at hm;split at hm
 .split at hm
  .next q=>
   obtain⟨j,e4,e5⟩:=iS hm;cases e5;refine hv ρ σ H hd0 ls _ d1 h1 hR hL e1 λρ1 H1 v1 x1 R1 r1=>?_;refine ho ρ1 σ H1 h1 ls _ _ h2 R1 (hL.ext hR x1) e2 λρ2 H2 v2 x2 R2 r2=>?_;refine hi ρ2 σ H2 h2 ls _ _ _ R2 (hL.ext hR (x1.trans R1 x2)) e3 λρ3 H3 v3 x3 R3 r3=>?_;have r2:=r2.ext R2 x3;simp only[RD]at r2;obtain⟨a,hn,rfl⟩:=r2;simp only[RD,RI]at r3;subst r3;obtain⟨xs,l1,l2⟩:=R3.lst hn q;obtain⟨R4,x4⟩:=R3.put hn (o:=.lst _) (ho:=.lst (xs.set j v1)) ⟨_,rfl,l2.set j ((r1.ext R1 x2).ext R2 x3)⟩;have x13:=(x1.trans R1 x2).trans R2 x3;exact⟨a,xs,_,j,rfl,rfl,l1,by rw[l2.len];exact e4,hQ ρ3 _ (x13.trans R3 x4) R4 σ ((hL.ext hR x13).ext R3 x4)⟩
  .cases hm
 .cases hm
noncomputable def Ga(i:Nat)(g:Int->Int->Int)(m:ME):MS:=λls hd=>match ls[i]? with
 |some (some (.im (.int x)))=>(m ls hd).bind λp=>match p.1 with
  |.im (.int y)=>some (.nx (ls.set i (some (.im (.int (g x y))))),p.2)
  |_=>none
 |_=>none
def Zj{i:Nat}{g:Int->Int->Int}(h:RE K t m):RS K (HE i t (ipI g)) (Ga i g m):=by
 intro ρ σ H hd0 ls E f hd' hR hL hm hQ;unfold Ga at hm;split at hm
 .next x e0=>
  obtain⟨⟨d1,h1⟩,e1,hm⟩:=gV hm;dsimp only at hm;split at hm
  .cases hm;obtain⟨v,v1,v2⟩:=hL.ob i _ e0;simp only[RD,RI]at v2;subst v2;refine⟨_,v1,h ρ σ H hd0 ls _ _ _ hR hL e1 λρ1 H1 w x1 R1 r1=>?_⟩;simp only[RD,RI]at r1;subst r1;exact⟨_,_,rfl,rfl,hQ ρ1 H1 x1 R1 _ ((hL.ext hR x1).set i (by simp[RD,RI]))⟩
  .cases hm
 .cases hm
end
end L2
namespace L2
open PySem PySem.Spec PyProof.Rows
structure QG(K:Frag)(X:Cx)(e:Expr)(t:TG)(m:MG):Prop where
 p:PG X e t
 r:RGt K t m
structure QGs(K:Frag)(X:Cx)(e:List Expr)(t:TGs)(m:MGs):Prop where
 p:PGs X e t
 r:Nf K t m
structure QI(K:Frag)(X:Cx)(tg e:Expr)(t:TI)(m:MI):Prop where
 p:PI X tg e t
 r:RIt K t m
structure QF(K:Frag)(X:Cx)(e:List Expr)(t:TT)(m:MT):Prop where
 p:PF X e t
 r:RT K t m
structure QO(K:Frag)(X:Cx)(e:Option Expr)(t:TO)(m:MO1):Prop where
 p:PO X e t
 r:RO1 K t m
def Wb(a b:List D):Prop:=a≠[]/\C6 (a.length+b.length)
open Classical in
noncomputable def Cw:D->D->Hd->Option (D×Hd):=λd e hd=>(AN d).bind λa=>(AN e).bind λb=>if Wb a b then some (AT (a++b),hd)else none
def OM{K:Frag}:RB K (Pt K) Cw:=by
 intro ρ H hd d e v u Q z hd' hR h1 h2 hf hQ;unfold Cw at hf;obtain⟨a,e1,hf⟩:=gV hf;obtain⟨b,e2,hf⟩:=gV hf;split at hf
 .next c=>
  cases hf;obtain⟨p,xs,rfl,q1,r1⟩:=h1.tup e1;obtain⟨p2,ys,rfl,q2,r2⟩:=h2.tup e2;have l1:=r1.len;have l2:=r2.len;refine⟨p,p2,xs,ys,rfl,rfl,q1,q2,λz=>c.1 (by rw[z]at l1;simpa using l1.symm),by rw[l1,l2];exact c.2,λz=>?_,λ_ p3 hp=>?_⟩
  .have:b=[]:=by rw[z]at l2;simpa using l2.symm
   subst this;exact hQ ρ H _ .refl hR (by rw[je];exact By q1 r1)
  .obtain⟨R2,x2⟩:=hR.hid (ho:=.tup (xs++ys)) hp;exact hQ ρ _ _ x2 R2 (By (SqT.of Af) ((r1.app r2).ext hR x2))
 .cases hf
noncomputable abbrev Aa:=CS Gf Cw
noncomputable def Fh(neg:Bool)(m:ME):ME:=λls hd=>(m ls hd).bind λp=>some (.im (.bl (match p.1 with
 |.im .non=>!neg
 | _=>neg)),p.2)
def cB{K:Frag}(h:RD K ρ H d v):decide (v=.non)=(match d with|.im .non=>true|_=>false):=by
 cases d with
 |im i=>
  cases i with
  |non=>simp only[RD,RI]at h;subst h;rfl
  |tup is=>simp only[RD,RI]at h;obtain⟨a,xs,rfl,_⟩:=h;rfl
  |_=>simp only[RD,RI]at h;subst h;rfl
 |mu n=>simp only[RD]at h;obtain⟨a,_,rfl⟩:=h;rfl
 |tm ds=>simp only[RD]at h;obtain⟨a,xs,rfl,_⟩:=h;rfl
 |ro ns=>simp only[RD]at h;obtain⟨a,rfl,_⟩:=h;rfl
 |op nm fs ds=>simp only[RD]at h;obtain⟨a,xs,rfl,_⟩:=h;rfl
 |fv k ds=>simp only[RD]at h;obtain⟨a,xs,rfl,_⟩:=h;rfl
def aC{K:Frag}(h:RE K t m):RE K (U2 t) (Fh false m):=by
 and_intros;obtain⟨⟨d1,h1⟩,e1,hm⟩:=gV hm;cases hm;refine h ρ σ H hd ls _ d1 _ hR hL e1 λρ1 H1 v x1 R1 r1=>?_;rw[cB r1];refine hQ ρ1 H1 _ x1 R1 ?_;simp only[RD,RI];cases d1 with
 |im i=>cases i<;>rfl
 |_=>rfl
def XU{K:Frag}(h:RE K t m):RE K (PV t) (Fh true m):=by
 and_intros;obtain⟨⟨d1,h1⟩,e1,hm⟩:=gV hm;cases hm;refine h ρ σ H hd ls _ d1 _ hR hL e1 λρ1 H1 v x1 R1 r1=>?_;rw[cB r1];refine hQ ρ1 H1 _ x1 R1 ?_;simp only[RD,RI];cases d1 with
 |im i=>cases i<;>rfl
 |_=>rfl
noncomputable def J7(m:ME):ME:=λls hd=>(m ls hd).bind λp=>match p.1 with
 |.im (.int i)=>some (.im (.int (-i)),p.2)
 |_=>none
def a7{K:Frag}(h:RE K t m):RE K (tUn (rU λi=>.int (-i)) t) (J7 m):=by
 and_intros;obtain⟨⟨d1,h1⟩,e1,hm⟩:=gV hm;dsimp only at hm;split at hm
 .cases hm;exact h ρ σ H hd ls _ _ _ hR hL e1 λρ1 H1 v x1 R1 r1=>⟨_,by simpa only[RD,RI]using r1,hQ ρ1 H1 _ x1 R1 (by simp[RD,RI])⟩
 .cases hm
noncomputable def B2:MT:=λ_ hd=>some (true,hd)
def Za{K:Frag}:RT K Tr B2:=by
 and_intros;cases hm;exact hQ ρ H .refl hR
section
variable(K:Frag){X:Cx}{tc:TE}{mc:ME}
def qv(i:Nat){pos:Pos}(hN:X.N[i]?=some x:=by rfl)(hv:Vis X.env.scope x:=by first|exact Or.inl rfl|exact Or.inr (Or.inl rfl)|exact Or.inr (Or.inr rfl))(hd:(x==("__debug__":Str))=false:=by decide)
 (hcd:(x==("__classdict__":Str))=false:=by decide):QE K X (.Name x pos) (Ts i) (A0 i):=⟨bU hN hv hd hcd,Zx⟩
def b7{i:Int}{j pos}:QE K X (.Constant (.int i) j pos) (tC (.int i)) (mC (.int i)):=⟨bf,Pp λ_=>by simp[RI]⟩
def eK{i:Bool}{j pos}:QE K X (.Constant (.bool i) j pos) (tC (.bl i)) (mC (.bl i)):=⟨eU,Pp λ_=>by simp[RI]⟩
def ar{j pos}:QE K X (.Constant .none j pos) (tC .non) (mC .non):=⟨bZ,Pp λ_=>by simp[RI]⟩
def am{j pos}:QE K X (.Constant (.str x) j pos) (tC (.str x)) (mC (.str x)):=⟨bW,Pp λ_=>by simp[RI]⟩
def FZ{f:D->D->Hd->Option (D×Hd)}(ho:OpR X (binaryOp op) r)(hr:RB K r f)(ha:QE K X a ta ma)(hb:QE K X b tb mb):QE K X (.BinOp a op b pos) (tOp r ta tb) (mOp f ma mb):=⟨WB ho ha.p hb.p,Li hr ha.r hb.r⟩
def av(ha:QE K X a ta ma):QE K X (.UnaryOp .USub a pos) (tUn (rU λi=>.int (-i)) ta) (J7 ma):=⟨eO ZP ha.p,a7 ha.r⟩
def Fz{f:D->D->Hd->Option (D×Hd)}(ho:OpR X (compareOp op) r)(hr:RB K r f)(ha:QE K X a ta ma)(hb:QE K X b tb mb)(hm:behindInMarks op b=false:=by first|exact G7 _|rfl):QE K X (.Compare a [op] [b] pos) (tOp r ta tb) (mOp f ma mb):=⟨OZ ho ha.p hb.p hm,Li hr ha.r hb.r⟩
def FJ{f:D->D->Hd->Option (D×Hd)}(ho:OpR X (compareOp op) r)(hr:RB K r f)(ha:QE K X a ta ma)(hb:QE K X b tb mb)(hm:behindInMarks op b=false:=by first|exact G7 _|rfl):QT K X (.Compare a [op] [b] pos) (Hv (tOp r ta tb)) (AG (mOp f ma mb)):=⟨Hz ho ha.p hb.p hm,Dv (Li hr ha.r hb.r)⟩
def aQ{j pos'}(ha:QE K X a ta ma):QT K X (.Compare a [.Is] [.Constant .none j pos'] pos) (tB (U2 ta)) (AG (Fh false ma)):=⟨SJ (bo ha.p),Zd (aC ha.r)⟩
def Xe{j pos'}(ha:QE K X a ta ma):QT K X (.Compare a [.IsNot] [.Constant .none j pos'] pos) (tB (PV ta)) (AG (Fh true ma)):=⟨SJ (YW ha.p),Zd (XU ha.r)⟩
def Ud(ha:QE K X a ta ma)(he:∀whole,isTrue a X.env whole=(do let v <- whole;standAt a.pos;holding [v] (truthy v)):=by intro _;rfl)(hK:X.K=K:=by rfl):
 QT K X a (λσ H Q=>ta σ H λx H'=>∃k,Nb K x H' k/\Q k H') (BH ma):=by
 subst hK;exact⟨Ut ha.p he,UG ha.r⟩
def aP(ha:QT K X a tA nA):QT K X (.UnaryOp .Not a pos) (Tz tA) (CQ nA):=⟨bG ha.p,Zb ha.r⟩
def Xd(ha:QT K X a tA nA):QW K X (.BoolOp .And [a] pos) tA nA:=⟨Y9 ha.p,ha.r⟩
def aN(ha:QT K X a tA nA):QW K X (.BoolOp .Or [a] pos) tA nA:=⟨bA ha.p,ha.r⟩
def aO{rest:List Expr}(ha:QT K X a tA nA)(hb:QW K X (.BoolOp .And (b::rest) pos) tB' nB):QW K X (.BoolOp .And (a::b::rest) pos) (U7 tA tB') (DO nA nB):=⟨bC ha.p hb.p,Zc ha.r hb.r⟩
def eE{rest:List Expr}(ha:QT K X a tA nA)(hb:QW K X (.BoolOp .Or (b::rest) pos) tB' nB):QW K X (.BoolOp .Or (a::b::rest) pos) (tOr tA tB') (mOr nA nB):=⟨eM ha.p hb.p,dm ha.r hb.r⟩
def QW.toT{K:Frag}(h:QW K X e t m):QT K X e t m:=⟨h.p.pt,h.r⟩
def ap{op}(ha:QE K X a ta ma):QE K X (.BoolOp op [a] pos) ta ma:=⟨bX ha.p,ha.r⟩
def b8{rest:List Expr}(ha:QE K X a ta ma)(hb:QE K X (.BoolOp .And (b::rest) pos) tb mb):QE K X (.BoolOp .And (a::b::rest) pos) (PZ ta tb) (De ma mb):=⟨bn ha.p hb.p,XY ha.r hb.r⟩
def aq(ha:QE K X a ta ma):QE K X (.UnaryOp .Not a pos) (PU ta) (IC ma):=⟨bY ha.p,XT ha.r⟩
def Uo(hc:QT K X c tA nA)(ha:QE K X a ta ma)(hb:QE K X b tb mb):QE K X (.IfExp c a b pos) (tIf tA ta tb) (mIf nA ma mb):=⟨V7 hc.p ha.p hb.p,dy hc.r ha.r hb.r⟩
def b9:QA K X [] Bn A4:=⟨Ca,SF⟩
def Y8(ha:QE K X e te me)(hr:QA K X es t m)(hs:starEach (e::es) X.env=(false,eval e X.env)::starEach es X.env:=by rfl):QA K X (e::es) (BD te t) (A2 me m):=⟨Bu ha.p hr.p hs,Xc ha.r hr.r⟩
def ak{x1}(h:QA K X es t m):QE K X (.Tuple es x1 pos) (Tt t) (Aw m):=⟨bV h.p,Zy h.r⟩
def aY(h:QA K X es t m):QN K X (.List es pos) (U0 t) (Ba m):=⟨ba h.p,Zm h.r⟩
def au(h:QN K X e te m):QE K X e te (Ag m):=⟨h.p,S5 h.r⟩
def eH(ha:QE K X a ta ma)(hb:QE K X b tb mb)(hs:Ko b:=by exact λ_ _=>rfl)(hK:X.K=K:=by rfl):QE K X (.Subscript a b pos) (tOp (Lj K) ta tb) (mOp gIx ma mb):=⟨WC ((N7 K hK).or (Oj K hK)) ha.p hb.p hs,Li eC ha.r hb.r⟩
def Xv:QO K X none KA B6:=⟨YK,XG⟩
def Xu(h:QE K X e te me):QO K X (some e) (PQ te) (Bf me):=⟨YJ h.p,XF h.r⟩
def aX{lo:Option Expr}(h:QE K X e te me)(hl:QO K X lo tl ml)(hh:QO K X hi th mh)(hK:X.K=K:=by rfl):QN K X (.Subscript e (.Slice lo hi none p2) pos) (tSl (Pr K) te tl th) (Fg me ml mh):=⟨Mt (UB K hK) h.p hl.p hh.p,Zl h.r hl.r hh.r⟩
def GQ{id:String}{p:Pos}{r:List V->Hp->VK->Prop}{f:List D->Hd->Option (D×Hd)}(hc:CallR X (.builtin id) r)(hr:RF K r f)(hm:X.mg x=none)(hv:bootBuiltins x=some (.builtin id))(ha:QA K X (e::es) t m)(hg:Gl X x:=by rfl)(hn:x≠"__name__":=by decide)(hdb:(x==("__debug__":Str))=false:=by decide)
 (he:starEach (e::es) X.env=(false,eval e X.env)::starEach es X.env:=by rfl) (hpl:(backTo pos (starEach es X.env)).any (·.1)=false:=by rfl):QE K X (.Call (.Name x p) (e::es) [] pos) (tCB r t) (mCB f m):=⟨E2 hc hg hm hv ha.p hn hdb he hpl,Vy hr ha.r⟩
def eJ{id:String}{p:Pos}{r:List V->Hp->VK->Prop}{f:List D->Hd->Option (D×Hd)}(hc:CallR X (.type id) r)(hr:RF K r f)(hm:X.mg x=none)(hv:bootBuiltins x=some (.type id))(ha:QA K X (e::es) t m)(hg:Gl X x:=by rfl)(hn:x≠"__name__":=by decide)(hdb:(x==("__debug__":Str))=false:=by decide)
 (he:starEach (e::es) X.env=(false,eval e X.env)::starEach es X.env:=by rfl) (hpl:(backTo pos (starEach es X.env)).any (·.1)=false:=by rfl):QE K X (.Call (.Name x p) (e::es) [] pos) (tCB r t) (mCB f m):=⟨EQ hc hg hm hv ha.p hn hdb he hpl,Vy hr ha.r⟩
def Ll{id:String}{p:Pos}{r:List V->Hp->VK->Prop}{tp:Bool}{g:List D->Option D}(hc:CallR X (.builtin id) r)(hr:RG K tp r g)(hm:X.mg x=none)(hv:bootBuiltins x=some (.builtin id))(ha:QN K X e te m)(hg:Gl X x:=by rfl)(hn:x≠"__name__":=by decide)(hdb:(x==("__debug__":Str))=false:=by decide)
 (he:starEach [e] X.env=[(false,eval e X.env)]:=by rfl):QE K X (.Call (.Name x p) [e] [] pos) (tCB r (BD te Bn)) (BM g m):=⟨E2 hc hg hm hv (Bu ha.p Ca he) hn hdb he rfl,S7 hr ha.r⟩
def eI{id:String}{p:Pos}{r:List V->Hp->VK->Prop}{tp:Bool}{g:List D->Option D}(hc:CallR X (.type id) r)(hr:RG K tp r g)(hm:X.mg x=none)(hv:bootBuiltins x=some (.type id))(ha:QN K X e te m)(hg:Gl X x:=by rfl)(hn:x≠"__name__":=by decide)(hdb:(x==("__debug__":Str))=false:=by decide)
 (he:starEach [e] X.env=[(false,eval e X.env)]:=by rfl):QE K X (.Call (.Name x p) [e] [] pos) (tCB r (BD te Bn)) (BM g m):=⟨EQ hc hg hm hv (Bu ha.p Ca he) hn hdb he rfl,S7 hr ha.r⟩
def Uj(hm:X.mg "list"=none)(ha:QN K X e te m)(hg:Gl X "list":=by rfl)(he:starEach [e] X.env=[(false,eval e X.env)]:=by rfl)(hK:X.K=K:=by rfl):QN K X (.Call (.Name "list" p) [e] [] pos) (tCB (KJ K) (BD te Bn)) (Hc m):=⟨EQ (Qk K hK) hg hm P6 (Bu ha.p Ca he) 80 80 he rfl,UO ha.r⟩
def Px{id:String}{r:V->List V->Hp->VK->Prop}{f:D->List D->Hd->Option (D×Hd)}{apos cpos:Pos}(slot:Slot "list" name id)(hty:typeOf (.builtin id)=pure (.type "method_descriptor"))(hm:MtM X id r)(hr:RM K r f)(ho:QE K X o to mo)(ha:QA K X (e::es) t m)
 (hbase:attributeBase o name X.env (eval o X.env)=eval o X.env:=by rfl)
 (hfew:((backTo cpos (starEach (e::es) X.env)).all (λx=>!x.1)&&(backToKw cpos (keywordEach [] X.env)).all (λx=>x.1.isSome)
  && decide ((e::es).length+([]:List Keyword).length+(if([]:List Keyword).isEmpty then 0 else 1)<30))=true:=by rfl)
 (hline:(apos.endLine==cpos.line)=true:=by rfl) (hs:starEach (e::es) X.env=(false,eval e X.env)::starEach es X.env:=by rfl) (hplain:(backTo cpos (starEach es X.env)).any (·.1)=false:=by rfl) (hK:X.K=K:=by rfl):
 QE K X (.Call (.Attribute o name apos) (e::es) [] cpos) (tBM K "list" r to t) (mMt f mo m):=by
 subst hK;exact⟨eQ PySem.F.plainAttrs_list slot hty hm ho.p ha.p hbase hfew hline hs hplain,Vx hr ho.r ha.r⟩
def ay{id:String}{r:V->List V->Hp->VK->Prop}{f:D->List D->Hd->Option (D×Hd)}{apos cpos:Pos}(slot:Slot "list" name id)(hty:typeOf (.builtin id)=pure (.type "method_descriptor"))(hm:MtM X id r)(hr:RM K r f)(ho:QE K X o to mo)
 (hbase:attributeBase o name X.env (eval o X.env)=eval o X.env:=by rfl) (hline:(apos.endLine==cpos.line)=true:=by rfl) (hK:X.K=K:=by rfl):
 QE K X (.Call (.Attribute o name apos) [] [] cpos) (U6 K "list" r to) (mMt f mo A4):=by
 subst hK;exact⟨bh PySem.F.plainAttrs_list slot hty hm ho.p hbase hline,a9 hr ho.r⟩
def Up(w:Nat){j k:Nat}{n:Nat}{F:List D->Hd->Option (D×Hd)}{st:Stmt}{p:Pos}(G:FnOk X.prog X.w X.K X.mg X.base CX0 j f fd ps (spF K n F))(hr:Room k X.A)(DA:DefAt X.K X.mg x st f fd ps)(ha:QA K X (e::es) t m)(hF:∀ds hd z,F ds hd=some z->82=n)
 (hjk:j<=k:=by decide) (hg:Gl X x:=by rfl) (hdb:(x==("__debug__":Str))=false:=by decide) (he:starEach (e::es) X.env=(false,eval e X.env)::starEach es X.env:=by rfl) (hpl:(backTo pos (starEach es X.env)).any (·.1)=false:=by rfl):
 QE K X (.Call (.Name x p) (e::es) [] pos) (DW (spF K n F) [] E0 t) (A8 w F m):=⟨Q0 G hr DA ha.p hjk hg hdb he hpl,UV ha.r hF⟩
def Ur{j k:Nat}{n:Nat}{F:List D->Hd->Option (D×Hd)}{st:Stmt}{p:Pos}(G:FnOk X.prog X.w X.K X.mg X.base CX0 j f fd ps (spF K n F))(hr:Room k X.A)(DA:DefAt X.K X.mg x st f fd ps)(ha:QA K X (e::es) t m)(hF:∀ds hd z,F ds hd=some z->82=n)
 (hjk:j<=k:=by decide) (hg:Gl X x:=by rfl) (hdb:(x==("__debug__":Str))=false:=by decide) (he:starEach (e::es) X.env=(false,eval e X.env)::starEach es X.env:=by rfl) (hpl:(backTo pos (starEach es X.env)).any (·.1)=false:=by rfl):
 QE K X (.Call (.Name x p) (e::es) [] pos) (DW (spF K n F) [] E0 t) (Cb F m):=⟨Q0 G hr DA ha.p hjk hg hdb he hpl,UX ha.r hF⟩
def Y5{i:Nat}(hN:X.N.Nodup)(hi:X.N[i]?=some x)(hx:Loc X.env.scope x)(hf:X.fn x=true∨X.env.scope.names.lookup x=some .local:=by first|exact .inl rfl|exact .inr rfl|assumption):QG K X (.Name x pos) (Cv i) (AB i):=⟨YS hN hi hx hf,Hw⟩
def Y4:QGs K X [] VV BG:=⟨YQ,XR⟩
def Ul(h1:QG K X e tg n)(h2:QGs K X es tgs ns)(hs:(assignEach (e::es) X.env).map (·.2)=assign e X.env::(assignEach es X.env).map (·.2):=by rfl):QGs K X (e::es) (QY tg tgs) (AJ n ns):=⟨V5 h1.p h2.p hs,UR h1.r h2.r⟩
def af{k n:Nat}(hc:X.calm=true)(h:QGs K X es tgs ns)(hK:X.K=K:=by rfl)(hn:(assignEach es X.env).length=n:=by rfl)(hst:(assignEach es X.env).findIdx? (·.1)=none:=by rfl):QG K X (.Tuple es k pos) (QX K n tgs) (BB n ns):=⟨YR K hc h.p hK hn hst,Zu h.r⟩
def ac(h:QE K X e te me)(hK:X.K=K:=by rfl):QI K X tg e (NA K te) (Az me):=⟨OY K h.p hK,Ry h.r⟩
def Xz(h:QE K X e te me)(hK:X.K=K:=by rfl):QI K X tg e (Js K te) (BR me):=⟨Ms K h.p hK,OL h.r⟩
def Xy(hm:X.mg "range"=none)(ha:QA K X [a] t m)(hg:Gl X "range":=by rfl)(hs:starEach [a] X.env=[(false,eval a X.env)]:=by rfl):QI K X tg (.Call (.Name "range" p) [a] [] pos) (QQ t) (CL m):=⟨SN hg hm ha.p hs,XN ha.r⟩
def Xx(hm:X.mg "range"=none)(ha:QA K X [a,b] t m)(hg:Gl X "range":=by rfl)(hs:starEach [a,b] X.env=[(false,eval a X.env),(false,eval b X.env)]:=by rfl)(hs2:starEach [b] X.env=[(false,eval b X.env)]:=by rfl):QI K X tg (.Call (.Name "range" p) [a,b] [] pos) (QP t) (IE m):=⟨SM hg hm ha.p hs hs2,XM ha.r⟩
def ah:QF K X [] Tr B2:=⟨bR,Za⟩
def ag(h:QT K X c tA nA):QF K X [c] tA nA:=⟨bQ h.p,h.r⟩
def Xw{iter:Expr}(hc:X.calm=true)(S:CSc X scope fr ix)(hi:QI K X tg iter wi mi)
 (hg:∀s H ex,QG K 76 tg g n) (hf:∀s H ex,QF K 76 ifs tf mf) (he:∀s H ex,QE K 76 elt te mm)
 (hs:∀x,foldedSetIterable iter X.env x=pure x:=by intro _;rfl):QN K X (.ListComp elt [⟨tg,iter,ifs,0⟩] scope pos) (GM loc.length ix wi g tf te) (Ai loc.length ix mi n mf mm):=
 ⟨YU hc S hi.p (λs H ex=>(hg s H ex).p) (λs H ex=>(hf s H ex).p) (λs H ex=>(he s H ex).p) hs,OK hi.r (hg X.s₀ X.H₀ []).r (hf X.s₀ X.H₀ []).r (he X.s₀ X.H₀ []).r⟩
def Xj:QSs K X [] JT Ah:=⟨YB,OF⟩
def Ue{st:Stmt}{rest:List Stmt}{m1:MS}(h1:QS K X st u m1)(h2:QSs K X rest v m2):QSs K X (st::rest) (Tu u v) (A9 m1 m2):=⟨Uu h1.p h2.p,Ze h1.r h2.r⟩
def Xi{st:Stmt}{m1:MS}(h1:QS K X st u m1):QSs K X [st] u m1:=⟨YA h1.p,h1.r⟩
def Xl:QS K X (.Pass pos) JT Ah:=⟨YD,OF⟩
def Xo(he:QE K X e te me)(hs:swapsWith e none pos.line X.env=pure false:=by rfl):QS K X (.Expr e pos) (PX te) (BF me):=⟨YF he.p hs,XB he.r⟩
def aS(he:QE K X e te me):QS K X (.Return (some e) pos) (Tw te) (AR me):=⟨bI he.p,Zf he.r⟩
def eF{m1:MS}(hc:QT K X c tA nA)(ha:QSs K X a u m1)(hb:QSs K X b v m2):QS K X (.If c a b pos) (U3 tA u v) (Ax nA m1 m2):=⟨eN hc.p ha.p hb.p,du hc.r ha.r hb.r⟩
def Uh{st:Stmt}:QS K X st M2 Dc:=⟨Ux,UJ⟩
def aW(he:QE K X e te me)(hg:QG K X tg g n)(hs:swapsWithSole [tg] e pos.line X.env=pure false:=by rfl)(hw:swappedStores [tg] e X.env=pure none:=by rfl)
 (h1:(assignEach [tg] X.env).map (·.2)=[assign tg X.env]:=by rfl):QS K X (.Assign [tg] e pos) (DX te g) (Ec me n):=⟨SK he.p hg.p hs hw h1,Je he.r hg.r⟩
def aR{i:Nat}(hN:X.N.Nodup)(hi:X.N[i]?=some x)(hx:Loc X.env.scope x)(he:QE K X e te me)(hs:swapsWith e (some (.Name x pos')) pos.line X.env=pure false:=by rfl)(hf:X.fn x=true∨X.env.scope.names.lookup x=some .local:=by first|exact .inl rfl|exact .inr rfl|assumption):
 QS K X (.Assign [.Name x pos'] e pos) (DX te (Cv i)) (AF i me):=⟨bH hN hi hx he.p hs hf,Je he.r Hw⟩
def Xk{i:Nat}{iter:Expr}{spos:Pos}(hN:X.N.Nodup)(hiN:X.N[i]?=some y)(hy:X.env.scope.names.lookup y=some .local)
 (hc:X.calm=true) (S:CSc X scope fr ix) (hi:QI K X tg iter wi mi)
 (hg:∀s H ex,QG K 76 tg g n) (hf:∀s H ex,QF K 76 ifs tf mf) (he:∀s H ex,QE K 76 elt te mm)
 (hsw:swapsWith (.ListComp elt [⟨tg,iter,ifs,0⟩] scope pos) (some (.Name y py)) spos.line X.env=pure true:=by rfl) (hs:∀x,foldedSetIterable iter X.env x=pure x:=by intro _;rfl):
 QS K X (.Assign [.Name y py] (.ListComp elt [⟨tg,iter,ifs,0⟩] scope pos) spos) (DX (GM loc.length ix wi g tf te) (Cv i)) (AF i (Ag (Ai loc.length ix mi n mf mm))):=
 ⟨YC hN hiN hy hc S hi.p (λs H ex=>(hg s H ex).p) (λs H ex=>(hf s H ex).p) (λs H ex=>(he s H ex).p) hsw hs,Je (S5 (OK hi.r (hg X.s₀ X.H₀ []).r (hf X.s₀ X.H₀ []).r (he X.s₀ X.H₀ []).r)) Hw⟩
def aT{i j:Nat}{kt k2 pt2}(hc:X.calm=true)(hN:X.N.Nodup)(hi:X.N[i]?=some x)(hj:X.N[j]?=some y)(hij:i≠j)
 (hx:X.env.scope.names.lookup x=some .local) (hy:X.env.scope.names.lookup y=some .local) (ha:QA K X [a,b] t m)
 (hw:swappedStores [.Tuple [.Name x px,.Name y py] kt pt] (.Tuple [a,b] k2 pt2) X.env=pure (some [x,y]):=by rfl)
 (hs:swapsWithSole [.Tuple [.Name x px,.Name y py] kt pt] (.Tuple [a,b] k2 pt2) pos.line X.env=pure false:=by rfl):
 QS K X (.Assign [.Tuple [.Name x px,.Name y py] kt pt] (.Tuple [a,b] k2 pt2) pos) (Tx i j t) (D3 [i,j] m):=⟨bJ hc hN hi hj hij hx hy ha.p hw,Zh ha.r⟩
def Xm{i j k:Nat}{kt k2 pt2}(hc:X.calm=true)(hN:X.N.Nodup)(hi:X.N[i]?=some x)(hj:X.N[j]?=some y)(hk:X.N[k]?=some z)
 (hx:X.env.scope.names.lookup x=some .local) (hy:X.env.scope.names.lookup y=some .local) (hz:X.env.scope.names.lookup z=some .local) (ha:QA K X [a,b,c] t m)
 (hw:swappedStores [.Tuple [.Name x px,.Name y py,.Name z pz] kt pt] (.Tuple [a,b,c] k2 pt2) X.env=pure (some [x,y,z]):=by rfl)
 (hs:swapsWithSole [.Tuple [.Name x px,.Name y py,.Name z pz] kt pt] (.Tuple [a,b,c] k2 pt2) pos.line X.env=pure false:=by rfl):
 QS K X (.Assign [.Tuple [.Name x px,.Name y py,.Name z pz] kt pt] (.Tuple [a,b,c] k2 pt2) pos) (PR i j k t) (IB i j k m):=⟨YE hc hN hi hj hk hx hy hz ha.p hw hs,X8 ha.r⟩
def Xn(ho:QE K X o to mo)(hi:QE K X i ti mi)(hv:QE K X value tv mv)(hs:swapsWithSole [.Subscript o i pos'] value pos.line X.env=pure false:=by rfl)(hw:swappedStores [.Subscript o i pos'] value X.env=pure none:=by rfl)
 (h1:(assignEach [.Subscript o i pos'] X.env).map (·.2)=[assign (.Subscript o i pos') X.env]:=by rfl)
 (ha:∀v,assign (.Subscript o i pos') X.env v=(do
  let ov <- holding [v] (eval o X.env)
  let iv <- holding [v,ov] (eval i X.env)
  standAt pos'
  holding [v,ov,iv] (setItem ov iv v)
  release [v,ov,iv] []):=by intro _;rfl):QS K X (.Assign [.Subscript o i pos'] value pos) (DX tv (VT to ti Ji)) (Es mo mi mv):=⟨SK hv.p (bP ho.p hi.p MD ha) hs hw h1,X9 ho.r hi.r hv.r⟩
def aV{i:Nat}{g:Int->Int->Int}{pos':Pos}(hN:X.N.Nodup)(hi:X.N[i]?=some x)(hx:Loc X.env.scope x)(he:QE K X e te me)(ho:PIp X op (ipI g))(hf:X.fn x=true∨X.env.scope.names.lookup x=some .local:=by first|exact .inl rfl|exact .inr rfl|assumption):
 QS K X (.AugAssign (.Name x pos') op e pos) (HE i te (ipI g)) (Ga i g me):=⟨Mo hN hi hx he.p ho hf,Zj he.r⟩
def aU{iter:Expr}(hc:X.calm=true)(hi:QI K X tg iter wi mi)(hg:QG K X tg g n)(hb:QSs K X body tb mb)(hp:PassesOwn 73 X.A X.env X.xe:=by exact PassesOwn.never)
 (hs:∀x,foldedSetIterable iter X.env x=pure x:=by intro _;rfl):QS K X (.For tg iter body [] pos) (U4 wi g tb) (Bo mi n mb):=⟨bK hp hc hi.p hg.p hb.p hs,Zi hi.r hg.r hb.r⟩
def Uf(hc:QT K X c tA nA)(hb:QSs K X body tb mb)(hp:PassesOwn 73 X.A X.env X.xe:=by exact PassesOwn.never):QS K X (.While c body [] pos) (M1 tA tb) (Co nA mb):=⟨Uv hp hc.p hb.p,UH hc.r hb.r⟩
end
def Yc{K:Frag}{mg:Str->Option Value}{st:Stmt}{j:Nat}(DA:DefAt K mg x st f fd ps)(S:FnScope N ps (AC st))
 (h:∀(cdv:Value) (A:Around) (outer:List Env) (s:Shared) (H:Hp) (E:XK),Room j (A.deeper (envOfC x (AC st) 67 f cdv))->∃t,QSs K (Ho CX0 P w K mg base N x (AC st) f cdv A outer s H E).nox (C8 st) t m):
 FnOk P w K mg base CX0 (j+1) f fd ps (spF K ps.length (mkF ps.length N.length m)):=by
 refine DA.fn.ok S (λvs H Q E h=>h.1) (λcdv A outer s H vs Q E hr hs=>?_);obtain⟨t,q⟩:=h cdv A outer s H E hr;exact⟨t,q.p,Wt q.r hs⟩
section
variable{X:Cx}{pins:List (Addr×Obj)}{σ:List (Option V)}{H H':Hp}{s:Shared}{h':Heap}
def Inv.turns{tk:Nat}{fp:List Addr}(I:83)(k:∀b o,b∉fp->s.heap.get? b=some o->h'.get? b=some o)(hf:∀b∈fp,CO X pins H b):Inv X pins σ H { s with heap:=h',toks:=tk }:=by
 have out:∀b u,H b=some u->b∉fp:=λb u e z=>by rw[(hf b z).1]at e;cases e
 have hL:X.env.locals∉fp:=λz=>(hf _ z).2.1 rfl;refine I.step (g':=s.gens) (d':=s.drawn) (ch:=fp) (λb hb=>⟨(hf b hb).2.2.2.1,(hf b hb).2.1,(hf b hb).2.2.2.2.1,(hf b hb).2.2.2.2.2⟩) (λb o _ _ hc e _=>k b o hc e) (λb o _ _ hc e _=>⟨o.slots,k b o hc e⟩) (λ_ _ _ _ n=>n)
  (λb o hc e=>⟨o,k b o hc e⟩) (λ_ _ e=>e) (λ_ _ _ e=>e) (λb ps e=>⟨#[],by rw[e];simp⟩) (λm hm=>?_) (λb u e=>?_) I.bare
 .obtain⟨o,es,ep,ho,r⟩:=hm;exact⟨o,es,ep,k _ o hL ho,r⟩
 .refine(I.hok b u e).stay (λc v hc q=>k c v ?_ q) (λ_ q=>q) λ_ _ q=>q;rcases hc with z|z
  .rw[z];exact out b u e
  .exact out c _ z
end
def Inv.turnsL{X:Cx}{pins:List (Addr×Obj)}{σ:List (Option V)}{H:Hp}{s:Shared}{h':Heap}{tk:Nat}{fp:List Addr}{a:Addr}{o:HO}(I:83)(k:∀b o,b∉fp->s.heap.get? b=some o->h'.get? b=some o)(hf:∀b∈fp,CO X pins H b)(ha:67<=a)(new:ObjOk X.prog X.w (upd H a o) h' a o):
 Inv X pins σ (upd H a o) { s with heap:=h',toks:=tk }:=by
 have out:∀b u,H b=some u->b∉fp:=λb u e z=>by rw[(hf b z).1]at e;cases e
 have hL:X.env.locals∉fp:=λz=>(hf _ z).2.1 rfl;have fr:H a=none:=I.hok.fresh ha;refine I.step (g':=s.gens) (d':=s.drawn) (ch:=fp) (λb hb=>⟨(hf b hb).2.2.2.1,(hf b hb).2.1,(hf b hb).2.2.2.2.1,(hf b hb).2.2.2.2.2⟩) (λb o _ _ hc e _=>k b o hc e) (λb o _ _ hc e _=>⟨o.slots,k b o hc e⟩)
  (λb o _ e n=>by rw[AW (iW (j3 (Heap.lt_size e) ha))];exact n) (λb o hc e=>⟨o,k b o hc e⟩) (λb xs e=>by rw[AW (Am e fr)];exact e) (λb o u e=>by rw[AW (Am e fr)];exact e)
  (λb ps e=>⟨#[],by rw[AW (Am e fr),e];simp⟩) (λm hm=>?_) (λb u e=>?_) I.bare
 .obtain⟨o,es,ep,ho,r⟩:=hm;exact⟨o,es,ep,k _ o hL ho,r⟩
 .by_cases hb:b=a
  .subst hb;rw[Af]at e;cases e;exact new
  .rw[AW hb]at e;refine(I.hok b u e).stay (λc v hc q=>k c v ?_ q) (λc q=>by rw[AW (Am q fr)];exact q) λc xs q=>by rw[AW (Am q fr)];exact q
   rcases hc with z|z
   .rw[z];exact out b u e
   .exact out c _ z
def RowI(tp:Bool)(h:Heap)(it l:Addr)(k:Nat):Prop:=match tp with
 |true=>h.IsTupleIter it l k
 |false=>h.IsListIter it l k
def RowL(tp:Bool)(h:Heap)(l:Addr)(xs:Array Value):Prop:=match tp with
 |true=>h.IsTuple l xs
 |false=>h.IsList l xs
theorem RowI.at{tp:Bool}{h':Heap}{k:Nat}(x:RowI tp h it l k)(e:∀o,h.get? it=some o->h'.get? it=some o):RowI tp h' it l k:=by
 cases tp with
 |true=>exact Heap.IsTupleIter.at x e
 |false=>exact Heap.IsListIter.at x e
def RowL.at{tp:Bool}{h':Heap}(x:RowL tp h l xs)(e:∀o,h.get? l=some o->h'.get? l=some o):RowL tp h' l xs:=by
 cases tp with
 |true=>obtain⟨o,e1,r⟩:=(show h.IsTuple l xs from x);exact⟨o,e _ e1,r⟩
 |false=>obtain⟨o,e1,r⟩:=(show h.IsList l xs from x);exact⟨o,e _ e1,r⟩
def RowI.obj{tp:Bool}{k:Nat}(x:RowI tp h it l k):∃o,h.get? it=some o/\o.data=.fields #[.ref l,.int k 0]:=by
 cases tp with
 |true=>obtain⟨o,e,_,d⟩:=(show h.IsTupleIter it l k from x);exact⟨o,e,d⟩
 |false=>obtain⟨o,e,_,d⟩:=(show h.IsListIter it l k from x);exact⟨o,e,d⟩
def RowL.obj{tp:Bool}(x:RowL tp h l xs):∃o n,h.get? l=some o/\o.data=.seq xs n:=by
 cases tp with
 |true=>obtain⟨o,e,_,n,d⟩:=(show h.IsTuple l xs from x);exact⟨o,n,e,d⟩
 |false=>obtain⟨o,e,_,n,d⟩:=(show h.IsList l xs from x);exact⟨o,n,e,d⟩
section
variable{E:77}{s:Shared}{k:Nat}
def tup_next(hit:s.heap.IsTupleIter it l k)(hl:s.heap.IsTuple l xs)(hx:xs[k]?=some x){Q:77}(hQ:∀g,g.IsTupleIter it l (k+1)->Heap.SameBut it s.heap g->Q x { s with heap:=g }):
 wpAny 87 A (Builtin.SmallTypes.nextOf (.ref it)) Q E s:=by
 obtain⟨o,eo,ec,ed⟩:=id hit;obtain⟨ol,el,_,nl,edl⟩:=hl;unfold Builtin.SmallTypes.nextOf;refine ie (kq (name:=Str.ofString "__next__") hit.typeIs PyProof.Rows.slot_tupleiter_next (k9 PyProof.Rows.slot_tupleiter_next hit.typeIs PyProof.Rows.entry_tupleiter_next ?_ (PyProof.Rows.args_tupleiter_next _)));show wpAny _ _ (field (.ref it) 0 >>= _) _ _ s;refine ie (jA eo ed (x:=.ref l) rfl ?_);show wpAny _ _ (if(Value.ref l==Value.none)=true then _ else _) _ _ s;rw[ig (show ¬ (Value.ref l==Value.none)=true from Bool.false_ne_true)];show wpAny _ _ (field (.ref it) 1 >>= _) _ _ s;refine ie (jA eo ed (x:=.int k 0) rfl ?_);show wpAny _ _ (seqItems? (.ref l) >>= _) _ _ s;refine ie (kc el edl ?_);simp only[jj,hx];refine ie (wpAny_setField eo ed 70 (ip ⟨x,rfl,ip (hQ _ ⟨_,Heap.get?_update_self _ eo (Obj.isFreed_of_fields (Obj.data_mapFields ed _)),(Obj.cls_mapFields ..).trans ec,?_⟩ (Heap.SameBut.update ..))⟩));rw[Obj.data_mapFields ed];simp[rawInt]
def tup_stop(hh:A.handled=none)(hit:s.heap.IsTupleIter it l k)(hl:s.heap.IsTuple l xs)(hx:xs[k]?=none){Q:77}(hE:∀g e,Heap.ExtBut it s.heap g->(∃o,g.get? e=some o/\o.cls=.type "StopIteration")->E (.ref e) { s with heap:=g }):
 wpAny 87 A (Builtin.SmallTypes.nextOf (.ref it)) Q E s:=by
 obtain⟨o,eo,ec,ed⟩:=id hit;obtain⟨ol,el,_,nl,edl⟩:=hl;unfold Builtin.SmallTypes.nextOf;refine ie (kq (name:=Str.ofString "__next__") hit.typeIs PyProof.Rows.slot_tupleiter_next (k9 PyProof.Rows.slot_tupleiter_next hit.typeIs PyProof.Rows.entry_tupleiter_next ?_ (PyProof.Rows.args_tupleiter_next _)));show wpAny _ _ (field (.ref it) 0 >>= _) _ _ s;refine ie (jA eo ed (x:=.ref l) rfl ?_);show wpAny _ _ (if(Value.ref l==Value.none)=true then _ else _) _ _ s;rw[ig (show ¬ (Value.ref l==Value.none)=true from Bool.false_ne_true)];show wpAny _ _ (field (.ref it) 1 >>= _) _ _ s;refine ie (jA eo ed (x:=.int k 0) rfl ?_);show wpAny _ _ (seqItems? (.ref l) >>= _) _ _ s;refine ie (kc el edl ?_);simp only[jj,hx];refine ie (jW (ie (wpAny_setField eo ed 70 ?_)));show wpAny _ _ (newExc (.type "StopIteration") [] >>= _) _ _ _;refine ie ?_;simp only[newExc,newTuple];refine ie (jV ?_ (by size_fits));refine ie (m:=firstArgMember _ _) (wpAny_of_eq (a:=Value.none) (by first|rfl|(simp only[firstArgMember];rfl)) ?_);refine jV ?_ (by size_fits);simp only[raiseNew];refine ie (wpAny_handled ?_)
 first|rw[show A.in1.handled=none from hh]|rw[hh]
 exact ie (ip (wpAny_throw (hE _ _ (((Heap.SameBut.update ..).extBut.push _).push _) ⟨_,85 _ rfl,rfl⟩)))
def Iq{tp:Bool}(hit:RowI tp s.heap it l k)(hl:RowL tp s.heap l xs)(hx:xs[k]?=some x){Q:77}(hQ:∀g,RowI tp g it l (k+1)->Heap.SameBut it s.heap g->Q x { s with heap:=g }):
 wpAny 87 A (Builtin.SmallTypes.nextOf (.ref it)) Q E s:=by
 cases tp with
 |true=>exact tup_next hit hl hx hQ
 |false=>exact wpAny_nextOf_list_item hit hl hx hQ
def MY{tp:Bool}(hh:A.handled=none)(hit:RowI tp s.heap it l k)(hl:RowL tp s.heap l xs)(hx:xs[k]?=none){Q:77}(hE:∀g e,Heap.ExtBut it s.heap g->(∃o,g.get? e=some o/\o.cls=.type "StopIteration")->E (.ref e) { s with heap:=g }):
 wpAny 87 A (Builtin.SmallTypes.nextOf (.ref it)) Q E s:=by
 cases tp with
 |true=>exact tup_stop hh hit hl hx hE
 |false=>exact wpAny_nextOf_list_end hh hit hl hx hE
end
structure ZAt(t1 t2:Bool)(h:Heap)(z a b i1 i2 l1 l2:Addr)(f0:Value)(j k:Nat):Prop where
 z:IsZip h z a b f0
 p:IsPair h a (.ref i1) (.ref i2)
 o:∃u v,IsPair h b u v
 r1:RowI t1 h i1 l1 j
 r2:RowI t2 h i2 l2 k
structure ZNe(z a b i1 i2 l1 l2:Addr):Prop where
 az:a≠z
 bz:b≠z
 iz:i1≠z
 jz:i2≠z
 ab:a≠b
 ai:a≠i1
 aj:a≠i2
 bi:b≠i1
 bj:b≠i2
 ij:i1≠i2
 lz:l1≠z
 lb:l1≠b
 li:l1≠i1
 lj:l1≠i2
 mz:l2≠z
 mb:l2≠b
 mi:l2≠i1
 mj:l2≠i2
section
variable{E:77}{s:Shared}{t1 t2:Bool}{j k:Nat}
abbrev Qm(z b i1 i2:Addr)(h h':Heap):Prop:=∀c o,c≠z->c≠b->c≠i1->c≠i2->h.get? c=some o->h'.get? c=some o
def Td(N:ZNe z a b i1 i2 l1 l2)(Z:ZAt t1 t2 s.heap z a b i1 i2 l1 l2 .none j k)(hl1:RowL t1 s.heap l1 xs)(hl2:RowL t2 s.heap l2 ys)(hx:xs[j]?=some x)(hy:ys[k]?=some y){Q:77}
 (hQ:∀g,ZAt t1 t2 g z a b i1 i2 l1 l2 (rawInt 67) (j+1) (k+1)->IsPair g 67 x y->Qm z b i1 i2 s.heap g->Q (.ref 67) { s with heap:=g }):
 wpAny 87 A (Builtin.«zip.__next__» ⟨[.ref z],[]⟩) (λfin s'=>∃v,fin=.done (.ret v)/\Q v s') E s:=by
 obtain⟨hz,hp,⟨u,v,hb⟩,q1,q2⟩:=Z;show wpAny _ _ (field (.ref z) 2 >>= _) _ _ _;refine ie (jA hz rfl (x:=.bool false) rfl ?_);show wpAny _ _ (field (.ref z) 3 >>= _) _ _ _;refine ie (jA hz rfl (x:=.ref a) rfl (ie (kc hp rfl ?_)));show wpAny _ _ (Builtin.SmallTypes.ownedTupleIsFree (.ref z) >>= _) _ _ _;unfold Builtin.SmallTypes.ownedTupleIsFree;refine ie (ie (jA hz rfl (x:=.none) rfl (ip ?_)));simp only[iU];refine ie (jW (ie (jA hz rfl (x:=.ref b) rfl ?_)));refine ie (ku hz 70 λg1 z1 s1=>?_);have z1:IsZip g1 z a b .ellipsis:=z1;refine ie ?_;simp only[List.zipIdx_cons,List.zipIdx_nil,List.forIn_cons,List.forIn_nil];refine ie (ie (wpAny_onRaise ?_));show wpAny _ _ (Builtin.SmallTypes.nextOf (.ref i1) >>= _) _ _ _;refine ie (Iq (s:={ s with heap:=g1 }) (q1.at λo e=>s1.extBut _ _ N.iz e) (hl1.at λo e=>s1.extBut _ _ N.lz e) hx λg2 r2 s2=>ip ?_);have b2:IsPair g2 b u v:=s2.extBut _ _ N.bi (s1.extBut _ _ N.bz hb);refine ie (kc b2 rfl (ie (wpAny_updateSeq_pair b2 λg3 b3 s3=>?_)));have b3:IsPair g3 b x v:=b3;refine ie (wpAny_letGo (ip (ie (ie (wpAny_onRaise ?_)))));show wpAny _ _ (Builtin.SmallTypes.nextOf (.ref i2) >>= _) _ _ _;have q3:RowI t2 g3 i2 l2 k:=q2.at λo e=>s3.extBut _ _ N.bj.symm (s2.extBut _ _ N.ij.symm (s1.extBut _ _ N.jz e));have m3:RowL t2 g3 l2 ys:=hl2.at λo e=>s3.extBut _ _ N.mb (s2.extBut _ _ N.mi (s1.extBut _ _ N.mz e));refine ie (Iq (s:={ s with heap:=g3 }) q3 m3 hy λg4 r4 s4=>ip ?_);have b4:IsPair g4 b x v:=s4.extBut _ _ N.bj b3;refine ie (kc b4 rfl (ie (wpAny_updateSeq_pair b4 λg5 b5 s5=>?_)));have b5:IsPair g5 b x y:=b5;refine ie (wpAny_letGo (ip (ip (ie (kc b5 rfl (ie (wpAny_newTuple ?_)))))));have sz:g5.objs.size=s.heap.objs.size:=by rw[s5.1,s4.1,s3.1,s2.1,s1.1]
 have z5:IsZip g5 z a b .ellipsis:=s5.extBut _ _ N.bz.symm (s4.extBut _ _ N.jz.symm (s3.extBut _ _ N.bz.symm (s2.extBut _ _ N.iz.symm z1)));have kp:Qm z b i1 i2 s.heap g5:=λc o c1 c2 c3 c4 e=>s5.extBut _ _ c2 (s4.extBut _ _ c4 (s3.extBut _ _ c2 (s2.extBut _ _ c3 (s1.extBut _ _ c1 e))));have w1:RowI t1 g5 i1 l1 (j+1):=r2.at λo e=>s5.extBut _ _ N.bi.symm (s4.extBut _ _ N.ij (s3.extBut _ _ N.bi.symm e));have w2:RowI t2 g5 i2 l2 (k+1):=r4.at λo e=>s5.extBut _ _ N.bj.symm e;have zlt:=78 z5;show wpAny _ _ (Builtin.SmallTypes.ownedTupleHandOut (.ref z) (.ref g5.objs.size) >>= _) _ _ _;unfold Builtin.SmallTypes.ownedTupleHandOut;have z6:IsZip (g5.push { cls:=.type "tuple",data:=.seq #[x,y] }) z a b .ellipsis:=74 _ z5;refine ie (ie (ku z6 70 λg7 z7 s7=>?_));have z7:IsZip g7 z a b (rawInt g5.objs.size):=z7;refine ku z7 70 λg8 z8 s8=>ip ⟨_,rfl,?_⟩;have z8:IsZip g8 z a b (rawInt g5.objs.size):=z8;have up:∀c o,c≠z->g5.get? c=some o->g8.get? c=some o:=λc o c1 e=>s8.extBut _ _ c1 (s7.extBut _ _ c1 (74 _ e));have t8:IsPair g8 g5.objs.size x y:=s8.extBut _ _ (jx zlt) (s7.extBut _ _ (jx zlt) (85 _ rfl));show Q (.ref g5.objs.size) _;rw[sz]at z8 t8 ⊢;exact hQ g8 ⟨z8,up _ _ N.az (kp _ _ N.az N.ab N.ai N.aj hp),⟨_,_,up _ _ N.bz b5⟩,w1.at λo e=>up _ o N.iz e,w2.at λo e=>up _ o N.jz e⟩ t8 λc o c1 c2 c3 c4 e=>up c o c1 (kp c o c1 c2 c3 c4 e)
def Tc(hh:A.handled=none)(N:ZNe z a b i1 i2 l1 l2)(Z:ZAt t1 t2 s.heap z a b i1 i2 l1 l2 .none j k)(hl1:RowL t1 s.heap l1 xs)(hl2:RowL t2 s.heap l2 ys)(hend:xs[j]?=none∨ys[k]?=none){Q:Fin->Shared->Prop}
 (hE:∀g e,Qm z b i1 i2 s.heap g->(∃o,g.get? e=some o/\o.cls=.type "StopIteration")->E (.ref e) { s with heap:=g }):
 wpAny 87 A (Builtin.«zip.__next__» ⟨[.ref z],[]⟩) Q E s:=by
 obtain⟨hz,hp,⟨u,v,hb⟩,q1,q2⟩:=Z;show wpAny _ _ (field (.ref z) 2 >>= _) _ _ _;refine ie (jA hz rfl (x:=.bool false) rfl ?_);show wpAny _ _ (field (.ref z) 3 >>= _) _ _ _;refine ie (jA hz rfl (x:=.ref a) rfl (ie (kc hp rfl ?_)));show wpAny _ _ (Builtin.SmallTypes.ownedTupleIsFree (.ref z) >>= _) _ _ _;unfold Builtin.SmallTypes.ownedTupleIsFree;refine ie (ie (jA hz rfl (x:=.none) rfl (ip ?_)));simp only[iU];refine ie (jW (ie (jA hz rfl (x:=.ref b) rfl ?_)));refine ie (ku hz 70 λg1 z1 s1=>?_);have z1:IsZip g1 z a b .ellipsis:=z1;refine ie ?_;simp only[List.zipIdx_cons,List.zipIdx_nil,List.forIn_cons,List.forIn_nil];refine ie (ie (wpAny_onRaise ?_));show wpAny _ _ (Builtin.SmallTypes.nextOf (.ref i1) >>= _) _ _ _;have o1:RowI t1 g1 i1 l1 j:=q1.at λo e=>s1.extBut _ _ N.iz e;have m1:RowL t1 g1 l1 xs:=hl1.at λo e=>s1.extBut _ _ N.lz e;cases hx:xs[j]? with
 |none=>
  refine ie (MY (s:={ s with heap:=g1 }) hh o1 m1 hx λg2 e s2 he=>?_);obtain⟨oe,he1,he2⟩:=he;have z2:IsZip g2 z a b .ellipsis:=s2 _ _ N.iz.symm z1;have ne:e≠z:=λq=>by subst q;rw[z2]at he1;cases he1;simp at he2
  exact ku z2 70 λg3 _ s3=>hE g3 e (λc o c1 _ c3 _ q=>s3.extBut _ _ c1 (s2 _ _ c3 (s1.extBut _ _ c1 q))) ⟨oe,s3.extBut _ _ ne he1,he2⟩
 |some x=>
  have hy:ys[k]?=none:=by
   rcases hend with q|q
   .rw[hx]at q;cases q
   .exact q
  refine ie (Iq (s:={ s with heap:=g1 }) o1 m1 hx λg2 r2 s2=>ip ?_);have b2:IsPair g2 b u v:=s2.extBut _ _ N.bi (s1.extBut _ _ N.bz hb);refine ie (kc b2 rfl (ie (wpAny_updateSeq_pair b2 λg3 b3 s3=>?_)));refine ie (wpAny_letGo (ip (ie (ie (wpAny_onRaise ?_)))));show wpAny _ _ (Builtin.SmallTypes.nextOf (.ref i2) >>= _) _ _ _;have q3:RowI t2 g3 i2 l2 k:=q2.at λo e=>s3.extBut _ _ N.bj.symm (s2.extBut _ _ N.ij.symm (s1.extBut _ _ N.jz e));have m3:RowL t2 g3 l2 ys:=hl2.at λo e=>s3.extBut _ _ N.mb (s2.extBut _ _ N.mi (s1.extBut _ _ N.mz e));refine ie (MY (s:={ s with heap:=g3 }) hh q3 m3 hy λg4 e s4 he=>?_);obtain⟨oe,he1,he2⟩:=he;have z4:IsZip g4 z a b .ellipsis:=s4 _ _ N.jz.symm (s3.extBut _ _ N.bz.symm (s2.extBut _ _ N.iz.symm z1));have ne:e≠z:=λq=>by subst q;rw[z4]at he1;cases he1;simp at he2
  exact ku z4 70 λg5 _ s5=>hE g5 e (λc o c1 c2 c3 c4 q=>s5.extBut _ _ c1 (s4 _ _ c4 (s3.extBut _ _ c2 (s2.extBut _ _ c3 (s1.extBut _ _ c1 q))))) ⟨oe,s5.extBut _ _ ne he1,he2⟩
end
def SqS(K:Frag)(tp:Bool)(H:Hp)(a:Addr)(xs:List V):Prop:=match tp with
 |true=>SqT K H a xs
 |false=>SqL K H a xs
noncomputable def Itz(K:Frag)(t1 t2:Bool)(a b:Addr):It:=
 ⟨λi H=>∃xs ys x y,SqS K t1 H a xs/\SqS K t2 H b ys/\xs[i]?=some x/\ys[i]?=some y,
  λi H x H'=>∃p u v,H p=none/\H'=upd H p (.tup [u,v])/\x=.ref p/\(∀xs,SqS K t1 H a xs->xs[i]?=some u)/\∀ys,SqS K t2 H b ys->ys[i]?=some v,
  λi H=>∃xs ys,SqS K t1 H a xs/\SqS K t2 H b ys/\(79<=i∨ys.length<=i)⟩
section
def Inv.row{tp:Bool}(I:83)(h:SqS X.K tp H a xs):∃its:List Value,Vals xs its/\RowL tp s.heap a its.toArray/\79<=sizeLine:=by
 cases tp with
 |true=>obtain⟨its,r,p,z⟩:=I.tuple h;exact⟨its,r,(show s.heap.IsTuple a its.toArray from p),z⟩
 |false=>obtain⟨its,r,p,z⟩:=I.list h;exact⟨its,r,p.isList,z⟩
def Inv.row_inj{tp:Bool}(I:83)(h:SqS X.K tp H a xs)(h':SqS X.K tp H a ys):xs=ys:=by
 cases tp with
 |true=>exact I.tuple_inj h h'
 |false=>exact I.list_inj h h'
end
def RowL.lt{tp:Bool}(x:RowL tp h l xs):l<h.objs.size:=by
 obtain⟨o,n,e,_⟩:=x.obj;exact 78 e
def ZI{M:Model}{E:77}{s:Shared}{x1}{T:Addr}{Q:Unit->Shared->Prop}(hz:IsZip s.heap z a b (rawInt T))
 (hQ:∀g,IsZip g z a b .none->Heap.SameBut z s.heap g->Q () { s with heap:=g }):wpAny 87 A (letOwnedTupleGo (.Tuple elts x1 pos) (.ref z) (.ref T)) Q E s:=wpAny_letOwnedTupleGo_zip hz hQ
def Tm{P:Program}{w:World}{K:Frag}{elts:List Expr}{kk:Nat}{tpos:Pos}{t1 t2:Bool}{z a b i1 i2 l1 l2:Addr}(N:ZNe z a b i1 i2 l1 l2):Turn P w K (.Tuple elts kk tpos) (Itz K t1 t2 l1 l2) [z,a,b,i1,i2] z (λi h=>ZAt t1 t2 h z a b i1 i2 l1 l2 .none i i) where
 mem:=by simp
 obj:=λi h st c hc=>by
  obtain⟨hz,hp,⟨u,v,hb⟩,q1,q2⟩:=st;simp only[ir,jn,jr]at hc;rcases hc with rfl|rfl|rfl|rfl|rfl
  .exact⟨_,hz,λv z=>by cases(show Data.fields _=Data.cell v from z)⟩
  .exact⟨_,hp,λv z=>by cases(show Data.seq _ _=Data.cell v from z)⟩
  .exact⟨_,hb,λv z=>by cases(show Data.seq _ _=Data.cell v from z)⟩
  .obtain⟨o,e,d⟩:=q1.obj;exact⟨o,e,λv z=>by rw[d]at z;cases z⟩
  .obtain⟨o,e,d⟩:=q2.obj;exact⟨o,e,λv z=>by rw[d]at z;cases z⟩
 keep:=λi h h' st k=>by
  obtain⟨hz,hp,⟨u,v,hb⟩,q1,q2⟩:=st;exact⟨k z 70 _ hz,k a 70 _ hp,⟨u,v,k b 70 _ hb⟩,q1.at λo e=>k i1 70 o e,q2.at λo e=>k i2 70 o e⟩
 item:=by
  intro X hP hw hK hc i pins s σ H E I hf st hg;subst hP hw hK;obtain⟨xs,ys,x,y,h1,h2,hx,hy⟩:=hg;obtain⟨ix,rx,px,zx⟩:=I.row h1;obtain⟨iy,ry,py,zy⟩:=I.row h2;obtain⟨u,hu,ru⟩:=rx.get hx;obtain⟨v,hv,rv⟩:=ry.get hy;have hT:s.TypeIs (.ref z) "zip":=⟨_,st.z,rfl⟩
  unfold pyNext;refine ie (wpAny_attempt (kq (name:=Str.ofString "__next__") hT F.slot_zip_next (k9 F.slot_zip_next hT F.entry_zip_next
   (Td N st px py (x:=u) (y:=v) (by simpa using hu) (by simpa using hv) λg Z g5 kp=>ip ⟨_,rfl,?_⟩) (F.args_zip_next_1 _))))
  refine ZI (M:=model X.prog X.w) (s:={ s with heap:=g }) Z.z λg' z' sb=>?_;have kp2:∀c o,c∉[z,a,b,i1,i2]->s.heap.get? c=some o->g'.get? c=some o:=λc o nc e=>by
   simp only[ir,jn,jr,not_or]at nc;exact sb.extBut _ _ nc.1 (kp c o nc.1 nc.2.2.1 nc.2.2.2.1 nc.2.2.2.2 e)
  have hTz:67≠z:=jx (78 st.z);have hpair:IsPair g' 67 u v:=sb.extBut _ _ hTz g5;have fresh:H 67=none:=I.hok.fresh (iq _);have I2:Inv X pins σ (upd H 67 (.tup [x,y])) { s with heap:=g' }:=I.turnsL (tk:=s.toks) (o:=.tup [x,y]) kp2 hf (iq _)
   (show ObjOk X.prog X.w _ g' _ (.tup [x,y])from⟨by show 2<=sizeLine;decide,[u,v],.cons ru (.cons rv .nil),⟨_,hpair,rfl,⟨_,rfl⟩,rfl⟩⟩)
  refine⟨.ref 67,_,I2,rfl,⟨_,x,y,fresh,rfl,rfl,λxs' q=>by rw[I.row_inj q h1];exact hx,λys' q=>by rw[I.row_inj q h2];exact hy⟩,⟨z',?_,?_,?_,?_⟩,λc hc=>?_⟩
  .exact sb.extBut _ _ N.az Z.p
  .obtain⟨p,q,e⟩:=Z.o;exact⟨p,q,sb.extBut _ _ N.bz e⟩
  .exact Z.r1.at λo e=>sb.extBut _ _ N.iz e
  .exact Z.r2.at λo e=>sb.extBut _ _ N.jz e
  .have lt:c<s.heap.objs.size:=by
    obtain⟨hz,hp,⟨u,v,hb⟩,q1,q2⟩:=st;simp only[ir,jn,jr]at hc;rcases hc with rfl|rfl|rfl|rfl|rfl
    .exact 78 hz
    .exact 78 hp
    .exact 78 hb
    .obtain⟨o,e,_⟩:=q1.obj;exact 78 e
    .obtain⟨o,e,_⟩:=q2.obj;exact 78 e
   rw[AW (iW lt)];exact(hf c hc).1
 done:=by
  intro X hP hw hK hc i pins s σ H E I hf st hg;subst hP hw hK;obtain⟨xs,ys,h1,h2,hend⟩:=hg;obtain⟨ix,rx,px,zx⟩:=I.row h1;obtain⟨iy,ry,py,zy⟩:=I.row h2;have l1':=rx.length;have l2':=ry.length;have hT:s.TypeIs (.ref z) "zip":=⟨_,st.z,rfl⟩
  unfold pyNext;refine ie (wpAny_attempt (kq (name:=Str.ofString "__next__") hT F.slot_zip_next (k9 F.slot_zip_next hT F.entry_zip_next
   (Tc (A:=X.A.in1) (show X.A.in1.handled=none from I.ok.hd hc) N st px py (hend.imp (λq=>by simp;omega) λq=>by simp;omega) λg e kp he=>?_) (F.args_zip_next_1 _))))
  obtain⟨o,ho,hcl⟩:=he;refine ie (wpAny_isInstance (T:="StopIteration") (b:=true) ⟨o,ho,hcl⟩ isSubtype_stop (ip ⟨rfl,?_⟩));exact I.turns (tk:=s.toks) (λc o nc e=>by
   simp only[ir,jn,jr,not_or]at nc;exact kp c o nc.1 nc.2.2.1 nc.2.2.2.1 nc.2.2.2.2 e) hf
 self:=λ_ _ _ _ _ st h=>wpAny_pyIter_zip st.z h
noncomputable abbrev ED(tp:Bool)(l:Addr):Obj:={ cls:=.type (match tp with|true=>"tuple_iterator" | false=>"list_iterator"),data:=.fields #[.ref l,.int 0 0] }
noncomputable abbrev zh1(t1:Bool)(h:Heap)(l1:Addr):Heap:=h.push (ED t1 l1)
abbrev zh2(t1 t2:Bool)(h:Heap)(l1 l2:Addr):Heap:=(zh1 t1 h l1).push (ED t2 l2)
abbrev zh3(t1 t2:Bool)(h:Heap)(l1 l2:Addr):Heap:=(zh2 t1 t2 h l1 l2).push { cls:=.type "tuple",data:=.seq #[.ref h.objs.size,.ref (zh1 t1 h l1).objs.size] }
abbrev zh4(t1 t2:Bool)(h:Heap)(l1 l2:Addr):Heap:=(zh3 t1 t2 h l1 l2).push { cls:=.type "tuple",data:=.seq #[.none,.none] }
abbrev zh5(t1 t2:Bool)(h:Heap)(l1 l2:Addr):Heap:=(zh4 t1 t2 h l1 l2).push { cls:=.type "zip",data:=.fields #[.none,.bool false,.bool false,.ref (zh2 t1 t2 h l1 l2).objs.size,.ref (zh3 t1 t2 h l1 l2).objs.size] }
set_option maxHeartbeats 4000000 in
def Te(t1 t2:Bool)(l1 l2:Addr)(xs ys:Array Value):
 Meets (Builtin.«zip.__new__» ⟨[.type "zip",.ref l1,.ref l2],[]⟩) (λ_ R s=>RowL t1 s.heap l1 xs/\RowL t2 s.heap l2 ys/\R (.ok (.ret (.ref (zh4 t1 t2 s.heap l1 l2).objs.size))) { s with heap:=zh5 t1 t2 s.heap l1 l2 }):=
 .of_wp λprog w A R s h=>by
  obtain⟨hp,g,d,tk,os⟩:=s;obtain⟨q1,q2,h⟩:=h;have hsub:=sub_zip;have q2':RowL t2 (hp.push (ED t1 l1)) l2 ys:=q2.at λo e=>74 _ e;cases t1<;>cases t2
  .have p1:Heap.IsList (Shared.heap ⟨hp,g,d,tk,os⟩) l1 xs:=q1;have p2:Heap.IsList (Shared.heap ⟨hp.push (ED false l1),g,d,tk,os⟩) l2 ys:=q2'
   wp_walk using wpAny_pyIter_list p1,wpAny_pyIter_list p2
   exact⟨_,rfl,h⟩
  .have p1:Heap.IsList (Shared.heap ⟨hp,g,d,tk,os⟩) l1 xs:=q1;have p2:Heap.IsTuple (Shared.heap ⟨hp.push (ED false l1),g,d,tk,os⟩) l2 ys:=q2'
   wp_walk using wpAny_pyIter_list p1,wpAny_pyIter_tuple p2
   exact⟨_,rfl,h⟩
  .have p1:Heap.IsTuple (Shared.heap ⟨hp,g,d,tk,os⟩) l1 xs:=q1;have p2:Heap.IsList (Shared.heap ⟨hp.push (ED true l1),g,d,tk,os⟩) l2 ys:=q2'
   wp_walk using wpAny_pyIter_tuple p1,wpAny_pyIter_list p2
   exact⟨_,rfl,h⟩
  .have p1:Heap.IsTuple (Shared.heap ⟨hp,g,d,tk,os⟩) l1 xs:=q1;have p2:Heap.IsTuple (Shared.heap ⟨hp.push (ED true l1),g,d,tk,os⟩) l2 ys:=q2'
   wp_walk using wpAny_pyIter_tuple p1,wpAny_pyIter_tuple p2
   exact⟨_,rfl,h⟩
def Wd(h1:l1<n)(h2:l2<n):ZNe (n+4) (n+2) (n+3) n (n+1) l1 l2:=by
 have k1:@LT.lt Nat _ l1 n:=h1;have k2:@LT.lt Nat _ l2 n:=h2;constructor<;>(intro z;have z:@Eq Nat _ _:=z;omega)
def OH{tp:Bool}{h:Heap}(e:h.get? a=some (ED tp l)):RowI tp h a l 0:=by
 cases tp with
 |true=>exact⟨_,e,rfl,rfl⟩
 |false=>exact⟨_,e,rfl,rfl⟩
section
variable{E:77}{s:Shared}
def Tf{t1 t2:Bool}{Q:77}(q1:RowL t1 s.heap l1 xs)(q2:RowL t2 s.heap l2 ys)
 (h:∀g,ZAt t1 t2 g (67+4) (67+2) (67+3) 67 (67+1) l1 l2 .none 0 0->(∀c o,s.heap.get? c=some o->g.get? c=some o)->Q (.ref (67+4)) { s with heap:=g }):
 wpAny 87 A (call (.type "zip") [.ref l1,.ref l2]) Q E s:=by
 refine callType_new F.called_zip 80 (F.typeCall_zip_2 _ _) (F.newCall_zip_2 _ _) (λobj=>F.args_object_init_3 obj _ _) F.entry_zip_new (Te t1 t2 l1 l2 xs ys) ⟨q1,q2,?_⟩;have n1:(zh1 t1 s.heap l1).objs.size=67+1:=Heap.size_push ..;have n2:(zh2 t1 t2 s.heap l1 l2).objs.size=67+2:=by rw[Heap.size_push,n1]
 have n3:(zh3 t1 t2 s.heap l1 l2).objs.size=67+3:=by rw[Heap.size_push,n2]
 have n4:(zh4 t1 t2 s.heap l1 l2).objs.size=67+4:=by rw[Heap.size_push,n3]
 have up:∀{g:Heap} {c:Addr} {o x:Obj},g.get? c=some o->(g.push x).get? c=some o:=λe=>74 _ e;have e5:(zh5 t1 t2 s.heap l1 l2).get? (zh4 t1 t2 s.heap l1 l2).objs.size=some _:=85 _ rfl;have e4:(zh5 t1 t2 s.heap l1 l2).get? (zh3 t1 t2 s.heap l1 l2).objs.size=some _:=up (85 _ rfl);have e3:(zh5 t1 t2 s.heap l1 l2).get? (zh2 t1 t2 s.heap l1 l2).objs.size=some _:=up (up (85 _ rfl));have e2:(zh5 t1 t2 s.heap l1 l2).get? (zh1 t1 s.heap l1).objs.size=some (ED t2 l2):=up (up (up (85 _ (by cases t2<;>rfl))));have e1:(zh5 t1 t2 s.heap l1 l2).get? 67=some (ED t1 l1):=up (up (up (up (85 _ (by cases t1<;>rfl)))));show _/\_;rw[n2,n3,n4]at e5;rw[n1,n2]at e3;rw[n3]at e4;rw[n1]at e2;rw[n4];exact⟨⟨_,e5,rfl⟩,h _ ⟨e5,e3,⟨_,_,e4⟩,OH e1,OH e2⟩ λc o x=>up (up (up (up (up x))))⟩
end
noncomputable def QM(K:Frag)(t1 t2:Bool)(ta:TA):TI:=λσ H R=>ta σ H λvs H1=>∃a b xs ys,vs=[.ref a,.ref b]/\SqS K t1 H1 a xs/\SqS K t2 H1 b ys/\R (Itz K t1 t2 a b) H1
section
def bM{t1 t2:Bool}{elts:List Expr}{kk:Nat}{tpos p pos:Pos}(hg:Gl X "zip")(hm:X.mg "zip"=none)(ha:PA X [a,b] ta)(hs:starEach [a,b] X.env=[(false,eval a X.env),(false,eval b X.env)]:=by rfl)(hs2:starEach [b] X.env=[(false,eval b X.env)]:=by rfl):
 PI X (.Tuple elts kk tpos) (.Call (.Name "zip" p) [a,b] [] pos) (QM X.K t1 t2 ta):=by
 intro pins s σ H R I h;refine Call_ (Dg I hg hm boot_zip (PyProof.Rows.callWith_type1 (thn (ha pos pins s σ H _ I h) λus s1 ⟨vs,H1,I1,r1,q1⟩=>?_) (by rw[hs,hs2]) (by rw[hs2];rfl)));obtain⟨l1,l2,xs,ys,e,c1,c2,q⟩:=q1;subst e;obtain⟨u,v,rfl,ru,rv⟩:=Ld r1;cases ru;cases rv;obtain⟨ix,rx,px,zx⟩:=I1.row c1;obtain⟨iy,ry,py,zy⟩:=I1.row c2;refine Tf px py λg Z kp=>wpAny_pyIter_zip Z.z ?_;refine⟨_,_,_,_,H1,rfl,I1.kept (t':=s1.toks) kp,Tm (Wd px.lt py.lt),Z,λc hc=>?_,q⟩;simp only[ir,jn,jr]at hc;have le:s1.heap.objs.size<=c:=by
  rcases hc with rfl|rfl|rfl|rfl|rfl
  .exact ki _ _
  .exact ki _ _
  .exact ki _ _
  .exact iq _
  .exact ki _ _
 exact I1.fpOk le (I1.hok.fresh le)
def YM(K:Frag){t1 t2:Bool}{elts:List Expr}{kk:Nat}{tpos p pos:Pos}(hg:Gl X "zip")(hm:X.mg "zip"=none)(ha:PA X [a,b] ta)(hK:X.K=K:=by rfl)(hs:starEach [a,b] X.env=[(false,eval a X.env),(false,eval b X.env)]:=by rfl)(hs2:starEach [b] X.env=[(false,eval b X.env)]:=by rfl):
 PI X (.Tuple elts kk tpos) (.Call (.Name "zip" p) [a,b] [] pos) (QM K t1 t2 ta):=by subst hK;exact bM hg hm ha hs hs2
end
def fP(K:Frag)(ρ:List Addr)(H:Hp)(tp:Bool)(a:Addr)(ds:List D)(g:Gd):Prop:=∀(ρ2:List Addr) (H2:Hp) (hd2:Hd),Ext ρ H ρ2 H2->RH K ρ2 H2 hd2->GOk hd2 g->∃xs,SqS K tp H2 a xs/\RDs K ρ2 H2 ds xs
def RRw(K:Frag)(tp:Bool)(t:TE)(m:MI):Prop:=∀(ρ:List Addr) (σ:St) (H:Hp) (hd:Hd) (ls:Ls) (Q:VK) (d:List D) (g:Gd) (hd':Hd),RH K ρ H hd->RL K ρ H ls σ->m ls hd=some ((d,g),hd') ->
 (∀ρ' H' a,Ext ρ H ρ' H'->RH K ρ' H' hd'->GOk hd' g->fP K ρ' H' tp a d g->Q (.ref a) H')->t σ H Q
structure QR(K:Frag)(tp:Bool)(X:Cx)(e:Expr)(t:TE)(m:MI):Prop where
 p:PE X e t
 r:RRw K tp t m
section
variable{K:Frag}{ρ':List Addr}{H':Hp}
def ZY(h:RE K t m):RRw K true t (Az m):=by
 intro ρ σ H hd ls Q d g hd' hR hL hm hQ;obtain⟨⟨d1,h1⟩,e1,hm⟩:=gV hm;obtain⟨ds,e2,e3⟩:=iS hm;cases e3;refine h ρ σ H hd ls _ d1 _ hR hL e1 λρ1 H1 v x1 R1 r1=>?_;obtain⟨a,xs,rfl,q,r⟩:=r1.tup e2;exact hQ ρ1 H1 a x1 R1 (AE _) λρ2 H2 hd2 x2 R2 _=>⟨xs,(x2.grow R1).sq q,r.ext R1 x2⟩
def X6(h:RE K t m):RRw K false t (BR m):=by
 intro ρ σ H hd ls Q d g hd' hR hL hm hQ;obtain⟨⟨d1,h1⟩,e1,hm⟩:=gV hm;dsimp only at hm;split at hm
 .next n=>
  split at hm
  .next ds q=>
   cases hm;refine h ρ σ H hd ls _ _ _ hR hL e1 λρ1 H1 v x1 R1 r1=>?_;simp only[RD]at r1;obtain⟨a,hn,rfl⟩:=r1;refine hQ ρ1 H1 a x1 R1 (λp z=>by simp at z;subst z;exact q) λρ2 H2 hd2 x2 R2 G2=>?_;have hn2:ρ2[n]?=some a:=by
    obtain⟨r,rfl,_⟩:=x2.pre;rw[List.getElem?_append_left (List.getElem?_eq_some_iff.mp hn).1];exact hn
   obtain⟨ys,e4,e5⟩:=R2.lst hn2 (G2 (n,d) 70);exact⟨ys,SqL.of e4,e5⟩
  .cases hm
 .next ns=>
  cases hm;refine h ρ σ H hd ls _ _ _ hR hL e1 λρ1 H1 v x1 R1 r1=>?_;simp only[RD]at r1;obtain⟨a,rfl,q⟩:=r1;exact hQ ρ1 H1 a x1 R1 (AE _) λρ2 H2 hd2 x2 R2 _=>⟨_,(q.grow (x2.grow R1)).sq,F1⟩
 .cases hm
open Classical in
noncomputable def J4(ma mb:MI):MI:=λls hd=>(ma ls hd).bind λp=>(mb ls p.2).bind λq=>if GOk q.2 p.1.2 then some ((List.zipWith (λx y=>AT [x,y]) p.1.1 q.1.1,p.1.2++q.1.2),q.2)else none
def Zr{t1 t2:Bool}(ha:RRw K t1 ta ma)(hb:RRw K t2 tb mb):RIt K (QM K t1 t2 (BD ta (BD tb Bn))) (J4 ma mb):=by
 intro ρ σ H hd ls Q d g hd' hR hL hm hQ;obtain⟨⟨⟨d1,g1⟩,h1⟩,e1,hm⟩:=gV hm;obtain⟨⟨⟨d2,g2⟩,h2⟩,e2,hm⟩:=gV hm;dsimp only at hm;split at hm
 .next gk=>
  cases hm;refine ha ρ σ H hd ls _ d1 g1 h1 hR hL e1 λρ1 H1 a x1 R1 G1 S1=>?_;refine hb ρ1 σ H1 h1 ls _ d2 g2 _ R1 (hL.ext hR x1) e2 λρ2 H2 b x2 R2 G2 S2=>?_;obtain⟨xs,c1,r1⟩:=S1 ρ2 H2 _ x2 R2 gk;obtain⟨ys,c2,r2⟩:=S2 ρ2 H2 _ .refl R2 G2;refine⟨a,b,xs,ys,rfl,c1,c2,hQ ρ2 H2 _ (x1.trans R1 x2) R2 (λp hp=>(mem_append.mp hp).elim (gk p) (G2 p)) ?_⟩;intro ρ3 H3 hd3 x3 R3 G3 i;obtain⟨xs,c1,r1⟩:=S1 ρ3 H3 _ (x2.trans R2 x3) R3 λp hp=>G3 p (jK _ hp);obtain⟨ys,c2,r2⟩:=S2 ρ3 H3 _ x3 R3 λp hp=>G3 p (j7 _ hp);have l1:=r1.len;have l2:=r2.len;refine⟨λhi=>?_,λhi=>⟨xs,ys,c1,c2,?_⟩⟩
  .simp only[List.length_zipWith]at hi;have i1:d1[i]?=some (d1[i]' 66):=List.getElem?_eq_getElem _;have i2:d2[i]?=some (d2[i]' 66):=List.getElem?_eq_getElem _;obtain⟨x,x4,x5⟩:=r1.get i1;obtain⟨y,y4,y5⟩:=r2.get i2;refine⟨⟨xs,ys,x,y,c1,c2,x4,y4⟩,λz H4 hz=>?_⟩;obtain⟨p,u,v,fp,rfl,rfl,hu,hv⟩:=hz;have eu:=hu xs c1;rw[x4]at eu;cases eu;have ev:=hv ys c2;rw[y4]at ev;cases ev;obtain⟨R4,x6⟩:=R3.hid (ho:=.tup [x,y]) fp;refine⟨ρ3,AT [d1[i]' 66,d2[i]' 66],x6,rfl,R4,?_,By (SqT.of Af) (.cons (x5.ext R3 x6) (.cons (y5.ext R3 x6) .nil))⟩;simp[List.getElem?_zipWith,i1,i2]
  .simp only[List.length_zipWith]at hi;omega
 .cases hm
end
section
variable(K:Frag)
def Ml(h:QE K X e te me):QR K true X e te (Az me):=⟨h.p,ZY h.r⟩
def Xr(h:QE K X e te me):QR K false X e te (BR me):=⟨h.p,X6 h.r⟩
def aa{t1 t2:Bool}{elts:List Expr}{kk:Nat}{tpos p pos:Pos}(hm:X.mg "zip"=none)(ha:QR K t1 X a ta ma)(hb:QR K t2 X b tb mb)(hg:Gl X "zip":=by rfl)(hK:X.K=K:=by rfl)(hs:starEach [a,b] X.env=[(false,eval a X.env),(false,eval b X.env)]:=by rfl)(hs2:starEach [b] X.env=[(false,eval b X.env)]:=by rfl):
 QI K X (.Tuple elts kk tpos) (.Call (.Name "zip" p) [a,b] [] pos) (QM K t1 t2 (BD ta (BD tb Bn))) (J4 ma mb):=⟨YM K hg hm (Bu ha.p (Bu hb.p Ca hs2) (by rw[hs,hs2])) hK hs hs2,Zr ha.r hb.r⟩
end
section
variable{K:Frag}
noncomputable def He(ml:MA)(mb:ME):ME:=λls hd=>(ml ls hd).bind λp=>(mb ls p.2).bind λq=>match q.1 with
 |.im (.int i)=>(atI p.1 i).map (·,q.2)
 |_=>none
def aA(ha:RN K ta ml)(hb:RE K tb mb):RE K (tOp (Lj K) ta tb) (He ml mb):=by
 and_intros;obtain⟨⟨d1,h1⟩,e1,hm⟩:=gV hm;obtain⟨⟨d2,h2⟩,e2,hm⟩:=gV hm;dsimp only at hm;split at hm
 .obtain⟨w,e3,e4⟩:=iS hm;cases e4;refine ha ρ σ H hd ls _ d1 h1 hR hL e1 λρ1 H1 a xs x1 R1 na oa ea r1=>?_;refine hb ρ1 σ H1 h1 ls _ _ _ R1 (hL.ext hR x1) e2 λρ2 H2 v2 x2 R2 r2=>?_;simp only[RD,RI]at r2;subst r2;have r1':=r1.ext R1 x2;obtain⟨j,j1,j2⟩:=P9 r1'.len e3;obtain⟨x,y1,y2⟩:=r1'.get j1;exact .inl ⟨a,xs,_,x,rfl,rfl,SqL.of (x2.keep a _ ea oa nt),j2 x y1,hQ ρ2 H2 x (x1.trans R1 x2) R2 y2⟩
 .cases hm
noncomputable def Gh(neg:Bool)(x y:PyData)(hd:Hd):Option (D×Hd):=if x.canLay0=true/\y.canLay0=true/\min x.depth y.depth<=60 then some (.im (.bl (if neg then !PyData.eqv x y else PyData.eqv x y)),hd)else none
noncomputable def Fa(neg:Bool)(ma:ME)(ml:MA):ME:=λls hd=>(ma ls hd).bind λp=>(ml ls p.2).bind λq=>(pyD q.2 p.1).bind λx=>(B1 q.1).bind λis=>Gh neg x (.list (I.pys is)) q.2
noncomputable def IG(neg:Bool)(ml mk:MA):ME:=λls hd=>(ml ls hd).bind λp=>(mk ls p.2).bind λq=>(B1 p.1).bind λis=>(B1 q.1).bind λjs=>Gh neg (.list (I.pys is)) (.list (I.pys js)) q.2
noncomputable def rEN(K:Frag)(neg:Bool):R2:=λx y H Q=>∃d e,Rep K H d x/\Rep K H e y/\d.canLay0=true/\e.canLay0=true/\min d.depth e.depth<=60/\Q (.bl (if neg then !PyData.eqv d e else PyData.eqv d e)) H
def KH(ea:H a=some (.lst xs))(r:RDs K ρ H ds xs)(e:B1 ds=some is):Rep K H (.list (I.pys is)) (.ref a):=by
 rw[FT e]at r;simp only[Rep];exact⟨a,xs,rfl,SqL.of ea,r.is.rep⟩
def XX{neg:Bool}(ha:RE K ta ma)(hb:RN K tb ml):RE K (tOp (rEN K neg) ta tb) (Fa neg ma ml):=by
 and_intros;obtain⟨⟨d1,h1⟩,e1,hm⟩:=gV hm;obtain⟨⟨d2,h2⟩,e2,hm⟩:=gV hm;obtain⟨x,e3,hm⟩:=gV hm;obtain⟨is,e4,hm⟩:=gV hm;unfold Gh at hm;split at hm
 .next c=>
  cases hm;refine ha ρ σ H hd ls _ d1 h1 hR hL e1 λρ1 H1 v x1 R1 r1=>?_;refine hb ρ1 σ H1 h1 ls _ d2 _ R1 (hL.ext hR x1) e2 λρ2 H2 a xs x2 R2 na oa ea r2=>?_;exact⟨_,_,Dz R2 (r1.ext R1 x2) e3,KH ea r2 e4,c.1,c.2.1,c.2.2,hQ ρ2 H2 _ (x1.trans R1 x2) R2 (by simp[RD,RI])⟩
 .cases hm
def XW{neg:Bool}(ha:RN K ta ml)(hb:RN K tb mk):RE K (tOp (rEN K neg) ta tb) (IG neg ml mk):=by
 and_intros;obtain⟨⟨d1,h1⟩,e1,hm⟩:=gV hm;obtain⟨⟨d2,h2⟩,e2,hm⟩:=gV hm;obtain⟨is,e4,hm⟩:=gV hm;obtain⟨js,e3,hm⟩:=gV hm;unfold Gh at hm;split at hm
 .next c=>
  cases hm;refine ha ρ σ H hd ls _ d1 h1 hR hL e1 λρ1 H1 a xs x1 R1 na oa ea r1=>?_;refine hb ρ1 σ H1 h1 ls _ d2 _ R1 (hL.ext hR x1) e2 λρ2 H2 b ys x2 R2 nb ob eb r2=>?_;exact⟨_,_,KH (x2.keep a _ ea oa nt) (r1.ext R1 x2) e4,KH eb r2 e3,c.1,c.2.1,c.2.2,hQ ρ2 H2 _ (x1.trans R1 x2) R2 (by simp[RD,RI])⟩
 .cases hm
end
def SV(K:Frag){X:Cx}(hu:X.A.units+64<cLine)(hK:X.K=K:=by rfl):OpR X (compareOp .NotEq) (rEN K true):=I0 K hu hK
section
variable(K:Frag){e:Expr}{te:TE}{me:ME}{neg:Bool}
def b0(ha:QN K X a ta m)(hb:QE K X b tb mb)(hs:Ko b:=by exact λ_ _=>rfl)(hK:X.K=K:=by rfl):QE K X (.Subscript a b pos) (tOp (Lj K) ta tb) (He m mb):=⟨WC ((N7 K hK).or (Oj K hK)) ha.p hb.p hs,aA ha.r hb.r⟩
def Xh(ho:OpR X (compareOp op) (rEN K neg))(ha:QE K X a ta ma)(hb:QN K X b tb m)(hm:behindInMarks op b=false:=by first|exact G7 _|rfl):QT K X (.Compare a [op] [b] pos) (Hv (tOp (rEN K neg) ta tb)) (AG (Fa neg ma m)):=⟨Hz ho ha.p hb.p hm,Dv (XX ha.r hb.r)⟩
def Xg(ho:OpR X (compareOp op) (rEN K neg))(ha:QN K X a ta m)(hb:QN K X b tb mk)(hm:behindInMarks op b=false:=by first|exact G7 _|rfl):QT K X (.Compare a [op] [b] pos) (Hv (tOp (rEN K neg) ta tb)) (AG (IG neg m mk)):=⟨Hz ho ha.p hb.p hm,Dv (XW ha.r hb.r)⟩
end
noncomputable def CZ(lo:Int):Nat->List V
 |0=>[]
 |n+1=>.int lo::CZ (lo+1) n
def Pq(lo:Int)(n:Nat):(CZ lo n).length=n:=by
 induction n generalizing lo with
 |zero=>rfl
 |succ n ih=>simp[CZ,ih]
def Mh{K:Frag}(lo:Int)(n:Nat):RDs K ρ H (AI lo n) (CZ lo n):=by
 induction n generalizing lo with
 |zero=>simp[AI,CZ,RDs]
 |succ n ih=>exact .cons (by simp[RD,RI]) (ih _)
theorem Jf{lo:Int}:∀{n:Nat} {us:List Value},us.length=n->(∀(j:Nat) (v:Value),us[j]?=some v->∃t,v=.int (lo+j*1) t)->Vals (CZ lo n) us
 |0,us,h,_=>by
  have:us=[]:=List.length_eq_zero_iff.mp h;subst this;exact .nil
 |n+1,[],h,_=>by simp at h
 |n+1,u::us,h,k=>by
  obtain⟨t,e⟩:=k 0 u rfl;refine .cons ⟨t,by rw[e];simp⟩ (Jf (by simpa using h) λj v q=>?_);obtain⟨t',e'⟩:=k (j+1) v (by simpa using q);exact⟨t',by rw[e'];congr 1;push_cast;omega⟩
def OO:List V->Hp->VK->Prop:=λxs H Q=>∃j:Int,xs=[.int j]/\∀p,H p=none->Q (.ref p) (upd H p (.rng 0 j))
def ON:List V->Hp->VK->Prop:=λxs H Q=>∃i j:Int,xs=[.int i,.int j]/\∀p,H p=none->Q (.ref p) (upd H p (.rng i j))
def Mk:List V->Hp->VK->Prop:=λxs H Q=>∃a lo hi,xs=[.ref a]/\H a=some (.rng lo hi)/\(-(2^62)<=lo/\lo<2^62/\-(2^62)<=hi/\hi<2^62)/\(hi-lo).toNat<=2^24/\∀p,H p=none->Q (.ref p) (upd H p (.lst (CZ lo (hi-lo).toNat)))
section
def call_rng1:CallR X (.type "range") OO:=by
 intro pins s σ H xs us Q I r h;obtain⟨j,rfl,q⟩:=h;obtain⟨u,rfl,t,rfl⟩:=CJ r;exact call_range_1 ⟨.ref 67,_,I.laid (a:=67) (o:=.rng 0 j) (λb o e=>74 _ e) (iq _) ⟨_,_,_,85 _ rfl⟩,rfl,q _ (I.hok.fresh (iq _))⟩
def TN:CallR X (.type "range") ON:=by
 intro pins s σ H xs us Q I r h;obtain⟨i,j,rfl,q⟩:=h;obtain⟨u,v,rfl,⟨t,rfl⟩,⟨t',rfl⟩⟩:=Ld r;exact call_range_2 ⟨.ref 67,_,I.laid (a:=67) (o:=.rng i j) (λb o e=>74 _ e) (iq _) ⟨_,_,_,85 _ rfl⟩,rfl,q _ (I.hok.fresh (iq _))⟩
def dq{lo hi:Int}:Builtin.Range.rangeSize lo hi 1=((hi-lo).toNat:Nat):=by rw[rangeSize_one];split<;>omega
def QH{lo:Int}{n:Nat}(it:ItemsOf (λi v=>∃t,v=.int (lo+i*1) t) acc n):Vals (CZ lo n) acc.toList:=Jf (by simpa using it.1) λj v q=>it.2 j v (by simpa using q)
def Qj(hc:X.calm=true):CallR X (.type "list") Mk:=by
 intro pins s σ H xs us Q I r h;obtain⟨a,lo,hi,rfl,ha,⟨b1,b2,b3,b4⟩,hz,q⟩:=h;obtain⟨u,rfl,ru⟩:=CJ r;cases ru;obtain⟨t,u,v,hr⟩:∃t u v,s.heap.get? a=some { cls:=.type "range",data:=.fields #[.int lo t,.int hi u,.int 1 v] }:=I.hok a _ ha;refine call_list_range (I.ok.hd hc) hr (small_one b1 b2 b3 b4) dq hz λg tk acc c' kp e it=>?_;exact⟨.ref 67,_,I.laid (t':=tk) (o:=.lst _) kp (iq _) ⟨by rw[Pq,km];omega,acc.toList,c',QH it,by simpa using e⟩,rfl,q _ (I.hok.fresh (iq _))⟩
end
section
variable{K:Frag}
open Classical in
noncomputable def J5(m:MA):MA:=λls hd=>(m ls hd).bind λp=>match p.1 with
 |[.im (.int j)]=>if Lh j then some (AI 0 j.toNat,p.2)else none
 |[.im (.int i),.im (.int j)]=>if Vw i j then some (AI i (j-i).toNat,p.2)else none
 |_=>none
def SG:List V->Hp->VK->Prop:=λxs H Q=>OO xs H Q∨ON xs H Q
def UN(h:RA K t m):RN K (tCB Mk (BD (tCB SG t) Bn)) (J5 m):=by
 and_intros;obtain⟨⟨d1,h1⟩,e1,hm⟩:=gV hm;dsimp only at hm;refine h ρ σ H hd ls _ d1 h1 hR hL e1 λρ1 H1 v x1 R1 r1=>?_;split at hm
 .next j=>
  split at hm
  .next c=>
   have c:j<2^24/\-(2^62)<=j:=c;cases hm;simp only[RDs,RD,RI]at r1;obtain⟨x,r,rfl,rfl,rfl⟩:=r1;refine .inl ⟨j,rfl,λp hp=>⟨p,0,j,rfl,Af,⟨by decide,by decide,c.2,by omega⟩,by omega,λl hl=>?_⟩⟩;obtain⟨R2,x2⟩:=R1.hid (ho:=.rng 0 j) hp;obtain⟨R3,x3⟩:=R2.hid (ho:=.lst (CZ 0 (j-0).toNat)) hl;refine hQ ρ1 _ l (CZ 0 (j-0).toNat) ((x1.trans R1 x2).trans R2 x3) R3 ((x1.trans R1 x2).none hR hl R2) (R2.out hl) Af ?_;rw[Int.sub_zero];exact Mh 0 _
  .cases hm
 .next i j=>
  split at hm
  .next c=>
   cases hm;simp only[RDs,RD,RI]at r1;obtain⟨x,r,rfl,rfl,y,r2,rfl,rfl,rfl⟩:=r1;refine .inr ⟨i,j,rfl,λp hp=>⟨p,i,j,rfl,Af,⟨c.1.1,c.1.2,c.2.1.1,c.2.1.2⟩,c.2.2,λl hl=>?_⟩⟩;obtain⟨R2,x2⟩:=R1.hid (ho:=.rng i j) hp;obtain⟨R3,x3⟩:=R2.hid (ho:=.lst (CZ i (j-i).toNat)) hl;exact hQ ρ1 _ l (CZ i (j-i).toNat) ((x1.trans R1 x2).trans R2 x3) R3 ((x1.trans R1 x2).none hR hl R2) (R2.out hl) Af (Mh i _)
  .cases hm
 .cases hm
def G4:∀{xs ys:List Int},xs.Perm ys->xs.Pairwise (·<=·)->ys.Pairwise (·<=·)->xs=ys:=λ{xs ys} p a b=>
 p.eq_of_pairwise (le:=(·<=·)) (λ_ _ _ _ h1 h2=>Int.le_antisymm h1 h2) a b
noncomputable def B3(xs:List Int):List Int:=xs.mergeSort (λa b=>decide (a<=b))
def Ct(xs:List Int):(B3 xs).Perm xs:=List.mergeSort_perm ..
def DY(xs:List Int):(B3 xs).Pairwise (·<=·):=by
 have:=List.pairwise_mergeSort (le:=λa b:Int=>decide (a<=b)) (by intro a b c h1 h2;simp at *;omega) (by intro a b;simp;omega) xs;exact this.imp 70
noncomputable def Bv(m:MI):MA:=λls hd=>(m ls hd).bind λp=>(B4 p.1.1).bind λns=>if ns.length<64 then some ((B3 ns).map λi=>.im (.int i),p.2)else none
def Pn(h:RRw K false t m):RN K (tCB (KI K) (BD t Bn)) (Bv m):=by
 and_intros;obtain⟨⟨⟨d1,g1⟩,h1⟩,e1,hm⟩:=gV hm;obtain⟨ns,e2,hm⟩:=gV hm;split at hm
 .next c=>
  cases hm;refine h ρ σ H hd ls _ d1 g1 _ hR hL e1 λρ1 H1 a x1 R1 G1 S1=>?_;obtain⟨xs,q,r⟩:=S1 ρ1 H1 _ .refl R1 G1;have e3:d1=ns.map λi=>.im (.int i):=E6 e2;rw[e3]at r;have:=F0 r;subst this;refine⟨a,ns,rfl,q,c,λp ns' hp pm pw=>?_⟩;have:ns'=B3 ns:=G4 (pm.trans (Ct ns).symm) pw (DY ns);subst this;obtain⟨R2,x2⟩:=R1.hid (ho:=.lst ((B3 ns).map V.int)) hp;exact hQ ρ1 _ p _ (x1.trans R1 x2) R2 (x1.none hR hp R1) (R1.out hp) Af F1
 .cases hm
end
section
variable(K:Frag){X:Cx}{b:Expr}{ta tb:TE}{me:ME}
def Ui(hm:X.mg "list"=none)(hm2:X.mg "range"=none)(ha:QA K X (a::es) t m)(hc:X.calm=true:=by rfl)(hg:Gl X "list":=by rfl)(hg2:Gl X "range":=by rfl)(he2:starEach (a::es) X.env=(false,eval a X.env)::starEach es X.env:=by rfl)(hpl:(backTo pos2 (starEach es X.env)).any (·.1)=false:=by rfl)
 (he:starEach [.Call (.Name "range" p2) (a::es) [] pos2] X.env=[(false,eval (.Call (.Name "range" p2) (a::es) [] pos2) X.env)]:=by rfl):
 QN K X (.Call (.Name "list" p) [.Call (.Name "range" p2) (a::es) [] pos2] [] pos) (tCB Mk (BD (tCB SG t) Bn)) (J5 m):=
 ⟨EQ (Qj hc) hg hm P6 (Bu (EQ (call_rng1.or TN) hg2 hm2 boot_range ha.p 80 80 he2 hpl) Ca he) 80 80 he rfl,UN ha.r⟩
def Pw(hm:X.mg "sorted"=none)(ha:QR K false X e te mi)(hg:Gl X "sorted":=by rfl)(he:starEach [e] X.env=[(false,eval e X.env)]:=by rfl)(hK:X.K=K:=by rfl):QN K X (.Call (.Name "sorted" p) [e] [] pos) (tCB (KI K) (BD te Bn)) (Bv mi):=
 ⟨E2 (NU K hK) hg hm Hq (Bu ha.p Ca he) 80 80 he rfl,Pn ha.r⟩
end
end L2
namespace L2
structure BltA(mg:PySem.Str->Option PySem.Value):Prop where
 list:mg "list"=none
 tuple:mg "tuple"=none
 len:mg "len"=none
 range:mg "range"=none
 repr:mg "repr"=none
 sum:mg "sum"=none
 min:mg "min"=none
 max:mg "max"=none
 abs:mg "abs"=none
 all:mg "all"=none
 any:mg "any"=none
 sorted:mg "sorted"=none
 zip:mg "zip"=none
 isinstance:mg "isinstance"=none
 int:mg "int"=none
 bool:mg "bool"=none
 str:mg "str"=none
 set:mg "set"=none
 enumerate:mg "enumerate"=none
 reversed:mg "reversed"=none
 dict:mg "dict"=none
end L2
namespace L2
open PySem PySem.Spec PyProof.Rows
section
variable{ls:Ls}{hd:Hd}{a b c:MS}{ma mb mc:ME}{ta tb:MT}{m m1 m2:MA}{n:MG}{ns:MGs}{d e:D}
@[simp] theorem Jx:A9 a b ls hd=(a ls hd).bind λp=>match p.1 with
 |.nx ls1=>b ls1 p.2
 |f=>some (f,p.2):=rfl
@[simp] theorem Os:Ah ls hd=some (.nx ls,hd):=rfl
@[simp] theorem Z8:BF ma ls hd=(ma ls hd).bind λp=>some (.nx ls,p.2):=rfl
@[simp] theorem T5:AR ma ls hd=(ma ls hd).bind λp=>some (.rt p.1,p.2):=rfl
@[simp] theorem NG:Ax ta a b ls hd=(ta ls hd).bind λp=>if p.1=true then a ls p.2 else b ls p.2:=rfl
@[simp] theorem Jy:Ec ma n ls hd=(ma ls hd).bind λp=>(n p.1 ls p.2).map λls'=>(.nx ls',p.2):=rfl
@[simp] theorem Kb(i:Nat):AB i d ls hd=some (ls.set i (some d)):=rfl
@[simp] theorem gL(k:Nat):BB k ns d ls hd=(AN d).bind λds=>if 82=k then ns ds ls hd else none:=rfl
@[simp] theorem fk(d:D)(ds:List D):AJ n ns (d::ds) ls hd=(n d ls hd).bind λls1=>ns ds ls1 hd:=rfl
@[simp] theorem gN:BG [] ls hd=some ls:=rfl
@[simp] theorem cw(ix:71):D3 ix m ls hd=(m ls hd).bind λp=>if p.1.length=ix.length then some (.nx ((ix.zip p.1).foldl (λl q=>l.set q.1 (some q.2)) ls),p.2)else none:=rfl
@[simp] theorem gK(i j k:Nat):IB i j k m ls hd=D3 [k,j,i] (λls hd=>(m ls hd).map λp=>(p.1.reverse,p.2)) ls hd:=rfl
@[simp] theorem Di(i:Nat):A0 i ls hd=match ls[i]? with
 |some (some d)=>some (d,hd)
 |_=>none:=rfl
@[simp] theorem iR(i:I):mC i ls hd=some (.im i,hd):=rfl
@[simp] theorem Qa(f:D->D->Hd->Option (D×Hd)):mOp f ma mb ls hd=(ma ls hd).bind λp=>(mb ls p.2).bind λq=>f p.1 q.1 q.2:=rfl
@[simp] theorem NI:DO ta tb ls hd=(ta ls hd).bind λp=>if p.1=true then tb ls p.2 else some (false,p.2):=rfl
@[simp] theorem i8:mOr ta tb ls hd=(ta ls hd).bind λp=>if p.1=true then some (true,p.2)else tb ls p.2:=rfl
@[simp] theorem gj:CQ ta ls hd=(ta ls hd).bind λp=>some (!p.1,p.2):=rfl
@[simp] theorem Jw:BH ma ls hd=(ma ls hd).bind λp=>(Ck p.2 p.1).map (·,p.2):=rfl
@[simp] theorem IK:AG ma ls hd=(ma ls hd).bind λp=>match p.1 with
 |.im (.bl b)=>some (b,p.2)
 |_=>none:=rfl
@[simp] theorem i9:mIf ta ma mb ls hd=(ta ls hd).bind λp=>if p.1=true then ma ls p.2 else mb ls p.2:=rfl
@[simp] theorem gS:De ma mb ls hd=(AG ma ls hd).bind λp=>if p.1=true then mb ls p.2 else some (.im (.bl false),p.2):=rfl
@[simp] theorem gM:IC ma ls hd=(AG ma ls hd).bind λp=>some (.im (.bl (!p.1)),p.2):=rfl
@[simp] theorem NE:A4 ls hd=some ([],hd):=rfl
@[simp] theorem Ot:A2 ma m ls hd=(ma ls hd).bind λp=>(m ls p.2).bind λq=>some (p.1::q.1,q.2):=rfl
open Classical in
@[simp] theorem gh:Aw m ls hd=(m ls hd).bind λp=>if C6 p.1.length then some (AT p.1,p.2)else none:=rfl
open Classical in
@[simp] theorem cz:Ba m ls hd=(m ls hd).bind λp=>if C6 p.1.length then some (p.1,p.2)else none:=rfl
@[simp] theorem cx:Ag m ls hd=(m ls hd).bind λp=>some (.mu p.2.length,p.2++[.lst p.1]):=rfl
@[simp] theorem cy:J7 ma ls hd=(ma ls hd).bind λp=>match p.1 with
 |.im (.int i)=>some (.im (.int (-i)),p.2)
 |_=>none:=rfl
@[simp] theorem gm(neg:Bool):Fh neg ma ls hd=(ma ls hd).bind λp=>some (.im (.bl (match p.1 with
 |.im .non=>!neg
 | _=>neg)),p.2):=rfl
@[simp] theorem iA(g:Int->Int->Option I)(i j:Int):fI g (.im (.int i)) (.im (.int j)) hd=(g i j).map (.im ·,hd):=rfl
@[simp] theorem Kc(f g:D->D->Hd->Option (D×Hd)):CS f g d e hd=match f d e hd with
 |some z=>some z
 |none=>g d e hd:=rfl
@[simp] theorem NH(neg:Bool)(i j:Int):Fj neg (.im (.int i)) (.im (.int j)) hd=some (.im (.bl (if neg then !decide (i=j)else decide (i=j))),hd):=by
 have q:MH (.int i) (.int j)=true:=rfl;simp[Fj,scI,q]
@[simp] theorem gp(neg:Bool)(i j:Str):Fj neg (.im (.str i)) (.im (.str j)) hd=some (.im (.bl (if neg then !decide (i=j)else decide (i=j))),hd):=by
 have q:MH (.str i) (.str j)=true:=rfl;simp[Fj,scI,q]
@[simp] theorem fF(i:Int):gIx d (.im (.int i)) hd=(As hd d).bind λds=>(atI ds i).map (·,hd):=rfl
@[simp] theorem iB(f:List D->Hd->Option (D×Hd)):mCB f m ls hd=(m ls hd).bind λp=>f p.1 p.2:=rfl
@[simp] theorem fG(tp:Bool)(g:List D->Option D):f1 tp g [d] hd=((if tp then As hd d else Ap hd d)).bind λds=>(g ds).map (·,hd):=rfl
@[simp] theorem T6(g:List D->Option D):BM g m ls hd=(m ls hd).bind λp=>(g p.1).map (·,p.2):=rfl
@[simp] theorem Qb(f:D->List D->Hd->Option (D×Hd)):mMt f ma m ls hd=(ma ls hd).bind λp=>match Ap p.2 p.1 with
 |some _=>(m ls p.2).bind λq=>f p.1 q.1 q.2
 |none=>none:=rfl
@[simp] theorem gP(i j:Int):WZ [.im (.int i),.im (.int j)] hd=some (.im (.int (if j>i then j else i)),hd):=rfl
@[simp] theorem gO(i j:Int):IJ [.im (.int i),.im (.int j)] hd=some (.im (.int (if j<i then j else i)),hd):=rfl
@[simp] theorem gq(i:Int):Ka [.im (.int i)] hd=some (.im (.int (if i<0 then -i else i)),hd):=rfl
@[simp] theorem d0:He m ma ls hd=(m ls hd).bind λp=>(ma ls p.2).bind λq=>match q.1 with
 |.im (.int i)=>(atI p.1 i).map (·,q.2)
 |_=>none:=rfl
@[simp] theorem d6:Az ma ls hd=(ma ls hd).bind λp=>(AN p.1).map λds=>((ds,[]),p.2):=rfl
@[simp] theorem d8:cM m ls hd=(m ls hd).map λp=>((p.1,[]),p.2):=rfl
@[simp] theorem NF:BR ma ls hd=(ma ls hd).bind λp=>match p.1 with
 |.mu n=>match p.2[n]? with
  |some (.lst ds)=>some ((ds,[(n,ds)]),p.2)
  |_=>none
 |.ro ns=>some ((ns.map λn=>.im (.int n),[]),p.2)
 |_=>none:=rfl
open Classical in
@[simp] theorem d7:CL m ls hd=(m ls hd).bind λp=>match p.1 with
 |[.im (.int j)]=>if HQ j then some ((AI 0 j.toNat,[]),p.2)else none
 |_=>none:=rfl
open Classical in
@[simp] theorem Z7:IE m ls hd=(m ls hd).bind λp=>match p.1 with
 |[.im (.int i),.im (.int j)]=>if Pj i j then some ((AI i (j-i).toNat,[]),p.2)else none
 |_=>none:=rfl
@[simp] theorem d9(mi:MI):Bo mi n a ls hd=(mi ls hd).bind λp=>C4 n a p.1.2 p.1.1 ls p.2:=rfl
open Classical in
@[simp] theorem gR(k:Nat)(ix:71)(mi:MI):Ai k ix mi n ta ma ls hd=(mi ls hd).bind λp=>if C6 p.1.1.length then BS n ta ma p.1.2 p.1.1 (Dl k ix ls) p.2 else none:=rfl
@[simp] theorem gf:B2 ls hd=some (true,hd):=rfl
@[simp] theorem fo(F:List D->Hd->Option (D×Hd)):Cb F m ls hd=(m ls hd).bind λp=>F p.1 p.2:=rfl
@[simp] theorem fS:B6 ls hd=some (none,hd):=rfl
@[simp] theorem Z5:Bf ma ls hd=(ma ls hd).bind λp=>match p.1 with
 |.im (.int i)=>some (some i,p.2)
 |_=>none:=rfl
@[simp] theorem fm:Hc m ls hd=m ls hd:=rfl
@[simp] theorem cu(ml mh:MO1):Fg ma ml mh ls hd=(ma ls hd).bind λp=>(ml ls p.2).bind λl=>(mh ls l.2).bind λh=>(Ap h.2 p.1).bind λds=>some (C7 ds l.1 h.1,h.2):=rfl
open Classical in
@[simp] theorem cv:J5 m ls hd=(m ls hd).bind λp=>match p.1 with
 |[.im (.int j)]=>if Lh j then some (AI 0 j.toNat,p.2)else none
 |[.im (.int i),.im (.int j)]=>if Vw i j then some (AI i (j-i).toNat,p.2)else none
 |_=>none:=rfl
@[simp] theorem T4(mi:MI):Bv mi ls hd=(mi ls hd).bind λp=>(B4 p.1.1).bind λns=>if ns.length<64 then some ((B3 ns).map λi=>.im (.int i),p.2)else none:=rfl
open Classical in
@[simp] theorem gQ:f9 ma mb mc ls hd=(mc ls hd).bind λp=>(ma ls p.2).bind λq=>(mb ls q.2).bind λr=>(QD r.1).bind λk=>match q.1 with
 |.mu n=>match r.2[n]? with
  |some (.dic kvs)=>if EH kvs.length then some (.nx ls,r.2.set n (.dic (bF kvs k p.1)))else none
  |_=>none
 |_=>none:=rfl
@[simp] theorem Z6:Es ma mb mc ls hd=(mc ls hd).bind λp=>(ma ls p.2).bind λq=>(mb ls q.2).bind λr=>match q.1,r.1 with
 |.mu n,.im (.int i)=>match r.2[n]? with
  |some (.lst ds)=>(ixN 82 i).map λj=>(.nx ls,r.2.set n (.lst (ds.set j p.1)))
  |_=>none
 |_,_=>none:=rfl
@[simp] theorem gT(is:List I):AN (.im (.tup is))=some (is.map .im):=rfl
@[simp] theorem gy(ds:List D):AN (.tm ds)=some ds:=rfl
@[simp] theorem hJ(k:Nat):AN (.mu k)=none:=rfl
@[simp] theorem gz(k:List Int):AN (.ro k)=none:=rfl
@[simp] theorem gZ(is:List I):As hd (.im (.tup is))=some (is.map .im):=rfl
@[simp] theorem i0(ds:List D):As hd (.tm ds)=some ds:=rfl
@[simp] theorem dk(k:Nat):As hd (.mu k)=Ap hd (.mu k):=rfl
@[simp] theorem i3(k:List Int):As hd (.ro k)=some (k.map λn=>.im (.int n)):=rfl
@[simp] theorem Ln(k:Nat):Ap hd (.mu k)=match hd[k]? with
 |some (.lst ds)=>some ds
 |_=>none:=rfl
@[simp] theorem i5(k:List Int):Ap hd (.ro k)=some (k.map λn=>.im (.int n)):=rfl
@[simp] theorem iC(k:Nat):ZB hd (.mu k)=match hd[k]? with
 |some (.dic ds)=>some ds
 |_=>none:=rfl
@[simp] theorem i7(i:Int):QD (.im (.int i))=some (.inl i):=rfl
@[simp] theorem i6(i:Str):QD (.im (.str i))=some (.inr i):=rfl
@[simp] theorem gx:B1 []=some []:=rfl
@[simp] theorem iE(i:I)(r:List D):B1 (.im i::r)=(B1 r).map (i::·):=rfl
@[simp] theorem ga:B4 []=some []:=rfl
@[simp] theorem gc(i:Int)(r:List D):B4 (.im (.int i)::r)=(B4 r).map (i::·):=rfl
@[simp] theorem gw:CN []=some []:=rfl
@[simp] theorem iD(i:Bool)(r:List D):CN (.im (.bl i)::r)=(CN r).map (i::·):=rfl
@[simp] theorem BL(is:List I):AT (is.map .im)=.im (.tup is):=by simp[AT]
@[simp] theorem Sf:AT []=.im (.tup []):=rfl
@[simp] theorem gJ(i:I):AT [.im i]=.im (.tup [i]):=rfl
@[simp] theorem gI(i j:I):AT [.im i,.im j]=.im (.tup [i,j]):=rfl
@[simp] theorem gH(i j k:I):AT [.im i,.im j,.im k]=.im (.tup [i,j,k]):=rfl
@[simp] theorem gG(i j k l:I):AT [.im i,.im j,.im k,.im l]=.im (.tup [i,j,k,l]):=rfl
@[simp] theorem gv(w:Nat)(i:I):clD w (.im i)=true:=by simp[clD]
@[simp] theorem gu(w n:Nat):clD w (.mu n)=decide (n<w):=by simp[clD]
@[simp] theorem fq(w:Nat):Ay w []=true:=by simp[Ay]
@[simp] theorem TK(w:Nat)(d:D)(ds:List D):Ay w (d::ds)=(clD w d&&Ay w ds):=by simp[Ay]
@[simp] theorem Cq{α:Type}(x:α)(r:List α):atI (x::r) 0=some x:=DT (j:=0) rfl
@[simp] theorem Dm{α:Type}(x y:α)(r:List α):atI (x::y::r) 1=some y:=DT (j:=1) rfl
@[simp] theorem Kl{α:Type}(x y z:α)(r:List α):atI (x::y::z::r) 2=some z:=DT (j:=2) rfl
def CW{α:Type}{xs:List α}{i:Int}{k:Nat}{x:α}(hi:i=k)(h:xs[k]?=some x):atI xs i=some x:=by subst hi;exact DT h
@[simp] theorem Cc:C6 0:=AQ 80
@[simp] theorem EU:C6 1:=AQ 80
@[simp] theorem FR:C6 2:=AQ 80
@[simp] theorem Jv:C6 3:=AQ 80
@[simp] theorem cr:C6 4:=AQ 80
@[simp] theorem cq:C6 5:=AQ 80
open Classical in
@[simp] theorem T7(k:Nat)(x:D):Au (.mu k) [x] hd=match hd[k]? with
 |some (.lst ds)=>if EH 82 then some (.im .non,hd.set k (.lst (ds++[x])))else none
 |_=>none:=rfl
def LK{F:List D->Hd->Option (D×Hd)}(h1:m ls hd=some (ds,hd1))(hc:Ay 0 ds=true)(hF:F ds []=some (.im i,h2)):A8 0 F m ls hd=some (.im i,hd1):=by
 simp[A8,h1,hc,hF,fin]
def NX{w:Nat}{F:List D->Hd->Option (D×Hd)}{pre pre' rest:Hd}(hw:pre.length=w)(hw':pre'.length=w)(h1:m ls hd=some (ds,pre++rest))(hc:Ay w ds=true)(hp:pre.all (clO w)=true)(hp':pre'.all (clO w)=true)(hF:F ds pre=some (.im i,pre'++g)):A8 w F m ls hd=some (.im i,pre'++rest):=by
 subst hw;have e1:(pre++rest).take pre.length=pre:=by simp
 have e2:(pre'++g).take pre.length=pre':=by rw[<- hw'];simp
 simp only[A8,h1,ik,e1,hc,hp,hF,fin,e2,hp'];simp
end
def VJ:C4 n b g [] ls hd=some (.nx ls,hd):=by unfold C4;rfl
def L3(h1:n d ls hd=some ls1)(h2:b ls1 hd=some (.nx ls2,hd2))(h3:GOk hd2 g):C4 n b g (d::r) ls hd=C4 n b g r ls2 hd2:=by
 conv=>lhs;unfold C4
 simp[h1,h2,h3]
noncomputable abbrev LC2(elt tg iter:Expr)(ifs:List Expr)(tg2 iter2:Expr)(ifs2:List Expr)(scope:Scope)(pos:Pos):Expr:=.ListComp elt [⟨tg,iter,ifs,0⟩,⟨tg2,iter2,ifs2,0⟩] scope pos
def Wp(elt tg iter:Expr)(ifs:List Expr)(tg2 iter2:Expr)(ifs2:List Expr)(scope:Scope)(pos:Pos)(it acc:Value)(env:Env):
 compTurn (LC2 elt tg iter ifs tg2 iter2 ifs2 scope pos) 0 it acc env=(do
  standAt iter.pos
  match <- pyNext it with
  |none=>pure (.done .next)
  |some v=>
   letOwnedTupleGo tg it v
   assign tg env v
   let mut ok:=true
   for c in ifs do
    if ok then ok <- isTrue c env (eval c env)
   if ok then
    let x <- eval iter2 env
    standAt iter2.pos
    let x <- foldedSetIterable iter2 env x
    let _ <- runOwn (.compStart (LC2 elt tg iter ifs tg2 iter2 ifs2 scope pos) 1 (<- holding [x] (pyIter x)) acc env) env
   again (.compLoop (LC2 elt tg iter ifs tg2 iter2 ifs2 scope pos) 0 it acc env)):=by rfl
def Wo(elt tg iter:Expr)(ifs:List Expr)(tg2 iter2:Expr)(ifs2:List Expr)(scope:Scope)(pos:Pos)(it acc:Value)(env:Env):
 compTurn (LC2 elt tg iter ifs tg2 iter2 ifs2 scope pos) 1 it acc env=(do
  standAt iter2.pos
  match <- pyNext it with
  |none=>pure (.done .next)
  |some v=>
   letOwnedTupleGo tg2 it v
   assign tg2 env v
   let mut ok:=true
   for c in ifs2 do
    if ok then ok <- isTrue c env (eval c env)
   if ok then
    (do let _ <- call (.builtin "list.append") [acc,<- eval elt env])
   again (.compLoop (LC2 elt tg iter ifs tg2 iter2 ifs2 scope pos) 1 it acc env)):=by rfl
section
variable{R:Result->Shared->Prop}{iter tg2:Expr}
def Yr(I:Nat->Shared->Prop)
 (turn:∀n s,I n s->wpAny 87 A (pyNext it) (λr s₁=>match r with
  |none=>R (.ok .next) s₁
  | some v=>wpAny 87 A (letOwnedTupleGo tg2 it v) (λ_ s₁=>wpAny 87 A (assign tg2 env v) (λ_ s₂=>
   wpAny 87 A (forIn ifs2 true λc r=>if r=true then do let ok <- isTrue c env (eval c env);pure (ForInStep.yield ok)else pure (ForInStep.yield r)) (λok s₃=>
    if ok=true then wpAny 87 A (eval elt env) (λx s₄=>
     wpAny 87 A (call (.builtin "list.append") [acc,x]) (λ_ s₅=>∃m,m<n/\I m s₅) (λ_ _=>False) s₄) (λ_ _=>False) s₃
    else ∃m,m<n/\I m s₃) (λ_ _=>False) s₂) (λ_ _=>False) s₁) (λ_ _=>False) s₁) (λ_ _=>False) s)
 (n:Nat) (h:I n s):codeAny 87 A (.compLoop (LC2 elt tg iter ifs tg2 iter2 ifs2 scope pos) 1 it acc env) R s:=by
 refine codeAny_loop rfl I (λn s hI=>?_) n h;show wpAny _ A ((compTurn (LC2 elt tg iter ifs tg2 iter2 ifs2 scope pos) 1 it acc env).onRaise (λx=>do noteFrame x env;theTreesLotGoes x)) _ _ s;refine wpAny_noted ?_;rw[Wo];refine ie (jG (ie (j0 (turn n s hI) (λr s₁ h₁=>?_) λ_ _ h'=>h'.elim)));cases r with
 |none=>exact ip h₁
 |some v=>
  refine ie (j0 h₁ (λ_ s₁ h₁=>?_) λ_ _ h'=>h'.elim);refine ie (j0 h₁ (λ_ s₂ h₂=>ie (j0 h₂ (λok s₃ h₃=>?_) λ_ _ h'=>h'.elim)) λ_ _ h'=>h'.elim);cases ok with
  |false=>exact ip ⟨rfl,h₃⟩
  |true=>
   exact ie (ie (j0 h₃ (λx s₄ h₄=>ie (j0 h₄ (λ_ s₅ h₅=>ip (ip ⟨rfl,h₅⟩)) λ_ _ h'=>h'.elim)) λ_ _ h'=>h'.elim))
def Ys(hs:∀x,foldedSetIterable iter2 env x=pure x)(I:Nat->Shared->Prop)
 (turn:∀n s,I n s->wpAny 87 A (pyNext it) (λr s₁=>match r with
  |none=>R (.ok .next) s₁
  | some v=>wpAny 87 A (letOwnedTupleGo tg it v) (λ_ s₁=>wpAny 87 A (assign tg env v) (λ_ s₂=>
   wpAny 87 A (forIn ifs true λc r=>if r=true then do let ok <- isTrue c env (eval c env);pure (ForInStep.yield ok)else pure (ForInStep.yield r)) (λok s₃=>
    if ok=true then wpAny 87 A (eval iter2 env) (λx s₄=>wpAny 87 A (pyIter x) (λit2 s₅=>
     codeAny 87 A (.compStart (LC2 elt tg iter ifs tg2 iter2 ifs2 scope pos) 1 it2 acc env) (λr s₆=>r=.ok .next/\∃m,m<n/\I m s₆) s₅) (λ_ _=>False) s₄) (λ_ _=>False) s₃
    else ∃m,m<n/\I m s₃) (λ_ _=>False) s₂) (λ_ _=>False) s₁) (λ_ _=>False) s₁) (λ_ _=>False) s)
 (n:Nat) (h:I n s):codeAny 87 A (.compLoop (LC2 elt tg iter ifs tg2 iter2 ifs2 scope pos) 0 it acc env) R s:=by
 refine codeAny_loop rfl I (λn s hI=>?_) n h;show wpAny _ A ((compTurn (LC2 elt tg iter ifs tg2 iter2 ifs2 scope pos) 0 it acc env).onRaise (λx=>do noteFrame x env;theTreesLotGoes x)) _ _ s;refine wpAny_noted ?_;rw[Wp];refine ie (jG (ie (j0 (turn n s hI) (λr s₁ h₁=>?_) λ_ _ h'=>h'.elim)));cases r with
 |none=>exact ip h₁
 |some v=>
  refine ie (j0 h₁ (λ_ s₁ h₁=>?_) λ_ _ h'=>h'.elim);refine ie (j0 h₁ (λ_ s₂ h₂=>ie (j0 h₂ (λok s₃ h₃=>?_) λ_ _ h'=>h'.elim)) λ_ _ h'=>h'.elim);cases ok with
  |false=>exact ip ⟨rfl,h₃⟩
  |true=>
   refine ie (j0 h₃ (λx s₄ h₄=>ie (jG ?_)) λ_ _ h'=>h'.elim);rw[hs];refine ie (ip (ie (jU (j0 h₄ (λit2 s₅ h₅=>ie (wpAny_runOwn (codeAny_mono h₅ λr s₆ h₆=>?_))) λ_ _ h'=>h'.elim))));obtain⟨rfl,h₆⟩:=h₆;exact ip ⟨rfl,h₆⟩
def U8(h0:codeAny 87 A (.compLoop (LC2 elt tg iter ifs tg2 iter2 ifs2 scope pos) 1 it acc env) R s)
 (h:wpAny 87 A (pyIter it) (λit' s'=>codeAny 87 A (.compLoop (LC2 elt tg iter ifs tg2 iter2 ifs2 scope pos) 1 it' acc env) R s') (λ_ _=>False) s):
 codeAny 87 A (.compStart (LC2 elt tg iter ifs tg2 iter2 ifs2 scope pos) 1 it acc env) R s:=by
 refine codeAny_of_tree ?_;show wpAny _ _ ((compStart (LC2 elt tg iter ifs tg2 iter2 ifs2 scope pos) 1 it acc env).onRaise (λx=>do noteFrame x env;standAt theWindowsPlace)) _ _ s;refine wpAny_notedAt ?_;unfold compStart;show wpAny _ _ (ask >>= _) _ _ s;refine ie (wpAny_askSetting (wpAny_ite ?_));split
 .exact ie (ip (ip (And.intro rfl h0)))
 .exact ie (jW (ie (jG (ie (j0 h (λit' s' h'=>ip (And.intro rfl h')) λ_ _ x=>x.elim)))))
end
def Qq(J:It)(D:Addr)(σ0:St)(H0:Hp)(g:TG)(tf:TT)(te:TE)(Q:St->Hp->Prop):Prop:=∃W:Nat->Nat->St->Hp->Prop,
 (∃m,W 0 m σ0 H0)/\∀i m σ H,W i m σ H ->
  ((J.stop i H/\Q σ H)∨(J.go i H/\∃N:St->Hp->Prop,(∀σ' H',N σ' H'->∃m',m'<m/\W (i+1) m' σ' H')/\
    ∀x H',J.yld i H x H'->g x σ H' λσ2 H2=>tf σ2 H2 λb H3=>
     if b=true then te σ2 H3 λv H4=>∃ys,H4 D=some (.lst ys)/\ys.length<sizeLine/\N σ2 (upd H4 D (.lst (ys++[v])))
     else N σ2 H3))
def TZ(J:It)(D:Addr)(σ0:St)(H0:Hp)(g:TG)(tf:TT)(wi2:TI)(g2:TG)(tf2:TT)(te:TE)(Q:VK):Prop:=∃W:Nat->Nat->St->Hp->Prop,
 (∃m,W 0 m σ0 (upd H0 D (.lst [])))/\∀i m σ H,W i m σ H ->
  ((J.stop i H/\Q (.ref D) H)∨(J.go i H/\∃N:St->Hp->Prop,(∀σ' H',N σ' H'->∃m',m'<m/\W (i+1) m' σ' H')/\
    ∀x H',J.yld i H x H'->g x σ H' λσ2 H2=>tf σ2 H2 λb H3=>
     if b=true then wi2 σ2 H3 λJ2 H4=>Qq J2 D σ2 H4 g2 tf2 te N
     else N σ2 H3))
noncomputable def FA(n:Nat)(ix:71)(wi:TI)(g:TG)(tf:TT)(wi2:TI)(g2:TG)(tf2:TT)(te:TE):TE:=λσ H Q=>wi σ H λJ H1=>∀D,H1 D=none->TZ J D (Fq n ix σ) H1 g tf wi2 g2 tf2 te Q
section
variable{X:Cx}
def Qh{iter tg2:Expr}{s3:Shared}{D:Addr}{tn:Nat->Heap->Prop}{Q:St->Hp->Prop}
 (hc:X.calm=true) (hg:PG (cCx X N' scope s3 H3 fp3) tg2 g) (hf:PF (cCx X N' scope s3 H3 fp3) ifs2 tf) (he:PE (cCx X N' scope s3 H3 fp3) elt te)
 (I:Inv (cCx X N' scope s3 H3 fp3) pins σ H s) (T:Turn X.prog X.w X.K tg2 J fp it tn) (st:tn 0 s.heap) (f2:∀b∈fp,CO (cCx X N' scope s3 H3 fp3) pins H b) (hW:Qq J D σ H g tf te Q):
 codeAny 73 X.A (.compStart (LC2 elt tg iter ifs tg2 iter2 ifs2 scope pos) 1 (.ref it) (.ref D) (cCx X N' scope s3 H3 fp3).env)
  (λr s'=>r=.ok .next/\∃σ' H',Inv (cCx X N' scope s3 H3 fp3) pins σ' H' s'/\Q σ' H') s:=by
 obtain⟨W,⟨m0,w0⟩,turn⟩:=hW;have fpX:∀{H':Hp},(∀b∈fp,H' b=none)->∀b∈fp,CO (cCx X N' scope s3 H3 fp3) pins H' b:=λhn b hb=>⟨hn b hb,(f2 b hb).2⟩
 have loop:codeAny 73 X.A (.compLoop (LC2 elt tg iter ifs tg2 iter2 ifs2 scope pos) 1 (.ref it) (.ref D) (cCx X N' scope s3 H3 fp3).env)
  (λr s'=>r=.ok .next/\∃σ' H',Inv (cCx X N' scope s3 H3 fp3) pins σ' H' s'/\Q σ' H') s:=by
  refine Yr (λn s'=>∃i σ' H',Inv (cCx X N' scope s3 H3 fp3) pins σ' H' s'/\tn i s'.heap/\(∀b∈fp,H' b=none)/\W i n σ' H') ?_ m0
   ⟨0,_,_,I,st,λb hb=>(f2 b hb).1,w0⟩
  rintro n s5 ⟨i,σ5,H5,I5,st5,fr5,w5⟩;have w5:=turn i n σ5 H5 w5;rcases w5 with⟨stop,qn⟩|⟨go,N,hN,step⟩
  .refine thn (T.done (cCx X N' scope s3 H3 fp3) rfl rfl rfl hc i pins s5 σ5 H5 _ I5 (fpX fr5) st5 stop) λr s6 ⟨hr,I6⟩=>?_;subst hr;exact⟨rfl,σ5,H5,I6,qn⟩
  .refine thn (T.item (cCx X N' scope s3 H3 fp3) rfl rfl rfl hc i pins s5 σ5 H5 _ I5 (fpX fr5) st5 go) λr s6 ⟨u,hr,h6⟩=>?_;subst hr;refine thn h6 λ_ s7 ⟨x,H7,I7,r7,y7,st7,fr7⟩=>?_;have I7':=I7.pinned (fpX fr7) (T.obj _ _ st7);have keepI:∀{σ8:St} {H8:Hp} {s8:Shared},Inv (cCx X N' scope s3 H3 fp3) (pins++FK fp s7.heap) σ8 H8 s8->tn (i+1) s8.heap/\∀b∈fp,H8 b=none:=λ{σ8 H8 s8} I8=>by
    refine⟨T.keep _ _ _ st7 λb hb o e=>(I8.pin (b,o) (j7 _ (j7 _ (CD hb e)))).1,λb hb=>?_⟩;obtain⟨o,e,d⟩:=T.obj _ _ st7 b hb;exact(I8.pin (b,o) (j7 _ (j7 _ (CD hb e)))).2.1
   refine thn (hg _ s7 σ5 H7 x u _ I7' r7 (step x H7 y7)) λ_ s8 ⟨σ8,H8,I8,q8⟩=>?_;refine thn (hf _ s8 σ8 H8 _ I8 q8) λb s9 ⟨H9,I9,q9⟩=>?_;cases b with
   |false=>
    rw[ig Bool.false_ne_true]at q9 ⊢;obtain⟨m',hm,w9⟩:=hN _ _ q9;exact⟨m',hm,i+1,σ8,H9,I9.unpinned,(keepI I9).1,(keepI I9).2,w9⟩
   |true=>
    rw[ic rfl]at q9 ⊢;refine thn (he _ s9 σ8 H9 _ I9 q9) λe10 s10 ⟨v10,H10,I10,r10,ys,hD10,hz,n10⟩=>?_;obtain⟨m',hm,w10⟩:=hN _ _ n10;refine TW (X:=cCx X N' scope s3 H3 fp3) I10 hD10 r10 hz λ_ s11 I11=>?_;exact⟨m',hm,i+1,σ8,_,I11.unpinned,(keepI I11).1,(keepI I11).2,w10⟩
 exact U8 loop (T.self X.A 0 _ _ _ st loop)
def Ih{iter tg2:Expr}{tn:Nat->Heap->Prop}{s2:Shared}{E:77}
 {RR:Value->Addr->Result->Shared->Prop} (hc:X.calm=true) (S:CSc X scope fr ix)
 (hg:∀s H ex,PG 76 tg g) (hf:∀s H ex,PF 76 ifs tf) (hi2:∀s H ex,PI 76 tg2 iter2 wi2) (hg2:∀s H ex,PG 76 tg2 g2) (hf2:∀s H ex,PF 76 ifs2 tf2) (he:∀s H ex,PE 76 elt te)
 (hs2:∀s H ex x,foldedSetIterable iter2 (76).env x=pure x)
 (I2:Inv X pins σ H2 s2) (T:Turn X.prog X.w X.K tg J fp it tn) (st2:tn 0 s2.heap) (f2:∀b∈fp,CO X pins H2 b) (hW:∀D,H2 D=none->TZ J D (Fq loc.length ix σ) H2 g tf wi2 g2 tf2 te Q)
 (hfin:∀(s3 s6:Shared) (H5:Hp) (σ5:St) (D:Addr),Inv X pins σ (upd H2 D (.lst [])) s3->Inv (cCx X (loc++fr) scope s3 (upd H2 D (.lst [])) fp) [] σ5 H5 s6->(∀b∈fp,CO X pins (upd H2 D (.lst [])) b)->Q (.ref D) H5->RR (.ref D) s3.heap.objs.size (.ok .next) s6):
 wpAny 73 X.A (newList []) (λacc s₃=>wpAny 73 X.A (newFunctionEnv scope X.env.globals (BC X.env.cells scope.names []) [] X.env.qual none .none (some X.env)) (λcenv s₄=>
  codeAny 73 X.A (.compStart (LC2 elt tg iter ifs tg2 iter2 ifs2 scope pos) 0 (.ref it) acc { cenv with scope:=relabel scope X.env }) (RR acc cenv.locals) s₄) E s₃) E s2:=by
 refine jV ?_;have fresh2:H2 86=none:=I2.hok.fresh (iq _);have I3:=I2.lnew (its:=[]) (ys:=[]) (t':=s2.toks) .nil (jF _);obtain⟨W,⟨m0,w0⟩,turn⟩:=hW 86 fresh2;have lt2:∀b∈fp,b<s2.heap.objs.size:=λb hb=>let ⟨o,e,_⟩:=T.obj 0 _ st2 b hb;78 e
 have f3:∀b∈fp,CO X pins (upd H2 86 (.lst [])) b:=λb hb=>⟨by rw[AW (iW (lt2 b hb))];exact(f2 b hb).1,(f2 b hb).2⟩
 have lt3:∀b∈fp,b<(s2.heap.push { cls:=.type "list",data:=.seq ([]:List Value).toArray }).objs.size:=λb hb=>by rw[Heap.size_push];exact kh (lt2 b hb)
 generalize hs3:({ s2 with heap:=s2.heap.push { cls:=.type "list",data:=.seq ([]:List Value).toArray } }:Shared)=s3 at *;have lt3:∀b∈fp,b<s3.heap.objs.size:=by rw[<- hs3];exact lt3
 have st3:tn 0 s3.heap:=T.keep _ _ _ st2 λb hb o e=>by rw[<- hs3];exact 74 _ e
 refine Oe λh' hk hn ho ha=>?_;have I4:=N8 (loc:=loc) S I3 f3 hk hn ho ha lt3;have fpX:∀{H':Hp},(∀b∈fp,H' b=none)->∀b∈fp,CO (cCx X (loc++fr) scope s3 (upd H2 86 (.lst [])) fp) [] H' b:=λhn b hb=>
  ⟨hn b hb,(I4.ok.exf b hb).1,I4.ok.exfs b hb,.inl hb,(I4.ok.exf b hb).2,λp hp=>by cases hp⟩
 have loop:codeAny 73 X.A (.compLoop (LC2 elt tg iter ifs tg2 iter2 ifs2 scope pos) 0 (.ref it) (.ref 86) (Vj scope s3.heap.objs.size X.env))
  (RR (.ref 86) s3.heap.objs.size) { s3 with heap:=h' }:=by
  refine Ys (hs2 s3 (upd H2 86 (.lst [])) fp) (λn s'=>∃i σ' H',Inv (cCx X (loc++fr) scope s3 (upd H2 86 (.lst [])) fp) [] σ' H' s'/\tn i s'.heap/\(∀b∈fp,H' b=none)/\W i n σ' H') ?_ m0
   ⟨0,_,_,I4,T.keep _ _ _ st3 λb hb o e=>hk b o e,λb hb=>(f3 b hb).1,w0⟩
  rintro n s5 ⟨i,σ5,H5,I5,st5,fr5,w5⟩;have w5:=turn i n σ5 H5 w5;rcases w5 with⟨stop,qn⟩|⟨go,N,hN,step⟩
  .refine thn (T.done (cCx X (loc++fr) scope s3 (upd H2 86 (.lst [])) fp) rfl rfl rfl hc i [] s5 σ5 H5 _ I5 (fpX fr5) st5 stop) λr s6 ⟨hr,I6⟩=>?_;subst hr;exact hfin s3 s6 H5 σ5 86 I3 I6 f3 qn
  .refine thn (T.item (cCx X (loc++fr) scope s3 (upd H2 86 (.lst [])) fp) rfl rfl rfl hc i [] s5 σ5 H5 _ I5 (fpX fr5) st5 go) λr s6 ⟨u,hr,h6⟩=>?_;subst hr;refine thn h6 λ_ s7 ⟨x,H7,I7,r7,y7,st7,fr7⟩=>?_;have I7':=I7.pinned (fpX fr7) (T.obj _ _ st7);have keepI:∀{σ8:St} {H8:Hp} {s8:Shared},Inv (cCx X (loc++fr) scope s3 (upd H2 86 (.lst [])) fp) ([]++FK fp s7.heap) σ8 H8 s8->tn (i+1) s8.heap/\∀b∈fp,H8 b=none:=λ{σ8 H8 s8} I8=>by
    refine⟨T.keep _ _ _ st7 λb hb o e=>(I8.pin (b,o) (j7 _ (j7 _ (CD hb e)))).1,λb hb=>?_⟩;obtain⟨o,e,d⟩:=T.obj _ _ st7 b hb;exact(I8.pin (b,o) (j7 _ (j7 _ (CD hb e)))).2.1
   refine thn (hg s3 (upd H2 86 (.lst [])) fp _ s7 σ5 H7 x u _ I7' r7 (step x H7 y7)) λ_ s8 ⟨σ8,H8,I8,q8⟩=>?_;refine thn (hf s3 (upd H2 86 (.lst [])) fp _ s8 σ8 H8 _ I8 q8) λb s9 ⟨H9,I9,q9⟩=>?_;cases b with
   |false=>
    rw[ig Bool.false_ne_true]at q9 ⊢;obtain⟨m',hm,w9⟩:=hN _ _ q9;exact⟨m',hm,i+1,σ8,H9,I9.unpinned,(keepI I9).1,(keepI I9).2,w9⟩
   |true=>
    rw[ic rfl]at q9 ⊢;refine thn (hi2 s3 (upd H2 86 (.lst [])) fp _ s9 σ8 H9 _ I9 q9) λv10 s10 h10=>thn h10 λit2 s11 h11=>?_;obtain⟨itb,fpb,tnb,Jb,Hb,rfl,Ib,Tb,stb,fb,hWb⟩:=h11;refine codeAny_mono (Qh hc (hg2 _ _ _) (hf2 _ _ _) (he _ _ _) Ib Tb stb fb hWb) λr s12 ⟨hr,σ12,H12,I12,n12⟩=>⟨hr,?_⟩
    obtain⟨m',hm,w12⟩:=hN _ _ n12;exact⟨m',hm,i+1,σ12,H12,I12.unpinned,(keepI I12).1,(keepI I12).2,w12⟩
 exact codeAny_compStart_list loop (T.self X.A 0 _ _ _ (T.keep _ _ _ st3 λb hb o e=>hk b o e) loop)
def V8{iter tg2:Expr}{pos:Pos}(hc:X.calm=true)(S:CSc X scope fr ix)(hi:PI X tg iter wi)
 (hg:∀s H ex,PG 76 tg g) (hf:∀s H ex,PF 76 ifs tf) (hi2:∀s H ex,PI 76 tg2 iter2 wi2) (hg2:∀s H ex,PG 76 tg2 g2) (hf2:∀s H ex,PF 76 ifs2 tf2) (he:∀s H ex,PE 76 elt te)
 (hs:∀x,foldedSetIterable iter X.env x=pure x:=by intro _;rfl) (hs2:∀s H ex x,foldedSetIterable iter2 (76).env x=pure x:=by intro _ _ _ _;rfl):
 PE X (LC2 elt tg iter ifs tg2 iter2 ifs2 scope pos) (FA loc.length ix wi g tf wi2 g2 tf2 te):=by
 intro pins s σ H Q I h;rw[eval_ListComp];have hnames:∀y∈scope.names,y.2=.local->scope.names.lookup y.1=some .local:=λy hy e=>by
  have:=all_eq_true.mp S.loc y hy;rw[e]at this;simpa using this
 refine kA (use:=none) rfl hs (DK (S.clos I.ok)) S.kind hnames (thn (hi pins s σ H _ I h) λv s1 h1=>thn h1 λitv s2 h2=>?_);obtain⟨it,fp,tn,J,H2,rfl,I2,T,st2,f2,hW⟩:=h2;refine Ih (RR:=λacc C=>compPost 73 X.A X.xe none (EP X pins σ Q) acc C) hc S hg hf hi2 hg2 hf2 he hs2 I2 T st2 f2 hW λs3 s6 H5 σ5 L I3 I6 f3 q=>?_;obtain⟨m,hm,_⟩:=I6.loc;exact⟨m,hm,λh'' hs'=>⟨.ref L,H5,EK I3 I6 f3 hs',rfl,q⟩⟩
end
open Classical in
noncomputable def mIn(k:Nat)(n:MG)(c:MT)(m:ME)(g:Gd):List D->Ls->Hd->Option (Ls×Hd)
 |[],ls,hd=>some (ls,hd)
 |d::r,ls,hd=>(n d ls hd).bind λls1=>(c ls1 hd).bind λp=>if p.1=true then(m ls1 p.2).bind λq=>(Au (.mu k) [q.1] q.2).bind λz=>if GOk z.2 g then mIn k n c m g r ls1 z.2 else none else if GOk p.2 g then mIn k n c m g r ls1 p.2 else none
open Classical in
noncomputable def Eb(k:Nat)(n:MG)(c:MT)(mi:MI)(n2:MG)(c2:MT)(m:ME)(g:Gd):List D->Ls->Hd->Option Hd
 |[],ls,hd=>some hd
 |d::r,ls,hd=>(n d ls hd).bind λls1=>(c ls1 hd).bind λp=>if p.1=true then(mi ls1 p.2).bind λq=>(mIn k n2 c2 m q.1.2 q.1.1 ls1 q.2).bind λz=>if GOk z.2 g then Eb k n c mi n2 c2 m g r z.1 z.2 else none else if GOk p.2 g then Eb k n c mi n2 c2 m g r ls1 p.2 else none
noncomputable def CM(j:Nat)(ix:71)(mi:MI)(n:MG)(c:MT)(mi2:MI)(n2:MG)(c2:MT)(m:ME):ME:=λls hd=>(mi ls hd).bind λp=>(Eb p.2.length n c mi2 n2 c2 m p.1.2 p.1.1 (Dl j ix ls) (p.2++[.lst []])).map λh=>(.mu p.2.length,h)
section
variable{K:Frag}
def On(G:GOk h g)(r:Hd):GOk (h++r) g:=λp hp=>by
 have:=G p hp;have hl:p.1<h.length:=(72 this).1;rw[List.getElem?_append_left hl];exact this
def fY(hg:RGt K g n)(hf:RT K tf c)(he:RE K te m){k:Nat}{Q:St->Hp->Prop}
 (hR:RH K ρ H hd) (hL:RL K ρ H ls σ) (G:GOk hd gd) (Y:K5 K ρ H J ds gd) (hk:ρ[k]?=some Da) (hm:mIn k n c m gd ds ls hd=some (ls',hd'))
 (hQ:∀ρ' H' σ',Ext ρ H ρ' H'->RH K ρ' H' hd'->RL K ρ' H' ls' σ'->Q σ' H'):Qq J Da σ H g tf te Q:=by
 refine⟨λi mm σ2 H2=>mm=82-i/\i<=82/\∃ρ2 ls2 hd2,Ext ρ H ρ2 H2/\RH K ρ2 H2 hd2/\RL K ρ2 H2 ls2 σ2/\GOk hd2 gd/\mIn k n c m gd (ds.drop i) ls2 hd2=some (ls',hd'),
  ⟨82,by simp,jF _,ρ,ls,hd,.refl,hR,hL,G,by simpa using hm⟩,?_⟩
 rintro i mm σ2 H2 ⟨rfl,hi,ρ2,ls2,hd2,x2,R2,L2',G2,hm2⟩;obtain⟨Y1,Y2⟩:=Y ρ2 H2 hd2 x2 R2 G2 i;have hk2:ρ2[k]?=some Da:=by
  obtain⟨r,rfl,_⟩:=x2.pre;rw[List.getElem?_append_left (List.getElem?_eq_some_iff.mp hk).1];exact hk
 by_cases hlt:i<82
 .obtain⟨go,Y1⟩:=Y1 hlt;have ed:ds.drop i=ds[i]::ds.drop (i+1):=jE hlt;rw[ed]at hm2;unfold mIn at hm2;obtain⟨ls3,e3,hm2⟩:=gV hm2;obtain⟨⟨bb,hd4⟩,e4,hm2⟩:=gV hm2;refine .inr ⟨go,λσ' H'=>∃ρ2 ls2 hd2,Ext ρ H ρ2 H'/\RH K ρ2 H' hd2/\RL K ρ2 H' ls2 σ'/\GOk hd2 gd/\mIn k n c m gd (ds.drop (i+1)) ls2 hd2=some (ls',hd'),λσ' H' z=>⟨82-(i+1),by omega,rfl,hlt,z⟩,λx H3 y=>?_⟩;obtain⟨ρ3,d3,x3,rfl,R3,e5,r3⟩:=Y1 x H3 y;have e6:d3=ds[i]:=by
   have:ds[i]?=some ds[i]:=by simp[hlt]
   rw[this]at e5;exact(Option.some.inj e5).symm
  subst e6;refine hg ρ3 σ2 H3 hd2 ls2 ls3 _ x _ R3 (L2'.ext R2 x3) r3 e3 λσ4 L4=>?_;refine hf ρ3 σ4 H3 hd2 ls3 _ bb hd4 R3 L4 e4 λρ5 H5 x5 R5=>?_;have y25:=x3.trans R3 x5;cases bb with
  |false=>
   rw[ig Bool.false_ne_true]at hm2 ⊢;split at hm2
   .next g5=>exact⟨ρ5,ls3,hd4,x2.trans R2 y25,R5,L4.ext R3 x5,g5,hm2⟩
   .cases hm2
  |true=>
   rw[ic rfl]at hm2 ⊢;obtain⟨⟨z,hd6⟩,e6,hm2⟩:=gV hm2;obtain⟨⟨z7,hd7⟩,e7,hm2⟩:=gV hm2;refine he ρ5 σ4 H5 hd4 ls3 _ z hd6 R5 (L4.ext R3 x5) e6 λρ6 H6 v6 x6 R6 r6=>?_;have y26:=y25.trans R5 x6;have hk6:ρ6[k]?=some Da:=by
    obtain⟨r,rfl,_⟩:=y26.pre;rw[List.getElem?_append_left (List.getElem?_eq_some_iff.mp hk2).1];exact hk2
   unfold Au at e7;dsimp only at e7 hm2;split at e7
   .next es q=>
    split at e7
    .next c7=>
     cases e7;obtain⟨xs,e1,e2⟩:=R6.lst hk6 q;obtain⟨R7,x7⟩:=R6.put hk6 (o:=.lst (es++[z])) (ho:=.lst (xs++[v6])) ⟨_,rfl,e2.app (.cons r6 .nil)⟩;refine⟨xs,e1,by rw[e2.len];exact c7,?_⟩;split at hm2
     .next g7=>exact⟨ρ6,ls3,_,(x2.trans R2 y26).trans R6 x7,R7,((L4.ext R3 x5).ext R5 x6).ext R6 x7,g7,hm2⟩
     .cases hm2
    .cases e7
   .cases e7
 .have e:i=ds.length:=by omega
  subst e;rw[drop_length]at hm2;unfold mIn at hm2;cases hm2;exact .inl ⟨Y2 rfl,hQ ρ2 H2 σ2 x2 R2 L2'⟩
def UU{j:Nat}{n2:MG}(hi:RIt K wi mi)(hg:RGt K g n)(hf:RT K tf c)(hi2:RIt K wi2 mi2)(hg2:RGt K g2 n2)(hf2:RT K tf2 c2)(he:RE K te m):RE K (FA j ix wi g tf wi2 g2 tf2 te) (CM j ix mi n c mi2 n2 c2 m):=by
 intro ρ σ H hd ls Q out hd' hR hL hm hQ;obtain⟨⟨⟨ds,gd⟩,h1⟩,e1,hm⟩:=gV hm;obtain⟨hd2,hm,e2⟩:=iS hm;cases e2;dsimp only at hm;refine hi ρ σ H hd ls _ ds gd h1 hR hL e1 λρ1 H1 J x1 R1 G1 Y=>?_;intro Da hDa;obtain⟨R1',x1'⟩:=R1.new (o:=.lst []) (ho:=.lst []) hDa ⟨[],rfl,.nil⟩;have hk1:(ρ1++[Da])[h1.length]?=some Da:=by rw[<- R1.len];simp
 refine⟨λi mm σ2 H2=>mm=82-i/\i<=82/\∃ρ2 ls2 h2,Ext (ρ1++[Da]) (upd H1 Da (.lst [])) ρ2 H2/\RH K ρ2 H2 h2/\RL K ρ2 H2 ls2 σ2/\GOk h2 gd/\Eb h1.length n c mi2 n2 c2 m gd (ds.drop i) ls2 h2=some hd',
  ⟨82,by simp,jF _,_,_,_,.refl,R1',P5 ((hL.ext hR x1).ext R1 x1'),On G1 _,by simpa using hm⟩,?_⟩
 rintro i mm σ2 H2 ⟨rfl,hi',ρ2,ls2,h2,x2,R2,L2',G2,hm2⟩;have x12:=x1'.trans R1' x2;obtain⟨Y1,Y2⟩:=Y ρ2 H2 h2 x12 R2 G2 i;have hk2:ρ2[h1.length]?=some Da:=by
  obtain⟨r,rfl,_⟩:=x2.pre;rw[List.getElem?_append_left (List.getElem?_eq_some_iff.mp hk1).1];exact hk1
 by_cases hlt:i<82
 .obtain⟨go,Y1⟩:=Y1 hlt;have ed:ds.drop i=ds[i]::ds.drop (i+1):=jE hlt;rw[ed]at hm2;unfold Eb at hm2;obtain⟨ls3,e3,hm2⟩:=gV hm2;obtain⟨⟨bb,hd4⟩,e4,hm2⟩:=gV hm2;refine .inr ⟨go,λσ' H'=>∃ρ2 ls2 h2,Ext (ρ1++[Da]) (upd H1 Da (.lst [])) ρ2 H'/\RH K ρ2 H' h2/\RL K ρ2 H' ls2 σ'/\GOk h2 gd/\Eb h1.length n c mi2 n2 c2 m gd (ds.drop (i+1)) ls2 h2=some hd',λσ' H' z=>⟨82-(i+1),by omega,rfl,hlt,z⟩,λx H3 y=>?_⟩;obtain⟨ρ3,d3,x3,rfl,R3,e5,r3⟩:=Y1 x H3 y;have e6:d3=ds[i]:=by
   have:ds[i]?=some ds[i]:=by simp[hlt]
   rw[this]at e5;exact(Option.some.inj e5).symm
  subst e6;refine hg ρ3 σ2 H3 h2 ls2 ls3 _ x _ R3 (L2'.ext R2 x3) r3 e3 λσ4 L4=>?_;refine hf ρ3 σ4 H3 h2 ls3 _ bb hd4 R3 L4 e4 λρ5 H5 x5 R5=>?_;have y25:=x3.trans R3 x5;cases bb with
  |false=>
   rw[ig Bool.false_ne_true]at hm2 ⊢;split at hm2
   .next g5=>exact⟨ρ5,ls3,hd4,x2.trans R2 y25,R5,L4.ext R3 x5,g5,hm2⟩
   .cases hm2
  |true=>
   rw[ic rfl]at hm2 ⊢;obtain⟨⟨⟨ds6,g6⟩,hd6⟩,e6,hm2⟩:=gV hm2;obtain⟨⟨ls7,hd7⟩,e7,hm2⟩:=gV hm2;refine hi2 ρ5 σ4 H5 hd4 ls3 _ ds6 g6 hd6 R5 (L4.ext R3 x5) e6 λρ6 H6 J6 x6 R6 G6 Y6=>?_;have y26:=y25.trans R5 x6;have hk6:ρ6[h1.length]?=some Da:=by
    obtain⟨r,rfl,_⟩:=y26.pre;rw[List.getElem?_append_left (List.getElem?_eq_some_iff.mp hk2).1];exact hk2
   refine fY hg2 hf2 he R6 ((L4.ext R3 x5).ext R5 x6) G6 Y6 hk6 e7 λρ7 H7 σ7 x7 R7 L7=>?_;dsimp only at hm2;split at hm2
   .next g7=>exact⟨ρ7,ls7,hd7,(x2.trans R2 y26).trans R6 x7,R7,L7,g7,hm2⟩
   .cases hm2
 .have e:i=ds.length:=by omega
  subst e;rw[drop_length]at hm2;unfold Eb at hm2;cases hm2;refine .inl ⟨Y2 rfl,hQ ρ2 H2 _ (x1.trans R1 x12) R2 ?_⟩;simp only[RD];exact⟨Da,hk2,rfl⟩
end
def Mn(K:Frag){X:Cx}{iter tg2:Expr}{pos:Pos}{n2:MG}(hc:X.calm=true)(S:CSc X scope fr ix)(hi:QI K X tg iter wi mi)
 (hg:∀s H ex,QG K 76 tg g n) (hf:∀s H ex,QF K 76 ifs tf mf) (hi2:∀s H ex,QI K 76 tg2 iter2 wi2 mi2) (hg2:∀s H ex,QG K 76 tg2 g2 n2) (hf2:∀s H ex,QF K 76 ifs2 tf2 mf2) (he:∀s H ex,QE K 76 elt te mm)
 (hs:∀x,foldedSetIterable iter X.env x=pure x:=by intro _;rfl) (hs2:∀s H ex x,foldedSetIterable iter2 (76).env x=pure x:=by intro _ _ _ _;rfl):
 QE K X (.ListComp elt [⟨tg,iter,ifs,0⟩,⟨tg2,iter2,ifs2,0⟩] scope pos) (FA loc.length ix wi g tf wi2 g2 tf2 te) (CM loc.length ix mi n mf mi2 n2 mf2 mm):=
 ⟨V8 hc S hi.p (λs H ex=>(hg s H ex).p) (λs H ex=>(hf s H ex).p) (λs H ex=>(hi2 s H ex).p) (λs H ex=>(hg2 s H ex).p) (λs H ex=>(hf2 s H ex).p) (λs H ex=>(he s H ex).p) hs hs2,
  UU hi.r (hg X.s₀ X.H₀ []).r (hf X.s₀ X.H₀ []).r (hi2 X.s₀ X.H₀ []).r (hg2 X.s₀ X.H₀ []).r (hf2 X.s₀ X.H₀ []).r (he X.s₀ X.H₀ []).r⟩
open Classical in
noncomputable def J8(ma mb:ME):MA:=λls hd=>(ma ls hd).bind λp=>(mb ls p.2).bind λq=>match p.1,q.1 with
 |.mu i,.mu j=>match q.2[i]?,q.2[j]? with
  |some (.lst xs),some (.lst ys)=>if C6 (79+ys.length)then some (xs++ys,q.2)else none
  |_,_=>none
 |_,_=>none
def Zn{K:Frag}(ha:RE K ta ma)(hb:RE K tb mb):RN K (tOp Uc ta tb) (J8 ma mb):=by
 and_intros;obtain⟨⟨d1,h1⟩,e1,hm⟩:=gV hm;obtain⟨⟨d2,h2⟩,e2,hm⟩:=gV hm;dsimp only at hm;split at hm
 .next i j=>
  split at hm
  .next xs ys q1 q2=>
   split at hm
   .next c=>
    cases hm;refine ha ρ σ H hd ls _ _ h1 hR hL e1 λρ1 H1 v x1 R1 r1=>?_;refine hb ρ1 σ H1 h1 ls _ _ _ R1 (hL.ext hR x1) e2 λρ2 H2 u x2 R2 r2=>?_;have r1':=r1.ext R1 x2;simp only[RD]at r1' r2;obtain⟨a,ka,rfl⟩:=r1';obtain⟨b,kb,rfl⟩:=r2;obtain⟨vs,f1,f2⟩:=R2.lst ka q1;obtain⟨us,f3,f4⟩:=R2.lst kb q2;refine⟨a,b,vs,us,rfl,rfl,f1,f3,by rw[f2.len,f4.len];exact c,λp hp=>?_⟩;obtain⟨R3,x3⟩:=R2.hid (ho:=.lst (vs++us)) hp;have x12:=x1.trans R1 x2;exact hQ ρ2 _ p _ (x12.trans R2 x3) R3 (x12.none hR hp R2) (R2.out hp) Af ((f2.app f4).ext R2 x3)
   .cases hm
  .cases hm
 .cases hm
def aZ(K:Frag)(ha:QE K X a ta ma)(hb:QE K X b tb mb):QN K X (.BinOp a .Add b pos) (tOp Uc ta tb) (J8 ma mb):=⟨WB c8 ha.p hb.p,Zn ha.r hb.r⟩
@[simp] theorem VZ(j:Nat)(ix:71)(mi mi2:MI)(n n2:MG)(c c2:MT)(m:ME)(ls:Ls)(hd:Hd):CM j ix mi n c mi2 n2 c2 m ls hd=(mi ls hd).bind λp=>(Eb p.2.length n c mi2 n2 c2 m p.1.2 p.1.1 (Dl j ix ls) (p.2++[.lst []])).map λh=>(.mu p.2.length,h):=rfl
end L2
namespace L2
open PySem PySem.Spec PyProof.Rows PySem.W
section
variable(r:Nat->Int)(n:Nat)
def PWp{α:Type}:KasT α->(α->Prop)->Prop
 |.ret a,Q=>Q a
 |.ask i j k,Q=>i<n/\j<n/\PWp (k (decide (r i<r j))) Q
noncomputable def kv(p:Array Nat)(i:Nat):Int:=r (p.getD i 0)
def STo(p:Array Nat)(m:Nat):Prop:=∀i j,i<=j->j<m->kv r p i<=kv r p j
def DTo(p:Array Nat)(m:Nat):Prop:=∀i j,i<=j->j<m->kv r p j<=kv r p i
def EqL(p:Array Nat)(m q:Nat):Prop:=∀k,m-(q+1)<=k->k<m->kv r p k=kv r p (m-1)
def PAr(p:Array Nat):Prop:=p.Perm (69 n).toArray
end
section
variable{r:Nat->Int}{n:Nat}
theorem PWp.bind{α β:Type}{f:α->KasT β}{Q:β->Prop}:∀{t:KasT α},PWp r n t (λa=>PWp r n (f a) Q)->PWp r n (t.bind f) Q
 |.ret _,h=>h
 |.ask i j k,h=>⟨h.1,h.2.1,PWp.bind h.2.2⟩
theorem PWp.mono{α:Type}{Q Q':α->Prop}:∀{t:KasT α},PWp r n t Q->(∀a,Q a->Q' a)->PWp r n t Q'
 |.ret _,h,q=>q _ h
 |.ask i j k,h,q=>⟨h.1,h.2.1,PWp.mono h.2.2 q⟩
theorem PWp.wp{α:Type}{cmp:Nat->Nat->(Bool->Shared->Prop)->Shared->Prop}{P:Shared->Prop}{Q:α->Shared->Prop}(hc:∀i j C s,i<n->j<n->P s->(∀s',P s'->C (decide (r i<r j)) s')->cmp i j C s):∀{t:KasT α} {s:Shared},PWp r n t (λa=>∀s,P s->Q a s)->P s->t.kasWp cmp Q s
 |.ret _,s,h,p=>h s p
 |.ask i j k,s,h,p=>hc i j _ s h.1 h.2.1 p λs' p'=>PWp.wp hc h.2.2 p'
theorem PAr.size(h:PAr n p):p.size=n:=by have:=h.size_eq;simpa using this
def PAr.lt(h:PAr n p){i:Nat}(hi:i<n):p.getD i 0<n:=by
 have hs:=h.size;have hi':i<p.size:=by omega
 have:p[i]∈(69 n).toArray:=h.mem_iff.mp (Array.getElem_mem hi');have e:p.getD i 0=p[i]:=by simp[Array.getD,hi']
 rw[e];simpa using this
def Jp{p:Array Nat}{i j:Nat}(hj:j<=p.size)(k:Nat):kv r (kas_rev p i j) k=if i<=k/\k<j then kv r p (i+j-1-k)else kv r p k:=by
 unfold kv kas_rev;simp only[Array.getD_eq_getD_getElem?];rw[getElem?_mirror_all hj];split<;>rfl
def PAr.rev(h:PAr n p)(i j:Nat):PAr n (kas_rev p i j):=(mirror_perm _ _ _ _).trans h
def Oh{p:Array Nat}{m q:Nat}(hj:m<=p.size)(hq:q+1<=m)(h:EqL r p m q)(k:Nat):kv r (kas_rev p (m-(q+1)) m) k=kv r p k:=by
 rw[Jp hj];split
 .next c=>rw[h _ 66 66,h k c.1 c.2]
 .rfl
theorem Na(pa:PAr n p):∀(f m:Nat),1<=m->m+f<=n->STo r p m->PWp r n (kas_asc p f m) λm'=>m<=m'/\m'<=m+f/\STo r p m'/\(m'<m+f->kv r p m'<kv r p (m'-1))
 |0,m,h1,hn,hs=>⟨iq _,iq _,hs,λh=>by omega⟩
 |f+1,m,h1,hn,hs=>by
  refine⟨pa.lt 66,pa.lt 66,?_⟩;by_cases c:r (p.getD m 0)<r (p.getD (m-1) 0)
  .rw[jI c];exact⟨iq _,by omega,hs,λ_=>c⟩
  .rw[jD c];refine(Na pa f (m+1) 66 66 ?_).mono λm' h=>⟨by omega,by omega,h.2.2.1,λz=>h.2.2.2 66⟩
   intro i j hij hj;by_cases e:j<m
   .exact hs i j hij e
   .have:j=m:=by omega
    subst this;by_cases e2:i=j
    .subst e2;exact Int.le_refl _
    .have:=hs i (j-1) 66 66;have:kv r p (j-1)<=kv r p j:=by unfold kv;omega
     omega
def JI{m:Nat}(h1:1<=m)(h:DTo r p m)(c:kv r p m<=kv r p (m-1)):DTo r p (m+1):=by
 intro i j hij hj;by_cases e:j<m
 .exact h i j hij e
 .have:j=m:=by omega
  subst this;by_cases e2:i=j
  .subst e2;exact Int.le_refl _
  .have:=h i (j-1) 66 66;omega
theorem IL:∀(f:Nat) (p:Array Nat) (m q:Nat),PAr n p->1<=m->q+1<=m->m+f<=n->DTo r p m->EqL r p m q ->
 PWp r n (kas_desc f p m q) λz=>PAr n z.1/\m<=z.2.1/\z.2.1<=m+f/\DTo r z.1 z.2.1/\EqL r z.1 z.2.1 z.2.2/\z.2.2+1<=z.2.1
 |0,p,m,q,pa,h1,hq,hn,hd,he=>⟨pa,iq _,iq _,hd,he,hq⟩
 |f+1,p,m,q,pa,h1,hq,hn,hd,he=>by
  refine⟨pa.lt 66,pa.lt 66,?_⟩;have sz:=pa.size;by_cases c:r (p.getD m 0)<r (p.getD (m-1) 0)
  .rw[jI c];have c':kv r p m<=kv r p (m-1):=by unfold kv;omega
   dsimp only;rw[ic rfl];by_cases hq0:q>0
   .rw[ic hq0];have sm:=Oh (r:=r) (p:=p) (m:=m) (q:=q) 66 hq he;refine(IL f _ (m+1) 0 (pa.rev _ _) 66 66 66 ?_ ?_).mono λz h=>⟨h.1,by omega,by omega,h.2.2.2⟩
    .have:=JI h1 hd c';intro i j a b;rw[sm,sm];exact this i j a b
    .intro k a b;have:k=m:=by omega
     subst this;rfl
   .rw[ig hq0];refine(IL f p (m+1) 0 pa 66 66 66 (JI h1 hd c') ?_).mono λz h=>⟨h.1,by omega,by omega,h.2.2.2⟩
    intro k a b;have:k=m:=by omega
    subst this;rfl
  .rw[jD c];dsimp only;rw[ig Bool.false_ne_true];refine⟨pa.lt 66,pa.lt 66,?_⟩;by_cases d:r (p.getD (m-1) 0)<r (p.getD m 0)
   .rw[jI d];exact⟨pa,iq _,by show m<=m+(f+1);omega,hd,he,hq⟩
   .rw[jD d];dsimp only;rw[ig Bool.false_ne_true];have e:kv r p m=kv r p (m-1):=by unfold kv;omega
    refine(IL f p (m+1) (q+1) pa 66 66 66 (JI h1 hd 66) ?_).mono λz h=>⟨h.1,by omega,by omega,h.2.2.2⟩
    intro k a b;by_cases e2:k=m
    .subst e2;rfl
    .have:=he k 66 66;have e3:m+1-1=m:=rfl;rw[e3];omega
def Run(z:Nat×Array Nat)(r:Nat->Int)(n:Nat):Prop:=PAr n z.2/\1<=z.1/\z.1<=n/\STo r z.2 z.1
def M0{m:Nat}(pa:PAr n p)(h1:1<=m)(hn:m<=n)(hd:DTo r p m):PWp r n (kas_tail3 m n p) λz=>Run z r n:=by
 have sz:=pa.size;have st:STo r (kas_rev p 0 m) m:=by
  intro i j a b;rw[Jp 66,Jp 66,ic ⟨by omega,by omega⟩,ic ⟨by omega,by omega⟩];exact hd _ _ 66 66
 refine PWp.bind ((Na (pa.rev 0 m) (n-m) m h1 66 st).mono λm' h=>?_);exact⟨pa.rev 0 m,by show 1<=m';omega,by show m'<=n;omega,h.2.2.1⟩
def Ie{m:Nat}(pa:PAr n p)(hn:m+1<=n)(hd:DTo r p (m+1)):PWp r n (kas_descPart m n p) λz=>Run z r n:=by
 refine PWp.bind ((IL (n-(m+1)) p (m+1) 0 pa 66 66 66 hd ?_).mono λz h=>?_)
 .intro k a b;have:k=m:=by omega
  subst this;rfl
 .obtain⟨a,b,c,d,e,g⟩:=h;have sz:=a.size;by_cases hq:z.2.2>0
  .rw[ic hq];have sm:=Oh (r:=r) (p:=z.1) (m:=z.2.1) (q:=z.2.2) 66 g e;exact M0 (a.rev _ _) 66 66 λi j x y=>by rw[sm,sm];exact d i j x y
  .rw[ig hq];exact M0 a 66 66 d
def Vd(h1:1<=n):PWp r n (kas_count n (List.toArray (69 n))) λz=>Run z r n:=by
 have pa:PAr n (69 n).toArray:=.refl _;have sz:=pa.size;refine PWp.bind ((Na pa (n-1) 1 66 66 λi j a b=>?_).mono λm h=>?_)
 .have:i=j:=by omega
  subst this;exact Int.le_refl _
 .obtain⟨a,b,c,d⟩:=h;by_cases e:(m==n)=true
  .rw[ic e];have:m=n:=by simpa using e
   exact⟨pa,by show 1<=m;omega,by show m<=n;omega,c⟩
  .rw[ig e];have hne:m≠n:=by simpa using e
   have dd:=d 66;by_cases h2:m>1
   .rw[ic h2];refine⟨pa.lt 66,pa.lt 66,?_⟩;by_cases g:r ((69 n).toArray.getD 0 0)<r ((69 n).toArray.getD (m-1) 0)
    .rw[jI g];exact⟨pa,by show 1<=m;omega,by show m<=n;omega,c⟩
    .rw[jD g];dsimp only;rw[ig Bool.false_ne_true];have g':kv r (69 n).toArray (m-1)<=kv r (69 n).toArray 0:=by unfold kv;omega
     have eq:∀k,k<m->kv r (69 n).toArray k=kv r (69 n).toArray 0:=λk hk=>by
      have x1:=c 0 k 66 hk;have x2:=c k (m-1) 66 66;omega
     have rv:∀k,kv r (kas_rev (69 n).toArray 0 m) k=kv r (69 n).toArray k:=λk=>by
      rw[Jp 66];split
      .next z=>rw[eq _ 66,eq k z.2]
      .rfl
     refine Ie (pa.rev 0 m) 66 λi j x y=>?_;rw[rv,rv];by_cases z:j<m
     .rw[eq i 66,eq j z];exact Int.le_refl _
     .have:j=m:=by omega
      subst this;by_cases z2:i=j
      .subst z2;exact Int.le_refl _
      .rw[eq i 66];have:=eq (j-1) 66;omega
   .rw[ig h2];have:m=1:=by omega
    subst this;refine Ie pa 66 λi j x y=>?_;by_cases z:i=j
    .subst z;exact Int.le_refl _
    .have:i=0:=by omega
     have:j=1:=by omega
     subst i j;have:kv r (69 n).toArray 1<kv r (69 n).toArray 0:=dd;omega
theorem Iw{k:Nat}(pa:PAr n p)(hk:k<n)(hs:STo r p k):∀(f l q:Nat),l<=q->q<=k->q-l<=f->(∀i,i<l->kv r p i<=kv r p k)->(∀i,q<=i->i<k->kv r p k<kv r p i) ->
 PWp r n (kas_place p k f l q) λm=>m<=k/\(∀i,i<m->kv r p i<=kv r p k)/\∀i,m<=i->i<k->kv r p k<kv r p i
 |0,l,q,a,b,c,d,e=>⟨by omega,d,λi x y=>e i 66 y⟩
 |f+1,l,q,a,b,c,d,e=>by
  unfold kas_place;by_cases h:l>=q
  .rw[ic h];exact⟨by omega,d,λi x y=>e i 66 y⟩
  .rw[ig h];refine⟨pa.lt 66,pa.lt 66,?_⟩;by_cases g:r (p.getD k 0)<r (p.getD ((l+q)/2) 0)
   .rw[jI g];dsimp only;rw[ic rfl];have g':kv r p k<kv r p ((l+q)/2):=g;refine Iw pa hk hs f l ((l+q)/2) 66 66 66 d λi x y=>?_;have:=hs ((l+q)/2) i x y;omega
   .rw[jD g];dsimp only;rw[ig Bool.false_ne_true];have g':kv r p ((l+q)/2)<=kv r p k:=by unfold kv;omega
    refine Iw pa hk hs f ((l+q)/2+1) q 66 66 66 (λi x=>?_) e;have:=hs i ((l+q)/2) 66 66;omega
def L9{p:Array Nat}{k d:Nat}(hk:k<p.size)(hd:d<=k)(i:Nat):kv r (bubble p k d) i=if i=k-d then kv r p k else if k-d<i/\i<=k then kv r p (i-1)else kv r p i:=by
 unfold kv;simp only[Array.getD_eq_getD_getElem?];rw[getElem?_bubble hk d hd];split
 .rfl
 .split<;>rfl
theorem TV:∀(f:Nat) (p:Array Nat) (k:Nat),PAr n p->k+f=n->STo r p k->PWp r n (kas_bin f p k) λz=>PAr n z/\STo r z n
 | 0,p,k,pa,e,hs=>⟨pa,by
  have:k=n:=by omega
  subst this;exact hs⟩
 |f+1,p,k,pa,e,hs=>by
  have sz:=pa.size;refine PWp.bind ((Iw pa 66 hs k 0 k 66 66 66 (λi h=>by omega) (λi a b=>by omega)).mono λm h=>?_);obtain⟨a,b,c⟩:=h;refine TV f _ (k+1) ((bubble_perm _ _ _).trans pa) 66 λi j x y=>?_;rw[L9 66 66,L9 66 66];have ek:k-(k-m)=m:=by omega
  rw[ek]
  repeat' split
  .exact Int.le_refl _
  .exact Int.le_of_lt (c _ 66 66)
  .omega
  .exact b _ 66
  .exact hs _ _ 66 66
  .omega
  .exact b _ 66
  .exact hs _ _ 66 66
  .exact hs _ _ 66 66
def Wu(h1:1<=n):PWp r n (kas_sort n) λp=>PAr n p/\STo r p n:=by
 refine PWp.bind ((Vd h1).mono λz h=>?_);obtain⟨a,b,c,d⟩:=h;by_cases e:z.1<n
 .rw[ic e];have:max z.1 1=z.1:=by omega
  rw[this];exact TV _ _ _ a 66 d
 .rw[ig e];have:z.1=n:=by omega
  exact⟨a,this ▸ d⟩
end
def PairAt(h:Heap)(v:Value)(p:Int×Int):Prop:=∃(x:Addr) (o:Obj) (t u:Tok) (k:Nat),v=.ref x/\h.get? x=some o/\o.cls=.type "tuple"/\o.data=.seq #[.int p.1 t,.int p.2 u] k
noncomputable def CP(p:Int×Int):Int:=p.1*4000000000+p.2
def pok(p:Int×Int):Prop:=-1000000000<=p.1/\p.1<=1000000000/\-1000000000<=p.2/\p.2<=1000000000
section
variable{E:77}{s:Shared}
def Yq{C:Bool->Shared->Prop}(hx:PairAt s.heap x p)(hy:PairAt s.heap y q)(op:pok p)(oq:pok q)(h:C (decide (CP p<CP q)) s):
 wpAny 87 A (keyLt' (tuples' true) x y) C E s:=by
 obtain⟨a,o,t,u,k,rfl,ho,hc,hd⟩:=hx;obtain⟨a2,o2,t2,u2,k2,rfl,ho2,hc2,hd2⟩:=hy;obtain⟨p1,p2⟩:=p;obtain⟨q1,q2⟩:=q;unfold pok at op oq;unfold CP at h;dsimp only at op oq h;refine kat_lt ho hd ho2 hd2 ?_;refine kat_cons (wpAny_eqBool_int ?_);by_cases e1:p1=q1
 .have b1:(p1==q1)=true:=by simp[e1]
  rw[b1];refine kat_yes (kat_cons (wpAny_eqBool_int ?_));by_cases e2:p2=q2
  .have b2:(p2==q2)=true:=by simp[e2]
   rw[b2];refine kat_yes (kat_nil ?_);have:decide (p1*4000000000+p2<q1*4000000000+q2)=false:=jD 66;rw[this]at h;exact h
  .have b2:(p2==q2)=false:=by simp[e2]
   rw[b2];refine kat_no (kat_one _ _ (lt_int ?_));have:decide (p1*4000000000+p2<q1*4000000000+q2)=decide (p2<q2):=decide_eq_decide.mpr 66;rw[this]at h;exact h
 .have b1:(p1==q1)=false:=by simp[e1]
  rw[b1];refine kat_no (oneLt_int ?_);have:decide (p1*4000000000+p2<q1*4000000000+q2)=decide (p1<q1):=decide_eq_decide.mpr 66;rw[this]at h;exact h
theorem Nz:∀{vs:List Value} {ps:84},vs.length=ps.length->(∀(i:Nat) (v:Value) (p:Int×Int),vs[i]?=some v->ps[i]?=some p->PairAt h v p)->∃fs,KatTups h vs fs/\fs.length=vs.length/\∀f∈fs,∃i t,f=.int i t
 |[],[],_,_=>⟨[],.nil,rfl,λ_ z=>by cases z⟩
 |v::vs,p::ps,hl,hp=>by
  obtain⟨fs,a,b,c⟩:=Nz (vs:=vs) (ps:=ps) (by simpa using hl) λi v q e1 e2=>hp (i+1) v q (by simpa using e1) (by simpa using e2);obtain⟨x,o,t,u,k,rfl,ho,hc,hd⟩:=hp 0 v p rfl rfl;exact⟨.int p.1 t::fs,.cons ho hc hd rfl a,by simp[b],λf hf=>by
   rcases mem_cons.mp hf with rfl|hf
   .exact⟨_,_,rfl⟩
   .exact c f hf⟩
def F6(vs:List Value)(ps:84)(out:List Value):Prop:=∃zs:List (Value×(Int×Int)),zs.Perm (vs.zip ps)/\(zs.map λz=>CP z.2).Pairwise (·<=·)/\out=zs.map (·.1)
def RY{vs:List Value}{ps:84}(hl:vs.length=ps.length)(pa:PAr vs.length p)(hs:STo (λi=>CP (ps.getD i (0,0))) p vs.length):F6 vs ps (p.toList.map λi=>vs.getD i Value.none):=by
 have sz:=pa.size;refine⟨p.toList.map λi=>(vs.getD i Value.none,ps.getD i (0,0)),?_,?_,by rw[iZ];rfl⟩
 .have e:vs.zip ps=(69 vs.length).map λi=>(vs.getD i Value.none,ps.getD i (0,0)):=by
   refine jZ λi=>?_;by_cases hi:i<vs.length
   .have hi2:i<ps.length:=by omega
    rw[(List.getElem?_zip_eq_some (z:=(vs[i],ps[i]))).mpr ⟨by simp[hi],by simp[hi2]⟩];simp[hi,hi2]
   .rw[List.getElem?_eq_none 75,List.getElem?_eq_none 75]
  rw[e];have:=Array.perm_iff_toList_perm.mp pa;simpa using this.map _
 .rw[iZ,List.pairwise_iff_getElem];intro i j hi hj hij;simp only[iX,Array.length_toList]at hi hj;have:=hs i j 66 66;unfold kv at this;simpa [Array.getD,hi,hj]using this
def Pb{vs:List Value}{ps:84}{n:Nat}{P:PySem.Fin->Shared->Prop}(ho:s.heap.get? a=some (seqObj "list" vs.toArray n))(hl:vs.length=ps.length)(h64:vs.length<64)(hok:∀p∈ps,pok p)
 (hp:∀(i:Nat) (v:Value) (p:Int×Int),vs[i]?=some v->ps[i]?=some p->PairAt (s.heap.update a (Obj.mapSeq λ_=>#[])) v p)
 (h:∀out:List Value,F6 vs ps out->P (.done (.ret .none)) { s with heap:=sortedHeap s.heap a vs out.toArray }):
 wpAny 87 A (Builtin.«list.sort» ⟨[.ref a],[]⟩) P E s:=by
 have ha:=78 ho;have line:vs.length<=sizeLine:=by rw[km];omega
 obtain⟨e1,ho1⟩:∃e1,(s.heap.update a (Obj.mapSeq λ_=>#[])).get? a=some (seqObj "list" #[] e1):=⟨_,get?_update_seq ho _⟩
 rw[list_sort_plain];refine ie (listItems_at ho rfl (ie (listUpdate_at ho rfl (ie (seqEpoch_at ho1 rfl (ie (wpAny_newTuple (ie (wpAny_newList (jU ?_) (jF _))) line)))) (by rw[iu];exact line) (jF _))));have grow:∀b o,(s.heap.update a (Obj.mapSeq λ_=>#[])).get? b=some o->(((s.heap.update a (Obj.mapSeq λ_=>#[])).push (seqObj "tuple" vs.toArray 0)).push (seqObj "list" #[] 0)).get? b=some o:=λb o e=>74 _ (74 _ e);have ho6:=grow _ _ ho1;generalize h6:((s.heap.update a (Obj.mapSeq λ_=>#[])).push (seqObj "tuple" vs.toArray 0)).push (seqObj "list" #[] 0)=hp6 at *;have done:∀out:List Value,F6 vs ps out->P (.done (.ret .none)) { s with heap:=hp6.update a (Obj.mapSeq λ_=>out.toArray) }:=λout z=>by
  have:=h out z;unfold sortedHeap at this;rw[h6]at this;exact this
 show wpAny 87 A _ P E { s with heap:=hp6 };dsimp only;have pairs6:∀(i:Nat) (v:Value) (p:Int×Int),vs[i]?=some v->ps[i]?=some p->PairAt hp6 v p:=λi v p x y=>by
  obtain⟨x',o,t,u,k,e,q,c,d⟩:=hp i v p x y;exact⟨x',o,t,u,k,e,grow _ _ q,c,d⟩
 by_cases h2:vs.toArray.size<2
 .rw[ic h2,ic h2];refine ie (ip ?_);rw[StateT.run_pure];refine ie (ip ?_);dsimp only;have hout:(arrOf (SortSt.mk' general' (vs.toArray.zip vs.toArray) #[] 7 none)).map (·.2)=vs.toArray:=by
   show(vs.toArray.zip vs.toArray).map (·.2)=vs.toArray;apply Array.toList_inj.mp;simp only[Array.toList_map,Array.toList_zip];exact List.map_snd_zip (iq _)
  rw[hout];refine ie (seqEpoch_at ho6 rfl (ie (listUpdate_at ho6 rfl ?_ (jF _) (by rw[iu];omega))));simp only[bne_self_eq_false,Bool.false_eq_true,jy];refine ip (done vs ⟨vs.zip ps,.refl _,?_,?_⟩)
  .have hz:(vs.zip ps).length<2:=by simp at h2 ⊢;omega
   cases hh:vs.zip ps with
   |nil=>exact .nil
   |cons z r=>
    cases r with
    |nil=>exact List.pairwise_singleton _ _
    |cons y t=>rw[hh]at hz;exact absurd hz 70
  .rw[List.map_fst_zip 66]
 .rw[ig h2,ig h2];have h2':2<=vs.length:=by simp at h2;omega
  obtain⟨fs,t1,t2,t3⟩:=Nz hl pairs6;have tT:∀f∈fs,Looks 87 hp6 (typeOf f) (Value.type "int"):=λf hf=>by
   obtain⟨i,t,rfl⟩:=t3 f hf;exact .of_pure rfl
  refine ie (kat_kind (s:={ s with heap:=hp6 }) t1 66 tT rfl ?_);have est:SortSt.mk' (tuples' true) (vs.toArray.zip vs.toArray) #[] 7 none=kas_st (tuples' true) (pairsOf vs) (List.toArray (69 vs.length)):=by
   unfold kas_st;rw[<- pairsOf_size vs,kas_range];rfl
  have ask:(kas_sort vs.length).kasWp (kas_cmp prog w A (tuples' true) (pairsOf vs)) (λp s'=>s'={ s with heap:=hp6 }/\F6 vs ps (p.toList.map λi=>vs.getD i Value.none)) { s with heap:=hp6 }:=by
   rw[<- kas_ask_eq];refine PWp.wp (n:=vs.length) (r:=λi=>CP (ps.getD i (0,0))) (P:=λs'=>s'={ s with heap:=hp6 }) (λi j C s' hi hj e hC=>?_) ((Wu 66).mono λp z s' e=>⟨e,RY hl z.1 z.2⟩) rfl;subst e;have pi:ps[i]?=some (ps.getD i (0,0)):=by simp[show i<ps.length by omega]
   have pj:ps[j]?=some (ps.getD j (0,0)):=by simp[show j<ps.length by omega]
   have vi:vs[i]?=some (vs.getD i Value.none):=by simp[hi]
   have vj:vs[j]?=some (vs.getD j Value.none):=by simp[hj]
   exact Yq (s:={ s with heap:=hp6 }) (pairs6 i _ _ vi pi) (pairs6 j _ _ vj pj) (hok _ (j5 pi)) (hok _ (j5 pj)) (hC _ rfl)
  have run:=kas_runs (E:=E) (Q:=λ_ st' s'=>∃p:Array Nat,p.size=vs.length/\arrOf st'=p.map (kas_item (pairsOf vs))/\failedOf st'=none/\s'={ s with heap:=hp6 }/\F6 vs ps (p.toList.map λi=>vs.getD i Value.none)) h2' h64 (λp st' s' x1 x2 x3 x4=>⟨p,x1,x2,x3,x4⟩) ask;rw[<- est]at run;refine ie (j0 run ?_ λ_ _ e=>e);rintro⟨⟨⟩,st'⟩ s' ⟨p,hsz,har,hf,rfl,so⟩;dsimp only;have hout:(arrOf st').map (·.2)=(p.toList.map λi=>vs.getD i Value.none).toArray:=by
   rw[har];apply Array.toList_inj.mp;simp only[Array.toList_map,iZ];exact jP λi _=>ji Prod.snd (kas_item_eq vs i)
  rw[hout];refine ie (seqEpoch_at ho6 rfl (ie (listUpdate_at ho6 rfl ?_ (jF _) (by simp[hsz];omega))));rw[hf];simp only[bne_self_eq_false,Bool.false_eq_true,jy];exact ip (done _ so)
end
def PairAt.keep{h h':Heap}(k:∀b o,h.get? b=some o->h'.get? b=some o)(q:PairAt h v p):PairAt h' v p:=by
 obtain⟨x,o,t,u,n,e,ho,c,d⟩:=q;exact⟨x,o,t,u,n,e,k _ _ ho,c,d⟩
section
variable{E:77}{s:Shared}
def M5{vs:List Value}{ps:84}{Q:77}(hl:s.heap.IsList l vs.toArray)(hlen:vs.length=ps.length)(h64:vs.length<64)(hok:∀p∈ps,pok p)
 (hp:∀(i:Nat) (v:Value) (p:Int×Int),vs[i]?=some v->ps[i]?=some p->PairAt s.heap v p)
 (h:∀out:List Value,F6 vs ps out->Q (.ref (67+1)) { s with heap:=sortedAll s.heap vs out.toArray }):
 wpAny 87 A (call (.builtin "sorted") [.ref l]) Q E s:=by
 have line:vs.length<=sizeLine:=by rw[km];omega
 refine Calls.call_function_entry kind_sorted plain_sorted entry_sorted (args_sorted1 _) ?_;unfold Builtin.«sorted»;refine ie (m:=checkCount "sorted" 1 1 _) (ip (ie (collect_list hl (ie (wpAny_newList ?_ line)) line)));have sz:((s.heap.push (seqObj "list" #[] 0)).update 67 (Obj.mapSeq (·++vs.toArray))).objs.size=67+1:=by rw[Heap.size_update,size_push']
 have at1:(((s.heap.push (seqObj "list" #[] 0)).update 67 (Obj.mapSeq (·++vs.toArray))).push (seqObj "list" vs.toArray 0)).get? (67+1)=some (seqObj "list" vs.toArray 0):=by
  have:=Heap.get?_push_size ((s.heap.push (seqObj "list" #[] 0)).update 67 (Obj.mapSeq (·++vs.toArray))) (o:=seqObj "list" vs.toArray 0) rfl
  rwa [sz]at this
 have old:∀b o,s.heap.get? b=some o->((((s.heap.push (seqObj "list" #[] 0)).update 67 (Obj.mapSeq (·++vs.toArray))).push (seqObj "list" vs.toArray 0)).update (67+1) (Obj.mapSeq λ_=>#[])).get? b=some o:=λb o e=>by
  have lt:=78 e;rw[Heap.get?_update_ne _ _ _ _ (iW (kh lt)),Heap.get?_push_ne _ _ _ (by rw[sz];exact iW (kh lt)),Heap.get?_update_ne _ _ _ _ (iW lt),Heap.get?_push_ne _ _ _ (iW lt)];exact e
 show wpAny _ _ _ _ _ { s with heap:=((s.heap.push (seqObj "list" #[] 0)).update s.heap.objs.size (Obj.mapSeq (·++vs.toArray))).push (seqObj "list" vs.toArray 0) };rw[sz];refine ie (jU (k9 slot_list_sort ⟨_,at1,rfl⟩ entry_list_sort (Pb at1 hlen h64 hok (λi v p a b=>(hp i v p a b).keep old) λout z=>⟨_,rfl,?_⟩) (args_list_sort _)));exact ip ⟨_,rfl,h out z⟩
end
section
variable(K:Frag){X:Cx}
def Iu:List V->Hp->VK->Prop:=λxs H Q=>∃(a:Addr) (us:List V) (ps:84),xs=[.ref a]/\SqL K H a us/\us.length=ps.length/\us.length<64/\(∀q∈ps,pok q)/\
 (∀(i:Nat) (u:V) (q:Int×Int),us[i]?=some u->ps[i]?=some q->∃x,u=.ref x/\SqT K H x [.int q.1,.int q.2])/\
 ∀(p:Addr) (zs:List (V×(Int×Int))),H p=none->zs.Perm (us.zip ps)->(zs.map λz=>CP z.2).Pairwise (·<=·)->Q (.ref p) (upd H p (.lst (zs.map (·.1))))
noncomputable def GP:Value->V
 |.ref x=>.ref x
 |_=>.non
def Tl{i:Nat}(h:Vals us its)(e:us[i]?=some u):∃v,its[i]?=some v/\RelV u v:=Vals.get h e
def NT(hK:X.K=K:=by rfl):CallR X (.builtin "sorted") (Iu K):=by
 subst hK;intro pins s σ H xs us0 Q I r h;obtain⟨a,us,ps,rfl,hq,hlen,h64,hok,hpr,q⟩:=h;obtain⟨u,rfl,ru⟩:=CJ r;cases ru;obtain⟨its,rv,p,hz⟩:=I.list hq;have hl2:us.length=its.length:=rv.length;have point:∀(i:Nat) (v:Value) (q:Int×Int),its[i]?=some v->ps[i]?=some q->(∃x,us[i]?=some (.ref x)/\v=.ref x)/\PairAt s.heap v q:=by
  intro i v q e1 e2;have hi:i<us.length:=by rw[hl2];exact(72 e1).1
  have eu:us[i]?=some us[i]:=by simp[hi]
  obtain⟨x,ex,sq⟩:=hpr i _ q eu e2;obtain⟨v',ev,rel⟩:=Tl rv eu;rw[e1]at ev;cases ev;rw[ex]at rel eu;have rel:v=Value.ref x:=rel;subst rel;refine⟨⟨x,eu,rfl⟩,?_⟩;obtain⟨jts,rj,⟨o,ho,hc,n,hd⟩,_⟩:=I.tuple sq;cases rj with
  |cons r1 t1=>
   cases t1 with
   |cons r2 t2=>
    cases t2;obtain⟨t,rfl⟩:=r1;obtain⟨t',rfl⟩:=r2;exact⟨x,o,t,t',n,rfl,ho,hc,hd⟩
 refine M5 (ps:=ps) p.isList 66 66 hok (λi v q a b=>(point i v q a b).2) λout z=>?_;obtain⟨zs,pm,pw,rfl⟩:=z;obtain⟨e,he⟩:=sortedAll_at s.heap its (zs.map (·.1)).toArray;have mz:∀z∈zs,∃x,z.1=.ref x:=λz hz=>by
  have:=pm.mem_iff.mp hz;obtain⟨i,hi⟩:=List.mem_iff_getElem?.mp this;obtain⟨e1,e2⟩:=List.getElem?_zip_eq_some.mp hi;obtain⟨⟨x,_,ex⟩,_⟩:=point i _ _ e1 e2;exact⟨x,ex⟩
 have vz:∀{zs:List (Value×(Int×Int))},(∀z∈zs,∃x,z.1=.ref x)->Vals (zs.map λz=>GP z.1) (zs.map (·.1)):=by
  intro zs
  induction zs with
  |nil=>intro _;exact .nil
  |cons z r ih=>
   intro h;obtain⟨x,ex⟩:=h z jg;refine .cons ?_ (ih λy hy=>h y (j4 _ hy));show RelV (GP z.1) z.1;rw[ex];rfl
 have pm2:(zs.map λz=>(GP z.1,z.2)).Perm (us.zip ps):=by
  have:=pm.map λz:Value×(Int×Int)=>(GP z.1,z.2)
  have e:((its.zip ps).map λz:Value×(Int×Int)=>(GP z.1,z.2))=us.zip ps:=by
   refine jZ λi=>?_;by_cases hi:i<us.length
   .have h1:i<its.length:=by omega
    have h2:i<ps.length:=by omega
    have e1:its[i]?=some its[i]:=by simp[h1]
    have e2:ps[i]?=some ps[i]:=by simp[h2]
    obtain⟨⟨x,ex,ev⟩,_⟩:=point i _ _ e1 e2;rw[List.getElem?_map,(List.getElem?_zip_eq_some (z:=(its[i],ps[i]))).mpr ⟨e1,e2⟩,(List.getElem?_zip_eq_some (z:=(V.ref x,ps[i]))).mpr ⟨ex,e2⟩,iY,ev];rfl
   .rw[List.getElem?_eq_none 75,List.getElem?_eq_none 75]
  rwa [e]at this
 have pw2:((zs.map λz=>(GP z.1,z.2)).map λz:V×(Int×Int)=>CP z.2).Pairwise (·<=·):=by rw[iZ];exact pw
 have fin:=q (67+1) _ (I.hok.fresh (le_succ _)) pm2 pw2;have em:(zs.map λz=>(GP z.1,z.2)).map (·.1)=zs.map λz=>GP z.1:=by rw[iZ];rfl
 rw[em]at fin;have zl:zs.length<64:=by rw[pm.length_eq];simp;omega
 refine⟨.ref (67+1),_,I.laid (a:=67+1) (o:=.lst (zs.map λz=>GP z.1)) (t':=s.toks) (λb o hb=>sortedAll_old hb) (le_succ _) ⟨?_,_,e,vz mz,he⟩,rfl,fin⟩;rw[iX];exact ja (HI 66)
end
noncomputable def Ae(p:Int×Int):D:=.im (.tup [.int p.1,.int p.2])
noncomputable def Db:List D->Option (List (Int×Int))
 |[]=>some []
 |.im (.tup [.int a,.int b])::r=>(Db r).map ((a,b)::·)
 |_=>none
def SR:∀{ds:List D} {ps:84},Db ds=some ps->ds=ps.map Ae:=by
 intro ds
 induction ds with
 |nil=>intro ps h;simp[Db]at h;subst h;rfl
 |cons d r ih=>
  intro ps h;unfold Db at h;split at h
  .next e=>cases e
  .next a b r' e=>
   cases e;obtain⟨qs,e1,rfl⟩:=iS h;rw[ih e1];rfl
  .cases h
@[simp] theorem Q1(ps:84):Db (ps.map Ae)=some ps:=by
 induction ps with
 |nil=>rfl
 |cons p r ih=>simp[Db,Ae]at ih ⊢;exact ih
noncomputable def En(ps:84):List (Int×Int):=ps.mergeSort λa b=>decide (CP a<=CP b)
def Em(ps:84):(En ps).Perm ps:=List.mergeSort_perm ..
def M7(ps:84):(En ps).Pairwise λa b=>CP a<=CP b:=by
 have:=List.pairwise_mergeSort (le:=λa b:Int×Int=>decide (CP a<=CP b)) (by intro a b c h1 h2;simp at *;omega) (by intro a b;simp;omega) ps;exact this.imp 70
def V2(a:pok p)(b:pok q)(h:CP p=CP q):p=q:=by
 unfold pok at a b;unfold CP at h;exact Prod.ext 66 66
open Classical in
noncomputable def E4(m:MI):MA:=λls hd=>(m ls hd).bind λp=>(Db p.1.1).bind λps=>if ps.length<64/\∀q∈ps,pok q then some ((En ps).map Ae,p.2)else none
section
variable{K:Frag}
def XZ(h:RD K ρ H (Ae p) v):∃x,v=.ref x/\SqT K H x [.int p.1,.int p.2]:=by
 simp only[Ae,RD,RI,RIs]at h;obtain⟨a,xs,rfl,q,x,r,rfl,rfl,y,r2,rfl,rfl,rfl⟩:=h;exact⟨a,rfl,q⟩
def Pm(h:RRw K false t m):RN K (tCB (Iu K) (BD t Bn)) (E4 m):=by
 and_intros;obtain⟨⟨⟨d1,g1⟩,h1⟩,e1,hm⟩:=gV hm;obtain⟨ps,e2,hm⟩:=gV hm;split at hm
 .next c=>
  cases hm;refine h ρ σ H hd ls _ d1 g1 _ hR hL e1 λρ1 H1 a x1 R1 G1 S1=>?_;obtain⟨xs,q,r⟩:=S1 ρ1 H1 _ .refl R1 G1;have e2:Db d1=some ps:=e2;rw[SR e2]at r;have hl:79=ps.length:=by simpa using r.len
  have each:∀(i:Nat) (u:V) (q:Int×Int),xs[i]?=some u->ps[i]?=some q->RD K ρ1 H1 (Ae q) u:=λi u q a b=>by
   obtain⟨x,e,z⟩:=r.get (i:=i) (d:=Ae q) (by simp[b]);rw[a]at e;cases e;exact z
  refine⟨a,xs,ps,rfl,q,hl,by rw[hl];exact c.1,c.2,λi u q a b=>XZ (each i u q a b),λp zs hp pm pw=>?_⟩;have es:zs.map (·.2)=En ps:=by
   have pp:(zs.map (·.2)).Perm ps:=by
    have:=pm.map (λz:V×(Int×Int)=>z.2)
    rwa [List.map_snd_zip 66]at this
   refine(pp.trans (Em ps).symm).eq_of_pairwise (le:=λa b=>CP a<=CP b) (λx y hx hy l1 l2=>V2 (c.2 _ (pp.mem_iff.mp hx)) (c.2 _ ((Em ps).mem_iff.mp hy)) (Int.le_antisymm l1 l2)) ?_ (M7 ps);rw[ke]at pw ⊢;exact pw
  obtain⟨R2,x2⟩:=R1.hid (ho:=.lst (zs.map (·.1))) hp;have all:∀z∈zs,RD K ρ1 H1 (Ae z.2) z.1:=λz hz=>by
   obtain⟨i,hi⟩:=List.mem_iff_getElem?.mp (pm.mem_iff.mp hz);obtain⟨a1,a2⟩:=List.getElem?_zip_eq_some.mp hi;exact each i _ _ a1 a2
  have rd:∀{zs:List (V×(Int×Int))},(∀z∈zs,RD K ρ1 H1 (Ae z.2) z.1)->RDs K ρ1 H1 ((zs.map (·.2)).map Ae) (zs.map (·.1)):=by
   intro zs
   induction zs with
   |nil=>intro _;exact .nil
   |cons z r ih=>intro h;exact .cons (h z jg) (ih λy hy=>h y (j4 _ hy))
  have rz:=rd all;rw[es]at rz;exact hQ ρ1 _ p _ (x1.trans R1 x2) R2 (x1.none hR hp R1) (R1.out hp) Af (rz.ext R1 x2)
 .cases hm
open Classical in
noncomputable def GB:D->List D->Hd->Option (D×Hd)
 |.mu n,[.im (.int i)],hd=>match hd[n]? with
  |some (.lst ds)=>if HQ i then(ixN 82 i).bind λk=>(ds[k]?).map λy=>(y,hd.set n (.lst (ds.eraseIdx k)))else none
  |_=>none
 |_,_,_=>none
theorem RDs.erase:∀{ds:List D} {xs:List V} (k:Nat),RDs K ρ H ds xs->RDs K ρ H (ds.eraseIdx k) (xs.eraseIdx k)
 |[],_,_,h=>by simp only[RDs]at h;subst h;simp[RDs]
 |d::ds,_,0,h=>by simp only[RDs]at h;obtain⟨x,r,rfl,_,t⟩:=h;simpa using t
 |d::ds,_,k+1,h=>by
  simp only[RDs]at h;obtain⟨x,r,rfl,a,t⟩:=h;simpa using RDs.cons a (RDs.erase k t)
end
def UP{K:Frag}:RM K SH GB:=by
 intro ρ H hd d v ds vs Q z hd' hR h1 h2 hf hQ;unfold GB at hf;split at hf
 .split at hf
  .next q=>
   split at hf
   .next c=>
    obtain⟨k,e0,hf⟩:=gV hf;obtain⟨y,e1,e3⟩:=iS hf;cases e3;simp only[RD]at h1;obtain⟨a,hn,rfl⟩:=h1;simp only[RDs,RD,RI]at h2;obtain⟨x,r,rfl,rfl,rfl⟩:=h2;obtain⟨xs,f1,f2⟩:=hR.lst hn q;obtain⟨x,x1,x3⟩:=f2.get e1;obtain⟨R2,x2⟩:=hR.put hn (o:=.lst _) (ho:=.lst (xs.eraseIdx k)) ⟨_,rfl,f2.erase k⟩;obtain⟨s1,s2,s3,s4⟩:=KU e0;have sz:=f2.len;unfold HQ at c;exact⟨a,xs,_,k,x,rfl,rfl,f1,by omega,by omega,by rw[sz];exact s1,x1,hQ ρ _ _ x2 R2 (x3.ext hR x2)⟩
   .cases hf
  .cases hf
 .cases hf
section
variable(K:Frag){X:Cx}
def Pv(hm:X.mg "sorted"=none)(ha:QR K false X e te mi)(hg:Gl X "sorted":=by rfl)(he:starEach [e] X.env=[(false,eval e X.env)]:=by rfl)(hK:X.K=K:=by rfl):QN K X (.Call (.Name "sorted" p) [e] [] pos) (tCB (Iu K) (BD te Bn)) (E4 mi):=
 ⟨E2 (NT K hK) hg hm Hq (Bu ha.p Ca he) 80 80 he rfl,Pm ha.r⟩
end
section
open Classical in
@[simp] theorem VY(k:Nat)(i:Int):GB (.mu k) [.im (.int i)] hd=match hd[k]? with
 |some (.lst ds)=>if HQ i then(ixN 82 i).bind λj=>(ds[j]?).map λy=>(y,hd.set k (.lst (ds.eraseIdx j)))else none
 |_=>none:=rfl
open Classical in
@[simp] theorem QZ(mi:MI):E4 mi ls hd=(mi ls hd).bind λp=>(Db p.1.1).bind λps=>if ps.length<64/\∀q∈ps,pok q then some ((En ps).map Ae,p.2)else none:=rfl
end
noncomputable def D4(m:ME):MI:=λls hd=>match Az m ls hd with
 |some z=>some z
 |none=>BR m ls hd
noncomputable def Om(K:Frag)(t:TE):TI:=λσ H R=>NA K t σ H R∨Js K t σ H R
def Zt{K:Frag}(h:RE K t m):RIt K (Om K t) (D4 m):=by
 intro ρ σ H hd ls Q d g hd' hR hL hm hQ;unfold D4 at hm;split at hm
 .next z e=>
  cases hm;exact .inl (Ry h ρ σ H hd ls Q d g hd' hR hL e hQ)
 .exact .inr (OL h ρ σ H hd ls Q d g hd' hR hL hm hQ)
def ae(K:Frag)(h:QE K X e t m)(hK:X.K=K:=by rfl):QI K X tg e (Om K t) (D4 m):=
 ⟨λpins s σ H R I q=>q.elim (λq=>(OY K h.p hK) pins s σ H R I q) λq=>(Ms K h.p hK) pins s σ H R I q,Zt h.r⟩
section
def Ol(e:m ls hd=some (.im (.tup is),hd')):D4 m ls hd=some ((is.map .im,[]),hd'):=by unfold D4;simp[e]
def cY{k:Nat}(e:m ls hd=some (.mu k,hd'))(h:hd'[k]?=some (.lst ds)):D4 m ls hd=some ((ds,[(k,ds)]),hd'):=by unfold D4;simp[e,h]
end
noncomputable def ER(p:Int×Int):I:=.tup [.int p.1,.int p.2]
end L2
namespace L2
open PySem PySem.Spec PyProof.Rows
section
variable{prog:Program}{w:World}{R:Result->Shared->Prop}
def NP(elt target iter:Expr)(ifs:List Expr)(scope:Scope)(pos:Pos)(it acc:Value)(env:Env):
 compTurn (.SetComp elt [⟨target,iter,ifs,0⟩] scope pos) 0 it acc env=(do
  standAt iter.pos
  match <- pyNext it with
  |none=>pure (.done .next)
  |some x=>
   letOwnedTupleGo target it x
   assign target env x
   let mut ok:=true
   for c in ifs do
    if ok then ok <- isTrue c env (eval c env)
   if ok then
    (do let v <- eval elt env;standAt elt.pos;let _ <- call (.builtin "set.add") [acc,v])
   again (.compLoop (.SetComp elt [⟨target,iter,ifs,0⟩] scope pos) 0 it acc env)):=by rfl
end
section
noncomputable def Jd(te:TE):TM:=λD σ H Q=>te σ H λy H1=>∃S n i,H1 D=some (.set S n)/\y=.int i/\n<1000/\Q (upd H1 D (.set (λk=>S k||decide (k=i)) (if S i then n else n+1)))
noncomputable def Qd(elt:Expr):Value->Env->Sem Unit:=λacc env=>do let v <- eval elt env;standAt elt.pos;let _ <- call (.builtin "set.add") [acc,v]
def bL(he:PE X elt te):PM X (Qd elt) (Jd te):=by
 intro D pins s σ H Q I h;unfold Qd;refine ie (thn (he pins s σ H _ I h) λu s1 ⟨y,H1,I1,r1,S,n,i,e,ey,l,q2⟩=>?_);subst ey;obtain⟨t,rfl⟩:∃t,u=.int i t:=by
  cases u<;>simp_all [RelV]
 refine ie (jG (ie ?_));have ok:=I1.hok D _ e;refine call_set_add (k:=i) (knd:=intKind X.prog X.w) ?_ rfl ok ?_ λh' hs hS=>ip ⟨_,?_,q2⟩
 .simp[intKind,Value.isInt]
 .exact Nat.lt_of_le_of_lt (by omega:n+1<=1000) 80
 .have he:∃q,h'.get? D=some q:=let ⟨q,_,_,_,hq,_⟩:=hS;⟨q,hq⟩
  exact ZC I1 (by rw[e];exact True.intro) hs he hS
def V6{iter:Expr}
 (hc:X.calm=true) (S:CSc X scope fr ix) (hi:PI X tg iter wi)
 (hg:∀s H ex,PG 76 tg g) (hf:∀s H ex,PF 76 ifs tf) (he:∀s H ex,PE 76 elt te)
 (hs:∀x,foldedSetIterable iter X.env x=pure x:=by intro _;rfl):PE X (.SetComp elt [⟨tg,iter,ifs,0⟩] scope pos) (Ft (.set (λ_=>false) 0) loc.length ix wi g tf (Jd te)):=by
 refine Mu (emit:=Qd elt) (newAcc:=newSet (.type "set")) (pos:=firstIterPos [⟨tg,iter,ifs,0⟩] pos) ⟨rfl,λit acc env=>NP ..,λ_ _ _=>rfl,λ_ _ _=>rfl,λ_ _ _=>rfl,λ_ _ _=>rfl,λpins s σ H E Q I h=>?_⟩ hc S hi hg hf (λs H ex=>bL (he s H ex)) rfl hs;refine wpAny_newSet_of (knd:=intKind X.prog X.w) λled hS=>h _ ?_;exact I.laid (a:=67) (o:=.set (λ_=>false) 0) (t':=s.toks) (λ_ _ q=>74 _ q) (iq _) hS
end
section
variable{K:Frag}{ρ ρ':List Addr}{H H':Hp}{hd hd':Hd}
noncomputable def Eg(l:List Int)(i:Int):List Int:=if i∈l then l else l++[i]
noncomputable def dR(K:Frag):Acc K (List Int) (.set (λ_=>false) 0) [] where
 rel:=λρ H a o=>o=.set (λk=>decide (k∈a)) a.length
 mono:=λr g e=>e
 chg:=λe st=>by subst e;exact st
 chg2:=λe=>⟨λ_ z=>(by subst e;cases z),λ_ z=>(by subst e;cases z)⟩
 init:=λρ H=>by simp
open Classical in
noncomputable def Jo(me:ME):MM (List Int):=λls hd a=>(me ls hd).bind λq=>match q.1 with
 |.im (.int i)=>if a.length<1000 then some (Eg a i,q.2)else none
 |_=>none
def Zq(he:RE K te me):RM1 (dR K) (Jd te) (Jo me):=by
 intro ρ σ H hd ls a a' hd' Da o Q hR hL out hD hrel hm hQ;obtain⟨⟨d1,h1⟩,e1,hm⟩:=gV hm;have hrel:o=.set (λk=>decide (k∈a)) a.length:=hrel;subst hrel;dsimp only at hm;split at hm
 .next i=>
  split at hm
  .next c=>
   cases hm;refine he ρ σ H hd ls _ _ _ hR hL e1 λρ1 H1 v1 x1 R1 r1=>?_;simp only[RD,RI]at r1;subst r1;have hD1:H1 Da=some (.set (λk=>decide (k∈a)) a.length):=x1.keep Da _ hD out nt;refine⟨_,_,i,hD1,rfl,c,hQ ρ1 H1 _ x1 R1 hD1 ?_⟩;show HO.set _ _=HO.set _ _;unfold Eg;by_cases hi:i∈a
   .simp only[hi,ky,iU]
    congr 1
    funext k
    by_cases hk:k=i
    .subst hk;simp[hi]
    .simp[hk]
   .simp only[hi,decide_false,jy,Bool.false_eq_true,iV,List.length_singleton]
    congr 1
    funext k
    simp[iT]
  .cases hm
 .cases hm
noncomputable def Lg(t:TE):TE:=tCB (λxs H Q=>∃a S n,xs=[V.ref a]/\H a=some (.set S n)/\Q (.int n) H) (BD t Bn)
noncomputable def ID(m:Ls->Hd->Option (List Int×Hd)):ME:=λls hd=>(m ls hd).bind λp=>some (.im (.int p.1.length),p.2)
def XV{m:Ls->Hd->Option (List Int×Hd)}(h:RNG (dR K) t m):RE K (Lg t) (ID m):=by
 and_intros;obtain⟨⟨a,h1⟩,e1,hm⟩:=gV hm;cases hm;refine h ρ σ H hd ls _ a h1 hR hL e1 λρ1 H1 Da o x1 R1 nD oD hD r=>?_;have r:o=.set (λk=>decide (k∈a)) a.length:=r;subst r;exact⟨Da,_,_,rfl,hD,hQ ρ1 H1 _ x1 R1 (by simp[RD,RI])⟩
def TU:CallR X (.builtin "len") (λxs H Q=>∃a S n,xs=[V.ref a]/\H a=some (.set S n)/\Q (.int n) H):=by
 intro pins s σ H xs us Q I r h;obtain⟨a,S,n,rfl,ha,q⟩:=h;obtain⟨u,rfl,ru⟩:=CJ r;cases ru;obtain⟨o,es,ep,t,ho,hex,hd,_,_,hb,hf,rfl⟩:=I.hok a _ ha;exact call_len_set ho hex hd hf (Int.lt_of_lt_of_le (Int.ofNat_lt.mpr hb) 80) ⟨.int es.size,H,I.tok _,⟨_,rfl⟩,q⟩
def YT{X:Cx}{p pos:Pos}(hm:X.mg "len"=none)(ha:PE X e te)(hg:Gl X "len":=by rfl)
 (he:starEach [e] X.env=[(false,eval e X.env)]:=by rfl):PE X (.Call (.Name "len" p) [e] [] pos) (Lg te):=by
 exact E2 (X:=X) (x:="len") (p:=p) (pos:=pos) TU hg hm L2.bt_len (Bu ha Ca he) 80 80 he (by rfl)
variable(K:Frag){X:Cx}
def Um{iter:Expr}{pos p pos':Pos}(hm:X.mg "len"=none)(hc:X.calm=true)(S:CSc X scope fr ix)(hi:QI K X tg iter wi mi)
 (hg:∀s H ex,QG K 76 tg g n) (hf:∀s H ex,QF K 76 ifs tf mf) (he:∀s H ex,QE K 76 elt te me)
 (hs:∀x,foldedSetIterable iter X.env x=pure x:=by intro _;rfl) (hgl:Gl X "len":=by rfl)
 (hst:starEach [.SetComp elt [⟨tg,iter,ifs,0⟩] scope pos] X.env=[(false,eval (.SetComp elt [⟨tg,iter,ifs,0⟩] scope pos) X.env)]:=by rfl):QE K X (.Call (.Name "len" p) [.SetComp elt [⟨tg,iter,ifs,0⟩] scope pos] [] pos') (Lg (Ft (.set (λ_=>false) 0) loc.length ix wi g tf (Jd te))) (ID (Hf loc.length ix mi n mf [] (Jo me))):=
 ⟨YT hm (V6 hc S hi.p (λs H ex=>(hg s H ex).p) (λs H ex=>(hf s H ex).p) (λs H ex=>(he s H ex).p) hs) hgl hst,
  XV (Ma hi.r (hg X.s₀ X.H₀ []).r (hf X.s₀ X.H₀ []).r (Zq (he X.s₀ X.H₀ []).r))⟩
end
def WP{α:Type}(o:Option (α×Hd))(Q:α->Hd->Prop):Prop:=∃z h,o=some (z,h)/\Q z h
abbrev WS(m:MS)(ls:Ls)(hd:Hd)(Q:Fl->Hd->Prop):Prop:=WP (m ls hd) Q
abbrev WE(m:ME)(ls:Ls)(hd:Hd)(Q:D->Hd->Prop):Prop:=WP (m ls hd) Q
abbrev WT(m:MT)(ls:Ls)(hd:Hd)(Q:Bool->Hd->Prop):Prop:=WP (m ls hd) Q
abbrev WA(m:MA)(ls:Ls)(hd:Hd)(Q:List D->Hd->Prop):Prop:=WP (m ls hd) Q
abbrev WO(m:MO1)(ls:Ls)(hd:Hd)(Q:Option Int->Hd->Prop):Prop:=WP (m ls hd) Q
abbrev WI(m:MI)(ls:Ls)(hd:Hd)(Q:List D×Gd->Hd->Prop):Prop:=WP (m ls hd) Q
abbrev WF(F:List D->Hd->Option (D×Hd))(ds:List D)(hd:Hd)(Q:D->Hd->Prop):Prop:=WP (F ds hd) Q
section
variable{α β:Type}{Q:α->Hd->Prop}{R:β->Hd->Prop}
theorem WP.some{z:α}(q:Q z h):WP (some (z,h)) Q:=⟨z,h,rfl,q⟩
def WP.mono{Q':α->Hd->Prop}(h:WP o Q)(k:∀z h,Q z h->Q' z h):WP o Q':=let ⟨z,x,e,q⟩:=h;⟨z,x,e,k z x q⟩
theorem WP.bind{f:α×Hd->Option (β×Hd)}(h:WP o λz x=>WP (f (z,x)) R):WP (o.bind f) R:=by
 obtain⟨z,x,e,q⟩:=h;rw[e];exact q
def WP.eq{z:α}(e:o=Option.some (z,h))(q:Q z h):WP o Q:=⟨z,h,e,q⟩
end
section
variable{ls:Ls}{hd:Hd}{a b:MS}{ma mb mc:ME}{ta tb:MT}{m m1 m2:MA}{n:MG}{ns:MGs}{mi:MI}{d e:D}{i j:Nat}{QS:Fl->Hd->Prop}{QE:D->Hd->Prop}{QT:Bool->Hd->Prop}{QA:List D->Hd->Prop}{QO:Option Int->Hd->Prop}{QI:List D×Gd->Hd->Prop}
def Ej(b:MS)(Q:Fl->Hd->Prop):Fl->Hd->Prop
 |.nx l,h=>WS b l h Q
 |f,h=>Q f h
def AA(h:WS a ls hd (Ej b QS)):WS (A9 a b) ls hd QS:=by
 obtain⟨f,x,e,q⟩:=h;show WP (A9 a b ls hd) QS;rw[Jx,e];cases f<;>first|exact q|exact⟨_,_,rfl,q⟩
def A5(q:WS b l h QS):Ej b QS (.nx l) h:=q
def To(q:QS (.rt d) h):Ej b QS (.rt d) h:=q
def Ad(h:QS (.nx ls) hd):WS Ah ls hd QS:=⟨_,_,rfl,h⟩
def AH(h:WE ma ls hd λd x=>QS (.rt d) x):WS (AR ma) ls hd QS:=WP.bind (h.mono λ_ _ q=>WP.some q)
def AM(h:WE ma ls hd λd x=>QS (.nx (ls.set i (some d))) x):WS (AF i ma) ls hd QS:=by
 obtain⟨d,x,e,q⟩:=h;exact⟨_,_,by simp only[Jy,e,ik,Kb,iY],q⟩
def F7(h:WE ma ls hd λd x=>∃l,n d ls x=some l/\QS (.nx l) x):WS (Ec ma n) ls hd QS:=by
 obtain⟨d,x,e,l,e2,q⟩:=h;exact⟨_,_,by simp only[Jy,e,ik,e2,iY],q⟩
def Cr(h:WE ma ls hd λ_ x=>QS (.nx ls) x):WS (BF ma) ls hd QS:=WP.bind (h.mono λ_ _ q=>WP.some q)
def dZ(h:WT ta ls hd λc x=>if c=true then WS a ls x QS else WS b ls x QS):WS (Ax ta a b) ls hd QS:=by
 refine WP.bind (h.mono λc x q=>?_);dsimp only;cases c<;>simpa using q
def B7(h:WT ta ls hd λc x=>(c=true->WS a ls x QS)/\(c=false->WS b ls x QS)):WS (Ax ta a b) ls hd QS:=
 dZ (h.mono λc x q=>by cases c<;>simp_all)
def JO{ix:71}(h:WA m ls hd λds x=>82=ix.length/\QS (.nx ((ix.zip ds).foldl (λl q=>l.set q.1 (some q.2)) ls)) x):WS (D3 ix m) ls hd QS:=by
 obtain⟨d,x,e,q,q2⟩:=h;exact⟨_,_,by simp only[cw,e,ik,q,iU],q2⟩
def WL(n:MG)(b:MS)(g:Gd)(ds:List D)(ls:Ls)(hd:Hd)(Q:Fl->Hd->Prop):Prop:=WP (C4 n b g ds ls hd) Q
def Bh(h:WI mi ls hd λp x=>WL n b p.2 p.1 ls x QS):WS (Bo mi n b) ls hd QS:=WP.bind (h.mono λ_ _ q=>q)
def JR(g:Gd)(P:Ls->Hd->Prop)(Q:Fl->Hd->Prop):Fl->Hd->Prop
 |.nx l,h=>GOk h g/\P l h
 |.ct l,h=>GOk h g/\P l h
 |.bk l,h=>Q (.nx l) h
 |.rt d,h=>Q (.rt d) h
theorem BP(P:List D->Ls->Hd->Prop):∀{ds:List D} {ls:Ls} {hd:Hd},P ds ls hd ->
 (∀d r ls hd,P (d::r) ls hd->∃ls1,n d ls hd=some ls1/\WS b ls1 hd (JR g (P r) QS))->(∀ls hd,P [] ls hd->QS (.nx ls) hd)->WL n b g ds ls hd QS
 |[],ls,hd,h,_,z=>⟨_,_,by unfold C4;rfl,z _ _ h⟩
 |d::r,ls,hd,h,k,z=>by
  obtain⟨ls1,e1,f,x,e2,q⟩:=k d r ls hd h;unfold WL;unfold C4;rw[e1,ik,e2,ik];cases f with
  |nx l=>exact(show GOk x g/\P r l x from q).1 |> λg1=>by dsimp only;rw[ic g1];exact BP P q.2 k z
  |ct l=>exact(show GOk x g/\P r l x from q).1 |> λg1=>by dsimp only;rw[ic g1];exact BP P q.2 k z
  |bk l=>exact⟨_,_,rfl,q⟩
  |rt l=>exact⟨_,_,rfl,q⟩
def A1(h:ls[i]?=some (some d))(q:QE d hd):WE (A0 i) ls hd QE:=⟨d,hd,by rw[Di,h],q⟩
def AK{i:I}(q:QE (.im i) hd):WE (mC i) ls hd QE:=⟨_,_,rfl,q⟩
def A7{f:D->D->Hd->Option (D×Hd)}(h:WE ma ls hd λd x=>WE mb ls x λe y=>WP (f d e y) QE):WE (mOp f ma mb) ls hd QE:=WP.bind (h.mono λ_ _ q=>WP.bind (q.mono λ_ _ q=>q))
def db(h:WT ta ls hd λc x=>if c=true then WE ma ls x QE else WE mb ls x QE):WE (mIf ta ma mb) ls hd QE:=by
 refine WP.bind (h.mono λc x q=>?_);dsimp only;cases c<;>simpa using q
def Qx(h:WT ta ls hd λc x=>(c=true->WE ma ls x QE)/\(c=false->WE mb ls x QE)):WE (mIf ta ma mb) ls hd QE:=
 db (h.mono λc x q=>by cases c<;>simp_all)
def BY(h:WA m ls hd λds x=>C6 82/\QE (AT ds) x):WE (Aw m) ls hd QE:=WP.bind (h.mono λds x q=>by dsimp only;rw[ic q.1];exact WP.some q.2)
def Ak(h:WA m ls hd λds x=>QE (.mu x.length) (x++[.lst ds])):WE (Ag m) ls hd QE:=WP.bind (h.mono λ_ _ q=>WP.some q)
def BZ{g:List D->Option D}(h:WA m ls hd λds x=>∃d,g ds=some d/\QE d x):WE (BM g m) ls hd QE:=by
 obtain⟨ds,x,e,d,e2,q⟩:=h;exact⟨d,x,by simp only[T6,e,ik,e2,iY],q⟩
def ZN(h:WA m ls hd λds x=>WE ma ls x λe y=>∃i d,e=.im (.int i)/\atI ds i=some d/\QE d y):WE (He m ma) ls hd QE:=by
 obtain⟨ds,x,e,d,y,e2,i,z,rfl,e4,q⟩:=h;exact⟨z,y,by simp only[d0,e,ik,e2,e4,iY],q⟩
def BO{f:List D->Hd->Option (D×Hd)}(h:WA m ls hd λds x=>WP (f ds x) QE):WE (mCB f m) ls hd QE:=WP.bind (h.mono λ_ _ q=>q)
def JQ{f:D->List D->Hd->Option (D×Hd)}(h:WE ma ls hd λd x=>(∃l,Ap x d=some l)/\WA m ls x λds y=>WP (f d ds y) QE):WE (mMt f ma m) ls hd QE:=by
 obtain⟨d,x,e,⟨l,hl⟩,q⟩:=h;unfold WE;rw[Qb,e,ik];dsimp only;rw[hl];exact WP.bind (q.mono λ_ _ q=>q)
def DN{F:List D->Hd->Option (D×Hd)}(h:WA m ls hd λds x=>WF F ds x QE):WE (Cb F m) ls hd QE:=WP.bind (h.mono λ_ _ q=>q)
def Ly(h:WE ma ls hd λd x=>∃i,d=.im (.int i)/\QE (.im (.int (-i))) x):WE (J7 ma) ls hd QE:=by
 obtain⟨d,x,e,i,rfl,q⟩:=h;exact⟨_,x,by simp only[cy,e,ik],q⟩
def Br(h:WT (AG ma) ls hd λc x=>if c=true then WE mb ls x QE else QE (.im (.bl false)) x):WE (De ma mb) ls hd QE:=by
 refine WP.bind (h.mono λc x q=>?_);dsimp only;cases c
 .exact WP.some (by simpa using q)
 .simpa using q
def Nv(h:WT (AG ma) ls hd λc x=>QE (.im (.bl (!c))) x):WE (IC ma) ls hd QE:=WP.bind (h.mono λ_ _ q=>WP.some q)
def AU(h:WE ma ls hd λd x=>∃b,d=.im (.bl b)/\QT b x):WT (AG ma) ls hd QT:=by
 obtain⟨d,x,e,b,rfl,q⟩:=h;exact⟨b,x,by simp only[IK,e,ik],q⟩
def BK(h:WE ma ls hd λd x=>∃b,Ck x d=some b/\QT b x):WT (BH ma) ls hd QT:=by
 obtain⟨d,x,e,b,e2,q⟩:=h;exact⟨b,x,by simp only[Jw,e,ik,e2,iY],q⟩
def Bw(h:WT ta ls hd λc x=>QT (!c) x):WT (CQ ta) ls hd QT:=WP.bind (h.mono λ_ _ q=>WP.some q)
def JN(h:WT ta ls hd λc x=>if c=true then WT tb ls x QT else QT false x):WT (DO ta tb) ls hd QT:=by
 refine WP.bind (h.mono λc x q=>?_);dsimp only;cases c
 .exact WP.some (by simpa using q)
 .simpa using q
def FV(h:WT ta ls hd λc x=>if c=true then QT true x else WT tb ls x QT):WT (mOr ta tb) ls hd QT:=by
 refine WP.bind (h.mono λc x q=>?_);dsimp only;cases c
 .simpa using q
 .exact WP.some (by simpa using q)
def AZ(h:QT true hd):WT B2 ls hd QT:=⟨_,_,rfl,h⟩
def A6(h:QA [] hd):WA A4 ls hd QA:=⟨_,_,rfl,h⟩
def A3(h:WE ma ls hd λd x=>WA m ls x λds y=>QA (d::ds) y):WA (A2 ma m) ls hd QA:=WP.bind (h.mono λ_ _ q=>WP.bind (q.mono λ_ _ q=>WP.some q))
def D7(h:WA m ls hd λds x=>C6 82/\QA ds x):WA (Ba m) ls hd QA:=WP.bind (h.mono λds x q=>by dsimp only;rw[ic q.1];exact WP.some q.2)
def Nw{k:Int}(e:m ls hd=some ([.im (.int k)],hd))(hk:Lh k)(q:QA (AI 0 k.toNat) hd):WA (J5 m) ls hd QA:=⟨_,_,by simp only[cv,e,ik,hk,iU],q⟩
def Qy(h:WE ma ls hd λd x=>WO ml ls x λl y=>WO mh ls y λu z=>∃ds,Ap z d=some ds/\QA (C7 ds l u) z):WA (Fg ma ml mh) ls hd QA:=by
 obtain⟨d,x,e,l,y,e2,u,z,e3,ds,e4,q⟩:=h;exact⟨_,z,by simp only[cu,e,ik,e2,e3,e4],q⟩
def GH(h:QO none hd):WO B6 ls hd QO:=⟨_,_,rfl,h⟩
def Dr(h:WE ma ls hd λd x=>∃i,d=.im (.int i)/\QO (some i) x):WO (Bf ma) ls hd QO:=by
 obtain⟨d,x,e,i,rfl,q⟩:=h;exact⟨_,x,by simp only[Z5,e,ik],q⟩
def D0(h:WA m ls hd λds x=>∃k,ds=[.im (.int k)]/\HQ k/\QI (AI 0 k.toNat,[]) x):WI (CL m) ls hd QI:=by
 obtain⟨ds,x,e,k,rfl,c,q⟩:=h;exact⟨_,x,by simp only[d7,e,ik,c,iU],q⟩
def Vp(h:WA m ls hd λds x=>∃j k,ds=[.im (.int j),.im (.int k)]/\Pj j k/\QI (AI j (k-j).toNat,[]) x):WI (IE m) ls hd QI:=by
 obtain⟨ds,x,e,j,k,rfl,c,q⟩:=h;exact⟨_,x,by simp only[Z7,e,ik,c,iU],q⟩
def BJ(h:WE ma ls hd λd x=>∃ds,AN d=some ds/\QI (ds,[]) x):WI (Az ma) ls hd QI:=by
 obtain⟨d,x,e,ds,e2,q⟩:=h;exact⟨_,x,by simp only[d6,e,ik,e2,iY],q⟩
def fT(h:WA m ls hd λds x=>QI (ds,[]) x):WI (cM m) ls hd QI:=by
 obtain⟨ds,x,e,q⟩:=h;exact⟨_,x,by simp only[d8,e,iY],q⟩
def Cj(h:WE ma ls hd λd x=>∃k ds,d=.mu k/\x[k]?=some (.lst ds)/\QI (ds,[(k,ds)]) x):WI (BR ma) ls hd QI:=by
 obtain⟨d,x,e,k,ds,rfl,e2,q⟩:=h;exact⟨_,x,by simp only[NF,e,ik,e2],q⟩
def AY{k:Nat}(h:WI mi ls hd λp x=>C6 p.1.length/\WP (BS n ta ma p.2 p.1 (Dl k ix ls) x) QA):WA (Ai k ix mi n ta ma) ls hd QA:=WP.bind (h.mono λp x q=>by dsimp only;rw[ic q.1];exact q.2)
theorem Lz(P:List D->List D->Ls->Hd->Prop):∀{ds es:List D} {ls:Ls} {hd:Hd},P ds es ls hd ->
 (∀d r es ls hd,P (d::r) es ls hd->∃ls1,n d ls hd=some ls1/\WT ta ls1 hd λc x=>if c=true then WE ma ls1 x λz y=>GOk y g/\P r (es++[z]) ls1 y else GOk x g/\P r es ls1 x) ->
 WP (BS n ta ma g ds ls hd) λzs x=>∃ls',P [] (es++zs) ls' x
 |[],es,ls,hd,h,k=>⟨_,_,by unfold BS;rfl,ls,by simpa using h⟩
 |d::r,es,ls,hd,h,k=>by
  obtain⟨ls1,e1,c,x,e2,q⟩:=k d r es ls hd h;unfold BS;rw[e1,ik,e2,ik];cases c with
  |true=>
   rw[ic rfl]at q ⊢;obtain⟨z,y,e3,g3,p3⟩:=q;obtain⟨zs,y2,e4,ls',p4⟩:=Lz P p3 k;rw[e3,ik];dsimp only;rw[ic g3,e4];exact⟨z::zs,y2,rfl,ls',by simpa using p4⟩
  |false=>
   rw[ig Bool.false_ne_true]at q ⊢;dsimp only;rw[ic q.1];exact Lz P q.2 k
def CB{i j:Int}(q:QE (.im (.int (i+j))) hd):WP (Aa (.im (.int i)) (.im (.int j)) hd) QE:=⟨_,_,by simp,q⟩
def Lu{i j:Int}(q:QE (.im (.int (i-j))) hd):WP (Jt (.im (.int i)) (.im (.int j)) hd) QE:=⟨_,_,by simp,q⟩
def B9{i j:Int}(c:Be i j)(q:QE (.im (.int (i*j))) hd):WP (B8 (.im (.int i)) (.im (.int j)) hd) QE:=⟨_,_,by simp[c],q⟩
def ZJ{i j:Int}(c:CC j)(q:QE (.im (.int (i%j))) hd):WP (Ed (.im (.int i)) (.im (.int j)) hd) QE:=⟨_,_,by simp[c],q⟩
def DF{i j:Int}(q:QE (.im (.bl (decide (i<j)))) hd):WP (gLt (.im (.int i)) (.im (.int j)) hd) QE:=⟨_,_,by simp,q⟩
def da{i j:Int}(q:QE (.im (.bl (decide (i<=j)))) hd):WP (gLe (.im (.int i)) (.im (.int j)) hd) QE:=⟨_,_,by simp,q⟩
def Lc{i j:Int}(q:QE (.im (.bl (decide (j<i)))) hd):WP (gGt (.im (.int i)) (.im (.int j)) hd) QE:=⟨_,_,by simp,q⟩
def Vn{i j:Int}(q:QE (.im (.bl (decide (j<=i)))) hd):WP (gGe (.im (.int i)) (.im (.int j)) hd) QE:=⟨_,_,by simp,q⟩
def F8{i j:Int}(q:QE (.im (.bl (decide (i=j)))) hd):WP (gEq (.im (.int i)) (.im (.int j)) hd) QE:=⟨_,_,by simp,q⟩
def Lv{i j:Int}(q:QE (.im (.bl (!decide (i=j)))) hd):WP (gNe (.im (.int i)) (.im (.int j)) hd) QE:=⟨_,_,by simp,q⟩
def ZK{i j:Str}(q:QE (.im (.bl (decide (i=j)))) hd):WP (gEq (.im (.str i)) (.im (.str j)) hd) QE:=⟨_,_,by simp,q⟩
def Qs{i j:Str}(q:QE (.im (.bl (!decide (i=j)))) hd):WP (gNe (.im (.str i)) (.im (.str j)) hd) QE:=⟨_,_,by simp,q⟩
def AL{i:Int}(e1:As hd d=some ds)(e2:atI ds i=some e)(q:QE e hd):WP (gIx d (.im (.int i)) hd) QE:=⟨_,_,by rw[fF,e1,ik,e2];rfl,q⟩
def Wj{i j:Int}(q:QE (.im (.int (max i j))) hd):WP (WZ [.im (.int i),.im (.int j)] hd) QE:=⟨_,_,rfl,by have:(if j>i then j else i)=max i j:=(by split<;>omega);rw[this];exact q⟩
def K8{i j:Int}(q:QE (.im (.int (min i j))) hd):WP (IJ [.im (.int i),.im (.int j)] hd) QE:=⟨_,_,rfl,by have:(if j<i then j else i)=min i j:=(by split<;>omega);rw[this];exact q⟩
def CI{tp:Bool}{g:List D->Option D}(e1:(if tp then As hd d else Ap hd d)=some ds)(e2:g ds=some z)(q:QE z hd):WP (f1 tp g [d] hd) QE:=⟨_,_,by rw[fG,e1,ik,e2];rfl,q⟩
def D6{k:Nat}(e1:hd[k]?=some (.lst ds))(c:EH 82)(q:QE (.im .non) (hd.set k (.lst (ds++[x])))):WP (Au (.mu k) [x] hd) QE:=⟨_,_,by rw[T7,e1];simp only[c,iU],q⟩
def Wg(h:WE mc ls hd λp x=>WE ma ls x λq y=>WE mb ls y λr z=>∃w i j ds,q=.mu w/\r=.im (.int i)/\z[w]?=some (.lst ds)/\ixN 82 i=some j/\QS (.nx ls) (z.set w (.lst (ds.set j p)))):WS (Es ma mb mc) ls hd QS:=by
 obtain⟨p,x,e1,q,y,e2,r,z,e3,w,i,j,ds,rfl,rfl,e5,c,qq⟩:=h;exact⟨_,_,by simp only[Z6,e1,ik,e2,e3,e5,c,iY],qq⟩
def Ac{k n:Nat}{m:MS}{ds:List D}{Q:D->Hd->Prop}(hl:82=k)(h:WS m (ds.map some++List.replicate (n-k) none) hd λf x=>match f with
 |.rt d=>Q d x
 |.nx _=>Q (.im .non) x
 | _=>False):WF (mkF k n m) ds hd Q:=by
 obtain⟨f,x,e,q⟩:=h;unfold WF mkF;rw[ic hl,e];cases f with
 |nx l=>exact⟨_,_,rfl,q⟩
 |rt l=>exact⟨_,_,rfl,q⟩
 |bk l=>exact q.elim
 |ct l=>exact q.elim
def AD{F:List D->Hd->Option (D×Hd)}(h:WA m ls hd λds x=>Ay 0 ds=true/\WF F ds [] λd _=>∃i,d=.im i/\QE (.im i) x):WE (A8 0 F m) ls hd QE:=by
 obtain⟨ds,x,e,c,d,y,e2,i,rfl,q⟩:=h;exact⟨_,_,LK e c e2,q⟩
end
structure Tap(T:Nat->MO->MO->Prop)(P:List D->Hd->Option (D×Hd)):Prop where
 cl:∀{k:Nat} {a b:MO},T k a b->clO 2 a=true/\clO 2 b=true
 le:∀{j k:Nat} {a b:MO},T k a b->j<=k->T j a b
 pick:∀{k:Nat} {a b:MO} {many:Int},T (k+1) a b->0<many->many<1073741824->∃r a' b',0<=r/\r<many/\P [.mu 1,.im (.int many)] [a,b]=some (.im (.int r),[a',b'])/\T k a' b'
section
variable{T:Nat->MO->MO->Prop}{P:List D->Hd->Option (D×Hd)}{rest:Hd}{QE:D->Hd->Prop}{n c:Nat}
def Tap.draw(t:Tap T P)(hT:T (n+1) a b){many:Int}(e:m ls hd=some ([.mu 1,.im (.int many)],a::b::rest))(h0:0<many)(h1:many<1073741824)
 (k:∀r a' b',T n a' b'->0<=r->r<many->QE (.im (.int r)) (a'::b'::rest)):WE (A8 2 P m) ls hd QE:=by
 obtain⟨r,a',b',p1,p2,e2,hT'⟩:=t.pick hT h0 h1;refine⟨_,_,NX (w:=2) (ds:=[.mu 1,.im (.int many)]) (pre:=[a,b]) (pre':=[a',b']) (rest:=rest) (g:=[]) rfl rfl e 70 ?_ ?_ (by simpa using e2),k r a' b' hT' p1 p2⟩
 .simp[t.cl hT]
 .simp[t.cl hT']
end
section
variable{K:Frag}
noncomputable def GK(w:Nat)(ls:Ls):Ls:=ls.map λo=>match o with
 |some d=>if clD w d=true then some d else none
 |none=>none
noncomputable def GL(w:Nat):Fl->Option Fl
 |.nx ls=>some (.nx (GK w ls))
 |.bk ls=>some (.bk (GK w ls))
 |.ct ls=>some (.ct (GK w ls))
 |.rt d=>if clD w d=true then some (.rt d)else none
noncomputable def Jn(w:Nat)(m:MS):MS:=λls hd=>if hd.length<=w then(m ls hd).bind λp=>if(p.2.take w).all (clO w)=true then(GL w p.1).map λf=>(f,p.2.take w)else none else none
def RL.trim(h:RL K ρ H ls σ)(w:Nat):RL K (ρ.take w) H (GK w ls) σ:=by
 refine⟨by simp[GK,h.len],λi d e=>?_⟩;unfold GK at e;rw[List.getElem?_map]at e;cases q:ls[i]? with
 |none=>rw[q]at e;cases e
 |some o=>
  rw[q]at e;cases o with
  |none=>simp at e
  |some z=>
   simp only[iY,Option.some.injEq]at e;split at e
   .next c=>
    cases e;obtain⟨v,e1,e2⟩:=h.ob i _ q;exact⟨v,e1,e2.take w c⟩
   .cases e
def Ext.trim(x:Ext ρ H ρ' H'){w:Nat}(h:ρ.length<=w):Ext ρ H (ρ'.take w) H':=by
 obtain⟨r,rfl,fr⟩:=x.pre;refine⟨⟨r.take (w-ρ.length),?_,λb hb=>fr b (ju hb)⟩,x.keep,x.tab⟩;rw[List.take_append,jM h]
def X7(w:Nat)(h:RS K t m):RS K t (Jn w m):=by
 intro ρ σ H hd ls E f hd' hR hL hm hQ;unfold Jn at hm;split at hm
 .next hw=>
  obtain⟨⟨f1,h1⟩,e1,hm⟩:=gV hm;dsimp only at hm;split at hm
  .next c=>
   obtain⟨f2,e2,e3⟩:=iS hm;cases e3;refine h ρ σ H hd ls E f1 h1 hR hL e1 λρ1 H1 x1 R1=>?_;have q:=hQ (ρ1.take w) H1 (x1.trim (by rw[hR.len];exact hw)) (R1.take w c);cases f1 with
   |nx l=>simp only[GL,Option.some.injEq]at e2;subst e2;exact λσ' L=>q σ' (L.trim w)
   |bk l=>simp only[GL,Option.some.injEq]at e2;subst e2;exact λσ' L=>q σ' (L.trim w)
   |ct l=>simp only[GL,Option.some.injEq]at e2;subst e2;exact λσ' L=>q σ' (L.trim w)
   |rt d=>
    simp only[GL]at e2;split at e2
    .next c2=>cases e2;exact λv r=>q v (r.take w c2)
    .cases e2
  .cases hm
 .cases hm
def We{w:Nat}{Q:Fl->Hd->Prop}(hw:hd.length<=w)(h:WS m ls hd λf x=>(x.take w).all (clO w)=true/\∃f',GL w f=some f'/\Q f' (x.take w)):WS (Jn w m) ls hd Q:=by
 obtain⟨f,x,e,c,f',e2,q⟩:=h;exact⟨f',x.take w,by unfold Jn;rw[ic hw,e,ik];dsimp only;rw[ic c,e2];rfl,q⟩
noncomputable def FN(m:MS):MS:=λls hd=>Jn hd.length m ls hd
def UI(h:RS K t m):RS K t (FN m):=λρ σ H hd ls E f hd' hR hL hm hQ=>X7 hd.length h ρ σ H hd ls E f hd' hR hL hm hQ
def SI(K:Frag){st:List Stmt}(h:QSs K X st t m):QSs K X st t (FN m):=⟨h.p,UI h.r⟩
def Lr{Q:Fl->Hd->Prop}(h:WS m ls hd λf x=>(x.take hd.length).all (clO hd.length)=true/\∃f',GL hd.length f=some f'/\Q f' (x.take hd.length)):WS (FN m) ls hd Q:=We (iq _) h
end
mutual
theorem NQ{v w:Nat}(h:v<=w):∀{d:D},clD v d=true->clD w d=true
 |.im i,_=>by simp
 |.mu n,c=>by simp at c ⊢;omega
 |.tm ds,c=>by rw[clD]at c ⊢;exact EV h c
 |.ro ns,_=>by rw[clD]
 |.op _ _ ds,c=>by rw[clD]at c ⊢;exact EV h c
 |.fv _ ds,c=>by rw[clD]at c ⊢;exact EV h c
theorem EV{v w:Nat}(h:v<=w):∀{ds:List D},Ay v ds=true->Ay w ds=true
 |[],_=>by simp
 |d::ds,c=>by
  simp only[TK,Bool.and_eq_true]at c ⊢;exact⟨NQ h c.1,EV h c.2⟩
end
theorem LF{v w:Nat}(h:v<=w):∀{ds:List (Key×D)},Gk v ds=true->Gk w ds=true
 |[],_=>by simp[Gk]
 |d::ds,c=>by
  simp only[Gk,Bool.and_eq_true]at c ⊢;exact⟨NQ h c.1,LF h c.2⟩
def Vg{v w:Nat}(h:v<=w)(c:clO v o=true):clO w o=true:=by
 cases o with
 |lst ds=>exact EV h c
 |dic ds=>exact LF h c
section
variable{T:Nat->MO->MO->Prop}{P:List D->Hd->Option (D×Hd)}{rest:Hd}{QE:D->Hd->Prop}
def Tap.callX(t:Tap T P){n c:Nat}(hT:T (n+c) a b)(ex:Hd){w:Nat}{F:List D->Hd->Option (D×Hd)}{R:I->Prop}(e:m ls hd=some (.mu 1::as,a::b::(ex++rest)))(hw:w=ex.length+2)(ha:Ay w as=true)(hx:ex.all (clO w)=true)
 (hF:∀a b,T (n+c) a b->WF F (.mu 1::as) (a::b::ex) λd x=>∃i a' b' g,d=.im i/\R i/\T n a' b'/\x=a'::b'::(ex++g))
 (k:∀i a' b',T n a' b'->R i->QE (.im i) (a'::b'::(ex++rest))):WE (A8 w F m) ls hd QE:=by
 subst hw;have hcl:∀o,clO 2 o=true->clO (ex.length+2) o=true:=λo h=>Vg 66 h;obtain⟨d,x,e2,i,a',b',g,rfl,hR,hT',rfl⟩:=hF a b hT;refine⟨_,_,NX (w:=ex.length+2) (ds:=.mu 1::as) (pre:=a::b::ex) (pre':=a'::b'::ex) (rest:=rest) (g:=g) rfl rfl e (by simp[ha]) ?_ ?_ e2,k i a' b' hT' hR⟩
 .simp[hcl _ (t.cl hT).1,hcl _ (t.cl hT).2];simpa using hx
 .simp[hcl _ (t.cl hT').1,hcl _ (t.cl hT').2];simpa using hx
def Tap.call(t:Tap T P){n c:Nat}(hT:T (n+c) a b){F:List D->Hd->Option (D×Hd)}{R:I->Prop}(e:m ls hd=some (.mu 1::as,a::b::rest))(ha:Ay 2 as=true)
 (hF:∀a b,T (n+c) a b->WF F (.mu 1::as) [a,b] λd x=>∃i a' b' g,d=.im i/\R i/\T n a' b'/\x=a'::b'::g)
 (k:∀i a' b',T n a' b'->R i->QE (.im i) (a'::b'::rest)):WE (A8 2 F m) ls hd QE:=
 t.callX hT [] (w:=2) e rfl ha rfl hF k
end
end L2
namespace L2
open PySem PySem.Spec PyProof.Rows
section
variable{Q:Fl->Hd->Prop}{QE:D->Hd->Prop}
def df(P:Ls->Hd->Prop)(Q:Fl->Hd->Prop):Fl->Hd->Prop
 |.nx l,h=>P l h
 |.ct l,h=>P l h
 |.bk l,h=>Q (.nx l) h
 |.rt d,h=>Q (.rt d) h
def Lq(P:Nat->Ls->Hd->Prop){n:Nat}(h:P n ls hd)
 (k:∀n ls hd,P n ls hd->WT c ls hd λt x=>if t=true then WS b ls x (df (λl y=>∃m,m<n/\P m l y) Q)else Q (.nx ls) x):WS (Co c b) ls hd Q:=by
 have go:∀n ls hd,P n ls hd->∃j r,BA c b j ls hd=some r/\Q r.1 r.2:=by
  intro n
  induction n using Nat.strongRecOn with
  |ind n ih=>
   intro ls hd h;obtain⟨t,x,e1,q⟩:=k n ls hd h;cases t with
   |false=>
    rw[ig Bool.false_ne_true]at q;exact⟨1,(.nx ls,x),by unfold BA;rw[e1];rfl,q⟩
   |true=>
    rw[ic rfl]at q;obtain⟨f,y,e2,q⟩:=q;cases f with
    |nx l=>
     obtain⟨m,hm,p⟩:=q;obtain⟨j,r,e3,q3⟩:=ih m hm l y p;exact⟨j+1,r,by unfold BA;rw[e1,ik,ic rfl,e2];exact e3,q3⟩
    |ct l=>
     obtain⟨m,hm,p⟩:=q;obtain⟨j,r,e3,q3⟩:=ih m hm l y p;exact⟨j+1,r,by unfold BA;rw[e1,ik,ic rfl,e2];exact e3,q3⟩
    |bk l=>exact⟨1,(.nx l,y),by unfold BA;rw[e1,ik,ic rfl,e2];rfl,q⟩
    |rt d=>exact⟨1,(.rt d,y),by unfold BA;rw[e1,ik,ic rfl,e2];rfl,q⟩
 obtain⟨j,⟨f,x⟩,e,q⟩:=go n ls hd h;exact⟨f,x,Kz e,q⟩
def Tg{k j:Nat}{i:Int}(e1:hd[k]?=some (.lst ds))(hr:HQ i)(e2:ixN 82 i=some j)(e3:ds[j]?=some z)(q:QE z (hd.set k (.lst (ds.eraseIdx j)))):WP (GB (.mu k) [.im (.int i)] hd) QE:=⟨_,_,by rw[VY,e1];simp[hr,e2,e3],q⟩
end
end L2
namespace Bd
open PySem L2
structure Tp where
 cells:List Int
 nx:Int
 lf:Int
 tn:Int
theorem Dy:∀ns:List Int,I.pys (ns.map I.int)=ns.map PyData.int
 |[]=>by simp[I.pys]
 |n::ns=>by simp[I.pys,I.py,Dy ns]
def Do(ns:List Int):B1 (ns.map λi=>D.im (.int i))=some (ns.map I.int):=by
 have:(ns.map λi=>D.im (.int i))=(ns.map I.int).map D.im:=by rw[iZ];rfl
 rw[this];exact TX _
def Z9(ns:List Int):PyData.eqv (.list (ns.map PyData.int)) (.list [])=decide (ns=[]):=by
 cases ns<;>simp[PyData.eqv,PyData.eqvAll]
def VN(ns:List Int):(PyData.list (ns.map PyData.int)).canLay0=true:=by simp[PyData.canLay0,Ii]
def GD(ns:List Int)(hd:Hd)(neg:Bool):Gh neg (.list (ns.map PyData.int)) (.list []) hd=some (.im (.bl (if neg then !decide (ns=[])else decide (ns=[]))),hd):=by
 unfold Gh;rw[ic,Z9];refine⟨VN ns,by simp[PyData.canLay0,PyData.canLayAll0],?_⟩;have:(PyData.list []).depth<=1:=by simp[PyData.depth,PyData.depthAll]
 omega
def Er{x:Int}(m:Int)(h:0<m):0<=x%m/\x%m<m:=⟨Int.emod_nonneg _ 66,Int.emod_lt_of_pos _ h⟩
def dF(hd:Hd)(neg:Bool):Gh neg (.list []) (.list []) hd=some (.im (.bl (if neg then false else true)),hd):=by
 have:=GD [] hd neg;simpa using this
def fO(h:xs≠[])(n:Int):∃c,atI (xs.map λi=>D.im (.int i)) (n%(xs.length:Int))=some (.im (.int c)):=by
 have hl:0<xs.length:=IH h;obtain⟨a,b⟩:=Er (x:=n) (xs.length:Int) 66;obtain⟨k,hk⟩:=Int.eq_ofNat_of_zero_le a;have hk':k<xs.length:=by omega
 exact⟨xs[k],CW hk (by simp[hk'])⟩
def po1:Py 10 18:=by unfold Py;decide
inductive Cost where
 |late (d:Int)|tardy (d w:Int)|miss (d w:Int)|ends (w:Int)|steps (rows:84)
noncomputable def fX(r:Int×Int):I:=.tup [.int r.1,.int r.2]
noncomputable def Wa:Cost->I
 |.late d=>.tup [.str "late",.int d]
 |.tardy d w=>.tup [.str "tardy",.int d,.int w]
 |.miss d w=>.tup [.str "miss",.int d,.int w]
 |.ends w=>.tup [.str "ends",.int w]
 |.steps rows=>.tup [.str "steps",.tup (rows.map fX)]
def n1:¬ (("late":Str)="steps"):=by decide +kernel
def n2:¬ (("tardy":Str)="steps"):=by decide +kernel
def n3:¬ (("miss":Str)="steps"):=by decide +kernel
def n4:¬ (("ends":Str)="steps"):=by decide +kernel
def n7:¬ (("miss":Str)="ends"):=by decide +kernel
def n8:¬ (("tardy":Str)="late"):=by decide +kernel
def n10:¬ (("miss":Str)="tardy"):=by decide +kernel
def n12:¬ (("steps":Str)="late"):=by decide +kernel
def TJ(w:Nat)(ns:List Int):Ay w (ns.map λi=>D.im (.int i))=true:=by induction ns<;>simp_all [Ay,clD]
structure Wk where
 len:Int
 com:Int
 cost:Cost
noncomputable def DG(w:Wk):I:=.tup [.int w.len,.int w.com,Wa w.cost]
noncomputable abbrev ZL(ws:List Wk):I:=.tup (ws.map DG)
noncomputable abbrev AS(ks:71):I:=.tup (ks.map λk:Nat=>.int k)
def Vc(ns:List Int)(lo hi:Option Int):∃cs:List Int,C7 (ns.map λn=>.im (.int n)) lo hi=cs.map λn=>.im (.int n):=⟨(ns.drop _).take _,by unfold C7;rw[map_take,map_drop]⟩
noncomputable abbrev AO(ks:71):List D:=ks.map λk:Nat=>D.im (.int (k:Int))
def Yw{n:Nat}{i:Int}(a:0<=i)(b:i<n):ixN n i=some i.toNat:=by unfold ixN;rw[ic a,ic b]
theorem Jl:∀{a:71} {k x:Nat},a[k]?=some x->(x::a.eraseIdx k).Perm a
 |[],k,x,h=>by simp at h
 |y::r,0,x,h=>by simp at h;subst h;exact .refl _
 |y::r,k+1,x,h=>by
  have ih:=Jl (a:=r) (k:=k) (x:=x) (by simpa using h);exact(List.Perm.swap y x _).trans (ih.cons y)
theorem LD{α β:Type}(f:α->β):∀(l:List α) (k:Nat),(l.map f).eraseIdx k=(l.eraseIdx k).map f
 |[],k=>rfl
 |y::r,0=>rfl
 |y::r,k+1=>by simp[LD f r k]
def SQ{k x:Nat}(h:a[k]?=some x):(b++[x]++a.eraseIdx k).Perm (b++a):=by
 rw[jL];exact List.Perm.append_left b (Jl h)
def Sc{i a:Nat}(h:seq[i]?=some a):atI (AO seq) (i:Int)=some (.im (.int (a:Int))):=CW rfl (by simp[h])
def Vb(xs:List D)(k:Nat):C7 xs none (some (k:Int))=xs.take k:=by
 unfold C7;rw[HT.sIx_none,HT.sIx_nat,Nat.sub_zero,List.drop_zero];by_cases h:k<=79
 .rw[k8 h]
 .rw[Nat.min_eq_right 66,List.take_length,jM 66]
def Eo(n:Nat):AI 0 n=AO (69 n):=by
 refine jZ λi=>?_;by_cases h:i<n
 .rw[Jh h];simp[h]
 .rw[List.getElem?_eq_none 75,List.getElem?_eq_none 75]
noncomputable abbrev intD(xs:List Int):List D:=xs.map λx=>D.im (.int x)
noncomputable abbrev FE:MS:=(Ax (DO (AG (mOp gEq (A0 5) (A0 4))) (AG (mOp (gIn true) (A0 6) (A0 2))))
 (A9 (BF (mMt Au (A0 2) (A2 (A0 6) A4)))
 (BF (mMt Au (A0 3) (A2 (A0 6) A4))))
  Ah)
noncomputable abbrev NC:MS:=(A9 (AF 4 (mMt Hj (A0 3) A4))
 (Bo (D4 (A0 0)) (BB 2 (AJ (AB 5) (AJ (AB 6) BG))) FE))
@[reducible] noncomputable def HR:MS:=(A9 (AF 2 (Ag (Ba A4)))
 (A9 (AF 3 (Ag (Ba (A2 (A0 1) A4))))
 (A9 (Co (BH (A0 3)) NC)
 (AR (BM Bb (Bv (BR (A0 2))))))))
noncomputable def F_reached:List D->Hd->Option (D×Hd):=mkF 2 7 HR
def T1(xs:List Int):Bi (intD xs)=some (xs.map V.int):=by
 induction xs with
 |nil=>rfl
 |cons x r ih=>simp[Bi,EG]at ih ⊢;exact ih
def VP(x:Int)(xs:List Int):inV (.int x) (xs.map V.int)=decide (x∈xs):=by
 unfold inV
 induction xs with
 |nil=>simp
 |cons y r ih=>
  simp only[iw,any_cons,ih,ir];have:eqV (V.int y) (V.int x)=decide (x=y):=by
   unfold eqV;by_cases h:x=y
   .subst h;simp
   .have h':¬ y=x:=λz=>h z.symm;simp[h,h']
  rw[this,Bool.decide_or]
def in_ints(x:Int)(neg:Bool)(h:As hd d=some (intD xs)):gIn neg (.im (.int x)) d hd=some (.im (.bl (if neg then !decide (x∈xs)else decide (x∈xs))),hd):=by
 simp only[gIn,EG,ik,h,T1,iY,VP]
def g0(hd:Hd)(x y:MO):(hd++[x,y])[hd.length]?=some x:=by simp
def g1(hd:Hd)(x y:MO):(hd++[x,y])[hd.length+1]?=some y:=by simp
def t0(hd:Hd)(x y z:MO):(hd++[x,y]).set hd.length z=hd++[z,y]:=by simp
def t1(hd:Hd)(x y z:MO):(hd++[x,y]).set (hd.length+1) z=hd++[x,z]:=by simp
theorem HJ(P:D)(hd:Hd)(g:Gd)(G:GOk hd g)(a at_:Int):∀(qs:84) (found fresh:List Int) (z5 z6:Option D),found.length+qs.length<=1000->fresh.length+qs.length<=10000->∃(new:List Int) (y5 y6:Option D),
 C4 (BB 2 (AJ (AB 5) (AJ (AB 6) BG))) FE g (qs.map Ae) [some P,some (.im (.int a)),some (.mu hd.length),some (.mu (hd.length+1)),some (.im (.int at_)),z5,z6] (hd++[.lst (intD found),.lst (intD fresh)]) =
  some (.nx [some P,some (.im (.int a)),some (.mu hd.length),some (.mu (hd.length+1)),some (.im (.int at_)),y5,y6],hd++[.lst (intD (found++new)),.lst (intD (fresh++new))])/\
 new.length<=qs.length/\new.Nodup/\(∀y∈new,y∉found/\(at_,y)∈qs)/\∀y,(at_,y)∈qs->y∈found++new
 |[],found,fresh,z5,z6,_,_=>⟨[],z5,z6,by simp[VJ],by simp,.nil,λy h=>by simp at h,λy h=>by simp at h⟩
 |(u,v)::qs,found,fresh,z5,z6,hf,hr=>by
   simp only[j6]at hf hr;have gg:∀r:Hd,GOk (hd++r) g:=λr=>On G r;have nm:∀z5 z6:Option D,∀h:Hd,BB 2 (AJ (AB 5) (AJ (AB 6) BG)) (Ae (u,v)) [some P,some (.im (.int a)),some (.mu hd.length),some (.mu (hd.length+1)),some (.im (.int at_)),z5,z6] h=some [some P,some (.im (.int a)),some (.mu hd.length),some (.mu (hd.length+1)),some (.im (.int at_)),some (.im (.int u)),some (.im (.int v))]:=λz5 z6 h=>by simp[Ae]
   have sv:As (hd++[.lst (intD found),.lst (intD fresh)]) (.mu hd.length)=some (intD found):=by rw[dk,Ln,g0]
   have gi:=in_ints v true sv;by_cases c:u=at_/\v∉found
   .obtain⟨new,y5,y6,q,l,nd,fr,al⟩:=HJ P hd g G a at_ qs (found++[v]) (fresh++[v]) (some (.im (.int u))) (some (.im (.int v))) 75 75;refine⟨v::new,y5,y6,?_,by simp;omega,?_,λy hy=>?_,λy hy=>?_⟩
    .have e1:found++v::new=found++[v]++new:=by simp
     have e2:fresh++v::new=fresh++[v]++new:=by simp
     rw[e1,e2,<- q,iw];have f1:EH found.length:=BU 66;have f2:EH fresh.length:=BU 66;refine L3 (nm _ _ _) ?_ (gg _);simp only[FE,NG,NI,IK,Qa,Di,List.getElem?_cons_zero,List.getElem?_cons_succ,ik,Kc,NH,c.1,ky,iU,Bool.false_eq_true,jy,gi,c.2,decide_false,Bool.not_false,Jx,Z8,Qb,Ln,g0,g1,Ot,NE,T7,iX,f1,f2,t0,t1,jl,iw,jt]
    .refine nodup_cons.mpr ⟨λh=>(fr v h).1 70,nd⟩
    .rcases mem_cons.mp hy with rfl|hy
     .exact⟨c.2,by rw[c.1];exact jg⟩
     .have:=fr y hy;exact⟨λh=>this.1 (by simp[h]),j4 _ this.2⟩
    .rcases mem_cons.mp hy with h|h
     .cases h;simp
     .have:=al y h;simp at this ⊢;rcases this with h|h|h
      .exact .inl h
      .exact .inr (.inl h)
      .exact .inr (.inr h)
   .obtain⟨new,y5,y6,q,l,nd,fr,al⟩:=HJ P hd g G a at_ qs found fresh (some (.im (.int u))) (some (.im (.int v))) 66 66;refine⟨new,y5,y6,?_,by simp;omega,nd,λy hy=>⟨(fr y hy).1,j4 _ (fr y hy).2⟩,λy hy=>?_⟩
    .rw[<- q,iw];refine L3 (nm _ _ _) ?_ (gg _);by_cases c1:u=at_
     .have c2:v∈found:=Classical.not_not.mp λh=>c ⟨c1,h⟩;simp only[FE,NG,NI,IK,Qa,Di,List.getElem?_cons_zero,List.getElem?_cons_succ,ik,Kc,NH,c1,ky,iU,Bool.false_eq_true,jy,gi,c2,Bool.not_true,Os]
     .simp only[FE,NG,NI,IK,Qa,Di,List.getElem?_cons_zero,List.getElem?_cons_succ,ik,Kc,NH,c1,decide_false,iU,Bool.false_eq_true,jy,Os]
    .rcases mem_cons.mp hy with h|h
     .cases h;have c2:v∈found:=Classical.not_not.mp λh=>c ⟨rfl,h⟩;simp[c2]
     .exact al y h
end Bd
namespace L2
open PySem PySem.Spec PyProof.Rows
section
variable{ls:Ls}{hd:Hd}{QE:D->Hd->Prop}{QI:List D×Gd->Hd->Prop}{ma:ME}{n:MG}{ta:MT}{mi:MI}{m:MA}
def HB{x:Int}{neg:Bool}(e1:As hd d=some (Bd.intD xs))(q:QE (.im (.bl (if neg then !decide (x∈xs)else decide (x∈xs)))) hd):WP (gIn neg (.im (.int x)) d hd) QE:=WP.eq (Bd.in_ints x neg e1) q
def ZM(h:WE ma ls hd λd x=>(∃is,d=.im (.tup is)/\QI (is.map .im,[]) x)∨∃k ds,d=.mu k/\x[k]?=some (.lst ds)/\QI (ds,[(k,ds)]) x):WI (D4 ma) ls hd QI:=by
 obtain⟨d,x,e,h⟩:=h;rcases h with⟨is,rfl,q⟩|⟨k,ds,rfl,e2,q⟩
 .exact⟨_,_,Ol e,q⟩
 .exact⟨_,_,cY e e2,q⟩
def Wm{mm:Ls->Hd->Option (List Int×Hd)}(h:WP (mm ls hd) λl x=>QE (.im (.int l.length)) x):WE (ID mm) ls hd QE:=WP.bind (h.mono λ_ _ q=>WP.some q)
def Ti{α:Type}{k:Nat}{ix:71}{a0:α}{me:MM α}{Q:α->Hd->Prop}(h:WI mi ls hd λp x=>WP (mGo n ta me p.2 p.1 (Dl k ix ls) x a0) Q):WP (Hf k ix mi n ta a0 me ls hd) Q:=WP.bind (h.mono λ_ _ q=>q)
theorem Lx{α:Type}{me:MM α}{g:Gd}{Q:α->Hd->Prop}(P:List D->α->Ls->Hd->Prop):∀{ds:List D} {a:α} {ls:Ls} {hd:Hd},P ds a ls hd ->
 (∀d r a ls hd,P (d::r) a ls hd->∃ls1,n d ls hd=some ls1/\WT ta ls1 hd λc x=>if c=true then WP (me ls1 x a) λa' y=>GOk y g/\P r a' ls1 y else GOk x g/\P r a ls1 x) ->
 (∀a ls hd,P [] a ls hd->Q a hd)->WP (mGo n ta me g ds ls hd a) Q
 |[],a,ls,hd,h,k,z=>⟨_,_,by unfold mGo;rfl,z _ _ _ h⟩
 |d::r,a,ls,hd,h,k,z=>by
  obtain⟨ls1,e1,c,x,e2,q⟩:=k d r a ls hd h;unfold mGo;rw[e1,ik,e2,ik];cases c with
  |true=>
   rw[ic rfl]at q ⊢;obtain⟨a',y,e3,g3,p3⟩:=q;rw[e3,ik];dsimp only;rw[ic g3];exact Lx P p3 k z
  |false=>
   rw[ig Bool.false_ne_true]at q ⊢;dsimp only;rw[ic q.1];exact Lx P q.2 k z
def PD{QA:List D->Hd->Prop}(P:List D->List D->Ls->Hd->Prop)(h:P ds [] ls hd)
 (k:∀d r es ls hd,P (d::r) es ls hd->∃ls1,n d ls hd=some ls1/\WT ta ls1 hd λc x=>if c=true then WE ma ls1 x λz y=>GOk y g/\P r (es++[z]) ls1 y else GOk x g/\P r es ls1 x)
 (z:∀es ls hd,P [] es ls hd->QA es hd):WP (BS n ta ma g ds ls hd) QA:=
 (Lz P h k).mono λzs x ⟨ls',q⟩=>z zs ls' x (by simpa using q)
def Aq{α:Type}{g:Gd}{QA:List D->Hd->Prop}(inj:α->D)(f:α->Option D)(L:D->Ls->Prop)(l0:Ls){xs:List α}{hd:Hd}(hg:GOk hd g)
 (k:∀x∈xs,∀ls,ls=l0∨(∃d,L d ls)->∃ls1,n (inj x) ls hd=some ls1/\L (inj x) ls1/\WT ta ls1 hd λc y=>y=hd/\if c=true then ∃z,f x=some z/\WE ma ls1 hd λe y=>y=hd/\e=z else f x=none)
 (q:QA (xs.filterMap f) hd):WP (BS n ta ma g (xs.map inj) l0 hd) QA:=by
 have go:∀(xs':List α) (ls:Ls),(∀x∈xs',x∈xs)->(ls=l0∨∃d,L d ls)->BS n ta ma g (xs'.map inj) ls hd=some (xs'.filterMap f,hd):=by
  intro xs'
  induction xs' with
  |nil=>intro ls _ _;unfold BS;rfl
  |cons x r ih=>
   intro ls hs hl;obtain⟨ls1,e1,L1,c,y,e2,rfl,q⟩:=k x (hs x jg) ls hl;have ih:=ih ls1 (λz hz=>hs z (j4 _ hz)) (.inr ⟨_,L1⟩);rw[iw];unfold BS;rw[e1,ik,e2,ik];cases c with
   |true=>
    rw[ic rfl]at q;obtain⟨z,ez,e,y,e3,rfl,rfl⟩:=q;rw[ic rfl,e3,ik];dsimp only;rw[ic hg,ih,jJ,ez];rfl
   |false=>
    rw[ig Bool.false_ne_true]at q;rw[ig Bool.false_ne_true];dsimp only;rw[ic hg,ih,jJ,q]
 exact⟨_,_,go xs l0 (λ_ h=>h) (.inl rfl),q⟩
end
mutual
noncomputable def shD(k:Nat):D->D
 |.im i=>.im i
 |.mu n=>.mu (n+k)
 |.tm ds=>.tm (EY k ds)
 |.ro ns=>.ro ns
 |.op nm fs ds=>.op nm fs (EY k ds)
 |.fv m ds=>.fv m (EY k ds)
noncomputable def EY(k:Nat):List D->List D
 |[]=>[]
 |d::ds=>shD k d::EY k ds
end
noncomputable def MC(k:Nat):List (Key×D)->List (Key×D)
 |[]=>[]
 |d::ds=>(d.1,shD k d.2)::MC k ds
noncomputable def shO(k:Nat):MO->MO
 |.lst ds=>.lst (EY k ds)
 |.dic kvs=>.dic (MC k kvs)
section
variable{K:Frag}
mutual
theorem RD.shift(ρ1:List Addr):∀{d:D} {v:V},RD K ρ H d v->RD K (ρ1++ρ) H (shD ρ1.length d) v
 |.im i,v,h=>by simp only[RD,shD]at h ⊢;exact h
 |.mu n,v,h=>by
  simp only[RD,shD]at h ⊢;obtain⟨a,e,q⟩:=h;exact⟨a,by rw[List.getElem?_append_right 66,Nat.add_sub_cancel];exact e,q⟩
 |.tm ds,v,h=>by
  simp only[RD,shD]at h ⊢;obtain⟨a,xs,e,q,z⟩:=h;exact⟨a,xs,e,q,RDs.shift ρ1 z⟩
 |.ro ns,v,h=>by simp only[RD,shD]at h ⊢;exact h
 |.op nm fs ds,v,h=>by
  simp only[RD,shD]at h ⊢;obtain⟨a,xs,e,q,z⟩:=h;exact⟨a,xs,e,q,RDs.shift ρ1 z⟩
 |.fv k ds,v,h=>by
  simp only[RD,shD]at h ⊢;obtain⟨a,xs,e,q,z⟩:=h;exact⟨a,xs,e,q,RDs.shift ρ1 z⟩
theorem RDs.shift(ρ1:List Addr):∀{d:List D} {v:List V},RDs K ρ H d v->RDs K (ρ1++ρ) H (EY ρ1.length d) v
 |[],v,h=>by simpa only[RDs,EY]using h
 |d::ds,v,h=>by
  simp only[RDs,EY]at h ⊢;obtain⟨x,r',e,q,z⟩:=h;exact⟨x,r',e,q.shift ρ1,RDs.shift ρ1 z⟩
end
theorem RKs.shift(ρ1:List Addr):∀{d:List (Key×D)} {v:List (Key×V)},RKs K ρ H d v->RKs K (ρ1++ρ) H (MC ρ1.length d) v
 |[],v,h=>by simpa only[RKs,MC]using h
 |d::ds,v,h=>by
  simp only[RKs,MC]at h ⊢;obtain⟨x,r',e,q1,q,z⟩:=h;exact⟨x,r',e,q1,q.shift ρ1,RKs.shift ρ1 z⟩
theorem RC.shift(ρ1:List Addr)(h:RC K ρ H o ho):RC K (ρ1++ρ) H (shO ρ1.length o) ho:=by
 cases o with
 |lst ds=>obtain⟨xs,e,q⟩:=h;exact⟨xs,e,q.shift ρ1⟩
 |dic ds=>obtain⟨xs,e,q⟩:=h;exact⟨xs,e,q.shift ρ1⟩
def RH.join(R1:RH K ρ H h1)(x:Ext [] H ρ' H')(R2:RH K ρ' H' h2):RH K (ρ++ρ') H' (h1++h2.map (shO ρ.length))/\Ext ρ H (ρ++ρ') H':=by
 obtain⟨r,er,fr⟩:=x.pre;have er:ρ'=r:=by simpa using er
 subst er;have kp:∀b o,H b=some o->(∀ps,o≠.tbl ps)->H' b=some o:=λb o e t=>x.keep b o e 70 t;have gr:Grow H H':=⟨λb o s e=>kp b _ e (RX s)⟩
 refine⟨⟨by simp[R1.len,R2.len],?_,R2.tabs,λn o a e1 e2=>?_⟩,⟨⟨ρ',rfl,fr⟩,λb o e _ t=>kp b o e t,x.tab⟩⟩
 .rw[nodup_append];refine⟨R1.nd,R2.nd,λa ha b hb z=>?_⟩;subst z;exact R1.out (fr a hb) ha
 .by_cases hn:n<ρ.length
  .rw[List.getElem?_append_left hn]at e2;rw[List.getElem?_append_left (by rw[<- R1.len];exact hn)]at e1;obtain⟨ho,q1,q2⟩:=R1.ob n o a e1 e2;exact⟨ho,kp a ho q1 (λps z=>by rcases R1.mut (j5 e2)with⟨y,w⟩|⟨y,w⟩<;>(rw[q1,z]at w;cases w)),q2.mono gr ρ'⟩
  .have hn':ρ.length<=n:=not_lt.mp hn;rw[List.getElem?_append_right hn']at e2;rw[List.getElem?_append_right (by rw[<- R1.len];exact hn'),List.getElem?_map,<- R1.len]at e1;cases q:h2[n-ρ.length]? with
   |none=>rw[q]at e1;cases e1
   |some o2=>
    rw[q]at e1;cases e1;obtain⟨ho,q1,q2⟩:=R2.ob _ o2 a q e2;exact⟨ho,q1,q2.shift ρ⟩
noncomputable def D8(F:List D->Hd->Option (D×Hd))(ma:MA):ME:=λls hd=>(ma ls hd).bind λp=>if Ay 0 p.1=true then(F p.1 []).map λr=>(shD p.2.length r.1,p.2++r.2.map (shO p.2.length))else none
def UW{k:Nat}{F:List D->Hd->Option (D×Hd)}(h:RA K t m)(hk:∀ds hd z,F ds hd=some z->82=k):RE K (DW (spF K k F) [] E0 t) (D8 F m):=by
 and_intros;obtain⟨⟨d1,h1⟩,e1,hm⟩:=gV hm;dsimp only at hm;split at hm
 .next c1=>
  obtain⟨⟨d2,h2⟩,e2,e3⟩:=iS hm;cases e3;refine h ρ σ H hd ls _ d1 h1 hR hL e1 λρ1 H1 v1 x1 R1 r1=>?_;rw[je];have R0:RH K [] H1 []:=by simpa using R1.take 0 70
  have r0:RDs K [] H1 d1 v1:=by simpa using r1.take' 0 c1
  refine⟨by rw[r1.len];exact hk _ _ _ e2,[],[],d1,d2,h2,R0,r0,e2,λρ' H' v x2 R2 r2=>?_⟩;obtain⟨R3,x3⟩:=R1.join x2 R2;rw[R1.len]at R3;refine hQ (ρ1++ρ') H' v (x1.trans R1 x3) R3 ?_;have:=r2.shift ρ1;rw[R1.len]at this;exact this
 .cases hm
def Uq(K:Frag){X:Cx}{j k:Nat}{n:Nat}{F:List D->Hd->Option (D×Hd)}{st:Stmt}{p:Pos}(G:FnOk X.prog X.w X.K X.mg X.base CX0 j f fd ps (spF K n F))(hr:Room k X.A)(DA:DefAt X.K X.mg x st f fd ps)(ha:QA K X (e::es) t m)(hF:∀ds hd z,F ds hd=some z->82=n)
 (hjk:j<=k:=by decide) (hg:Gl X x:=by rfl) (hdb:(x==("__debug__":Str))=false:=by decide) (he:starEach (e::es) X.env=(false,eval e X.env)::starEach es X.env:=by rfl) (hpl:(backTo pos (starEach es X.env)).any (·.1)=false:=by rfl):
 QE K X (.Call (.Name x p) (e::es) [] pos) (DW (spF K n F) [] E0 t) (D8 F m):=⟨Q0 G hr DA ha.p hjk hg hdb he hpl,UW ha.r hF⟩
noncomputable def GX(neg:Bool)(ma:ME)(ml:MA):ME:=λls hd=>(ma ls hd).bind λp=>(ml ls p.2).bind λq=>match p.1 with
 |.im i=>(EG i).bind λx=>(Bi q.1).map λxs=>(.im (.bl (if neg then !inV x xs else inV x xs)),q.2)
 |_=>none
def S6{neg:Bool}(ha:RE K ta ma)(hb:RN K tb ml):RE K (tOp (rIn K neg) ta tb) (GX neg ma ml):=by
 and_intros;obtain⟨⟨d1,h1⟩,e1,hm⟩:=gV hm;obtain⟨⟨d2,h2⟩,e2,hm⟩:=gV hm;dsimp only at hm;split at hm
 .obtain⟨x,e3,hm⟩:=gV hm;obtain⟨xs,e4,e5⟩:=iS hm;cases e5;refine ha ρ σ H hd ls _ _ h1 hR hL e1 λρ1 H1 v1 x1 R1 r1=>?_;refine hb ρ1 σ H1 h1 ls _ d2 _ R1 (hL.ext hR x1) e2 λρ2 H2 a ys x2 R2 na oa ea r2=>?_;have r1:=r1.ext R1 x2;simp only[RD]at r1;obtain⟨rfl,f1⟩:=JA e3 r1;obtain⟨rfl,f2⟩:=Hi e4 r2;exact⟨a,ys,rfl,.inl (SqL.of ea),f1,f2,hQ ρ2 H2 _ (x1.trans R1 x2) R2 (by simp[RD,RI])⟩
 .cases hm
def Y7(K:Frag){neg:Bool}(ho:OpR X (compareOp op) (rIn K neg))(ha:QE K X a ta ma)(hb:QN K X b tb ml)(hm:behindInMarks op b=false:=by first|exact G7 _|rfl):QE K X (.Compare a [op] [b] pos) (tOp (rIn K neg) ta tb) (GX neg ma ml):=⟨OZ ho ha.p hb.p hm,S6 ha.r hb.r⟩
def Xf(K:Frag){neg:Bool}(ho:OpR X (compareOp op) (rIn K neg))(ha:QE K X a ta ma)(hb:QN K X b tb ml)(hm:behindInMarks op b=false:=by first|exact G7 _|rfl):QT K X (.Compare a [op] [b] pos) (Hv (tOp (rIn K neg) ta tb)) (AG (GX neg ma ml)):=⟨Hz ho ha.p hb.p hm,Dv (S6 ha.r hb.r)⟩
end
section
variable{mb:ME}{QE:D->Hd->Prop}{QA:List D->Hd->Prop}
def GJ{F:List D->Hd->Option (D×Hd)}(h:WA m ls hd λds x=>Ay 0 ds=true/\WF F ds [] λd y=>QE (shD x.length d) (x++y.map (shO x.length))):WE (D8 F m) ls hd QE:=by
 obtain⟨ds,x,e,c,d,y,e2,q⟩:=h;exact⟨_,_,by simp only[D8,e,ik,c,iU,e2,iY],q⟩
def Qw{neg:Bool}(h:WE ma ls hd λd x=>WA ml ls x λds y=>∃i v vs,d=.im i/\EG i=some v/\Bi ds=some vs/\QE (.im (.bl (if neg then !inV v vs else inV v vs))) y):WE (GX neg ma ml) ls hd QE:=by
 obtain⟨d,x,e1,ds,y,e2,i,v,vs,rfl,e3,e4,q⟩:=h;exact⟨_,_,by simp only[GX,e1,ik,e2,e3,e4,iY],q⟩
end
end L2
namespace L2
open PySem PySem.Spec PyProof.Rows
section
variable{n2:MG}{QE:D->Hd->Prop}
theorem Dt{k:Nat}{Q:Ls->Hd->Prop}(P:List D->Ls->Hd->Prop):∀{ds:List D} {ls:Ls} {hd:Hd},P ds ls hd ->
 (∀d r ls hd,P (d::r) ls hd->∃ls1,n2 d ls hd=some ls1/\WT c2 ls1 hd λt x=>if t=true then WE ma ls1 x λz y=>WP (Au (.mu k) [z] y) λ_ u=>GOk u g/\P r ls1 u else GOk x g/\P r ls1 x) ->
 (∀ls hd,P [] ls hd->Q ls hd)->∃l h,mIn k n2 c2 ma g ds ls hd=some (l,h)/\Q l h
 |[],ls,hd,h,_,z=>⟨_,_,by unfold mIn;rfl,z _ _ h⟩
 |d::r,ls,hd,h,s,z=>by
  obtain⟨ls1,e1,t,x,e2,q⟩:=s d r ls hd h;unfold mIn;rw[e1,ik,e2,ik];cases t with
  |true=>
   rw[ic rfl]at q ⊢;obtain⟨z',y,e3,w,u,e4,g4,p4⟩:=q;rw[e3,ik,e4,ik];dsimp only;rw[ic g4];exact Dt P p4 s z
  |false=>
   rw[ig Bool.false_ne_true]at q ⊢;dsimp only;rw[ic q.1];exact Dt P q.2 s z
theorem Ds{k:Nat}{Q:Hd->Prop}(P:List D->Ls->Hd->Prop):∀{ds:List D} {ls:Ls} {hd:Hd},P ds ls hd ->
 (∀d r ls hd,P (d::r) ls hd->∃ls1,n d ls hd=some ls1/\WT c ls1 hd λt x=>if t=true then WI mi2 ls1 x λp y=>∃l h,mIn k n2 c2 ma p.2 p.1 ls1 y=some (l,h)/\GOk h g/\P r l h else GOk x g/\P r ls1 x) ->
 (∀ls hd,P [] ls hd->Q hd)->∃h,Eb k n c mi2 n2 c2 ma g ds ls hd=some h/\Q h
 |[],ls,hd,h,_,z=>⟨_,by unfold Eb;rfl,z _ _ h⟩
 |d::r,ls,hd,h,s,z=>by
  obtain⟨ls1,e1,t,x,e2,q⟩:=s d r ls hd h;unfold Eb;rw[e1,ik,e2,ik];cases t with
  |true=>
   rw[ic rfl]at q ⊢;obtain⟨p,y,e3,l,h,e4,g4,p4⟩:=q;rw[e3,ik];dsimp only;rw[e4,ik];dsimp only;rw[ic g4];exact Ds P p4 s z
  |false=>
   rw[ig Bool.false_ne_true]at q ⊢;dsimp only;rw[ic q.1];exact Ds P q.2 s z
def F9{j:Nat}(h:WI mi ls hd λp x=>∃y,Eb x.length n c mi2 n2 c2 ma p.2 p.1 (Dl j ix ls) (x++[.lst []])=some y/\QE (.mu x.length) y):WE (CM j ix mi n c mi2 n2 c2 ma) ls hd QE:=by
 obtain⟨p,x,e,y,e2,q⟩:=h;exact⟨_,_,by rw[VZ,e,ik];dsimp only;rw[e2];rfl,q⟩
end
noncomputable abbrev blD(bs:List Bool):List D:=bs.map λb=>D.im (.bl b)
inductive Ty where
 |int|bool|str|tuple|list
 deriving DecidableEq
noncomputable def Ty.nm:Ty->String
 |.int=>"int" | .bool=>"bool" | .str=>"str" | .tuple=>"tuple" | .list=>"list"
def IsT(K:Frag)(T:Ty)(H:Hp)(v:V)(b:Bool):Prop:=
 (v=.non/\b=false)∨(∃x,v=.bl x/\b=decide (T=.int∨T=.bool))∨(∃i,v=.int i/\b=decide (T=.int))∨(∃x,v=.str x/\b=decide (T=.str)) ∨
 (∃a xs,v=.ref a/\SqL K H a xs/\b=decide (T=.list))∨∃a xs,v=.ref a/\SqT K H a xs/\b=decide (T=.tuple)
section
variable{E:77}{Q:77}
def cb{T:Ty}{b:Bool}(I:83)(r:RelV v u)(h:IsT X.K T H v b)(q:∀tk,Q (.bool b) { s with toks:=tk }):wpAny 73 A (call (.builtin "isinstance") [u,.type T.nm]) Q E s:=by
 have q0:=q s.toks;have q1:=q (s.toks+1);rcases h with⟨rfl,rfl⟩|⟨x,rfl,rfl⟩|⟨i,rfl,rfl⟩|⟨x,rfl,rfl⟩|⟨a,xs,rfl,hl,rfl⟩|⟨a,xs,rfl,ht,rfl⟩
 .cases(show u=Value.none from r);cases T
  .exact IsiPair.NoneType_int q1
  .exact IsiPair.NoneType_bool q1
  .exact IsiPair.NoneType_str q1
  .exact IsiPair.NoneType_tuple q1
  .exact IsiPair.NoneType_list q1
 .cases(show u=Value.bool x from r);cases T
  .first|exact IsiPair.bool_int q0|exact IsiPair.bool_int q1
  .first|exact IsiPair.bool_bool q0|exact IsiPair.bool_bool q1
  .exact IsiPair.bool_str q1
  .exact IsiPair.bool_tuple q1
  .exact IsiPair.bool_list q1
 .obtain⟨t,rfl⟩:=(show ∃t,u=Value.int i t from r)
  cases T
  .exact IsiPair.int_int q0
  .exact IsiPair.int_bool q1
  .exact IsiPair.int_str q1
  .exact IsiPair.int_tuple q1
  .exact IsiPair.int_list q1
 .obtain⟨t,rfl⟩:=(show ∃t,u=Value.str x t from r)
  cases T
  .exact IsiPair.str_int q1
  .exact IsiPair.str_bool q1
  .exact IsiPair.str_str q0
  .exact IsiPair.str_tuple q1
  .exact IsiPair.str_list q1
 .cases(show u=Value.ref a from r);obtain⟨its,_,⟨o,n,e,c,_,_⟩,_⟩:=I.list hl;cases T
  .exact IsiPair.list_int e c q1
  .exact IsiPair.list_bool e c q1
  .exact IsiPair.list_str e c q1
  .exact IsiPair.list_tuple e c q1
  .exact IsiPair.list_list e c q0
 .cases(show u=Value.ref a from r);obtain⟨its,_,⟨o,e,c,_⟩,_⟩:=I.tuple ht;cases T
  .exact IsiPair.tuple_int e c q1
  .exact IsiPair.tuple_bool e c q1
  .exact IsiPair.tuple_str e c q1
  .exact IsiPair.tuple_tuple e c q0
  .exact IsiPair.tuple_list e c q1
end
noncomputable def U1(K:Frag)(T:Ty)(te:TE):TE:=λσ H Q=>te σ H λv H1=>∃b,IsT K T H1 v b/\Q (.bl b) H1
def bc(K:Frag){X:Cx}(T:Ty)(hm:X.mg "isinstance"=none)(hmT:X.mg x=none)(hvT:bootBuiltins x=some (.type T.nm))(he:PE X e te)
 (hv:bootBuiltins "isinstance"=some (.builtin "isinstance")) (hK:X.K=K) (hg:Gl X "isinstance") (hgT:Gl X x) (hnT:x≠"__name__") (hdT:(x==("__debug__":Str))=false)
 (hs:starEach [e,.Name x px] X.env=[(false,eval e X.env),(false,eval (.Name x px) X.env)]) (hs2:starEach [.Name x px] X.env=[(false,eval (.Name x px) X.env)]):PE X (.Call (.Name "isinstance" p) [e,.Name x px] [] pos) (U1 K T te):=by
 subst hK;intro pins s σ H Q I h;refine kz (Dg I hg hm hv ?_);have go:wpAny 73 X.A (spliced (backTo pos (starEach [e,.Name x px] X.env))) (λvs s₁=>wpAny 73 X.A (call (.builtin "isinstance") vs) (EP X pins σ Q) X.xe s₁) X.xe s:=by
  rw[hs];show wpAny _ _ (spliced ((false,eval e X.env)::backTo pos [(false,eval (.Name x px) X.env)])) _ _ s;refine Calls.spliced_cons (thn (he pins s σ H _ I h) λu s1 ⟨v,H1,I1,r1,b,ib,q1⟩=>?_);show wpAny _ _ (spliced ((false,eval (.Name x px) X.env)::backTo pos [])) _ _ s1;refine Calls.spliced_cons (Dg I1 hgT hmT hvT ?_ hnT hdT);refine Calls.spliced_nil ?_;exact cb I1 r1 ib λtk=>⟨.bl b,H1,I1.tok _,rfl,q1⟩
 exact PyProof.Rows.callWith_builtin1 go (by rw[hs,hs2]) (by rw[hs2];rfl)
section
variable{K:Frag}
noncomputable def isD(T:Ty)(hd:Hd):D->Option Bool
 |.im .non=>some false
 |.im (.bl _)=>some (decide (T=.int∨T=.bool))
 |.im (.int _)=>some (decide (T=.int))
 |.im (.str _)=>some (decide (T=.str))
 |.im (.tup _)=>some (decide (T=.tuple))
 |.tm _=>some (decide (T=.tuple))
 |.ro _=>some (decide (T=.list))
 |.op _ _ _=>none
 |.fv _ _=>none
 |.mu n=>match hd[n]? with
  |some (.lst _)=>some (decide (T=.list))
  |_=>none
def ce{T:Ty}{b:Bool}(hR:RH K ρ H hd)(h:RD K ρ H d v)(e:isD T hd d=some b):IsT K T H v b:=by
 cases d with
 |im i=>
  cases i with
  |non=>simp only[RD,RI]at h;subst h;simp only[isD,Option.some.injEq]at e;exact .inl ⟨rfl,e.symm⟩
  |bl c=>simp only[RD,RI]at h;subst h;simp only[isD,Option.some.injEq]at e;exact .inr (.inl ⟨c,rfl,e.symm⟩)
  |int c=>simp only[RD,RI]at h;subst h;simp only[isD,Option.some.injEq]at e;exact .inr (.inr (.inl ⟨c,rfl,e.symm⟩))
  |str c=>simp only[RD,RI]at h;subst h;simp only[isD,Option.some.injEq]at e;exact .inr (.inr (.inr (.inl ⟨c,rfl,e.symm⟩)))
  |tup is=>
   obtain⟨a,xs,rfl,q,r⟩:=h.tup (ds:=is.map .im) rfl;simp only[isD,Option.some.injEq]at e;exact .inr (.inr (.inr (.inr (.inr ⟨a,xs,rfl,q,e.symm⟩))))
 |tm ds=>
  obtain⟨a,xs,rfl,q,r⟩:=h.tup (ds:=ds) rfl;simp only[isD,Option.some.injEq]at e;exact .inr (.inr (.inr (.inr (.inr ⟨a,xs,rfl,q,e.symm⟩))))
 |ro ns=>
  obtain⟨a,xs,rfl,q,r⟩:=h.lst hR (hd:=hd) (ds:=ns.map λn=>.im (.int n)) rfl;simp only[isD,Option.some.injEq]at e;exact .inr (.inr (.inr (.inr (.inl ⟨a,xs,rfl,q,e.symm⟩))))
 |op _ _ _=>simp[isD]at e
 |fv _ _=>simp[isD]at e
 |mu n=>
  simp only[isD]at e;split at e
  .next q=>
   cases e;simp only[RD]at h;obtain⟨a,hn,rfl⟩:=h;obtain⟨xs,e1,e2⟩:=hR.lst hn q;exact .inr (.inr (.inr (.inr (.inl ⟨a,xs,rfl,SqL.of e1,rfl⟩))))
  .cases e
noncomputable def Dd(T:Ty)(ma:ME):ME:=λls hd=>(ma ls hd).bind λp=>(isD T p.2 p.1).map λb=>(.im (.bl b),p.2)
def aB{T:Ty}(h:RE K te me):RE K (U1 K T te) (Dd T me):=by
 and_intros;obtain⟨⟨d1,h1⟩,e1,hm⟩:=gV hm;obtain⟨b,e2,e3⟩:=iS hm;cases e3;exact h ρ σ H hd ls _ d1 _ hR hL e1 λρ1 H1 v x1 R1 r1=>⟨b,ce R1 r1 e2,hQ ρ1 H1 _ x1 R1 (by simp[RD,RI])⟩
def K3:∀T:Ty,bootBuiltins T.nm=some (.type T.nm)
 |.int=>by decide +kernel
 |.bool=>by decide +kernel
 |.str=>by decide +kernel
 |.tuple=>by decide +kernel
 |.list=>by decide +kernel
def Mm(K:Frag){X:Cx}(T:Ty){p px pos:Pos}(hm:X.mg "isinstance"=none)(hmT:X.mg x=none)(he:QE K X e te me)(hx:bootBuiltins x=some (.type T.nm):=by first|exact K3 .int|exact K3 .bool|exact K3 .str|exact K3 .tuple|exact K3 .list)(hK:X.K=K:=by rfl)(hg:Gl X "isinstance":=by rfl)(hgT:Gl X x:=by rfl)
 (hnT:x≠"__name__":=by decide) (hdT:(x==("__debug__":Str))=false:=by decide)
 (hs:starEach [e,.Name x px] X.env=[(false,eval e X.env),(false,eval (.Name x px) X.env)]:=by rfl) (hs2:starEach [.Name x px] X.env=[(false,eval (.Name x px) X.env)]:=by rfl):QE K X (.Call (.Name "isinstance" p) [e,.Name x px] [] pos) (U1 K T te) (Dd T me):=
 ⟨bc K T hm hmT hx he.p Lb hK hg hgT hnT hdT hs hs2,aB he.r⟩
noncomputable def GW(mo mi me:ME)(f:Int->Int->Int):MS:=λls hd=>(mo ls hd).bind λp=>(mi ls p.2).bind λq=>match p.1,q.1 with
 |.mu n,.im (.int i)=>match q.2[n]? with
  |some (.lst ds)=>(ixN 82 i).bind λj=>match ds[j]? with
   |some (.im (.int x))=>(me ls q.2).bind λr=>match r.1,r.2[n]? with
    |.im (.int y),some (.lst ds')=>if ds'.length=82 then some (.nx ls,r.2.set n (.lst (ds'.set j (.im (.int (f x y))))))else none
    |_,_=>none
   |_=>none
  |_=>none
 |_,_=>none
def RDs.ints{ns:List Int}(h:RDs K ρ H (ns.map λx=>D.im (.int x)) xs):xs=ns.map V.int:=F0 h
def SO(K:Frag){X:Cx}(hK:X.K=K:=by rfl):dW X (KK K):=by
 subst hK;intro pins s σ H o i ov iv Q I ro ri h;obtain⟨p,xs,k,z,rfl,rfl,hq,he,q⟩:=h;cases ro;obtain⟨t,rfl⟩:=ri;obtain⟨its,r,pl,hz⟩:=I.list hq;obtain⟨j,h1,h2,h3,h4,h5⟩:=Km he;obtain⟨w,ew,rw'⟩:=r.get h2;have hl:=r.length;have hn:=FO;have fin:EP X pins σ Q w s:=⟨z,H,I,rw',q⟩
 by_cases h0:0<=k
 .have hj:k.toNat=j:=by
   rw[seqIndex_of h0 h5]at h1;exact Option.some.inj h1
  exact wpAny_getItem_list pl.isList h0 66 (by rw[hj];simpa using ew) fin
 .have hj:(k+(its.toArray.size:Int)).toNat=j:=by
   rw[seqIndex_neg 66 h4]at h1;rw[iu,<- hl];exact Option.some.inj h1
  exact wpAny_getItem_list_neg pl.isList 66 (by rw[iu]<;>omega) 66 (by rw[hj];simpa using ew) fin
def Z4(x:Ext ρ H ρ' H'){n:Nat}(h:ρ[n]?=some a):ρ'[n]?=some a:=by
 obtain⟨r,rfl,_⟩:=x.pre;rw[List.getElem?_append_left (List.getElem?_eq_some_iff.mp h).1];exact h
def XA{f:Int->Int->Int}(ho:RE K to mo)(hi:RE K ti mi)(he:RE K te me):RS K (PY to ti te (KK K) (ipI f) Ji) (GW mo mi me f):=by
 intro ρ σ H hd0 ls E fl hd' hR hL hm hQ;obtain⟨⟨d1,h1⟩,e1,hm⟩:=gV hm;obtain⟨⟨d2,h2⟩,e2,hm⟩:=gV hm;dsimp only at hm;split at hm
 .split at hm
  .next ds q=>
   obtain⟨j,e4,hm⟩:=gV hm;split at hm
   .next x ex=>
    obtain⟨⟨d3,h3⟩,e3,hm⟩:=gV hm;dsimp only at hm;split at hm
    .next y ds' q'=>
     split at hm
     .next el=>
      cases hm;refine ho ρ σ H hd0 ls _ _ h1 hR hL e1 λρ1 H1 v1 x1 R1 r1=>?_;refine hi ρ1 σ H1 h1 ls _ _ _ R1 (hL.ext hR x1) e2 λρ2 H2 v2 x2 R2 r2=>?_;have r1':=r1.ext R1 x2;simp only[RD]at r1';obtain⟨a,hn,rfl⟩:=r1';simp only[RD,RI]at r2;subst r2;obtain⟨xs,l1,l2⟩:=R2.lst hn q;obtain⟨w,ew,rw'⟩:=l2.get ex;simp only[RD,RI]at rw';subst rw';refine⟨a,xs,_,.int x,rfl,rfl,SqL.of l1,?_,?_⟩
      .unfold atI;rw[l2.len];rw[e4];exact ew
      refine he ρ2 σ H2 h2 ls _ _ h3 R2 (hL.ext hR (x1.trans R1 x2)) e3 λρ3 H3 v3 x3 R3 r3=>?_;simp only[RD,RI]at r3;subst r3;refine⟨x,y,rfl,rfl,?_⟩;have hn3:=Z4 x3 hn;obtain⟨xs3,l3,l4⟩:=R3.lst hn3 q';obtain⟨R4,x4⟩:=R3.put hn3 (o:=.lst _) (ho:=.lst (xs3.set j (.int (f x y)))) ⟨_,rfl,l4.set j (d:=.im (.int (f x y))) (by simp[RD,RI])⟩;have x13:=(x1.trans R1 x2).trans R2 x3;exact⟨a,xs3,_,j,rfl,rfl,l3,by rw[l4.len,el];exact e4,hQ ρ3 _ (x13.trans R3 x4) R4 σ ((hL.ext hR x13).ext R3 x4)⟩
     .cases hm
    .cases hm
   .cases hm
  .cases hm
 .cases hm
def OS(K:Frag){f:Int->Int->Int}{tpos pos:Pos}(ho:QE K X o to mo)(hi:QE K X i ti mi)(he:QE K X e te me)(hp:PIp X op (ipI f))(hK:X.K=K:=by rfl)
 (ha:∀ov iv new,augStore i ov iv new=(do holding [new,ov,iv] (setItem ov iv new);release [new,ov,iv] [];pure .next):=by intros;rfl):QS K X (.AugAssign (.Subscript o i tpos) op e pos) (PY to ti te (KK K) (ipI f) Ji) (GW mo mi me f):=
 ⟨YG ho.p hi.p (SO K hK) he.p hp MD ha,XA ho.r hi.r he.r⟩
end
section
variable{mo mi me:ME}{QE:D->Hd->Prop}{QS:Fl->Hd->Prop}
def Bx{T:Ty}(h:WE ma ls hd λd x=>∃b,isD T x d=some b/\QE (.im (.bl b)) x):WE (Dd T ma) ls hd QE:=by
 obtain⟨d,x,e,b,e2,q⟩:=h;exact⟨_,_,by simp only[Dd,e,ik,e2,iY],q⟩
end
structure EAt(h:Heap)(e it l:Addr)(i:Nat):Prop where
 e:∃old,IsEnum h e it i old
 r:h.IsListIter it l i
noncomputable def Ite(K:Frag)(a:Addr):It:=
 ⟨λi H=>∃xs x,SqL K H a xs/\xs[i]?=some x,
  λi H x H'=>∃p v,H p=none/\H'=upd H p (.tup [.int (i:Int),v])/\x=.ref p/\∀xs,SqL K H a xs->xs[i]?=some v,
  λi H=>∃xs,SqL K H a xs/\79<=i⟩
def RP{K:Frag}{kk:Nat}(ne:e≠it):Turn P w K (.Tuple elts kk tpos) (Ite K l) [e,it] e (λi h=>EAt h e it l i) where
 mem:=by simp
 obj:=λi h st c hc=>by
  obtain⟨⟨old,he⟩,hr⟩:=st;simp only[ir,jn,jr]at hc;rcases hc with rfl|rfl
  .exact⟨_,he,λv z=>by cases(show Data.fields _=Data.cell v from z)⟩
  .obtain⟨o,q,_,d⟩:=hr;exact⟨o,q,λv z=>by rw[d]at z;cases z⟩
 keep:=λi h h' st k=>by
  obtain⟨⟨old,he⟩,o,q,r⟩:=st;exact⟨⟨old,k e 70 _ he⟩,o,k it 70 _ q,r⟩
 item:=by
  intro X hP hw hK hc i pins s σ H E I hf st hg;subst hP hw hK;obtain⟨xs,x,h1,hx⟩:=hg;obtain⟨its,r,pl,hz⟩:=I.list h1;obtain⟨u,hu,ru⟩:=r.get hx;obtain⟨⟨old,he⟩,hr⟩:=st;refine wpAny_pyNext_enum_item he hr pl.isList (x:=u) (by simpa using hu) ne λg ho hr' ht hsz kp=>⟨_,rfl,?_⟩
  refine wpAny_letOwnedTupleGo_enum ho λg' e' sb=>?_;have hle:e<s.heap.objs.size:=78 he;have kp2:∀c o,c∉[e,it]->s.heap.get? c=some o->g'.get? c=some o:=λc o nc q=>by
   simp only[ir,jn,jr,not_or]at nc;exact sb.extBut _ _ nc.1 (kp c o nc.1 nc.2 q)
  have hT:67≠e:=jx hle;have hpair:g'.get? 67=some { cls:=.type "tuple",data:=.seq #[.int i s.toks,u] }:=sb.extBut _ _ hT ht;have fresh:H 67=none:=I.hok.fresh (iq _);have I2:Inv X pins σ (upd H 67 (.tup [.int (i:Int),x])) { s with heap:=g',toks:=s.toks+1 }:=I.turnsL (tk:=s.toks+1) (o:=.tup [.int (i:Int),x]) kp2 hf (iq _)
   (show ObjOk X.prog X.w _ g' _ (.tup [.int (i:Int),x])from⟨by show 2<=sizeLine;decide,[.int i s.toks,u],.cons ⟨_,rfl⟩ (.cons ru .nil),⟨_,hpair,rfl,⟨_,rfl⟩,rfl⟩⟩)
  refine⟨.ref 67,_,I2,rfl,⟨67,x,fresh,rfl,rfl,λxs' q=>by rw[I.list_inj q h1];exact hx⟩,⟨⟨u,?_⟩,?_⟩,λc hc=>?_⟩
  .have:=e';rw[show((i:Int)+1)=((i+1:Nat):Int) by omega]at this;exact this
  .exact hr'.extBut sb.extBut (Ne.symm ne)
  .have lt:c<s.heap.objs.size:=by
    simp only[ir,jn,jr]at hc;rcases hc with rfl|rfl
    .exact hle
    .obtain⟨o,q,_⟩:=hr;exact 78 q
   rw[AW (iW lt)];exact(hf c hc).1
 done:=by
  intro X hP hw hK hc i pins s σ H E I hf st hg;subst hP hw hK;obtain⟨xs,h1,hend⟩:=hg;obtain⟨its,r,pl,hz⟩:=I.list h1;have l1':=r.length;obtain⟨⟨old,he⟩,hr⟩:=st;refine wpAny_pyNext_enum_end (show X.A.handled=none from I.ok.hd hc) he hr pl.isList 75 λg x=>⟨rfl,?_⟩
  exact I.turns (tk:=s.toks) (λc o nc q=>by
   simp only[ir,jn,jr,not_or]at nc;exact x c o nc.2 q) hf
 self:=λ_ _ _ _ _ st h=>by
  obtain⟨⟨old,he⟩,hr⟩:=st;exact kB he h
noncomputable def QU(K:Frag)(ta:TA):TI:=λσ H R=>ta σ H λvs H1=>∃a xs,vs=[.ref a]/\SqL K H1 a xs/\R (Ite K a) H1
def GF:bootBuiltins "enumerate"=some (.type "enumerate"):=by decide +kernel
section
def YO(K:Frag){elts:List Expr}{kk:Nat}{tpos p pos:Pos}(hg:Gl X "enumerate")(hm:X.mg "enumerate"=none)(ha:PA X [a] ta)(hK:X.K=K:=by rfl)(hs:starEach [a] X.env=[(false,eval a X.env)]:=by rfl):
 PI X (.Tuple elts kk tpos) (.Call (.Name "enumerate" p) [a] [] pos) (QU K ta):=by
 subst hK;intro pins s σ H R I h;refine Call_ (Dg I hg hm GF (PyProof.Rows.callWith_type1 (thn (ha pos pins s σ H _ I h) λus s1 ⟨vs,H1,I1,r1,q1⟩=>?_) hs rfl));obtain⟨l,xs,e,c,q⟩:=q1;subst e;obtain⟨u,rfl,ru⟩:=r1.one;cases ru;obtain⟨its,r,pl,hz⟩:=I1.list c;refine call_enumerate_list pl.isList λg he hr hsz kp=>kB he ?_;refine⟨_,_,_,_,H1,rfl,I1.kept (t':=s1.toks) kp,RP (jx (Nat.lt_succ_self _)),⟨⟨_,he⟩,hr⟩,λc hc=>?_,q⟩;simp only[ir,jn,jr]at hc;have le:s1.heap.objs.size<=c:=by
  rcases hc with rfl|rfl
  .exact ki _ _
  .exact iq _
 exact I1.fpOk le (I1.hok.fresh le)
end
section
variable{K:Frag}
noncomputable def EC(ma:MI):MI:=λls hd=>(ma ls hd).map λp=>((p.1.1.zipIdx.map λq=>AT [.im (.int (q.2:Int)),q.1],p.1.2),p.2)
def XQ(ha:RRw K false ta ma):RIt K (QU K (BD ta Bn)) (EC ma):=by
 intro ρ σ H hd ls Q d g hd' hR hL hm hQ;obtain⟨⟨⟨d1,g1⟩,h1⟩,e1,e2⟩:=iS hm;cases e2;refine ha ρ σ H hd ls _ d1 g1 h1 hR hL e1 λρ1 H1 a x1 R1 G1 S1=>?_;obtain⟨xs,c1,r1⟩:=S1 ρ1 H1 _ .refl R1 G1;refine⟨a,xs,rfl,c1,hQ ρ1 H1 _ x1 R1 G1 ?_⟩;intro ρ3 H3 hd3 x3 R3 G3 i;obtain⟨xs,c1,r1⟩:=S1 ρ3 H3 _ x3 R3 G3;have l1:=r1.len;refine⟨λhi=>?_,λhi=>⟨xs,c1,?_⟩⟩
 .have hi:i<d1.length:=by simpa using hi
  have i1:d1[i]?=some (d1[i]'hi):=List.getElem?_eq_getElem _;obtain⟨x,x4,x5⟩:=r1.get i1;refine⟨⟨xs,x,c1,x4⟩,λz H4 hz=>?_⟩;obtain⟨p,v,fp,rfl,rfl,hv⟩:=hz;have ev:=hv xs c1;rw[x4]at ev;cases ev;obtain⟨R4,x6⟩:=R3.hid (ho:=.tup [.int (i:Int),x]) fp;refine⟨ρ3,AT [.im (.int (i:Int)),d1[i]'hi],x6,rfl,R4,?_,By (SqT.of Af) (.cons (by simp[RD,RI]) (.cons (x5.ext R3 x6) .nil))⟩;simp[i1]
 .have hi:i=d1.length:=by simpa using hi
  omega
def Y3(K:Frag){X:Cx}{elts:List Expr}{kk:Nat}{tpos p pos:Pos}(hm:X.mg "enumerate"=none)(ha:QR K false X a ta ma)(hg:Gl X "enumerate":=by rfl)(hK:X.K=K:=by rfl)(hs:starEach [a] X.env=[(false,eval a X.env)]:=by rfl):
 QI K X (.Tuple elts kk tpos) (.Call (.Name "enumerate" p) [a] [] pos) (QU K (BD ta Bn)) (EC ma):=⟨YO K hg hm (Bu ha.p Ca hs) hK hs,XQ ha.r⟩
def K9{QI:List D×Gd->Hd->Prop}(h:WI ma ls hd λp x=>QI (p.1.zipIdx.map λq=>AT [.im (.int (q.2:Int)),q.1],p.2) x):WI (EC ma) ls hd QI:=by
 obtain⟨p,x,e,q⟩:=h;exact⟨_,_,by simp only[EC,e,iY],q⟩
end
def OP:V->List V->Hp->VK->Prop:=λx vs H Q=>∃(l:Addr) (xs:List V) (i:Int) (k:Nat) (y:V),x=.ref l/\vs=[.int i,y]/\i=(k:Int)/\H l=some (.lst xs)/\k<=79/\79<sizeLine/\Q .non (upd H l (.lst (xs.take k++y::xs.drop k)))
def Sd:MtM X "list.insert" OP:=by
 intro pins s σ H x vs v us Q I rx rv h;obtain⟨l,xs,i,k,y,rfl,rfl,hi,hH,hk,hz,q⟩:=h;cases rx;obtain⟨u,w,rfl,ru,rw'⟩:=Ld rv;obtain⟨t,rfl⟩:=ru;obtain⟨z,its,n,r,hl,e⟩:=I.lstM hH;have h1:its.toArray.size<=sizeLine:=by rw[iu,<- hl];exact z
 have hkl:k<=its.length:=by rw[<- hl];exact hk
 have hf:¬ (!Builtin.List.listFitsIndex i)=true:=by
  have h3:=FO;have h4:=Nat.lt_of_le_of_lt hk hz;rw[fitsIndex_both (k:=i) 66 66];decide
 have M:=AutoSeq1.list_insert_list_int_val_1 l its.toArray n i t w hf;have M:=M h1;refine call_meets F.slot_list_insert ⟨_,e,rfl⟩ F.entry_list_insert (F.args_list_insert_3 _ _ _) M ⟨e,?_⟩
 .refine⟨.non,_,I.lset (its':=its.take k++w::its.drop k) hH e ?_ ((r.take k).append (.cons rw' (r.drop k))) ?_,rfl,q⟩
  .show((its.toArray.extract 0 (if i<0 then(i+(its.toArray.size:Int)).toNat else min i.toNat its.toArray.size)).push w++its.toArray.extract (if i<0 then(i+(its.toArray.size:Int)).toNat else min i.toNat its.toArray.size))=_;have e1:(if i<0 then(i+(its.toArray.size:Int)).toNat else min i.toNat its.toArray.size)=k:=by
    rw[ig 66,hi,jj,iu];omega
   rw[e1];apply Array.ext';simp[List.extract_eq_drop_take]
   try exact jM 70
  .rw[iV,jB,j6,kd];have:=Nat.succ_le_of_lt hz;rw[k8 hk];omega
open Classical in
noncomputable def F4:D->List D->Hd->Option (D×Hd)
 |.mu n,[.im (.int i),y],hd=>match hd[n]? with
  |some (.lst ds)=>if 0<=i/\i<=82/\EH 82 then some (.im .non,hd.set n (.lst (ds.take i.toNat++y::ds.drop i.toNat)))else none
  |_=>none
 |_,_,_=>none
section
variable{K:Frag}{ρ':List Addr}{H':Hp}
def RDs.takeD(k:Nat)(h:RDs K ρ H ds xs):RDs K ρ H (ds.take k) (xs.take k):=RDs.take k h
def RDs.dropD(k:Nat)(h:RDs K ρ H ds xs):RDs K ρ H (ds.drop k) (xs.drop k):=RDs.drop k h
def Ru:RM K OP F4:=by
 intro ρ H hd d v ds vs Q z hd' hR h1 h2 hf hQ;unfold F4 at hf;split at hf
 .next n i y=>
  split at hf
  .next es q=>
   split at hf
   .next c=>
    cases hf;simp only[RD]at h1;obtain⟨a,hn,rfl⟩:=h1;simp only[RDs,RD,RI]at h2;obtain⟨x,r,rfl,rfl,y',r',rfl,hy,rfl⟩:=h2;obtain⟨xs,f1,f2⟩:=hR.lst hn q;have l:=f2.len;obtain⟨R2,x2⟩:=hR.put hn (o:=.lst (es.take i.toNat++y::es.drop i.toNat)) (ho:=.lst (xs.take i.toNat++y'::xs.drop i.toNat)) ⟨_,rfl,(RDs.takeD _ f2).app (.cons hy (RDs.dropD _ f2))⟩;exact⟨a,xs,i,i.toNat,y',rfl,rfl,by omega,f1,by omega,by rw[l];exact c.2.2,hQ ρ _ _ x2 R2 (by simp[RD,RI])⟩
   .cases hf
  .cases hf
 .cases hf
end
def Qt{k:Nat}{i:Int}{QE:D->Hd->Prop}(e1:hd[k]?=some (.lst ds))(c1:0<=i)(c2:i<=82)(c3:EH 82)(q:QE (.im .non) (hd.set k (.lst (ds.take i.toNat++y::ds.drop i.toNat)))):WP (F4 (.mu k) [.im (.int i),y] hd) QE:=by
 refine⟨_,_,?_,q⟩;simp only[F4,e1,c1,c2,c3,and_self,iU]
end L2
namespace HT
open PySem PySem.Spec PyProof.Rows
section
variable{E:77}{s:Shared}
def getItem_tuple_whole{lo:Option Int}{Q:77}(ht:IsTup s.heap t items)(hs:s.heap.IsSliceOf sl vl vu .none)(pl:IsPart vl lo)(pu:IsPart vu hi)
 (hw:sIx items.size 0 lo=0/\sIx items.size items.size hi=items.size) (h:Q (.ref t) s):wpAny 87 A (getItem (.ref t) (.ref sl)) Q E s:=by
 obtain⟨os,hos,hcs,hds⟩:=id hs;have hTs:s.TypeIs (.ref sl) "slice":=⟨os,hos,hcs⟩
 unfold getItem
 try with_reducible refine jU ?_
 first|refine ie (ip ?_)|skip
 refine ie (wpAny_sequenceKey ht.typeIs 80 ?_);refine ie (kq (name:=Str.ofString "__getitem__") ht.typeIs PyProof.Rows.slot_tuple_getitem
  (k9 PyProof.Rows.slot_tuple_getitem ht.typeIs entry_tuple_getitem ?_ (args_tuple_getitem _ _)))
 show wpAny _ _ (Builtin.Tuple.tupleItemsOf (.ref t) >>= _) _ _ s;refine ie (tupleItemsOf_ ht ?_);refine ie (wpAny_typeOf hTs ?_);rw[ic 80];refine ie (FC hs pl pu ?_);have hno:(((sIx items.size 0 lo:Nat):Int)==0&&(1:Int)==1&&(sIx items.size items.size hi-sIx items.size 0 lo)==items.size)=true:=by
  rw[hw.1,hw.2];simp
 show wpAny _ _ (if(((sIx items.size 0 lo:Nat):Int)==0&&(1:Int)==1&&(sIx items.size items.size hi-sIx items.size 0 lo)==items.size)=true then _ else _) _ _ s;rw[ic hno];refine ie ?_;unfold Builtin.Tuple.tupleIsExact;refine ie (wpAny_typeOf ht.typeIs (ip ?_));rw[ic 80];exact ie (jW (ip ⟨_,rfl,ip h⟩))
end
end HT
namespace L2
open PySem PySem.Spec PyProof.Rows
section
variable{X:Cx}
def UZ(K:Frag):V->Option Int->Option Int->Hp->VK->Prop:=λx lo hi H Q=>aI K x lo hi H Q∨∃a xs,x=.ref a/\SqT K H a xs/\(HT.sIx 79 0 lo=0/\HT.sIx 79 79 hi=79)/\Q (.ref a) H
def Wv(K:Frag)(hK:X.K=K:=by rfl):SlR X (UZ K):=by
 subst hK;intro pins s σ H x v vl vu lo hi sl Q I rx hs pl pu h;rcases h with h|⟨a,xs,rfl,hx,hw,q⟩
 .exact ZV pins s σ H x v vl vu lo hi sl Q I rx hs pl pu h
 cases rx;obtain⟨its,r,ht,hz⟩:=I.tuple hx;have hlen:its.toArray.size=xs.length:=by rw[iu];exact r.length.symm
 refine⟨"tuple",_,PyProof.Rows.slot_tuple_getitem.lookup,ht.typeIs,?_⟩;exact HT.getItem_tuple_whole ht hs pl pu (by rw[hlen];exact hw) ⟨.ref a,H,I,rfl,q⟩
end
section
variable{K:Frag}{ρ':List Addr}{H':Hp}
noncomputable def D1(m:ME)(ml mh:MO1):ME:=λls hd=>(m ls hd).bind λp=>(ml ls p.2).bind λl=>(mh ls l.2).bind λh=>(AN p.1).map λds=>(AT (C7 ds l.1 h.1),h.2)
def Zz(h:RE K t m)(hl:RO1 K tl ml)(hh:RO1 K th mh):RE K (tSl (UZ K) t tl th) (D1 m ml mh):=by
 and_intros;obtain⟨⟨d1,h1⟩,e1,hm⟩:=gV hm;obtain⟨⟨d2,h2⟩,e2,hm⟩:=gV hm;obtain⟨⟨d3,h3⟩,e3,hm⟩:=gV hm;obtain⟨ds,e4,e5⟩:=iS hm;cases e5;dsimp only at e2 e3 e4;refine h ρ σ H hd ls _ d1 h1 hR hL e1 λρ1 H1 v1 x1 R1 r1=>?_;refine hl ρ1 σ H1 h1 ls _ d2 h2 R1 (hL.ext hR x1) e2 λρ2 H2 x2 R2=>?_;refine hh ρ2 σ H2 h2 ls _ d3 _ R2 (hL.ext hR (x1.trans R1 x2)) e3 λρ3 H3 x3 R3=>?_;obtain⟨a,xs,rfl,q,r⟩:=((r1.ext R1 x2).ext R2 x3).tup e4;by_cases c:HT.sIx 82 0 d2=0/\HT.sIx 82 82 d3=82
 .refine .inr ⟨a,xs,rfl,q,by rw[r.len];exact c,?_⟩;have e6:C7 ds d2 d3=ds:=by unfold C7;rw[c.1,c.2];simp
  rw[e6]at hQ;exact hQ ρ3 _ _ ((x1.trans R1 x2).trans R2 x3) R3 (By q r)
 .refine .inl ⟨a,xs,rfl,q,by rw[r.len];exact c,λp hp=>?_⟩;obtain⟨R4,x4⟩:=R3.hid (ho:=.tup (Fp xs d2 d3)) hp;exact hQ ρ3 _ _ (((x1.trans R1 x2).trans R2 x3).trans R3 x4) R4 (By (SqT.of Af) ((Oz r).ext R3 x4))
def ao(K:Frag){lo:Option Expr}(h:QE K X e te me)(hl:QO K X lo tl ml)(hh:QO K X hi th mh)(hK:X.K=K:=by rfl):QE K X (.Subscript e (.Slice lo hi none p2) pos) (tSl (UZ K) te tl th) (D1 me ml mh):=⟨Mt (Wv K hK) h.p hl.p hh.p,Zz h.r hl.r hh.r⟩
def HC{QE:D->Hd->Prop}(h:WE ma ls hd λd x=>WO ml ls x λl y=>WO mh ls y λu z=>∃ds,AN d=some ds/\QE (AT (C7 ds l u)) z):WE (D1 ma ml mh) ls hd QE:=by
 obtain⟨d,x,e1,l,y,e2,u,z,e3,ds,e4,q⟩:=h;exact⟨_,_,by simp only[D1,e1,ik,e2,e3,e4,iY],q⟩
end
section
variable{X:Cx}
def ZE{E:77}{s:Shared}{vs ws:List Value}{Q:77}(ht:IsTup s.heap t vs.toArray)(hb:IsTup s.heap b ws.toArray)(hv:vs=[])
 (h1:Q (.ref b) s):wpAny 87 A (binaryOp .Add (.ref t) (.ref b)) Q E s:=by
 obtain⟨⟨cls,dd,data,sl⟩,ho,hc,n,hd⟩:=id ht;obtain⟨⟨cls2,dd2,data2,sl2⟩,ho2,hc2,n2,hd2⟩:=id hb;simp only at hc hd hc2 hd2;subst hc hd hc2 hd2;exact concat_meets ⟨_,ho,rfl⟩ ⟨_,ho2,rfl⟩ noFill_tuple_add seq_tuple_add PySem.F.slot_tuple_add PySem.F.entry_tuple_add (PySem.F.args_tuple_add_2 _ _)
  (tuple_addW0 t b vs.toArray ws.toArray n n2 dd dd2 sl sl2 (by simp[hv])) ⟨ho,ho2,h1⟩
noncomputable def W6(K:Frag):R2:=λx y H Q=>∃a b ys,x=.ref a/\y=.ref b/\SqT K H a []/\SqT K H b ys/\Q (.ref b) H
def Yb(K:Frag)(hK:X.K=K:=by rfl):OpR X (binaryOp .Add) (W6 K):=by
 subst hK;intro pins s σ H x y v u Q I rx ry h;obtain⟨a,b,ys,rfl,rfl,ha,hb,q⟩:=h;cases rx;cases ry;obtain⟨its,r1,p1,_⟩:=I.tuple ha;obtain⟨its2,r2,p2,_⟩:=I.tuple hb;have:its=[]:=by cases r1;rfl
 exact ZE p1 p2 this ⟨.ref b,H,I,rfl,q⟩
noncomputable def EE:D->D->Hd->Option (D×Hd):=λd e hd=>(AN d).bind λa=>(AN e).bind λb=>if a=[]then some (AT b,hd)else none
def Xb{K:Frag}:RB K (W6 K) EE:=by
 intro ρ H hd d e v u Q z hd' hR h1 h2 hf hQ;unfold EE at hf;obtain⟨a,e1,hf⟩:=gV hf;obtain⟨b,e2,hf⟩:=gV hf;split at hf
 .next c=>
  cases hf;subst c;obtain⟨p,xs,rfl,q1,r1⟩:=h1.tup e1;obtain⟨p2,ys,rfl,q2,r2⟩:=h2.tup e2;have:xs=[]:=by simpa [RDs]using r1
  subst this;exact⟨p,p2,ys,rfl,rfl,q1,q2,hQ ρ H _ .refl hR (By q2 r2)⟩
 .cases hf
end
section
variable{X:Cx}
def Uw{i:Nat}{iter tg2:Expr}{spos:Pos}(hN:X.N.Nodup)(hiN:X.N[i]?=some y)(hy:X.env.scope.names.lookup y=some .local)
 (hc:X.calm=true) (S:CSc X scope fr ix) (hi:PI X tg iter wi)
 (hg:∀s H ex,PG 76 tg g) (hf:∀s H ex,PF 76 ifs tf) (hi2:∀s H ex,PI 76 tg2 iter2 wi2) (hg2:∀s H ex,PG 76 tg2 g2) (hf2:∀s H ex,PF 76 ifs2 tf2) (he:∀s H ex,PE 76 elt te)
 (hsw:swapsWith (LC2 elt tg iter ifs tg2 iter2 ifs2 scope pos) (some (.Name y py)) spos.line X.env=pure true) (hs:∀x,foldedSetIterable iter X.env x=pure x) (hs2:∀s H ex x,foldedSetIterable iter2 (76).env x=pure x):
 PS X (.Assign [.Name y py] (LC2 elt tg iter ifs tg2 iter2 ifs2 scope pos) spos) (DX (FA loc.length ix wi g tf wi2 g2 tf2 te) (Cv i)):=by
 intro pins s σ H D I h;have hnames:∀y∈scope.names,y.2=.local->scope.names.lookup y.1=some .local:=λy hy e=>by
  have:=all_eq_true.mp S.loc y hy;rw[e]at this;simpa using this
 rw[exec_Assign_Name_used _ _ _ _ hsw];refine ie (jG (ie ?_));show wpAny _ _ (do let _ <- comprehension (LC2 elt tg iter ifs tg2 iter2 ifs2 scope pos) scope X.env _ (newList []) false (eval iter X.env) (some (assign (.Name y py) X.env))) _ _ s;refine ie (j0 (kA (use:=some (assign (.Name y py) X.env)) (Q:=λ_ s'=>SP X pins D .next s') rfl hs (DK (S.clos I.ok)) S.kind hnames
  (thn (hi pins s σ H _ I h) λv s1 h1=>thn h1 λitv s2 h2=>?_)) (λ_ s' hq=>ip (ip hq)) λ_ _ e=>e)
 obtain⟨it,fp,tn,J,H2,rfl,I2,T,st2,f2,hW⟩:=h2;refine Ih (RR:=λacc C=>compPost 73 X.A X.xe (some (assign (.Name y py) X.env)) (λ_ s'=>SP X pins D .next s') acc C) hc S hg hf hi2 hg2 hf2 he hs2 I2 T st2 f2 hW λs3 s6 H5 σ5 L I3 I6 f3 q=>?_;have J6:Inv X pins σ H5 s6:=EK (h'':=s6.heap) I3 I6 f3 (.refl ..);obtain⟨m,hm,_⟩:=I6.loc;have hm:s6.heap.Ns s3.heap.objs.size m:=hm;have hL:s3.heap.objs.size≠X.env.locals:=Ne.symm (iW I3.lt);show wpAny _ _ (assign (.Name y py) X.env (.ref L)) _ _ s6;refine wpAny_assign_Name (HH (v:=.ref L) J6 hN hiN (.inl hy) rfl (λs7 I7 ⟨a,sb,ha⟩=>?_) (.inr hy));have hca:s3.heap.objs.size≠a:=by
  rcases ha with rfl|ha
  .exact hL
  .obtain⟨v,z⟩:=I3.cell y a ha;exact Ne.symm (iW z.lt)
 refine⟨m,hm.sameBut sb hca,λh' hs'=>?_⟩;refine⟨_,H5,I7.turned (t':=s7.toks) (it:=s3.heap.objs.size) (λb o hb e=>(hs'.2 b hb).trans e) I6.free hL (.inr I3.sz) (λx c e z=>?_) (λp hp z=>?_),q⟩
 .obtain⟨v,w⟩:=I3.cell x c e;exact absurd w.lt (by rw[z];exact jw _)
 .exact absurd (78 (I3.pin p hp).1) (by rw[z];exact jw _)
end
def Ug(K:Frag){X:Cx}{i:Nat}{iter tg2:Expr}{spos:Pos}{n2:MG}(hN:X.N.Nodup)(hiN:X.N[i]?=some y)(hy:X.env.scope.names.lookup y=some .local)(hc:X.calm=true)(S:CSc X scope fr ix)(hi:QI K X tg iter wi mi)
 (hg:∀s H ex,QG K 76 tg g n) (hf:∀s H ex,QF K 76 ifs tf mf) (hi2:∀s H ex,QI K 76 tg2 iter2 wi2 mi2) (hg2:∀s H ex,QG K 76 tg2 g2 n2) (hf2:∀s H ex,QF K 76 ifs2 tf2 mf2) (he:∀s H ex,QE K 76 elt te mm)
 (hsw:swapsWith (.ListComp elt [⟨tg,iter,ifs,0⟩,⟨tg2,iter2,ifs2,0⟩] scope pos) (some (.Name y py)) spos.line X.env=pure true:=by rfl) (hs:∀x,foldedSetIterable iter X.env x=pure x:=by intro _;rfl) (hs2:∀s H ex x,foldedSetIterable iter2 (76).env x=pure x:=by intro _ _ _ _;rfl):
 QS K X (.Assign [.Name y py] (.ListComp elt [⟨tg,iter,ifs,0⟩,⟨tg2,iter2,ifs2,0⟩] scope pos) spos) (DX (FA loc.length ix wi g tf wi2 g2 tf2 te) (Cv i)) (AF i (CM loc.length ix mi n mf mi2 n2 mf2 mm)):=
 ⟨Uw hN hiN hy hc S hi.p (λs H ex=>(hg s H ex).p) (λs H ex=>(hf s H ex).p) (λs H ex=>(hi2 s H ex).p) (λs H ex=>(hg2 s H ex).p) (λs H ex=>(hf2 s H ex).p) (λs H ex=>(he s H ex).p) hsw hs hs2,Je (Mn K (pos:=pos) hc S hi hg hf hi2 hg2 hf2 he hs hs2).r Hw⟩
section
variable{E:77}{s:Shared}
def Nr{vs:List Value}{Q:List Value->Shared->Prop}(hl:IsTup s.heap l vs.toArray)
 (h:Q vs { s with heap:=(s.heap.push (seqObj "list" #[] 0)).update s.heap.objs.size (Obj.mapSeq (·++vs.toArray)) }) (hsz:vs.length<=sizeLine:=by size_fits):
 wpAny 87 A (collect (.ref l)) Q E s:=by
 obtain⟨o,ho,hc,n,hd⟩:=id hl;unfold collect;refine ie (wpAny_runValue (codeAny_builtin entry_proto_collect' ?_));show wpAny _ _ (do again (.builtin "list.__iadd__" ⟨[<- newList [],.ref l],[]⟩)) _ _ s;refine ie (wpAny_newList (ip ⟨Code.quiet_builtin _ (by decide +kernel),codeAny_builtin entry_list_iadd' ?_⟩));show wpAny _ _ (Builtin.List.listExtendWith (.ref 67) (.ref l) (.ref 67)) _ _ { s with heap:=s.heap.push (seqObj "list" #[] 0) };unfold Builtin.List.listExtendWith;have ho':(s.heap.push (seqObj "list" #[] 0)).get? l=some o:=74 _ ho;refine ie (wpAny_typeOf (T:="tuple") ⟨o,ho',hc⟩ ?_);have ht:(Value.type "tuple"==Value.type "tuple")=true:=by rfl
 rw[ic (by rw[ht];simp)];refine ie (listItems_at ho' hd ?_);refine ie (listItems_at (xs:=#[]) (n:=0) (85 _ rfl) rfl ?_);rw[ig 70];refine ie (listUpdate_at (xs:=#[]) (n:=0) (85 _ rfl) rfl ?_ (jF _) (by show(#[]++vs.toArray).size<=sizeLine+1;simp only[Array.size_append,iu,jN];omega));refine ip ?_;show wpAny 87 A (do
  let o <- load 67
  match o.data with
  |.seq xs _=>pure xs.toList
  | _=>unsupported "internal:collect") Q E { s with heap:=(s.heap.push (seqObj "list" #[] 0)).update s.heap.objs.size (Obj.mapSeq (·++vs.toArray)) }
 refine ie (wpAny_load (get?_update_seq (85 _ rfl) _) ?_);show wpAny _ _ (pure ((#[]:Array Value)++vs.toArray).toList) Q E _;rw[show((#[]:Array Value)++vs.toArray).toList=vs by simp];exact ip h
def M6{vs:List Value}{Q:77}(hl:IsTup s.heap l vs.toArray)(hI:IntsAre vs ns)(h64:vs.length<64)
 (h:∀(out:Array Value) (ns':List Int),IntsAre out.toList ns'->ns'.Perm ns->ns'.Pairwise (·<=·)->Q (.ref (67+1)) { s with heap:=sortedAll s.heap vs out }):
 wpAny 87 A (call (.builtin "sorted") [.ref l]) Q E s:=by
 refine Calls.call_function_entry kind_sorted plain_sorted entry_sorted (args_sorted1 _) ?_;unfold Builtin.«sorted»;refine ie (m:=checkCount "sorted" 1 1 _) (ip ?_);refine ie (Nr hl ?_);refine ie (wpAny_newList ?_);have hsz:((s.heap.push (seqObj "list" #[] 0)).update 67 (Obj.mapSeq (·++vs.toArray))).objs.size=67+1:=by
  rw[Heap.size_update,size_push']
 have hoL:(((s.heap.push (seqObj "list" #[] 0)).update 67 (Obj.mapSeq (·++vs.toArray))).push (seqObj "list" vs.toArray 0)).get? (67+1)=some (seqObj "list" vs.toArray 0):=by
  rw[<- hsz];exact 85 _ rfl
 show wpAny _ _ _ _ _ { s with heap:=((s.heap.push (seqObj "list" #[] 0)).update s.heap.objs.size (Obj.mapSeq (·++vs.toArray))).push (seqObj "list" vs.toArray 0) };rw[hsz];refine ie (jU (k9 slot_list_sort ⟨_,hoL,rfl⟩ entry_list_sort (list_sort_tree hoL hI h64 λout ns' a1 a2 a3=>⟨_,rfl,?_⟩) (args_list_sort _)));exact ip ⟨_,rfl,h out ns' a1 a2 a3⟩
end
section
variable(K:Frag){X:Cx}
def Ir:List V->Hp->VK->Prop:=λxs H Q=>∃(a:Addr) (ns:List Int),xs=[.ref a]/\SqT K H a (ns.map V.int)/\ns.length<64/\∀(p:Addr) (ns':List Int),H p=none->ns'.Perm ns->ns'.Pairwise (·<=·)->Q (.ref p) (upd H p (.lst (ns'.map V.int)))
def NS(hK:X.K=K:=by rfl):CallR X (.builtin "sorted") (Ir K):=by
 subst hK;intro pins s σ H xs us Q I r h;obtain⟨a,ns,rfl,hq,h64,q⟩:=h;obtain⟨u,rfl,ru⟩:=CJ r;cases ru;obtain⟨its,rv,p,hz⟩:=I.tuple hq;have hlen:=rv.length;rw[iX]at hlen;refine M6 p (G9 rv) 66 λout ns' a1 a2 a3=>?_;obtain⟨e,he⟩:=sortedAll_at s.heap its out;have hl':ns'.length=ns.length:=a2.length_eq;refine⟨.ref (67+1),_,I.laid (a:=67+1) (o:=.lst (ns'.map V.int)) (t':=s.toks) (λb o hb=>sortedAll_old hb) (le_succ _) ⟨?_,out.toList,e,Nx a1,he⟩,rfl,q _ _ (I.hok.fresh (le_succ _)) a2 a3⟩;rw[iX,hl'];exact ja (HI 66)
end
section
variable{K:Frag}
def Pk(h:RRw K true t m):RN K (tCB (Ir K) (BD t Bn)) (Bv m):=by
 and_intros;obtain⟨⟨⟨d1,g1⟩,h1⟩,e1,hm⟩:=gV hm;obtain⟨ns,e2,hm⟩:=gV hm;split at hm
 .next c=>
  cases hm;refine h ρ σ H hd ls _ d1 g1 _ hR hL e1 λρ1 H1 a x1 R1 G1 S1=>?_;obtain⟨xs,q,r⟩:=S1 ρ1 H1 _ .refl R1 G1;have e3:d1=ns.map λi=>.im (.int i):=E6 e2;rw[e3]at r;have:=F0 r;subst this;refine⟨a,ns,rfl,q,c,λp ns' hp pm pw=>?_⟩;have:ns'=B3 ns:=G4 (pm.trans (Ct ns).symm) pw (DY ns);subst this;obtain⟨R2,x2⟩:=R1.hid (ho:=.lst ((B3 ns).map V.int)) hp;exact hQ ρ1 _ p _ (x1.trans R1 x2) R2 (x1.none hR hp R1) (R1.out hp) Af F1
 .cases hm
def Pu(K:Frag){X:Cx}(hm:X.mg "sorted"=none)(ha:QR K true X e te mi)(hg:Gl X "sorted":=by rfl)(he:starEach [e] X.env=[(false,eval e X.env)]:=by rfl)(hK:X.K=K:=by rfl):QN K X (.Call (.Name "sorted" p) [e] [] pos) (tCB (Ir K) (BD te Bn)) (Bv mi):=
 ⟨E2 (NS K hK) hg hm Hq (Bu ha.p Ca he) 80 80 he rfl,Pk ha.r⟩
end
end L2
namespace L2
noncomputable abbrev DH:=CS Aa EE
end L2
namespace HT
open PySem PyProof.Rows
open PySem.AutoSeq1 (wpAny_loadPart')
section
variable{A:Around}{E:77}
def drawsT(hh:A.handled=none)(it t:Addr)(hne:t≠it)(items:Array Value):
 Draws prog w A it [it,t] items.size (λi v=>items[i]?=some v) (λi h=>h.IsTupleIter it t i/\h.IsTuple t items) where
 live:=λ_ _ st=>let ⟨o,ho,_⟩:=st.1;⟨o,ho⟩
 frame:=λ_ _ _ st hk=>⟨let ⟨o,ho,r⟩:=st.1;⟨o,hk it 70 o ho,r⟩,let ⟨o,ho,r⟩:=st.2;⟨o,hk t 70 o ho,r⟩⟩
 item:=λi s Q E hi st hQ=>by
  refine L2.tup_next st.1 st.2 (x:=items[i]) (by simp[hi]) λh' hit' hs'=>?_;exact hQ _ h' s.toks (by simp[hi]) ⟨hit',st.2.extBut hs'.extBut hne⟩ hs'
 done:=λs Q E st hE=>L2.tup_stop hh st.1 st.2 70 hE
end
def T9(l:Addr)(items:Array Value)(n:Nat)(dct:Option Addr)(sl:Array (Option Value)):
 Meets (Builtin.«enumerate.__new__» ⟨[.type "enumerate",.ref l],[]⟩) (λ_ R s=>s.heap.get? l=some { cls:=.type "tuple",dict:=dct,data:=.seq items n,slots:=sl } /\
  R (.ok (.ret (.ref (s.heap.push { cls:=.type "tuple_iterator",data:=.fields #[.ref l,.int 0 0] }).objs.size)))
   { s with heap:=(s.heap.push { cls:=.type "tuple_iterator",data:=.fields #[.ref l,.int 0 0] }).push { cls:=.type "enumerate",data:=.fields #[.none,.bool false,.ref s.heap.objs.size,rawInt 0,.none,.none] } }):=
 .of_wp λprog w A R s h=>by
  obtain⟨hp,g,d,tk,os⟩:=s;obtain⟨hl,h⟩:=h;have hsub:=sub_enumerate;have hL:Heap.IsTuple (Shared.heap ⟨hp,g,d,tk,os⟩) l items:=⟨_,hl,rfl,n,rfl⟩
  wp_walk using wpAny_loadPart' hl
  refine wpAny_stack_any λst=>ip ?_;split
  .rename_i c _ _ _ _ _
   cases(c==Value.type "enumerate")
   .wp_walk using wpAny_loadPart' hl,wpAny_pyIter_tuple hL
    exact⟨_,rfl,h⟩
   .wp_walk using wpAny_loadPart' hl,wpAny_pyIter_tuple hL
    exact⟨_,rfl,h⟩
  .wp_walk using wpAny_loadPart' hl,wpAny_pyIter_tuple hL
   exact⟨_,rfl,h⟩
def call_enumT{prog:Program}{w:World}{A:Around}{E:77}{s:Shared}{Q:77}(hL:IsTup s.heap l items)
 (h:∀h',IsEnum h' (67+1) 67 0 .none->h'.IsTupleIter 67 l 0->h'.objs.size=67+2 ->
  (∀b o,s.heap.get? b=some o->h'.get? b=some o)->Q (.ref (67+1)) { s with heap:=h' }):
 wpAny 87 A (call (.type "enumerate") [.ref l]) Q E s:=by
 obtain⟨⟨c,dct,dt,sl⟩,hl,hc,n,hd⟩:=hL
 replace hc:c=.type "tuple":=hc
 replace hd:dt=.seq items n:=hd
 subst hc hd;refine callType_new F.called_enumerate 80 (F.typeCall_enumerate_1 _) (F.newCall_enumerate_1 _) (λobj=>F.args_object_init_2 obj _) F.entry_enumerate_new
  (T9 l items n dct sl) ⟨hl,?_⟩
 have hz:(s.heap.push { cls:=.type "tuple_iterator",data:=.fields #[.ref l,.int 0 0] }).objs.size=67+1:=Heap.size_push ..;show _/\_;rw[hz];have he:IsEnum ((s.heap.push { cls:=.type "tuple_iterator",data:=.fields #[.ref l,.int 0 0] }).push
  { cls:=.type "enumerate",data:=.fields #[.none,.bool false,.ref 67,rawInt 0,.none,.none] }) (67+1) 67 0 .none:=by
  have:=85 (s.heap.push { cls:=.type "tuple_iterator",data:=.fields #[.ref l,.int 0 0] })
   (o:={ cls:=.type "enumerate",data:=.fields #[.none,.bool false,.ref 67,rawInt 0,.none,.none] }) rfl
  rw[hz]at this;exact this
 refine⟨⟨_,he,rfl⟩,h _ he ⟨_,74 _ (85 _ rfl),rfl,rfl⟩ (by rw[Heap.size_push,hz]) λb o x=>74 _ (74 _ x)⟩
end HT
namespace L2
open PySem PySem.Spec PyProof.Rows
structure ETt(h:Heap)(e it l:Addr)(i:Nat):Prop where
 e:∃old,IsEnum h e it i old
 r:h.IsTupleIter it l i
noncomputable def ItT(K:Frag)(a:Addr):It:=
 ⟨λi H=>∃xs x,SqT K H a xs/\xs[i]?=some x,
  λi H x H'=>∃p v,H p=none/\H'=upd H p (.tup [.int (i:Int),v])/\x=.ref p/\∀xs,SqT K H a xs->xs[i]?=some v,
  λi H=>∃xs,SqT K H a xs/\79=i⟩
def PN{K:Frag}{kk:Nat}(ne:e≠it)(nl:l≠it)(nle:e≠l):Turn P w K (.Tuple elts kk tpos) (ItT K l) [e,it] e (λi h=>ETt h e it l i) where
 mem:=by simp
 obj:=λi h st c hc=>by
  obtain⟨⟨old,he⟩,hr⟩:=st;simp only[ir,jn,jr]at hc;rcases hc with rfl|rfl
  .exact⟨_,he,λv z=>by cases(show Data.fields _=Data.cell v from z)⟩
  .obtain⟨o,q,_,d⟩:=hr;exact⟨o,q,λv z=>by rw[d]at z;cases z⟩
 keep:=λi h h' st k=>by
  obtain⟨⟨old,he⟩,o,q,r⟩:=st;exact⟨⟨old,k e 70 _ he⟩,o,k it 70 _ q,r⟩
 item:=by
  intro X hP hw hK hc i pins s σ H E I hf st hg;subst hP hw hK;obtain⟨xs,x,h1,hx⟩:=hg;obtain⟨its,r,pl,hz⟩:=I.tuple h1;obtain⟨u,hu,ru⟩:=r.get hx;obtain⟨⟨old,he⟩,hr⟩:=st;have hlt:i<its.toArray.size:=by
   have:=(72 hu).1;simpa using this
  have hd:X.A.in1.handled=none:=I.ok.hd hc;refine wpAny_pyNext_enum_itemD (HT.drawsT hd it l nl its.toArray) he ⟨hr,pl⟩ hlt ne (by simp;exact⟨ne,nle⟩) λx' g tk hx' ho hr' ht hsz kp=>⟨_,rfl,?_⟩
  have ex:x'=u:=by
   have hx':its.toArray[i]?=some x':=hx';rw[List.getElem?_toArray,hu]at hx';exact(Option.some.inj hx').symm
  subst ex;refine wpAny_letOwnedTupleGo_enum ho λg' e' sb=>?_;have hle:e<s.heap.objs.size:=78 he;have kp2:∀c o,c∉[e,it]->s.heap.get? c=some o->g'.get? c=some o:=λc o nc q=>by
   simp only[ir,jn,jr,not_or]at nc;exact sb.extBut _ _ nc.1 (kp c o nc.1 nc.2 q)
  have hT:67≠e:=jx hle;have hpair:g'.get? 67=some { cls:=.type "tuple",data:=.seq #[.int i tk,x'] }:=sb.extBut _ _ hT ht;have fresh:H 67=none:=I.hok.fresh (iq _);have I2:Inv X pins σ (upd H 67 (.tup [.int (i:Int),x])) { s with heap:=g',toks:=tk+1 }:=I.turnsL (tk:=tk+1) (o:=.tup [.int (i:Int),x]) kp2 hf (iq _)
   (show ObjOk X.prog X.w _ g' _ (.tup [.int (i:Int),x])from⟨by show 2<=sizeLine;decide,[.int i tk,x'],.cons ⟨_,rfl⟩ (.cons ru .nil),⟨_,hpair,rfl,⟨_,rfl⟩,rfl⟩⟩)
  refine⟨.ref 67,_,I2,rfl,⟨67,x,fresh,rfl,rfl,λxs' q=>by rw[I.tuple_inj q h1];exact hx⟩,⟨⟨x',?_⟩,?_⟩,λc hc=>?_⟩
  .have:=e';rw[show((i:Int)+1)=((i+1:Nat):Int) by omega]at this;exact this
  .exact hr'.1.extBut sb.extBut (Ne.symm ne)
  .have lt:c<s.heap.objs.size:=by
    simp only[ir,jn,jr]at hc;rcases hc with rfl|rfl
    .exact hle
    .obtain⟨o,q,_⟩:=hr;exact 78 q
   rw[AW (iW lt)];exact(hf c hc).1
 done:=by
  intro X hP hw hK hc i pins s σ H E I hf st hg;subst hP hw hK;obtain⟨xs,h1,hend⟩:=hg;obtain⟨its,r,pl,hz⟩:=I.tuple h1;have l1':=r.length;obtain⟨⟨old,he⟩,hr⟩:=st;have hd:X.A.in1.handled=none:=I.ok.hd hc;have en:i=its.toArray.size:=by simp;omega
  subst en;refine wpAny_pyNext_enum_endD (HT.drawsT hd it l nl its.toArray) he ⟨hr,pl⟩ λg x=>⟨rfl,?_⟩
  exact I.turns (tk:=s.toks) (λc o nc q=>by
   simp only[ir,jn,jr,not_or]at nc;exact x c o nc.2 q) hf
 self:=λ_ _ _ _ _ st h=>by
  obtain⟨⟨old,he⟩,hr⟩:=st;exact kB he h
noncomputable def NB(K:Frag)(ta:TA):TI:=λσ H R=>ta σ H λvs H1=>∃a xs,vs=[.ref a]/\SqT K H1 a xs/\R (ItT K a) H1
def V4(K:Frag){elts:List Expr}{kk:Nat}{tpos p pos:Pos}(hg:Gl X "enumerate")(hm:X.mg "enumerate"=none)(ha:PA X [a] ta)(hK:X.K=K:=by rfl)(hs:starEach [a] X.env=[(false,eval a X.env)]:=by rfl):
 PI X (.Tuple elts kk tpos) (.Call (.Name "enumerate" p) [a] [] pos) (NB K ta):=by
 subst hK;intro pins s σ H R I h;refine Call_ (Dg I hg hm GF (PyProof.Rows.callWith_type1 (thn (ha pos pins s σ H _ I h) λus s1 ⟨vs,H1,I1,r1,q1⟩=>?_) hs rfl));obtain⟨l,xs,e,c,q⟩:=q1;subst e;obtain⟨u,rfl,ru⟩:=r1.one;cases ru;obtain⟨its,r,pl,hz⟩:=I1.tuple c;have ll:l<s1.heap.objs.size:=by obtain⟨o,ho,_⟩:=pl;exact 78 ho
 refine HT.call_enumT pl λg he hr hsz kp=>kB he ?_;refine⟨_,_,_,_,H1,rfl,I1.kept (t':=s1.toks) kp,PN (jx (Nat.lt_succ_self _)) (iW ll) (jx (kh ll)),⟨⟨_,he⟩,hr⟩,λc hc=>?_,q⟩;simp only[ir,jn,jr]at hc;have le:s1.heap.objs.size<=c:=by
  rcases hc with rfl|rfl
  .exact ki _ _
  .exact iq _
 exact I1.fpOk le (I1.hok.fresh le)
def UQ{K:Frag}(ha:RRw K true ta ma):RIt K (NB K (BD ta Bn)) (EC ma):=by
 intro ρ σ H hd ls Q d g hd' hR hL hm hQ;obtain⟨⟨⟨d1,g1⟩,h1⟩,e1,e2⟩:=iS hm;cases e2;refine ha ρ σ H hd ls _ d1 g1 h1 hR hL e1 λρ1 H1 a x1 R1 G1 S1=>?_;obtain⟨xs,c1,r1⟩:=S1 ρ1 H1 _ .refl R1 G1;refine⟨a,xs,rfl,c1,hQ ρ1 H1 _ x1 R1 G1 ?_⟩;intro ρ3 H3 hd3 x3 R3 G3 i;obtain⟨xs,c1,r1⟩:=S1 ρ3 H3 _ x3 R3 G3;have l1:=r1.len;refine⟨λhi=>?_,λhi=>⟨xs,c1,?_⟩⟩
 .have hi:i<d1.length:=by simpa using hi
  have i1:d1[i]?=some (d1[i]'hi):=List.getElem?_eq_getElem _;obtain⟨x,x4,x5⟩:=r1.get i1;refine⟨⟨xs,x,c1,x4⟩,λz H4 hz=>?_⟩;obtain⟨p,v,fp,rfl,rfl,hv⟩:=hz;have ev:=hv xs c1;rw[x4]at ev;cases ev;obtain⟨R4,x6⟩:=R3.hid (ho:=.tup [.int (i:Int),x]) fp;refine⟨ρ3,AT [.im (.int (i:Int)),d1[i]'hi],x6,rfl,R4,?_,By (SqT.of Af) (.cons (by simp[RD,RI]) (.cons (x5.ext R3 x6) .nil))⟩;simp[i1]
 .have hi:i=d1.length:=by simpa using hi
  omega
def Uk(K:Frag){X:Cx}{elts:List Expr}{kk:Nat}{tpos p pos:Pos}(hm:X.mg "enumerate"=none)(ha:QR K true X a ta ma)(hg:Gl X "enumerate":=by rfl)(hK:X.K=K:=by rfl)(hs:starEach [a] X.env=[(false,eval a X.env)]:=by rfl):
 QI K X (.Tuple elts kk tpos) (.Call (.Name "enumerate" p) [a] [] pos) (NB K (BD ta Bn)) (EC ma):=⟨V4 K hg hm (Bu ha.p Ca hs) hK hs,UQ ha.r⟩
end L2
namespace HS
open PySem PyProof.Rows
open PySem.AutoSeq1 (wpAny_loadPart')
open Sem (wp)
noncomputable abbrev st(t:Tok):List (Str×Value):=[(Str.ofString "start",.int 1 t)]
end HS
namespace L2
open PySem PySem.Spec PyProof.Rows
def Sy{E:77}{β:Type}{n:Nat}{b:β}{f:Nat->β->Sem (ForInStep β)}{Q:β->Shared->Prop}(h:wpAny M A (forIn (List.range' 0 n) b f) Q E s):wpAny M A (forIn ([:n]:Std.Legacy.Range) b f) Q E s:=by
 rw[Std.Legacy.Range.forIn_eq_forIn_range'];simpa only[Std.Legacy.Range.size,Nat.sub_zero,Nat.add_sub_cancel,Nat.div_one]using h
def RQ(a:Addr)(its:Array Value)(k:Nat)(dd:Option Addr)(sl:Array (Option Value))(x:Value)(e:Value->Bool)(j:Nat)(hj:j<its.size)(yes:e its[j]=true)(no:∀m (hm:m<its.size),m<j->e its[m]=false):
 Meets (Builtin.«tuple.index» ⟨[.ref a,x],[]⟩) (λA R s=>s.heap.get? a=some { cls:=.type "tuple",dict:=dd,data:=.seq its k,slots:=sl }/\(∀y,y∈its->PySem.SeqAt.EqAt A.in1 s y x (e y))/\R (.ok (.ret (.int j s.toks))) { s with toks:=s.toks+1 }):=
 .of_wp λprog w A R s0 hh=>by
  obtain⟨hp,gs,dr,tk,os⟩:=s0;obtain⟨h1,h2,h3⟩:=hh
  wp_walk using AutoSeq1.wpAny_loadPart' h1,Sy
  rw[Nat.min_self];refine wpAny_forIn_list _ (λrest b s'=>b.1=none/\s'=⟨hp,gs,dr,tk,os⟩/\∃i,i<=j/\rest=List.range' i (its.size-i)) _ ?_ ?_ _ _ ⟨rfl,rfl,0,jF _,rfl⟩
  .rintro z rest b s' ⟨hb,rfl,i,hi,hr⟩;have lt:i<its.size:=by omega
   obtain⟨rfl,hr⟩:z=i/\rest=List.range' (i+1) (its.size-(i+1)):=by
    rw[show its.size-i=(its.size-(i+1))+1 by omega,List.range'_succ]at hr;exact List.cons.inj hr
   rw[Array.getElem?_eq_getElem lt];refine ie (h2 _ (Array.getElem_mem lt) prog w _ _ ?_);by_cases q:z=j
   .subst q;rw[yes]
    wp_walk
    exact⟨_,rfl,h3⟩
   .rw[no z lt 66]
    wp_walk
    exact⟨rfl,rfl,z+1,by omega,hr⟩
  .rintro⟨b1,b2⟩ s' ⟨hb,rfl,i,hi,hr⟩;rw[show its.size-i=(its.size-(i+1))+1 by omega,List.range'_succ]at hr;cases hr
def OQ(K:Frag):V->List V->Hp->VK->Prop:=λx vs H Q=>∃(a:Addr) (ns:List Int) (i:Int),x=.ref a/\vs=[.int i]/\SqT K H a (ns.map V.int)/\i∈ns/\Q (.int (ns.idxOf i:Nat)) H
theorem LA{i:Int}:∀(L:List Int) (m:Nat),m<L.idxOf i->L[m]?≠some i
 |[],m,h=>by simp at h
 |y::r,m,h=>by
  rw[List.idxOf_cons]at h;by_cases hy:y=i
  .simp[hy]at h
  .have hy':(y==i)=false:=by simpa using hy
   rw[hy']at h;cases m with
   |zero=>simpa using hy
   |succ m=>simpa using LA r m (by simpa using h)
def Se:MtM X "tuple.index" (OQ X.K):=by
 intro pins s σ H x vs v us Q I rx rv h;obtain⟨a,ns,i,rfl,rfl,hT,hi,q⟩:=h;cases rx;obtain⟨u,rfl,ru⟩:=rv.one;obtain⟨t,rfl⟩:=ru;obtain⟨its,r,⟨⟨cl,dd,dt,sl⟩,e,c,k,hd⟩,z⟩:=I.tuple hT;simp only at c hd;subst c hd;have li:its.length=ns.length:=by rw[<- r.length];simp
 have hj:ns.idxOf i<ns.length:=List.idxOf_lt_length_iff.mpr hi;have itsI:∀(m:Nat) (hm:m<its.toArray.size),∃t,its.toArray[m]=.int (ns.getD m 0) t:=by
  intro m hm;have hm':m<ns.length:=by simpa [li]using hm
  have e1:(ns.map V.int)[m]?=some (.int (ns.getD m 0)):=by simp[hm']
  obtain⟨w,hw,rw'⟩:=r.get e1;obtain⟨t,rfl⟩:=rw';exact⟨t,(72 hw).2⟩
 refine call_meets F.slot_tuple_index ⟨_,e,rfl⟩ F.entry_tuple_index (F.args_tuple_index_2 _ _)
  (RQ a its.toArray k dd sl (.int i t) (λy=>match y with|.int n _=>n==i|_=>false) (ns.idxOf i) (by rw[iu,li];exact hj) ?_ ?_) ⟨e,?_,?_⟩
 .obtain⟨t',e'⟩:=itsI (ns.idxOf i) (by rw[iu,li];exact hj);rw[e'];have:ns.getD (ns.idxOf i) 0=i:=by simp[hj]
  rw[this];exact beq_self_eq_true i
 .intro m hm hmk;obtain⟨t',e'⟩:=itsI m hm;rw[e'];have hm':m<ns.length:=by simpa [li]using hm
  have:=LA ns m hmk;have:ns.getD m 0≠i:=λz=>this (by rw[<- z];simp[hm']);simpa using this
 .intro y hy;obtain⟨m,hm,rfl⟩:=Array.mem_iff_getElem.mp hy;obtain⟨t',e'⟩:=itsI m hm;rw[e'];exact(PySem.MeetsSeq.EqGives.int _ _ _ _).at _ _
 .exact⟨.int (ns.idxOf i:Nat),H,I.tok _,⟨_,rfl⟩,q⟩
section
variable{K:Frag}
noncomputable def U5(K:Frag)(r:V->List V->Hp->VK->Prop)(to:TE)(t:TA):TE:=λσ H Q=>to σ H λx H1=>(∃a xs,x=.ref a/\SqT K H1 a xs)/\t σ H1 λxs H2=>r x xs H2 Q
def bg{apos:Pos}{id:String}{r:V->List V->Hp->VK->Prop}(slot:Slot "tuple" name id)(hty:typeOf (.builtin id)=pure (.type "method_descriptor"))(hm:MtM X id r)(ho:PE X o to)(ha:PA X (e::es) t)
 (hbase:attributeBase o name X.env (eval o X.env)=eval o X.env)
 (hfew:((backTo cpos (starEach (e::es) X.env)).all (λx=>!x.1)&&(backToKw cpos (keywordEach [] X.env)).all (λx=>x.1.isSome)&&decide ((e::es).length+([]:List Keyword).length+(if([]:List Keyword).isEmpty then 0 else 1)<30))=true)
 (hline:(apos.endLine==cpos.line)=true) (hs:starEach (e::es) X.env=(false,eval e X.env)::starEach es X.env) (hplain:(backTo cpos (starEach es X.env)).any (·.1)=false):
 PE X (.Call (.Attribute o name apos) (e::es) [] cpos) (U5 X.K r to t):=by
 intro pins s σ H Q I h;refine wpAny_Call_method_late hbase hfew hline rfl (thn (ho pins s σ H _ I h) λv s1 ⟨x,H1,I1,r1,⟨a,xs,ex,hT⟩,q1⟩=>?_);subst ex;cases r1;obtain⟨ob,e1,e2,e3⟩:=I1.tupleD hT;refine⟨"tuple",id,PySem.F.plainAttrs_tuple,slot,hty,⟨ob,e1,e2⟩,λb eb=>by cases eb;exact⟨ob,e1,e3⟩,?_⟩;have hA:=ha cpos pins s1 σ H1 _ I1 q1;rw[hs]at hA ⊢;refine Calls.callWith_builtin (by show(false||(backTo cpos (starEach es X.env)).any (·.1))=false;rw[hplain]<;>rfl) (Calls.evalArgs_plain ?_);exact thn hA λus s2 ⟨vs,H2,I2,r2,q2⟩=>hm pins s2 σ H2 (.ref a) vs (.ref a) us Q I2 rfl r2 q2
noncomputable def GV(f:D->List D->Hd->Option (D×Hd))(mo:ME)(ma:MA):ME:=λls hd=>(mo ls hd).bind λp=>match AN p.1 with
 |some _=>(ma ls p.2).bind λq=>f p.1 q.1 q.2
 |none=>none
def a8{r:V->List V->Hp->VK->Prop}{f:D->List D->Hd->Option (D×Hd)}(hr:RM K r f)(ho:RE K to mo)(ha:RA K t ma):RE K (U5 K r to t) (GV f mo ma):=by
 and_intros;obtain⟨⟨d1,h1⟩,e1,hm⟩:=gV hm;dsimp only at hm;split at hm
 .next ds e=>
  obtain⟨⟨d2,h2⟩,e2,hm⟩:=gV hm;refine ho ρ σ H hd ls _ d1 h1 hR hL e1 λρ1 H1 v x1 R1 r1=>⟨?_,?_⟩
  .obtain⟨a,xs,rfl,q,_⟩:=r1.tup e;exact⟨a,xs,rfl,q⟩
  .exact ha ρ1 σ H1 h1 ls _ d2 h2 R1 (hL.ext hR x1) e2 λρ2 H2 vs x2 R2 r2=>hr ρ2 H2 h2 d1 v d2 vs Q d hd' R2 (r1.ext R1 x2) r2 hm λρ' H' w x3 R3 r3=>hQ ρ' H' w ((x1.trans R1 x2).trans R2 x3) R3 r3
 .cases hm
open Classical in
noncomputable def E8:D->List D->Hd->Option (D×Hd):=λd ds hd=>(AN d).bind λes=>(B4 es).bind λns=>match ds with
 |[.im (.int i)]=>if i∈ns then some (.im (.int (ns.idxOf i:Nat)),hd)else none
 |_=>none
def Rv:RM K (OQ K) E8:=by
 intro ρ H hd d v ds vs Q z hd' hR h1 h2 hf hQ;obtain⟨es,e1,hf⟩:=gV hf;obtain⟨ns,e2,hf⟩:=gV hf;split at hf
 .split at hf
  .next c=>
   cases hf;obtain⟨a,xs,rfl,q,r⟩:=h1.tup e1;rw[E6 e2]at r;have ex:=r.ints;subst ex;simp only[RDs,RD,RI]at h2;obtain⟨x,r2,rfl,rfl,rfl⟩:=h2;exact⟨a,ns,_,rfl,rfl,q,c,hQ ρ H _ .refl hR (by simp[RD,RI])⟩
  .cases hf
 .cases hf
def ax(K:Frag){id:String}{r:V->List V->Hp->VK->Prop}{f:D->List D->Hd->Option (D×Hd)}{apos cpos:Pos}(slot:Slot "tuple" name id)(hty:typeOf (.builtin id)=pure (.type "method_descriptor"))(hm:MtM X id r)(hr:RM K r f)(ho:QE K X o to mo)(ha:QA K X (e::es) t m)
 (hbase:attributeBase o name X.env (eval o X.env)=eval o X.env:=by rfl)
 (hfew:((backTo cpos (starEach (e::es) X.env)).all (λx=>!x.1)&&(backToKw cpos (keywordEach [] X.env)).all (λx=>x.1.isSome)
  && decide ((e::es).length+([]:List Keyword).length+(if([]:List Keyword).isEmpty then 0 else 1)<30))=true:=by rfl)
 (hline:(apos.endLine==cpos.line)=true:=by rfl) (hs:starEach (e::es) X.env=(false,eval e X.env)::starEach es X.env:=by rfl) (hplain:(backTo cpos (starEach es X.env)).any (·.1)=false:=by rfl) (hK:X.K=K:=by rfl):
 QE K X (.Call (.Attribute o name apos) (e::es) [] cpos) (U5 K r to t) (GV f mo m):=by
 subst hK;exact⟨bg slot hty hm ho.p ha.p hbase hfew hline hs hplain,a8 hr ho.r ha.r⟩
end
def JP{f:D->List D->Hd->Option (D×Hd)}{QE:D->Hd->Prop}(h:WE ma ls hd λd x=>(∃l,AN d=some l)/\WA m ls x λds y=>WP (f d ds y) QE):WE (GV f ma m) ls hd QE:=by
 obtain⟨d,x,e,⟨l,e1⟩,ds,y,e2,z,y2,e3,q⟩:=h;exact⟨z,y2,by simp only[GV,e,ik,e1,e2,e3],q⟩
def FW{i:Int}{QE:D->Hd->Prop}(e1:AN d=some es)(e2:B4 es=some ns)(c:i∈ns)(q:QE (.im (.int (ns.idxOf i:Nat))) hd):WP (E8 d [.im (.int i)] hd) QE:=by
 refine⟨_,_,?_,q⟩;show(AN d).bind _=_;rw[e1];simp[e2,c]
def LS:seqSlot? (.type "list") (dunderI "add")=pure (some (.builtin "list.__iadd__")):=PySem.seqSlot_of F.slot_list_iadd.lookup (by decide +kernel)
def Th{E:77}{s:Shared}{Q:77}(ha:s.TypeIs a "list")(hb:s.TypeIs b "list")
 (hc:wpAny M A (call (.builtin "list.__iadd__") [a,b]) Q E s):wpAny M A (inplaceOp .Add a b) Q E s:=by
 unfold inplaceOp;refine jU ?_;have hfi:fillsInplaceSlot (.type "list") "add" (Operator.Add==.Add)=pure false:=by
  unfold fillsInplaceSlot;show(typeLookup (.type "list") (dunderI "add") >>= λfi=>pure (fi.isSome&&!isSeqSlot fi))=pure false;rw[F.slot_list_iadd.lookup,pure_bind];have:isSeqSlot (some (.builtin "list.__iadd__"))=true:=by decide +kernel
  rw[this];rfl
 refine ie (wpAny_typeOf ha (ie (wpAny_of_eq hfi ?_)));show wpAny M A (if false=true then _ else _) Q E s;rw[ig Bool.false_ne_true];refine ie (wpAny_binaryOp1_none (nm:="add") ha hb noFill_list_add ?_);refine ie (wpAny_of_eq LS ?_);exact ie (jW hc)
def ipL:TIp:=λx y H Q=>∃l b xs zs,x=.ref l/\y=.ref b/\H l=some (.lst xs)/\H b=some (.lst zs)/\79+zs.length<=sizeLine/\Q (.ref l) (upd H l (.lst (xs++zs)))
def Yy:PIp X .Add ipL:=by
 intro pins s σ H x y v u Q I rx ry h;obtain⟨l,b,xs,zs,rfl,rfl,hH,hB,hz,q⟩:=h;cases rx;cases ry;obtain⟨z,its,n,r,hl,e⟩:=I.lstM hH;obtain⟨z2,its2,n2,r2,hl2,e2⟩:=I.lstM hB;have hsz:its.toArray.size+its2.toArray.size<=sizeLine:=by rw[iu,iu];omega
 have hlong:¬ (!its.toArray.isEmpty&&Builtin.List.listTooLong (its.toArray.size+its2.toArray.size))=true:=by
  rw[VB hsz,Bool.and_false];exact Bool.false_ne_true
 refine Th ⟨_,e,rfl⟩ ⟨_,e2,rfl⟩ (call_meets F.slot_list_iadd ⟨_,e,rfl⟩ F.entry_list_iadd (F.args_list_iadd_2 _ _)
  (AutoSeq1.list___iadd___list_list_0 l its.toArray n b its2.toArray n2 hlong (by rw[iu];omega) 66) ⟨e,e2,?_⟩)
 refine⟨.ref l,_,I.lset (its':=its++its2) hH e 70 (r.append r2) ?_,rfl,q⟩;rw[iV];omega
section
variable{K:Frag}
open Classical in
noncomputable def GZ(i:Nat)(m:ME):MS:=λls hd=>match ls[i]? with
 |some (some (.mu n))=>(m ls hd).bind λp=>match p.1 with
  |.mu k=>match p.2[n]?,p.2[k]? with
   |some (.lst ds),some (.lst es)=>if C6 (82+es.length)then some (.nx (ls.set i (some (.mu n))),p.2.set n (.lst (ds++es)))else none
   |_,_=>none
  |_=>none
 |_=>none
def XD{i:Nat}(h:RE K t m):RS K (HE i t ipL) (GZ i m):=by
 intro ρ σ H hd0 ls E f hd' hR hL hm hQ;unfold GZ at hm;split at hm
 .next n e0=>
  obtain⟨⟨d1,h1⟩,e1,hm⟩:=gV hm;dsimp only at hm;split at hm
  .next k=>
   split at hm
   .next ds es q1 q2=>
    split at hm
    .next c=>
     cases hm;obtain⟨v,v1,v2⟩:=hL.ob i _ e0;refine⟨_,v1,h ρ σ H hd0 ls _ _ _ hR hL e1 λρ1 H1 w x1 R1 r1=>?_⟩;have v3:=v2.ext hR x1;simp only[RD]at v3 r1;obtain⟨a,hn,rfl⟩:=v3;obtain⟨b,hm,rfl⟩:=r1;obtain⟨xs,f1,f2⟩:=R1.lst hn q1;obtain⟨ys,g1,g2⟩:=R1.lst hm q2;have l1:=f2.len;have l2:=g2.len;obtain⟨R2,x2⟩:=R1.put hn (o:=.lst (ds++es)) (ho:=.lst (xs++ys)) ⟨_,rfl,f2.app g2⟩;refine⟨a,b,xs,ys,rfl,rfl,f1,g1,by rw[l1,l2];exact c,hQ ρ1 _ (x1.trans R1 x2) R2 _ ((hL.ext hR (x1.trans R1 x2)).set i ?_)⟩;simp only[RD];exact⟨a,hn,rfl⟩
    .cases hm
   .cases hm
  .cases hm
 .cases hm
def Xq{X:Cx}{i:Nat}{pos pos':Pos}(hN:X.N.Nodup)(hi:X.N[i]?=some x)(hx:Loc X.env.scope x)(he:QE K X e te me)(hf:X.fn x=true∨X.env.scope.names.lookup x=some .local:=by first|exact .inl rfl|exact .inr rfl|assumption):
 QS K X (.AugAssign (.Name x pos') .Add e pos) (HE i te ipL) (GZ i me):=⟨Mo hN hi hx he.p Yy hf,XD he.r⟩
def Wi{i n:Nat}{Q:Fl->Hd->Prop}(e:ls[i]?=some (some (.mu n)))(h:WE m ls hd λd y=>∃k ds es,d=.mu k/\y[n]?=some (.lst ds)/\y[k]?=some (.lst es)/\C6 (82+es.length)/\Q (.nx (ls.set i (some (.mu n)))) (y.set n (.lst (ds++es)))):WS (GZ i m) ls hd Q:=by
 obtain⟨d,y,e1,k,ds,es,rfl,q1,q2,c,q⟩:=h;exact⟨_,_,by unfold GZ;rw[e];simp only[e1,ik,q1,q2,c,iU],q⟩
end
end L2
namespace L2
open PySem PySem.W
noncomputable def tg1:Expr->List Str
 |.Name x _=>[x]
 |_=>[]
def tg2:Expr->List Str
 |.Tuple es _ _=>es.flatMap tg1
 |e=>tg1 e
def tgN:Expr->List Str
 |.Tuple es _ _=>es.flatMap tg2
 |e=>tg1 e
noncomputable def frN(X:Cx)(ix:71):List Str:=ix.filterMap λi=>X.N[i]?
noncomputable def ndB:List Str->Bool
 |[]=>true
 |x::xs=>!xs.elem x&&ndB xs
theorem Cn:∀{l:List Str},ndB l=true->l.Nodup
 |[],_=>List.nodup_nil
 |x::xs,h=>by
  obtain⟨h1,h2⟩:=Bool.and_eq_true_iff.mp h;refine nodup_cons.mpr ⟨λhm=>?_,Cn h2⟩;rw[List.elem_eq_true_of_mem hm]at h1;cases h1
section
variable{K:Frag}{X:Cx}{iter:Expr}{spos:Pos}{k i:Nat}
def qgA(hN:ndB X.N=true:=by kernel_rfl)(hi:X.N[i]?=some x:=by rfl)(hx:Loc X.env.scope x:=by first|exact Or.inl rfl|exact Or.inr rfl)(hf:X.fn x=true∨X.env.scope.names.lookup x=some .local:=by first|exact .inl rfl|exact .inr rfl):QG K X (.Name x pos) (Cv i) (AB i):=Y5 K (Cn hN) hi hx hf
def qnA(hi:QI K X tg iter wi mi)(hg:∀s H ex,QG K (cCx X (tgN tg++frN X ix) scope s H ex) tg g n)(hf:∀s H ex,QF K (cCx X (tgN tg++frN X ix) scope s H ex) ifs tf mf)(he:∀s H ex,QE K (cCx X (tgN tg++frN X ix) scope s H ex) elt te me)
 (hc:X.calm=true:=by rfl) (S:CSc X scope (frN X ix) ix:=by exact⟨rfl,by decide +kernel,rfl,rfl,rfl,by decide +kernel⟩) (hs:∀x,foldedSetIterable iter X.env x=pure x:=by intro _;rfl) (hk:(tgN tg).length=k:=by rfl):
 QN K X (.ListComp elt [⟨tg,iter,ifs,0⟩] scope pos) (GM k ix wi g tf te) (Ai k ix mi n mf me):=by
 subst hk;exact Xw K hc S hi hg hf he hs
def fc(hi:QI K X tg iter wi mi)(hg:∀s H ex,QG K (cCx X (tgN tg++frN X ix) scope s H ex) tg g n)(hf:∀s H ex,QF K (cCx X (tgN tg++frN X ix) scope s H ex) ifs tf mf)(he:∀s H ex,QE K (cCx X (tgN tg++frN X ix) scope s H ex) elt te me)
 (hsw:swapsWith (.ListComp elt [⟨tg,iter,ifs,0⟩] scope pos) (some (.Name y py)) spos.line X.env=pure true:=by rfl) (hN:ndB X.N=true:=by kernel_rfl) (hiN:X.N[i]?=some y:=by rfl) (hy:X.env.scope.names.lookup y=some .local:=by rfl)
 (hc:X.calm=true:=by rfl) (S:CSc X scope (frN X ix) ix:=by exact⟨rfl,by decide +kernel,rfl,rfl,rfl,by decide +kernel⟩) (hs:∀x,foldedSetIterable iter X.env x=pure x:=by intro _;rfl) (hk:(tgN tg).length=k:=by rfl):
 QS K X (.Assign [.Name y py] (.ListComp elt [⟨tg,iter,ifs,0⟩] scope pos) spos) (DX (GM k ix wi g tf te) (Cv i)) (AF i (Ag (Ai k ix mi n mf me))):=by
 subst hk;exact Xk K (Cn hN) hiN hy hc S hi hg hf he hsw hs
def fe(hi:QI K X tg iter wi mi)(hg:∀s H ex,QG K (cCx X ((tgN tg++tgN tg')++frN X ix) scope s H ex) tg g n)(hf:∀s H ex,QF K (cCx X ((tgN tg++tgN tg')++frN X ix) scope s H ex) ifs tf mf)(hi2:∀s H ex,QI K (cCx X ((tgN tg++tgN tg')++frN X ix) scope s H ex) tg' iter' wi' mi')(hg2:∀s H ex,QG K (cCx X ((tgN tg++tgN tg')++frN X ix) scope s H ex) tg' g' n')(hf2:∀s H ex,QF K (cCx X ((tgN tg++tgN tg')++frN X ix) scope s H ex) ifs' tf' mf')(he:∀s H ex,QE K (cCx X ((tgN tg++tgN tg')++frN X ix) scope s H ex) elt te me)
 (hc:X.calm=true:=by rfl) (S:CSc X scope (frN X ix) ix:=by exact⟨rfl,by decide +kernel,rfl,rfl,rfl,by decide +kernel⟩) (hs:∀x,foldedSetIterable iter X.env x=pure x:=by intro _;rfl) (hs2:∀s H ex x,foldedSetIterable iter' (cCx X ((tgN tg++tgN tg')++frN X ix) scope s H ex).env x=pure x:=by intro _ _ _ _;rfl) (hk:(tgN tg++tgN tg').length=k:=by rfl):
 QE K X (.ListComp elt [⟨tg,iter,ifs,0⟩,⟨tg',iter',ifs',0⟩] scope pos) (FA k ix wi g tf wi' g' tf' te) (CM k ix mi n mf mi' n' mf' me):=by
 subst hk;exact Mn K hc S hi hg hf hi2 hg2 hf2 he hs hs2
def eG(hi:QI K X tg iter wi mi)(hg:∀s H ex,QG K (cCx X ((tgN tg++tgN tg')++frN X ix) scope s H ex) tg g n)(hf:∀s H ex,QF K (cCx X ((tgN tg++tgN tg')++frN X ix) scope s H ex) ifs tf mf)(hi2:∀s H ex,QI K (cCx X ((tgN tg++tgN tg')++frN X ix) scope s H ex) tg' iter' wi' mi')(hg2:∀s H ex,QG K (cCx X ((tgN tg++tgN tg')++frN X ix) scope s H ex) tg' g' n')(hf2:∀s H ex,QF K (cCx X ((tgN tg++tgN tg')++frN X ix) scope s H ex) ifs' tf' mf')(he:∀s H ex,QE K (cCx X ((tgN tg++tgN tg')++frN X ix) scope s H ex) elt te me)
 (hsw:swapsWith (.ListComp elt [⟨tg,iter,ifs,0⟩,⟨tg',iter',ifs',0⟩] scope pos) (some (.Name y py)) spos.line X.env=pure true:=by rfl) (hN:ndB X.N=true:=by kernel_rfl) (hiN:X.N[i]?=some y:=by rfl) (hy:X.env.scope.names.lookup y=some .local:=by rfl)
 (hc:X.calm=true:=by rfl) (S:CSc X scope (frN X ix) ix:=by exact⟨rfl,by decide +kernel,rfl,rfl,rfl,by decide +kernel⟩) (hs:∀x,foldedSetIterable iter X.env x=pure x:=by intro _;rfl) (hs2:∀s H ex x,foldedSetIterable iter' (cCx X ((tgN tg++tgN tg')++frN X ix) scope s H ex).env x=pure x:=by intro _ _ _ _;rfl) (hk:(tgN tg++tgN tg').length=k:=by rfl):
 QS K X (.Assign [.Name y py] (.ListComp elt [⟨tg,iter,ifs,0⟩,⟨tg',iter',ifs',0⟩] scope pos) spos) (DX (FA k ix wi g tf wi' g' tf' te) (Cv i)) (AF i (CM k ix mi n mf mi' n' mf' me)):=by
 subst hk;exact Ug K (Cn hN) hiN hy hc S hi hg hf hi2 hg2 hf2 he hsw hs hs2
def qlA{p pos':Pos}(hm:X.mg "len"=none)(hi:QI K X tg iter wi mi)(hg:∀s H ex,QG K (cCx X (tgN tg++frN X ix) scope s H ex) tg g n)(hf:∀s H ex,QF K (cCx X (tgN tg++frN X ix) scope s H ex) ifs tf mf)(he:∀s H ex,QE K (cCx X (tgN tg++frN X ix) scope s H ex) elt te me)
 (hc:X.calm=true:=by rfl) (S:CSc X scope (frN X ix) ix:=by exact⟨rfl,by decide +kernel,rfl,rfl,rfl,by decide +kernel⟩) (hs:∀x,foldedSetIterable iter X.env x=pure x:=by intro _;rfl) (hgl:Gl X "len":=by rfl)
 (hst:starEach [.SetComp elt [⟨tg,iter,ifs,0⟩] scope pos] X.env=[(false,eval (.SetComp elt [⟨tg,iter,ifs,0⟩] scope pos) X.env)]:=by rfl) (hk:(tgN tg).length=k:=by rfl):QE K X (.Call (.Name "len" p) [.SetComp elt [⟨tg,iter,ifs,0⟩] scope pos] [] pos') (Lg (Ft (.set (λ_=>false) 0) k ix wi g tf (Jd te))) (ID (Hf k ix mi n mf [] (Jo me))):=by
 subst hk;exact Um K hm hc S hi hg hf he hs hgl hst
def qsA(he:QE K X e te me)(hs:swapsWith e (some (.Name x pos')) pos.line X.env=pure false:=by rfl)(hN:ndB X.N=true:=by kernel_rfl)(hi:X.N[i]?=some x:=by rfl)(hx:Loc X.env.scope x:=by first|exact Or.inl rfl|exact Or.inr rfl)(hf:X.fn x=true∨X.env.scope.names.lookup x=some .local:=by first|exact .inl rfl|exact .inr rfl):
 QS K X (.Assign [.Name x pos'] e pos) (DX te (Cv i)) (AF i me):=aR K (Cn hN) hi hx he hs hf
def eL{f:Int->Int->Int}{pos':Pos}(ho:PIp X op (ipI f))(he:QE K X e te me)(hN:ndB X.N=true:=by kernel_rfl)(hi:X.N[i]?=some x:=by rfl)(hx:Loc X.env.scope x:=by first|exact Or.inl rfl|exact Or.inr rfl)(hf:X.fn x=true∨X.env.scope.names.lookup x=some .local:=by first|exact .inl rfl|exact .inr rfl):
 QS K X (.AugAssign (.Name x pos') op e pos) (HE i te (ipI f)) (Ga i f me):=aV K (Cn hN) hi hx he ho hf
end
end L2
namespace L2
open PySem PySem.Spec PyProof.Rows PySem.W
noncomputable abbrev Tb:=Addr×Str×Nat×Nat
noncomputable def Yl(ts:List Tb):Obj:={ cls:=.str "tables" 0,data:=.fields (ts.flatMap λt=>[.ref t.1,.str t.2.1 0,.int t.2.2.1 0,.int t.2.2.2 0]).toArray }
noncomputable def C3(K:Frag)(ts:List Tb):Frag:=(K.filter λp=>!(ts.map (·.1)).contains p.1)++[(mainGlobals,Yl ts)]
theorem RW:∀ts:List Tb,Lf (ts.flatMap λt=>[Value.ref t.1,.str t.2.1 0,.int t.2.2.1 0,.int t.2.2.2 0])=ts.map λt=>(t.1,t.2.1,⟨t.2.2.1,t.2.2.2,0,0⟩)
 |[]=>rfl
 |t::r=>by
  rw[k0,iw,<- RW r];rfl
def RV(K:Frag)(ts:List Tb):JS (C3 K ts)=ts.map λt=>(t.1,t.2.1,⟨t.2.2.1,t.2.2.2,0,0⟩):=by
 unfold JS C3;rw[List.getLast?_concat];show Lf _=_;rw[<- RW ts]
theorem Fi{L:List Addr}{a:Addr}(ha:a∉L):∀K:Frag,(K.filter λp=>!L.contains p.1).lookup a=K.lookup a
 |[]=>rfl
 |(b,o)::r=>by
   have ih:=Fi ha r;rw[k5];by_cases hb:b∈L
   .have h1:(!L.contains (b,o).1)=false:=by simp[hb]
    have h2:(a==b)=false:=beq_eq_false_iff_ne.mpr λz=>ha (z ▸ hb);rw[ig (by rw[h1];decide),j8,h2,ih]
   .have h1:(!L.contains (b,o).1)=true:=by simp[hb]
    rw[ic h1,j8,j8,ih]
theorem Hg{L:List Addr}{P:Addr}(hP:P∈L):∀K:Frag,(K.filter λp=>!L.contains p.1).lookup P=none
 |[]=>rfl
 |(b,o)::r=>by
   have ih:=Hg hP r;rw[k5];by_cases hb:b∈L
   .rw[ig (by simp[hb])];exact ih
   .have h2:(P==b)=false:=beq_eq_false_iff_ne.mpr λz=>hb (z ▸ hP);rw[ic (by simp[hb]),j8,h2];exact ih
section
variable{K:Frag}{ts:List Tb}
def HZ{a:Addr}{o:Obj}(ha:a∉ts.map (·.1))(e:K.lookup a=some o):(C3 K ts).lookup a=some o:=by
 unfold C3;rw[jY,Fi ha,e];rfl
def Yk{h:Heap}(X:K.In h){g:Obj}(hg:K.lookup mainGlobals=some g)(hP:mainGlobals∉ts.map (·.1)):(C3 K ts).In h:=λa o e=>by
 unfold C3 at e;rw[jY]at e;by_cases ha:a∈ts.map (·.1)
 .rw[Hg ha,none_or]at e;have h2:(a==mainGlobals)=false:=beq_eq_false_iff_ne.mpr λz=>hP (z ▸ ha);rw[j8,h2]at e;cases e
 .rw[Fi ha]at e;cases k:K.lookup a with
  |some o'=>rw[k]at e;cases e;exact X _ _ k
  |none=>
   rw[k,none_or,j8]at e;by_cases hm:a=mainGlobals
   .subst hm;rw[hg]at k;cases k
   .rw[beq_eq_false_iff_ne.mpr hm]at e;cases e
def Yj(hM:mainGlobals∉ts.map (·.1)){P:Addr}(hP:P∈ts.map (·.1)):(C3 K ts).lookup P=none:=by
 unfold C3;have h2:(P==mainGlobals)=false:=beq_eq_false_iff_ne.mpr λz=>hM (z ▸ hP);rw[jY,Hg hP,none_or,j8,h2];rfl
def Fun.mark{st:Stmt}(D:Fun K x qual st f fd)(X:K.In h)(hP:∀P∈ts.map (·.1),h.get? P=some (tabObj #[])):Fun (C3 K ts) x qual st f fd:=by
 have neP:∀a o,K.lookup a=some o->o≠tabObj #[]->a∉ts.map (·.1):=λa o e n z=>by
  have:=X _ _ e;rw[hP a z]at this;exact n (Option.some.inj this).symm
 obtain⟨⟨oc,od,kV,doc,pm,an,cdv,ct,osl,rfl,lk,hcd⟩,kp⟩:=D;have hf:f∉ts.map (·.1):=neP f _ lk (λz=>by cases z);refine⟨⟨oc,od,kV,doc,pm,an,cdv,ct,osl,rfl,HZ hf lk,?_⟩,?_⟩
 .unfold codeIn at hcd ⊢;split at hcd
  .next c0=>
   split at hcd
   .next vs sl k=>
    have hc:c0∉ts.map (·.1):=neP c0 _ k (λz=>by
     have:vs=#[]:=by injection z with _ _ z _;injection z
     rw[this]at hcd;cases hcd)
    simp only[HZ hc k];exact hcd
   .cases hcd
  .cases hcd
 .unfold keepIn;simp only[HZ hf lk]
end
def dw{K:Frag}(hS:SqL K H a xs)(hO:∀ys,H a≠some (.lst ys)):RoL K H a xs:=by
 rcases hS with(h|h)|h
 .exact absurd h (hO xs)
 .exact .inl h
 .exact .inr h
def Sn{Pg:Program}{w:World}{K:Frag}{mg mb:Str->Option Value}{k:Nat}{fa:Addr}{fd:FuncData}{ts:List Tb}{s₁:Shared}{vs:List Value}{F:List D->Hd->Option (D×Hd)}
 (KX:K.In s₁.heap) (hns:s₁.heap.Ns mainGlobals mg) (hb:s₁.heap.Ns builtinsNs mb) (hbb:∀x:Str,x≠"__name__"->mb x=bootBuiltins x) (hlim:s₁.heap.NoLimit) (hg:s₁.gens=#[])
 (ha:s₁.heap.get? a=some { cls:=.type "list",data:=.seq vs.toArray }) (hi:IntsAre vs ns) (hl:ns.length<=sizeLine) (hr:Room k callerA)
 (hT:∀P∈ts.map (·.1),∃cc,s₁.heap.TableAt cc P #[]) (hPK:∀P∈ts.map (·.1),K.lookup P=none) (htab:JS K=ts.map λt=>(t.1,t.2.1,⟨t.2.2.1,t.2.2.2,0,0⟩))
 (Fn:∀base:Heap,K.In base->base.Ns mainGlobals mg->(∀b o,b∉ts.map (·.1)->b≠a->s₁.heap.get? b=some o->base.get? b=some o)->FnOk Pg w K mg base CX0 k fa fd [x] (spF K 1 F)) (hbind:∀(s:Shared) (u:Value),BindsTo s fd ⟨[u],[]⟩ [(x,u)])
 (hF:∃hd',F [.ro ns] []=some (.im (.bl true),hd')):
 codeAny (model Pg w) callerA (.call (.ref fa) ⟨[.ref a],[]⟩) (λr s'=>r=.ok (.ret (.bool true))/\OldK s₁.heap s'.heap/\s'.os=s₁.os/\AllBare s'.gens) s₁:=by
 have rv:=HD hi;have lenV:=hi.length;have hP:∀P∈ts.map (·.1),s₁.heap.get? P=some (tabObj #[]):=λP h=>let ⟨cc,t⟩:=hT P h;t.2
 have haP:a∉ts.map (·.1):=λz=>by rw[hP a z]at ha;cases ha
 have core:∀H:Hp,(∀b,b∉ts.map (·.1)->H b=none∨∃o xs,H b=some (.frz o (.lst xs)))->(∀P∈ts.map (·.1),H P=some (.tbl #[]))->SqL K H a (ns.map V.int)->HOk Pg w H s₁.heap->(∀b,H b≠none->b=a∨b∈ts.map (·.1))->(H a≠none->K.lookup a=none) ->
  codeAny (model Pg w) callerA (.call (.ref fa) ⟨[.ref a],[]⟩) (λr s'=>r=.ok (.ret (.bool true))/\OldK s₁.heap s'.heap/\s'.os=s₁.os/\AllBare s'.gens) s₁:=by
  intro H hO hHP hS hok hA hK;have base_of:∀{b:Addr} {o:Obj},s₁.heap.get? b=some o->H b=none->(Gc s₁.heap H).get? b=some o:=λe n=>VQ e n;have noA:∀{b:Addr} {o:Obj} {es:Array DictEntry} {ep:Nat},s₁.heap.get? b=some o->o.data=.dict es ep->H b=none:=λ{b o es ep} e d=>by
   cases q:H b with
   |none=>rfl
   |some u=>
    rcases hA b (by rw[q];simp)with e'|e'
    .subst e';rw[ha]at e;cases e;have d':Data.seq vs.toArray _=Data.dict es ep:=d;cases d'
    .rw[hP b e']at e;cases e;cases d
  have nsK:∀{b:Addr} {m:Str->Option Value},s₁.heap.Ns b m->(Gc s₁.heap H).Ns b m:=λ{b m} ⟨o,es,ep,e,d,r⟩=>⟨o,es,ep,base_of e (noA e d),d,r⟩
  have hKb:K.In (Gc s₁.heap H):=λb o e=>base_of (KX b o e) (by
   cases q:H b with
   |none=>rfl
   |some u=>
    rcases hA b (by rw[q];simp)with e'|e'
    .subst e';rw[hK (by rw[q];simp)]at e;cases e
    .rw[hPK b e']at e;cases e)
  have hM:Mod K mg (Gc s₁.heap H):=⟨hKb,nsK hns,⟨mb,nsK hb,hbb⟩,let ⟨mc,h1,h2⟩:=hlim;⟨mc,nsK h1,h2⟩⟩
  have e0:Env0 Pg w K mg (Gc s₁.heap H) callerA [] s₁ H:=⟨rfl,hM,λb o e=>Yd e,Nat.le_of_eq (Ss _ _),trivial,λb hb=>absurd (show b∈([]:List Addr)from hb) 70,hok,.of_eq hg⟩
  have hsp:spF K 1 F [.ref a] H (λv _=>v=.bl true) λ_ _ _=>False:=by
   obtain⟨hd',e⟩:=hF;refine⟨rfl,[],[],[.ro ns],.im (.bl true),hd',⟨rfl,List.nodup_nil,λy hy=>?_,λn o a h=>by simp at h⟩,?_,e,λρ' H' v _ _ r=>?_⟩
   .rw[htab]at hy;obtain⟨t,ht,rfl⟩:=mem_map.mp hy;exact⟨#[],hHP t.1 (mem_map.mpr ⟨t,ht,rfl⟩),.inl rfl⟩
   .simp only[RDs,RD];refine⟨_,_,rfl,⟨a,rfl,dw hS λys z=>?_⟩,rfl⟩;rcases hO a haP with q|⟨o,ys,q⟩<;>(rw[q]at z;cases z)
   .simpa only[RD,RI]using r
  refine codeAny_mono ((Fn _ hKb (nsK hns) λb o n1 n2 e=>base_of e (by
   cases q:H b with
   |none=>rfl
   |some u=>
    rcases hA b (by rw[q];simp)with e'|e'
    .exact absurd e' n2
    .exact absurd e' n1)).run callerA [] s₁ H ⟨[.ref a],[]⟩ [.ref a] [.ref a] _ _ hr e0 (hbind s₁ (.ref a)) (.cons rfl .nil) hsp) λr s' h=>?_
  cases r with
  |error e=>exact h.elim
  |ok fl=>
   cases fl with
   |next=>exact False.elim h
   |brk=>exact False.elim h
   |cont=>exact False.elim h
   |ret u=>
    obtain⟨v,H',os,bare,un,hok',r',q⟩:=h;have q':v=.bl true:=q;subst q';obtain rfl:u=Value.bool true:=r';have keep:∀b o,b∉ts.map (·.1)->s₁.heap.get? b=some o->s'.heap.get? b=some o:=λb o nb e=>by
     cases q:H b with
     |none=>exact un.keep b o e q (by intro z;exact absurd (show b∈([]:List Addr)from z) 70) 70
     |some u=>
      rcases hO b nb with z|⟨ob,xs,z⟩
      .rw[q]at z;cases z
      .have z2:=un.frzs b ob _ z;obtain⟨e1,_⟩:=hok b _ z;obtain⟨e2,_⟩:=hok' b _ z2;rw[e]at e1;cases e1;exact e2
    refine⟨rfl,⟨λb o e=>?_,λb o e=>?_⟩,os,bare⟩
    .by_cases nb:b∈ts.map (·.1)
     .obtain⟨cc,tb⟩:=hT b nb;obtain⟨more,hm⟩:=un.tbls b #[] (hHP b nb);have hb':s'.heap.get? b=some (tabObj (#[]++more)):=hok' b _ hm;rw[hP b nb]at e;cases e;exact .inr (.inl ⟨tb.isCodeTable,rfl,#[],more,rfl,hb'⟩)
     .exact .inl (keep b o nb e)
    .by_cases nb:b∈ts.map (·.1)
     .obtain⟨more,hm⟩:=un.tbls b #[] (hHP b nb);exact⟨_,hok' b _ hm⟩
     .exact⟨o,keep b o nb e⟩
 cases hk:K.lookup a with
 |some o=>
  have e:=KX a o hk;rw[ha]at e;cases e;refine core (λb=>if b∈ts.map (·.1)then some (.tbl #[])else none) (λb nb=>.inl (ig nb)) (λP hp=>ic hp) (.inr ⟨_,vs.toArray,_,hk,rfl,rfl,rfl,by rw[iu,lenV];exact hl,by simpa using rv⟩) (λb u z=>?_) (λb z=>?_) λz=>absurd (ig haP) z
  .by_cases hb:b∈ts.map (·.1)
   .have z':=(ic hb).symm.trans z;cases z';exact hP b hb
   .have z':=(ig hb).symm.trans z;cases z'
  .by_cases hb:b∈ts.map (·.1)
   .exact .inr hb
   .exact absurd (ig hb) z
 |none=>
  refine core (λb=>if b∈ts.map (·.1)then some (.tbl #[])else if b=a then some (.frz { cls:=.type "list",data:=.seq vs.toArray } (.lst (ns.map V.int)))else none) (λb nb=>?_) (λP hp=>ic hp) (.inl (.inr ⟨{ cls:=.type "list",data:=.seq vs.toArray },(ig haP).trans (ic rfl)⟩)) (λb u z=>?_) (λb z=>?_) λ_=>hk
  .rw[ig nb];by_cases hb:b=a
   .exact .inr ⟨_,_,ic hb⟩
   .exact .inl (ig hb)
  .by_cases hp:b∈ts.map (·.1)
   .have z':=(ic hp).symm.trans z;cases z';exact hP b hp
   .have z:=(ig hp).symm.trans z;by_cases hb:b=a
    .have z':=(ic hb).symm.trans z;cases z';subst hb;exact⟨ha,by rw[iX];exact hl,vs,_,rv,ha⟩
    .have z':=(ig hb).symm.trans z;cases z'
  .by_cases hp:b∈ts.map (·.1)
   .exact .inr hp
   .by_cases hb:b=a
    .exact .inl hb
    .exact absurd ((ig hp).trans (ig hb)) z
def walkL{l:OpenLaw}{n k:Nat}{XP:(Str->Option Value)->Heap->Prop}{YP:World->Heap->Prop}{d:DefRec}{K:Params->Frag}{F:List D->Hd->Option (D×Hd)}(xs:List (Str×Str×Nat×Nat))
 (hn:l.most=some n) (hn2:n<=sizeLine) (hdf:d.params.defaults=[]) (hr:Room k callerA) (hdr:∀x∈xs,∃dr,(recsOf q).find? (λe=>e.name==x.1)=some dr)
 (hF:∀ns:List Int,∃hd',F [.ro ns] []=some (.im (.bl true),hd'))
 (hY:∀(w:World) (h:Heap),YP w h->(K w.params).In h)
 (G:∀(w:World) (mg:Str->Option Value) (fa:Addr) (h:Heap) (c P:Str->Addr),(K w.params).In h->h.Ns mainGlobals mg->mg d.name=some (.ref fa) ->
  (∀x∈xs,h.get? (P x.1)=some (tabObj #[])/\CodeHd h (c x.1) (P x.1)/\∃a o fd,mg x.1=some (.ref a)/\h.get? a=some o/\o.data=.func fd/\fd.code=.ref (c x.1)) ->
  (∃g,(K w.params).lookup mainGlobals=some g)/\∃fd:FuncData,(∀(s:Shared) (u:Value),BindsTo s fd ⟨[u],[]⟩ [("_law_script",u)])/\
   ∀base:Heap,(C3 (K w.params) (xs.map λx=>(P x.1,x.2))).In base->base.Ns mainGlobals mg->(∀x∈xs,CodeHd base (c x.1) (P x.1))->(∀x∈xs,base.BuiltinsAt mg (P x.1))->FnOk l.prog w (C3 (K w.params) (xs.map λx=>(P x.1,x.2))) mg base CX0 k fa fd ["_law_script"] (spF (C3 (K w.params) (xs.map λx=>(P x.1,x.2))) 1 F)):
 PySem.W.WalkO q loose XP YP l.row.toRowW d [] (λf vs=>PySem.call f vs):=by
 refine Att.attach_call hn hdf λw s₀ s₁ mg mb fa o pm cd doc a vs ns Gr Y ho hd hcd hmg hobj hints hlen hg=>?_;have KX:=hY w _ Y;have each:∀x:Str,∃cp:Addr×Addr,(∃y∈xs,y.1=x)->(∃cc,s₁.heap.TableAt cc cp.2 #[])/\CodeHd s₁.heap cp.1 cp.2/\∃a o fd,mg x=some (.ref a)/\s₁.heap.get? a=some o/\o.data=.func fd/\fd.code=.ref cp.1:=by
  intro x;by_cases hx:∃y∈xs,y.1=x
  .obtain⟨y,hy,rfl⟩:=hx;obtain⟨dr,hdr⟩:=hdr y hy;have hnm:dr.name=y.1:=beq_iff_eq.mp (List.find?_some (p:=λe:DefRec=>e.name==y.1) hdr);obtain⟨a',o',fd',c,P,h1,h2,h3,h4,h5,h6⟩:=Gr.T.tab dr (List.mem_of_find?_eq_some hdr);rw[hnm]at h1;exact⟨(c,P),λ_=>⟨⟨_,h6⟩,CodeHd.of h5 h6,a',o',fd',h1,h2,h3,h4⟩⟩
  .exact⟨(0,0),λh=>absurd h hx⟩
 obtain⟨cp,hcp⟩:=Classical.skolem.mp each;have hcp:∀x∈xs,(∃cc,s₁.heap.TableAt cc (cp x.1).2 #[])/\CodeHd s₁.heap (cp x.1).1 (cp x.1).2/\∃a o fd,mg x.1=some (.ref a)/\s₁.heap.get? a=some o/\o.data=.func fd/\fd.code=.ref (cp x.1).1:=λx hx=>hcp x.1 ⟨x,hx,rfl⟩;have hts:∀P∈(xs.map λx=>((cp x.1).2,x.2)).map (·.1),∃x∈xs,P=(cp x.1).2:=λP hP=>by
  obtain⟨t,ht,rfl⟩:=mem_map.mp hP;obtain⟨x,hx,rfl⟩:=mem_map.mp ht;exact⟨x,hx,rfl⟩
 have hP:∀x∈xs,s₁.heap.get? (cp x.1).2=some (tabObj #[]):=λx hx=>by
  obtain⟨⟨cc,t⟩,_⟩:=hcp x hx;exact t.2
 have hmP:mainGlobals∉(xs.map λx=>((cp x.1).2,x.2)).map (·.1):=λz=>by
  obtain⟨x,hx,ez⟩:=hts _ z;obtain⟨o,es,ep,e,dd,_⟩:=Gr.T.g;rw[ez,hP x hx]at e;cases e;cases dd
 obtain⟨⟨g,hgl⟩,fd,hb,hFn⟩:=G w mg fa _ (λx=>(cp x).1) (λx=>(cp x).2) KX Gr.T.g hmg λx hx=>⟨hP x hx,(hcp x hx).2⟩
 refine Sn (ts:=xs.map λx=>((cp x.1).2,x.2)) (K:=C3 (K w.params) (xs.map λx=>((cp x.1).2,x.2))) (Yk KX hgl hmP) Gr.T.g Gr.T.b Gr.T.builtins Gr.T.nolimit hg hobj hints (jo hlen hn2) hr (λP hp=>by obtain⟨x,hx,rfl⟩:=hts P hp;exact(hcp x hx).1) (λP hp=>Yj hmP hp) (RV _ _) (λbase kb nb keep=>hFn base kb nb (λx hx=>?_) λx hx=>?_) hb (hF ns)
 .obtain⟨oc,vs',file,tf,flags,tg,inF,text,tt,e1,r1,r2,r3,r4,r5,r6,r7,r8,hne⟩:=(hcp x hx).2.1;have hn:(cp x.1).1∉(xs.map λx=>((cp x.1).2,x.2)).map (·.1):=λz=>by
   obtain⟨y,hy,ez⟩:=hts _ z;rw[ez,hP y hy]at e1;cases e1;cases r1
  exact⟨oc,vs',file,tf,flags,tg,inF,text,tt,keep (cp x.1).1 oc hn (λz=>by rw[z,hobj]at e1;cases e1;exact absurd (show Value.type "list"=Value.type "code" from r1) 80) e1,r1,r2,r3,r4,r5,r6,r7,r8,hne⟩
 .obtain⟨bm,ob,b1,b2,b3,b4,b5,b6⟩:=Gr.T.bmain;have nP:∀y∈xs,bm≠(cp y.1).2:=λy hy z=>by rw[z,hP y hy]at b3;cases b3;cases b4
  have hn:bm∉(xs.map λx=>((cp x.1).2,x.2)).map (·.1):=λz=>by
   obtain⟨y,hy,ez⟩:=hts _ z;exact nP y hy ez
  refine⟨bm,ob,b1,b2,λz=>?_,nP x hx,keep bm ob hn (λz=>by rw[z,hobj]at b3;cases b3;exact absurd (show Value.type "list"=Value.type "module" from b4) 80) b3,b4,b5,b6⟩;obtain⟨o,es,ep,e,dd,_⟩:=Gr.T.g;rw[<- z,b3]at e;cases e;rw[b6]at dd;cases dd
end L2
namespace L2
open PySem PySem.W PyProof.Rows
noncomputable abbrev FD:=List D->Hd->Option (D×Hd)
structure EnK where
 P:Program
 w:World
 K:Frag
 mg:Str->Option Value
 base:Heap
structure Df where
 x:Str
 st:Stmt
 ps:List Str
 k:Nat
 F:FD
def Dn(E:EnK)(e:Df):Prop:=∃f fd,DefAt E.K E.mg e.x e.st f fd e.ps
def Kn(E:EnK)(e:Df):Prop:=∃f fd,DefAt E.K E.mg e.x e.st f fd e.ps/\FnOk E.P E.w E.K E.mg E.base CX0 e.k f fd e.ps (spF E.K e.ps.length e.F)/\∀ds hd z,e.F ds hd=some z->82=e.ps.length
def okK{st:Stmt}{j k:Nat}(D:Dn E ⟨x,st,ps,k,F⟩)(S:FnScope N ps (AC st))(hF:F=mkF ps.length N.length m)(hk:k=j+1)
 (h:∀(f:Addr) (cdv:Value) (A:Around) (outer:List Env) (s:Shared) (H:Hp) (Ek:XK),Room j (A.deeper (envOfC x (AC st) 67 f cdv))->∃t,QSs E.K (Ho CX0 E.P E.w E.K E.mg E.base N x (AC st) f cdv A outer s H Ek).nox (C8 st) t m):Kn E ⟨x,st,ps,k,F⟩:=by
 obtain⟨f,fd,D⟩:=D;subst hF;subst hk;exact⟨f,fd,D,Yc D S (h f),Yg⟩
def ok0{st:Stmt}{k k':Nat}(D:Dn E ⟨x,st,ps,k',F⟩):Kn E ⟨x,st,ps,k,λ_ _=>none⟩:=by
 obtain⟨f,fd,D⟩:=D;refine⟨f,fd,D,⟨λvs H Q E h=>h.1,λA outer s H args us vs Q E hr e0 hb hv h=>?_⟩,λ_ _ _ h=>nomatch h⟩;obtain⟨_,_,_,_,_,_,_,_,e,_⟩:=h;cases e
section
variable{K:Frag}{X:Cx}{j k:Nat}{st:Stmt}
def qcW(w:Nat)(G:Kn ⟨X.prog,X.w,X.K,X.mg,X.base⟩ ⟨x,st,ps,j,F⟩)(hr:Room k X.A)(ha:QA K X (e::es) t m)
 (hjk:j<=k:=by first|decide|omega) (hg:Gl X x:=by rfl) (hdb:(x==("__debug__":Str))=false:=by decide) (he:starEach (e::es) X.env=(false,eval e X.env)::starEach es X.env:=by rfl) (hpl:(backTo pos (starEach es X.env)).any (·.1)=false:=by rfl) (hK:X.K=K:=by rfl):
 QE K X (.Call (.Name x p) (e::es) [] pos) (DW (spF K ps.length F) [] E0 t) (A8 w F m):=by
 subst hK;obtain⟨f,fd,D,G,l⟩:=G;exact Up _ w G hr D ha l hjk hg hdb he hpl
def qcG(G:Kn ⟨X.prog,X.w,X.K,X.mg,X.base⟩ ⟨x,st,ps,j,F⟩)(hr:Room k X.A)(ha:QA K X (e::es) t m)
 (hjk:j<=k:=by first|decide|omega) (hg:Gl X x:=by rfl) (hdb:(x==("__debug__":Str))=false:=by decide) (he:starEach (e::es) X.env=(false,eval e X.env)::starEach es X.env:=by rfl) (hpl:(backTo pos (starEach es X.env)).any (·.1)=false:=by rfl) (hK:X.K=K:=by rfl):
 QE K X (.Call (.Name x p) (e::es) [] pos) (DW (spF K ps.length F) [] E0 t) (Cb F m):=by
 subst hK;obtain⟨f,fd,D,G,l⟩:=G;exact Ur _ G hr D ha l hjk hg hdb he hpl
def qcS(G:Kn ⟨X.prog,X.w,X.K,X.mg,X.base⟩ ⟨x,st,ps,j,F⟩)(hr:Room k X.A)(ha:QA K X (e::es) t m)
 (hjk:j<=k:=by first|decide|omega) (hg:Gl X x:=by rfl) (hdb:(x==("__debug__":Str))=false:=by decide) (he:starEach (e::es) X.env=(false,eval e X.env)::starEach es X.env:=by rfl) (hpl:(backTo pos (starEach es X.env)).any (·.1)=false:=by rfl) (hK:X.K=K:=by rfl):
 QE K X (.Call (.Name x p) (e::es) [] pos) (DW (spF K ps.length F) [] E0 t) (D8 F m):=by
 subst hK;obtain⟨f,fd,D,G,l⟩:=G;exact Uq _ G hr D ha l hjk hg hdb he hpl
end
def FnAt(K:Frag)(n:Str)(s:Stmt)(f:Addr)(cd:Value):Prop:=∃oc kV dc pm ct od an sl,PySem.W.nsIn K mainGlobals n=some (some (.ref f))/\K.lookup f=some ⟨oc,od,.func (fnOf n n (Cy s) (C8 s) (AC s) .none kV dc pm an cd ct),sl⟩/\codeIn K cd n=true/\keepIn K (.ref f)=true
def Fe(K:Frag)(e:Df):Prop:=∃f cd,FnAt K e.x e.st f cd
noncomputable abbrev Xs:=List (Str×Str×Nat×Nat)
def HX(xs:Xs)(mg:Str->Option Value)(h:Heap)(c P:Str->Addr):Prop:=∀x∈xs,h.get? (P x.1)=some (tabObj #[])/\CodeHd h (c x.1) (P x.1)/\∃a o fd,mg x.1=some (.ref a)/\h.get? a=some o/\o.data=.func fd/\fd.code=.ref (c x.1)
noncomputable abbrev tbs(xs:Xs)(P:Str->Addr):List Tb:=xs.map λx=>(P x.1,x.2)
abbrev enM(l:OpenLaw)(w:World)(K:Frag)(xs:Xs)(P:Str->Addr)(mg:Str->Option Value)(base:Heap):EnK:=⟨l.prog,w,C3 K (tbs xs P),mg,base⟩
def Bd(e:Df):Prop:=∀(kV doc pm:Value) (an:Option Addr) (cdv ct:Value) (us:List Value),us.length=e.ps.length->bindArgs (fnOf e.x e.x (Cy e.st) (C8 e.st) (AC e.st) .none kV doc pm an cdv ct) ⟨us,[]⟩=pure (e.ps.zip us)
section
variable{K:Frag}{mg:Str->Option Value}{c P:Str->Addr}(X:K.In h)(G:h.Ns mainGlobals mg)(hx:HX xs mg h c P)
include hx in
theorem fh:∀P'∈(tbs xs P).map (·.1),h.get? P'=some (tabObj #[]):=λP' hp=>by
 obtain⟨t,ht,rfl⟩:=mem_map.mp hp;obtain⟨x,hxx,rfl⟩:=mem_map.mp ht;exact(hx x hxx).1
include X G hx in
theorem FnAt.def{e:Df}(H:FnAt K e.x e.st f cd)(b:Bd e):∃fd,DefAt (C3 K (tbs xs P)) mg e.x e.st f fd e.ps/\fd.code=cd:=by
 obtain⟨oc,kV,dc,pm,ct,od,an,sl,a,l,cc,k⟩:=H;have F:=Fun.mark (ts:=tbs xs P) (ck (st:=e.st) l cc k) X (fh hx);exact⟨_,⟨F,PySem.W.mg_of X G a,F.binds b⟩,rfl⟩
include X G hx in
theorem Fe.dn(H:Fe K e)(b:Bd e)(l:OpenLaw)(w:World)(base:Heap):Dn (enM l w K xs P mg base) e:=by
 obtain⟨f,cd,H⟩:=H;obtain⟨fd,D,_⟩:=H.def X G hx b;exact⟨f,fd,D⟩
include X G hx in
include X G hx in
end
def Zs(K:Frag):Prop:=∀n∈(["list","tuple","len","range","repr","sum","min","max","abs","all","any","sorted","zip","isinstance","int","bool","str","set","enumerate","reversed","dict"]:List Str),PySem.W.nsIn K mainGlobals n=some none
def Zs.blt{K:Frag}(Z:Zs K){mg:Str->Option Value}(X:K.In h)(G:h.Ns mainGlobals mg):BltA mg:=by
 constructor<;>exact PySem.W.mg_none_of X G (Z _ 70)
def bd1{e:Df}(hl:e.ps.length=1:=by rfl)(h:∀(kV doc pm:Value) (an:Option Addr) (cdv ct:Value) a,bindArgs (fnOf e.x e.x (Cy e.st) (C8 e.st) (AC e.st) .none kV doc pm an cdv ct) ⟨[a],[]⟩=pure (e.ps.zip [a]):=by intros;rfl):Bd e:=by
 intro _ _ _ _ _ _ us hu;rcases us with _|⟨_,_|⟨_,_⟩⟩<;>first|exact h .. | cases hu.trans hl
def bd2{e:Df}(hl:e.ps.length=2:=by rfl)(h:∀(kV doc pm:Value) (an:Option Addr) (cdv ct:Value) a b,bindArgs (fnOf e.x e.x (Cy e.st) (C8 e.st) (AC e.st) .none kV doc pm an cdv ct) ⟨[a,b],[]⟩=pure (e.ps.zip [a,b]):=by intros;rfl):Bd e:=by
 intro _ _ _ _ _ _ us hu;rcases us with _|⟨_,_|⟨_,_|⟨_,_⟩⟩⟩<;>first|exact h .. | cases hu.trans hl
def bd3{e:Df}(hl:e.ps.length=3:=by rfl)(h:∀(kV doc pm:Value) (an:Option Addr) (cdv ct:Value) a b c,bindArgs (fnOf e.x e.x (Cy e.st) (C8 e.st) (AC e.st) .none kV doc pm an cdv ct) ⟨[a,b,c],[]⟩=pure (e.ps.zip [a,b,c]):=by intros;rfl):Bd e:=by
 intro _ _ _ _ _ _ us hu;rcases us with _|⟨_,_|⟨_,_|⟨_,_|⟨_,_⟩⟩⟩⟩<;>first|exact h .. | cases hu.trans hl
def Ar{ps:List Str}{sc:Scope}(h:(decide (sc.kind=.function)&&!sc.isCoroutine&&!sc.isGenerator&&ndB N&&(N.take ps.length==ps)&&(ps.all λx=>sc.names.lookup x==some .local||sc.names.lookup x==some .cell)&&sc.names.all λy=>y.2 != .free)=true):FnScope N ps sc:=by
 simp only[Bool.and_eq_true,all_eq_true,Bool.or_eq_true,beq_iff_eq,jX,Bool.not_eq_true',bne_iff_ne]at h;obtain⟨⟨⟨⟨⟨⟨h1,h2⟩,h3⟩,h4⟩,h5⟩,h6⟩,h7⟩:=h;exact⟨h1,h2,h3,Cn h4,h5,h6,h7⟩
abbrev HG(l:OpenLaw)(w:World)(K:Frag)(xs:Xs)(mg:Str->Option Value)(c P:Str->Addr)(fa:Addr)(e:Df):Prop:=(∃g,K.lookup mainGlobals=some g)/\∃fd:FuncData,(∀(s:Shared) (v:Value),BindsTo s fd ⟨[v],[]⟩ [("_law_script",v)])/\∀base:Heap,(C3 K (tbs xs P)).In base->base.Ns mainGlobals mg->(∀x∈xs,CodeHd base (c x.1) (P x.1))->(∀x∈xs,base.BuiltinsAt mg (P x.1))->FnOk l.prog w (C3 K (tbs xs P)) mg base CX0 e.k fa fd ["_law_script"] (spF (C3 K (tbs xs P)) 1 e.F)
def VR{K:Frag}{mg:Str->Option Value}{c P:Str->Addr}{e:Df}(X:K.In h)(G:h.Ns mainGlobals mg)(hfa:mg e.x=some (.ref fa))(hx:HX xs mg h c P)(H:Fe K e)(b:Bd e)(hps:e.ps=(["_law_script"]:List Str))
 (ok:∀base:Heap,(∀x∈xs,CodeHd base (c x.1) (P x.1))->(∀x∈xs,base.BuiltinsAt mg (P x.1))->Kn (enM l w K xs P mg base) e):
 HG l w K xs mg c P fa e:=by
 obtain⟨f,cd,H⟩:=H;obtain⟨fd,D,_⟩:=H.def X G hx b;obtain⟨oc,kV,dc,pm,ct,od,an,sl,a,lk,cc,k⟩:=H;have hg:∃g,K.lookup mainGlobals=some g:=by
  cases e:K.lookup mainGlobals with
  |some g=>exact⟨g,rfl⟩
  |none=>unfold PySem.W.nsIn at a;rw[e]at a;cases a
 have e1:=hfa.symm.trans D.mg;cases e1;refine⟨hg,fd,λs v=>?_,λbase _ _ hd bl=>?_⟩
 .obtain⟨⟨oc',od',kV',dc',pm',an',cd',ct',sl',rfl,_,_⟩,_⟩:=D.fn;have:=b kV' dc' pm' an' cd' ct' [v] (by rw[hps];rfl);rw[hps]at this;exact .of_eq this
 .obtain⟨f',fd',D',F',_⟩:=ok base hd bl;have e2:=D.mg.symm.trans D'.mg;cases e2;obtain⟨⟨oc',od',kV',dc',pm',an',cd',ct',sl',h1,h2,_⟩,_⟩:=D.fn;obtain⟨⟨oc2,od2,kV2,dc2,pm2,an2,cd2,ct2,sl2,h3,h4,_⟩,_⟩:=D'.fn;have e3:=h2.symm.trans h4;cases e3;rw[hps]at F';exact F'
end L2
namespace L2
open PySem PySem.Spec PyProof.Rows
noncomputable def JK{α:Type}:List (Option α)->Option (List α)
 |[]=>some []
 |some x::r=>(JK r).map (x::·)
 |none::_=>none
def pyN:Nat->Hd->D->Option PyData
 |_,_,.im i=>some i.py
 |_,_,.ro ns=>some (.list (I.pys (ns.map I.int)))
 |0,_,_=>none
 |n+1,hd,.tm ds=>(JK (ds.map (pyN n hd))).map .tuple
 |n+1,hd,.mu k=>match hd[k]? with
  |some (.lst ds)=>(JK (ds.map (pyN n hd))).map .list
  |_=>none
 |_+1,_,.op _ _ _=>none
 |_+1,_,.fv _ _=>none
section
variable{K:Frag}
theorem JJ{f:D->Option PyData}(hf:∀d v p,RD K ρ H d v->f d=some p->Rep K H p v):∀{ds:List D} {xs:List V} {ps:List PyData},RDs K ρ H ds xs->JK (ds.map f)=some ps->Bz K H ps xs
 |[],xs,ps,r,e=>by
  simp only[RDs]at r;subst r;simp[JK]at e;subst e;simp only[Bz]
 |d::ds,xs,ps,r,e=>by
  simp only[RDs]at r;obtain⟨x,r',rfl,h1,h2⟩:=r;rw[iw]at e;cases q:f d with
  |none=>rw[q]at e;cases e
  |some p=>
   rw[q]at e;obtain⟨ps',e1,rfl⟩:=iS (show(JK (ds.map f)).map (p::·)=some ps from e);simp only[Bz];exact⟨x,r',rfl,hf d x p h1 q,JJ hf h2 e1⟩
theorem Hy(hR:RH K ρ H hd):∀(n:Nat) (d:D) (v:V) (p:PyData),RD K ρ H d v->pyN n hd d=some p->Rep K H p v
 |n,.im i,v,p,h,e=>Dz (hd:=hd) hR h (by cases n<;>exact e)
 |n,.ro ns,v,p,h,e=>Dz (hd:=hd) hR h (by cases n<;>exact e)
 |0,.tm ds,v,p,h,e=>by cases e
 |0,.mu k,v,p,h,e=>by cases e
 |0,.op _ _ _,v,p,h,e=>by cases e
 |n+1,.op _ _ _,v,p,h,e=>by cases e
 |0,.fv _ _,v,p,h,e=>by cases e
 |n+1,.fv _ _,v,p,h,e=>by cases e
 |n+1,.tm ds,v,p,h,e=>by
  simp only[RD]at h;obtain⟨a,xs,rfl,q,r⟩:=h;obtain⟨ps,e1,rfl⟩:=iS (show(JK (ds.map (pyN n hd))).map PyData.tuple=some p from e);simp only[Rep];exact⟨a,xs,rfl,q,JJ (λd v p=>Hy hR n d v p) r e1⟩
 |n+1,.mu k,v,p,h,e=>by
  simp only[pyN]at e;simp only[RD]at h;obtain⟨a,hn,rfl⟩:=h;split at e
  .next ds q=>
   obtain⟨ps,e1,rfl⟩:=iS e;obtain⟨xs,e2,e3⟩:=hR.lst hn q;simp only[Rep];exact⟨a,xs,rfl,SqL.of e2,JJ (λd v p=>Hy hR n d v p) e3 e1⟩
  .cases e
end
noncomputable def FQ(neg:Bool):D->D->Hd->Option (D×Hd):=λd e hd=>match pyN 30 hd d,pyN 30 hd e with
 |some x,some y=>if x.canLay0=true/\y.canLay0=true/\min x.depth y.depth<=60 then some (.im (.bl (if neg then !PyData.eqv x y else PyData.eqv x y)),hd)else none
 |_,_=>none
def aF{K:Frag}:RB K (Ps K) (FQ true):=by
 intro ρ H hd d e v u Q z hd' hR h1 h2 hf hQ;unfold FQ at hf;split at hf
 .next e1 e2=>
  split at hf
  .next c=>cases hf;exact⟨_,_,Hy hR _ _ _ _ h1 e1,Hy hR _ _ _ _ h2 e2,c.1,c.2.1,c.2.2,hQ ρ H _ .refl hR (by simp[RD,RI])⟩
  .cases hf
 .cases hf
section
variable{QE:D->Hd->Prop}
def Qu{neg:Bool}(h1:pyN 30 hd d=some x)(h2:pyN 30 hd e=some y)(c:x.canLay0=true/\y.canLay0=true/\min x.depth y.depth<=60)(q:QE (.im (.bl (if neg then !PyData.eqv x y else PyData.eqv x y))) hd):WP (FQ neg d e hd) QE:=⟨_,_,by unfold FQ;rw[h1,h2];dsimp only;rw[ic c],q⟩
end
def G8(i j:Int):Prop:=i.natAbs.log2<100000/\j.natAbs.log2<100000
def P8{i:Int}(h:i.natAbs.log2<100000):Builtin.Int.intBits i<=2^20:=by
 have e:(2:Nat)^20=1048576:=by decide
 unfold Builtin.Int.intBits;split<;>omega
def F5(j:Int):Prop:=0<j/\j.natAbs.log2<9000
def VA:OpR X (binaryOp .FloorDiv) (rI (λ_ j=>F5 j) λi j=>.int (i/j)):=opI λi j _ _ _ _ _ hc q=>by
 have h1:(0:Int)<j:=hc.1;exact floordiv_int 66 (by rw[Int.fdiv_eq_ediv_of_nonneg i 66];exact q) (.inl (PyProof.noPylong_of_log2 hc.2))
open Classical in
noncomputable abbrev ET:D->D->Hd->Option (D×Hd):=fI λi j=>if F5 j then some (.int (i/j))else none
def UY{K:Frag}:RB K (rI (λ_ j=>F5 j) λi j=>.int (i/j)) ET:=Mf λi j z h=>by
 split at h
 .next q=>cases h;exact⟨q,λ_=>by simp[RI]⟩
 .cases h
def Ik{i j:Int}{QE:D->Hd->Prop}(c:F5 j)(q:QE (.im (.int (i/j))) hd):WP (ET (.im (.int i)) (.im (.int j)) hd) QE:=⟨_,_,by simp[c],q⟩
section
noncomputable def ipC(c:Int->Int->Prop)(f:Int->Int->Int):TIp:=λx y H Q=>∃i j,x=.int i/\y=.int j/\c i j/\Q (.int (f i j)) H
def cg:PIp X .Mult (ipC G8 λi j=>i*j):=by
 intro pins s σ H x y v u Q I r1 r2 h;obtain⟨i,j,e1,e2,c,q⟩:=h;subst e1;subst e2;obtain⟨t,rfl⟩:=r1;obtain⟨t',rfl⟩:=r2;exact imul_int ⟨.int _,H,I.tok _,⟨_,rfl⟩,q⟩ (IntMulOk.of_bits (P8 c.1) (P8 c.2))
end
section
variable{K:Frag}
open Classical in
noncomputable def GY(i:Nat)(m:ME):MS:=λls hd=>match ls[i]? with
 |some (some (.im (.int x)))=>(m ls hd).bind λp=>match p.1 with
  |.im (.int y)=>if G8 x y then some (.nx (ls.set i (some (.im (.int (x*y))))),p.2)else none
  |_=>none
 |_=>none
def XC{i:Nat}(h:RE K t m):RS K (HE i t (ipC G8 λi j=>i*j)) (GY i m):=by
 intro ρ σ H hd0 ls E f hd' hR hL hm hQ;unfold GY at hm;split at hm
 .next x e0=>
  obtain⟨⟨d1,h1⟩,e1,hm⟩:=gV hm;dsimp only at hm;split at hm
  .split at hm
   .next c=>
    cases hm;obtain⟨v,v1,v2⟩:=hL.ob i _ e0;simp only[RD,RI]at v2;subst v2;refine⟨_,v1,h ρ σ H hd0 ls _ _ _ hR hL e1 λρ1 H1 w x1 R1 r1=>?_⟩;simp only[RD,RI]at r1;subst r1;exact⟨_,_,rfl,rfl,c,hQ ρ1 H1 x1 R1 _ ((hL.ext hR x1).set i (by simp[RD,RI]))⟩
   .cases hm
  .cases hm
 .cases hm
def Xp{i:Nat}{pos pos':Pos}(he:QE K X e te me)(hN:ndB X.N=true:=by kernel_rfl)(hi:X.N[i]?=some x:=by rfl)(hx:Loc X.env.scope x:=by first|exact Or.inl rfl|exact Or.inr rfl)(hf:X.fn x=true∨X.env.scope.names.lookup x=some .local:=by first|exact .inl rfl|exact .inr rfl|assumption):
 QS K X (.AugAssign (.Name x pos') .Mult e pos) (HE i te (ipC G8 λi j=>i*j)) (GY i me):=⟨Mo (Cn hN) hi hx he.p cg hf,XC he.r⟩
def Wh{i:Nat}{x:Int}{Q:Fl->Hd->Prop}(e:ls[i]?=some (some (.im (.int x))))(h:WE m ls hd λd y=>∃k,d=.im (.int k)/\G8 x k/\Q (.nx (ls.set i (some (.im (.int (x*k)))))) y):WS (GY i m) ls hd Q:=by
 obtain⟨d,y,e1,k,rfl,c,q⟩:=h;exact⟨_,_,by simp only[GY,e,e1,ik];rw[ic c],q⟩
end
end L2
namespace Bd
open PySem L2
inductive Rc(ps:84):Int->Int->Prop
 |one {x y:Int}:(x,y)∈ps->Rc ps x y
 |step {x y z:Int}:Rc ps x y->(y,z)∈ps->Rc ps x z
theorem Kv:∀{l m:List Int},l.Nodup->(∀x∈l,x∈m)->l.length<=m.length
 |[],m,_,_=>by simp
 |x::r,m,nd,h=>by
  obtain⟨n1,n2⟩:=nodup_cons.mp nd;have hx:=h x jg;have:=Kv (l:=r) (m:=m.erase x) n2 λy hy=>(List.mem_erase_of_ne (λe=>n1 (by rw[<- e];exact hy))).mpr (h y (j4 _ hy));rw[List.length_erase_of_mem hx]at this;have:=List.length_pos_of_mem hx;simp only[j6];omega
structure Found(ps:84)(a:Int)(found fresh:List Int):Prop where
 nd:found.Nodup
 rc:∀x∈found,Rc ps a x
 fr:∀x∈fresh,x=a∨x∈found
 cl:∀x,(x=a∨x∈found)->x∈fresh∨∀y,(x,y)∈ps->y∈found
def Rc.snd{x y:Int}(h:Rc ps x y):y∈ps.map (·.2):=by
 cases h with
 |one h=>exact mem_map.mpr ⟨_,h,rfl⟩
 |step _ h=>exact mem_map.mpr ⟨_,h,rfl⟩
def Found.len{a:Int}{fresh:List Int}(h:Found ps a found fresh):found.length<=ps.length:=by
 have:=Kv h.nd λx hx=>(h.rc x hx).snd;simpa using this
def Found.iff{a:Int}(h:Found ps a found [])(x:Int):x∈found↔Rc ps a x:=by
 refine⟨h.rc x,λr=>?_⟩
 induction r with
 |one e=>exact(h.cl a (.inl rfl)).elim (λz=>by cases z) λz=>z _ e
 |step _ e ih=>exact(h.cl _ (.inr ih)).elim (λz=>by cases z) λz=>z _ e
def VS(P:D)(hd:Hd)(g:Gd)(G:GOk hd g)(ps:84)(hp:ps.length<=500)(a:Int)
 (hP:∀(z1 z2 z3 z4 z5 z6:Option D) (r:Hd),D4 (A0 0) [some P,z1,z2,z3,z4,z5,z6] (hd++r)=some ((ps.map Ae,g),hd++r)):∀(N:Nat) (found fresh:List Int) (z4 z5 z6:Option D),fresh.length+(ps.length-found.length)<=N->fresh.length<=1+found.length->Found ps a found fresh->∃(k:Nat) (found':List Int) (y4 y5 y6:Option D),
 BA (BH (A0 3)) NC k [some P,some (.im (.int a)),some (.mu hd.length),some (.mu (hd.length+1)),z4,z5,z6] (hd++[.lst (intD found),.lst (intD fresh)]) =
  some (.nx [some P,some (.im (.int a)),some (.mu hd.length),some (.mu (hd.length+1)),y4,y5,y6],hd++[.lst (intD found'),.lst []])/\Found ps a found' []:=by
 intro N
 induction N with
 |zero=>
  intro found fresh z4 z5 z6 hN _ F;have:fresh=[]:=List.length_eq_zero_iff.mp 66;subst this;refine⟨1,found,z4,z5,z6,?_,F⟩;simp only[BA,Jw,Di,List.getElem?_cons_zero,List.getElem?_cons_succ,ik,Ck,g1,jt,List.isEmpty_nil,Bool.not_true,iY,Bool.false_eq_true,jy]
 |succ N ih=>
  intro found fresh z4 z5 z6 hN hfr F;rcases List.eq_nil_or_concat fresh with rfl|⟨fr,x,rfl⟩
  .refine⟨1,found,z4,z5,z6,?_,F⟩;simp only[BA,Jw,Di,List.getElem?_cons_zero,List.getElem?_cons_succ,ik,Ck,g1,jt,List.isEmpty_nil,Bool.not_true,iY,Bool.false_eq_true,jy]
  .rw[List.concat_eq_append]at *;have fl:=F.len;simp only[iV,j6,jN]at hN hfr;obtain⟨new,y5,y6,q,l,nd,frh,al⟩:=HJ P hd g G a x ps found fr z5 z6 66 66;have F2:Found ps a (found++new) (fr++new):=by
    have rx:∀y∈new,Rc ps a y:=λy hy=>by
     rcases F.fr x 70 with rfl|h
     .exact .one (frh y hy).2
     .exact .step (F.rc x h) (frh y hy).2
    refine⟨nodup_append.mpr ⟨F.nd,nd,λu hu w hw e=>(frh w hw).1 (e ▸ hu)⟩,λy hy=>?_,λy hy=>?_,λw hw=>?_⟩
    .rcases mem_append.mp hy with h|h
     .exact F.rc y h
     .exact rx y h
    .rcases mem_append.mp hy with h|h
     .rcases F.fr y (by simp[h])with h|h
      .exact .inl h
      .exact .inr (jK _ h)
     .exact .inr (j7 _ h)
    .by_cases hn:w∈new
     .exact .inl (j7 _ hn)
     .have hw':w=a∨w∈found:=by
       rcases hw with h|h
       .exact .inl h
       .rcases mem_append.mp h with h|h
        .exact .inr h
        .exact absurd h hn
      rcases F.cl w hw' with h|h
      .rcases mem_append.mp h with h|h
       .exact .inl (jK _ h)
       .have:w=x:=by simpa using h
        subst this;exact .inr al
      .exact .inr λy hy=>jK _ (h y hy)
   have fl2:=F2.len;simp only[iV]at fl2;obtain⟨k,found',y4,w5,w6,e,F3⟩:=ih (found++new) (fr++new) (some (.im (.int x))) y5 y6 (by simp only[iV];omega) (by simp only[iV];omega) F2;refine⟨k+1,found',y4,w5,w6,?_,F3⟩;have pop:Hj (.mu (hd.length+1)) [] (hd++[.lst (intD found),.lst (intD (fr++[x]))])=some (.im (.int x),hd++[.lst (intD found),.lst (intD fr)]):=by
    simp only[Hj,g1,jl,iw,jt,iV,j6,jN,iX];simp
   have ne:(intD (fr++[x])).isEmpty=false:=by simp
   unfold BA;simp only[Jw,Di,List.getElem?_cons_zero,List.getElem?_cons_succ,ik,Ck,g1,ne,Bool.not_false,iY,iU,NC,Jx,Jy,Qb,Ln,NE,pop,Kb,set_cons_succ,set_cons_zero,d9,hP,q,e]
def Po(P:D)(hd:Hd)(g:Gd)(G:GOk hd g)(ps:84)(hp:ps.length<64)(a:Int)
 (hP:∀(z1 z2 z3 z4 z5 z6:Option D) (r:Hd),D4 (A0 0) [some P,z1,z2,z3,z4,z5,z6] (hd++r)=some ((ps.map Ae,g),hd++r)):∃(found:List Int) (r:Hd),F_reached [P,.im (.int a)] hd=some (.im (.tup ((B3 found).map I.int)),hd++r)/\found.Nodup/\(∀x,x∈found↔Rc ps a x)/\found.length<=ps.length:=by
 obtain⟨k,found,y4,y5,y6,e,F⟩:=VS P hd g G ps 66 a hP (1+ps.length) [] [a] none none none 70 70 ⟨.nil,(λx h=>by cases h),(λx h=>Or.inl (by simpa using h)),(λx h=>Or.inl (by simpa using h))⟩;have e:=Kz e;have fl:=F.len;refine⟨found,[.lst (intD found),.lst []],?_,F.nd,F.iff,fl⟩;have mk:AT ((B3 found).map λi=>D.im (.int i))=.im (.tup ((B3 found).map I.int)):=by
  have:((B3 found).map λi=>D.im (.int i))=((B3 found).map I.int).map D.im:=by rw[iZ];rfl
  rw[this,BL]
 simp only[jt,iw]at e;have lt:found.length<64:=by omega
 simp only[F_reached,mkF,HR,Jx,Jy,cx,cz,Ot,NE,Di,iw,jt,j6,jN,j9,jQ,List.replicate,Nat.reduceAdd,Nat.reduceSub,iU,List.getElem?_cons_zero,List.getElem?_cons_succ,ik,Cc,EU,Kb,iY,set_cons_succ,set_cons_zero,iV,jL,e,T5,T6,T4,NF,g0,ES,lt,Bb,mk]
end Bd
namespace Rw
open PySem L2 Bd
@[reducible] noncomputable def HR:MS:=(A9 (AF 2 (Ag (Ba A4)))
 (A9 (AF 3 (Ag (Ba (A2 (A0 1) A4))))
 (A9 (Co (BH (A0 3))
  (A9 (AF 4 (mMt Hj (A0 3) A4))
 (Bo (D4 (A0 0)) (BB 2 (AJ (AB 5) (AJ (AB 6) BG)))
  (Ax (DO (AG (mOp gEq (A0 5) (A0 4))) (AG (mOp (gIn true) (A0 6) (A0 2))))
  (A9 (BF (mMt Au (A0 2) (A2 (A0 6) A4)))
 (BF (mMt Au (A0 3) (A2 (A0 6) A4))))
  Ah))))
 (AR (BM Bb (Bv (BR (A0 2))))))))
noncomputable def F_reached:List D->Hd->Option (D×Hd):=mkF 2 7 HR
@[reducible] noncomputable def KR:MS:=(AR (A8 0 F_reached (A2 (A0 1) (A2 (A0 2) A4))))
noncomputable def F_behind:List D->Hd->Option (D×Hd):=mkF 3 3 KR
def pairs_im(ps:84):(ps.map ER).map D.im=ps.map Ae:=by rw[iZ];rfl
noncomputable abbrev wI(ps:84):I:=.tup (ps.map ER)
def T3:F_reached=Bd.F_reached:=rfl
def behind_eq{ps:84}(hp:ps.length<64)(n a:Int):∃(found:List Int) (g:Hd),F_behind [.im (.int n),.im (wI ps),.im (.int a)] []=some (.im (.tup ((B3 found).map I.int)),g)/\found.Nodup/\∀x,x∈found↔Rc ps a x:=by
 obtain⟨found,r,e,nd,mem,_⟩:=Po (.im (wI ps)) [] [] (AE _) ps hp a λz1 z2 z3 z4 z5 z6 r=>by
  have:=Ol (m:=A0 0) (ls:=[some (.im (wI ps)),z1,z2,z3,z4,z5,z6]) (hd:=[]++r) (hd':=[]++r) (is:=ps.map ER) rfl;rw[this,pairs_im]
 refine⟨found,[],?_,nd,mem⟩;have c:=LK (m:=A2 (A0 1) (A2 (A0 2) A4)) (F:=Bd.F_reached) (ls:=[some (.im (.int n)),some (.im (wI ps)),some (.im (.int a))]) (hd:=[]) (ds:=[.im (wI ps),.im (.int a)]) (hd1:=[]) 70 70 e;simp only[F_behind,mkF,KR,T3,T5,iw,jt,j6,jN,j9,jQ,List.replicate,Nat.reduceAdd,Nat.reduceSub,iU,c,ik]
end Rw
namespace Bt
open PySem L2 Bd
noncomputable def C1(t:Tp):List D:=[.mu 0,.im (.int t.nx),.im (.int t.lf),.im (.int t.tn)]
noncomputable def tl(t:Tp):Hd:=[.lst (t.cells.map λi=>.im (.int i)),.lst (C1 t)]
@[simp] theorem gY(t:Tp):(tl t).length=2:=rfl
@[simp] theorem iM(t:Tp)(r:Hd):(tl t++r)[0]?=some (.lst (t.cells.map λi=>.im (.int i))):=rfl
@[simp] theorem iL(t:Tp)(r:Hd):(tl t++r)[1]?=some (.lst (C1 t)):=rfl
@[simp] theorem tl0(t:Tp):(tl t)[0]?=some (.lst (t.cells.map λi=>.im (.int i))):=rfl
@[simp] theorem tl1(t:Tp):(tl t)[1]?=some (.lst (C1 t)):=rfl
@[simp] theorem tln(t:Tp):(C1 t).length=4:=rfl
section
variable(t:Tp)(v:Int)
@[simp] theorem iQ:atI (C1 t) 0=some (.mu 0):=DT (j:=0) rfl
@[simp] theorem iP:atI (C1 t) 1=some (.im (.int t.nx)):=DT (j:=1) rfl
@[simp] theorem iO:atI (C1 t) 2=some (.im (.int t.lf)):=DT (j:=2) rfl
@[simp] theorem iN:atI (C1 t) 3=some (.im (.int t.tn)):=DT (j:=3) rfl
@[simp] theorem iI:ixN 4 1=some 1:=rfl
@[simp] theorem iH:ixN 4 2=some 2:=rfl
@[simp] theorem iG:ixN 4 3=some 3:=rfl
@[simp] theorem gX:(C1 t).set 1 (.im (.int v))=C1 { t with nx:=v }:=rfl
@[simp] theorem gW:(C1 t).set 2 (.im (.int v))=C1 { t with lf:=v }:=rfl
@[simp] theorem gU:(C1 t).set 3 (.im (.int v))=C1 { t with tn:=v }:=rfl
end
@[simp] theorem hU(t t':Tp)(h:t'.cells=t.cells):(tl t).set 1 (.lst (C1 t'))=tl t':=by unfold tl;rw[h];rfl
@[simp high] theorem iK(t:Tp)(x:MO)(r:Hd):(tl t++(x::r))[2]?=some x:=rfl
@[simp high] theorem iJ(t:Tp)(x y:MO)(r:Hd):(tl t++(x::y::r))[3]?=some y:=rfl
@[simp high] theorem hZ(t:Tp)(x y:MO)(r:Hd):(tl t++(x::r)).set 2 y=tl t++(y::r):=rfl
@[simp high] theorem hV(t:Tp)(x y z:MO)(r:Hd):(tl t++(x::y::r)).set 3 z=tl t++(x::z::r):=rfl
@[simp] theorem dh(t:Tp):(tl t).all (clO 2)=true:=by simp[tl,clO,TJ,C1,clD,Ay]
structure DrawL(P:List D->Hd->Option (D×Hd))(τ:Tp)(many:Int)(r:Int)(τ':Tp):Prop where
 lo:0<=r
 hi:r<many
 eq:P [.mu 1,.im (.int many)] (tl τ)=some (.im (.int r),tl τ')
end Bt
namespace An
open PySem L2 Bd
inductive Tv where
 |non|bl (b:Bool)|int (i:Int)|str (x:Str)|tup (l:List Tv)|lst (l:List Tv)
mutual
def Is(n:Nat)(hd:Hd):Tv->D->Prop
 |.non,d=>d=.im .non
 |.bl b,d=>d=.im (.bl b)
 |.int i,d=>d=.im (.int i)
 |.str x,d=>d=.im (.str x)
 |.tup ts,d=>∃ds,d=AT ds/\Iss n hd ts ds
 |.lst ts,d=>∃k ds,d=.mu k/\2<=k/\k<n/\hd[k]?=some (.lst ds)/\Iss n hd ts ds
def Iss(n:Nat)(hd:Hd):List Tv->List D->Prop
 |[],ds=>ds=[]
 |t::ts,ds=>∃d r,ds=d::r/\Is n hd t d/\Iss n hd ts r
end
section
variable{n n':Nat}
mutual
theorem Is.mono(hn:n<=n')(hk:∀k,2<=k->k<n->hd'[k]?=hd[k]?):∀{t:Tv} {d:D},Is n hd t d->Is n' hd' t d
 |.non,d,h=>by simpa only[Is]using h
 |.bl b,d,h=>by simpa only[Is]using h
 |.int i,d,h=>by simpa only[Is]using h
 |.str x,d,h=>by simpa only[Is]using h
 |.tup ts,d,h=>by
  simp only[Is]at h ⊢;obtain⟨ds,e,q⟩:=h;exact⟨ds,e,Iss.mono hn hk q⟩
 |.lst ts,d,h=>by
  simp only[Is]at h ⊢;obtain⟨k,ds,e,k2,kn,e2,q⟩:=h;exact⟨k,ds,e,k2,j3 kn hn,(hk k k2 kn).trans e2,Iss.mono hn hk q⟩
theorem Iss.mono(hn:n<=n')(hk:∀k,2<=k->k<n->hd'[k]?=hd[k]?):∀{ts:List Tv} {ds:List D},Iss n hd ts ds->Iss n' hd' ts ds
 |[],ds,h=>by simpa only[Iss]using h
 |t::ts,ds,h=>by
  simp only[Iss]at h ⊢;obtain⟨d,r,e,q,z⟩:=h;exact⟨d,r,e,Is.mono hn hk q,Iss.mono hn hk z⟩
end
noncomputable def ty(T:Ty):Tv->Bool
 |.non=>false
 |.bl _=>decide (T=.int∨T=.bool)
 |.int _=>decide (T=.int)
 |.str _=>decide (T=.str)
 |.tup _=>decide (T=.tuple)
 |.lst _=>decide (T=.list)
mutual
noncomputable def pyT:Tv->PyData
 |.non=>.none
 |.bl b=>.bool b
 |.int i=>.int i
 |.str x=>.str x
 |.tup ts=>.tuple (Us ts)
 |.lst ts=>.list (Us ts)
noncomputable def Us:List Tv->List PyData
 |[]=>[]
 |t::ts=>pyT t::Us ts
end
mutual
noncomputable def dep:Tv->Nat
 |.non=>0
 |.bl _=>0
 |.int _=>0
 |.str _=>0
 |.tup ts=>Va ts+1
 |.lst ts=>Va ts+1
noncomputable def Va:List Tv->Nat
 |[]=>0
 |t::ts=>max (dep t) (Va ts)
end
def Jj(m:Nat)(i:I):pyN m hd (.im i)=some i.py:=by cases m<;>rfl
mutual
def Gq(m:Nat):Tv->Prop
 |.non=>True
 |.bl _=>True
 |.int i=>i.natAbs<=m
 |.str x=>∀c∈x.cps.toList,c<128
 |.tup ts=>Gqs m ts
 |.lst ts=>Gqs m ts
def Gqs(m:Nat):List Tv->Prop
 |[]=>True
 |t::ts=>Gq m t/\Gqs m ts
end
mutual
noncomputable def wt:Tv->Nat
 |.non=>1
 |.bl _=>1
 |.int i=>i.natAbs.log2+2
 |.str x=>x.length+1
 |.tup ts=>wts ts+1
 |.lst ts=>wts ts+1
noncomputable def wts:List Tv->Nat
 |[]=>0
 |t::ts=>wt t+wts ts
end
mutual
theorem Gq.mono{m m':Nat}(h:m<=m'):∀{t:Tv},Gq m t->Gq m' t
 |.non,q=>trivial
 |.bl _,q=>trivial
 |.int i,q=>by simp only[Gq]at q ⊢;omega
 |.str x,q=>by simpa only[Gq]using q
 |.tup ts,q=>by simp only[Gq]at q ⊢;exact Gqs.mono h q
 |.lst ts,q=>by simp only[Gq]at q ⊢;exact Gqs.mono h q
theorem Gqs.mono{m m':Nat}(h:m<=m'):∀{ts:List Tv},Gqs m ts->Gqs m' ts
 |[],q=>trivial
 |t::ts,q=>by simp only[Gqs]at q ⊢;exact⟨Gq.mono h q.1,Gqs.mono h q.2⟩
end
end
end An
namespace An
open PySem L2 Bd
section
variable{n n':Nat}{hd':Hd}
noncomputable def tl:Tv->Nat
 |.tup l=>l.length
 |.lst l=>l.length
 |_=>0
def sIx_nat(l d k:Nat):HT.sIx l d (some (k:Int))=min k l:=by
 unfold HT.sIx;have h:¬ ((k:Int)<0):=by omega
 simp[h]
def cut_on(xs:List D)(k:Nat):C7 xs (some (k:Int)) none=xs.drop k:=by
 unfold C7;rw[sIx_nat,show HT.sIx 79 79 none=79 from rfl,jM 70];by_cases h:k<=79
 .rw[k8 h]
 .rw[Nat.min_eq_right 66,List.drop_of_length_le (iq _),List.drop_of_length_le 66]
end
section
variable{QE:D->Hd->Prop}
def TY(h:AN d=some xs):Gf d e hd=none:=by
 cases d with
 |im i=>cases i with
  |tup is=>rfl
  |_=>cases h
 |tm _=>rfl
 |mu _=>cases h
 |ro _=>cases h
 |op _ _ _=>cases h
 |fv _ _=>cases h
def wp_catA(h1:AN d=some xs)(h2:AN e=some ys)(hn:xs≠[])(hl:79+ys.length<=1000000)(q:QE (AT (xs++ys)) hd):WP (Aa d e hd) QE:=by
 refine⟨_,_,?_,q⟩;show CS Gf Cw d e hd=_;unfold CS;rw[TY h1];show Cw d e hd=_;unfold Cw;rw[h1,ik,h2,ik,ic ⟨hn,AQ hl⟩]
def wp_catN(h1:AN d=some xs)(h2:AN e=some ys)(hl:79+ys.length<=1000000)(q:QE (AT (xs++ys)) hd):WP (DH d e hd) QE:=by
 by_cases hn:xs=[]
 .subst hn;refine⟨_,_,?_,q⟩;show CS Aa EE d e hd=_;unfold CS;have:Aa d e hd=none:=by
   show CS Gf Cw d e hd=_;unfold CS;rw[TY h1];show Cw d e hd=_;unfold Cw;rw[h1,ik,h2,ik,ig (λc=>c.1 rfl)]
  rw[this];show EE d e hd=_;unfold EE;rw[h1,ik,h2,ik,ic rfl];rfl
 .obtain⟨z,x,e1,q1⟩:=wp_catA (hd:=hd) (QE:=QE) h1 h2 hn hl q;refine⟨z,x,?_,q1⟩;show CS Aa EE d e hd=_;unfold CS;rw[e1]
end
end An
namespace Sm
noncomputable def sm(f:Nat->Int):List Nat->Int
 |[]=>0
 |k::r=>f k+sm f r
def ps(g:Nat->Nat->Int):List Nat->Int
 |[]=>0
 |k::r=>sm (g k) r+ps g r
noncomputable def cst(l w:Nat->Int):List Nat->Int->Int->Int
 |[],_,f=>f
 |k::r,e,f=>cst l w r (e+l k) (f+w k*(e+l k))
theorem JU(f g:Nat->Int):∀ks,sm (λk=>f k+g k) ks=sm f ks+sm g ks
 |[]=>rfl
 |k::r=>by simp only[sm];rw[JU f g r];omega
theorem Vu{f g:Nat->Int}:∀{ks:71},(∀k∈ks,f k<=g k)->sm f ks<=sm g ks
 |[],_=>Int.le_refl _
 |k::r,h=>by
  have h1:=h k 70;have h2:=Vu (f:=f) (g:=g) (ks:=r) λx hx=>h x (by simp[hx]);simp only[sm];omega
theorem FX{f g:Nat->Int}:∀{ks:71},(∀k∈ks,f k=g k)->sm f ks=sm g ks
 |[],_=>rfl
 |k::r,h=>by
  have h1:=h k 70;have h2:=FX (f:=f) (g:=g) (ks:=r) λx hx=>h x (by simp[hx]);simp only[sm];omega
def Cu(f:Nat->Int){xs:71}(p:xs.Perm ys):sm f xs=sm f ys:=by
 induction p with
 |nil=>rfl
 |cons x _ ih=>simp only[sm,ih]
 |swap x y l=>simp only[sm];omega
 |trans _ _ a b=>rw[a,b]
def OU{g:Nat->Nat->Int}(hg:∀x y,g x y=g y x){xs:71}(p:xs.Perm ys):ps g xs=ps g ys:=by
 induction p with
 |nil=>rfl
 |cons x q ih=>simp only[ps,ih,Cu _ q]
 |swap x y l=>simp only[ps,sm];rw[hg x y];omega
 |trans _ _ a b=>rw[a,b]
theorem Lm{g h:Nat->Nat->Int}:∀{ks:71},(∀x∈ks,∀y∈ks,g x y<=h x y)->ps g ks<=ps h ks
 |[],_=>Int.le_refl _
 |k::r,H=>by
  have h1:=Vu (f:=g k) (g:=h k) (ks:=r) λx hx=>H k 70 x (by simp[hx]);have h2:=Lm (g:=g) (h:=h) (ks:=r) λx hx y hy=>H x (by simp[hx]) y (by simp[hy]);simp only[ps];omega
theorem W7{g h:Nat->Nat->Int}:∀{ks:71},ks.Pairwise (λx y=>g x y=h x y)->ps g ks=ps h ks
 |[],_=>rfl
 |k::r,H=>by
  rw[pairwise_cons]at H;have h1:=FX (f:=g k) (g:=h k) (ks:=r) H.1;have h2:=W7 (g:=g) (h:=h) (ks:=r) H.2;simp only[ps];omega
theorem OT(g:Nat->Nat->Int)(x:Nat):∀ks,ps g (ks++[x])=ps g ks+sm (λk=>g k x) ks
 |[]=>by simp[ps,sm]
 |k::r=>by
  have e:∀f:Nat->Int,∀l:List Nat,sm f (l++[x])=sm f l+f x:=by
   intro f l
   induction l with
   |nil=>simp[sm]
   |cons y r ih=>simp only[j9,sm,ih];omega
  simp only[j9,ps,sm,e,OT g x r];omega
theorem Ey(f:Nat->Int)(x:Nat):∀l,sm f (l++[x])=sm f l+f x
 |[]=>by simp[sm]
 |y::r=>by simp only[j9,sm,Ey f x r];omega
theorem NN(l w:Nat->Int):∀(ks:71) (e f:Int),cst l w ks e f=f+sm (λk=>w k*(e+l k)) ks+ps (λx y=>l x*w y) ks
 |[],e,f=>by simp[cst,sm,ps]
 |k::r,e,f=>by
  simp only[cst];rw[NN l w r];have e1:sm (λy=>w y*(e+l k+l y)) r=sm (λy=>w y*(e+l y)) r+sm (λy=>l k*w y) r:=by
   rw[<- JU];refine FX λy _=>?_;rw[show e+l k+l y=(e+l y)+l k by omega,jk (w y) (e+l y) (l k),jd (w y) (l k)]
  rw[e1];simp only[sm,ps];omega
def least(l w:Nat->Int)(c:Int)(n:Nat):Int:=sm (λk=>w k*(c+l k)) (69 n)+ps (λx y=>min (l x*w y) (l y*w x)) (69 n)
def least_le(l w:Nat->Int)(c:Int){n:Nat}{ks:71}(p:ks.Perm (69 n)):least l w c n<=cst l w ks c 0:=by
 rw[NN,least,<- Cu _ p,<- OU (λx y=>Int.min_comm _ _) p];have:=Lm (g:=λx y=>min (l x*w y) (l y*w x)) (h:=λx y=>l x*w y) (ks:=ks) λx _ y _=>Int.min_le_left _ _;omega
def VM(l w:Nat->Int)(c:Int){n:Nat}{ks:71}(p:ks.Perm (69 n))(h:ks.Pairwise λx y=>l x*w y<=l y*w x):cst l w ks c 0=least l w c n:=by
 rw[NN,least,<- Cu _ p,<- OU (λx y=>Int.min_comm _ _) p];have:=W7 (g:=λx y=>min (l x*w y) (l y*w x)) (h:=λx y=>l x*w y) (ks:=ks) (h.imp λq=>Int.min_eq_left q);omega
def gn(l:Nat->Int):List Nat->Int
 |[]=>0
 |k::r=>l k*(l k+sm l r)+gn l r
def Op(l:Nat->Int){xs:71}(p:xs.Perm ys):gn l xs=gn l ys:=by
 induction p with
 |nil=>rfl
 |cons x p ih=>rw[gn,gn,ih,Cu l p]
 |swap x y r=>
  simp only[gn,sm];have h:l y*l x=l x*l y:=jd _ _;simp only[jk];omega
 |trans _ _ a b=>rw[a,b]
def pv(l:Nat->Int)(a:Nat)(S:71)(k:Nat):Int:=if k=a then sm l S else if k∈S then-l k else 0
theorem OV(l:Nat->Int)(hl:∀k,0<=l k)(a:Nat)(S:71):∀(post:71) (e f:Int),a∉post->cst l (pv l a S) post e f<=f-sm l (post.filter λk=>decide (k∈S))*e-gn l (post.filter λk=>decide (k∈S))
 |[],e,f,_=>by simp[cst,sm,gn]
 |k::post,e,f,h=>by
  have hk:k≠a:=λz=>h (by simp[z]);have ih:=OV l hl a S post (e+l k) (f+pv l a S k*(e+l k)) (λz=>h (by simp[z]));have h0:0<=sm l (post.filter λk=>decide (k∈S)):=by
   have:∀xs:List Nat,0<=sm l xs:=λxs=>by
    induction xs with
    |nil=>simp[sm]
    |cons x r ih=>have:=hl x;simp only[sm];omega
   exact this _
  rw[cst];refine Int.le_trans ih ?_;by_cases q:k∈S
  .rw[List.filter_cons_of_pos (by simpa using q)];have e1:pv l a S k=- l k:=by unfold pv;rw[ig hk,ic q]
   rw[e1];simp only[gn,sm];generalize sm l (post.filter λk=>decide (k∈S))=s at *;generalize gn l (post.filter λk=>decide (k∈S))=g at *;have x1:-l k*(e+l k)=-(l k*e+l k*l k):=by rw[Int.neg_mul,jk]
   have x2:s*(e+l k)=s*e+l k*s:=by rw[jk,jd s (l k)]
   have x3:(l k+s)*e=l k*e+s*e:=jO _ _ _;have x4:l k*(l k+s)=l k*l k+l k*s:=jk _ _ _;rw[x1,x2,x3,x4];omega
  .rw[List.filter_cons_of_neg (by simpa using q)];have e1:pv l a S k=0:=by unfold pv;rw[ig hk,ig q]
   rw[e1];generalize sm l (post.filter λk=>decide (k∈S))=s at *;have x1:s*(e+l k)=s*e+s*l k:=jk _ _ _;have x2:0<=s*l k:=jS h0 (hl k);rw[x1,zero_mul];omega
theorem Jk(l w:Nat->Int):∀(pre r:71) (e f:Int),(∀k∈pre,w k=0)->cst l w (pre++r) e f=cst l w r (e+sm l pre) f
 |[],r,e,f,_=>by simp[sm]
 |k::pre,r,e,f,h=>by
  rw[j9,cst,h k 70,zero_mul,add_zero,Jk l w pre r _ _ λx hx=>h x (by simp[hx])];simp only[sm];rw[Int.add_assoc]
def price_le(l:Nat->Int)(hl:∀k,0<=l k){a:Nat}{S:71}(hS:S.Nodup)(hn:(pre++a::post).Nodup)(hs:∀b∈S,b∈post)(c:Int):cst l (pv l a S) (pre++a::post) c 0 <= - gn l S:=by
 have n1:a∉post:=by
  have:=(nodup_append.mp hn).2.1;exact(nodup_cons.mp this).1
 have np:post.Nodup:=(nodup_cons.mp (nodup_append.mp hn).2.1).2;have hp:∀k∈pre,pv l a S k=0:=λk hk=>by
  have d:=(nodup_append.mp hn).2.2;unfold pv;have k1:k≠a:=d k hk a 70;have k2:k∉S:=λz=>d k hk k (by simp[hs k z]) rfl;rw[ig k1,ig k2]
 rw[Jk l _ pre (a::post) c 0 hp,cst];have ea:pv l a S a=sm l S:=by unfold pv;rw[ic rfl]
 rw[ea];refine Int.le_trans (OV l hl a S post _ _ n1) ?_;have pm:(post.filter λk=>decide (k∈S)).Perm S:=by
  refine(List.perm_ext_iff_of_nodup (np.filter _) hS).mpr λx=>?_;simp only[mem_filter,jX];exact⟨λh=>h.2,λh=>⟨hs x h,h⟩⟩
 rw[Cu l pm,Op l pm];omega
theorem cst_add(l w v:Nat->Int)(t:Int):∀(ks:71) (e f g:Int),cst l (λk=>w k+t*v k) ks e (f+t*g)=cst l w ks e f+t*cst l v ks e g
 |[],e,f,g=>rfl
 |k::ks,e,f,g=>by
  rw[cst,cst,cst,<- cst_add l w v t ks]
  congr 1
  rw[jO,jk t,jq];omega
end Sm
namespace Fs
noncomputable def Sm(f:Nat->Int)(B:71):Int:=(B.map f).sum
def M8(f:Nat->Int):Sm f []=0:=rfl
def Du(f:Nat->Int)(x:Nat)(B:71):Sm f (x::B)=f x+Sm f B:=by simp[Sm]
def sm_app(f:Nat->Int)(A B:71):Sm f (A++B)=Sm f A+Sm f B:=by simp[Sm,sum_append]
def GN(f:Nat->Int)(p:Nat->Bool)(B:71):Sm f (B.filter p)+Sm f (B.filter λx=>!p x)=Sm f B:=by
 induction B with
 |nil=>rfl
 |cons x r ih=>
  rw[k5,k5,Du];cases h:p x<;>simp[Du]<;>omega
def Vt{f:Nat->Int}(h:∀x∈B,0<=f x):0<=Sm f B:=by
 induction B with
 |nil=>simp[M8]
 |cons x r ih=>
  have:=h x 70;have:=ih λy hy=>h y (by simp[hy]);rw[Du];omega
def sm_pos{f:Nat->Int}(h:∀x∈B,0<f x)(hB:B≠[]):0<Sm f B:=by
 cases B with
 |nil=>exact absurd rfl hB
 |cons x r=>
  have:=h x 70;have:=Vt (f:=f) (B:=r) λy hy=>Int.le_of_lt (h y (by simp[hy]));rw[Du];omega
def rtr{a b c d e f:Int}(hd:0<d)(hb:0<=b)(hf:0<=f)(h1:c*b<=a*d)(h2:e*d<=c*f):e*b<=a*f:=by
 have k1:c*b*f<=a*d*f:=Int.mul_le_mul_of_nonneg_right h1 hf;have k2:e*d*b<=c*f*b:=Int.mul_le_mul_of_nonneg_right h2 hb;have e1:c*b*f=c*f*b:=by rw[jq,jd b f,<- jq]
 have e2:a*d*f=a*f*d:=by rw[jq,jd d f,<- jq]
 have e3:e*d*b=e*b*d:=by rw[jq,jd d b,<- jq]
 exact Int.le_of_mul_le_mul_right (by omega:e*b*d<=a*f*d) hd
def fW{a b c d e f:Int}(hd:0<d)(hb:0<b)(hf:0<=f)(h1:c*b<=a*d)(h2:e*d<c*f):e*b<a*f:=by
 have k1:c*b*f<=a*d*f:=Int.mul_le_mul_of_nonneg_right h1 hf;have k2:e*d*b<c*f*b:=Int.mul_lt_mul_of_pos_right h2 hb;have e1:c*b*f=c*f*b:=by rw[jq,jd b f,<- jq]
 have e2:a*d*f=a*f*d:=by rw[jq,jd d f,<- jq]
 have e3:e*d*b=e*b*d:=by rw[jq,jd d b,<- jq]
 exact Int.lt_of_mul_lt_mul_right (by omega:e*b*d<a*f*d) (Int.le_of_lt hd)
variable(up:Nat->Option Nat)(pos:Nat->Nat)(l w:Nat->Int)
abbrev Ge(A B:71):Prop:=Sm w B*Sm l A<=Sm w A*Sm l B
abbrev Lt(A B:71):Prop:=Sm w A*Sm l B<Sm w B*Sm l A
def Cl(B:71)(p:Nat->Bool):Prop:=∀v∈B,p v=true->∀u,up v=some u->u∈B->p u=true
def Ord:List Nat->List Nat->Prop
 |_,[]=>True
 |s,v::r=>(∃u∈s,up v=some u)/\Ord (v::s) r
structure Hold(B:71):Prop where
 ex:∃h t,B=h::t/\Ord up [h] t/\∀v∈B,pos h<=pos v
 part:∀p,Cl up B p->(∃v∈B,p v=true)->(∃v∈B,p v=false)->Sm w (B.filter p)*Sm l B<Sm w B*Sm l (B.filter p)
inductive Anc:Nat->Nat->Prop
 |refl (a:Nat):Anc a a
 |step {a u v:Nat}:Anc a u->up v=some u->Anc a v
structure Line(S:71)(bs:List (List Nat)):Prop where
 mem:∀v,v∈bs.flatten↔∃a∈S,Anc up a v
 nd:bs.flatten.Nodup
 hold:∀B∈bs,Hold up pos l w B
 fall:bs.Pairwise (Ge l w)
 par:∀X B Y,bs=X++B::Y->∃h t,B=h::t/\(h∈S∨∃u∈X.flatten,up h=some u)
structure Pre(S:71)(bs:List (List Nat)):Prop where
 mem:∀v,v∈bs.flatten↔∃a∈S,Anc up a v
 nd:bs.flatten.Nodup
 hold:∀B∈bs,Hold up pos l w B
 par:∀(i:Nat) (B:71),bs[i]?=some B->∃h t,B=h::t/\(h∈S∨∃(j:Nat) (A:71) (u:Nat),j<i/\bs[j]?=some A/\u∈A/\up h=some u/\Ge l w A B)
variable{up pos l w}
theorem Ord.mono:∀{r s s':71},(∀x∈s,x∈s')->Ord up s r->Ord up s' r
 |[],_,_,_,_=>trivial
 |v::r,s,s',h,⟨⟨u,hu,e⟩,o⟩=>⟨⟨u,h u hu,e⟩,o.mono λx hx=>by rcases mem_cons.mp hx with rfl|hx;exact jg;exact j4 _ (h x hx)⟩
theorem Ord.app:∀{r r' s:71},Ord up s r->Ord up (r++s) r'->Ord up s (r++r')
 |[],_,_,_,h=>h
 | v::r,r',s,⟨h,o⟩,h'=>⟨h,o.app (h'.mono λx hx=>by
  rcases mem_append.mp hx with hx|hx
  .rcases mem_cons.mp hx with rfl|hx
   .simp
   .simp[hx]
  .simp[hx])⟩
theorem Ord.get:∀{r s:71} {i v:Nat},Ord up s r->r[i]?=some v->∃u,up v=some u/\(u∈s∨u∈r.take i)
 |[],_,_,_,_,e=>by simp at e
 |x::r,s,0,v,⟨⟨u,hu,e1⟩,_⟩,e=>by simp at e;subst e;exact⟨u,e1,.inl hu⟩
 |x::r,s,i+1,v,⟨_,o⟩,e=>by
  obtain⟨u,e1,h⟩:=o.get (i:=i) (v:=v) (by simpa using e);refine⟨u,e1,?_⟩;rcases h with h|h
  .rcases mem_cons.mp h with rfl|h
   .exact .inr 70
   .exact .inl h
  .exact .inr (by simp[h])
section
variable(hup:∀v u,up v=some u->pos u<pos v)(hl:∀v,0<l v)
def Anc.trans{a b v:Nat}(h:Anc up a b)(h':Anc up b v):Anc up a v:=by
 induction h' with
 |refl=>exact h
 |step _ e ih=>exact .step ih e
include hup in
theorem Anc.ps{a v:Nat}(h:Anc up a v):pos a<=pos v:=by
 induction h with
 |refl=>exact iq _
 |step _ e ih=>have:=hup _ _ e;omega
def Anc.iff{a v:Nat}:Anc up a v↔v=a∨∃c,up c=some a/\Anc up c v:=by
 constructor
 .intro h
  induction h with
  |refl=>exact .inl rfl
  |step _ e ih=>
   rcases ih with rfl|⟨c,e1,h⟩
   .exact .inr ⟨_,e,.refl _⟩
   .exact .inr ⟨c,e1,.step h e⟩
 .rintro(rfl|⟨c,e,h⟩)
  .exact .refl _
  .exact Anc.trans (.step (.refl _) e) h
def Anc.two{a b v:Nat}(h:Anc up a v)(h':Anc up b v):Anc up a b∨Anc up b a:=by
 induction h with
 |refl=>exact .inr h'
 |step h1 e ih=>
  cases h' with
  |refl=>exact .inl (.step h1 e)
  |step h2 e2=>rw[e]at e2;cases e2;exact ih h2
include hup in
theorem XE{h:Nat}{p:Nat->Bool}(c:∀v∈B,v=h∨∃u∈B,up v=some u)(k:Cl up B p):∀n v,pos v<=n->v∈B->p v=true->p h=true:=by
 intro n
 induction n with
 |zero=>
  intro v hn hv q;rcases c v hv with rfl|⟨u,hu,e⟩
  .exact q
  .have:=hup _ _ e;omega
 |succ n ih=>
  intro v hn hv q;rcases c v hv with rfl|⟨u,hu,e⟩
  .exact q
  .have:=hup _ _ e;exact ih u 66 hu (k v hv q u e hu)
def fJ{B:71}{p:Nat->Bool}(h:Sm w (B.filter p)*Sm l B<Sm w B*Sm l (B.filter p)):Sm w B*Sm l (B.filter λx=>!p x)<Sm w (B.filter λx=>!p x)*Sm l B:=by
 have e1:=GN w p B;have e2:=GN l p B;have k1:=jk (Sm w B) (Sm l (B.filter p)) (Sm l (B.filter λx=>!p x));have k2:=jO (Sm w (B.filter p)) (Sm w (B.filter λx=>!p x)) (Sm l B);rw[e2]at k1;rw[e1]at k2;omega
def dE{p:Nat->Bool}(h:Sm w B*Sm l (B.filter λx=>!p x)<Sm w (B.filter λx=>!p x)*Sm l B):Sm w (B.filter p)*Sm l B<Sm w B*Sm l (B.filter p):=by
 have e1:=GN w p B;have e2:=GN l p B;have k1:=jk (Sm w B) (Sm l (B.filter p)) (Sm l (B.filter λx=>!p x));have k2:=jO (Sm w (B.filter p)) (Sm w (B.filter λx=>!p x)) (Sm l B);rw[e2]at k1;rw[e1]at k2;omega
def WV{p:Nat->Bool}(h:Hold up pos l w B)(c:Cl up B p):Sm w B*Sm l (B.filter λx=>!p x)<=Sm w (B.filter λx=>!p x)*Sm l B:=by
 by_cases t:∃v∈B,p v=true
 .by_cases f:∃v∈B,p v=false
  .exact Int.le_of_lt (fJ (h.part p c t f))
  .have:(B.filter λx=>!p x)=[]:=List.filter_eq_nil_iff.mpr λv hv q=>f ⟨v,hv,by simpa using q⟩;rw[this];simp[M8]
 .have:(B.filter λx=>!p x)=B:=List.filter_eq_self.mpr λv hv=>by
   cases e:p v with
   |true=>exact absurd ⟨v,hv,e⟩ t
   |false=>rfl
  rw[this];exact Int.le_refl _
def Cg{bs:List (List Nat)}{m:Nat}{A:71}(e:bs[m]?=some A):(bs.take (m+1)).flatten=(bs.take m).flatten++A:=by
 rw[List.take_succ,e];simp
include hl in
theorem jm{a:Nat}{S:71}{bs:List (List Nat)}(L:Line up pos l w S bs):∀m A,bs[m]?=some A->∀p,Cl up (a::(bs.take (m+1)).flatten) p->p a=true ->
 Sm w A*Sm l ((a::(bs.take (m+1)).flatten).filter λx=>!p x)<=Sm w ((a::(bs.take (m+1)).flatten).filter λx=>!p x)*Sm l A:=by
 intro m;have hA:∀{m:Nat} {A:71},bs[m]?=some A->A∈bs:=λe=>j5 e;have lp:∀{A:71},A∈bs->0<Sm l A:=λh=>sm_pos (λx _=>hl x) (by obtain⟨_,_,e,_⟩:=(L.hold _ h).ex;rw[e];simp)
 induction m with
 |zero=>
  intro A e p c pa;have:=WV (L.hold A (hA e)) (p:=p) λv hv q u eu hu=>c v (by rw[Cg e];simp[hv]) q u eu (by rw[Cg e];simp[hu]);rw[Cg e];simpa [k5,pa]using this
 |succ m ih=>
  intro A e p c pa;have hm:m<bs.length:=by have:=(72 e).1;omega
  have e0:bs[m]?=some bs[m]:=List.getElem?_eq_getElem hm;have c0:Cl up (a::(bs.take (m+1)).flatten) p:=λv hv q u eu hu=>c v (by rw[Cg e];rcases mem_cons.mp hv with rfl|hv;simp;simp only[ir,iT];exact .inr (.inl hv)) q u eu (by rw[Cg e];rcases mem_cons.mp hu with rfl|hu;simp;simp only[ir,iT];exact .inr (.inl hu));have h1:=ih _ e0 p c0 pa;have h2:=WV (L.hold A (hA e)) (p:=p) λv hv q u eu hu=>c v (by rw[Cg e];simp[hv]) q u eu (by rw[Cg e];simp[hu]);have hf:Ge l w bs[m] A:=by
   obtain⟨hi,rfl⟩:=72 e;exact(List.pairwise_iff_getElem.mp L.fall) m (m+1) hm hi 66
  rw[Cg e,<- j9,List.filter_append,sm_app,sm_app];have h3:=rtr (lp (hA e0)) (Vt λx _=>Int.le_of_lt (hl x)) (Int.le_of_lt (lp (hA e))) h1 hf;rw[jk,jO];omega
include hup hl in
theorem UM{a:Nat}{ch:71}{bs:List (List Nat)}(hch:∀b,b∈ch↔up b=some a)(L:Line up pos l w ch bs){m:Nat}(hm:m<=bs.length)(lt:∀i B,i<m->bs[i]?=some B->Lt l w (a::(bs.take i).flatten) B)
 (stop:∀B,bs[m]?=some B->¬ Lt l w (a::(bs.take m).flatten) B):Line up pos l w [a] ((a::(bs.take m).flatten)::bs.drop m):=by
 have fl:((a::(bs.take m).flatten)::bs.drop m).flatten=a::bs.flatten:=by
  rw[jv,j9,<- jc,jf]
 have hm1:∀v,v∈a::bs.flatten↔Anc up a v:=by
  intro v;rw[ir,L.mem,Anc.iff];constructor
  .rintro(h|⟨c,hc,h⟩)
   .exact .inl h
   .exact .inr ⟨c,(hch c).mp hc,h⟩
  .rintro(h|⟨c,hc,h⟩)
   .exact .inl h
   .exact .inr ⟨c,(hch c).mpr hc,h⟩
 have na:a∉bs.flatten:=by
  intro h;obtain⟨c,hc,h⟩:=(L.mem a).mp h;have:=h.ps hup;have:=hup _ _ ((hch c).mp hc);omega
 have ord:∀m,m<=bs.length->Ord up [a] (bs.take m).flatten:=by
  intro m
  induction m with
  |zero=>intro _;simp[Ord]
  |succ m ih=>
   intro hm;have e:bs[m]?=some bs[m]:=List.getElem?_eq_getElem hm;rw[Cg e];refine(ih 66).app ?_;obtain⟨h,t,eB,ho,_⟩:=(L.hold bs[m] (List.getElem_mem hm)).ex;obtain⟨h',t',eB',hp⟩:=L.par (bs.take m) bs[m] (bs.drop (m+1)) (by rw[<- jE hm,jf]);rw[eB]at eB';obtain⟨rfl,rfl⟩:=List.cons.inj eB';rw[eB];refine⟨?_,ho.mono (by intro x hx;simp at hx;subst hx;simp)⟩;rcases hp with hp|⟨u,hu,e⟩
   .exact⟨a,by simp,(hch h).mp hp⟩
   .exact⟨u,jK _ hu,e⟩
 have sub:∀v∈a::(bs.take m).flatten,v∈a::bs.flatten:=λv hv=>by
  rcases mem_cons.mp hv with rfl|hv
  .simp
  .obtain⟨B,h1,h2⟩:=mem_flatten.mp hv;exact j4 _ (mem_flatten.mpr ⟨B,ju h1,h2⟩)
 have lp:∀{A:71},A∈bs->0<Sm l A:=λh=>sm_pos (λx _=>hl x) (by obtain⟨_,_,e,_⟩:=(L.hold _ h).ex;rw[e];simp);have lc:0<Sm l (a::(bs.take m).flatten):=sm_pos (λx _=>hl x) 70;constructor
 .intro v;rw[fl,hm1];simp
 .rw[fl];exact nodup_cons.mpr ⟨na,L.nd⟩
 .intro B hB;refine(mem_cons.mp hB).elim (λeB=>?_) λhB=>L.hold B (List.mem_of_mem_drop hB);subst eB;refine⟨⟨a,_,rfl,ord m hm,λv hv=>((hm1 v).mp (sub v hv)).ps hup⟩,λp c t f=>?_⟩;have chain:∀v∈a::(bs.take m).flatten,v=a∨∃u∈a::(bs.take m).flatten,up v=some u:=by
   intro v hv;rcases mem_cons.mp hv with rfl|hv
   .exact .inl rfl
   .obtain⟨i,hi,e⟩:=mem_iff_getElem.mp hv;obtain⟨u,e1,h⟩:=(ord m hm).get (i:=i) (v:=v) (by rw[List.getElem?_eq_getElem hi,e]);refine .inr ⟨u,?_,e1⟩;rcases h with h|h
    .simp at h;subst h;simp
    .exact j4 _ (ju h)
  obtain⟨v,hv,pv⟩:=t;have pa:p a=true:=XE hup chain c (pos v) v (iq _) hv pv;cases m with
  |zero=>
   obtain⟨v,hv,q⟩:=f;simp at hv;subst hv;rw[pa]at q;cases q
  |succ m=>
   have e:bs[m]?=some bs[m]:=List.getElem?_eq_getElem hm;have hB:bs[m]∈bs:=List.getElem_mem hm;have j:=jm hl L m _ e p c pa;have k:=lt m _ 66 e;have k2:Sm w (a::(bs.take (m+1)).flatten)*Sm l bs[m]<Sm w bs[m]*Sm l (a::(bs.take (m+1)).flatten):=by
    rw[Cg e,<- j9,sm_app,sm_app,jO,jk];unfold Lt at k;omega
   refine dE (fW (lp hB) (sm_pos (λx _=>hl x) ?_) (Int.le_of_lt lc) j k2);obtain⟨v,hv,q⟩:=f;intro z;have:v∈((a::(bs.take (m+1)).flatten).filter λx=>!p x):=mem_filter.mpr ⟨hv,by simp[q]⟩;rw[z]at this;cases this
 .refine pairwise_cons.mpr ⟨λB hB=>?_,L.fall.sublist (List.drop_sublist _ _)⟩;have hlt:m<bs.length:=by
   rcases jC m bs.length with h|h
   .exact h
   .rw[List.drop_eq_nil_of_le h]at hB;cases hB
  have e:bs[m]?=some bs[m]:=List.getElem?_eq_getElem hlt;have s:=stop _ e;have g0:Ge l w (a::(bs.take m).flatten) bs[m]:=by unfold Lt at s;unfold Ge;omega
  rw[jE hlt]at hB;rcases mem_cons.mp hB with rfl|hB
  .exact g0
  .obtain⟨i,hi,e2⟩:=mem_iff_getElem.mp hB;have hi':m+1+i<bs.length:=by simp at hi;omega
   have e3:B=bs[m+1+i]:=by rw[<- e2];simp
   subst e3;have g1:=(List.pairwise_iff_getElem.mp L.fall) m (m+1+i) hlt hi' 66;exact rtr (lp (List.getElem_mem hlt)) (Int.le_of_lt lc) (Int.le_of_lt (lp (List.getElem_mem hi'))) g0 g1
 .intro X B Y eq;cases X with
  |nil=>simp at eq;rw[<- eq.1];exact⟨a,_,rfl,.inl 70⟩
  |cons C X=>
   simp only[j9,List.cons.injEq]at eq;obtain⟨rfl,eq⟩:=eq;obtain⟨h,t,eB,hp⟩:=L.par (bs.take m++X) B Y (by rw[jL,<- eq,jf]);refine⟨h,t,eB,.inr ?_⟩;rcases hp with hp|⟨u,hu,e⟩
   .exact⟨a,by simp,(hch h).mp hp⟩
   .refine⟨u,?_,e⟩;rw[jc]at hu;rw[jv,j9];exact j4 _ hu
def YH:Pre up pos l w [] []:=⟨by simp,by simp,by simp,by simp⟩
def YI{a:Nat}(P:Pre up pos l w S bs)(L:Line up pos l w [a] g)(sib:∀b∈S,∀v,Anc up a v->Anc up b v->False):Pre up pos l w (S++[a]) (bs++g):=by
 constructor
 .intro v;rw[jc,iT,P.mem,L.mem];constructor
  .rintro(⟨b,hb,h⟩|⟨b,hb,h⟩)
   .exact⟨b,by simp[hb],h⟩
   .exact⟨b,j7 _ hb,h⟩
  .rintro⟨b,hb,h⟩;rcases mem_append.mp hb with hb|hb
   .exact .inl ⟨b,hb,h⟩
   .exact .inr ⟨b,hb,h⟩
 .rw[jc];refine nodup_append.mpr ⟨P.nd,L.nd,λx hx y hy e=>?_⟩;subst e;obtain⟨b,hb,h⟩:=(P.mem x).mp hx;obtain⟨c,hc,h'⟩:=(L.mem x).mp hy;simp at hc;subst hc;exact sib b hb x h' h
 .intro B hB;rcases mem_append.mp hB with h|h
  .exact P.hold B h
  .exact L.hold B h
 .intro i B e;rcases jC i bs.length with hi|hi
  .rw[List.getElem?_append_left hi]at e;obtain⟨h,t,eB,hp⟩:=P.par i B e;refine⟨h,t,eB,?_⟩;rcases hp with hp|⟨j,A,u,hj,eA,hu,e1,ge⟩
   .exact .inl (by simp[hp])
   .exact .inr ⟨j,A,u,hj,by rw[List.getElem?_append_left 66];exact eA,hu,e1,ge⟩
  .rw[List.getElem?_append_right hi]at e;obtain⟨hg,eg⟩:=72 e;obtain⟨h,t,eB,hp⟩:=L.par (g.take (i-bs.length)) B (g.drop (i-bs.length+1)) (by rw[<- eg,<- jE hg,jf]);refine⟨h,t,eB,?_⟩;rcases hp with hp|⟨u,hu,e1⟩
   .exact .inl (j7 _ hp)
   .obtain⟨A,hA,hu⟩:=mem_flatten.mp hu;obtain⟨j,hj,eA⟩:=mem_iff_getElem.mp hA;have hj':j<i-bs.length/\j<g.length:=by simp at hj;omega
    have eA':g[j]=A:=by rw[<- eA];simp
    refine .inr ⟨bs.length+j,A,u,by omega,?_,hu,e1,?_⟩
    .rw[List.getElem?_append_right 66,Nat.add_sub_cancel_left,List.getElem?_eq_getElem hj'.2,eA']
    .rw[<- eA',<- eg];exact(List.pairwise_iff_getElem.mp L.fall) j (i-bs.length) hj'.2 hg hj'.1
def RZ{row:71}(P:Pre up pos l w S bs)(pm:row.Perm (69 bs.length))(pw:row.Pairwise λx y=>Ge l w (bs.getD x []) (bs.getD y [])/\(Ge l w (bs.getD y []) (bs.getD x [])->x<y)):Line up pos l w S (row.map λx=>bs.getD x []):=by
 have e0:(69 bs.length).map (λx=>bs.getD x [])=bs:=by
  refine List.ext_getElem 70 λi h1 h2=>?_;simp[h2]
 have pm1:(row.map λx=>bs.getD x []).Perm bs:=by
  have:=pm.map λx=>bs.getD x []
  rwa [e0]at this
 have pf:=pm1.flatten;constructor
 .intro v;rw[pf.mem_iff];exact P.mem v
 .exact pf.nodup_iff.mpr P.nd
 .intro B hB;exact P.hold B (pm1.mem_iff.mp hB)
 .rw[ke];exact pw.imp λh=>h.1
 .intro X B Y eq;obtain⟨X0,Z,er,eX,eZ⟩:=List.map_eq_append_iff.mp eq;obtain⟨y,Y0,rfl,eB,eY⟩:=List.map_eq_cons_iff.mp eZ;have hy:y<bs.length:=by
   have:y∈row:=by rw[er];simp
   simpa using pm.mem_iff.mp this
  have ey:bs[y]?=some B:=by rw[List.getElem?_eq_getElem hy,<- eB];simp[hy]
  obtain⟨h,t,e,hp⟩:=P.par y B ey;refine⟨h,t,e,?_⟩;rcases hp with hp|⟨j,A,u,hj,eA,hu,e1,ge⟩
  .exact .inl hp
  .refine .inr ⟨u,?_,e1⟩;have ejA:bs.getD j []=A:=by simp[List.getD,eA]
   have hjr:j∈row:=pm.mem_iff.mpr 75;rw[er]at hjr pw;have hjX:j∈X0:=by
    rcases mem_append.mp hjr with h1|h1
    .exact h1
    .rcases mem_cons.mp h1 with h1|h1
     .omega
     .have:=((pairwise_cons.mp (List.pairwise_append.mp pw).2.1).1 j h1).2;rw[ejA,eB]at this;have:=this ge;omega
   rw[<- eX];exact mem_flatten.mpr ⟨A,mem_map.mpr ⟨j,hjX,ejA⟩,hu⟩
end
end Fs
namespace Fs
section
variable(l w:Nat->Int)
variable(q:Nat->Bool)
noncomputable abbrev un(r:71):List Nat:=r.filter λv=>!q v
end
end Fs
namespace Sm
theorem sm_app(f:Nat->Int):∀A B:List Nat,sm f (A++B)=sm f A+sm f B
 |[],B=>by simp[sm]
 |x::A,B=>by rw[j9,sm,sm,sm_app f A B];omega
theorem FB(f:Nat->Int)(t:Int):∀A:List Nat,sm (λk=>f k*t) A=sm f A*t
 |[]=>by simp[sm]
 |x::A=>by rw[sm,sm,FB f t A,jO]
theorem Ff:∀{f:Nat->Int} {A:71},(∀k∈A,f k=0)->sm f A=0
 |_,[],_=>rfl
 |f,x::A,h=>by rw[sm,h x 70,Ff λk hk=>h k (by simp[hk])];rfl
theorem sm_pos{f:Nat->Int}(h:∀k,0<f k):∀{B:71},B≠[]->0<sm f B
 |[],q=>absurd rfl q
 |[x],_=>by have:=h x;simp only[sm];omega
 |x::y::r,_=>by have:=h x;have:=sm_pos h (B:=y::r) 70;rw[sm];omega
theorem OW(l:Nat->Int)(a:Nat)(S:71)(post:71)(hp:∀k∈post,k≠a/\k∉S):∀(S':71) (e f:Int),(∀k∈S',k≠a/\k∈S)->cst l (pv l a S) (S'++post) e f=f-sm l S'*e-gn l S'
 |[],e,f,_=>by
  have:cst l (pv l a S) (post++[]) e f=f:=by
   rw[Jk l _ post [] e f λk hk=>by unfold pv;rw[ig (hp k hk).1,ig (hp k hk).2]];rfl
  rw[je]at this;rw[jQ,this];simp[sm,gn]
 |k::S',e,f,h=>by
  have hk:=h k 70;have e1:pv l a S k=- l k:=by unfold pv;rw[ig hk.1,ic hk.2]
  rw[j9,cst,OW l a S post hp S' _ _ λx hx=>h x (by simp[hx]),e1];simp only[sm,gn];generalize sm l S'=s;generalize gn l S'=g;have x1:-l k*(e+l k)=-(l k*e+l k*l k):=by rw[Int.neg_mul,jk]
  have x2:s*(e+l k)=s*e+l k*s:=by rw[jk,jd s (l k)]
  have x3:(l k+s)*e=l k*e+s*e:=jO _ _ _;have x4:l k*(l k+s)=l k*l k+l k*s:=jk _ _ _;rw[x1,x2,x3,x4];omega
def V1(l:Nat->Int){a:Nat}(hn:(pre++a::(S'++post)).Nodup)(hs:S'.Perm S)(c:Int):cst l (pv l a S) (pre++a::(S'++post)) c 0=- gn l S:=by
 have n0:=nodup_append.mp hn;have n1:=nodup_cons.mp n0.2.1;have n2:=nodup_append.mp n1.2;rw[Jk l _ pre _ c 0 λk hk=>by
  unfold pv;have k1:k≠a:=n0.2.2 k hk a 70;have k2:k∉S:=λz=>n0.2.2 k hk k (by simp[hs.mem_iff.mpr z]) rfl;rw[ig k1,ig k2],cst]
 have ea:pv l a S a=sm l S:=by unfold pv;rw[ic rfl]
 rw[ea,OW l a S post (λk hk=>⟨λz=>n1.1 (by simp[<- z,hk]),λz=>n2.2.2 k (hs.mem_iff.mpr z) k hk rfl⟩) S' _ _ λk hk=>⟨λz=>n1.1 (by simp[<- z,hk]),hs.mem_iff.mp hk⟩,Cu l hs,Op l hs];omega
def adj(l:Nat->Int)(a m:Nat)(S:Nat->List Nat)(t:Nat->Int)(k:Nat):Int:=sm (λj=>t j*pv l a (S j) k) (69 m)
def tail(m:Nat)(t:Nat->Int)(i:Nat):Int:=sm (λj=>if i<=j then t j else 0) (69 m)
def Tq(m:Nat)(t:Nat->Int):tail m t m=0:=Ff λk hk=>ig (by simp at hk;omega)
def RU{m:Nat}(t:Nat->Int){i:Nat}(hi:i<m):tail m t i=t i+tail m t (i+1):=by
 have h1:∀n,i<n->sm (λj=>if i<=j then t j else 0) (69 n)=t i+sm (λj=>if i+1<=j then t j else 0) (69 n):=by
  intro n
  induction n with
  |zero=>intro h;omega
  |succ n ih=>
   intro h;rw[jH,Ey,Ey];by_cases q:i=n
   .subst q;have z1:sm (λj=>if i<=j then t j else 0) (69 i)=0:=Ff λk hk=>ig (by simp at hk;omega);have z2:sm (λj=>if i+1<=j then t j else 0) (69 i)=0:=Ff λk hk=>ig (by simp at hk;omega);rw[z1,z2,ic (iq _),ig 66];omega
   .rw[ih 66];have p1:i<=n:=by omega
    have p2:i+1<=n:=by omega
    simp only[p1,p2,iU];omega
 exact h1 m hi
theorem O5{B:Int}{L W t:Nat->Int}{m:Nat}(hL:∀i,i<=m->0<L i)(ht:∀j,j<m->t j*(L j*L (j+1))=B*(W j*L (j+1)-W (j+1)*L j)):∀d i,i+d=m->tail m t i*(L i*L m)=B*(W i*L m-W m*L i)
 |0,i,h=>by
  have:i=m:=by omega
  subst this;rw[Tq,zero_mul,Int.sub_self,mul_zero]
 |d+1,i,h=>by
  have ih:=O5 hL ht d (i+1) 66;have h0:=ht i 66;rw[RU t 66];have p:=hL (i+1) 66;refine Int.eq_of_mul_eq_mul_right (Int.ne_of_gt p) ?_;generalize t i=a at *;generalize tail m t (i+1)=b at *;generalize L i=x at *;generalize L (i+1)=y at *;generalize L m=z at *;generalize W i=u at *;generalize W (i+1)=v at *;generalize W m=w at *;have e1:(a+b)*(x*z)*y=(a*(x*y))*z+(b*(y*z))*x:=by grind
  rw[e1,h0,ih]
  grind
variable(l w:Nat->Int)(B:Int)(tk:Nat->List (List Nat))(S:Nat->Nat->List Nat)(t:Nat->Nat->Int)
noncomputable abbrev own(a:Nat):List Nat:=a::(tk a).flatten
abbrev blk(a j:Nat):List Nat:=(tk a++[own tk a]).getD j []
abbrev ad(a k:Nat):Int:=adj l a (tk a).length (S a) (t a) k
structure Nd(a:Nat):Prop where
 nd:(own tk a).Nodup
 ne:∀X∈tk a,X≠[]
 st:∀j,j<(tk a).length->(S a j).Perm ((tk a).take (j+1)).flatten
 tt:∀j,j<(tk a).length->t a j*(sm l (blk tk a j)*sm l (blk tk a (j+1)))=B*(sm w (blk tk a j)*sm l (blk tk a (j+1))-sm w (blk tk a (j+1))*sm l (blk tk a j))
abbrev aw(bs:71)(k:Nat):Int:=B*w k+sm (λa=>ad l tk S t a k) bs
structure Flat(bs:List (List Nat)):Prop where
 nd:bs.flatten.Nodup
 ne:∀X∈bs,X≠[]
 fl:∀X∈bs,∀k∈X,aw l w B tk S t bs.flatten k*sm l X=B*sm w X*l k
 sp:∀a∈bs.flatten,∀k,k∉bs.flatten->ad l tk S t a k=0
 ow:∀a∈bs.flatten,Nd l w B tk S t a/\∃X∈bs,own tk a <:+: X
variable{l w B tk S t}
def Flat.nil:Flat l w B tk S t []:=⟨by simp,by simp,by simp,by simp,by simp⟩
def Flat.perm{bs':List (List Nat)}(p:bs'.Perm bs)(F:Flat l w B tk S t bs):Flat l w B tk S t bs':=by
 have pf:=p.flatten;refine⟨pf.nodup_iff.mpr F.nd,λX hX=>F.ne X (p.mem_iff.mp hX),λX hX k hk=>?_,λa ha k hk=>F.sp a (pf.mem_iff.mp ha) k λz=>hk (pf.mem_iff.mpr z),λa ha=>?_⟩
 .rw[aw,Cu _ pf];exact F.fl X (p.mem_iff.mp hX) k hk
 .obtain⟨h1,X,hX,h2⟩:=F.ow a (pf.mem_iff.mp ha);exact⟨h1,X,p.mem_iff.mpr hX,h2⟩
def Flat.app(F:Flat l w B tk S t bs)(G:Flat l w B tk S t bs')(h:(bs++bs').flatten.Nodup):Flat l w B tk S t (bs++bs'):=by
 rw[jc]at h;have dj:=(nodup_append.mp h).2.2;refine⟨by rw[jc];exact h,λX hX=>?_,λX hX k hk=>?_,λa ha k hk=>?_,λa ha=>?_⟩
 .rcases mem_append.mp hX with q|q
  .exact F.ne X q
  .exact G.ne X q
 .rw[aw,jc,sm_app];rcases mem_append.mp hX with q|q
  .have hk':k∈bs.flatten:=mem_flatten.mpr ⟨X,q,hk⟩;rw[Ff (A:=bs'.flatten) λa ha=>G.sp a ha k λz=>dj k hk' k z rfl,add_zero];exact F.fl X q k hk
  .have hk':k∈bs'.flatten:=mem_flatten.mpr ⟨X,q,hk⟩;rw[Ff (A:=bs.flatten) λa ha=>F.sp a ha k λz=>dj k z k hk' rfl,zero_add];exact G.fl X q k hk
 .rw[jc,iT]at ha hk;rcases ha with q|q
  .exact F.sp a q k λz=>hk (.inl z)
  .exact G.sp a q k λz=>hk (.inr z)
 .rw[jc,iT]at ha;rcases ha with q|q
  .obtain⟨h1,X,hX,h2⟩:=F.ow a q;exact⟨h1,X,by simp[hX],h2⟩
  .obtain⟨h1,X,hX,h2⟩:=G.ow a q;exact⟨h1,X,by simp[hX],h2⟩
def bD(l:Nat->Int){a:Nat}{S:71}(nd:(a::A).Nodup)(nS:S.Nodup)(h:∀k∈S,k∈A):sm (pv l a S) (a::A)=0:=by
 have n1:=nodup_cons.mp nd;have e:sm (pv l a S) A=- sm l (A.filter λk=>decide (k∈S)):=by
  have n0:=n1.1;clear h nS nd n1
  induction A with
  |nil=>rfl
  |cons x A ih=>
   have hx:x≠a:=λz=>n0 (by simp[z]);have ih:=ih λz=>n0 (by simp[z]);by_cases q:x∈S
   .rw[List.filter_cons_of_pos (by simpa using q),sm,sm,ih];have:pv l a S x=- l x:=by unfold pv;rw[ig hx,ic q]
    rw[this];omega
   .rw[List.filter_cons_of_neg (by simpa using q),sm,ih];have:pv l a S x=0:=by unfold pv;rw[ig hx,ig q]
    rw[this];omega
 have pm:(A.filter λk=>decide (k∈S)).Perm S:=by
  refine(List.perm_ext_iff_of_nodup (n1.2.filter _) nS).mpr λx=>?_;simp only[mem_filter,jX];exact⟨λq=>q.2,λq=>⟨h x q,q⟩⟩
 rw[sm,e,Cu l pm];have:pv l a S a=sm l S:=by unfold pv;rw[ic rfl]
 rw[this];omega
theorem OA(f:Nat->Nat->Int):∀(A C:71),sm (λx=>sm (λy=>f x y) C) A=sm (λy=>sm (λx=>f x y) A) C
 |[],C=>by simp only[sm];exact(Ff λ_ _=>rfl).symm
 |x::A,C=>by simp only[sm];rw[OA f A C,<- JU]
section
variable{a:Nat}(N:Nd l w B tk S t a)
include N
theorem Nd.sub{j:Nat}(hj:j<(tk a).length){k:Nat}(hk:k∈S a j):k∈(tk a).flatten:=by
 have:=(N.st j hj).mem_iff.mp hk;obtain⟨X,hX,h⟩:=mem_flatten.mp this;exact mem_flatten.mpr ⟨X,ju hX,h⟩
theorem Nd.nS{j:Nat}(hj:j<(tk a).length):(S a j).Nodup:=by
 have h:=(nodup_cons.mp N.nd).2;rw[<- jf (j+1) (tk a),jc]at h;exact(N.st j hj).nodup_iff.mpr (nodup_append.mp h).1
theorem Nd.out{k:Nat}(h:k∉own tk a):ad l tk S t a k=0:=by
 refine Ff λj hj=>?_;have hj:j<(tk a).length:=by simpa using hj
 have k1:k≠a:=λz=>h (by simp[z]);have k2:k∉S a j:=λz=>h (j4 _ (N.sub hj z));rw[pv,ig k1,ig k2,mul_zero]
theorem Nd.sum:sm (λk=>ad l tk S t a k) (own tk a)=0:=by
 rw[show(λk=>ad l tk S t a k)=λk=>sm (λj=>t a j*pv l a (S a j) k) (List.range (tk a).length)from rfl,OA];refine Ff λj hj=>?_;have hj:j<(tk a).length:=by simpa using hj
 have e:(λx=>t a j*pv l a (S a j) x)=λx=>pv l a (S a j) x*t a j:=by funext x;exact jd _ _
 rw[e,FB,bD l N.nd (N.nS hj) λk hk=>N.sub hj hk,zero_mul]
theorem Nd.at_{i k:Nat}(e:(tk a)[i]?=some X)(hk:k∈X):ad l tk S t a k=- (tail (tk a).length (t a) i*l k):=by
 have hi:=(72 e).1;have kin:k∈(tk a).flatten:=mem_flatten.mpr ⟨X,j5 e,hk⟩;have ka:k≠a:=λz=>(nodup_cons.mp N.nd).1 (z ▸ kin);rw[tail,<- FB];have neg:∀(f g:Nat->Int) (A:71),(∀j∈A,f j=- g j)->sm f A=- sm g A:=by
  intro f g A
  induction A with
  |nil=>intro _;rfl
  |cons x A ih=>intro h;rw[sm,sm,h x 70,ih λj hj=>h j (by simp[hj])];omega
 refine neg _ _ _ λj hj=>?_;have hj:j<(tk a).length:=by simpa using hj
 have q:k∈S a j↔i<=j:=by
  rw[(N.st j hj).mem_iff];have nd:=(nodup_cons.mp N.nd).2;constructor
  .intro h;refine Nat.le_of_not_lt λz=>?_;rw[<- jf (j+1) (tk a),jc]at nd;refine(nodup_append.mp nd).2.2 k h k ?_ rfl;refine mem_flatten.mpr ⟨X,j5 (i:=i-(j+1)) ?_,hk⟩;rw[List.getElem?_drop,show j+1+(i-(j+1))=i by omega,e]
  .intro h;refine mem_flatten.mpr ⟨X,j5 (i:=i) ?_,hk⟩;rw[List.getElem?_take_of_lt 66,e]
 rw[pv,ig ka];by_cases h:i<=j
 .rw[ic (q.mpr h),ic h,mul_neg]
 .rw[ig λz=>h (q.mp z),ig h];omega
end
end Sm
namespace Sm
variable{l w:Nat->Int}{B:Int}{tk:Nat->List (List Nat)}{S:Nat->Nat->List Nat}{t:Nat->Nat->Int}
theorem Nd.tail{a:Nat}(N:Nd l w B tk S t a)(hl:∀k,0<l k){i:Nat}(e:(tk a)[i]?=some X):tail (tk a).length (t a) i*(sm l X*sm l (own tk a))=B*(sm w X*sm l (own tk a)-sm w (own tk a)*sm l X):=by
 have hi:=(72 e).1;have h:=O5 (B:=B) (L:=λj=>sm l (blk tk a j)) (W:=λj=>sm w (blk tk a j)) (t:=t a) (m:=(tk a).length) (λj hj=>?_) N.tt ((tk a).length-i) i 66
 .have e1:blk tk a i=X:=by simp[blk,List.getD,List.getElem?_append_left hi,e]
  have e2:blk tk a (tk a).length=own tk a:=by simp[blk,List.getD]
  simp only[e1,e2]at h;exact h
 .refine sm_pos hl ?_;by_cases q:j<(tk a).length
  .have e1:blk tk a j=(tk a)[j]:=by simp[blk,List.getD,List.getElem?_append_left q,q]
   rw[e1];exact N.ne _ (List.getElem_mem q)
  .have:j=(tk a).length:=by omega
   have e2:blk tk a j=own tk a:=by rw[this];simp[blk,List.getD]
   rw[e2];simp[own]
def Flat.row(F:Flat l w B tk S t bs)(hl:∀k,0<l k){a m:Nat}(ha:a∉bs.flatten)(hz:∀x∈bs.flatten,ad l tk S t x a=0)(N:Nd l w B tk S t a)(e:tk a=bs.take m):Flat l w B tk S t (own tk a::bs.drop m):=by
 have fl:(own tk a::bs.drop m).flatten=a::bs.flatten:=by
  rw[own,e,jv,j9,<- jc,jf]
 have nd':(own tk a::bs.drop m).flatten.Nodup:=by rw[fl];exact nodup_cons.mpr ⟨ha,F.nd⟩
 have sub:∀{k},k∈(tk a).flatten->k∈bs.flatten:=λ{k} hk=>by
  obtain⟨X,hX,h⟩:=mem_flatten.mp hk;rw[e]at hX;exact mem_flatten.mpr ⟨X,ju hX,h⟩
 have P:=sm_pos hl (B:=own tk a) (by simp[own])
 -- each taken one's weight is now the block's
 have one:∀k∈(tk a).flatten,aw l w B tk S t (a::bs.flatten) k*sm l (own tk a)=B*sm w (own tk a)*l k:=by
  intro k hk;obtain⟨X,hX,hkX⟩:=mem_flatten.mp hk;obtain⟨i,hi⟩:=List.getElem?_of_mem hX;have hXb:X∈bs:=by rw[e]at hX;exact ju hX
  have h1:=F.fl X hXb k hkX;have h2:=N.tail hl hi;have h3:=N.at_ hi hkX;have Q:=sm_pos hl (B:=X) (F.ne X hXb);have e4:aw l w B tk S t (a::bs.flatten) k=aw l w B tk S t bs.flatten k-Sm.tail (tk a).length (t a) i*l k:=by
   simp only[aw,sm];rw[h3];omega
  rw[e4];refine Int.eq_of_mul_eq_mul_right (Int.ne_of_gt Q) ?_;generalize aw l w B tk S t bs.flatten k=v at *;generalize Sm.tail (tk a).length (t a) i=T at *;generalize sm l (own tk a)=x at *;generalize sm w (own tk a)=y at *;generalize sm l X=p at *;generalize sm w X=q at *;generalize l k=z at *;have e5:(v-T*z)*x*p=(v*p)*x-(T*(p*x))*z:=by grind
  rw[e5,h1,h2]
  grind
 refine⟨nd',λX hX=>?_,λX hX k hk=>?_,λx hx k hk=>?_,λx hx=>?_⟩
 .rcases mem_cons.mp hX with rfl|h
  .simp[own]
  .exact F.ne X (List.mem_of_mem_drop h)
 .rw[fl];rcases mem_cons.mp hX with rfl|h
  .rcases mem_cons.mp hk with rfl|hk
   . -- a itself: what the others have lost
    have tot:sm (aw l w B tk S t (k::bs.flatten)) (own tk k)=B*sm w (own tk k):=by
     have e1:sm (aw l w B tk S t (k::bs.flatten)) (own tk k)=sm (aw l w B tk S t bs.flatten) (own tk k)+sm (λx=>ad l tk S t k x) (own tk k):=by
      rw[<- JU];refine FX λx _=>?_;simp only[aw,sm];omega
     rw[e1,N.sum,add_zero,own,sm];have e2:aw l w B tk S t bs.flatten k=B*w k:=by rw[aw,Ff hz,add_zero]
     have e3:∀ts:List (List Nat),(∀X∈ts,X∈bs)->sm (aw l w B tk S t bs.flatten) ts.flatten=B*sm w ts.flatten:=by
      intro ts
      induction ts with
      |nil=>intro _;simp[sm]
      |cons X ts ih=>
       intro h;rw[jv,sm_app,sm_app,ih λY hY=>h Y (by simp[hY]),jk];have hX:=h X 70;have Q:=sm_pos hl (B:=X) (F.ne X hX);have:sm (aw l w B tk S t bs.flatten) X*sm l X=B*sm w X*sm l X:=by
        have q:sm (λk=>aw l w B tk S t bs.flatten k*sm l X) X=sm (λk=>l k*(B*sm w X)) X:=FX λk hk=>by rw[F.fl X hX k hk,jd]
        rw[FB,FB]at q;rw[q,jd]
       rw[Int.eq_of_mul_eq_mul_right (Int.ne_of_gt Q) this]
     rw[e2,e3 _ λX hX=>by rw[e]at hX;exact ju hX,sm,jk]
    have rest:sm (aw l w B tk S t (k::bs.flatten)) (tk k).flatten*sm l (own tk k)=B*sm w (own tk k)*sm l (tk k).flatten:=by
     rw[<- FB,FX one];have:(λx=>B*sm w (own tk k)*l x)=λx=>l x*(B*sm w (own tk k)):=by funext x;exact jd _ _
     rw[this,FB,jd]
    rw[show own tk k=k::(tk k).flatten from rfl,sm]at tot;have e6:sm l (own tk k)=l k+sm l (tk k).flatten:=rfl;generalize aw l w B tk S t (k::bs.flatten) k=v at *;generalize sm (aw l w B tk S t (k::bs.flatten)) (tk k).flatten=u at *;have e7:sm w (own tk k)=sm w (k::(tk k).flatten):=rfl;rw[<- e7]at tot;generalize sm w (own tk k)=y at *;generalize sm l (own tk k)=x at *;generalize sm l (tk k).flatten=z at *;have:v=B*y-u:=by omega
    rw[this,Int.sub_mul,rest,e6]
    grind
   .exact one k hk
  .have hb:=List.mem_of_mem_drop h;have:k∉own tk a:=by
    intro z;have nd:=nd';rw[jv]at nd;exact(nodup_append.mp nd).2.2 k z k (mem_flatten.mpr ⟨X,h,hk⟩) rfl
   rw[aw,sm,N.out this,zero_add];exact F.fl X hb k hk
 .rw[fl]at hx hk;have k1:k∉bs.flatten:=λz=>hk (j4 _ z);rcases mem_cons.mp hx with rfl|h
  .refine N.out λz=>?_;rcases mem_cons.mp z with rfl|z
   .exact hk jg
   .exact k1 (sub z)
  .exact F.sp x h k k1
 .rw[fl]at hx;rcases mem_cons.mp hx with rfl|h
  .exact⟨N,_,jg,List.infix_rfl⟩
  .obtain⟨h1,X,hX,h2⟩:=F.ow x h;refine⟨h1,?_⟩;rw[<- jf m bs]at hX;rcases mem_append.mp hX with q|q
   .refine⟨_,jg,h2.trans ?_⟩;rw[<- e]at q;obtain⟨P,Q,e9⟩:=kf q;exact⟨a::P.flatten,Q.flatten,by rw[own,e9];simp⟩
   .exact⟨X,j4 _ q,h2⟩
end Sm
namespace Sm
structure Pe where
 a:Nat
 S:List Nat
 t:Int
section
variable(l w:Nat->Int)(B:Int)
def vE(E:List Pe)(k:Nat):Int:=w k*B+(E.map λe=>e.t*pv l e.a e.S k).sum
def gE(E:List Pe):Int:=(E.map λe=>e.t*gn l e.S).sum
def Wn(E:List Pe)(e:Pe)(k:Nat):vE l w B (E++[e]) k=vE l w B E k+e.t*pv l e.a e.S k:=by simp[vE];omega
def Yz(E:List Pe)(e:Pe):gE l (E++[e])=gE l E+e.t*gn l e.S:=by simp[gE]
def fH(c:Int)(ks:71):cst l (λk=>w k*B) ks c 0=B*cst l w ks c 0:=by
 have h:=cst_add l (λ_=>0) w B ks c 0 0;have z:∀(ks:71) (e:Int),cst l (λ_=>0) ks e 0=0:=by
  intro ks
  induction ks with
  |nil=>intro e;rfl
  |cons k r ih=>intro e;rw[cst,zero_mul,add_zero];exact ih _
 rw[z,zero_add,mul_zero]at h;have e:(λk=>w k*B)=λk=>0+B*w k:=by funext k;rw[zero_add,jd]
 rw[e,h,zero_add]
theorem cst_E(c:Int):∀{E:List Pe},(∀e∈E,cst l (pv l e.a e.S) ks c 0=- gn l e.S)->gE l E+cst l (vE l w B E) ks c 0=B*cst l w ks c 0
 |[],_=>by
  rw[<- fH l w B c ks];have:vE l w B []=λk=>w k*B:=by funext k;simp[vE]
  rw[this];simp[gE]
 |e::E,h=>by
  have ih:=cst_E c (ks:=ks) (E:=E) λx hx=>h x (by simp[hx]);have h0:=h e 70;have e1:vE l w B (e::E)=λk=>vE l w B E k+e.t*pv l e.a e.S k:=by funext k;simp[vE];omega
  have h3:=cst_add l (vE l w B E) (pv l e.a e.S) e.t ks c 0 0;rw[mul_zero,add_zero]at h3;have e2:gE l (e::E)=e.t*gn l e.S+gE l E:=by simp[gE]
  rw[e1,e2,h3,h0,mul_neg];omega
end
variable{l w:Nat->Int}{B:Int}{tk:Nat->List (List Nat)}{S:Nat->Nat->List Nat}{t:Nat->Nat->Int}
noncomputable abbrev pes(tk:Nat->List (List Nat))(S:Nat->Nat->List Nat)(t:Nat->Nat->Int)(a:Nat):List Pe:=(69 (tk a).length).map λj=>⟨a,S a j,t a j⟩
theorem M4(f:Pe->Int)(g:Nat->List Pe):∀A:List Nat,((A.flatMap g).map f).sum=sm (λa=>((g a).map f).sum) A
 |[]=>rfl
 |x::A=>by rw[k0,jl,sum_append,M4 f g A];rfl
theorem O6(f:Nat->Int):∀A:List Nat,(A.map f).sum=sm f A
 |[]=>rfl
 |x::A=>by simp only[iw,sum_cons,sm];rw[O6 f A]
def de{n:Nat}{bs:71}(p:bs.Perm (69 n))(k:Nat):vE l w B ((69 n).flatMap (pes tk S t)) k=aw l w B tk S t bs k:=by
 rw[vE,M4,aw,Cu _ p,jd]
 congr 1
 refine FX λa _=>?_;rw[iZ,O6];rfl
def Flat.fin(F:Flat l w B tk S t bs)(hl:∀k,0<l k)(hB:0<=B)(fall:bs.Pairwise λX Y=>sm w Y*sm l X<=sm w X*sm l Y){n:Nat}(p:bs.flatten.Perm (69 n))(c:Int):
 gE l ((69 n).flatMap (pes tk S t))+least l (vE l w B ((69 n).flatMap (pes tk S t))) c n=B*cst l w bs.flatten c 0:=by
 have e1:vE l w B ((69 n).flatMap (pes tk S t))=aw l w B tk S t bs.flatten:=by funext k;exact de p k
 have same:∀X∈bs,∀Y∈bs,sm w Y*sm l X<=sm w X*sm l Y->∀x∈X,∀y∈Y,l x*aw l w B tk S t bs.flatten y<=l y*aw l w B tk S t bs.flatten x:=by
  intro X hX Y hY ge x hx y hy;have P:=sm_pos hl (F.ne X hX);have Q:=sm_pos hl (F.ne Y hY);have h1:=F.fl X hX x hx;have h2:=F.fl Y hY y hy;refine Int.le_of_mul_le_mul_right (a:=sm l X*sm l Y) ?_ (jT P Q);have lx:=hl x;have ly:=hl y;generalize aw l w B tk S t bs.flatten x=vx at *;generalize aw l w B tk S t bs.flatten y=vy at *;have e3:l x*vy*(sm l X*sm l Y)=l x*sm l X*(vy*sm l Y):=by grind
  have e4:l y*vx*(sm l X*sm l Y)=l y*sm l Y*(vx*sm l X):=by grind
  rw[e3,e4,h1,h2];have e5:l x*sm l X*(B*sm w Y*l y)=(B*(l x*l y))*(sm w Y*sm l X):=by grind
  have e6:l y*sm l Y*(B*sm w X*l x)=(B*(l x*l y))*(sm w X*sm l Y):=by grind
  rw[e5,e6];exact Int.mul_le_mul_of_nonneg_left ge (jS hB (Int.le_of_lt (jT lx ly)))
 have pw:bs.flatten.Pairwise λx y=>l x*aw l w B tk S t bs.flatten y<=l y*aw l w B tk S t bs.flatten x:=by
  rw[List.pairwise_flatten];refine⟨λX hX=>?_,?_⟩
  .rw[List.pairwise_iff_forall_sublist];intro x y s;exact same X hX X hX (Int.le_refl _) x (s.subset 70) y (s.subset 70)
  .rw[List.pairwise_iff_forall_sublist]at fall ⊢;intro X Y s x hx y hy;exact same X (s.subset 70) Y (s.subset 70) (fall s) x hx y hy
 rw[<- cst_E l w B c (ks:=bs.flatten),e1,VM l _ c p pw];intro e he;obtain⟨a,ha,h⟩:=mem_flatMap.mp he;obtain⟨j,hj,rfl⟩:=mem_map.mp h;have hj:j<(tk a).length:=by simpa using hj
 obtain⟨N,X,hX,P,Q,eX⟩:=F.ow a (p.mem_iff.mpr ha);obtain⟨P',Q',e9⟩:=kf hX;have eo:bs.flatten=(P'.flatten++P)++a::(((tk a).take (j+1)).flatten++(((tk a).drop (j+1)).flatten++Q++Q'.flatten)):=by
  have e7:(tk a).flatten=((tk a).take (j+1)).flatten++((tk a).drop (j+1)).flatten:=by rw[<- jc,jf]
  conv=>lhs;rw[e9]
  rw[jc,jv,<- eX,own,e7];simp
 have nd:=F.nd;rw[eo]at nd;have h:=V1 l nd ((N.st j hj).symm) c;rw[<- eo]at h;exact h
end Sm
namespace L2
open PySem PySem.W PyProof.Rows
def feE{K:Frag}{e:Df}(h:Ea.Fe K n s)(hn:e.x=n:=by rfl)(hs:e.st=s:=by rfl):Fe K e:=by subst hn;subst hs;exact h
def zsE{K:Frag}(h:Ea.Zs K):Zs K:=h
end L2
namespace T63
open PySem L2
noncomputable abbrev IZ:Stmt:=top 5
def MN:FnScope ["thing"] ["thing"] (AC IZ):=Ar (by kernel_rfl)
@[reducible] noncomputable def Np:MS:=(AR (De (Dd .int (A0 0)) (IC (Dd .bool (A0 0)))))
noncomputable def DE:FD:=mkF 1 1 Np
noncomputable abbrev EJ:Df:=⟨"is_number",IZ,["thing"],1,DE⟩
noncomputable abbrev FG:Stmt:=top 6
def IS:FnScope ["least","thing"] ["least","thing"] (AC FG):=Ar (by kernel_rfl)
@[reducible] noncomputable def J1:MS:=(AR (De (A8 0 DE (A2 (A0 1) A4)) (mOp gGe (A0 1) (A0 0))))
noncomputable def C0:FD:=mkF 2 2 J1
noncomputable abbrev CU:Df:=⟨"is_number_from",FG,["least","thing"],2,C0⟩
noncomputable abbrev Dq:Stmt:=top 7
def GO:FnScope ["many","thing"] ["many","thing"] (AC Dq):=Ar (by kernel_rfl)
@[reducible] noncomputable def HA:MS:=(AR (De (A8 0 C0 (A2 (mC (.int 0)) (A2 (A0 1) A4))) (mOp gLt (A0 1) (A0 0))))
noncomputable def BQ:FD:=mkF 2 2 HA
noncomputable abbrev C5:Df:=⟨"is_number_of_work",Dq,["many","thing"],3,BQ⟩
noncomputable abbrev Gw:Stmt:=top 8
def KD:FnScope ["many","thing"] ["many","thing"] (AC Gw):=Ar (by kernel_rfl)
@[reducible] noncomputable def LX:MS:=(AR (De (Dd .tuple (A0 1)) (mOp gEq (mCB (f1 true Aj) (A2 (A0 1) A4)) (A0 0))))
noncomputable def CA:FD:=mkF 2 2 LX
noncomputable abbrev DJ:Df:=⟨"is_tuple_of",Gw,["many","thing"],1,CA⟩
noncomputable abbrev OC:Stmt:=top 9
def UD:FnScope ["things"] ["things"] (AC OC):=Ar (by kernel_rfl)
@[reducible] noncomputable def Yn:MS:=(AR (BM Dh (Ai 2 [] (J4 (Az (A0 0)) (Az (D1 (A0 0) (Bf (mC (.int 1))) B6))) (BB 2 (AJ (AB 0) (AJ (AB 1) BG))) B2 (mOp gLt (A0 0) (A0 1)))))
noncomputable def IN:FD:=mkF 1 1 Yn
noncomputable abbrev Kf:Df:=⟨"rises",OC,["things"],1,IN⟩
noncomputable abbrev Ei:Stmt:=top 10
def HL:FnScope ["many","thing"] ["many","thing"] (AC Ei):=Ar (by kernel_rfl)
@[reducible] noncomputable def IV:MS:=(A9 (Ax (mOr (CQ (BH (Dd .tuple (A0 1)))) (CQ (BH (BM Dh (Ai 1 [0] (Az (A0 1)) (AB 0) B2 (A8 0 BQ (A2 (A0 1) (A2 (A0 0) A4))))))))
 (AR (mC (.bl false)))
 Ah)
 (AR (A8 0 IN (A2 (A0 1) A4))))
noncomputable def CK:FD:=mkF 2 2 IV
noncomputable abbrev D5:Df:=⟨"is_set_of_works",Ei,["many","thing"],4,CK⟩
noncomputable abbrev FH:Stmt:=top 12
def IT:FnScope ["one","other"] ["one","other"] (AC FH):=Ar (by kernel_rfl)
@[reducible] noncomputable def J3:MS:=(A9 (AF 0 (mCB Ka (A2 (A0 0) A4)))
 (A9 (Co (AG (mOp gNe (A0 1) (mC (.int 0))))
  (D3 [0,1] (A2 (A0 1) (A2 (mOp Ed (A0 0) (A0 1)) A4))))
 (AR (A0 0))))
noncomputable def BW:FD:=mkF 2 2 J3
noncomputable abbrev CV:Df:=⟨"common_divisor",FH,["one","other"],1,BW⟩
noncomputable abbrev Gx:Stmt:=top 13
def KF:FnScope ["thing","top","bottom"] ["thing"] (AC Gx):=Ar (by kernel_rfl)
@[reducible] noncomputable def LY:MS:=(A9 (Ax (CQ (BH (A8 0 CA (A2 (mC (.int 2)) (A2 (A0 0) A4)))))
 (AR (mC (.bl false)))
 Ah)
 (A9 (Ec (A0 0) (BB 2 (AJ (AB 1) (AJ (AB 2) BG))))
 (A9 (Ax (mOr (CQ (BH (A8 0 DE (A2 (A0 1) A4)))) (CQ (BH (A8 0 C0 (A2 (mC (.int 1)) (A2 (A0 2) A4))))))
  (AR (mC (.bl false)))
  Ah)
 (AR (mOp gEq (A8 0 BW (A2 (A0 1) (A2 (A0 2) A4))) (mC (.int 1)))))))
noncomputable def DM:FD:=mkF 1 3 LY
noncomputable abbrev Ef:Df:=⟨"is_fraction",Gx,["thing"],3,DM⟩
noncomputable abbrev Ja:Stmt:=top 14
def Nk:FnScope ["top","bottom","shared"] ["top","bottom"] (AC Ja):=Ar (by kernel_rfl)
@[reducible] noncomputable def Q7:MS:=(A9 (Ax (AG (mOp gLt (A0 1) (mC (.int 0))))
 (D3 [0,1] (A2 (J7 (A0 0)) (A2 (J7 (A0 1)) A4)))
 Ah)
 (A9 (AF 2 (A8 0 BW (A2 (A0 0) (A2 (A0 1) A4))))
 (AR (Aw (A2 (mOp ET (A0 0) (A0 2)) (A2 (mOp ET (A0 1) (A0 2)) A4))))))
noncomputable def Cz:FD:=mkF 2 3 Q7
noncomputable abbrev Dj:Df:=⟨"fraction",Ja,["top","bottom"],2,Cz⟩
noncomputable abbrev OD:Stmt:=top 15
def UE:FnScope ["one","other"] ["one","other"] (AC OD):=Ar (by kernel_rfl)
@[reducible] noncomputable def Yo:MS:=(AR (A8 0 Cz (A2 (mOp Jt (mOp B8 (mOp gIx (A0 0) (mC (.int 0))) (mOp gIx (A0 1) (mC (.int 1)))) (mOp B8 (mOp gIx (A0 1) (mC (.int 0))) (mOp gIx (A0 0) (mC (.int 1))))) (A2 (mOp B8 (mOp gIx (A0 0) (mC (.int 1))) (mOp gIx (A0 1) (mC (.int 1)))) A4))))
noncomputable def IP:FD:=mkF 2 2 Yo
noncomputable abbrev Kg:Df:=⟨"minus",OD,["one","other"],3,IP⟩
noncomputable abbrev Ro:Stmt:=top 16
def X2:FnScope ["one","other"] ["one","other"] (AC Ro):=Ar (by kernel_rfl)
@[reducible] def cJ:MS:=(AR (mOp gLt (mOp B8 (mOp gIx (A0 0) (mC (.int 0))) (mOp gIx (A0 1) (mC (.int 1)))) (mOp B8 (mOp gIx (A0 1) (mC (.int 0))) (mOp gIx (A0 0) (mC (.int 1))))))
noncomputable def Ht:FD:=mkF 2 2 cJ
noncomputable abbrev Jz:Df:=⟨"less",Ro,["one","other"],1,Ht⟩
noncomputable abbrev Ks:Stmt:=top 17
def Pi:FnScope ["ratios","row","k","ratio"] ["ratios"] (AC Ks):=Ar (by kernel_rfl)
@[reducible] noncomputable def Sh:MS:=(A9 (AF 1 (Ag (Ba A4)))
 (A9 (Bo (EC (BR (A0 0))) (BB 2 (AJ (AB 2) (AJ (AB 3) BG)))
  (BF (mMt F4 (A0 1) (A2 (BM Aj (Ai 1 [0,3] (BR (A0 1)) (AB 0) (CQ (BH (A8 0 Ht (A2 (mOp gIx (A0 1) (A0 0)) (A2 (A0 2) A4))))) (A0 0))) (A2 (A0 2) A4)))))
 (AR (A0 1))))
noncomputable def Fd:FD:=mkF 1 4 Sh
noncomputable abbrev Hn:Df:=⟨"falling",Ks,["ratios"],2,Fd⟩
noncomputable abbrev IY:Stmt:=top 19
def ML:FnScope ["works","some"] ["works","some"] (AC IY):=Ar (by kernel_rfl)
@[reducible] noncomputable def No:MS:=(AR (BM E5 (Ai 1 [0] (Az (A0 1)) (AB 0) B2 (mOp gIx (mOp gIx (A0 1) (A0 0)) (mC (.int 0))))))
noncomputable def CH:FD:=mkF 2 2 No
noncomputable abbrev EI:Df:=⟨"length_of",IY,["works","some"],1,CH⟩
noncomputable abbrev Gu:Stmt:=top 20
def KB:FnScope ["works","coming"] ["works"] (AC Gu):=Ar (by kernel_rfl)
@[reducible] noncomputable def LV:MS:=(A9 (AF 1 (mOp gIx (mOp gIx (A0 0) (mC (.int 0))) (mC (.int 1))))
 (A9 (Ax (BH (BM Dh (Ai 1 [1] (Az (A0 0)) (AB 0) B2 (mOp gEq (mOp gIx (A0 0) (mC (.int 1))) (A0 1)))))
  (AR (A0 1))
  Ah)
 (AR (mC .non))))
noncomputable def DL:FD:=mkF 1 2 LV
noncomputable abbrev Ee:Df:=⟨"same_coming",Gu,["works"],1,DL⟩
noncomputable abbrev HM:Stmt:=top 21
def LU:FnScope ["works","coming"] ["works"] (AC HM):=Ar (by kernel_rfl)
@[reducible] noncomputable def N0:MS:=(A9 (AF 1 (A8 0 DL (A2 (A0 0) A4)))
 (A9 (Ax (AG (Fh false (A0 1)))
  Dc
  Ah)
 (AR (A0 1))))
noncomputable def Dp:FD:=mkF 1 2 N0
noncomputable abbrev FS:Df:=⟨"one_coming",HM,["works"],2,Dp⟩
noncomputable abbrev DZ:Stmt:=top 22
def Fv:FnScope ["works","word"] ["works","word"] (AC DZ):=Ar (by kernel_rfl)
@[reducible] noncomputable def GU:MS:=(Ax (BH (BM N6 (Ai 1 [1] (Az (A0 0)) (AB 0) B2 (mOp gNe (mOp gIx (mOp gIx (A0 0) (mC (.int 2))) (mC (.int 0))) (A0 1)))))
 Dc
 Ah)
noncomputable def Bq:FD:=mkF 2 2 GU
noncomputable abbrev CT:Df:=⟨"refuse_other_costs",DZ,["works","word"],1,Bq⟩
noncomputable abbrev IW:Stmt:=top 23
def MJ:FnScope ["work"] ["work"] (AC IW):=Ar (by kernel_rfl)
@[reducible] noncomputable def Nm:MS:=(AR (mOp gIx (mOp gIx (A0 0) (mC (.int 2))) (J7 (mC (.int 1)))))
noncomputable def Cd:FD:=mkF 1 1 Nm
noncomputable abbrev DC:Df:=⟨"weight_of",IW,["work"],1,Cd⟩
noncomputable abbrev Eh:Stmt:=top 25
def HK:FnScope ["works","coming"] ["works"] (AC Eh):=Ar (by kernel_rfl)
@[reducible] noncomputable def IU:MS:=(A9 (AF 1 (A8 0 Dp (A2 (A0 0) A4)))
 (A9 (BF (A8 0 Bq (A2 (A0 0) (A2 (mC (.str "ends")) A4))))
 (AR (A0 1))))
noncomputable def BN:FD:=mkF 1 2 IU
noncomputable abbrev Bj:Df:=⟨"weighted_coming",Eh,["works"],3,BN⟩
noncomputable abbrev JY:Stmt:=top 26
def Ni:FnScope ["works","some"] ["works","some"] (AC JY):=Ar (by kernel_rfl)
@[reducible] noncomputable def Q5:MS:=(AR (A8 0 Cz (A2 (BM E5 (Ai 1 [0] (Az (A0 1)) (AB 0) B2 (A8 0 Cd (A2 (mOp gIx (A0 1) (A0 0)) A4)))) (A2 (A8 0 CH (A2 (A0 0) (A2 (A0 1) A4))) A4))))
noncomputable def CG:FD:=mkF 2 2 Q5
noncomputable abbrev Et:Df:=⟨"ratio_of",JY,["works","some"],3,CG⟩
noncomputable abbrev Ip:Stmt:=top 35
def Re:FnScope ["works","wishes","a","line","block","many"] ["works","wishes","a"] (AC Ip):=Ar (by kernel_rfl)
@[reducible] noncomputable def Mz(Fc:FD):MS:=(A9 (AF 3 (Cb Fc (A2 (A0 0) (A2 (A0 1) (A2 (Ag (Ai 2 [2] (Az (A0 1)) (BB 2 (AJ (AB 0) (AJ (AB 1) BG))) (AG (mOp gEq (A0 0) (A0 2))) (A0 1))) A4)))))
 (A9 (AF 4 (Aw (A2 (A0 2) A4)))
 (A9 (AF 5 (mC (.int 0)))
 (A9 (Co (DO (AG (mOp gLt (A0 5) (mCB (f1 true Aj) (A2 (A0 3) A4)))) (BH (A8 0 Ht (A2 (A8 0 CG (A2 (A0 0) (A2 (A0 4) A4))) (A2 (A8 0 CG (A2 (A0 0) (A2 (mOp gIx (A0 3) (A0 5)) A4))) A4)))))
  (A9 (AF 4 (mOp Aa (A0 4) (mOp gIx (A0 3) (A0 5))))
 (Ga 5 (λi j=>i+j) (mC (.int 1)))))
 (AR (Aw (A2 (A0 4) (A2 (Ag (Fg (A0 3) B6 (Bf (A0 5)))) (A2 (Ag (Fg (A0 3) (Bf (A0 5)) B6)) A4)))))))))
noncomputable abbrev HP:Stmt:=top 36
def Ph:FnScope ["works","wishes","some","blocks","a","block","taken","left"] ["works","wishes","some"] (AC HP):=Ar (by kernel_rfl)
@[reducible] noncomputable def Ky(Gn:FD):MS:=(A9 (AF 3 (Ag (Ba A4)))
 (A9 (Bo (BR (A0 2)) (AB 4)
  (FN (A9 (Ec (D8 Gn (A2 (A0 0) (A2 (A0 1) (A2 (A0 4) A4)))) (BB 3 (AJ (AB 5) (AJ (AB 6) (AJ (AB 7) BG)))))
 (GZ 3 (Ag (J8 (Ag (Ba (A2 (A0 5) A4))) (A0 7)))))))
 (AR (Ag (Ai 1 [3] (BR (Cb Fd (A2 (Ag (Ai 1 [0] (BR (A0 3)) (AB 0) B2 (A8 0 CG (A2 (A0 1) (A2 (A0 0) A4))))) A4))) (AB 0) B2 (mOp gIx (A0 1) (A0 0)))))))
noncomputable def RR:Nat->FD×FD
 |0=>(λ_ _=>none,λ_ _=>none)
 |n+1=>(mkF 3 6 (Mz (RR n).2),mkF 3 8 (Ky (RR n).1))
noncomputable abbrev JL(n:Nat):FD:=(RR n).1
noncomputable abbrev Gn:FD:=JL 18
noncomputable abbrev JC:Df:=⟨"row_of",Ip,["works","wishes","a"],21,Gn⟩
noncomputable abbrev Hs(n:Nat):FD:=(RR n).2
noncomputable abbrev Fc:FD:=Hs 18
noncomputable abbrev Hm:Df:=⟨"line_of",HP,["works","wishes","some"],21,Fc⟩
noncomputable abbrev Gv:Stmt:=top 27
def KC:FnScope ["coming","lengths","weights","alone","pairs"] ["coming","lengths","weights"] (AC Gv):=Ar (by kernel_rfl)
@[reducible] noncomputable def LW:MS:=(A9 (AF 3 (BM E5 (Ai 2 [0] (J4 (BR (A0 1)) (BR (A0 2))) (BB 2 (AJ (AB 0) (AJ (AB 1) BG))) B2 (mOp B8 (A0 1) (mOp Aa (A0 2) (A0 0))))))
 (A9 (AF 4 (CM 2 [] (CL (A2 (mCB (f1 true Aj) (A2 (A0 1) A4)) A4)) (AB 0) B2 (CL (A2 (A0 0) A4)) (AB 1) B2 (Aw (A2 (A0 1) (A2 (A0 0) A4)))))
 (AR (mOp Aa (A0 3) (BM E5 (Ai 2 [1,2] (BR (A0 4)) (BB 2 (AJ (AB 0) (AJ (AB 1) BG))) B2 (mCB IJ (A2 (mOp B8 (mOp gIx (A0 2) (A0 0)) (mOp gIx (A0 3) (A0 1))) (A2 (mOp B8 (mOp gIx (A0 2) (A0 1)) (mOp gIx (A0 3) (A0 0))) A4)))))))))
noncomputable def Bg:FD:=mkF 3 5 LW
noncomputable abbrev DI:Df:=⟨"pair_sum_of",Gv,["coming","lengths","weights"],1,Bg⟩
noncomputable abbrev JZ:Stmt:=top 28
def Nj:FnScope ["works","coming"] ["works"] (AC JZ):=Ar (by kernel_rfl)
@[reducible] noncomputable def Q6:MS:=(A9 (AF 1 (A8 0 BN (A2 (A0 0) A4)))
 (AR (Cb Bg (A2 (A0 1) (A2 (Ag (Ai 1 [] (Az (A0 0)) (AB 0) B2 (mOp gIx (A0 0) (mC (.int 0))))) (A2 (Ag (Ai 1 [] (Az (A0 0)) (AB 0) B2 (A8 0 Cd (A2 (A0 0) A4)))) A4))))))
noncomputable def Ew:FD:=mkF 1 2 Q6
noncomputable abbrev Gi:Df:=⟨"pair_sum",JZ,["works"],4,Ew⟩
noncomputable abbrev Kr:Stmt:=top 30
def Pd:FnScope ["pairs","a","found","fresh","at","one","other"] ["pairs","a"] (AC Kr):=Ar (by kernel_rfl)
@[reducible] noncomputable def HR:MS:=(A9 (AF 2 (Ag (Ba A4)))
 (A9 (AF 3 (Ag (Ba (A2 (A0 1) A4))))
 (A9 (Co (BH (A0 3))
  (A9 (AF 4 (mMt Hj (A0 3) A4))
 (Bo (D4 (A0 0)) (BB 2 (AJ (AB 5) (AJ (AB 6) BG)))
  (Ax (DO (AG (mOp gEq (A0 5) (A0 4))) (AG (mOp (gIn true) (A0 6) (A0 2))))
  (A9 (BF (mMt Au (A0 2) (A2 (A0 6) A4)))
 (BF (mMt Au (A0 3) (A2 (A0 6) A4))))
  Ah))))
 (AR (BM Bb (Bv (BR (A0 2))))))))
noncomputable def F_reached:FD:=mkF 2 7 HR
noncomputable abbrev Hk:Df:=⟨"reached",Kr,["pairs","a"],1,F_reached⟩
noncomputable abbrev MX:Stmt:=top 31
def Rk:FnScope ["many","wishes","a"] ["many","wishes","a"] (AC MX):=Ar (by kernel_rfl)
@[reducible] noncomputable def KR:MS:=(AR (A8 0 F_reached (A2 (A0 1) (A2 (A0 2) A4))))
noncomputable def F_behind:FD:=mkF 3 3 KR
noncomputable abbrev JH:Df:=⟨"behind",MX,["many","wishes","a"],2,F_behind⟩
noncomputable abbrev Ia:Stmt:=top 32
def MP:FnScope ["many","wishes"] ["many","wishes"] (AC Ia):=Ar (by kernel_rfl)
@[reducible] noncomputable def Nq:MS:=(AR (mOp gEq (ID (Hf 2 [] (Az (A0 1)) (BB 2 (AJ (AB 0) (AJ (AB 1) BG))) B2 [] (Jo (A0 1)))) (mCB (f1 true Aj) (A2 (A0 1) A4))))
noncomputable def EM:FD:=mkF 2 2 Nq
noncomputable abbrev Fm:Df:=⟨"is_forest",Ia,["many","wishes"],1,EM⟩
noncomputable abbrev EN:Stmt:=top 34
def Gz:FnScope ["works","wishes"] ["works","wishes"] (AC EN):=Ar (by kernel_rfl)
@[reducible] noncomputable def Ha:MS:=(A9 (BF (A8 0 BN (A2 (A0 0) A4)))
 (Ax (CQ (BH (A8 0 EM (A2 (mCB (f1 true Aj) (A2 (A0 0) A4)) (A2 (A0 1) A4)))))
  Dc
  Ah))
noncomputable def CF:FD:=mkF 2 2 Ha
noncomputable abbrev Cp:Df:=⟨"refuse_no_forest",EN,["works","wishes"],4,CF⟩
noncomputable abbrev MV:Stmt:=top 37
def Ri:FnScope ["works","wishes","seconds"] ["works","wishes"] (AC MV):=Ar (by kernel_rfl)
@[reducible] noncomputable def VH:MS:=(A9 (BF (A8 0 CF (A2 (A0 0) (A2 (A0 1) A4))))
 (A9 (AF 2 (Ag (Ai 2 [] (Az (A0 1)) (BB 2 (AJ (AB 0) (AJ (AB 1) BG))) B2 (A0 1))))
 (AR (Cb Fc (A2 (A0 0) (A2 (A0 1) (A2 (Ag (Ai 1 [2] (CL (A2 (mCB (f1 true Aj) (A2 (A0 0) A4)) A4)) (AB 0) (AG (mOp (gIn true) (A0 0) (A0 1))) (A0 0))) A4)))))))
noncomputable def Gp:FD:=mkF 2 3 VH
noncomputable abbrev JF:Df:=⟨"joined",MV,["works","wishes"],22,Gp⟩
noncomputable abbrev IX:Stmt:=top 38
def MK:FnScope ["works","wishes","a","block","taken","left","ratios","entries","some","k","one"] ["works","wishes","a"] (AC IX):=Ar (by kernel_rfl)
@[reducible] noncomputable def Nn:MS:=(A9 (Ec (D8 Gn (A2 (A0 0) (A2 (A0 1) (A2 (A0 2) A4)))) (BB 3 (AJ (AB 3) (AJ (AB 4) (AJ (AB 5) BG)))))
 (A9 (AF 6 (Ag (J8 (Ag (Ai 1 [0] (BR (A0 4)) (AB 0) B2 (A8 0 CG (A2 (A0 1) (A2 (A0 0) A4))))) (Ag (Ba (A2 (A8 0 CG (A2 (A0 0) (A2 (A0 3) A4))) A4))))))
 (A9 (AF 7 (Ag (Ba A4)))
 (A9 (AF 8 (Aw A4))
 (A9 (Bo (EC (BR (A0 4))) (BB 2 (AJ (AB 9) (AJ (AB 10) BG)))
  (A9 (AF 8 (BM Bb (Bv (Az (mOp DH (A0 8) (A0 10))))))
 (BF (mMt Au (A0 7) (A2 (Aw (A2 (A0 2) (A2 (A0 8) (A2 (A8 0 IP (A2 (mOp gIx (A0 6) (A0 9)) (A2 (mOp gIx (A0 6) (mOp Aa (A0 9) (mC (.int 1)))) A4))) A4)))) A4)))))
 (AR (A0 7)))))))
noncomputable def EL:FD:=mkF 3 11 Nn
noncomputable abbrev Fk:Df:=⟨"prices_of",IX,["works","wishes","a"],22,EL⟩
noncomputable abbrev Fw:Stmt:=top 39
def JW:FnScope ["works","wishes","order","prices"] ["works","wishes"] (AC Fw):=Ar (by kernel_rfl)
@[reducible] noncomputable def KP:MS:=(A9 (AF 2 (CM 2 [] (D4 (D8 Gp (A2 (A0 0) (A2 (A0 1) A4)))) (AB 0) B2 (Az (A0 0)) (AB 1) B2 (A0 1)))
 (A9 (AF 3 (CM 2 [0,1] (CL (A2 (mCB (f1 true Aj) (A2 (A0 0) A4)) A4)) (AB 0) B2 (D4 (D8 EL (A2 (A0 2) (A2 (A0 3) (A2 (A0 0) A4))))) (AB 1) B2 (A0 1)))
 (AR (Aw (A2 (mCB (f1 true Bb) (A2 (A0 2) A4)) (A2 (mCB (f1 true Bb) (A2 (A0 3) A4)) A4))))))
noncomputable def BV:FD:=mkF 2 4 KP
noncomputable abbrev E9:Df:=⟨"forest_order",Fw,["works","wishes"],23,BV⟩
noncomputable abbrev Rp:Stmt:=top 41
def X3:FnScope ["works","some","lengths"] ["works","some"] (AC Rp):=Ar (by kernel_rfl)
@[reducible] def cK:MS:=(A9 (AF 2 (Ag (Ai 1 [0] (Az (A0 1)) (AB 0) B2 (mOp gIx (mOp gIx (A0 1) (A0 0)) (mC (.int 0))))))
 (AR (mCB (f1 true E5) (A2 (CM 2 [2] (CL (A2 (mCB (f1 true Aj) (A2 (A0 2) A4)) A4)) (AB 0) B2 (CL (A2 (mOp Aa (A0 0) (mC (.int 1))) A4)) (AB 1) B2 (mOp B8 (mOp gIx (A0 2) (A0 1)) (mOp gIx (A0 2) (A0 0)))) A4))))
noncomputable def K7:FD:=mkF 2 3 cK
noncomputable abbrev NL:Df:=⟨"gain",Rp,["works","some"],1,K7⟩
noncomputable abbrev Jc:Stmt:=top 42
def Nl:FnScope ["works","wishes","entry","a","some","price","later"] ["works","wishes","entry"] (AC Jc):=Ar (by kernel_rfl)
@[reducible] noncomputable def Q8:MS:=(A9 (Ec (A0 2) (BB 3 (AJ (AB 3) (AJ (AB 4) (AJ (AB 5) BG)))))
 (A9 (Ax (CQ (BH (A8 0 BQ (A2 (mCB (f1 true Aj) (A2 (A0 0) A4)) (A2 (A0 3) A4)))))
  (AR (mC (.str "work")))
  Ah)
 (A9 (Ax (CQ (BH (A8 0 CK (A2 (mCB (f1 true Aj) (A2 (A0 0) A4)) (A2 (A0 4) A4)))))
  (AR (mC (.str "set")))
  Ah)
 (A9 (AF 6 (A8 0 F_behind (A2 (mCB (f1 true Aj) (A2 (A0 0) A4)) (A2 (A0 1) (A2 (A0 3) A4)))))
 (A9 (Ax (CQ (BH (BM Dh (Ai 1 [6] (Az (A0 4)) (AB 0) B2 (mOp (gIn false) (A0 0) (A0 1))))))
  (AR (mC (.str "behind")))
  Ah)
 (A9 (Ax (mOr (CQ (BH (A8 0 DM (A2 (A0 5) A4)))) (AG (mOp gLt (mOp gIx (A0 5) (mC (.int 0))) (mC (.int 0)))))
  (AR (mC (.str "price")))
  Ah)
 (AR (mC .non))))))))
noncomputable def Ex:FD:=mkF 3 7 Q8
noncomputable abbrev Gj:Df:=⟨"fault_of",Jc,["works","wishes","entry"],5,Ex⟩
noncomputable abbrev FF:Stmt:=top 43
def IR:FnScope ["works","wishes","thing","k","entry","word"] ["works","wishes","thing"] (AC FF):=Ar (by kernel_rfl)
@[reducible] noncomputable def J0:MS:=(A9 (Ax (mOr (CQ (BH (Dd .tuple (A0 2)))) (CQ (BH (BM Dh (Ai 1 [] (Az (A0 2)) (AB 0) B2 (A8 0 CA (A2 (mC (.int 3)) (A2 (A0 0) A4))))))))
 Dc
 Ah)
 (Bo (EC (Az (A0 2))) (BB 2 (AJ (AB 3) (AJ (AB 4) BG)))
  (A9 (AF 5 (A8 0 Ex (A2 (A0 0) (A2 (A0 1) (A2 (A0 4) A4)))))
 (Ax (AG (Fh true (A0 5)))
  Dc
  Ah))))
noncomputable def CY:FD:=mkF 3 6 J0
noncomputable abbrev DP:Df:=⟨"look_at_prices",FF,["works","wishes","thing"],6,CY⟩
noncomputable abbrev FY:Stmt:=top 44
def Io:FnScope ["prices","bottom","a","some","price"] ["prices"] (AC FY):=Ar (by kernel_rfl)
@[reducible] noncomputable def Jm:MS:=(A9 (AF 1 (mC (.int 1)))
 (A9 (Bo (Az (A0 0)) (BB 3 (AJ (AB 2) (AJ (AB 3) (AJ (AB 4) BG))))
  (GY 1 (mOp gIx (A0 4) (mC (.int 1)))))
 (AR (A0 1))))
noncomputable def Ci:FD:=mkF 1 5 Jm
noncomputable abbrev Dk:Df:=⟨"common_bottom",FY,["prices"],1,Ci⟩
noncomputable abbrev MR:Stmt:=top 45
def Rf:FnScope ["works","wishes","thing","coming","bottom","weights","gains","a","some","price","top","b"] ["works","wishes","thing"] (AC MR):=Ar (by kernel_rfl)
@[reducible] noncomputable def VF:MS:=(A9 (AF 3 (A8 0 BN (A2 (A0 0) A4)))
 (A9 (BF (A8 0 CY (A2 (A0 0) (A2 (A0 1) (A2 (A0 2) A4)))))
 (A9 (AF 4 (A8 0 Ci (A2 (A0 2) A4)))
 (A9 (AF 5 (Ag (Ai 1 [4] (Az (A0 0)) (AB 0) B2 (mOp B8 (A8 0 Cd (A2 (A0 0) A4)) (A0 1)))))
 (A9 (AF 6 (mC (.int 0)))
 (A9 (Bo (Az (A0 2)) (BB 3 (AJ (AB 7) (AJ (AB 8) (AJ (AB 9) BG))))
  (A9 (AF 10 (mOp B8 (mOp gIx (A0 9) (mC (.int 0))) (mOp ET (A0 4) (mOp gIx (A0 9) (mC (.int 1))))))
 (A9 (Ga 6 (λi j=>i+j) (mOp B8 (A0 10) (A8 0 K7 (A2 (A0 0) (A2 (A0 8) A4)))))
 (A9 (GW (A0 5) (A0 7) (mOp B8 (A0 10) (A8 0 CH (A2 (A0 0) (A2 (A0 8) A4)))) (λi j=>i+j))
 (Bo (Az (A0 8)) (AB 11)
  (GW (A0 5) (A0 11) (mOp B8 (A0 10) (mOp gIx (mOp gIx (A0 0) (A0 11)) (mC (.int 0)))) (λi j=>i-j)))))))
 (AR (A8 0 Cz (A2 (mOp Aa (A0 6) (Cb Bg (A2 (A0 3) (A2 (Ag (Ai 1 [] (Az (A0 0)) (AB 0) B2 (mOp gIx (A0 0) (mC (.int 0))))) (A2 (A0 5) A4))))) (A2 (A0 4) A4))))))))))
noncomputable def FU:FD:=mkF 3 12 VF
noncomputable abbrev JD:Df:=⟨"priced",MR,["works","wishes","thing"],7,FU⟩
noncomputable abbrev Rm:Stmt:=top 47
def Wz:FnScope ["_law_script"] ["_law_script"] (AC Rm):=Ar (by kernel_rfl)
@[reducible] def cH:MS:=(AR (Ag (Ba (A2 (Ag (Hc (Fg (A0 0) B6 (Bf (mC (.int 63)))))) (A2 (mC (.int 0)) (A2 (mC (.int 0)) (A2 (mC (.int 0)) A4)))))))
noncomputable def K6:FD:=mkF 1 1 cH
noncomputable abbrev NK:Df:=⟨"_law_tape",Rm,["_law_script"],1,K6⟩
noncomputable abbrev Rn:Stmt:=top 48
def X1:FnScope ["_law_tape_here","_law_many","_law_found","_law_at","_law_cell","_law_mixed"] ["_law_tape_here","_law_many"] (AC Rn):=Ar (by kernel_rfl)
@[reducible] def cI:MS:=(A9 (Es (A0 0) (mC (.int 3)) (mOp Aa (mOp gIx (A0 0) (mC (.int 3))) (mC (.int 1))))
 (A9 (Ax (AG (mOp gGt (mOp gIx (A0 0) (mC (.int 2))) (mC (.int 0))))
  (A9 (AF 2 (mOp Ed (mOp gIx (A0 0) (mC (.int 2))) (A0 1)))
 (A9 (Es (A0 0) (mC (.int 2)) (mOp Ju (mOp gIx (A0 0) (mC (.int 2))) (A0 1)))
 (AR (A0 2))))
  Ah)
 (A9 (AF 3 (mOp gIx (A0 0) (mC (.int 1))))
 (A9 (Es (A0 0) (mC (.int 1)) (mOp Aa (A0 3) (mC (.int 1))))
 (A9 (AF 4 (mIf (AG (Fa true (mOp gIx (A0 0) (mC (.int 0))) (Ba A4))) (mOp gIx (mOp gIx (A0 0) (mC (.int 0))) (mOp Ed (A0 3) (mCB (f1 true Aj) (A2 (mOp gIx (A0 0) (mC (.int 0))) A4)))) (mC (.int 6))))
 (A9 (Ax (DO (AG (mOp gGe (A0 4) (mOp VU (mC (.int 10)) (mC (.int 18))))) (AG (mOp gLt (A0 3) (mCB (f1 true Aj) (A2 (mOp gIx (A0 0) (mC (.int 0))) A4)))))
  (A9 (Es (A0 0) (mC (.int 2)) (mOp Ju (A0 4) (A0 1)))
 (AR (mOp Ed (A0 4) (A0 1))))
  Ah)
 (A9 (AF 5 (mOp Ed (mOp Aa (mOp Aa (mOp Ed (A0 4) (mC (.int 2147483647))) (mOp B8 (mC (.int 40503)) (mOp gIx (A0 0) (mC (.int 3))))) (mC (.int 11))) (mC (.int 2147483629))))
 (A9 (AF 5 (mOp Ed (mOp Aa (mOp Aa (mOp B8 (A0 5) (A0 5)) (mOp B8 (mC (.int 25717)) (mOp gIx (A0 0) (mC (.int 3))))) (mC (.int 3))) (mC (.int 2147483587))))
 (A9 (AF 5 (mOp Ed (mOp Aa (mOp Aa (mOp B8 (A0 5) (A0 5)) (mOp B8 (mC (.int 16807)) (A0 5))) (mC (.int 1))) (mC (.int 2147483579))))
 (AR (mOp Ed (mOp Ju (A0 5) (mC (.int 256))) (A0 1))))))))))))
noncomputable def Ab:FD:=mkF 2 6 cI
noncomputable abbrev GC:Df:=⟨"_law_pick",Rn,["_law_tape_here","_law_many"],1,Ab⟩
noncomputable abbrev OB:Stmt:=top 49
def UC:FnScope ["_law_tape_here","_law_many","_law_long","_law_heavy","_law_low","_law_coming","_law_found","_law_j","_law_length","_law_weight","_law_one","_law_small","_law_by"] ["_law_tape_here","_law_many"] (AC OB):=Ar (by kernel_rfl)
@[reducible] noncomputable def Ym:MS:=(A9 (Ec (He (Ba (A2 (Aw (A2 (mC (.int 20)) (A2 (mC (.int 10)) (A2 (mC (.int 0)) A4)))) (A2 (Aw (A2 (mC (.int 3)) (A2 (mC (.int 3)) (A2 (mC (.int 0)) A4)))) (A2 (Aw (A2 (mC (.int 20)) (A2 (mC (.int 2)) (A2 (mC (.int 0)) A4)))) (A2 (Aw (A2 (mC (.int 1000000)) (A2 (mC (.int 1000001)) (A2 (mC (.int 0)) A4)))) A4))))) (A8 2 Ab (A2 (A0 0) (A2 (mC (.int 4)) A4)))) (BB 3 (AJ (AB 2) (AJ (AB 3) (AJ (AB 4) BG)))))
 (A9 (Ax (DO (AG (mOp gEq (A0 2) (mC (.int 1000000)))) (AG (mOp gEq (A8 2 Ab (A2 (A0 0) (A2 (mC (.int 2)) A4))) (mC (.int 0)))))
  (Ec (Aw (A2 (mC (.int 8)) (A2 (mC (.int 9)) (A2 (mC (.int 999992)) A4)))) (BB 3 (AJ (AB 2) (AJ (AB 3) (AJ (AB 4) BG)))))
  Ah)
 (A9 (AF 5 (He (Ba (A2 (mC (.int 0)) (A2 (A8 2 Ab (A2 (A0 0) (A2 (mC (.int 61)) A4))) A4))) (A8 2 Ab (A2 (A0 0) (A2 (mC (.int 2)) A4)))))
 (A9 (AF 6 (Ag (Ba A4)))
 (A9 (Bo (CL (A2 (A0 1) A4)) (AB 7)
  (A9 (D3 [8,9] (A2 (mOp Aa (mOp Aa (mC (.int 1)) (A0 4)) (A8 2 Ab (A2 (A0 0) (A2 (A0 2) A4)))) (A2 (mOp Aa (A0 4) (A8 2 Ab (A2 (A0 0) (A2 (A0 3) A4)))) A4)))
 (A9 (Ax (DO (AG (mOp gGt (A0 7) (mC (.int 0)))) (AG (mOp gEq (A8 2 Ab (A2 (A0 0) (A2 (mC (.int 3)) A4))) (mC (.int 0)))))
  (A9 (AF 10 (mOp gIx (A0 6) (A8 2 Ab (A2 (A0 0) (A2 (A0 7) A4)))))
 (A9 (AF 11 (De (mOp gLe (mOp B8 (mOp gIx (A0 10) (mC (.int 0))) (mC (.int 3))) (A0 2)) (mOp gLt (mOp B8 (mOp gIx (mOp gIx (A0 10) (mC (.int 2))) (mC (.int 1))) (mC (.int 3))) (A0 3))))
 (A9 (AF 12 (mIf (BH (A0 11)) (mOp Aa (mC (.int 1)) (A8 2 Ab (A2 (A0 0) (A2 (mC (.int 3)) A4)))) (mC (.int 1))))
 (D3 [8,9] (A2 (mOp B8 (mOp gIx (A0 10) (mC (.int 0))) (A0 12)) (A2 (mOp B8 (mOp gIx (mOp gIx (A0 10) (mC (.int 2))) (mC (.int 1))) (A0 12)) A4))))))
  Ah)
 (BF (mMt Au (A0 6) (A2 (Aw (A2 (A0 8) (A2 (A0 5) (A2 (Aw (A2 (mC (.str "ends")) (A2 (A0 9) A4))) A4)))) A4))))))
 (AR (mCB (f1 true Bb) (A2 (A0 6) A4))))))))
noncomputable def IM:FD:=mkF 2 13 Ym
noncomputable abbrev Ke:Df:=⟨"_law_works",OB,["_law_tape_here","_law_many"],2,IM⟩
noncomputable abbrev MW:Stmt:=top 50
def Rj:FnScope ["_law_tape_here","_law_many","_law_left","_law_row","_law_found","_law_turn","_law_way","_law_i","_law_first"] ["_law_tape_here","_law_many"] (AC MW):=Ar (by kernel_rfl)
@[reducible] noncomputable def VI:MS:=(A9 (IB 2 3 4 (A2 (Ag (J5 (A2 (A0 1) A4))) (A2 (Ag (Ba A4)) (A2 (Ag (Ba A4)) A4))))
 (A9 (Bo (CL (A2 (A0 1) A4)) (AB 5)
  (BF (mMt Au (A0 3) (A2 (mMt GB (A0 2) (A2 (A8 2 Ab (A2 (A0 0) (A2 (mCB (f1 true Aj) (A2 (A0 2) A4)) A4))) A4)) A4))))
 (A9 (AF 6 (A8 2 Ab (A2 (A0 0) (A2 (mC (.int 4)) A4))))
 (A9 (Bo (IE (A2 (mC (.int 1)) (A2 (A0 1) A4))) (AB 7)
  (Ax (AG (mOp gGt (A8 2 Ab (A2 (A0 0) (A2 (mC (.int 4)) A4))) (mC (.int 0))))
  (A9 (AF 8 (mIf (AG (mOp gEq (A0 6) (mC (.int 0)))) (mOp gIx (A0 3) (mOp Jt (A0 7) (mC (.int 1)))) (mOp gIx (A0 3) (A8 2 Ab (A2 (A0 0) (A2 (A0 7) A4))))))
 (BF (mMt Au (A0 4) (A2 (Aw (A2 (A0 8) (A2 (mOp gIx (A0 3) (A0 7)) A4))) A4))))
  Ah))
 (AR (BM Bb (E4 (BR (A0 4)))))))))
noncomputable def Gs:FD:=mkF 2 9 VI
noncomputable abbrev JG:Df:=⟨"_law_forest",MW,["_law_tape_here","_law_many"],2,Gs⟩
noncomputable abbrev OE:Stmt:=top 51
def UF:FnScope ["_law_tape_here","_law_many","_law_wishes","_law_row","_law_turn","_law_held","_law_some"] ["_law_tape_here","_law_many","_law_wishes"] (AC OE):=Ar (by kernel_rfl)
@[reducible] noncomputable def Yp:MS:=(A9 (AF 3 (Aw A4))
 (A9 (Bo (CL (A2 (A0 1) A4)) (AB 4)
  (A9 (AF 5 (Ag (Ai 2 [3] (Az (A0 2)) (BB 2 (AJ (AB 0) (AJ (AB 1) BG))) (AG (mOp (gIn true) (A0 0) (A0 2))) (A0 1))))
 (A9 (AF 6 (Ag (Ai 1 [3,5] (CL (A2 (A0 1) A4)) (AB 0) (DO (AG (mOp (gIn true) (A0 0) (A0 1))) (AG (mOp (gIn true) (A0 0) (A0 2)))) (A0 0))))
 (AF 3 (mOp DH (A0 3) (Aw (A2 (mOp gIx (A0 6) (A8 2 Ab (A2 (A0 0) (A2 (mCB (f1 true Aj) (A2 (A0 6) A4)) A4)))) A4)))))))
 (AR (A0 3))))
noncomputable def IQ:FD:=mkF 3 7 Yp
noncomputable abbrev Kh:Df:=⟨"_law_drawn",OE,["_law_tape_here","_law_many","_law_wishes"],2,IQ⟩
noncomputable abbrev MQ:Stmt:=top 52
def Rb:FnScope ["_law_row","_law_wishes"] ["_law_row","_law_wishes"] (AC MQ):=Ar (by kernel_rfl)
@[reducible] noncomputable def VE:MS:=(AR (GX true (mC (.bl false)) (Ai 2 [0] (Az (A0 1)) (BB 2 (AJ (AB 0) (AJ (AB 1) BG))) B2 (mOp gLt (GV E8 (A0 2) (A2 (A0 0) A4)) (GV E8 (A0 2) (A2 (A0 1) A4))))))
noncomputable def Gm:FD:=mkF 2 2 VE
noncomputable abbrev JB:Df:=⟨"_law_wished",MQ,["_law_row","_law_wishes"],1,Gm⟩
noncomputable abbrev MU:Stmt:=top 53
def Rg:FnScope ["_law_tape_here","_law_many","_law_wishes","_law_found","_law_j","_law_wider","_law_row","_law_at"] ["_law_tape_here","_law_many","_law_wishes"] (AC MU):=Ar (by kernel_rfl)
@[reducible] noncomputable def VG:MS:=(A9 (Ax (AG (mOp gGt (A0 1) (mC (.int 5))))
 (AR (Ag (Ai 1 [0,1,2] (CL (A2 (mC (.int 24)) A4)) (AB 0) B2 (A8 2 IQ (A2 (A0 1) (A2 (A0 2) (A2 (A0 3) A4)))))))
 Ah)
 (A9 (AF 3 (Ag (Ba (A2 (Aw A4) A4))))
 (A9 (Bo (CL (A2 (A0 1) A4)) (AB 4)
  (A9 (AF 5 (Ag (Ba A4)))
 (A9 (Bo (BR (A0 3)) (AB 6)
  (Bo (CL (A2 (mOp Aa (mCB (f1 true Aj) (A2 (A0 6) A4)) (mC (.int 1))) A4)) (AB 7)
  (BF (mMt Au (A0 5) (A2 (mOp Aa (mOp DH (D1 (A0 6) B6 (Bf (A0 7))) (Aw (A2 (A0 4) A4))) (D1 (A0 6) (Bf (A0 7)) B6)) A4)))))
 (AF 3 (A0 5)))))
 (AR (Ag (Ai 1 [2] (BR (A0 3)) (AB 0) (BH (A8 0 Gm (A2 (A0 0) (A2 (A0 1) A4)))) (A0 0)))))))
noncomputable def Go:FD:=mkF 3 8 VG
noncomputable abbrev JE:Df:=⟨"_law_orders",MU,["_law_tape_here","_law_many","_law_wishes"],3,Go⟩
noncomputable abbrev Rq:Stmt:=top 54
def X4:FnScope ["_law_works_here","_law_order","_law_end","_law_found","_law_j"] ["_law_works_here","_law_order"] (AC Rq):=Ar (by kernel_rfl)
@[reducible] def cL:MS:=(A9 (D3 [2,3] (A2 (mOp gIx (mOp gIx (A0 0) (mC (.int 0))) (mC (.int 1))) (A2 (mC (.int 0)) A4)))
 (A9 (Bo (Az (A0 1)) (AB 4)
  (A9 (AF 2 (mOp Aa (A0 2) (mOp gIx (mOp gIx (A0 0) (A0 4)) (mC (.int 0)))))
 (AF 3 (mOp Aa (A0 3) (mOp B8 (mOp gIx (mOp gIx (mOp gIx (A0 0) (A0 4)) (mC (.int 2))) (mC (.int 1))) (A0 2))))))
 (AR (A0 3))))
noncomputable def EW:FD:=mkF 2 5 cL
noncomputable abbrev NM:Df:=⟨"_law_cost",Rq,["_law_works_here","_law_order"],1,EW⟩
noncomputable abbrev Vv:Stmt:=top 55
def ZW:FnScope ["_law_script","_law_tape_here","_law_turn","_law_works_here","_law_wishes","_law_order","_law_prices","_law_least","_law_orders_here","_law_costs","_law_at","_law_fewer"] ["_law_script"] (AC Vv):=Ar (by kernel_rfl)
@[reducible] def f8:MS:=(A9 (AF 1 (Cb K6 (A2 (A0 0) A4)))
 (A9 (Bo (CL (A2 (mC (.int 2)) A4)) (AB 2)
  (FN (A9 (AF 3 (A8 2 IM (A2 (A0 1) (A2 (mOp Aa (mC (.int 1)) (A8 2 Ab (A2 (A0 1) (A2 (mC (.int 8)) A4)))) A4))))
 (A9 (AF 4 (A8 2 Gs (A2 (A0 1) (A2 (mCB (f1 true Aj) (A2 (A0 3) A4)) A4))))
 (A9 (Ec (A8 0 BV (A2 (A0 3) (A2 (A0 4) A4))) (BB 2 (AJ (AB 5) (AJ (AB 6) BG))))
 (A9 (Ax (AG (IG true (Bv (Az (A0 5))) (J5 (A2 (mCB (f1 true Aj) (A2 (A0 3) A4)) A4))))
  (AR (mC (.bl false)))
  Ah)
 (A9 (Ax (AG (GX false (mC (.bl false)) (Ai 2 [5] (Az (A0 4)) (BB 2 (AJ (AB 0) (AJ (AB 1) BG))) B2 (mOp gLt (GV E8 (A0 2) (A2 (A0 0) A4)) (GV E8 (A0 2) (A2 (A0 1) A4))))))
  (AR (mC (.bl false)))
  Ah)
 (A9 (AF 7 (A8 0 EW (A2 (A0 3) (A2 (A0 5) A4))))
 (A9 (Ax (mOr (AG (mOp (FQ true) (A8 0 FU (A2 (A0 3) (A2 (A0 4) (A2 (A0 6) A4)))) (Aw (A2 (A0 7) (A2 (mC (.int 1)) A4))))) (AG (mOp gGt (A8 0 Ew (A2 (A0 3) A4)) (A0 7))))
  (AR (mC (.bl false)))
  Ah)
 (A9 (AF 8 (A8 2 Go (A2 (A0 1) (A2 (mCB (f1 true Aj) (A2 (A0 3) A4)) (A2 (A0 4) A4)))))
 (A9 (AF 9 (Ag (Ai 1 [3] (BR (A0 8)) (AB 0) B2 (A8 0 EW (A2 (A0 1) (A2 (A0 0) A4))))))
 (A9 (Ax (mOr (AG (mOp gLt (mCB (f1 false J9) (A2 (A0 9) A4)) (A0 7))) (DO (AG (mOp gLt (mCB (f1 true Aj) (A2 (A0 3) A4)) (mC (.int 6)))) (AG (mOp gNe (mCB (f1 false J9) (A2 (A0 9) A4)) (A0 7)))))
  (AR (mC (.bl false)))
  Ah)
 (Ax (AG (mOp (FQ true) (A0 4) (Aw A4)))
  (A9 (AF 10 (A8 2 Ab (A2 (A0 1) (A2 (mCB (f1 true Aj) (A2 (A0 4) A4)) A4))))
 (A9 (AF 11 (mOp DH (D1 (A0 4) B6 (Bf (A0 10))) (D1 (A0 4) (Bf (mOp Aa (A0 10) (mC (.int 1)))) B6)))
 (Ax (AG (mOp gGt (A8 0 EW (A2 (A0 3) (A2 (mOp gIx (A8 0 BV (A2 (A0 3) (A2 (A0 11) A4))) (mC (.int 0))) A4))) (A0 7)))
  (AR (mC (.bl false)))
  Ah)))
  Ah)))))))))))))
 (AR (mC (.bl true)))))
noncomputable def Le:FD:=mkF 1 12 f8
noncomputable abbrev Qf:Df:=⟨"law",Vv,["_law_script"],24,Le⟩
set_option maxHeartbeats 0 in
def oks{E:EnK}(B:BltA E.mg):(Dn E EJ->Kn E EJ)/\
 (Dn E CU->Kn E EJ->Kn E CU)/\
 (Dn E C5->Kn E CU->Kn E C5)/\
 (Dn E DJ->Kn E DJ)/\
 (Dn E Kf->Kn E Kf)/\
 (Dn E D5->Kn E C5->Kn E Kf->Kn E D5)/\
 (Dn E CV->Kn E CV)/\
 (Dn E Ef->Kn E EJ->Kn E CU->Kn E DJ->Kn E CV->Kn E Ef)/\
 (Dn E Dj->Kn E CV->Kn E Dj)/\
 (Dn E Kg->Kn E Dj->Kn E Kg)/\
 (Dn E Jz->Kn E Jz)/\
 (Dn E Hn->Kn E Jz->Kn E Hn)/\
 (Dn E EI->Kn E EI)/\
 (Dn E Ee->Kn E Ee)/\
 (Dn E FS->Kn E Ee->Kn E FS)/\
 (Dn E CT->Kn E CT)/\
 (Dn E DC->Kn E DC)/\
 (Dn E Bj->Kn E FS->Kn E CT->Kn E Bj)/\
 (Dn E Et->Kn E Dj->Kn E EI->Kn E DC->Kn E Et)/\
 (Dn E JC->Dn E Hm->Kn E Jz->Kn E Hn->Kn E Et->Kn E JC/\Kn E Hm)/\
 (Dn E DI->Kn E DI)/\
 (Dn E Gi->Kn E DC->Kn E Bj->Kn E DI->Kn E Gi)/\
 (Dn E Hk->Kn E Hk)/\
 (Dn E JH->Kn E Hk->Kn E JH)/\
 (Dn E Fm->Kn E Fm)/\
 (Dn E Cp->Kn E Bj->Kn E Fm->Kn E Cp)/\
 (Dn E JF->Kn E Cp->Kn E Hm->Kn E JF)/\
 (Dn E Fk->Kn E Kg->Kn E Et->Kn E JC->Kn E Fk)/\
 (Dn E E9->Kn E JF->Kn E Fk->Kn E E9)/\
 (Dn E NL->Kn E NL)/\
 (Dn E Gj->Kn E C5->Kn E D5->Kn E Ef->Kn E JH->Kn E Gj)/\
 (Dn E DP->Kn E DJ->Kn E Gj->Kn E DP)/\
 (Dn E Dk->Kn E Dk)/\
 (Dn E JD->Kn E Dj->Kn E EI->Kn E DC->Kn E Bj->Kn E DI->Kn E NL->Kn E DP->Kn E Dk->Kn E JD)/\
 (Dn E NK->Kn E NK)/\
 (Dn E GC->Kn E GC)/\
 (Dn E Ke->Kn E GC->Kn E Ke)/\
 (Dn E JG->Kn E GC->Kn E JG)/\
 (Dn E Kh->Kn E GC->Kn E Kh)/\
 (Dn E JB->Kn E JB)/\
 (Dn E JE->Kn E Kh->Kn E JB->Kn E JE)/\
 (Dn E NM->Kn E NM)/\
 (Dn E Qf->Kn E Gi->Kn E E9->Kn E JD->Kn E NK->Kn E GC->Kn E Ke->Kn E JG->Kn E JE->Kn E NM->Kn E Qf):=by
 refine⟨λD=>okK D MN rfl rfl λ_ _ _ _ _ _ _ hr=>?_,
  λD _=>okK D IS rfl rfl λ_ _ _ _ _ _ _ hr=>?_,
  λD _=>okK D GO rfl rfl λ_ _ _ _ _ _ _ hr=>?_,
  λD=>okK D KD rfl rfl λ_ _ _ _ _ _ _ hr=>?_,
  λD=>okK D UD rfl rfl λ_ _ _ _ _ _ _ hr=>?_,
  λD _ _=>okK D HL rfl rfl λ_ _ _ _ _ _ _ hr=>?_,
  λD=>okK D IT rfl rfl λ_ _ _ _ _ _ _ hr=>?_,
  λD _ _ _ _=>okK D KF rfl rfl λ_ _ _ _ _ _ _ hr=>?_,
  λD _=>okK D Nk rfl rfl λ_ _ _ _ _ _ _ hr=>?_,
  λD _=>okK D UE rfl rfl λ_ _ _ _ _ _ _ hr=>?_,
  λD=>okK D X2 rfl rfl λ_ _ _ _ _ _ _ hr=>?_,
  λD _=>okK D Pi rfl rfl λ_ _ _ _ _ _ _ hr=>?_,
  λD=>okK D ML rfl rfl λ_ _ _ _ _ _ _ hr=>?_,
  λD=>okK D KB rfl rfl λ_ _ _ _ _ _ _ hr=>?_,
  λD _=>okK D LU rfl rfl λ_ _ _ _ _ _ _ hr=>?_,
  λD=>okK D Fv rfl rfl λ_ _ _ _ _ _ _ hr=>?_,
  λD=>okK D MJ rfl rfl λ_ _ _ _ _ _ _ hr=>?_,
  λD _ _=>okK D HK rfl rfl λ_ _ _ _ _ _ _ hr=>?_,
  λD _ _ _=>okK D Ni rfl rfl λ_ _ _ _ _ _ _ hr=>?_,
  λD D2 _ _ _=>Nat.rec (motive:=λn=>Kn E ⟨"row_of",Ip,["works","wishes","a"],n+3,JL n⟩/\Kn E ⟨"line_of",HP,["works","wishes","some"],n+3,Hs n⟩) ⟨ok0 D,ok0 D2⟩ (λn ⟨ih,ih2⟩=>⟨okK (j:=n+3) D Re rfl 66 λ_ _ _ _ _ _ _ hr=>?_,okK (j:=n+3) D2 Ph rfl 66 λ_ _ _ _ _ _ _ hr=>?_⟩) 18,
  λD=>okK D KC rfl rfl λ_ _ _ _ _ _ _ hr=>?_,
  λD _ _ _=>okK D Nj rfl rfl λ_ _ _ _ _ _ _ hr=>?_,
  λD=>okK D Pd rfl rfl λ_ _ _ _ _ _ _ hr=>?_,
  λD _=>okK D Rk rfl rfl λ_ _ _ _ _ _ _ hr=>?_,
  λD=>okK D MP rfl rfl λ_ _ _ _ _ _ _ hr=>?_,
  λD _ _=>okK D Gz rfl rfl λ_ _ _ _ _ _ _ hr=>?_,
  λD _ _=>okK D Ri rfl rfl λ_ _ _ _ _ _ _ hr=>?_,
  λD _ _ _=>okK D MK rfl rfl λ_ _ _ _ _ _ _ hr=>?_,
  λD _ _=>okK D JW rfl rfl λ_ _ _ _ _ _ _ hr=>?_,
  λD=>okK D X3 rfl rfl λ_ _ _ _ _ _ _ hr=>?_,
  λD _ _ _ _=>okK D Nl rfl rfl λ_ _ _ _ _ _ _ hr=>?_,
  λD _ _=>okK D IR rfl rfl λ_ _ _ _ _ _ _ hr=>?_,
  λD=>okK D Io rfl rfl λ_ _ _ _ _ _ _ hr=>?_,
  λD _ _ _ _ _ _ _ _=>okK D Rf rfl rfl λ_ _ _ _ _ _ _ hr=>?_,
  λD=>okK D Wz rfl rfl λ_ _ _ _ _ _ _ hr=>?_,
  λD=>okK D X1 rfl rfl λ_ _ _ _ _ _ _ hr=>?_,
  λD _=>okK D UC rfl rfl λ_ _ _ _ _ _ _ hr=>?_,
  λD _=>okK D Rj rfl rfl λ_ _ _ _ _ _ _ hr=>?_,
  λD _=>okK D UF rfl rfl λ_ _ _ _ _ _ _ hr=>?_,
  λD=>okK D Rb rfl rfl λ_ _ _ _ _ _ _ hr=>?_,
  λD _ _=>okK D Rg rfl rfl λ_ _ _ _ _ _ _ hr=>?_,
  λD=>okK D X4 rfl rfl λ_ _ _ _ _ _ _ hr=>?_,
  λD _ _ _ _ _ _ _ _ _=>okK D ZW rfl rfl λ_ _ _ _ _ _ _ hr=>?_⟩
 all_goals (refine' ⟨_,_⟩;rotate_left;repeat' (first
  |((with_reducible show QE _ _ _ _ _);first|exact qv _ _|(first|exact b7 _|exact am _|exact eK _|exact ar _)|((with_reducible show QE _ _ _ _ (mOp _ _ _));first|((with_reducible show QE _ _ _ _ (mOp gIx _ _));refine' eH _ _ _)|((with_reducible show QE _ _ _ _ (mOp Aa _ _));refine' FZ _ ((SY).or (Mw _)) (Dx SC OM) _ _)|((with_reducible show QE _ _ _ _ (mOp Jt _ _));refine' FZ _ br aD _ _)|((with_reducible show QE _ _ _ _ (mOp B8 _ _));refine' FZ _ bv aG _ _)|((with_reducible show QE _ _ _ _ (mOp Ed _ _));refine' FZ _ bw aH _ _)|((with_reducible show QE _ _ _ _ (mOp Ju _ _));refine' FZ _ YY Xa _ _)|((with_reducible show QE _ _ _ _ (mOp ET _ _));refine' FZ _ VA UY _ _)|((with_reducible show QE _ _ _ _ (mOp VU _ _));refine' FZ _ bt aE _ _)|((with_reducible show QE _ _ _ _ (mOp DH _ _));refine' FZ _ (((SY).or (Mw _)).or (Yb _)) (Dx (Dx SC OM) Xb) _ _)|((with_reducible show QE _ _ _ _ (mOp gLt _ _));refine' Fz _ WH Vz _ _)|((with_reducible show QE _ _ _ _ (mOp gLe _ _));refine' Fz _ eW dz _ _)|((with_reducible show QE _ _ _ _ (mOp gGe _ _));refine' Fz _ WJ W1 _ _)|((with_reducible show QE _ _ _ _ (mOp gEq _ _));refine' Fz _ ((WK).or (Oc _ hr.units)) (Dx SA SB) _ _)|((with_reducible show QE _ _ _ _ (mOp gNe _ _));refine' Fz _ ((WG).or (I0 _ hr.units)) (Dx S8 S9) _ _)|((with_reducible show QE _ _ _ _ (mOp (gIn false) _ _));refine' Fz _ (SX _) W0 _ _))|refine' ak _ _|((with_reducible show QE _ _ _ _ (Ag _));refine' au _ _)|refine' av _ _|((with_reducible show QE _ _ _ _ (A8 _ _ _));first|refine' qcW _ (by assumption) hr _|refine' qcW _ (by assumption) (hr.in1.deeper _) _)|((with_reducible show QE _ _ _ _ (Cb _ _));refine' qcG (by assumption) hr _)|((with_reducible show QE _ _ _ _ (D8 _ _));refine' qcS (by assumption) hr _)|((with_reducible show QE _ _ _ _ (BM _ _));first|((with_reducible show QE _ _ _ _ (BM Dh _));refine' Ll _ (LJ _ rfl) S4 B.all L2.bt_all _)|((with_reducible show QE _ _ _ _ (BM N6 _));refine' Ll _ (LI _ rfl) S3 B.any L2.bt_any _)|((with_reducible show QE _ _ _ _ (BM E5 _));refine' Ll _ ((LG _ rfl).or (K2 _ rfl)) Rz B.sum L2.bt_sum _)|((with_reducible show QE _ _ _ _ (BM Aj _));refine' Ll _ (LH _) S0 B.len L2.bt_len _)|((with_reducible show QE _ _ _ _ (BM Bb _));refine' eI _ (Ij _) Md B.tuple L2.bt_tuple _))|((with_reducible show QE _ _ _ _ (mCB _ _));first|((with_reducible show QE _ _ _ _ (mCB (f1 _ Dh) _));refine' GQ _ (LJ _ rfl) (KG S4) B.all L2.bt_all _)|((with_reducible show QE _ _ _ _ (mCB (f1 _ N6) _));refine' GQ _ (LI _ rfl) (KG S3) B.any L2.bt_any _)|((with_reducible show QE _ _ _ _ (mCB (f1 _ E5) _));refine' GQ _ ((LG _ rfl).or (K2 _ rfl)) (KG Rz) B.sum L2.bt_sum _)|((with_reducible show QE _ _ _ _ (mCB (f1 _ Aj) _));refine' GQ _ (LH _) (KG S0) B.len L2.bt_len _)|((with_reducible show QE _ _ _ _ (mCB (f1 _ J9) _));refine' GQ _ (TQ _ rfl) (KG Zv) B.min L2.bt_min _)|((with_reducible show QE _ _ _ _ (mCB IJ _));refine' GQ _ (TR rfl) XS B.min L2.bt_min _)|((with_reducible show QE _ _ _ _ (mCB Ka _));refine' GQ _ Vi Zw B.abs L2.bt_abs _)|((with_reducible show QE _ _ _ _ (mCB (f1 _ Bb) _));refine' eJ _ (Ij _) (KG Md) B.tuple L2.bt_tuple _))|((with_reducible show QE _ _ _ _ (He _ _));refine' b0 _ _ _)|((with_reducible show QE _ _ _ _ (D1 _ _ _));refine' ao _ _ _ _)|refine' Uo _ _ _ _|((with_reducible show QE _ _ _ _ (mMt _ _ _));first|((with_reducible show QE _ _ _ _ (mMt Au _ _));refine' Px _ PySem.F.slot_list_append PySem.F.type_list_append Kx Rx _ _)|((with_reducible show QE _ _ _ _ (mMt Hj _ _));refine' ay _ PySem.F.slot_list_pop PySem.F.type_list_pop cD Zo _)|((with_reducible show QE _ _ _ _ (mMt GB _ _));refine' Px _ PySem.F.slot_list_pop PySem.F.type_list_pop VD UP _ _)|((with_reducible show QE _ _ _ _ (mMt F4 _ _));refine' Px _ PySem.F.slot_list_insert PySem.F.type_list_insert Sd Ru _ _))|((with_reducible show QE _ _ _ _ (GV E8 _ _));refine' ax _ PySem.F.slot_tuple_index PySem.F.type_tuple_index Se Rv _ _)|((with_reducible show QE _ _ _ _ (CM _ _ _ _ _ _ _ _ _));refine' fe _ (λ_ _ _=>_) (λ_ _ _=>_) (λ_ _ _=>_) (λ_ _ _=>_) (λ_ _ _=>_) (λ_ _ _=>_))|((with_reducible show QE _ _ _ _ (ID _));refine' qlA B.len _ (λ_ _ _=>_) (λ_ _ _=>_) (λ_ _ _=>_))|((with_reducible show QE _ _ _ _ (Dd _ _));first|((with_reducible show QE _ _ _ _ (Dd .int _));refine' Mm _ .int B.isinstance B.int _)|((with_reducible show QE _ _ _ _ (Dd .bool _));refine' Mm _ .bool B.isinstance B.bool _)|((with_reducible show QE _ _ _ _ (Dd .tuple _));refine' Mm _ .tuple B.isinstance B.tuple _))|((with_reducible show QE _ _ _ _ (GX _ _ _));refine' Y7 _ (Ku _) _ _)|((with_reducible show QE _ _ _ _ (De _ _));refine' b8 _ _ _)|((with_reducible show QE _ _ _ _ (IC _));refine' aq _ _)|refine' ap _ _)
  |refine' Y8 _ _ _|exact b9 _
  |((with_reducible show QT _ _ _ _ _);first|((with_reducible show QT _ _ _ _ (AG (mOp _ _ _)));first|((with_reducible show QT _ _ _ _ (AG (mOp gLt _ _)));refine' FJ _ WH Vz _ _)|((with_reducible show QT _ _ _ _ (AG (mOp gGt _ _)));refine' FJ _ f6 eD _ _)|((with_reducible show QT _ _ _ _ (AG (mOp gGe _ _)));refine' FJ _ WJ W1 _ _)|((with_reducible show QT _ _ _ _ (AG (mOp gEq _ _)));refine' FJ _ ((WK).or (Oc _ hr.units)) (Dx SA SB) _ _)|((with_reducible show QT _ _ _ _ (AG (mOp gNe _ _)));refine' FJ _ ((WG).or (I0 _ hr.units)) (Dx S8 S9) _ _)|((with_reducible show QT _ _ _ _ (AG (mOp (gIn true) _ _)));refine' FJ _ (Ku _) W0 _ _)|((with_reducible show QT _ _ _ _ (AG (mOp (FQ true) _ _)));refine' FJ _ (I0 _ hr.units) aF _ _))|refine' aP _ _|((with_reducible show QT _ _ _ _ (BH _));refine' Ud _ _)|((with_reducible show QT _ _ _ _ (DO _ _));refine' QW.toT _)|((with_reducible show QT _ _ _ _ (mOr _ _));refine' QW.toT _)|((with_reducible show QT _ _ _ _ (AG (Fh _ _)));first|refine' aQ _ _|refine' Xe _ _)|((with_reducible show QT _ _ _ _ (AG (Fa _ _ _)));refine' Xh _ (SV _ hr.units) _ _)|((with_reducible show QT _ _ _ _ (AG (IG _ _ _)));refine' Xg _ (SV _ hr.units) _ _)|((with_reducible show QT _ _ _ _ (AG (GX _ _ _)));refine' Xf _ (SX _) _ _))
  |refine' Xd _ _|refine' aN _ _|refine' aO _ _ _|refine' eE _ _ _
  |((with_reducible show QN _ _ _ _ _);first|refine' aY _ _|((with_reducible show QN _ _ _ _ (Ai _ _ _ _ _ _));refine' qnA _ (λ_ _ _=>_) (λ_ _ _=>_) (λ_ _ _=>_))|((with_reducible show QN _ _ _ _ (J8 _ _));refine' aZ _ _ _)|((with_reducible show QN _ _ _ _ (Fg _ _ _));refine' aX _ _ _ _)|((with_reducible show QN _ _ _ _ (E4 _));refine' Pv _ B.sorted _)|((with_reducible show QN _ _ _ _ (Bv _));first|(refine' Pu _ B.sorted _;rotate_left;refine' Ml _ _)|refine' Pw _ B.sorted _)|((with_reducible show QN _ _ _ _ (J5 _));refine' Ui _ B.list B.range _)|((with_reducible show QN _ _ _ _ (Hc _));refine' Uj _ B.list _))
  |((with_reducible show QI _ _ _ _ _ _);first|((with_reducible show QI _ _ _ _ _ (CL _));refine' Xy _ B.range _)|((with_reducible show QI _ _ _ _ _ (IE _));refine' Xx _ B.range _)|((with_reducible show QI _ _ _ _ _ (Az _));refine' ac _ _)|((with_reducible show QI _ _ _ _ _ (BR _));refine' Xz _ _)|((with_reducible show QI _ _ _ _ _ (D4 _));refine' ae _ _)|((with_reducible show QI _ _ _ _ _ (EC _));first|refine' Uk _ B.enumerate (Ml _ _)|refine' Y3 _ B.enumerate _)|((with_reducible show QI _ _ _ _ _ (J4 _ _));refine' aa _ B.zip _ _))
  |((with_reducible show QR _ _ _ _ _ _);first|((with_reducible show QR _ _ _ _ _ (BR _));refine' Xr _ _)|((with_reducible show QR _ _ _ _ _ (Az _));refine' Ml _ _))
  |exact qgA
  |refine' af _ rfl _
  |exact Y4 _|refine' Ul _ _ _
  |exact ah _|refine' ag _ _
  |exact Xv _|refine' Xu _ _
  |((with_reducible show QSs _ _ _ _ _);first|((with_reducible show QSs _ _ _ _ (A9 _ _));refine' Ue _ _ _)|((with_reducible show QSs _ _ _ _ (FN _));refine' SI _ _)|(first|exact Xj _|refine' Xi _ _))
  |((with_reducible show QS _ _ _ _ _);first|((with_reducible show QS _ _ _ _ (AF _ (Ag (Ai _ _ _ _ _ _))));first|refine' fc _ (λ_ _ _=>_) (λ_ _ _=>_) (λ_ _ _=>_)|refine' qsA _)|((with_reducible show QS _ _ _ _ (AF _ (CM _ _ _ _ _ _ _ _ _)));first|refine' eG _ (λ_ _ _=>_) (λ_ _ _=>_) (λ_ _ _=>_) (λ_ _ _=>_) (λ_ _ _=>_) (λ_ _ _=>_)|refine' qsA _)|((with_reducible show QS _ _ _ _ (AF _ _));refine' qsA _)|((with_reducible show QS _ _ _ _ (FN _));refine' qs_trimD _)|refine' eF _ _ _ _|refine' aS _ _|refine' aU _ rfl _ _ _|refine' Xo _ _|((with_reducible show QS _ _ _ _ (Es _ _ _));refine' Xn _ _ _ _)|((with_reducible show QS _ _ _ _ (GY _ _));refine' Xp _)|((with_reducible show QS _ _ _ _ (Ga _ _ _));refine' eL Sq _)|refine' aT _ rfl (Cn (by kernel_rfl)) rfl rfl 80 rfl rfl _|refine' Xm _ rfl (Cn (by kernel_rfl)) rfl rfl rfl rfl rfl rfl _|refine' aW _ _ _|refine' Uf _ _ _|exact Xl _|((with_reducible show QS _ _ _ _ Dc);exact Uh _)|((with_reducible show QS _ _ _ _ (GZ _ _));refine' Xq (Cn (by kernel_rfl)) rfl (by first|exact Or.inl rfl|exact Or.inr rfl) _)|((with_reducible show QS _ _ _ _ (GW _ _ _ _));first|refine' OS _ _ _ _ Sq|refine' OS _ _ _ _ cf))))
open Bd Bt
local macro_rules | `(tactic| nofun) => do `(tactic| repeat (first | (with_reducible refine A5 ?_; try dsimp only [set_cons_zero, set_cons_succ, iw, jt, j9, jQ, List.replicate, Nat.reduceSub, Int.reduceToNat]) | (with_reducible first $[| $(← #["To","AA","AM","AH","Cr","Ad","B7","JO","Wg","Bh"].mapM fun i=>`(Lean.Parser.Tactic.tacticSeq|refine $(Lean.mkIdent i.toName) ?_))]* | refine A1 (d := _) rfl ?_ $[| $(← #["AK","A7","BY","Ak","BZ","ZN","BO","JQ","DN","AU","Bw","JN","FV","AZ","A6","A3","D7","AY","D0","Vp","BJ","fT","Cj","CB","Lu","DF","da","Lc","Vn","F8","Lv","ZK","Qs","Wj","K8"].mapM fun i=>`(Lean.Parser.Tactic.tacticSeq|refine $(Lean.mkIdent i.toName) ?_))]* | refine ⟨_, rfl, ?_⟩) | refine AL rfl (Cq _ _) ?_ | refine AL rfl (Dm _ _ _) ?_ | refine AL rfl (Kl _ _ _ _) ?_ | refine ⟨_, _, _, _, rfl, rfl, rfl, rfl, ?_⟩ | refine ⟨⟨_, rfl⟩, ?_⟩ | refine ⟨FR, ?_⟩ | refine ⟨Jv, ?_⟩ | refine ⟨cr, ?_⟩ | refine ⟨cq, ?_⟩ | refine ⟨Cc, ?_⟩ | refine ⟨EU, ?_⟩ | (with_reducible first | refine we_nilEN ?_)))
noncomputable def GS(cell turn:Int):Int:=(cell%2147483647+40503*turn+11)%2147483629
noncomputable def KN(x turn:Int):Int:=(x*x+25717*turn+3)%2147483587
noncomputable def cG(x:Int):Int:=(x*x+16807*x+1)%2147483579
def mk1(j:Int):Be 40503 j:=B5 80 80
def mk2(j:Int):Be 25717 j:=B5 80 80
def mk3(j:Int):Be 16807 j:=B5 80 80
def mo1:CC 2147483587:=by unfold CC;decide
def mo2:CC 2147483629:=by unfold CC;decide
def mo3:CC 2147483647:=by unfold CC;decide
def mo4:CC 2147483579:=by unfold CC;decide
def di1:Lo 256:=by unfold Lo;decide
def YL(τ:Tp)(many:Int)(h0:0<many)(h1:many<1073741824):∃r τ',DrawL Ab τ many r τ':=by
 have hm:CC many:=h0;have hv:Lo many:=⟨h0,h1⟩
 by_cases hl:τ.lf>0
 .refine⟨τ.lf%many,{ τ with tn:=τ.tn+1,lf:=τ.lf/many },(Er many h0).1,(Er many h0).2,?_⟩;simp[Ab,mkF,hl,hm,hv]
 .have key:∀cell:Int,(if τ.cells=[]then cell=6 else atI (τ.cells.map λi=>D.im (.int i)) (τ.nx%(τ.cells.length:Int))=some (.im (.int cell))) ->
   ∃r τ',DrawL Ab τ many r τ':=by
   intro cell hcell;have b1:=Er (x:=cell%2147483647+40503*(τ.tn+1)+11) 2147483629 80;have b2:=Er (x:=GS cell (τ.tn+1)*GS cell (τ.tn+1)+25717*(τ.tn+1)+3) 2147483587 80;have c1:∀j,Be (GS cell (τ.tn+1)) j:=λj=>B5 (by unfold GS;omega) (by unfold GS;omega);have c2:∀j,Be (KN (GS cell (τ.tn+1)) (τ.tn+1)) j:=λj=>B5 (by unfold KN;omega) (by unfold KN;omega);by_cases hb:cell>=1000000000000000000/\τ.nx<(τ.cells.length:Int)
   .refine⟨cell%many,{ τ with tn:=τ.tn+1,nx:=τ.nx+1,lf:=cell/many },(Er many h0).1,(Er many h0).2,?_⟩;by_cases hc:τ.cells=[]
    .rw[ic hc]at hcell;subst hcell;omega
    .rw[ig hc]at hcell;have hl0:0<τ.cells.length:=IH hc;have hl0':CC (τ.cells.length:Int):=by unfold CC;omega
     simp[Ab,mkF,hl,hm,hv,mk1,mk2,mk3,mo1,mo2,mo3,mo4,di1,po1,Fa,pyD,Do,Dy,I.pys,GD,hc,hcell,hl0',hb.1,hb.2,Aj]
   .refine⟨cG (KN (GS cell (τ.tn+1)) (τ.tn+1))/256%many,{ τ with tn:=τ.tn+1,nx:=τ.nx+1 },(Er many h0).1,(Er many h0).2,?_⟩;have hb':1000000000000000000<=cell->¬ τ.nx<(τ.cells.length:Int):=λa b=>hb ⟨a,b⟩;unfold GS at c1 c2;unfold KN at c2;unfold cG KN GS;by_cases hc:τ.cells=[]
    .rw[ic hc]at hcell;subst hcell;simp only[Int.reduceMod]at c1 c2;simp[Ab,mkF,hl,hm,hv,mk1,mk2,mk3,mo1,mo2,mo3,mo4,di1,po1,Fa,pyD,Do,Dy,I.pys,GD,dF,hc,Aj,c1,c2]
    .rw[ig hc]at hcell;have hl0:0<τ.cells.length:=IH hc;have hl0':CC (τ.cells.length:Int):=by unfold CC;omega
     by_cases hd:1000000000000000000<=cell
     .simp[Ab,mkF,hl,hm,hv,mk1,mk2,mk3,mo1,mo2,mo3,mo4,di1,po1,Fa,pyD,Do,Dy,I.pys,GD,hc,hcell,hl0',Aj,c1,c2,hd,hb' hd]
     .simp[Ab,mkF,hl,hm,hv,mk1,mk2,mk3,mo1,mo2,mo3,mo4,di1,po1,Fa,pyD,Do,Dy,I.pys,GD,hc,hcell,hl0',Aj,c1,c2,hd]
  by_cases hc:τ.cells=[]
  .exact key 6 (by rw[ic hc])
  .obtain⟨c,e⟩:=fO hc τ.nx;exact key c (by rw[ig hc];exact e)
def Wr(ns:List Int):∃τ,K6 [.ro ns] []=some (.mu 1,tl τ):=by
 obtain⟨cs,e⟩:=Vc ns none (some 63);refine⟨⟨cs,0,0,0⟩,?_⟩;simp[K6,mkF,e,tl,C1]
def T(_:Nat)(a b:MO):Prop:=∃τ:Tp,tl τ=[a,b]
def tap:Tap T Ab where
 cl:=by
  rintro k a b ⟨τ,e⟩;have:=dh τ;rw[e]at this;simpa using this
 le:=λh _=>h
 pick:=by
  rintro k a b many ⟨τ,e⟩ h0 h1;obtain⟨r,τ',d⟩:=YL τ many h0 h1;refine⟨r,.lst (τ'.cells.map λi=>.im (.int i)),.lst (C1 τ'),d.lo,d.hi,?_,τ',rfl⟩;rw[<- e];exact d.eq
noncomputable abbrev wk(c:Int)(p:Int×Int):Wk:=⟨p.1,c,.ends p.2⟩
noncomputable abbrev AV(c:Int)(ws:84):I:=ZL (ws.map (wk c))
structure WOk(c:Int)(ws:84):Prop where
 c0:0<=c
 c1:c<=60
 n1:1<=68
 n8:68<=8
 each:∀p∈ws,1<=p.1/\p.1<=1000000/\0<=p.2/\p.2<=1000000
abbrev wkD(c:Int)(p:Int×Int):D:=.im (DG (wk c p))
def cE(c:Int)(ws:84):AT (ws.map (wkD c))=.im (AV c ws):=by
 have:ws.map (wkD c)=((ws.map (wk c)).map DG).map D.im:=by simp
 rw[this,BL]
set_option maxHeartbeats 2000000 in
def Wl{n:Nat}(h1:1<=n)(hn:n<=8):∀a b,T 0 a b->WF IM [.mu 1,.im (.int (n:Int))] [a,b] λd x=>∃i a' b' g,d=.im i/\(∃c ws,i=AV c ws/\68=n/\WOk c ws)/\T 0 a' b'/\x=a'::b'::g:=by
 intro a b hT;unfold IM;refine Ac rfl ?_;refine AA (F7 ?_)
 nofun
 refine tap.draw (n:=0) (rest:=[]) hT rfl 80 80 λr1 a b hT pr1 qr1=>?_;have key:∀(Q:Fl->Hd->Prop),(∀c ws a' b' g,68=n->WOk c ws->T 0 a' b'->Q (.rt (.im (AV c ws))) (a'::b'::g))->∀(lg hv lw:Int),0<lg->lg<=1000000->0<hv->hv<=1000001->0<=lw->lw+lg<=1000000->lw+hv<=1000001->∀a b,T 0 a b->WS (A9 (AF 5 (He (Ba (A2 (mC (.int 0)) (A2 (A8 2 Ab (A2 (A0 0) (A2 (mC (.int 61)) A4))) A4))) (A8 2 Ab (A2 (A0 0) (A2 (mC (.int 2)) A4)))))
  (A9 (AF 6 (Ag (Ba A4)))
  (A9 (Bo (CL (A2 (A0 1) A4)) (AB 7)
   (A9 (D3 [8,9] (A2 (mOp Aa (mOp Aa (mC (.int 1)) (A0 4)) (A8 2 Ab (A2 (A0 0) (A2 (A0 2) A4)))) (A2 (mOp Aa (A0 4) (A8 2 Ab (A2 (A0 0) (A2 (A0 3) A4)))) A4)))
  (A9 (Ax (DO (AG (mOp gGt (A0 7) (mC (.int 0)))) (AG (mOp gEq (A8 2 Ab (A2 (A0 0) (A2 (mC (.int 3)) A4))) (mC (.int 0)))))
   (A9 (AF 10 (mOp gIx (A0 6) (A8 2 Ab (A2 (A0 0) (A2 (A0 7) A4)))))
  (A9 (AF 11 (De (mOp gLe (mOp B8 (mOp gIx (A0 10) (mC (.int 0))) (mC (.int 3))) (A0 2)) (mOp gLt (mOp B8 (mOp gIx (mOp gIx (A0 10) (mC (.int 2))) (mC (.int 1))) (mC (.int 3))) (A0 3))))
  (A9 (AF 12 (mIf (BH (A0 11)) (mOp Aa (mC (.int 1)) (A8 2 Ab (A2 (A0 0) (A2 (mC (.int 3)) A4)))) (mC (.int 1))))
  (D3 [8,9] (A2 (mOp B8 (mOp gIx (A0 10) (mC (.int 0))) (A0 12)) (A2 (mOp B8 (mOp gIx (mOp gIx (A0 10) (mC (.int 2))) (mC (.int 1))) (A0 12)) A4))))))
   Ah)
  (BF (mMt Au (A0 6) (A2 (Aw (A2 (A0 8) (A2 (A0 5) (A2 (Aw (A2 (mC (.str "ends")) (A2 (A0 9) A4))) A4)))) A4))))))
  (AR (mCB (f1 true Bb) (A2 (A0 6) A4)))))) [some (.mu 1),some (.im (.int (n:Int))),some (.im (.int lg)),some (.im (.int hv)),some (.im (.int lw)),none,none,none,none,none,none,none,none] [a,b] Q:=by
  intro Q hQ lg hv lw g1 g2 g3 g4 g5 g6 g7 a b hT
  nofun
  refine tap.draw (n:=0) hT rfl (by first|decide|omega) (by first|decide|omega) λr2 a b hT pr2 qr2=>?_
  nofun
  refine tap.draw (n:=0) hT rfl (by first|decide|omega) (by first|decide|omega) λr3 a b hT pr3 qr3=>?_;obtain⟨c,hc,hc0,hc1⟩:∃c:Int,atI [D.im (.int 0),D.im (.int r2)] r3=some (D.im (.int c))/\0<=c/\c<=60:=by
   rcases(show r3=0∨r3=1 by omega)with rfl|rfl
   .exact⟨0,Cq _ _,by omega,by omega⟩
   .exact⟨r2,Dm _ _ _,by omega,by omega⟩
  refine⟨_,_,rfl,hc,?_⟩
  nofun
  refine⟨BI 66 66,?_⟩;rw[jj];refine BP (λr ls hd=>∃(ws:84) (j:Nat) (a b:MO) (z7 z8 z9 z10 z11 z12:Option D),r=AI (j:Int) (n-j)/\j<=n/\68=j/\(∀p∈ws,1<=p.1/\p.1<=1000000/\0<=p.2/\p.2<=1000000)/\ls=[some (.mu 1),some (.im (.int (n:Int))),some (.im (.int lg)),some (.im (.int hv)),some (.im (.int lw)),some (.im (.int c)),some (.mu 2),z7,z8,z9,z10,z11,z12]/\hd=[a,b,.lst (ws.map (wkD c))]/\T 0 a b) ?_ ?_ ?_
  .exact⟨[],0,a,b,none,none,none,none,none,none,rfl,by omega,rfl,by simp,rfl,rfl,hT⟩
  .rintro d r ls hd ⟨ws,j,a,b,z7,z8,z9,z10,z11,z12,er,hj,lw',hw,rfl,rfl,hT⟩;obtain⟨m,hm⟩:∃m,n-j=m+1:=by
    cases q:n-j with
    |zero=>rw[q]at er;cases er
    |succ m=>exact⟨m,rfl⟩
   rw[hm,AI]at er;obtain⟨rfl,rfl⟩:=List.cons.inj er;have ej:((j:Int)+1)=((j+1:Nat):Int):=by omega
   have em:m=n-(j+1):=by omega
   refine⟨_,rfl,?_⟩;dsimp only[set_cons_zero,set_cons_succ]
   nofun
   refine tap.draw (n:=0) hT rfl (by first|decide|omega) (by first|decide|omega) λr4 a b hT pr4 qr4=>?_
   nofun
   refine tap.draw (n:=0) hT rfl (by first|decide|omega) (by first|decide|omega) λr5 a b hT pr5 qr5=>?_
   nofun
   have fin:∀(x y:Int) a b (z10 z11 z12:Option D),1<=x->x<=1000000->0<=y->y<=1000000->T 0 a b->WS (BF (mMt Au (A0 6) (A2 (Aw (A2 (A0 8) (A2 (A0 5) (A2 (Aw (A2 (mC (.str "ends")) (A2 (A0 9) A4))) A4)))) A4))) [some (.mu 1),some (.im (.int (n:Int))),some (.im (.int lg)),some (.im (.int hv)),some (.im (.int lw)),some (.im (.int c)),some (.mu 2),some (.im (.int (j:Int))),some (.im (.int x)),some (.im (.int y)),z10,z11,z12] [a,b,.lst (ws.map (wkD c))] (JR [] (λls hd=>∃(ws:84) (j':Nat) (a b:MO) (z7 z8 z9 z10 z11 z12:Option D),AI ((j:Int)+1) m=AI (j':Int) (n-j')/\j'<=n/\68=j'/\(∀p∈ws,1<=p.1/\p.1<=1000000/\0<=p.2/\p.2<=1000000)/\ls=[some (.mu 1),some (.im (.int (n:Int))),some (.im (.int lg)),some (.im (.int hv)),some (.im (.int lw)),some (.im (.int c)),some (.mu 2),z7,z8,z9,z10,z11,z12]/\hd=[a,b,.lst (ws.map (wkD c))]/\T 0 a b) (Ej (AR (mCB (f1 true Bb) (A2 (A0 6) A4))) Q)):=by
    intro x y a b z10 z11 z12 k1 k2 k3 k4 hT
    nofun
    refine D6 rfl (BU 75) ?_;refine⟨AE _,ws++[(x,y)],j+1,a,b,_,_,_,_,_,_,by rw[ej,em],by omega,by simp[lw'],?_,rfl,?_,hT⟩
    .intro p hp;rcases mem_append.mp hp with h|h
     .exact hw p h
     .simp at h;subst h;exact⟨k1,k2,k3,k4⟩
    .simp[wkD,DG,Wa,AT,B1]
   refine⟨rfl,A5 ?_⟩;change WS _ [some (.mu 1),some (.im (.int (n:Int))),some (.im (.int lg)),some (.im (.int hv)),some (.im (.int lw)),some (.im (.int c)),some (.mu 2),some (.im (.int (j:Int))),some (.im (.int (1+lw+r4))),some (.im (.int (lw+r5))),z10,z11,z12] _ _
   nofun
   by_cases hj0:(0:Int)<(j:Int)
   .rw[ic (by simpa using hj0)]
    nofun
    refine tap.draw (n:=0) hT rfl (by first|decide|omega) (by first|decide|omega) λr6 a b hT pr6 qr6=>?_
    nofun
    refine⟨λ_=>?_,λ_=>Ad (A5 (fin _ _ a b _ _ _ 66 66 66 66 hT))⟩
    nofun
    refine tap.draw (n:=0) (many:=(j:Int)) (rest:=[.lst (ws.map (wkD c))]) hT rfl 66 66 λr7 a b hT pr7 qr7=>?_;obtain⟨u,rfl⟩:∃u:Nat,r7=(u:Int):=⟨r7.toNat,by omega⟩
    have hu:u<ws.length:=by omega
    have hp:=hw ws[u] (List.getElem_mem hu);generalize hpu:ws[u]=p at hp;obtain⟨x,y⟩:=p;dsimp only at hp;refine AL (ds:=ws.map (wkD c)) (e:=wkD c (x,y)) rfl (CW rfl (by simp[hu,hpu])) ?_
    nofun
    have mx:∀i,Be x i:=λi=>B5 66 66;have my:∀i,Be y i:=λi=>B5 66 66;refine Br (AU ?_)
    nofun
    refine B9 (mx _) ?_
    nofun
    have tail:∀(sm:Bool) a b,T 0 a b->(sm=true->x*3<=lg/\y*3<hv)->WS (A9 (AF 12 (mIf (BH (A0 11)) (mOp Aa (mC (.int 1)) (A8 2 Ab (A2 (A0 0) (A2 (mC (.int 3)) A4)))) (mC (.int 1))))
     (D3 [8,9] (A2 (mOp B8 (mOp gIx (A0 10) (mC (.int 0))) (A0 12)) (A2 (mOp B8 (mOp gIx (mOp gIx (A0 10) (mC (.int 2))) (mC (.int 1))) (A0 12)) A4)))) [some (.mu 1),some (.im (.int (n:Int))),some (.im (.int lg)),some (.im (.int hv)),some (.im (.int lw)),some (.im (.int c)),some (.mu 2),some (.im (.int (j:Int))),some (.im (.int (1+lw+r4))),some (.im (.int (lw+r5))),some (wkD c (x,y)),some (.im (.bl sm)),z12] [a,b,.lst (ws.map (wkD c))] (λf hd=>Ej (BF (mMt Au (A0 6) (A2 (Aw (A2 (A0 8) (A2 (A0 5) (A2 (Aw (A2 (mC (.str "ends")) (A2 (A0 9) A4))) A4)))) A4))) (JR [] (λls hd=>∃(ws:List (Int×Int)) (j':Nat) (a b:MO) (z7 z8 z9 z10 z11 z12:Option D),AI ((j:Int)+1) m=AI (j':Int) (n-j')/\j'<=n/\68=j'/\(∀p∈ws,1<=p.1/\p.1<=1000000/\0<=p.2/\p.2<=1000000)/\ls=[some (.mu 1),some (.im (.int (n:Int))),some (.im (.int lg)),some (.im (.int hv)),some (.im (.int lw)),some (.im (.int c)),some (.mu 2),z7,z8,z9,z10,z11,z12]/\hd=[a,b,.lst (ws.map (wkD c))]/\T 0 a b) (Ej (AR (mCB (f1 true Bb) (A2 (A0 6) A4))) Q)) f hd):=by
     intro sm a b hT hsm;have step:∀(v:Int) a b,T 0 a b->1<=v->v<=3->(v=1∨(x*3<=lg/\y*3<hv))->WS (D3 [8,9] (A2 (mOp B8 (mOp gIx (A0 10) (mC (.int 0))) (A0 12)) (A2 (mOp B8 (mOp gIx (mOp gIx (A0 10) (mC (.int 2))) (mC (.int 1))) (A0 12)) A4))) [some (.mu 1),some (.im (.int (n:Int))),some (.im (.int lg)),some (.im (.int hv)),some (.im (.int lw)),some (.im (.int c)),some (.mu 2),some (.im (.int (j:Int))),some (.im (.int (1+lw+r4))),some (.im (.int (lw+r5))),some (wkD c (x,y)),some (.im (.bl sm)),some (.im (.int v))] [a,b,.lst (ws.map (wkD c))] (λf hd=>Ej (BF (mMt Au (A0 6) (A2 (Aw (A2 (A0 8) (A2 (A0 5) (A2 (Aw (A2 (mC (.str "ends")) (A2 (A0 9) A4))) A4)))) A4))) (JR [] (λls hd=>∃(ws:84) (j':Nat) (a b:MO) (z7 z8 z9 z10 z11 z12:Option D),AI ((j:Int)+1) m=AI (j':Int) (n-j')/\j'<=n/\68=j'/\(∀p∈ws,1<=p.1/\p.1<=1000000/\0<=p.2/\p.2<=1000000)/\ls=[some (.mu 1),some (.im (.int (n:Int))),some (.im (.int lg)),some (.im (.int hv)),some (.im (.int lw)),some (.im (.int c)),some (.mu 2),z7,z8,z9,z10,z11,z12]/\hd=[a,b,.lst (ws.map (wkD c))]/\T 0 a b) (Ej (AR (mCB (f1 true Bb) (A2 (A0 6) A4))) Q)) f hd):=by
      intro v a b hT v1 v3 hv'
      nofun
      refine B9 (mx _) ?_
      nofun
      refine B9 (my _) ?_
      nofun
      refine⟨rfl,A5 ?_⟩;have bx:1<=x*v/\x*v<=1000000/\0<=y*v/\y*v<=1000000:=by
       rcases(show v=1∨v=2∨v=3 by omega)with rfl|rfl|rfl
       .omega
       .rcases hv' with h|h
        .omega
        .omega
       .rcases hv' with h|h
        .omega
        .omega
      exact fin (x*v) (y*v) a b _ _ _ bx.1 bx.2.1 bx.2.2.1 bx.2.2.2 hT
     refine AA (AM (Qx (BK (A1 rfl ⟨_,rfl,?_⟩))));refine⟨λh=>?_,λh=>AK (A5 (step 1 a b hT 66 66 (.inl rfl)))⟩
     nofun
     refine tap.draw (n:=0) hT rfl 80 80 λr8 a b hT pr8 qr8=>?_;exact CB (A5 (step (1+r8) a b hT 66 66 (.inr (hsm h))))
    by_cases hs1:x*3<=lg
    .rw[ic (by simpa using hs1)];refine A7 (A7 (A7 (A7 (A1 rfl (AK (AL rfl (Kl _ _ _ _) ?_))))));refine AK (AL rfl (Dm _ _ _) (AK (B9 (my _) (A1 rfl (DF (A5 (tail _ a b hT λh=>⟨hs1,by simpa using h⟩)))))))
    .rw[ig (by simpa using hs1)];exact A5 (tail false a b hT λh=>by cases h)
   .rw[ig (by simpa using hj0)];exact⟨(λh=>by cases h),λ_=>Ad (A5 (fin _ _ a b _ _ _ 66 66 66 66 hT))⟩
  .rintro ls hd ⟨ws,j,a,b,z7,z8,z9,z10,z11,z12,er,hj,lw',hw,rfl,rfl,hT⟩;have hj':j=n:=by
    cases q:n-j with
    |zero=>omega
    |succ m=>rw[q]at er;cases er
   nofun
   refine CI rfl rfl ?_;rw[cE];exact hQ c ws a b _ 66 ⟨hc0,hc1,by omega,by omega,hw⟩ hT
 have Cs:∀(lg hv lw:Int),0<lg->lg<=1000000->0<hv->hv<=1000001->0<=lw->lw+lg<=1000000->lw+hv<=1000001->True:=λ_ _ _ _ _ _ _ _ _ _=>trivial;rcases(show r1=0∨r1=1∨r1=2∨r1=3 by omega)with rfl|rfl|rfl|rfl
 .refine⟨_,_,rfl,Cq _ _,⟨[some (.mu 1),some (.im (.int (n:Int))),some (.im (.int 20)),some (.im (.int 10)),some (.im (.int 0)),none,none,none,none,none,none,none,none],rfl,A5 ?_⟩⟩
  nofun
  rw[ig 80];refine⟨(λh=>by cases h),λ_=>Ad (A5 (key _ ?_ 20 10 0 66 66 66 66 66 66 66 a b hT))⟩;exact λc ws a' b' g e1 e2 e3=>⟨_,a',b',g,rfl,⟨c,ws,rfl,e1,e2⟩,e3,rfl⟩
 .refine⟨_,_,rfl,Dm _ _ _,⟨[some (.mu 1),some (.im (.int (n:Int))),some (.im (.int 3)),some (.im (.int 3)),some (.im (.int 0)),none,none,none,none,none,none,none,none],rfl,A5 ?_⟩⟩
  nofun
  rw[ig 80];refine⟨(λh=>by cases h),λ_=>Ad (A5 (key _ ?_ 3 3 0 66 66 66 66 66 66 66 a b hT))⟩;exact λc ws a' b' g e1 e2 e3=>⟨_,a',b',g,rfl,⟨c,ws,rfl,e1,e2⟩,e3,rfl⟩
 .refine⟨_,_,rfl,Kl _ _ _ _,⟨[some (.mu 1),some (.im (.int (n:Int))),some (.im (.int 20)),some (.im (.int 2)),some (.im (.int 0)),none,none,none,none,none,none,none,none],rfl,A5 ?_⟩⟩
  nofun
  rw[ig 80];refine⟨(λh=>by cases h),λ_=>Ad (A5 (key _ ?_ 20 2 0 66 66 66 66 66 66 66 a b hT))⟩;exact λc ws a' b' g e1 e2 e3=>⟨_,a',b',g,rfl,⟨c,ws,rfl,e1,e2⟩,e3,rfl⟩
 .refine⟨_,_,rfl,CW (k:=3) rfl rfl,⟨[some (.mu 1),some (.im (.int (n:Int))),some (.im (.int 1000000)),some (.im (.int 1000001)),some (.im (.int 0)),none,none,none,none,none,none,none,none],rfl,A5 ?_⟩⟩
  nofun
  rw[ic 80]
  nofun
  refine tap.draw (n:=0) hT rfl 80 80 λr8 a b hT pr8 qr8=>?_
  nofun
  refine⟨λh=>?_,λ_=>Ad (A5 (key _ ?_ 1000000 1000001 0 66 66 66 66 66 66 66 a b hT))⟩
  .refine F7 (BY (A3 (AK (A3 (AK (A3 (AK (A6 ⟨Jv,?_⟩))))))));refine⟨[some (.mu 1),some (.im (.int (n:Int))),some (.im (.int 8)),some (.im (.int 9)),some (.im (.int 999992)),none,none,none,none,none,none,none,none],rfl,A5 (key _ ?_ 8 9 999992 66 66 66 66 66 66 66 a b hT)⟩;exact λc ws a' b' g e1 e2 e3=>⟨_,a',b',g,rfl,⟨c,ws,rfl,e1,e2⟩,e3,rfl⟩
  .exact λc ws a' b' g e1 e2 e3=>⟨_,a',b',g,rfl,⟨c,ws,rfl,e1,e2⟩,e3,rfl⟩
open Sm An
abbrev Sz(k:Nat)(i:Int):Prop:=i.natAbs<2^k
def QB{i k:Nat}(h:i<2^k)(hk:0<k):i.log2<k:=by
 by_cases z:i=0
 .rw[z,show Nat.log2 0=0 from by decide];exact hk
 .exact(Nat.log2_lt z).mpr h
def Sz.mono{k k':Nat}{i:Int}(h:Sz k i)(hk:k<=k'):Sz k' i:=j3 h (Nat.pow_le_pow_right 80 hk)
def Sz.mul{k l:Nat}{i j:Int}(h:Sz k i)(h':Sz l j):Sz (k+l) (i*j):=by
 unfold Sz;rw[Int.natAbs_mul,Nat.pow_add];exact Nat.mul_lt_mul'' h h'
def cC{k l:Nat}{i j:Int}(h:Sz k i)(h':Sz l j)(hk:0<k:=by decide)(hl:0<l:=by decide)(bk:k<=100000:=by decide)(bl:l<=100000:=by decide):G8 i j:=⟨j3 (QB h hk) bk,j3 (QB h' hl) bl⟩
def TC{k:Nat}{j:Int}(h0:0<j)(h:Sz k j)(hk:0<k)(bk:k<=9000):F5 j:=⟨h0,j3 (QB h hk) bk⟩
def WX(a:Int){b:Nat}:WF BW [.im (.int a),.im (.int (b:Int))] [] λd x=>d=.im (.int (Nat.gcd a.natAbs b:Nat)):=by
 unfold BW;refine Ac rfl ?_;refine AA (AM (BO (A3 (A1 rfl (A6 (WP.eq (z:=.im (.int (a.natAbs:Int))) (h:=[]) (by simp[Ka];split<;>omega) (A5 ?_)))))));refine AA (Lq (λm ls hd=>∃x y:Nat,m=y/\Nat.gcd x y=Nat.gcd a.natAbs b/\ls=[some (.im (.int (x:Int))),some (.im (.int (y:Int)))]/\hd=[]) (n:=b) ⟨a.natAbs,b,rfl,rfl,rfl,rfl⟩ ?_);rintro m ls hd ⟨x,y,rfl,hg,rfl,rfl⟩;refine AU (A7 (A1 rfl (AK (Lv ⟨_,rfl,?_⟩))));by_cases hy:m=0
 .subst hy;rw[ig 70];refine A5 (AH (A1 rfl ?_));show D.im (.int (x:Int))=_;rw[<- hg,Nat.gcd_zero_right]
 .rw[ic 75];refine JO (A3 (A1 rfl (A3 (A7 (A1 rfl (A1 rfl (ZJ (show CC (m:Int) by unfold CC;omega) (A6 ⟨rfl,?_⟩))))))));exact⟨x%m,Nat.mod_lt _ 66,m,x%m,rfl,by rw[<- hg,Nat.gcd_comm x m,Nat.gcd_rec m x,Nat.gcd_comm],by simp,rfl⟩
structure Rd(p q:Int):Prop where
 q0:0<q
 g1:Nat.gcd p.natAbs q.natAbs=1
def red{a b:Int}(hb:0<b):∃p q:Int,a/(Nat.gcd a.natAbs b.natAbs:Nat)=p/\b/(Nat.gcd a.natAbs b.natAbs:Nat)=q/\Rd p q/\p*b=a*q/\p.natAbs<=a.natAbs/\q.natAbs<=b.natAbs:=by
 have hs:0<Nat.gcd a.natAbs b.natAbs:=Nat.gcd_pos_of_pos_right _ 66;obtain⟨p,hp⟩:((Nat.gcd a.natAbs b.natAbs:Nat):Int) ∣ a:=Int.ofNat_dvd_left.mpr (Nat.gcd_dvd_left _ _);obtain⟨q,hq⟩:((Nat.gcd a.natAbs b.natAbs:Nat):Int) ∣ b:=Int.ofNat_dvd_left.mpr (Nat.gcd_dvd_right _ _);have e1:a/(Nat.gcd a.natAbs b.natAbs:Nat)=p:=Int.ediv_eq_of_eq_mul_right 66 hp;have e2:b/(Nat.gcd a.natAbs b.natAbs:Nat)=q:=Int.ediv_eq_of_eq_mul_right 66 hq;have na:a.natAbs=Nat.gcd a.natAbs b.natAbs*p.natAbs:=by
  have:=ji Int.natAbs hp;rw[Int.natAbs_mul,Int.natAbs_natCast]at this;exact this
 have nb:b.natAbs=Nat.gcd a.natAbs b.natAbs*q.natAbs:=by
  have:=ji Int.natAbs hq;rw[Int.natAbs_mul,Int.natAbs_natCast]at this;exact this
 refine⟨p,q,e1,e2,⟨?_,?_⟩,?_,?_,?_⟩
 .have s0:0<((Nat.gcd a.natAbs b.natAbs:Nat):Int):=by omega
  rw[hq]at hb;exact Int.pos_of_mul_pos_right hb s0
 .have:=Nat.gcd_div_gcd_div_gcd_of_pos_right (n:=a.natAbs) (m:=b.natAbs) 66;rw[Nat.div_eq_of_eq_mul_right hs na,Nat.div_eq_of_eq_mul_right hs nb]at this;exact this
 .generalize ((Nat.gcd a.natAbs b.natAbs:Nat):Int)=s at hp hq;rw[hp,hq]
  ac_rfl
 .rw[na];exact Nat.le_mul_of_pos_left _ hs
 .rw[nb];exact Nat.le_mul_of_pos_left _ hs
def Gg{k:Nat}(hk:0<k)(bk:k<=9000){t u:Int}(hu:u≠0)(su:Sz k u):WF Cz [.im (.int t),.im (.int u)] [] λd x=>∃p q,d=.im (.tup [.int p,.int q])/\Rd p q/\p*u=t*q/\p.natAbs<=t.natAbs/\q.natAbs<=u.natAbs:=by
 unfold Cz;refine Ac rfl ?_;have go:∀t' u':Int,0<u'->u'.natAbs=u.natAbs->t'.natAbs=t.natAbs->(∀p q:Int,p*u'=t'*q->p*u=t*q)->WS (A9 (AF 2 (A8 0 BW (A2 (A0 0) (A2 (A0 1) A4)))) (AR (Aw (A2 (mOp ET (A0 0) (A0 2)) (A2 (mOp ET (A0 1) (A0 2)) A4))))) [some (.im (.int t')),some (.im (.int u')),none] [] λf x=>∃d,f=.rt d/\∃p q,d=.im (.tup [.int p,.int q])/\Rd p q/\p*u=t*q/\p.natAbs<=t.natAbs/\q.natAbs<=u.natAbs:=by
  intro t' u' h0 eu et back;obtain⟨b,rfl⟩:∃b:Nat,u'=(b:Int):=⟨u'.toNat,by omega⟩
  obtain⟨p,q,e1,e2,rd,pe,lp,lq⟩:=red (a:=t') h0;rw[Int.natAbs_natCast]at e1 e2 lq eu;have hs:0<Nat.gcd t'.natAbs b:=Nat.gcd_pos_of_pos_right _ 66;have hs2:Nat.gcd t'.natAbs b<=b:=Nat.gcd_le_right _ 66;have dv:F5 ((Nat.gcd t'.natAbs b:Nat):Int):=TC 66 (k:=k) (by unfold Sz;rw[Int.natAbs_natCast];unfold Sz at su;omega) hk bk;refine AA (AM (AD (A3 (A1 rfl (A3 (A1 rfl (A6 ⟨by simp,(WX t' (b:=b)).mono ?_⟩)))))));rintro d x rfl;refine⟨_,rfl,A5 (AH (BY (A3 (A7 (A1 rfl (A1 rfl (Ik dv (A3 (A7 (A1 rfl (A1 rfl (Ik dv (A6 ⟨FR,_,rfl,p,q,?_,rd,back p q pe,by omega,by omega⟩)))))))))))))⟩;rw[e1,e2];rfl
 have out:∀{f:Fl} {x:Hd},(∃d,f=.rt d/\∃p q,d=.im (.tup [.int p,.int q])/\Rd p q/\p*u=t*q/\p.natAbs<=t.natAbs/\q.natAbs<=u.natAbs)->(match f with|.rt d=>∃p q,d=.im (.tup [.int p,.int q])/\Rd p q/\p*u=t*q/\p.natAbs<=t.natAbs/\q.natAbs<=u.natAbs|_=>False):=by
  rintro f x ⟨d,rfl,h⟩;exact h
 refine AA (B7 (AU (A7 (A1 rfl (AK (DF ⟨_,rfl,λh=>?_,λh=>?_⟩))))))
 .have h:u<0:=by simpa using h
  refine JO (A3 (Ly (A1 rfl ⟨_,rfl,A3 (Ly (A1 rfl ⟨_,rfl,A6 ⟨rfl,A5 ?_⟩⟩))⟩)));refine(go (-t) (-u) 66 66 66 (λp q e=>?_)).mono ?_
  .rw[mul_neg,Int.neg_mul]at e;omega
  .rintro f x ⟨d,rfl,h⟩;exact h
 .have h:¬ u<0:=by simpa using h
  refine Ad (A5 ((go t u 66 rfl rfl (λp q e=>e)).mono ?_));rintro f x ⟨d,rfl,h⟩;exact h
noncomputable abbrev frI(p q:Int):I:=.tup [.int p,.int q]
def cn{p q:Int}{QE:D->Hd->Prop}(h:QE (.im (.int p)) hd):WP (gIx (.im (frI p q)) (.im (.int 0)) hd) QE:=AL (ds:=[.im (.int p),.im (.int q)]) rfl (Cq _ _) h
def cm{p q:Int}{QE:D->Hd->Prop}(h:QE (.im (.int q)) hd):WP (gIx (.im (frI p q)) (.im (.int 1)) hd) QE:=AL (ds:=[.im (.int p),.im (.int q)]) rfl (CW (k:=1) rfl rfl) h
noncomputable def FL:I->Bool
 |.int _=>true
 |_=>false
noncomputable def Bk:I->Int
 |.int i=>i
 |_=>0
def DQ(h:FL i=true):i=.int (Bk i):=by
 cases i<;>simp[FL,Bk]at h ⊢
def WM(i:I):WF DE [.im i] [] λd x=>d=.im (.bl (FL i)):=by
 unfold DE;refine Ac rfl ?_;cases i with
 |int i=>exact AH (Br (AU (Bx (A1 rfl ⟨true,rfl,_,rfl,Nv (AU (Bx (A1 rfl ⟨false,rfl,_,rfl,rfl⟩)))⟩))))
 |bl b=>exact AH (Br (AU (Bx (A1 rfl ⟨true,rfl,_,rfl,Nv (AU (Bx (A1 rfl ⟨true,rfl,_,rfl,rfl⟩)))⟩))))
 |non=>exact AH (Br (AU (Bx (A1 rfl ⟨false,rfl,_,rfl,rfl⟩))))
 |str x=>exact AH (Br (AU (Bx (A1 rfl ⟨false,rfl,_,rfl,rfl⟩))))
 |tup x=>exact AH (Br (AU (Bx (A1 rfl ⟨false,rfl,_,rfl,rfl⟩))))
noncomputable def Ch(k:Int)(i:I):Bool:=FL i&&decide (k<=Bk i)
def Sx(k:Int)(i:I):WF C0 [.im (.int k),.im i] [] λd x=>d=.im (.bl (Ch k i)):=by
 unfold C0;refine Ac rfl ?_;refine AH (Br (AU (AD (A3 (A1 rfl (A6 ⟨by simp,(WM i).mono ?_⟩))))));rintro d x rfl;refine⟨_,rfl,_,rfl,?_⟩;by_cases h:FL i=true
 .obtain⟨j,rfl⟩:∃j,i=.int j:=⟨_,DQ h⟩
  rw[ic h];exact A7 (A1 rfl (A1 rfl (Vn rfl)))
 .rw[ig h];simp[Ch,h]
noncomputable def Cf(n:Int)(i:I):Bool:=Ch 0 i&&decide (Bk i<n)
def Sa(n:Int)(i:I):WF BQ [.im (.int n),.im i] [] λd x=>d=.im (.bl (Cf n i)):=by
 unfold BQ;refine Ac rfl ?_;refine AH (Br (AU (AD (A3 (AK (A3 (A1 rfl (A6 ⟨by simp,(Sx 0 i).mono ?_⟩))))))));rintro d x rfl;refine⟨_,rfl,_,rfl,?_⟩;by_cases h:Ch 0 i=true
 .have hn:FL i=true:=by unfold Ch at h;rw[Bool.and_eq_true]at h;exact h.1
  obtain⟨j,rfl⟩:∃j,i=.int j:=⟨_,DQ hn⟩
  rw[ic h];refine A7 (A1 rfl (A1 rfl (DF ?_)));show D.im _=_;unfold Cf;rw[h];rfl
 .rw[ig h];simp[Cf,h]
noncomputable def DV(n:Nat):I->Bool
 |.tup l=>decide (l.length=n)
 |_=>false
def O2(n:Nat)(i:I):WF CA [.im (.int (n:Int)),.im i] [] λd x=>d=.im (.bl (DV n i)):=by
 unfold CA;refine Ac rfl ?_;cases i with
 |tup l=>
  refine AH (Br (AU (Bx (A1 rfl ⟨true,rfl,_,rfl,?_⟩))));refine A7 (BO (A3 (A1 rfl (A6 (CI (ds:=l.map D.im) rfl rfl (A1 rfl (F8 ?_)))))));show D.im _=_;simp only[DV,iX]
  congr 2
  simp;omega
 |int i=>exact AH (Br (AU (Bx (A1 rfl ⟨false,rfl,_,rfl,rfl⟩))))
 |bl b=>exact AH (Br (AU (Bx (A1 rfl ⟨false,rfl,_,rfl,rfl⟩))))
 |non=>exact AH (Br (AU (Bx (A1 rfl ⟨false,rfl,_,rfl,rfl⟩))))
 |str x=>exact AH (Br (AU (Bx (A1 rfl ⟨false,rfl,_,rfl,rfl⟩))))
def ZQ(h:DV 2 i=true):∃a b,i=.tup [a,b]:=by
 cases i with
 |tup l=>
  simp[DV]at h
  match l,h with
  |[a,b],_=>exact⟨a,b,rfl⟩
 |_=>simp[DV]at h
noncomputable def E7:I->Bool
 |.tup [a,b]=>FL a&&(Ch 1 b&&decide (Nat.gcd (Bk a).natAbs (Bk b).natAbs=1))
 |_=>false
def cZ(i:I):WF DM [.im i] [] λd x=>d=.im (.bl (E7 i)):=by
 unfold DM;refine Ac rfl ?_;refine AA (B7 (Bw (BK (AD (A3 (AK (A3 (A1 rfl (A6 ⟨by simp,(O2 2 i).mono ?_⟩)))))))));rintro d x rfl;refine⟨_,rfl,_,rfl,?_⟩;by_cases ht:DV 2 i=true
 .rw[ht];refine⟨(λh=>by cases h),λ_=>Ad (A5 ?_)⟩;obtain⟨a,b,rfl⟩:=ZQ ht;refine AA (F7 (A1 rfl ⟨[some (.im (.tup [a,b])),some (.im a),some (.im b)],rfl,A5 ?_⟩));refine AA (B7 (FV (Bw (BK (AD (A3 (A1 rfl (A6 ⟨by simp,(WM a).mono ?_⟩))))))));rintro d x rfl;refine⟨_,rfl,_,rfl,?_⟩;by_cases ha:FL a=true
  .rw[ha,ig 70];refine Bw (BK (AD (A3 (AK (A3 (A1 rfl (A6 ⟨by simp,(Sx 1 b).mono ?_⟩)))))));rintro d x rfl;refine⟨_,rfl,_,rfl,?_⟩;by_cases hb:Ch 1 b=true
   .rw[hb];refine⟨(λh=>by cases h),λ_=>Ad (A5 ?_)⟩;have hnb:FL b=true:=by unfold Ch at hb;rw[Bool.and_eq_true]at hb;exact hb.1
    have b1:1<=Bk b:=by unfold Ch at hb;rw[Bool.and_eq_true]at hb;exact kr hb.2
    have e:E7 (.tup [a,b])=decide (Nat.gcd (Bk a).natAbs (Bk b).natAbs=1):=by simp only[E7,ha,hb,Bool.true_and]
    rw[e];obtain⟨x,rfl⟩:∃j,a=.int j:=⟨_,DQ ha⟩
    obtain⟨y,rfl⟩:∃j,b=.int j:=⟨_,DQ hnb⟩
    simp only[Bk]at b1 ⊢;obtain⟨k,rfl⟩:∃k:Nat,y=(k:Int):=⟨y.toNat,by omega⟩
    refine AH (A7 (AD (A3 (A1 rfl (A3 (A1 rfl (A6 ⟨by simp,(WX x (b:=k)).mono ?_⟩)))))));rintro d' x' rfl;refine⟨_,rfl,AK (F8 ?_)⟩;show D.im (.bl (decide (((Nat.gcd x.natAbs k:Nat):Int)=1)))=D.im (.bl (decide (Nat.gcd x.natAbs (k:Int).natAbs=1)));have:(((Nat.gcd x.natAbs k:Nat):Int)=1)↔Nat.gcd x.natAbs (k:Int).natAbs=1:=by rw[Int.natAbs_natCast];omega
    rw[decide_eq_decide.mpr this]
   .rw[Bool.eq_false_iff.mpr hb];refine⟨λ_=>AH (AK ?_),λh=>by cases h⟩;show D.im _=_;simp only[E7,Bool.eq_false_iff.mpr hb,Bool.false_and,Bool.and_false]
  .rw[Bool.eq_false_iff.mpr ha,ic 70];refine⟨λ_=>AH (AK ?_),λh=>by cases h⟩;show D.im _=_;simp only[E7,Bool.eq_false_iff.mpr ha,Bool.false_and]
 .rw[Bool.eq_false_iff.mpr ht];refine⟨λ_=>AH (AK ?_),λh=>by cases h⟩;show D.im _=_;have:E7 i=false:=by
   unfold E7;split
   .simp[DV]at ht
   .rfl
  rw[this]
def Lw{QI:List D×Gd->Hd->Prop}(h:WI ma ls hd λp x=>WI mb ls x λq y=>GOk y p.2/\QI (List.zipWith (λx y=>AT [x,y]) p.1 q.1,p.2++q.2) y):WI (J4 ma mb) ls hd QI:=by
 obtain⟨p,x,e1,q,y,e2,g,k⟩:=h;exact⟨_,_,by simp only[J4,e1,ik,e2,g,iU],k⟩
noncomputable def up:List Int->Bool
 |a::b::r=>decide (a<b)&&up (b::r)
 |_=>true
theorem R9:∀ns:List Int,((ns.zip (ns.drop 1)).map λp=>decide (p.1<p.2)).all id=up ns
 |[]=>rfl
 |[a]=>rfl
 |a::b::r=>by
  have:=R9 (b::r);simp only[List.drop_succ_cons,List.drop_zero,List.zip_cons_cons,iw,all_cons,id,up]at this ⊢;rw[<- this]
theorem PJ:∀ns:List Int,up ns=true↔ns.Pairwise (·<·)
 |[]=>by simp[up]
 |[a]=>by simp[up]
 |a::b::r=>by
  rw[up,Bool.and_eq_true,jX,PJ (b::r),pairwise_cons (a:=a)];constructor
  .rintro⟨h1,h2⟩;refine⟨λx hx=>?_,h2⟩;rcases mem_cons.mp hx with rfl|hx
   .exact h1
   .exact Int.lt_trans h1 ((pairwise_cons.mp h2).1 x hx)
  .rintro⟨h1,h2⟩;exact⟨h1 b 70,h2⟩
def KW(ns:List Int):(ns.map I.int).map D.im=intD ns:=by simp[intD]
def XJ{ns:List Int}(hl:ns.length<=20):WF IN [.im (.tup (ns.map .int))] [] λd x=>d=.im (.bl (up ns)):=by
 unfold IN;refine Ac rfl ?_;refine AH (BZ (AY (Lw (BJ (A1 rfl ⟨_,rfl,BJ (HC (A1 rfl (Dr (AK ⟨_,rfl,GH ⟨_,rfl,?_⟩⟩))))⟩)))));rw[KW,show((1:Int))=((1:Nat):Int)from rfl,cut_on];have e1:(intD ns).drop 1=intD (ns.drop 1):=by simp[intD]
 rw[e1,<- KW (ns.drop 1),BL];refine⟨_,rfl,AE _,?_⟩;dsimp only;have ez:List.zipWith (λx y=>AT [x,y]) (intD ns) (((ns.drop 1).map I.int).map D.im)=(ns.zip (ns.drop 1)).map λp=>D.im (ER p):=by
  rw[KW,intD,intD,List.zipWith_map,List.zip,List.map_zipWith];rfl
 rw[ez];refine⟨AQ 75,?_⟩;refine Aq (λp=>D.im (ER p)) (λp:Int×Int=>some (.im (.bl (decide (p.1<p.2))))) (λ_ ls=>∃x y,ls=[some x,some y]) _ (AE _) ?_ ?_
 .rintro p hp ls hls;refine⟨[some (.im (.int p.1)),some (.im (.int p.2))],by rcases hls with rfl|⟨_,x,y,rfl⟩<;>rfl,⟨_,_,rfl⟩,AZ ⟨rfl,?_⟩⟩;rw[ic rfl];exact⟨_,rfl,A7 (A1 rfl (A1 rfl (DF ⟨rfl,rfl⟩)))⟩
 .rw[List.filterMap_eq_map',show((ns.zip (ns.drop 1)).map λp:Int×Int=>D.im (.bl (decide (p.1<p.2))))=blD ((ns.zip (ns.drop 1)).map λp=>decide (p.1<p.2)) by simp[blD]];refine⟨_,by rw[Dh,EA];rfl,?_⟩;rw[<- R9]
noncomputable def EZ(n:Int):I->Bool
 |.tup l=>l.all (Cf n)&&up (l.map Bk)
 |_=>false
def ZH{n:Int}{l:List I}(h:l.all (Cf n)=true):l=(l.map Bk).map I.int:=by
 rw[iZ];refine(map_id l).symm.trans (jP λi hi=>?_);have:=all_eq_true.mp h i hi;unfold Cf Ch at this;simp only[Bool.and_eq_true]at this;exact DQ this.1.1
def Yx(n:Int)(i:I)(hl:∀l,i=.tup l->l.length<=20):WF CK [.im (.int n),.im i] [] λd x=>d=.im (.bl (EZ n i)):=by
 unfold CK;refine Ac rfl ?_;have other:(∀l,i≠.tup l)->EZ n i=false:=λh=>by
  unfold EZ;split
  .exact absurd rfl (h _)
  .rfl
 have no:∀{Q:Bool->Hd->Prop},(∀l,i≠.tup l)->isD .tuple [] (.im i)=some false:=by
  intro _ h;cases i with
  |tup l=>exact absurd rfl (h l)
  |_=>rfl
 by_cases ht:∃l,i=.tup l
 .obtain⟨l,rfl⟩:=ht;have hl:=hl l rfl;refine AA (B7 (FV (Bw (BK (Bx (A1 rfl ⟨true,rfl,true,rfl,?_⟩))))));rw[ig 70];refine Bw (BK (BZ (AY (BJ (A1 rfl ⟨_,rfl,AQ 75,?_⟩)))));refine Aq D.im (λe:I=>some (.im (.bl (Cf n e)))) (λ_ ls=>∃x,ls=[some x,some (.im (.int n))]) _ (AE _) ?_ ?_
  .rintro e he ls hls;refine⟨[some (.im e),some (.im (.int n))],by rcases hls with rfl|⟨_,x,rfl⟩<;>rfl,⟨_,rfl⟩,AZ ⟨rfl,?_⟩⟩;rw[ic rfl];refine⟨_,rfl,AD (A3 (A1 rfl (A3 (A1 rfl (A6 ⟨by simp,(Sa n e).mono ?_⟩)))))⟩;rintro d x rfl;exact⟨_,rfl,rfl,rfl⟩
  rw[List.filterMap_eq_map',show(l.map λe=>D.im (.bl (Cf n e)))=blD (l.map (Cf n)) by simp[blD]];refine⟨_,by rw[Dh,EA];rfl,_,rfl,?_⟩;have ea:(l.map (Cf n)).all id=l.all (Cf n):=by simp[all_map]
  rw[ea];by_cases h:l.all (Cf n)=true
  .rw[h];refine⟨(λh=>by cases h),λ_=>Ad (A5 ?_)⟩;have el:=ZH h;have ev:EZ n (.tup l)=up (l.map Bk):=by simp only[EZ,h,Bool.true_and]
   rw[ev];generalize l.map Bk=ns at *;subst el;refine AH (AD (A3 (A1 rfl (A6 ⟨by simp,(XJ (by simpa using hl)).mono ?_⟩))));rintro d x rfl;exact⟨_,rfl,rfl⟩
  .rw[Bool.eq_false_iff.mpr h];refine⟨λ_=>AH (AK ?_),λh=>by cases h⟩;show D.im _=_;simp only[EZ,Bool.eq_false_iff.mpr h,Bool.false_and]
 .have hn:∀l,i≠.tup l:=λl e=>ht ⟨l,e⟩;refine AA (B7 (FV (Bw (BK (Bx (A1 rfl ⟨false,no (Q:=λ_ _=>True) hn,false,rfl,?_⟩))))));rw[ic 70];refine⟨λ_=>AH (AK ?_),λh=>by cases h⟩;show D.im _=_;rw[other hn]
def G5{n:Nat}(h:Cf (n:Int) i=true):∃a:Nat,i=.int (a:Int)/\a<n:=by
 unfold Cf Ch at h;simp only[Bool.and_eq_true,jX]at h;exact⟨(Bk i).toNat,by rw[Int.toNat_of_nonneg h.1.2];exact DQ h.1.1,by omega⟩
def Od{n a:Nat}(h:a<n):Cf (n:Int) (.int (a:Int))=true:=by
 simp[Cf,Ch,FL,Bk];omega
def Wy{n:Nat}(h:EZ (n:Int) i=true):∃S:List Nat,i=AS S/\S.Pairwise (·<·)/\∀b∈S,b<n:=by
 unfold EZ at h;split at h
 .next l=>
  rw[Bool.and_eq_true]at h;have h1:=all_eq_true.mp h.1;refine⟨l.map λi=>(Bk i).toNat,?_,?_,?_⟩
  .congr 1
   rw[iZ];refine(map_id l).symm.trans (jP λi hi=>?_);obtain⟨a,rfl,_⟩:=G5 (h1 i hi);simp[Bk]
  .have:=(PJ _).mp h.2;rw[ke]at this ⊢;refine this.imp_of_mem λ{x y} hx hy q=>?_
   obtain⟨a,rfl,_⟩:=G5 (h1 x hx);obtain⟨b,rfl,_⟩:=G5 (h1 y hy);simp[Bk]at q ⊢;omega
  .intro b hb;obtain⟨i,hi,rfl⟩:=mem_map.mp hb;obtain⟨a,rfl,ha⟩:=G5 (h1 i hi);simpa [Bk]using ha
 .cases h
def Wx{n:Nat}{S:71}(h1:S.Pairwise (·<·))(h2:∀b∈S,b<n):EZ (n:Int) (AS S)=true:=by
 unfold EZ AS;rw[Bool.and_eq_true];refine⟨all_eq_true.mpr λi hi=>?_,(PJ _).mpr ?_⟩
 .obtain⟨k,hk,rfl⟩:=mem_map.mp hi;exact Od (h2 k hk)
 .rw[iZ,ke];exact h1.imp λq=>by simp[Bk];omega
def Z1(h:E7 i=true):∃p q:Int,i=frI p q/\Rd p q:=by
 unfold E7 at h;split at h
 .next a b=>
  simp only[Bool.and_eq_true,jX]at h;obtain⟨h1,h2,h3⟩:=h;unfold Ch at h2;simp only[Bool.and_eq_true,jX]at h2;refine⟨Bk a,Bk b,?_,⟨by omega,h3⟩⟩;rw[frI,<- DQ h1,<- DQ h2.1]
 .cases h
def Z0{p q:Int}(h:Rd p q):E7 (frI p q)=true:=by
 simp only[E7,frI,FL,Bk,Ch,Bool.true_and,h.g1,ky,Bool.and_true];have:=h.q0;exact jI 66
noncomputable def lf(ws:84)(k:Nat):Int:=((ws[k]?).map (·.1)).getD 1
noncomputable def wf(ws:84)(k:Nat):Int:=((ws[k]?).map (·.2)).getD 0
def DU{c:Int}{ws:84}{k:Nat}(hk:k<68):atI (((ws.map (wk c)).map DG).map D.im) (k:Int)=some (wkD c (lf ws k,wf ws k)):=CW rfl (by simp[hk,lf,wf])
def D9{c:Int}(W:WOk c ws){k:Nat}(hk:k<68):1<=lf ws k/\lf ws k<=1000000/\0<=wf ws k/\wf ws k<=1000000:=by
 have:=W.each ws[k] (List.getElem_mem hk);simp[lf,wf,hk];omega
def KT{c:Int}(W:WOk c ws)(k:Nat):0<lf ws k:=by
 rcases jC k 68 with h|h
 .have:=(D9 W h).1;omega
 .simp[lf,h]
structure UOk(ws:84):Prop where
 n8:68<=8
 each:∀p∈ws,1<=p.1/\p.1<=1000000
def cP(W:UOk ws){k:Nat}(hk:k<68):1<=lf ws k/\lf ws k<=1000000:=by
 have:=W.each ws[k] (List.getElem_mem hk);simp[lf,hk];omega
theorem HF(f:Nat->Int):∀ks:List Nat,(ks.map f).sum=sm f ks
 |[]=>rfl
 |k::r=>by simp[Sm.sm,HF f r]
noncomputable def prs:Nat->List (Nat×Nat)
 |0=>[]
 |n+1=>prs n++(69 n).map λi=>(i,n)
theorem Mp:∀n,∀p∈prs n,p.1<n/\p.2<n
 |0,p,h=>by simp[prs]at h
 |n+1,p,h=>by
  rw[prs]at h;rcases mem_append.mp h with h|h
  .have:=Mp n p h;omega
  .obtain⟨i,hi,rfl⟩:=mem_map.mp h;simp at hi;dsimp only;omega
theorem G0:∀n,(prs n).length<=n*n
 |0=>by simp[prs]
 |n+1=>by
  have:=G0 n;simp only[prs,iV,iX,List.length_range];rw[Nat.succ_mul,Nat.mul_succ];omega
theorem KL(g:Nat->Nat->Int):∀n,((prs n).map λp=>g p.1 p.2).sum=ps g (69 n)
 |0=>rfl
 |n+1=>by
  rw[prs,jl,sum_append,KL g n,jH,OT,iZ]
  congr 1
  exact HF (λi=>g i n) (69 n)
noncomputable abbrev prD(p:Nat×Nat):D:=.im (.tup [.int (p.1:Int),.int (p.2:Int)])
def DS(ns:List Int):E5 (intD ns)=some (.im (.int ns.sum)):=by
 have:B4 (intD ns)=some ns:=by
  induction ns with
  |nil=>rfl
  |cons n r ih=>simp[intD]at ih ⊢
 unfold E5;rw[this];rfl
def SS{c:Int}(c0:0<=c)(c1:c<=60)(W:UOk ws):WF Bg [.im (.int c),.mu 1,.mu 0] [.lst (intD (ws.map (·.2))),.lst (intD (ws.map (·.1)))] λd x=>d=.im (.int (least 81 (wf ws) c 68)):=by
 have n8:=W.n8;have la:∀k,k<68->atI (intD (ws.map (·.1))) (k:Int)=some (.im (.int (lf ws k))):=λk hk=>CW rfl (by simp[intD,lf,hk]);have wa:∀k,k<68->atI (intD (ws.map (·.2))) (k:Int)=some (.im (.int (wf ws k))):=λk hk=>CW rfl (by simp[intD,wf,hk]);unfold Bg;refine Ac rfl ?_;refine AA (AM (BZ (AY (Lw (Cj (A1 rfl ⟨1,_,rfl,rfl,Cj (A1 rfl ⟨0,_,rfl,rfl,?_⟩)⟩))))));refine⟨by intro p hp;rw[jh]at hp;subst hp;rfl,?_⟩;dsimp only;have ez:List.zipWith (λx y=>AT [x,y]) (intD (ws.map (·.1))) (intD (ws.map (·.2)))=ws.map Ae:=by
  simp only[intD,iZ];rw[List.zipWith_map];have:∀l:List (Int×Int),List.zipWith (λa b:Int×Int=>AT [((λi=>D.im (.int i)) ∘ λx=>x.1) a,((λi=>D.im (.int i)) ∘ λx=>x.2) b]) l l=l.map Ae:=by
   intro l
   induction l with
   |nil=>rfl
   |cons p r ih=>rw[List.zipWith_cons_cons,iw,ih];rfl
  exact this ws
 rw[ez];refine⟨AQ 75,?_⟩;have gk:GOk [.lst (intD (ws.map (·.2))),.lst (intD (ws.map (·.1)))] ([(1,intD (ws.map (·.1)))]++[(0,intD (ws.map (·.2)))]):=by
  intro p hp;simp only[iT,jh]at hp;rcases hp with rfl|rfl<;>rfl
 refine Aq Ae (λp=>some (.im (.int (p.2*(c+p.1))))) (λ_ ls=>∃x y,ls=[some x,some y,some (.im (.int c))]) _ gk ?_ ?_
 .rintro p hp ls hls;have b:=W.each p hp;refine⟨[some (.im (.int p.1)),some (.im (.int p.2)),some (.im (.int c))],by rcases hls with rfl|⟨_,x,y,rfl⟩<;>rfl,⟨_,_,rfl⟩,AZ ⟨rfl,?_⟩⟩;rw[ic rfl];exact⟨_,rfl,A7 (A1 rfl (A7 (A1 rfl (A1 rfl (CB (B9 (.inr ⟨by omega,by omega⟩) ⟨rfl,rfl⟩))))))⟩
 have e1:(ws.filterMap λp=>some (D.im (.int (p.2*(c+p.1)))))=intD (ws.map λp=>p.2*(c+p.1)):=by simp[intD]
 rw[e1];refine⟨_,DS _,A5 ?_⟩;have es:(ws.map λp=>p.2*(c+p.1)).sum=sm (λk=>wf ws k*(c+lf ws k)) (69 68):=by
  rw[<- HF]
  congr 1
  refine jZ λi=>?_;by_cases hi:i<68
  .simp[hi,lf,wf]
  .rw[List.getElem?_eq_none 75,List.getElem?_eq_none 75]
 rw[es];change WS _ [some (.im (.int c)),some (.mu 1),some (.mu 0),some (.im (.int (sm (λk=>wf ws k*(c+lf ws k)) (69 68)))),none] _ _;generalize hal:Sm.sm (λk=>wf ws k*(c+lf ws k)) (69 68)=alone;refine AA (AM (F9 (D0 (A3 (BO (A3 (A1 rfl (A6 (CI (ds:=intD (ws.map (·.1))) (z:=.im (.int (ws.length:Int))) rfl (by simp[Aj]) ?_)))))))));refine A6 ⟨_,rfl,BI 66 66,?_⟩;rw[jj];refine Ds (λr ls hd=>∃(j:Nat) (z0 z1:Option D),r=AI (j:Int) (68-j)/\j<=68/\ls=[z0,z1]/\hd=[.lst (intD (ws.map (·.2))),.lst (intD (ws.map (·.1))),.lst ((prs j).map prD)]) ⟨0,none,none,rfl,by omega,rfl,rfl⟩ ?_ ?_
 .rintro d r ls hd ⟨j,z0,z1,er,hj,rfl,rfl⟩;obtain⟨m,hm⟩:∃m,ws.length-j=m+1:=by
   cases q:68-j with
   |zero=>rw[q]at er;cases er
   |succ m=>exact⟨m,rfl⟩
  rw[hm,AI]at er;obtain⟨rfl,rfl⟩:=List.cons.inj er;refine⟨[some (.im (.int (j:Int))),z1],rfl,AZ ?_⟩;rw[ic rfl];refine D0 (A3 (A1 rfl (A6 ⟨_,rfl,BI 66 66,?_⟩)));rw[jj];refine Dt (λr ls hd=>∃(i:Nat) (z1:Option D),r=AI (i:Int) (j-i)/\i<=j/\ls=[some (.im (.int (j:Int))),z1]/\hd=[.lst (intD (ws.map (·.2))),.lst (intD (ws.map (·.1))),.lst ((prs j++(69 i).map λi=>(i,j)).map prD)]) ⟨0,_,rfl,by omega,rfl,by simp⟩ ?_ ?_
  .rintro d r ls hd ⟨i,z1,er,hi,rfl,rfl⟩;obtain⟨m',hm'⟩:∃m,j-i=m+1:=by
    cases q:j-i with
    |zero=>rw[q]at er;cases er
    |succ m=>exact⟨m,rfl⟩
   rw[hm',AI]at er;obtain⟨rfl,rfl⟩:=List.cons.inj er;refine⟨[some (.im (.int (j:Int))),some (.im (.int (i:Int)))],rfl,AZ ?_⟩;rw[ic rfl];refine BY (A3 (A1 rfl (A3 (A1 rfl (A6 ⟨FR,?_⟩)))));have pl:=G0 j;have pl2:j*j<=8*8:=Nat.mul_le_mul 66 66;refine D6 rfl (BU 75) ?_;refine⟨AE _,i+1,_,by rw[show((i:Int)+1)=((i+1:Nat):Int) by omega,show m'=j-(i+1) by omega],by omega,rfl,?_⟩;rw[jH];simp[prD,AT,B1]
  .rintro ls hd ⟨i,z1,er,hi,rfl,rfl⟩;have hi':i=j:=by
    cases q:j-i with
    |zero=>omega
    |succ m=>rw[q]at er;cases er
   subst hi';exact⟨AE _,i+1,_,_,by rw[show((i:Int)+1)=((i+1:Nat):Int) by omega,show m=68-(i+1) by omega],by omega,rfl,rfl⟩
 .rintro ls hd ⟨j,z0,z1,er,hj,rfl,rfl⟩;have hj':j=ws.length:=by
   cases q:68-j with
   |zero=>omega
   |succ m=>rw[q]at er;cases er
  subst hj';refine A5 ?_;refine AH (A7 (A1 rfl (BZ (AY (Cj (A1 rfl ⟨2,_,rfl,rfl,?_⟩))))));have pl:=G0 68;have pl2:68*68<=8*8:=Nat.mul_le_mul 66 66;refine⟨AQ 75,?_⟩;refine Aq prD (λp=>some (.im (.int (min (lf ws p.1*wf ws p.2) (lf ws p.2*wf ws p.1))))) (λ_ ls=>∃x y,ls=[some x,some y,some (.mu 1),some (.mu 0)]) _ (by intro p hp;simp at hp;subst hp;rfl) ?_ ?_
  .rintro p hp ls hls;obtain⟨h1,h2⟩:=Mp _ p hp;have b1:=cP W h1;have b2:=cP W h2;refine⟨[some (.im (.int (p.1:Int))),some (.im (.int (p.2:Int))),some (.mu 1),some (.mu 0)],by rcases hls with rfl|⟨_,x,y,rfl⟩<;>rfl,⟨_,_,rfl⟩,AZ ⟨rfl,?_⟩⟩;rw[ic rfl];refine⟨_,rfl,BO (A3 (A7 (A7 (A1 rfl (A1 rfl (AL rfl (la _ h1) ?_))))))⟩;refine A7 (A1 rfl (A1 rfl (AL rfl (wa _ h2) (B9 (B5 66 66) ?_))));refine A3 (A7 (A7 (A1 rfl (A1 rfl (AL rfl (la _ h2) ?_)))));refine A7 (A1 rfl (A1 rfl (AL rfl (wa _ h1) (B9 (B5 66 66) (A6 (K8 ⟨rfl,rfl⟩))))))
  have e2:((prs 68).filterMap λp=>some (D.im (.int (min (lf ws p.1*wf ws p.2) (lf ws p.2*wf ws p.1)))))=intD ((prs 68).map λp=>min (lf ws p.1*wf ws p.2) (lf ws p.2*wf ws p.1)):=by simp[intD]
  rw[e2];refine⟨_,DS _,CB ?_⟩;rw[KL (λx y=>min (lf ws x*wf ws y) (lf ws y*wf ws x)),<- hal];rfl
def Fr(c:Int)(ws:84):((ws.map (wk c)).map DG).map D.im=ws.map (wkD c):=by simp
def Ve{c:Int}(W:WOk c ws):WF Dp [.im (AV c ws)] [] λd x=>d=.im (.int c):=by
 have n1:=W.n1;have n8:=W.n8;unfold Dp;refine Ac rfl ?_;refine AA (AM (AD (A3 (A1 rfl (A6 ⟨by simp,?_⟩)))));have S:WF DL [.im (AV c ws)] [] λd x=>d=.im (.int c):=by
  unfold DL;refine Ac rfl ?_;refine AA (AM (A7 (A7 (A1 rfl (AK (AL rfl (DU (k:=0) 66) ?_))))));refine AK (AL rfl (Dm _ _ _) (A5 ?_));refine AA (B7 (BK (BZ (AY (BJ (A1 rfl ⟨_,rfl,?_⟩))))));rw[Fr];refine⟨AQ 75,?_⟩;refine Aq (wkD c) (λ_=>some (.im (.bl true))) (λ_ ls=>∃x,ls=[some x,some (.im (.int c))]) _ (AE _) ?_ ?_
  .rintro p hp ls hls;refine⟨[some (wkD c p),some (.im (.int c))],by rcases hls with rfl|⟨_,x,rfl⟩<;>rfl,⟨_,rfl⟩,AZ ⟨rfl,?_⟩⟩;rw[ic rfl];refine⟨_,rfl,A7 (A7 (A1 rfl (AK (AL rfl (Dm _ _ _) (A1 rfl (F8 ⟨rfl,?_⟩))))))⟩;simp
  have e:(ws.filterMap λ_=>some (D.im (.bl true)))=blD (ws.map λ_=>true):=by simp[blD]
  rw[e];refine⟨_,by rw[Dh,EA];rfl,_,rfl,?_⟩;refine⟨λ_=>?_,(λh=>by simp at h)⟩;exact AH (A1 rfl rfl)
 refine S.mono ?_;rintro d x rfl;refine⟨_,rfl,A5 ?_⟩;refine AA (B7 (AU ?_));refine WP.eq (z:=.im (.bl false)) (h:=[]) (by simp[Fh]) ⟨_,rfl,(λh=>by cases h),λ_=>Ad (A5 ?_)⟩;exact AH (A1 rfl rfl)
def US{c:Int}(W:WOk c ws):WF Bq [.im (AV c ws),.im (.str "ends")] [] λd x=>d=.im .non:=by
 have n8:=W.n8;unfold Bq;refine Ac rfl ?_;refine B7 (BK (BZ (AY (BJ (A1 rfl ⟨_,rfl,?_⟩)))));rw[Fr];refine⟨AQ 75,?_⟩;refine Aq (wkD c) (λ_=>some (.im (.bl false))) (λ_ ls=>∃x,ls=[some x,some (.im (.str "ends"))]) _ (AE _) ?_ ?_
 .rintro p hp ls hls;refine⟨[some (wkD c p),some (.im (.str "ends"))],by rcases hls with rfl|⟨_,x,rfl⟩<;>rfl,⟨_,rfl⟩,AZ ⟨rfl,?_⟩⟩;rw[ic rfl];refine⟨_,rfl,A7 (A7 (A7 (A1 rfl (AK (AL rfl (Kl _ _ _ _) (AK (AL rfl (Cq _ _) (A1 rfl (Qs ⟨rfl,?_⟩)))))))))⟩;simp
 have e:(ws.filterMap λ_=>some (D.im (.bl false)))=blD (ws.map λ_=>false):=by simp[blD]
 rw[e];refine⟨_,by rw[N6,EA];rfl,_,rfl,?_⟩;exact⟨(λh=>by simp at h),λ_=>Ad rfl⟩
def GI{c:Int}(W:WOk c ws):WF BN [.im (AV c ws)] [] λd x=>d=.im (.int c):=by
 unfold BN;refine Ac rfl ?_;refine AA (AM (AD (A3 (A1 rfl (A6 ⟨by simp,(Ve W).mono ?_⟩)))));rintro d x rfl;refine⟨_,rfl,A5 ?_⟩;refine AA (Cr (AD (A3 (A1 rfl (A3 (AK (A6 ⟨by simp,(US W).mono ?_⟩)))))));rintro d x rfl;exact⟨_,rfl,A5 (AH (A1 rfl rfl))⟩
def Il(c:Int)(p:Int×Int):WF Cd [wkD c p] [] λd x=>d=.im (.int p.2):=by
 unfold Cd;refine Ac rfl ?_;refine AH (A7 (A7 (A1 rfl (AK (AL rfl (Kl _ _ _ _) ?_)))));refine Ly (AK ⟨_,rfl,?_⟩);refine AL (ds:=[.im (.str "ends"),.im (.int p.2)]) (e:=.im (.int p.2)) rfl ?_ rfl;rfl
open Fs
structure Bl(n:Nat)(B:71):Prop where
 ne:B≠[]
 le:B.length<=8
 lt:∀k∈B,k<n
theorem ZU{c:Int}(W:WOk c ws):∀(B:71),(∀k∈B,k<68)->(B.length:Int)<=Sm 81 B/\Sm 81 B<=1000000*B.length/\0<=Sm (wf ws) B/\Sm (wf ws) B<=1000000*B.length
 |[],_=>by simp[M8]
 |x::r,h=>by
  have ih:=ZU W r λk hk=>h k (by simp[hk]);have:=D9 W (h x 70);rw[Du,Du];simp only[j6];omega
def Hr{c:Int}(W:WOk c ws)(b:Bl 68 B):1<=Sm 81 B/\Sm 81 B<=8000000/\0<=Sm (wf ws) B/\Sm (wf ws) B<=8000000:=by
 have:=ZU W B b.lt;have:=b.le;have:1<=B.length:=List.length_pos_iff.mpr b.ne;omega
structure Rat'(w l:Int)(r:Int×Int):Prop where
 rd:Rd r.1 r.2
 eq:r.1*l=w*r.2
 b1:r.1.natAbs<=w.natAbs
 b2:r.2.natAbs<=l.natAbs
def Mg{w l w' l':Int}(hl:0<l)(hl':0<l')(h:Rat' w l r)(h':Rat' w' l' r'):(r.1*r'.2<r'.1*r.2)↔w*l'<w'*l:=by
 obtain⟨p,q⟩:=r;obtain⟨p',q'⟩:=r';have e:=h.eq;have e':=h'.eq;have q0:=h.rd.q0;have q0':=h'.rd.q0;dsimp only at *;have P:0<l*l':=jT hl hl';have Q:0<q*q':=jT q0 q0';have e1:p*q'*(l*l')=w*l'*(q*q'):=by
  have:p*q'*(l*l')=p*l*(q'*l'):=by grind
  rw[this,e];grind
 have e2:p'*q*(l*l')=w'*l*(q*q'):=by
  have:p'*q*(l*l')=p'*l'*(q*l):=by grind
  rw[this,e'];grind
 constructor
 .intro h;have:=Int.mul_lt_mul_of_pos_right h P;rw[e1,e2]at this;exact Int.lt_of_mul_lt_mul_right this (Int.le_of_lt Q)
 .intro h;have:=Int.mul_lt_mul_of_pos_right h Q;rw[<- e1,<- e2]at this;exact Int.lt_of_mul_lt_mul_right this (Int.le_of_lt P)
noncomputable abbrev Av(r:Int×Int):D:=Ae r
def Sj{r r':Int×Int}(b1:∀j,Be r.1 j)(b2:∀j,Be r'.1 j):WF Ht [Av r,Av r'] [] λd x=>d=.im (.bl (decide (r.1*r'.2<r'.1*r.2))):=by
 unfold Ht;refine Ac rfl ?_;refine AH (A7 (A7 (A7 (A1 rfl (AK (AL rfl (Cq _ _) ?_))))));refine A7 (A1 rfl (AK (AL rfl (Dm _ _ _) (B9 (b1 _) ?_))));refine A7 (A7 (A1 rfl (AK (AL rfl (Cq _ _) ?_))));refine A7 (A1 rfl (AK (AL rfl (Dm _ _ _) (B9 (b2 _) (DF ?_)))));rfl
def Yh{r r':Int×Int}(a1:0<=r.1/\r.1<=8000000)(a2:1<=r.2/\r.2<=8000000)(b1:0<=r'.1/\r'.1<=8000000)(b2:1<=r'.2/\r'.2<=8000000):WF IP [Av r,Av r'] [] λd x=>∃p q:Int,d=.im (frI p q)/\Rd p q/\p*(r.2*r'.2)=(r.1*r'.2-r'.1*r.2)*q/\p.natAbs<=64000000000000/\q.natAbs<=64000000000000:=by
 have m1:∀j,Be r.1 j:=λj=>B5 66 66;have m2:∀j,Be r.2 j:=λj=>B5 66 66;have m3:∀j,Be r'.1 j:=λj=>B5 66 66;unfold IP;refine Ac rfl ?_;refine AH (AD (A3 (A7 (A7 (A7 (A1 rfl (AK (AL rfl (Cq _ _) ?_))))))));refine A7 (A1 rfl (AK (AL rfl (Dm _ _ _) (B9 (m1 _) ?_))));refine A7 (A7 (A1 rfl (AK (AL rfl (Cq _ _) ?_))));refine A7 (A1 rfl (AK (AL rfl (Dm _ _ _) (B9 (m3 _) (Lu ?_)))));refine A3 (A7 (A7 (A1 rfl (AK (AL rfl (Dm _ _ _) ?_)))));refine A7 (A1 rfl (AK (AL rfl (Dm _ _ _) (B9 (m2 _) (A6 ⟨by simp,?_⟩)))));have h1:r.2*r'.2<=8000000*8000000:=Int.mul_le_mul a2.2 b2.2 66 66;have h2:0<r.2*r'.2:=jT 66 66;have h3:r.1*r'.2<=8000000*8000000:=Int.mul_le_mul a1.2 b2.2 66 66;have h4:0<=r.1*r'.2:=jS a1.1 66;have h5:r'.1*r.2<=8000000*8000000:=Int.mul_le_mul b1.2 a2.2 66 66;have h6:0<=r'.1*r.2:=jS b1.1 66;refine(Gg (k:=50) 80 80 66 (by unfold Sz;omega)).mono ?_;rintro d x ⟨p,q,rfl,rd,e,l1,l2⟩;exact⟨_,rfl,p,q,rfl,rd,e,by omega,by omega⟩
theorem pre{p:Nat->Prop}[DecidablePred p]:∀{row:71},row.Pairwise (λx y=>p y->p x)->(∀x∈row.take (row.filter λx=>decide (p x)).length,p x)/\∀x∈row.drop (row.filter λx=>decide (p x)).length,¬ p x
 |[],_=>by simp
 |x::r,h=>by
  rw[pairwise_cons]at h;by_cases hx:p x
  .have ih:=pre h.2;rw[k5,ic (by simpa using hx)];simp only[j6,List.take_succ_cons,List.drop_succ_cons];refine⟨λy hy=>?_,ih.2⟩;rcases mem_cons.mp hy with rfl|hy
   .exact hx
   .exact ih.1 y hy
  .have hn:∀y∈r,¬ p y:=λy hy q=>hx (h.1 y hy q);have:((x::r).filter λx=>decide (p x))=[]:=by
    refine List.filter_eq_nil_iff.mpr λy hy=>?_;rcases mem_cons.mp hy with rfl|hy
    .simpa using hx
    .simpa using hn y hy
   rw[this];refine⟨by simp,λy hy=>?_⟩;have hy:y∈x::r:=by simpa using hy
   rcases mem_cons.mp hy with rfl|hy
   .exact hx
   .exact hn y hy
structure Rs(n:Nat)(fl fw:Nat->Int):Prop where
 n8:n<=8
 b:∀k,k<n->1<=fl k/\fl k<=8000000/\0<=fw k/\fw k<=8000000
section
variable{n:Nat}{fl fw:Nat->Int}
abbrev le(fl fw:Nat->Int)(x y:Nat):Prop:=fw y*fl x<=fw x*fl y
abbrev lE(fl fw:Nat->Int)(x y:Nat):Prop:=le fl fw x y/\(le fl fw y x->x<y)
def ci(W:Rs n fl fw){row:71}{k:Nat}(hk:k<n)(pm:row.Perm (69 k))(pw:row.Pairwise (lE fl fw)):
 (row.take (row.filter λx=>decide (le fl fw x k)).length++k::row.drop (row.filter λx=>decide (le fl fw x k)).length).Perm (69 (k+1))/\(row.take (row.filter λx=>decide (le fl fw x k)).length++k::row.drop (row.filter λx=>decide (le fl fw x k)).length).Pairwise (lE fl fw):=by
 have hin:∀x∈row,x<k:=λx hx=>by simpa using pm.mem_iff.mp hx
 have P:=pre (p:=λx=>le fl fw x k) (row:=row) (List.Pairwise.imp_of_mem (λ{x y} hx hy h q=>by
  have b1:=W.b x (by have:=hin x hx;omega);have b2:=W.b y (by have:=hin y hy;omega);have b3:=W.b k hk;exact rtr 66 66 66 h.1 q) pw)
 generalize (row.filter λx=>decide (le fl fw x k)).length=p at *;constructor
 .have h1:(row.take p++k::row.drop p).Perm (k::row):=by
   have:=List.perm_middle (a:=k) (l₁:=row.take p) (l₂:=row.drop p)
   rwa [jf]at this
  refine h1.trans ?_;rw[jH];exact((List.Perm.cons k pm).trans (List.perm_append_singleton k _).symm)
 .have hs:(row.take p++row.drop p).Pairwise (lE fl fw):=by rw[jf];exact pw
  rw[List.pairwise_append]at hs ⊢;refine⟨hs.1,pairwise_cons.mpr ⟨λy hy=>?_,hs.2.1⟩,λx hx y hy=>?_⟩
  .have:=P.2 y hy;refine⟨?_,λq=>absurd q this⟩;unfold le at this ⊢;omega
  .rcases mem_cons.mp hy with rfl|hy
   .exact⟨P.1 x hx,λ_=>hin x (ju hx)⟩
   .exact hs.2.2 x hx y hy
def fD(p:Nat->Prop)[DecidablePred p](L:71):(L.filterMap λa=>if p a then some (D.im (.int (a:Int)))else none).length=(L.filter λa=>decide (p a)).length:=by
 induction L with
 |nil=>rfl
 |cons x r ih=>
  rw[jJ,k5];by_cases h:p x
  .simp[h,ih]
  .simp[h,ih]
def sv{m:Nat}(e:hd[m]?=some (.lst ds)):As hd (.mu m)=some ds:=by simp[As,AN,Ap,e]
def hl{hd g:Hd}{m:Nat}{o:MO}(e:hd[m]?=some o):(hd++g)[m]?=some o:=by rw[List.getElem?_append_left (List.getElem?_eq_some_iff.mp e).1];exact e
def hn:(hd++o::g)[hd.length]?=some o:=by simp
inductive IF(rs:84)(E:List D)(m:Nat)(hd0:Hd)(fl fw:Nat->Int):List D->Ls->Hd->Prop
 |mk (row:71) (j:Nat) (z2 z3:Option D) (hj:j<=E.length) (pm:row.Perm (69 j)) (pw:row.Pairwise (lE fl fw)):IF rs E m hd0 fl fw (E.drop j) [some (.mu m),some (.mu hd0.length),z2,z3] (hd0++[.lst (AO row)])
def UK{row row':71}{k:Nat}(pm:row.Perm (69 k))(pm':row'.Perm (69 k))(pw:row.Pairwise (lE fl fw))(pw':row'.Pairwise (lE fl fw)):row=row':=by
 refine List.Perm.eq_of_pairwise (le:=lE fl fw) (λx y _ _ h h'=>?_) pw pw' (pm.trans pm'.symm);have:=h.2 h'.1;have:=h'.2 h.1;omega
def T2(W:Rs n fl fw){rs:84}(hr:rs.length=n)(R:∀k,(hk:k<rs.length)->Rat' (fw k) (fl k) rs[k]){hd:Hd}{m:Nat}(em:hd[m]?=some (.lst (rs.map Av))):
 WF Fd [.mu m] hd λd x=>∃row:List Nat,d=.mu hd.length/\x=hd++[.lst (AO row)]/\row.Perm (69 n)/\row.Pairwise (lE fl fw):=by
 have n8:=W.n8;have rb:∀k (hk:k<rs.length) j,Be rs[k].1 j:=λk hk j=>by
  have h1:=(R k hk).b1;have b:=W.b k 66;exact B5 66 66
 unfold Fd;refine Ac rfl ?_;refine AA (AM (Ak (D7 (A6 ⟨Cc,A5 ?_⟩))));refine AA (Bh (K9 (Cj (A1 rfl ⟨m,_,rfl,hl em,?_⟩))));dsimp only;generalize hE:((rs.map Av).zipIdx.map λq=>AT [.im (.int (q.2:Int)),q.1])=E;have El:E.length=rs.length:=by rw[<- hE];simp
 have Ea:∀j (hj:j<E.length),E[j]=.im (.tup [.int (j:Int),.tup [.int rs[j].1,.int rs[j].2]]):=by
  intro j hj;subst hE;simp[Av,Ae,AT,B1]
 have gk:∀row:List Nat,GOk (hd++[.lst (AO row)]) [(m,rs.map Av)]:=λrow p hp=>by simp at hp;subst hp;exact hl em
 refine BP (IF rs E m hd fl fw) (.mk [] 0 none none 66 70 70) ?_ ?_
 .intro d r ls hd' hI;generalize er:d::r=er' at hI;cases hI with
  |mk row j z2 z3 hj pm pw=>
  have hj':j<E.length:=by
   rcases jC j E.length with h|h
   .exact h
   .rw[List.drop_eq_nil_of_le h]at er;cases er
  rw[jE hj',Ea j hj']at er;obtain⟨rfl,rfl⟩:=List.cons.inj er;have hjr:j<rs.length:=by omega
  have rl:row.length=j:=by simpa using pm.length_eq
  have hin:∀x∈row,x<j:=λx hx=>by simpa using pm.mem_iff.mp hx
  refine⟨[some (.mu m),some (.mu hd.length),some (.im (.int (j:Int))),some (Av rs[j])],rfl,?_⟩;refine Cr (JQ (A1 rfl ⟨⟨AO row,by simp[Ap]⟩,A3 (BZ (AY (Cj (A1 rfl ⟨hd.length,_,rfl,hn,?_⟩))))⟩));refine⟨AQ 75,?_⟩;refine Aq (λk:Nat=>D.im (.int (k:Int))) (λx=>if le fl fw x j then some (.im (.int (x:Int)))else none) (λ_ ls=>∃x,ls=[some x,some (.mu m),some (Av rs[j])]) _ (by intro p hp;simp at hp;subst hp;exact hn) ?_ ?_
  .rintro x hx ls hls;have hxr:x<rs.length:=by have:=hin x hx;omega
   refine⟨[some (.im (.int (x:Int))),some (.mu m),some (Av rs[j])],by rcases hls with rfl|⟨_,x,rfl⟩<;>rfl,⟨_,rfl⟩,?_⟩;refine Bw (BK (AD (A3 (A7 (A1 rfl (A1 rfl (AL (ds:=rs.map Av) (e:=Av rs[x]) (sv (hl em)) (CW rfl (by simp[hxr])) ?_)))))));refine A3 (A1 rfl (A6 ⟨by simp[Av,Ae],(Sj (rb x hxr) (rb j hjr)).mono ?_⟩));rintro d y rfl;refine⟨_,rfl,_,rfl,rfl,?_⟩;have q:=Mg (by have:=(W.b x 66).1;omega) (by have:=(W.b j 66).1;omega) (R x hxr) (R j hjr);have q2:¬ (fw x*fl j<fw j*fl x)↔le fl fw x j:=by unfold le;omega
   by_cases h:le fl fw x j
   .rw[ic (by simp;have:=q2.mpr h;have:=mt q.mp this;omega)];exact⟨_,ic h,A1 rfl ⟨rfl,rfl⟩⟩
   .rw[ig (by simp;have:=mt q2.mp h;have:=q.mpr 66;omega)];exact ig h
  refine⟨_,rfl,?_⟩;rw[fD];refine A3 (A1 rfl (A6 ?_));have ff:=List.length_filter_le (λx=>decide (le fl fw x j)) row;refine Qt (ds:=AO row) hn 66 75 (BU 75) ?_;obtain⟨a1,a2⟩:=ci W 66 pm pw;refine⟨?_,?_⟩
  .intro p hp;simp at hp;subst hp;rw[List.set_append_right _ _ (iq _)];exact hl em
  .have e2:(hd++[MO.lst (AO row)]).set hd.length (.lst ((AO row).take (((row.filter λa=>decide (le fl fw a j)).length:Int)).toNat++D.im (.int (j:Int))::(AO row).drop (((row.filter λa=>decide (le fl fw a j)).length:Int)).toNat))=hd++[.lst (AO (row.take (row.filter λx=>decide (le fl fw x j)).length++j::row.drop (row.filter λx=>decide (le fl fw x j)).length))]:=by
    simp[AO]
   rw[e2];exact .mk _ (j+1) _ _ 66 a1 a2
 .intro ls hd' hI;generalize er:([]:List D)=er' at hI;cases hI with
  |mk row j z2 z3 hj pm pw=>
  have hj':j=n:=by
   rcases jC j E.length with h|h
   .rw[jE h]at er;cases er
   .omega
  subst hj';refine A5 (AH (A1 rfl ?_));exact⟨row,rfl,rfl,pm,pw⟩
end
def N5(f:Nat->Int)(B:71):E5 (B.map λk=>D.im (.int (f k)))=some (.im (.int (Sm f B))):=by
 have:(B.map λk=>D.im (.int (f k)))=(B.map f).map λi=>D.im (.int i):=by simp
 rw[this];unfold E5;rw[ES];rfl
def IA(B:71):(B.map λk:Nat=>I.int (k:Int)).map D.im=B.map λk:Nat=>D.im (.int (k:Int)):=by simp
def Oq(f:Nat->D)(B:71):(B.filterMap λk=>some (f k))=B.map f:=by simp
def VL{c:Int}(W:WOk c ws)(b:Bl 68 B):WF CH [.im (AV c ws),.im (AS B)] [] λd x=>d=.im (.int (Sm 81 B)):=by
 have:=b.le;unfold CH;refine Ac rfl ?_;refine AH (BZ (AY (BJ (A1 rfl ⟨_,rfl,?_⟩))));rw[IA];refine⟨AQ 75,?_⟩;refine Aq (xs:=B) (λk:Nat=>D.im (.int (k:Int))) (λk=>some (.im (.int (lf ws k)))) (λ_ ls=>∃x,ls=[some x,some (.im (AV c ws))]) _ (AE _) ?_ ?_
 .rintro x hx ls hls;refine⟨[some (.im (.int (x:Int))),some (.im (AV c ws))],by rcases hls with rfl|⟨_,x,rfl⟩<;>rfl,⟨_,rfl⟩,AZ ⟨rfl,?_⟩⟩;rw[ic rfl];exact⟨_,rfl,A7 (A7 (A1 rfl (A1 rfl (AL rfl (DU (b.lt x hx)) (AK (AL rfl (Cq _ _) ⟨rfl,rfl⟩))))))⟩
 .rw[Oq];exact⟨_,N5 _ _,rfl⟩
def Fy{c:Int}(W:WOk c ws)(b:Bl 68 B):WF CG [.im (AV c ws),.im (AS B)] [] λd x=>∃r,d=Av r/\Rat' (Sm (wf ws) B) (Sm 81 B) r:=by
 have bb:=Hr W b;have:=b.le;unfold CG;refine Ac rfl ?_;refine AH (AD (A3 (BZ (AY (BJ (A1 rfl ⟨_,rfl,?_⟩))))));rw[IA];refine⟨AQ 75,?_⟩;refine Aq (xs:=B) (λk:Nat=>D.im (.int (k:Int))) (λk=>some (.im (.int (wf ws k)))) (λ_ ls=>∃x,ls=[some x,some (.im (AV c ws))]) _ (AE _) ?_ ?_
 .rintro x hx ls hls;refine⟨[some (.im (.int (x:Int))),some (.im (AV c ws))],by rcases hls with rfl|⟨_,x,rfl⟩<;>rfl,⟨_,rfl⟩,AZ ⟨rfl,?_⟩⟩;rw[ic rfl];refine⟨_,rfl,AD (A3 (A7 (A1 rfl (A1 rfl (AL rfl (DU (b.lt x hx)) (A6 ⟨by simp[wkD,DG],(Il c _).mono ?_⟩))))))⟩;rintro d y rfl;exact⟨_,rfl,rfl,rfl⟩
 rw[Oq];refine⟨_,N5 _ _,?_⟩;refine A3 (AD (A3 (A1 rfl (A3 (A1 rfl (A6 ⟨by simp,(VL W b).mono ?_⟩))))));rintro d x rfl;refine⟨_,rfl,A6 ⟨by simp,?_⟩⟩;refine(Gg (k:=30) 80 80 66 (by unfold Sz;omega)).mono ?_;rintro d x ⟨p,q,rfl,rd,e,l1,l2⟩;exact⟨_,rfl,(p,q),rfl,⟨rd,e,l1,l2⟩⟩
noncomputable abbrev prI(q:Nat×Nat):I:=.tup [.int (q.1:Int),.int (q.2:Int)]
abbrev fI(P:List (Nat×Nat)):I:=.tup (P.map prI)
noncomputable abbrev AX(B:71):D:=.im (AS B)
def Nu{js:List I}{QE:D->Hd->Prop}(h0:is≠[])(h1:is.length+js.length<=100)(q:QE (.im (.tup (is++js))) hd):WP (Aa (.im (.tup is)) (.im (.tup js)) hd) QE:=by
 have cat:Wb (is.map D.im) (js.map D.im):=⟨by simpa using h0,AQ 75⟩
 refine WP.eq (z:=.im (.tup (is++js))) (h:=hd) ?_ q;show(match Gf (.im (.tup is)) (.im (.tup js)) hd with|some z=>some z|none=>Cw (.im (.tup is)) (.im (.tup js)) hd)=_;rw[show Gf (.im (.tup is)) (.im (.tup js)) hd=none from rfl];unfold Cw;rw[show AN (.im (.tup is))=some (is.map D.im)from rfl,show AN (.im (.tup js))=some (js.map D.im)from rfl,ik,ik,ic cat,<- jl,BL]
def Qz{QA:List D->Hd->Prop}(h:WE ma ls hd λd x=>WE mb ls x λe y=>∃i j xs ys,d=.mu i/\e=.mu j/\y[i]?=some (.lst xs)/\y[j]?=some (.lst ys)/\C6 (79+ys.length)/\QA (xs++ys) y):WA (J8 ma mb) ls hd QA:=by
 obtain⟨d,x,e1,e,y,e2,i,j,xs,ys,rfl,rfl,e3,e4,c,q⟩:=h;exact⟨_,_,by simp only[J8,e1,ik,e2,e3,e4,c,iU],q⟩
def Qr{i:Nat}{g:Int->Int->Int}{x:Int}{Q:Fl->Hd->Prop}(e:ls[i]?=some (some (.im (.int x))))(h:WE m ls hd λd y=>∃k,d=.im (.int k)/\Q (.nx (ls.set i (some (.im (.int (g x k)))))) y):WS (Ga i g m) ls hd Q:=by
 obtain⟨d,y,e1,k,rfl,q⟩:=h;exact⟨_,_,by unfold Ga;rw[e];simp only[e1,ik],q⟩
def TF(xs:List D)(k:Nat):C7 xs none (some (k:Int))=xs.take k:=by
 unfold C7;rw[HT.sIx_none,HT.sIx_nat,Nat.sub_zero,List.drop_zero];by_cases h:k<=79
 .rw[k8 h]
 .rw[Nat.min_eq_right 66,List.take_length,jM 66]
def cut_on(xs:List D)(k:Nat):C7 xs (some (k:Int)) none=xs.drop k:=by
 unfold C7;rw[HT.sIx_none,HT.sIx_nat];by_cases h:k<=79
 .rw[k8 h,jM 70]
 .rw[Nat.min_eq_right 66,drop_length,List.drop_eq_nil_of_le 66];simp
structure Fo(n:Nat)(P:List (Nat×Nat))(up:Nat->Option Nat)(pos:Nat->Nat):Prop where
 n8:n<=8
 lt:∀q∈P,q.1<n/\q.2<n
 nd:(P.map (·.2)).Nodup
 hup:∀a b,up b=some a↔(a,b)∈P
 dn:∀v u,up v=some u->pos u<pos v
 p8:∀v,v<n->pos v<8
structure SOk(n:Nat)(up:Nat->Option Nat)(S:71):Prop where
 nd:S.Nodup
 lt:∀a∈S,a<n
 same:∃o,∀a∈S,up a=o
noncomputable def ch(P:List (Nat×Nat))(a:Nat):List Nat:=P.filterMap λq=>if q.1=a then some q.2 else none
def ch_mem{a b:Nat}:b∈ch P a↔(a,b)∈P:=by
 unfold ch;rw[mem_filterMap];constructor
 .rintro⟨⟨x,y⟩,h,e⟩;by_cases q:x=a
  .subst q;simp at e;subst e;exact h
  .simp[q]at e
 .intro h;exact⟨_,h,by simp⟩
def dI(P:List (Nat×Nat))(a:Nat):(ch P a).Sublist (P.map (·.2)):=by
 induction P with
 |nil=>exact .slnil
 |cons q r ih=>
  unfold ch at ih ⊢;rw[jJ];by_cases e:q.1=a
  .simp only[e,iU,iw];exact ih.cons₂ _
  .simp only[e,jy,iw];exact ih.cons _
def fM(P:List (Nat×Nat))(a:Nat):(P.filterMap λq=>if q.1=a then some (D.im (.int (q.2:Int)))else none)=AO (ch P a):=by
 induction P with
 |nil=>rfl
 |cons q r ih=>
  unfold ch at ih ⊢;rw[jJ,jJ];by_cases e:q.1=a
  .simp only[e,iU,AO,iw];rw[ih]
  .simp only[e,jy];exact ih
def Hh{n:Nat}{o:71}(h:o.Nodup)(h2:∀k∈o,k<n):o.length<=n:=by
 have:=List.Nodup.length_le_of_subset h (l₂:=69 n) λk hk=>by simpa using h2 k hk
 simpa using this
theorem N3:∀{bs:List (List Nat)},(∀B∈bs,B≠[])->bs.length<=bs.flatten.length
 |[],_=>by simp
 |B::r,h=>by
  have:=N3 (bs:=r) λC hC=>h C (by simp[hC]);have:=List.length_pos_iff.mpr (h B 70);simp only[j6,jv,iV];omega
def Yt{bs:List (List Nat)}{B:71}(h:B∈bs):B.length<=bs.flatten.length:=by
 obtain⟨X,Y,rfl⟩:=kf h;simp only[jc,jv,iV];omega
section
variable{c:Int}{ws:84}{P:List (Nat×Nat)}{up:Nat->Option Nat}{pos:Nat->Nat}
def K4(F:Fo 68 P up pos){a v:Nat}(ha:a<68)(h:Anc up a v):v<ws.length:=by
 cases h with
 |refl=>exact ha
 |step _ e=>exact(F.lt _ ((F.hup _ _).mp e)).2
def sib(F:Fo 68 P up pos)(s:SOk 68 up S){a b v:Nat}(ha:a∈S)(hb:b∈S)(h:Anc up a v)(h':Anc up b v):a=b:=by
 obtain⟨o,ho⟩:=s.same;have key:∀a b,a∈S->b∈S->Anc up a b->a=b:=by
  intro a b ha hb h;cases h with
  |refl=>rfl
  |step h1 e=>
   have e2:=ho a ha;have e3:=ho b hb;have e4:up a=some _:=e2.trans (e3.symm.trans e);have:=F.dn _ _ e4;have:=h1.ps F.dn;omega
 rcases Anc.two h h' with h|h
 .exact key a b ha hb h
 .exact(key b a hb ha h).symm
def Fu(F:Fo 68 P up pos)(a:Nat):SOk 68 up (ch P a):=
 ⟨F.nd.sublist (dI P a),λb hb=>(F.lt _ (ch_mem.mp hb)).2,some a,λb hb=>(F.hup a b).mpr (ch_mem.mp hb)⟩
structure LB(n:Nat)(bs:List (List Nat)):Prop where
 lt:∀v∈bs.flatten,v<n
 fl:bs.flatten.length<=8
 le:bs.length<=8
 bl:∀B∈bs,Bl n B
def II{l w:Nat->Int}(h:Hold up pos l w B):B≠[]:=by
 obtain⟨_,_,e,_⟩:=h.ex;rw[e];simp
def WN{bs:List (List Nat)}(n8:68<=8)(nd:bs.flatten.Nodup)(lt:∀v∈bs.flatten,v<68)(ne:∀B∈bs,B≠[]):LB 68 bs:=by
 have h1:=Hh nd lt;have h2:=N3 ne;exact⟨lt,by omega,by omega,λB hB=>⟨ne B hB,by have:=Yt hB;omega,λk hk=>lt k (mem_flatten.mpr ⟨B,hB,hk⟩)⟩⟩
def N2(F:Fo 68 P up pos)(hS:∀a∈S,a<68)(L:Line up pos 81 (wf ws) S bs):LB 68 bs:=
 WN F.n8 L.nd (λv hv=>by obtain⟨a,ha,h⟩:=(L.mem v).mp hv;exact K4 F (hS a ha) h) λB hB=>II (L.hold B hB)
def na(F:Fo 68 P up pos){a:Nat}(L:Line up pos 81 (wf ws) (ch P a) bs):a∉bs.flatten:=by
 intro h;obtain⟨b,hb,h⟩:=(L.mem a).mp h;have:=h.ps F.dn;have:=F.dn _ _ ((F.hup a b).mpr (ch_mem.mp hb));omega
def Qg(F:Fo 68 P up pos){a:Nat}(ha:a<68)(L:Line up pos 81 (wf ws) (ch P a) bs)(m:Nat):Bl 68 (a::(bs.take m).flatten):=by
 have b:=N2 F (Fu F a).lt L;have h:=Hh (n:=68) (nodup_cons.mpr ⟨na F L,L.nd⟩) λk hk=>by
  rcases mem_cons.mp hk with rfl|hk
  .exact ha
  .exact b.lt k hk
 have sub:((bs.take m).flatten).Sublist bs.flatten:=by
  have e:=ji List.flatten (jf m bs);rw[jc]at e;rw[<- e];exact List.sublist_append_left _ _
 have:=sub.length_le;have n8:=F.n8;simp only[j6]at h;have hq:∀k∈a::(bs.take m).flatten,k<ws.length:=λk hk=>by
  rcases mem_cons.mp hk with rfl|hk
  .exact ha
  .exact b.lt k (sub.subset hk)
 exact⟨by simp,by simp only[j6];omega,hq⟩
def W2{w l:Int}(h:Rat' w l r)(hw:0<=w/\w<=8000000)(j:Int):Be r.1 j:=by
 have:=h.b1;exact B5 66 66
structure Tk(n:Nat)(B:71)(T:List (List Nat))(i:Nat)(x:Hd):Prop where
 bB:Bl n B
 at_:x[i]?=some (.lst (T.map AX))
 fl8:T.flatten.length<=8
 t8:T.length<=8
 bT:∀C∈T,Bl n C
structure Cut(ws:84)(a:Nat)(bs:List (List Nat))(m:Nat):Prop where
 hm:m<=bs.length
 lt:∀(i:Nat) (B:71),i<m->bs[i]?=some B->Lt 81 (wf ws) (a::(bs.take i).flatten) B
 st:∀B,bs[m]?=some B->¬ Lt 81 (wf ws) (a::(bs.take m).flatten) B
def Cut.uniq{a:Nat}{m m':Nat}(h:Cut ws a bs m)(h':Cut ws a bs m'):m=m':=by
 rcases Nat.lt_trichotomy m m' with q|q|q
 .have hl:m<bs.length:=j3 q h'.hm;exact absurd (h'.lt m bs[m] q (List.getElem?_eq_getElem hl)) (h.st _ (List.getElem?_eq_getElem hl))
 .exact q
 .have hl:m'<bs.length:=j3 q h.hm;exact absurd (h.lt m' bs[m'] q (List.getElem?_eq_getElem hl)) (h'.st _ (List.getElem?_eq_getElem hl))
open Classical in
noncomputable def Ki(ws:84)(a:Nat)(bs:List (List Nat)):Nat:=if h:∃m,Cut ws a bs m then Classical.choose h else 0
def Oy{a:Nat}{m:Nat}(h:Cut ws a bs m):Ki ws a bs=m:=by
 have q:∃m,Cut ws a bs m:=⟨m,h⟩
 unfold Ki;rw[dif_pos q];exact(Classical.choose_spec q).uniq h
structure Srt(ws:84)(bs:List (List Nat))(row:71):Prop where
 pm:row.Perm (69 bs.length)
 pw:row.Pairwise (lE (λk=>Sm 81 (bs.getD k [])) λk=>Sm (wf ws) (bs.getD k []))
open Classical in
noncomputable def U9(ws:84)(bs:List (List Nat)):List (List Nat):=if h:∃row,Srt ws bs row then(Classical.choose h).map λk=>bs.getD k []else []
def Ws(h:Srt ws bs row):U9 ws bs=row.map λk=>bs.getD k []:=by
 have q:∃row,Srt ws bs row:=⟨row,h⟩
 unfold U9;rw[dif_pos q];have s:=Classical.choose_spec q;rw[UK s.pm h.pm s.pw h.pw]
noncomputable def RL(ws:84)(P:List (Nat×Nat)):Nat->(Nat->List (List Nat)×List (List Nat))×(List Nat->List (List Nat))
 |0=>(λ_=>([],[]),λ_=>[])
 |k+1=>(λa=>(((RL ws P k).2 (ch P a)).take (Ki ws a ((RL ws P k).2 (ch P a))),((RL ws P k).2 (ch P a)).drop (Ki ws a ((RL ws P k).2 (ch P a)))),λS=>U9 ws ((S.map λa=>(a::((RL ws P k).1 a).1.flatten)::((RL ws P k).1 a).2).flatten))
noncomputable abbrev E1(ws:84)(P:List (Nat×Nat))(k:Nat)(S:71):List (List Nat):=(S.map λa=>(a::((RL ws P k).1 a).1.flatten)::((RL ws P k).1 a).2).flatten
def Qo(c:Int)(ws:84)(P:List (Nat×Nat))(up:Nat->Option Nat)(pos:Nat->Nat)(k:Nat):Prop:=∀a:Nat,a<68->2*(8-pos a)<=k ->
 WF (JL k) [.im (AV c ws),.im (fI P),.im (.int (a:Int))] [] λd x=>∃(B:71) (left:List (List Nat)) (i j:Nat) (T:List (List Nat)),d=.tm [AX B,.mu i,.mu j]/\x[j]?=some (.lst (left.map AX))/\Line up pos 81 (wf ws) [a] (B::left)/\Tk 68 B T i x/\B=a::T.flatten/\(RL ws P k).1 a=(T,left)/\Cut ws a ((RL ws P (k-1)).2 (ch P a)) T.length
def HN(hd:Hd):Prop:=∀o∈hd,∃ns:List Nat,o=.lst (AO ns)
def Nh(c:Int)(ws:84)(P:List (Nat×Nat))(up:Nat->Option Nat)(pos:Nat->Nat)(k:Nat):Prop:=∀(S:71) (hd:Hd) (m:Nat),HN hd->SOk 68 up S->hd[m]?=some (.lst (AO S))->1<=k->(∀a∈S,2*(8-pos a)+1<=k) ->
 WF (Hs k) [.im (AV c ws),.im (fI P),.mu m] hd λd x=>∃(bs:List (List Nat)) (i:Nat) (g:Hd),d=.mu i/\x=hd++g/\x[i]?=some (.lst (bs.map AX))/\Line up pos 81 (wf ws) S bs/\bs=(RL ws P k).2 S/\bs.Perm (E1 ws P (k-1) S)
def HV(P:List (Nat×Nat)):(P.map prI).map D.im=P.map λq=>D.im (prI q):=by simp
inductive I_row(c:Int)(ws:84)(P:List (Nat×Nat))(bs:List (List Nat))(a i:Nat)(hd0:Hd):Nat->Ls->Hd->Prop
 |mk (m:Nat) (hm:m<=bs.length) (lt:∀(i:Nat) (B:71),i<m->bs[i]?=some B->Lt 81 (wf ws) (a::(bs.take i).flatten) B):
  I_row c ws P bs a i hd0 (bs.length-m) [some (.im (AV c ws)),some (.im (fI P)),some (.im (.int (a:Int))),some (.mu i),some (AX (a::(bs.take m).flatten)),some (.im (.int (m:Int)))] hd0
def UL(W:WOk c ws)(F:Fo 68 P up pos){k:Nat}(h:Nh c ws P up pos k):Qo c ws P up pos (k+1):=by
 intro a ha hk;have pl:P.length<=8:=by
  have:=Hh F.nd λb hb=>by obtain⟨q,hq,rfl⟩:=mem_map.mp hb;exact(F.lt q hq).2
  have n8:=F.n8;simp at this;omega
 have pa:=F.p8 a ha;show WF (mkF 3 6 (Mz (RR k).2)) _ _ _;refine Ac rfl ?_;refine AA (AM (DN (A3 (A1 rfl (A3 (A1 rfl (A3 (Ak (AY (BJ (A1 rfl ⟨_,rfl,?_⟩)))))))))));rw[HV];refine⟨AQ 75,?_⟩;refine Aq (λq:Nat×Nat=>D.im (prI q)) (λq=>if q.1=a then some (.im (.int (q.2:Int)))else none) (λ_ ls=>∃x y,ls=[some x,some y,some (.im (.int (a:Int)))]) _ (AE _) ?_ ?_
 .rintro q hq ls hls;refine⟨[some (.im (.int (q.1:Int))),some (.im (.int (q.2:Int))),some (.im (.int (a:Int)))],by rcases hls with rfl|⟨_,x,y,rfl⟩<;>rfl,⟨_,_,rfl⟩,AU (A7 (A1 rfl (A1 rfl (F8 ⟨_,rfl,rfl,?_⟩))))⟩;by_cases e:q.1=a
  .rw[ic (by simp[e])];exact⟨_,ic e,A1 rfl ⟨rfl,rfl⟩⟩
  .rw[ig 75];exact ig e
 rw[fM];refine A6 ((h (ch P a) _ 0 (by intro o ho;exact⟨ch P a,by simpa using ho⟩) (Fu F a) rfl 66 λb hb=>by have:=F.dn _ _ ((F.hup a b).mpr (ch_mem.mp hb));omega).mono ?_);rintro d x ⟨bs,i,g,rfl,rfl,e,L,eb,_⟩;generalize hx:([]++[MO.lst (AO (ch P a))]++g:Hd)=hd1 at e ⊢;have b:=N2 F (Fu F a).lt L;refine A5 (AA (AM (BY (A3 (A1 rfl (A6 ⟨EU,A5 ?_⟩))))));refine AA (AM (AK (A5 ?_)));have fin:∀m,m<=bs.length->(∀(i:Nat) (B:71),i<m->bs[i]?=some B->Lt 81 (wf ws) (a::(bs.take i).flatten) B)->(∀B,bs[m]?=some B->¬ Lt 81 (wf ws) (a::(bs.take m).flatten) B) ->
  WS (AR (Aw (A2 (A0 4) (A2 (Ag (Fg (A0 3) B6 (Bf (A0 5)))) (A2 (Ag (Fg (A0 3) (Bf (A0 5)) B6)) A4))))) [some (.im (AV c ws)),some (.im (fI P)),some (.im (.int (a:Int))),some (.mu i),some (AX (a::(bs.take m).flatten)),some (.im (.int (m:Int)))] hd1 λf x=>match f with
   |.rt d=>∃(B:71) (left:List (List Nat)) (i j:Nat) (T:List (List Nat)),d=.tm [AX B,.mu i,.mu j]/\x[j]?=some (.lst (left.map AX))/\Line up pos 81 (wf ws) [a] (B::left)/\Tk 68 B T i x/\B=a::T.flatten/\(RL ws P (k+1)).1 a=(T,left)/\Cut ws a ((RL ws P k).2 (ch P a)) T.length
   |.nx _=>∃(B:71) (left:List (List Nat)) (i j:Nat) (T:List (List Nat)),D.im .non=.tm [AX B,.mu i,.mu j]/\x[j]?=some (.lst (left.map AX))/\Line up pos 81 (wf ws) [a] (B::left)/\Tk 68 B T i x/\B=a::T.flatten/\(RL ws P (k+1)).1 a=(T,left)/\Cut ws a ((RL ws P k).2 (ch P a)) T.length
   |_=>False:=by
  intro m hm lt stop;refine AH (BY (A3 (A1 rfl (A3 (Ak (Qy (A1 rfl (GH (Dr (A1 rfl ⟨_,rfl,_,by rw[Ap,e],?_⟩))))))))));refine A3 (Ak (Qy (A1 rfl (Dr (A1 rfl ⟨_,rfl,GH ⟨_,by rw[Ap,hl e],?_⟩⟩)))));refine A6 ⟨Jv,_,_,_,_,bs.take m,rfl,?_,UM F.dn (KT W) (λb=>ch_mem.trans (F.hup a b).symm) L hm lt stop,⟨Qg F ha L m,?_,?_,?_,λC hC=>b.bl C (ju hC)⟩,rfl,?_,?_⟩
  .rw[hn,cut_on,map_drop]
  .rw[hl hn,TF,map_take]
  .have:=(Qg F ha L m).le;simp only[j6]at this;omega
  .have:=b.le;rw[jB];omega
  .simp only[RL];rw[<- eb,Oy ⟨hm,lt,stop⟩]
  .rw[<- eb,jB,k8 hm];exact⟨hm,lt,stop⟩
 refine AA (Lq (I_row c ws P bs a i hd1) (n:=bs.length-0) (.mk 0 66 (by intro i B hi;omega)) ?_);intro N ls hd' hI;cases hI with
 |mk m hm lt=>
 refine JN (AU (A7 (A1 rfl (BO (A3 (A1 rfl (A6 (CI (ds:=bs.map AX) (z:=.im (.int (bs.length:Int))) (sv e) (by simp[Aj]) (DF ⟨_,rfl,?_⟩)))))))));by_cases hm':m<bs.length
 .rw[ic (by simpa using hm')];have em:bs[m]?=some bs[m]:=List.getElem?_eq_getElem hm';have b1:=Qg F ha L m;have b2:=b.bl bs[m] (List.getElem_mem hm');refine BK (AD (A3 (AD (A3 (A1 rfl (A3 (A1 rfl (A6 ⟨by simp,(Fy W b1).mono ?_⟩))))))));rintro d x ⟨r1,rfl,R1⟩;refine⟨_,rfl,A3 (AD (A3 (A1 rfl (A3 (A7 (A1 rfl (A1 rfl (AL (ds:=bs.map AX) (e:=AX bs[m]) (sv e) (CW rfl (by simp[hm'])) (A6 ⟨by simp,(Fy W b2).mono ?_⟩)))))))))⟩;rintro d x ⟨r2,rfl,R2⟩;refine⟨_,rfl,A6 ⟨by simp[Av,Ae],(Sj (W2 R1 (Hr W b1).2.2) (W2 R2 (Hr W b2).2.2)).mono ?_⟩⟩;rintro d x rfl;refine⟨_,rfl,_,rfl,?_⟩;have q:=Mg (by have:=(Hr W b1).1;omega) (by have:=(Hr W b2).1;omega) R1 R2;by_cases hlt:Lt 81 (wf ws) (a::(bs.take m).flatten) bs[m]
  .rw[ic (by simpa using q.mpr hlt)];have l1:=b1.le;have l2:=b2.le;refine AA (AM (A7 (A1 rfl (A7 (A1 rfl (A1 rfl (AL (ds:=bs.map AX) (e:=AX bs[m]) (sv e) (CW rfl (by simp[hm'])) (Nu 70 (by rw[iX,iX];omega) (A5 ?_)))))))));refine Qr (x:=(m:Int)) rfl (AK ⟨_,rfl,bs.length-(m+1),by omega,?_⟩);have e1:D.im (.tup ((a::(bs.take m).flatten).map (λk:Nat=>I.int (k:Int))++bs[m].map λk:Nat=>I.int (k:Int)))=AX (a::(bs.take (m+1)).flatten):=by
    rw[Cg em];simp
   rw[e1];exact .mk (m+1) 66 λi B hi eB=>by
    rcases jC i m with h|h
    .exact lt i B h eB
    .have:i=m:=by omega
     subst this;rw[em]at eB;cases eB;exact hlt
  .rw[ig (by simpa using mt q.mp hlt)];exact A5 (fin m hm lt λB eB=>by rw[em]at eB;cases eB;exact hlt)
 .rw[ig (by simpa using hm')];exact A5 (fin m hm lt λB eB=>by have:=(72 eB).1;omega)
end
section
variable{c:Int}{up:Nat->Option Nat}{pos:Nat->Nat}
noncomputable def Hu(w:Nat)(o:Option D):Option D:=match o with
 |some d=>if clD w d=true then some d else none
 |none=>none
def Tn(w:Nat)(ls:Ls):GK w ls=ls.map (Hu w):=rfl
def dg(w:Nat)(i:I):Hu w (some (.im i))=some (.im i):=rfl
def Vr{w n:Nat}(h:n<w):Hu w (some (.mu n))=some (.mu n):=by simp[Hu,clD,h]
def MB(k:Nat)(L:List (List Nat)):EY k (L.map AX)=L.map AX:=by
 induction L with
 |nil=>rfl
 |cons x r ih=>simp only[iw,EY,shD];rw[ih]
def dH(w:Nat)(L:List (List Nat)):Ay w (L.map AX)=true:=by
 induction L with
 |nil=>rfl
 |cons x r ih=>simp only[iw,Ay,clD,Bool.true_and];exact ih
def dG(w:Nat)(L:71):Ay w (AO L)=true:=by
 induction L with
 |nil=>rfl
 |cons x r ih=>simp only[AO,iw,Ay,clD,Bool.true_and];exact ih
theorem HN.all(h:HN hd)(w:Nat):hd.all (clO w)=true:=all_eq_true.mpr λo ho=>by
 obtain⟨ns,rfl⟩:=h o ho;exact dG w ns
def tk1(hd:Hd)(y:MO)(r:Hd):(hd++y::r).take (hd.length+1)=hd++[y]:=by
 rw[List.take_append,jM 66,show hd.length+1-hd.length=1 by omega];rfl
inductive I_rat(c:Int)(ws:84)(bs:List (List Nat))(hd0:Hd)(r es:List D)(ls:Ls)(hd:Hd):Prop
 |mk (dn rest:List (List Nat)) (rs:84) (z:Option D) (e:bs=dn++rest) (er:r=rest.map AX) (ee:es=rs.map Av) (hl:rs.length=dn.length) (R:∀k (hk:k<rs.length),Rat' (Sm (wf ws) (bs.getD k [])) (Sm 81 (bs.getD k [])) rs[k]) (el:ls=[z,some (.im (AV c ws))]) (eh:hd=hd0):I_rat c ws bs hd0 r es ls hd
inductive I_line(c:Int)(ws:84)(P:List (Nat×Nat))(up:Nat->Option Nat)(pos:Nat->Nat)(S:71)(m:Nat)(hd0:Hd)(k:Nat)(r:List D)(ls:Ls)(hd:Hd):Prop
 |mk (dn rest:71) (bs:List (List Nat)) (z4 z5 z6 z7:Option D) (e:S=dn++rest) (er:r=AO rest) (pr:Pre up pos 81 (wf ws) dn bs) (el:ls=[some (.im (AV c ws)),some (.im (fI P)),some (.mu m),some (.mu hd0.length),z4,z5,z6,z7]) (eh:hd=hd0++[.lst (bs.map AX)]) (eb:bs=E1 ws P k dn):I_line c ws P up pos S m hd0 k r ls hd
def W8(F:Fo 68 P up pos)(hS:∀a∈S,a<68)(L:Pre up pos 81 (wf ws) S bs):LB 68 bs:=
 WN F.n8 L.nd (λv hv=>by obtain⟨a,ha,h⟩:=(L.mem v).mp hv;exact K4 F (hS a ha) h) λB hB=>II (L.hold B hB)
def Si(W:WOk c ws)(F:Fo 68 P up pos){k:Nat}(h:Qo c ws P up pos k):Nh c ws P up pos (k+1):=by
 intro S hd m hN s em _ hk;have ml:m<hd.length:=(72 em).1;show WF (mkF 3 8 (Ky (RR k).1)) _ _ _;refine Ac rfl ?_;refine AA (AM (Ak (D7 (A6 ⟨Cc,A5 ?_⟩))));refine AA (Bh (Cj (A1 rfl ⟨m,_,rfl,hl em,?_⟩)));dsimp only;refine BP (I_line c ws P up pos S m hd k) (.mk [] S [] none none none none rfl rfl YH rfl rfl rfl) ?_ ?_
 .intro d r ls hd' hI;obtain⟨dn,rest,bs,z4,z5,z6,z7,e,er,pr,rfl,rfl,eb⟩:=hI;cases rest with
  |nil=>cases er
  |cons a rest=>
  obtain⟨rfl,rfl⟩:=List.cons.inj er;have ha:a∈S:=by rw[e];simp
  have hdn:∀b∈dn,b∈S:=λb hb=>by rw[e];simp[hb]
  refine⟨[some (.im (AV c ws)),some (.im (fI P)),some (.mu m),some (.mu hd.length),some (.im (.int (a:Int))),z5,z6,z7],rfl,?_⟩;refine Lr (AA (F7 (GJ (A3 (A1 rfl (A3 (A1 rfl (A3 (A1 rfl (A6 ⟨by simp,(h a (s.lt a ha) (by have:=hk a ha;omega)).mono ?_⟩))))))))));rintro d x ⟨B,left,i,j,T,rfl,ej,L,_,eB,eR,_⟩;refine⟨[some (.im (AV c ws)),some (.im (fI P)),some (.mu m),some (.mu hd.length),some (.im (.int (a:Int))),some (AX B),some (.mu (i+(hd++[MO.lst (bs.map AX)]).length)),some (.mu (j+(hd++[MO.lst (bs.map AX)]).length))],rfl,A5 ?_⟩;generalize hw:(hd++[MO.lst (bs.map AX)]).length=w;have hw':w=hd.length+1:=by rw[<- hw];simp
  have pr2:Pre up pos 81 (wf ws) (dn++[a]) (bs++B::left):=YI pr L λb hb v h1 h2=>by
   have:=sib F s ha (hdn b hb) h1 h2;subst this;have nd:=s.nd;rw[e]at nd;exact(nodup_append.mp nd).2.2 a hb a 70 rfl
  have b2:=W8 F (λb hb=>by rcases mem_append.mp hb with hb|hb;exact s.lt b (hdn b hb);simp at hb;subst hb;exact s.lt b ha) pr2;have ll:=b2.le;simp only[iV,j6]at ll;have ej':(x.map (shO w))[j]?=some (.lst (left.map AX)):=by rw[List.getElem?_map,ej,iY];simp only[shO];rw[MB]
  refine Wi rfl (Ak (Qz (Ak (D7 (A3 (A1 rfl (A6 ⟨EU,A1 rfl ?_⟩)))))));refine⟨_,_,[AX B],left.map AX,rfl,rfl,hn,hl (by rw[List.getElem?_append_right 66,show j+w-(hd++[MO.lst (bs.map AX)]).length=j by omega];exact ej'),AQ 75,?_⟩;refine⟨_,bs.map AX,[AX B]++left.map AX,rfl,hl (hl (hl hn)),hn,AQ 75,?_⟩;have e1:(((hd++[MO.lst (bs.map AX)]++x.map (shO w)++[MO.lst [AX B]]++[MO.lst ([AX B]++left.map AX)]).set hd.length (.lst (bs.map AX++([AX B]++left.map AX)))).take w)=hd++[.lst ((bs++B::left).map AX)]:=by
   rw[hw'];simp only[jL,j9,jQ,List.set_append_right _ _ (iq _),Nat.sub_self,set_cons_zero];rw[tk1];simp
  rw[e1];refine⟨?_,?_⟩
  .rw[List.all_append,hN.all,Bool.true_and];simp only[all_cons,List.all_nil,Bool.and_true,clO];exact dH _ _
  refine⟨_,rfl,?_,?_⟩
  .intro p hp;simp at hp;subst hp;exact hl em
  .rw[Tn];refine .mk (dn++[a]) rest (bs++B::left) (some (.im (.int (a:Int)))) (some (AX B)) (Hu w (some (.mu (i+w)))) (Hu w (some (.mu (j+w)))) (by rw[e];simp) rfl pr2 ?_ rfl (by rw[eb,eB];simp[E1,eR]);simp only[set_cons_succ,set_cons_zero,iw,jt,dg];rw[Vr (by omega:m<_),Vr (by omega:hd.length<_)]
 .intro ls hd' hI;obtain⟨dn,rest,bs,z4,z5,z6,z7,e,er,pr,rfl,rfl,eb⟩:=hI;have:rest=[]:=by cases rest with
   |nil=>rfl
   |cons _ _=>cases er
  subst this;rw[je]at e;subst e;have b:=W8 F s.lt pr;have n8:=b.le;refine A5 (AH (Ak (AY (Cj (DN (A3 (Ak (AY (Cj (A1 rfl ⟨hd.length,_,rfl,hn,?_⟩))))))))));refine⟨AQ 75,?_⟩;refine PD (I_rat c ws bs (hd++[.lst (bs.map AX)])) (.mk [] bs [] none rfl rfl rfl rfl (by intro k hk;simp at hk) rfl rfl) ?_ ?_
  .intro d r es ls hd' hI;obtain⟨dn,rest,rs,z,e,er,rfl,hl',R,rfl,rfl⟩:=hI;cases rest with
   |nil=>cases er
   |cons B rest=>
   obtain⟨rfl,rfl⟩:=List.cons.inj er;refine⟨[some (AX B),some (.im (AV c ws))],rfl,AZ ?_⟩;rw[ic rfl];have bB:=b.bl B (by rw[e];simp);refine AD (A3 (A1 rfl (A3 (A1 rfl (A6 ⟨by simp,(Fy W bB).mono ?_⟩)))));rintro d x ⟨r,rfl,hr⟩;refine⟨_,rfl,?_,?_⟩
   .intro p hp;simp at hp;subst hp;exact hn
   .refine .mk (dn++[B]) rest (rs++[r]) _ (by rw[e];simp) rfl (by simp[Av,Ae]) (by simp[hl']) ?_ rfl rfl;intro k hk';rcases jC k rs.length with h|h
    .rw[List.getElem_append_left h];exact R k h
    .have e5:k=dn.length:=by simp at hk';omega
     have e6:bs.getD k []=B:=by rw[e,e5];simp[List.getD]
     rw[e6,List.getElem_append_right h];simpa using hr
  intro es ls hd' hI;obtain⟨dn,rest,rs,z,e,er,rfl,hl',R,rfl,rfl⟩:=hI;have:rest=[]:=by cases rest with
   |nil=>rfl
   |cons _ _=>cases er
  subst this;rw[je]at e;have hr:rs.length=bs.length:=by rw[e];exact hl'
  have WR:Rs bs.length (λk=>Sm 81 (bs.getD k [])) (λk=>Sm (wf ws) (bs.getD k [])):=⟨n8,λk hk=>by
   have:bs.getD k []=bs[k]:=by simp[hk]
   simp only[this];exact Hr W (b.bl _ (List.getElem_mem hk))⟩
  refine A6 ((T2 WR hr R hn).mono ?_);rintro d x ⟨row,rfl,rfl,pm,pw⟩;have rl:row.length=bs.length:=by simpa using pm.length_eq
  refine⟨_,AO row,rfl,hn,AQ 75,?_⟩;refine Aq (xs:=row) (λk:Nat=>D.im (.int (k:Int))) (λk=>some (AX (bs.getD k []))) (λ_ ls=>∃x,ls=[some x,some (.mu hd.length)]) _ (by intro p hp;rw[jh]at hp;subst hp;exact hn) ?_ ?_
  .rintro x hx ls hls;have hxb:x<bs.length:=by simpa using pm.mem_iff.mp hx
   refine⟨[some (.im (.int (x:Int))),some (.mu hd.length)],by rcases hls with rfl|⟨_,x,rfl⟩<;>rfl,⟨_,rfl⟩,AZ ⟨rfl,?_⟩⟩;rw[ic rfl];refine⟨_,rfl,A7 (A1 rfl (A1 rfl (AL (ds:=bs.map AX) (e:=AX (bs.getD x [])) (sv (hl (hl hn))) (CW rfl (by simp[hxb])) ⟨rfl,rfl⟩)))⟩
  refine⟨row.map λk=>bs.getD k [],_,[.lst (bs.map AX),.lst (rs.map Av),.lst (AO row),.lst ((row.map λk=>bs.getD k []).map AX)],rfl,by simp,?_,RZ pr pm pw,?_,?_⟩
  .rw[hn];simp
  .simp only[RL];rw[<- E1,<- eb];exact(Ws ⟨pm,pw⟩).symm
  .have e0:(69 bs.length).map (λx=>bs.getD x [])=bs:=by
    refine List.ext_getElem 70 λi h1 h2=>?_;simp[h2]
   have pm1:=pm.map λx=>bs.getD x [];rw[e0]at pm1;show(row.map λx=>bs.getD x []).Perm (E1 ws P k S);rw[<- eb];exact pm1
end
section
variable{c:Int}{ws:84}{P:List (Nat×Nat)}{up:Nat->Option Nat}{pos:Nat->Nat}
theorem rl(W:WOk c ws)(F:Fo 68 P up pos):∀k,Qo c ws P up pos k/\Nh c ws P up pos k
 |0=>⟨λa ha h=>by have:=F.p8 a ha;omega,λS hd m _ _ _ h=>by omega⟩
 |k+1=>⟨UL W F (rl W F k).2,Si W F (rl W F k).1⟩
theorem Fb:∀(l acc:List Int),acc.Nodup->(l.foldl Eg acc).length<=acc.length+l.length/\((l.foldl Eg acc).length=acc.length+l.length↔(acc++l).Nodup)
 |[],acc,h=>by simp[h]
 |x::r,acc,h=>by
  rw[List.foldl_cons];by_cases hx:x∈acc
  .have e:Eg acc x=acc:=by simp[Eg,hx]
   rw[e];obtain⟨a,b⟩:=Fb r acc h;refine⟨by simp;omega,?_⟩;constructor
   .intro z;simp at z;omega
   .intro z;have:=nodup_append.mp z;exact absurd rfl (this.2.2 x hx x jg)
  .have e:Eg acc x=acc++[x]:=by simp[Eg,hx]
   rw[e];have h':(acc++[x]).Nodup:=by
    rw[nodup_append];exact⟨h,by simp,λa ha b hb z=>by simp at hb;subst hb;subst z;exact hx ha⟩
   obtain⟨a,b⟩:=Fb r (acc++[x]) h';simp only[iV,j6,jN,jL,j9,jQ]at a b ⊢;exact⟨by omega,by rw[<- b];omega⟩
def WD(F:Fo 68 P up pos):P.length<=8:=by
 have:=Hh F.nd λb hb=>by obtain⟨q,hq,rfl⟩:=mem_map.mp hb;exact(F.lt q hq).2
 have n8:=F.n8;simp at this;omega
noncomputable abbrev EX(P:List (Nat×Nat)):List Int:=P.map λq=>(q.2:Int)
inductive I_fo(P:List (Nat×Nat))(r:List D)(acc:List Int)(ls:Ls)(hd:Hd):Prop
 |mk (dn rest:List (Nat×Nat)) (z0 z1:Option D) (ep:P=dn++rest) (er:r=rest.map λq=>D.im (prI q)) (el:ls=[z0,z1]) (eh:hd=[]) (ea:acc=(EX dn).foldl Eg []):I_fo P r acc ls hd
def VW(F:Fo 68 P up pos):WF EM [.im (.int (ws.length:Int)),.im (fI P)] [] λd x=>d=.im (.bl true):=by
 have pl:=WD F;unfold EM;refine Ac rfl ?_;refine AH (A7 (Wm (Ti (BJ (A1 rfl ⟨_,rfl,?_⟩)))));rw[HV];refine Lx (I_fo P) (.mk [] P none none rfl rfl rfl rfl rfl) ?_ ?_
 .intro d r acc ls hd hI;obtain⟨dn,rest,z0,z1,ep,er,rfl,rfl,rfl⟩:=hI;cases rest with
  |nil=>cases er
  |cons p rest=>
   obtain⟨rfl,rfl⟩:=List.cons.inj er;refine⟨[some (.im (.int (p.1:Int))),some (.im (.int (p.2:Int)))],rfl,AZ ?_⟩;rw[ic rfl];have l1:=(Fb (EX dn) [] 70).1;have l2:=ji List.length ep;simp at l1 l2;refine WP.eq (z:=Eg ((EX dn).foldl Eg []) (p.2:Int)) (h:=[]) ?_ ⟨AE _,.mk (dn++[p]) rest _ _ (by rw[ep];simp) rfl rfl rfl (by simp[EX])⟩;have:((EX dn).foldl Eg []).length<1000:=by omega
   simp[Jo,this]
 .intro acc ls hd hI;obtain⟨dn,rest,z0,z1,ep,er,rfl,rfl,rfl⟩:=hI;have:rest=[]:=by cases rest with
   |nil=>rfl
   |cons _ _=>cases er
  subst this;simp only[je]at ep;subst ep;refine BO (A3 (A1 rfl (A6 (CI (ds:=P.map λq=>D.im (prI q)) (z:=.im (.int (P.length:Int))) (by rw[<- HV];rfl) (by simp[Aj]) (F8 ?_)))));have h:=(Fb (EX P) [] 70).2;have nd:(EX P).Nodup:=by
   have e:EX P=(P.map (·.2)).map λk:Nat=>(k:Int):=by simp[EX]
   rw[e];exact List.Pairwise.map _ (λa b h=>λz=>h 66) F.nd
  have:=h.mpr (by simpa using nd);simp only[jN,Nat.zero_add,iX]at this;show D.im (.bl (decide _))=_;rw[this];simp
def UT(W:WOk c ws)(F:Fo 68 P up pos):WF CF [.im (AV c ws),.im (fI P)] [] λd x=>d=.im .non:=by
 have n8:=W.n8;unfold CF;refine Ac rfl ?_;refine AA (Cr (AD (A3 (A1 rfl (A6 ⟨by simp,(GI W).mono ?_⟩)))));rintro d x rfl;refine⟨_,rfl,A5 ?_⟩;refine B7 (Bw (BK (AD (A3 (BO (A3 (A1 rfl (A6 (CI (ds:=((ws.map (wk c)).map DG).map D.im) (z:=.im (.int (ws.length:Int))) rfl (by simp[Aj]) ?_)))))))));refine A3 (A1 rfl (A6 ⟨by simp,(VW F).mono ?_⟩));rintro d x rfl;exact⟨_,rfl,_,rfl,(λh=>by cases h),λ_=>Ad rfl⟩
noncomputable abbrev C2(n:Nat)(P:List (Nat×Nat)):List Nat:=(69 n).filter λa=>decide (a∉P.map (·.2))
def OJ(F:Fo 68 P up pos){a:Nat}(h:a∈C2 68 P):up a=none:=by
 have h2:=(mem_filter.mp h).2;simp only[jX]at h2;cases e:up a with
 |none=>rfl
 |some u=>exact absurd (mem_map.mpr ⟨(u,a),(F.hup u a).mp e,rfl⟩) h2
def Im(F:Fo 68 P up pos):SOk 68 up (C2 68 P):=
 ⟨(jR).filter _,λa ha=>by simpa using (mem_filter.mp ha).1,none,λa ha=>OJ F ha⟩
def VO(W:WOk c ws)(F:Fo 68 P up pos):WF Gp [.im (AV c ws),.im (fI P)] [] λd x=>∃(bs:List (List Nat)) (i:Nat),d=.mu i/\x[i]?=some (.lst (bs.map AX))/\Line up pos 81 (wf ws) (C2 68 P) bs/\bs=(RL ws P 18).2 (C2 68 P):=by
 have n8:=W.n8;have pl:=WD F;unfold Gp;refine Ac rfl ?_;refine AA (Cr (AD (A3 (A1 rfl (A3 (A1 rfl (A6 ⟨by simp,(UT W F).mono ?_⟩)))))));rintro d x rfl;refine⟨_,rfl,A5 ?_⟩;refine AA (AM (Ak (AY (BJ (A1 rfl ⟨_,rfl,?_⟩)))));rw[HV];refine⟨AQ 75,?_⟩;refine Aq (xs:=P) (λq:Nat×Nat=>D.im (prI q)) (λq=>some (.im (.int (q.2:Int)))) (λ_ ls=>∃x y,ls=[some x,some y]) _ (AE _) ?_ ?_
 .rintro q hq ls hls;refine⟨[some (.im (.int (q.1:Int))),some (.im (.int (q.2:Int)))],by rcases hls with rfl|⟨_,x,y,rfl⟩<;>rfl,⟨_,_,rfl⟩,AZ ⟨rfl,?_⟩⟩;rw[ic rfl];exact⟨_,rfl,A1 rfl ⟨rfl,rfl⟩⟩
 have e0:(P.filterMap λq=>some (D.im (.int (q.2:Int))))=AO (P.map (·.2)):=by simp[AO]
 rw[e0];refine A5 (AH (DN (A3 (A1 rfl (A3 (A1 rfl (A3 (Ak (AY (D0 (A3 (BO (A3 (A1 rfl (A6 ?_)))))))))))))));refine CI (ds:=((ws.map (wk c)).map DG).map D.im) (z:=.im (.int (ws.length:Int))) rfl (by simp[Aj]) ?_;refine A6 ⟨_,rfl,BI 66 66,AQ 75,?_⟩;rw[jj,Eo];refine Aq (xs:=69 68) (λk:Nat=>D.im (.int (k:Int))) (λk=>if k∉P.map (·.2)then some (.im (.int (k:Int)))else none) (λ_ ls=>∃x,ls=[some x,some (.mu 0)]) _ (AE _) ?_ ?_
 .rintro k hk ls hls;refine⟨[some (.im (.int (k:Int))),some (.mu 0)],by rcases hls with rfl|⟨_,x,rfl⟩<;>rfl,⟨_,rfl⟩,?_⟩;refine AU (A7 (A1 rfl (A1 rfl (HB (xs:=EX P) (by simp[As,AN,Ap,AO]) ⟨_,rfl,rfl,?_⟩))));have q:((k:Int)∈EX P)↔k∈P.map (·.2):=by
   simp only[EX,mem_map];constructor
   .rintro⟨q,h,e⟩;exact⟨q,h,by omega⟩
   .rintro⟨q,h,e⟩;exact⟨q,h,by omega⟩
  by_cases e:k∈P.map (·.2)
  .rw[ig (by simp only[iU];rw[jI (q.mpr e)];simp)];exact ig (by simpa using e)
  .rw[ic (by simp only[iU];rw[jD (mt q.mp e)];rfl)];exact⟨_,ic e,A1 rfl ⟨rfl,rfl⟩⟩
 have e1:((69 68).filterMap λk:Nat=>if k∉P.map (·.2)then some (D.im (.int (k:Int)))else none)=AO (C2 68 P):=by
  unfold C2
  induction List.range 68 with
  |nil=>rfl
  |cons x r ih=>
   rw[jJ,k5];by_cases h:x∈P.map (·.2)
   .simp only[h,not_true,jy,decide_false];exact ih
   .simp only[h,not_false_eq_true,iU,ky,AO,iw];rw[ih]
 rw[e1];refine A6 (((rl W F 18).2 (C2 68 P) _ 1 ?_ (Im F) rfl 66 λa ha=>by omega).mono ?_)
 .intro o ho;simp only[jQ,j9,ir,jn,jr]at ho;rcases ho with rfl|rfl
  .exact⟨_,rfl⟩
  .exact⟨_,rfl⟩
 .rintro d x ⟨bs,i,g,rfl,rfl,e,L,eb,_⟩;exact⟨bs,i,rfl,e,L,eb⟩
end
def wp_catN{is js:List I}{QE:D->Hd->Prop}(h1:is.length+js.length<=100)(q:QE (.im (.tup (is++js))) hd):WP (DH (.im (.tup is)) (.im (.tup js)) hd) QE:=by
 by_cases h0:is=[]
 .subst h0;refine WP.eq (z:=.im (.tup js)) (h:=hd) ?_ q;show(match Aa (.im (.tup [])) (.im (.tup js)) hd with|some z=>some z|none=>EE (.im (.tup [])) (.im (.tup js)) hd)=_;have e:Aa (.im (.tup [])) (.im (.tup js)) hd=none:=by
   show(match Gf (.im (.tup [])) (.im (.tup js)) hd with|some z=>some z|none=>Cw (.im (.tup [])) (.im (.tup js)) hd)=_;rw[show Gf (.im (.tup [])) (.im (.tup js)) hd=none from rfl];unfold Cw;rw[show AN (.im (.tup []))=some []from rfl,show AN (.im (.tup js))=some (js.map D.im)from rfl,ik,ik,ig (λz=>z.1 rfl)]
  rw[e];unfold EE;rw[show AN (.im (.tup []))=some []from rfl,show AN (.im (.tup js))=some (js.map D.im)from rfl,ik,ik,ic rfl,BL]
 .obtain⟨d,x,e,q⟩:=Nu (QE:=QE) h0 h1 q;refine⟨d,x,?_,q⟩;show(match Aa (.im (.tup is)) (.im (.tup js)) hd with|some z=>some z|none=>EE (.im (.tup is)) (.im (.tup js)) hd)=_;rw[e]
def Kq{QA:List D->Hd->Prop}(h:WI mi ls hd λp x=>∃ns:List Int,p.1=intD ns/\ns.length<64/\QA (intD (B3 ns)) x):WA (Bv mi) ls hd QA:=by
 obtain⟨p,x,e,ns,e1,hl,q⟩:=h;refine⟨_,_,?_,q⟩;simp only[Bv,e,ik,e1,show B4 (intD ns)=some ns from ES ns,hl,iU]
def SE{w l:Int}(h:Rat' w l r)(hw:0<=w/\w<=8000000)(h0:1<=l)(hl:l<=8000000):(0<=r.1/\r.1<=8000000)/\1<=r.2/\r.2<=8000000:=by
 have b1:=h.b1;have b2:=h.b2;have q:=h.rd.q0;have e:=h.eq;have n:0<=r.1*l:=by rw[e];exact jS hw.1 66
 have:0<=r.1:=by
  refine Classical.byContradiction λz=>?_;have:=Int.mul_neg_of_neg_of_pos (a:=r.1) (b:=l) 66 66;omega
 omega
structure Ent where
 a:Nat
 S:List Nat
 p:Int
 q:Int
noncomputable abbrev Bp(e:Ent):I:=.tup [.int (e.a:Int),AS e.S,frI e.p e.q]
structure PrOk(ws:84)(a:Nat)(T:List (List Nat))(j:Nat)(e:Ent):Prop where
 ea:e.a=a
 up:e.S.Pairwise (·<·)
 pm:e.S.Perm (T.take (j+1)).flatten
 rd:Rd e.p e.q
 eq:e.p*(Sm 81 ((T++[a::T.flatten]).getD j [])*Sm 81 ((T++[a::T.flatten]).getD (j+1) []))=(Sm (wf ws) ((T++[a::T.flatten]).getD j [])*Sm 81 ((T++[a::T.flatten]).getD (j+1) [])-Sm (wf ws) ((T++[a::T.flatten]).getD (j+1) [])*Sm 81 ((T++[a::T.flatten]).getD j []))*e.q
 pb:e.p.natAbs<=64000000000000
 qb:e.q.natAbs<=64000000000000
def SD{w l w' l' p q:Int}(h:Rat' w l r)(h':Rat' w' l' r')(e:p*(r.2*r'.2)=(r.1*r'.2-r'.1*r.2)*q):p*(l*l')=(w*l'-w'*l)*q:=by
 obtain⟨x,y⟩:=r;obtain⟨x',y'⟩:=r';have e1:=h.eq;have e2:=h'.eq;have q1:=h.rd.q0;have q2:=h'.rd.q0;dsimp only at *;refine Int.eq_of_mul_eq_mul_right (Int.ne_of_gt (jT q1 q2)) ?_;have k1:p*(l*l')*(y*y')=p*(y*y')*(l*l'):=by grind
 have k2:(x*y'-x'*y)*q*(l*l')=(x*l)*(y'*l')*q-(x'*l')*(y*l)*q:=by grind
 rw[k1,e,k2,e1,e2]
 grind
def dl(k:Nat)(L:List I):EY k (L.map D.im)=L.map D.im:=by
 induction L with
 |nil=>rfl
 |cons x r ih=>simp only[iw,EY,shD];rw[ih]
def UA(L:71):∃S:List Nat,B3 (L.map λv:Nat=>(v:Int))=S.map (λv:Nat=>(v:Int))/\S.Perm L/\(S.Nodup->S.Pairwise (·<·)):=by
 have pm:=Ct (L.map λv:Nat=>(v:Int));have e:B3 (L.map λv:Nat=>(v:Int))=((B3 (L.map λv:Nat=>(v:Int))).map Int.toNat).map λv:Nat=>(v:Int):=by
  rw[iZ]
  conv=>lhs;rw[<- map_id (B3 (L.map λv:Nat=>(v:Int)))]
  refine jP λx hx=>?_;obtain⟨v,_,rfl⟩:=mem_map.mp (pm.mem_iff.mp hx);simp
 refine⟨(B3 (L.map λv:Nat=>(v:Int))).map Int.toNat,e,?_,λnd=>?_⟩
 .have:=pm.map Int.toNat
  rw[iZ]at this;refine this.trans (List.Perm.of_eq ?_)
  conv=>rhs;rw[<- map_id L]
  exact jP λx _=>by simp
 .have pw:=DY (L.map λv:Nat=>(v:Int));rw[e,ke]at pw;refine(List.Pairwise.and pw nd).imp λ{x y} h=>?_
  have h1:=h.1;have h2:=h.2;omega
section
variable{c:Int}{up:Nat->Option Nat}{pos:Nat->Nat}
inductive I_pr(c:Int)(ws:84)(P:List (Nat×Nat))(a i j:Nat)(B:71)(T:List (List Nat))(E:List D)(h0:Hd)(k6:Nat)(r:List D)(ls:Ls)(hd:Hd):Prop
 |mk (k:Nat) (ns:71) (es:List Ent) (z9 z10:Option D) (er:r=E.drop k) (hk:k<=E.length) (ln:ns.Perm (T.take k).flatten) (le:es.length=k) (ok:∀j (hj:j<es.length),PrOk ws a T j es[j]) (el:ls=[some (.im (AV c ws)),some (.im (fI P)),some (.im (.int (a:Int))),some (AX B),some (.mu i),some (.mu j),some (.mu k6),some (.mu h0.length),some (.im (AS ns)),z9,z10]) (eh:hd=h0++[.lst ((es.map Bp).map D.im)]):I_pr c ws P a i j B T E h0 k6 r ls hd
def Uy(W:WOk c ws)(F:Fo 68 P up pos){a:Nat}(ha:a<68):WF EL [.im (AV c ws),.im (fI P),.im (.int (a:Int))] [] λd x=>∃(i:Nat) (es:List Ent),d=.mu i/\x[i]?=some (.lst ((es.map Bp).map D.im))/\es.length=((RL ws P 18).1 a).1.length/\((RL ws P 18).1 a).1.length<=8/\∀j (hj:j<es.length),PrOk ws a ((RL ws P 18).1 a).1 j es[j]:=by
 unfold EL;refine Ac rfl ?_;refine AA (F7 (GJ (A3 (A1 rfl (A3 (A1 rfl (A3 (A1 rfl (A6 ⟨by simp,((rl W F 18).1 a ha 66).mono ?_⟩)))))))));rintro d y ⟨B,left,i,j,T,rfl,_,L0,tk,eB,eRL,_⟩;obtain⟨bB,ei,fl8,t8,bT⟩:=tk;have nd0:(a::T.flatten).Nodup:=by
  have:=L0.nd;rw[jv,eB]at this;exact(nodup_append.mp this).1
 have eT0:((RL ws P 18).1 a).1=T:=by rw[eRL]
 rw[eT0];refine⟨[some (.im (AV c ws)),some (.im (fI P)),some (.im (.int (a:Int))),some (AX B),some (.mu i),some (.mu j),none,none,none,none,none],rfl,A5 ?_⟩;have ei':(([]:Hd)++y.map (shO ([]:Hd).length))[i]?=some (.lst (T.map AX)):=by
  rw[jQ,List.getElem?_map,ei,iY];simp only[shO];rw[MB]
 generalize (([]:Hd)++y.map (shO ([]:Hd).length))=h0 at ei' ⊢;refine AA (AM (Ak (Qz (Ak (AY (Cj (A1 rfl ⟨i,_,rfl,ei',AQ 75,?_⟩)))))));refine PD (I_rat c ws T h0) (.mk [] T [] none rfl rfl rfl rfl (by intro k hk;simp at hk) rfl rfl) ?_ ?_
 .intro d r es ls hd' hI;obtain⟨dn,rest,rs,z,e,er,rfl,hl',R,rfl,eh⟩:=hI;subst hd';cases rest with
  |nil=>cases er
  |cons C rest=>
  obtain⟨rfl,rfl⟩:=List.cons.inj er;refine⟨[some (AX C),some (.im (AV c ws))],rfl,AZ ?_⟩;rw[ic rfl];refine AD (A3 (A1 rfl (A3 (A1 rfl (A6 ⟨by simp,(Fy W (bT C (by rw[e];simp))).mono ?_⟩)))));rintro d x ⟨r,rfl,hr⟩;refine⟨_,rfl,?_,?_⟩
  .intro p hp;rw[jh]at hp;subst hp;exact ei'
  .refine .mk (dn++[C]) rest (rs++[r]) _ (by rw[e];simp) rfl (by simp[Av,Ae]) (by simp[hl']) ?_ rfl rfl;intro k hk';rcases jC k rs.length with h|h
   .rw[List.getElem_append_left h];exact R k h
   .have e5:k=dn.length:=by simp at hk';omega
    have e6:T.getD k []=C:=by rw[e,e5];simp[List.getD]
    rw[e6,List.getElem_append_right h];simpa using hr
 intro es ls hd' hI;obtain⟨dn,rest,rs,z,e,er,rfl,hl',R,rfl,eh⟩:=hI;subst hd';have:rest=[]:=by cases rest with
  |nil=>rfl
  |cons _ _=>cases er
 subst this;rw[je]at e;have hr:rs.length=T.length:=by rw[e];exact hl'
 refine Ak (D7 (A3 (AD (A3 (A1 rfl (A3 (A1 rfl (A6 ⟨by simp,(Fy W bB).mono ?_⟩))))))));rintro d x ⟨r0,rfl,hr0⟩;refine⟨_,rfl,A6 ⟨EU,_,_,rs.map Av,[Av r0],rfl,rfl,hl hn,hn,AQ 75,A5 ?_⟩⟩;have eR:rs.map Av++[Av r0]=(rs++[r0]).map Av:=by simp
 rw[eR];have rb:∀k (hk:k<(rs++[r0]).length),(0<=(rs++[r0])[k].1/\(rs++[r0])[k].1<=8000000)/\1<=(rs++[r0])[k].2/\(rs++[r0])[k].2<=8000000:=by
  intro k hk;rcases jC k rs.length with h|h
  .have hT:k<T.length:=by omega
   have e6:T.getD k []=T[k]:=by simp[hT]
   have b1:=Hr W (bT T[k] (List.getElem_mem hT));have h1:=R k h;rw[e6]at h1;rw[List.getElem_append_left h];exact SE h1 b1.2.2 b1.1 b1.2.1
  .have b1:=Hr W bB;have:(rs++[r0])[k]=r0:=by rw[List.getElem_append_right h];simp
   rw[this];exact SE hr0 b1.2.2 b1.1 b1.2.1
 have lr:(rs++[r0]).length=T.length+1:=by simp[hr]
 have RR_:∀k (hk:k<(rs++[r0]).length),Rat' (Sm (wf ws) ((T++[a::T.flatten]).getD k [])) (Sm 81 ((T++[a::T.flatten]).getD k [])) (rs++[r0])[k]:=by
  intro k hk;rcases jC k rs.length with h|h
  .have e6:(T++[a::T.flatten]).getD k []=T.getD k []:=by simp only[List.getD];rw[List.getElem?_append_left 66]
   rw[e6,List.getElem_append_left h];exact R k h
  .have ek:k=T.length:=by omega
   have e6:(T++[a::T.flatten]).getD k []=B:=by rw[ek,eB];simp[List.getD]
   have:(rs++[r0])[k]=r0:=by rw[List.getElem_append_right h];simp
   rw[e6,this];exact hr0
 generalize rs++[r0]=rr at rb lr RR_ ⊢;have e6:(h0++[MO.lst (rs.map Av)]++[MO.lst [D.im (.tup [.int r0.1,.int r0.2])]]++[MO.lst (rr.map Av)])[(h0++[MO.lst (rs.map Av)]++[MO.lst [D.im (.tup [.int r0.1,.int r0.2])]]).length]?=some (.lst (rr.map Av)):=hn;have ei2:(h0++[MO.lst (rs.map Av)]++[MO.lst [D.im (.tup [.int r0.1,.int r0.2])]]++[MO.lst (rr.map Av)])[i]?=some (.lst (T.map AX)):=hl (hl (hl ei'));generalize (h0++[MO.lst (rs.map Av)]++[MO.lst [D.im (.tup [.int r0.1,.int r0.2])]]).length=k6 at e6 ⊢;generalize h0++[MO.lst (rs.map Av)]++[MO.lst [D.im (.tup [.int r0.1,.int r0.2])]]++[MO.lst (rr.map Av)]=h1 at e6 ei2 ⊢;refine AA (AM (Ak (D7 (A6 ⟨Cc,A5 ?_⟩))));refine AA (AM (BY (A6 ⟨Cc,A5 ?_⟩)));refine AA (Bh (K9 (Cj (A1 rfl ⟨i,_,rfl,hl ei2,?_⟩))));dsimp only;generalize hE:((T.map AX).zipIdx.map λq=>AT [.im (.int (q.2:Int)),q.1])=E;have El:E.length=T.length:=by rw[<- hE];simp
 have Ea:∀j (hj:j<E.length),E[j]=.im (.tup [.int (j:Int),AS (T[j]' 66)]):=by
  intro j hj;subst hE;simp[AT,B1]
 refine BP (I_pr c ws P a i j B T E h1 k6) (.mk 0 [] [] none none rfl 66 70 rfl (by intro j hj;simp at hj) rfl rfl) ?_ ?_
 .intro d r ls hd' hI;obtain⟨k,ns,es,z9,z10,er,hk,ln,le,ok,rfl,rfl⟩:=hI;have hk':k<E.length:=by
   rcases jC k E.length with h|h
   .exact h
   .rw[List.drop_eq_nil_of_le h]at er;cases er
  rw[jE hk',Ea k hk']at er;obtain⟨rfl,rfl⟩:=List.cons.inj er;have hkT:k<T.length:=by omega
  have eT:T[k]?=some T[k]:=List.getElem?_eq_getElem hkT;have l2:(T.take (k+1)).flatten.length=ns.length+T[k].length:=by rw[Cg eT,iV,ln.length_eq]
  have l3:(T.take (k+1)).flatten.length<=8:=by
   have e:=ji List.length (ji List.flatten (jf (k+1) T));rw[jc,iV]at e;omega
  refine⟨[some (.im (AV c ws)),some (.im (fI P)),some (.im (.int (a:Int))),some (AX B),some (.mu i),some (.mu j),some (.mu k6),some (.mu h1.length),some (.im (AS ns)),some (.im (.int (k:Int))),some (AX T[k])],rfl,?_⟩;refine AA (AM (BZ (Kq (BJ (A7 (A1 rfl (A1 rfl (wp_catN 75 ⟨_,rfl,(ns++T[k]).map (λv:Nat=>(v:Int)),?_,by simp;omega,?_⟩))))))))
  .simp only[intD,jl,iZ];rfl
  refine⟨_,rfl,A5 ?_⟩;obtain⟨S,hS,S1,S2⟩:=UA (ns++T[k]);rw[hS];have em:AT (intD (S.map λv:Nat=>(v:Int)))=.im (AS S):=by
   have:intD (S.map λv:Nat=>(v:Int))=(S.map λv:Nat=>I.int (v:Int)).map D.im:=by simp[intD]
   rw[this,BL]
  rw[em];have Sp:S.Perm (T.take (k+1)).flatten:=by
   rw[Cg eT];exact S1.trans (ln.append_right _)
  have k1:k<rr.length:=by omega
  have k2:k+1<rr.length:=by omega
  refine Cr (JQ (A1 rfl ⟨⟨(es.map Bp).map D.im,by simp[Ap]⟩,A3 (BY (A3 (A1 rfl (A3 (A1 rfl (A3 (AD ?_)))))))⟩));refine A3 (A7 (A1 rfl (A1 rfl (AL (ds:=rr.map Av) (e:=Av rr[k]) (sv (hl e6)) (CW rfl (by simp[k1])) ?_))));refine A3 (A7 (A1 rfl (A7 (A1 rfl (AK (CB (AL (ds:=rr.map Av) (e:=Av rr[k+1]) (sv (hl e6)) (CW (k:=k+1) 66 (by simp[k2])) (A6 ⟨by simp[Av,Ae],(Yh (rb k k1).1 (rb k k1).2 (rb (k+1) k2).1 (rb (k+1) k2).2).mono ?_⟩))))))));rintro d x ⟨p,q,rfl,rd,e,l4,l5⟩;refine⟨_,rfl,A6 ⟨Jv,A6 ?_⟩⟩;refine D6 hn (BU 75) ⟨?_,?_⟩
  .intro q hq;rw[jh]at hq;subst hq;rw[List.set_append_right _ _ (iq _)];exact hl ei2
  .refine .mk (k+1) S (es++[⟨a,S,p,q⟩]) _ _ rfl 66 Sp (by simp[le]) (λj hj=>?_) rfl ?_
   .rcases jC j es.length with h|h
    .rw[List.getElem_append_left h];exact ok j h
    .have ej:j=k:=by simp at hj;omega
     subst ej;have:(es++[(⟨a,S,p,q⟩:Ent)])[j]=⟨a,S,p,q⟩:=by rw[List.getElem_append_right h];simp
     rw[this];refine⟨rfl,?_,Sp,rd,SD (RR_ _ k1) (RR_ _ k2) e,l4,l5⟩;refine S2 (Sp.nodup_iff.mpr ?_);have:=(nodup_cons.mp nd0).2;rw[<- jf (j+1) T,jc]at this;exact(nodup_append.mp this).1
   .simp[AT,B1]
 .intro ls hd' hI;obtain⟨k,ns,es,z9,z10,er,hk,ln,le,ok,rfl,rfl⟩:=hI;have hk2:k=T.length:=by
   have h2:=ji List.length er;simp only[jN,kd]at h2;omega
  exact A5 (AH (A1 rfl ⟨_,es,rfl,hn,by omega,t8,ok⟩))
end
section
variable{c:Int}{up:Nat->Option Nat}{pos:Nat->Nat}
inductive I_o1(bs:List (List Nat))(y:Hd)(r:List D)(ls:Ls)(hd:Hd):Prop
 |mk (dn rest:List (List Nat)) (z0 z1:Option D) (e:bs=dn++rest) (er:r=rest.map AX) (el:ls=[z0,z1]) (eh:hd=y++[.lst (AO dn.flatten)]):I_o1 bs y r ls hd
inductive I_o2(B pre:71)(y:Hd)(r:List D)(ls:Ls)(hd:Hd):Prop
 |mk (d2 r2:71) (z1:Option D) (e:B=d2++r2) (er:r=AO r2) (el:ls=[some (AX B),z1]) (eh:hd=y++[.lst (AO (pre++d2))]):I_o2 B pre y r ls hd
structure Pra(ws:84)(P:List (Nat×Nat))(a:Nat)(es:List Ent):Prop where
 ln:es.length=((RL ws P 18).1 a).1.length
 t8:((RL ws P 18).1 a).1.length<=8
 ok:∀j (hj:j<es.length),PrOk ws a ((RL ws P 18).1 a).1 j es[j]
inductive I_p1(c:Int)(ws:84)(P:List (Nat×Nat))(H:Hd)(r:List D)(ls:Ls)(hd:Hd):Prop
 |mk (k:Nat) (z0 z1:Option D) (es:List I) (g:Hd) (er:r=AO (List.range' k (68-k))) (hk:k<=68) (el:ls=[z0,z1,some (.im (AV c ws)),some (.im (fI P))]) (eh:hd=H++[.lst (es.map D.im)]++g) (le:es.length<=8*k) (f:Nat->List Ent) (ef:es=((69 k).flatMap f).map Bp) (pr:∀a,a<k->Pra ws P a (f a)):I_p1 c ws P H r ls hd
inductive I_p2(c:Int)(ws:84)(P:List (Nat×Nat))(a:Nat)(fs es0:List I)(H:Hd)(g:Hd)(r:List D)(ls:Ls)(hd:Hd):Prop
 |mk (d2 r2:List I) (z1:Option D) (es:List I) (e:fs=d2++r2) (er:r=r2.map D.im) (el:ls=[some (.im (.int (a:Int))),z1,some (.im (AV c ws)),some (.im (fI P))]) (eh:hd=H++[.lst (es.map D.im)]++g) (le:es=es0++d2):I_p2 c ws P a fs es0 H g r ls hd
def XH(m:Nat):∀j:Nat,AI (j:Int) m=AO (List.range' j m):=by
 induction m with
 |zero=>intro j;rfl
 |succ m ih=>
  intro j;rw[AI,List.range'_succ,AO,iw];have:=ih (j+1);rw[show((j:Int)+1)=((j+1:Nat):Int) by omega,this]
def cF(L:71):AT (AO L)=.im (AS L):=by
 show AT (L.map λk:Nat=>D.im (.int (k:Int)))=_;rw[<- IA,BL]
theorem ND{f g:Nat->List Ent}:∀{L:71},(∀b∈L,f b=g b)->L.flatMap f=L.flatMap g
 |[],_=>rfl
 |x::L,h=>by rw[k0,k0,h x 70,ND λb hb=>h b (by simp[hb])]
def Ob(W:WOk c ws)(F:Fo 68 P up pos):WF BV [.im (AV c ws),.im (fI P)] [] λd x=>∃(bs:List (List Nat)) (f:Nat->List Ent),d=.im (.tup [AS bs.flatten,.tup (((69 68).flatMap f).map Bp)])/\Line up pos 81 (wf ws) (C2 68 P) bs/\bs=(RL ws P 18).2 (C2 68 P)/\∀a,a<68->Pra ws P a (f a):=by
 have n8:=W.n8;unfold BV;refine Ac rfl ?_;refine AA (AM (F9 (ZM (GJ (A3 (A1 rfl (A3 (A1 rfl (A6 ⟨by simp,(VO W F).mono ?_⟩)))))))));rintro d y0 ⟨bs,i,rfl,ei,L,eb⟩;have lb:=N2 F (Im F).lt L;have fl8:=lb.fl;have le8:=lb.le;have ei':(([]:Hd)++y0.map (shO ([]:Hd).length))[i+([]:Hd).length]?=some (.lst (bs.map AX)):=by
  rw[jQ,jN,Nat.add_zero,List.getElem?_map,ei,iY];simp only[shO];rw[MB]
 refine .inr ⟨_,_,rfl,ei',?_⟩;generalize (([]:Hd)++y0.map (shO ([]:Hd).length))=y at ei' ⊢;refine Ds (I_o1 bs y) (.mk [] bs none none rfl rfl rfl rfl) ?_ ?_
 .intro d r ls hd hI;obtain⟨dn,rest,z0,z1,e,er,rfl,rfl⟩:=hI;cases rest with
  |nil=>cases er
  |cons B rest=>
  obtain⟨rfl,rfl⟩:=List.cons.inj er;have fdn:dn.flatten.length+B.length<=8:=by
   have:=fl8;rw[e,jc,jv,iV,iV]at this;omega
  refine⟨[some (AX B),z1],rfl,AZ ?_⟩;rw[ic rfl];refine BJ (A1 rfl ⟨_,rfl,?_⟩);rw[IA];refine Dt (I_o2 B dn.flatten y) (.mk [] B z1 rfl rfl rfl (by rw[je])) ?_ ?_
  .intro d r ls hd hI;obtain⟨d2,r2,z1,e2,er2,rfl,rfl⟩:=hI;cases r2 with
   |nil=>cases er2
   |cons v r2=>
   obtain⟨rfl,rfl⟩:=List.cons.inj er2;have l2:=ji List.length e2;simp only[iV,j6]at l2;refine⟨[some (AX B),some (.im (.int (v:Int)))],rfl,AZ ?_⟩;rw[ic rfl];refine A1 rfl (D6 hn (BU (by rw[iX,iV];omega)) ⟨AE _,.mk (d2++[v]) r2 _ (by rw[e2];simp) rfl rfl ?_⟩);simp[AO]
  .intro ls hd hI;obtain⟨d2,r2,z1,e2,er2,rfl,rfl⟩:=hI;have:r2=[]:=by cases r2 with
    |nil=>rfl
    |cons _ _=>cases er2
   subst this;rw[je]at e2;subst e2;refine⟨?_,.mk (dn++[B]) rest _ _ (by rw[e];simp) rfl rfl 70⟩;intro p hp;rw[jh]at hp;subst hp;exact hl ei'
 intro ls hd hI;obtain⟨dn,rest,z0,z1,e,er,rfl,rfl⟩:=hI;have:rest=[]:=by cases rest with
  |nil=>rfl
  |cons _ _=>cases er
 subst this;rw[je]at e;subst e;refine A5 (AA (AM (F9 (D0 (A3 (BO (A3 (A1 rfl (A6 ?_)))))))));refine CI (ds:=((ws.map (wk c)).map DG).map D.im) (z:=.im (.int (ws.length:Int))) rfl (by simp[Aj]) ?_;refine A6 ⟨_,rfl,BI 66 66,?_⟩;have eo:(y++[MO.lst (AO bs.flatten)])[y.length]?=some (.lst (AO bs.flatten)):=hn;generalize hH:y++[MO.lst (AO bs.flatten)]=H at eo ⊢;have er0:AI 0 (ws.length:Int).toNat=AO (List.range' 0 (68-0)):=by rw[jj];exact XH 68 0
 dsimp only;rw[er0];refine Ds (I_p1 c ws P H) (.mk 0 none none [] [] rfl 66 rfl 70 70 (λ_=>[]) rfl (by intro a ha;omega)) ?_ ?_
 .intro d r ls hd hI;obtain⟨k,z0,z1,es,g,er,hk,rfl,rfl,le,f,ef,pr⟩:=hI;obtain⟨m,hm⟩:∃m,ws.length-k=m+1:=by
   cases q:68-k with
   |zero=>rw[q]at er;cases er
   |succ m=>exact⟨m,rfl⟩
  rw[hm,List.range'_succ,AO,iw]at er;obtain⟨rfl,rfl⟩:=List.cons.inj er;have em:m=68-(k+1):=by omega
  refine⟨[some (.im (.int (k:Int))),z1,some (.im (AV c ws)),some (.im (fI P))],rfl,AZ ?_⟩;rw[ic rfl];refine ZM (GJ (A3 (A1 rfl (A3 (A1 rfl (A3 (A1 rfl (A6 ⟨by simp,(Uy W F (by omega:k<68)).mono ?_⟩))))))));rintro d x ⟨j,fE,rfl,ej,pl,pt,pk⟩;obtain⟨fs,hfs⟩:∃fs,fs=fE.map Bp:=⟨_,rfl⟩
  rw[<- hfs]at ej;have l8:fs.length<=8:=by rw[hfs,iX];omega
  generalize hw:(H++[MO.lst (es.map D.im)]++g).length=w;have ej':(H++[MO.lst (es.map D.im)]++g++x.map (shO w))[j+w]?=some (.lst (fs.map D.im)):=by
   rw[List.getElem?_append_right 66,hw,Nat.add_sub_cancel,List.getElem?_map,ej,iY];simp only[shO];rw[dl]
  refine .inr ⟨_,_,rfl,ej',?_⟩;have ea:H++[MO.lst (es.map D.im)]++g++x.map (shO w)=H++[MO.lst (es.map D.im)]++(g++x.map (shO w)):=by rw[jL]
  have gk:∀es':List I,GOk (H++[MO.lst (es'.map D.im)]++(g++x.map (shO w))) [(j+w,fs.map D.im)]:=by
   intro es' p hp;rw[jh]at hp;subst hp;show(H++[MO.lst (es'.map D.im)]++(g++x.map (shO w)))[j+w]?=_;have lw:H.length+1<=w:=by rw[<- hw];simp only[iV,j6,jN];omega
   rw[ea]at ej';rw[List.getElem?_append_right 75]at ej' ⊢;simpa using ej'
  rw[ea];refine Dt (I_p2 c ws P k fs es H (g++x.map (shO w))) (.mk [] fs z1 es rfl rfl rfl rfl 70) ?_ ?_
  .intro d r ls hd hI;obtain⟨d2,r2,z1,es',e2,er2,rfl,rfl,le2⟩:=hI;cases r2 with
   |nil=>cases er2
   |cons v r2=>
   obtain⟨rfl,rfl⟩:=List.cons.inj er2;have l2:=ji List.length e2;simp only[iV,j6]at l2;refine⟨[some (.im (.int (k:Int))),some (.im v),some (.im (AV c ws)),some (.im (fI P))],rfl,AZ ?_⟩;rw[ic rfl];have e9:(H++[MO.lst (es'.map D.im)]++(g++x.map (shO w))).set H.length (.lst (es'.map D.im++[.im v]))=H++[MO.lst ((es'++[v]).map D.im)]++(g++x.map (shO w)):=by simp
   have le3:=ji List.length le2;rw[iV]at le3;refine A1 rfl (D6 (hl hn) (BU (by rw[iX];omega)) ?_);rw[e9];exact⟨gk _,.mk (d2++[v]) r2 _ (es'++[v]) (by rw[e2];simp) rfl rfl rfl (by rw[le2,jL])⟩
  .intro ls hd hI;obtain⟨d2,r2,z1,es',e2,er2,rfl,rfl,le2⟩:=hI;have:r2=[]:=by cases r2 with
    |nil=>rfl
    |cons _ _=>cases er2
   subst this;rw[je]at e2;subst e2;have le3:=ji List.length le2;rw[iV]at le3;refine⟨AE _,.mk (k+1) _ _ es' _ (by rw[em]) 66 rfl rfl 66 (λb=>if b=k then fE else f b) ?_ λb hb=>?_⟩
   .rw[le2,ef,hfs,jH,List.flatMap_append,jl,List.flatMap_singleton,ic rfl]
    congr 2
    exact ND λb hb=>(ig (iW (by simpa using hb))).symm
   .by_cases e:b=k
    .subst e;rw[ic rfl];exact⟨pl,pt,pk⟩
    .rw[ig e];exact pr b 66
 intro ls hd hI;obtain⟨k,z0,z1,es,g,er,hk,rfl,rfl,le,f,ef,pr⟩:=hI;have ek:k=ws.length:=by
  cases q:68-k with
  |zero=>omega
  |succ m=>rw[q,List.range'_succ]at er;cases er
 have hpr:∀a,a<68->a<k:=λa ha=>by omega
 refine A5 (AH (BY (A3 (BO (A3 (A1 rfl (A6 (CI (ds:=AO bs.flatten) (sv (hl (hl eo))) rfl ?_))))))));refine A3 (BO (A3 (A1 rfl (A6 (CI (ds:=es.map D.im) (sv (hl hn)) rfl (A6 ⟨FR,bs,f,?_,L,eb,λa ha=>pr a 66⟩))))));rw[cF,BL,ef,ek];rfl
end
section
variable{c:Int}{up:Nat->Option Nat}{pos:Nat->Nat}
theorem Qn(f:Nat->Int):∀B:List Nat,Sm f B=Sm.sm f B
 |[]=>rfl
 |x::r=>by rw[Du,Qn f r];rfl
def KS(W:WOk c ws)(F:Fo 68 P up pos){k:Nat}(s:SOk 68 up S)(h1:1<=k)(h:∀a∈S,2*(8-pos a)+1<=k):Line up pos 81 (wf ws) S ((RL ws P k).2 S)/\((RL ws P k).2 S).Perm (E1 ws P (k-1) S):=by
 obtain⟨d,x,_,bs,i,g,_,_,_,L,eb,pm⟩:=(rl W F k).2 S [.lst (AO S)] 0 (by intro o ho;simp at ho;exact⟨S,ho⟩) s rfl h1 h;rw[eb]at L pm;exact⟨L,pm⟩
def MZ(W:WOk c ws)(F:Fo 68 P up pos){k a:Nat}(ha:a<68)(h:2*(8-pos a)<=k):Line up pos 81 (wf ws) [a] ((a::((RL ws P k).1 a).1.flatten)::((RL ws P k).1 a).2)/\Cut ws a ((RL ws P (k-1)).2 (ch P a)) ((RL ws P k).1 a).1.length:=by
 obtain⟨d,x,_,B,left,i,j,T,_,_,L,_,eB,eR,C⟩:=(rl W F k).1 a ha h;rw[eR];rw[eB]at L;exact⟨L,C⟩
theorem QL(F:Fo 68 P up pos):∀k k':Nat,(∀a,a<68->2*(8-pos a)<=k->2*(8-pos a)<=k'->(RL ws P k).1 a=(RL ws P k').1 a)/\∀S:List Nat,(∀a∈S,a<68/\2*(8-pos a)+1<=k/\2*(8-pos a)+1<=k')->1<=k->1<=k'->(RL ws P k).2 S=(RL ws P k').2 S
 |0,k'=>⟨λa ha h=>by have:=F.p8 a ha;omega,λS _ h=>by omega⟩
 |k+1,0=>⟨λa ha _ h=>by have:=F.p8 a ha;omega,λS _ _ h=>by omega⟩
 |k+1,k'+1=>by
  obtain⟨i1,i2⟩:=QL F k k';refine⟨λa ha h h'=>?_,λS hS _ _=>?_⟩
  .have pa:=F.p8 a ha;have:=i2 (ch P a) (λb hb=>?_) 66 66
   .simp only[RL];rw[this]
   .have hb:=ch_mem.mp hb;have:=F.dn _ _ ((F.hup a b).mpr hb);exact⟨(F.lt _ hb).2,by omega,by omega⟩
  .simp only[RL];rw[show(S.map λa=>(a::((RL ws P k).1 a).1.flatten)::((RL ws P k).1 a).2)=S.map λa=>(a::((RL ws P k').1 a).1.flatten)::((RL ws P k').1 a).2 from jP λa ha=>by rw[i1 a (hS a ha).1 (by have:=(hS a ha).2.1;omega) (by have:=(hS a ha).2.2;omega)]]
noncomputable abbrev tkn(ws:84)(P:List (Nat×Nat))(a:Nat):List (List Nat):=((RL ws P 18).1 a).1
section
variable{B:Int}{S:Nat->Nat->List Nat}{t:Nat->Nat->Int}
open Sm (Flat Nd own)
theorem T0(W:WOk c ws)(F:Fo 68 P up pos)(N:∀a,a<68->Nd 81 (wf ws) B (tkn ws P) S t a):∀k:Nat,(∀a,a<68->2*(8-pos a)<=k->Flat 81 (wf ws) B (tkn ws P) S t (own (tkn ws P) a::((RL ws P k).1 a).2))/\∀S':List Nat,SOk 68 up S'->1<=k->(∀a∈S',2*(8-pos a)+1<=k)->Flat 81 (wf ws) B (tkn ws P) S t ((RL ws P k).2 S')
 |0=>⟨λa ha h=>by have:=F.p8 a ha;omega,λS _ h=>by omega⟩
 |k+1=>by
  obtain⟨i1,i2⟩:=T0 W F N k;refine⟨λa ha h=>?_,λS' s _ h=>?_⟩
  .have pa:=F.p8 a ha;have hc:∀b∈ch P a,2*(8-pos b)+1<=k:=λb hb=>by
    have:=F.dn _ _ ((F.hup a b).mpr (ch_mem.mp hb));omega
   have G:=i2 (ch P a) (Fu F a) 66 hc;have L:=(KS W F (Fu F a) 66 hc).1;have e18:(RL ws P (k+1)).1 a=(RL ws P 18).1 a:=(QL F (k+1) 18).1 a ha h 66;have et:tkn ws P a=((RL ws P k).2 (ch P a)).take (Ki ws a ((RL ws P k).2 (ch P a))):=by
    show((RL ws P 18).1 a).1=_;rw[<- e18];rfl
   have na:=na F L;exact G.row (λk=>KT W k) na (λx hx=>G.sp x hx a na) (N a ha) et
  .obtain⟨L,pm⟩:=KS W F s 66 h;refine Flat.perm pm ?_;have nd:(E1 ws P k S').flatten.Nodup:=pm.flatten.nodup_iff.mp L.nd;show Flat _ _ _ _ _ _ (E1 ws P k S');clear L pm;have go:∀L:List Nat,(∀a∈L,a<68/\2*(8-pos a)<=k)->(E1 ws P k L).flatten.Nodup->Flat 81 (wf ws) B (tkn ws P) S t (E1 ws P k L):=by
    intro L
    induction L with
    |nil=>intro _ _;exact Flat.nil
    |cons a L ih=>
     intro hL nd;have e:E1 ws P k (a::L)=((a::((RL ws P k).1 a).1.flatten)::((RL ws P k).1 a).2)++E1 ws P k L:=by simp[E1]
     rw[e]at nd ⊢;have ha:=hL a 70;have e18:(RL ws P k).1 a=(RL ws P 18).1 a:=(QL F k 18).1 a ha.1 ha.2 66;refine Flat.app ?_ (ih (λb hb=>hL b (by simp[hb])) ?_) nd
     .have:=i1 a ha.1 ha.2;rw[own,tkn,<- e18]at this;exact this
     .rw[jc]at nd;exact(nodup_append.mp nd).2.1
   exact go S' (λa ha=>⟨s.lt a ha,by have:=h a ha;omega⟩) nd
end
end
section
variable{c:Int}{ws:84}{up:Nat->Option Nat}{pos:Nat->Nat}
def Zk(F:Fo 68 P up pos):∀k v,pos v<=k->v<68->∃a∈C2 68 P,Anc up a v:=by
 intro k
 induction k with
 |zero=>
  intro v hk hv;cases e:up v with
  | none=>exact⟨v,mem_filter.mpr ⟨by simpa using hv,jI λh=>by
   obtain⟨q,hq,rfl⟩:=mem_map.mp h;have:=(F.hup q.1 q.2).mpr hq;rw[e]at this;cases this⟩,.refl _⟩
  |some u=>have:=F.dn _ _ e;omega
 |succ k ih=>
  intro v hk hv;cases e:up v with
  | none=>exact⟨v,mem_filter.mpr ⟨by simpa using hv,jI λh=>by
   obtain⟨q,hq,rfl⟩:=mem_map.mp h;have:=(F.hup q.1 q.2).mpr hq;rw[e]at this;cases this⟩,.refl _⟩
  |some u=>
   have:=F.dn _ _ e;obtain⟨a,ha,h⟩:=ih u 66 (F.lt _ ((F.hup u v).mp e)).1;exact⟨a,ha,.step h e⟩
def Of{A:71}{n:Nat}(nd:A.Nodup)(h:∀v,v∈A↔v<n):A.Perm (69 n):=by
 rw[List.perm_ext_iff_of_nodup nd jR];intro v;rw[h];simp
noncomputable abbrev eS(f:Nat->List Ent)(a j:Nat):List Nat:=(((f a)[j]?).map (·.S)).getD []
noncomputable abbrev eT(B:Int)(f:Nat->List Ent)(a j:Nat):Int:=(((f a)[j]?).map λe=>e.p*(B/e.q)).getD 0
def O4(W:WOk c ws)(F:Fo 68 P up pos){a:Nat}(ha:a<68):∃bs m,Line up pos 81 (wf ws) (ch P a) bs/\Cut ws a bs m/\tkn ws P a=bs.take m/\m=(tkn ws P a).length:=by
 have C:=(MZ W F (k:=18) ha 66).2;have L:=(KS W F (k:=17) (Fu F a) 66 λb hb=>by omega).1;refine⟨_,_,L,C,?_,rfl⟩;show(((RL ws P 17).2 (ch P a)).take (Ki ws a ((RL ws P 17).2 (ch P a))))=_;rw[Oy C]
def f7(W:WOk c ws)(F:Fo 68 P up pos){B:Int}{f:Nat->List Ent}{a:Nat}(ha:a<68)(p:Pra ws P a (f a))(hB:∀e∈f a,e.q ∣ B):Sm.Nd 81 (wf ws) B (tkn ws P) (eS f) (eT B f) a:=by
 obtain⟨bs,m,L,C,et,em⟩:=O4 W F ha;have L0:=(MZ W F (k:=18) ha 66).1;refine⟨?_,λX hX=>?_,λj hj=>?_,λj hj=>?_⟩
 .have:=L0.nd;rw[jv]at this;exact(nodup_append.mp this).1
 .rw[et]at hX;exact II (L.hold X (ju hX))
 .have hj':j<(f a).length:=by rw[p.ln];exact hj
  simp only[eS,List.getElem?_eq_getElem hj',iY,getD_some];exact(p.ok j hj').pm
 .have hj':j<(f a).length:=by rw[p.ln];exact hj
  simp only[eT,List.getElem?_eq_getElem hj',iY,getD_some];have e:=(p.ok j hj').eq;have d:=hB _ (List.getElem_mem hj');simp only[Qn]at e;have q:(f a)[j].q*(B/(f a)[j].q)=B:=Int.mul_ediv_cancel' d;generalize (f a)[j].p=x at *;generalize (f a)[j].q=y at *;generalize B/y=z at *;have e1:x*z*(Sm.sm 81 (Sm.blk (tkn ws P) a j)*Sm.sm 81 (Sm.blk (tkn ws P) a (j+1)))=x*(Sm.sm 81 (Sm.blk (tkn ws P) a j)*Sm.sm 81 (Sm.blk (tkn ws P) a (j+1)))*z:=by grind
  rw[e1];have e2:x*(Sm.sm 81 (Sm.blk (tkn ws P) a j)*Sm.sm 81 (Sm.blk (tkn ws P) a (j+1)))=(Sm.sm (wf ws) (Sm.blk (tkn ws P) a j)*Sm.sm 81 (Sm.blk (tkn ws P) a (j+1))-Sm.sm (wf ws) (Sm.blk (tkn ws P) a (j+1))*Sm.sm 81 (Sm.blk (tkn ws P) a j))*y:=e;rw[e2,<- q]
  grind
def W9(W:WOk c ws)(F:Fo 68 P up pos){a:Nat}(ha:a<68){j:Nat}(hj:j<(tkn ws P a).length)(p:PrOk ws a (tkn ws P a) j en):0<=en.p:=by
 obtain⟨bs,m,L,C,et,em⟩:=O4 W F ha;have lp:∀X:List Nat,X≠[]->0<Sm 81 X:=λX h=>Fs.sm_pos (λx _=>KT W x) h;have ne:∀X∈tkn ws P a,X≠[]:=λX hX=>by rw[et]at hX;exact II (L.hold X (ju hX))
 have e0:(tkn ws P a++[a::(tkn ws P a).flatten]).getD j []=(tkn ws P a)[j]:=by simp only[List.getD];rw[List.getElem?_append_left hj,List.getElem?_eq_getElem hj];rfl
 have hm:=C.hm;have jb:j<bs.length:=by omega
 have ej:(tkn ws P a)[j]=bs[j]:=by simp only[et,List.getElem_take]
 have key:Sm (wf ws) ((tkn ws P a++[a::(tkn ws P a).flatten]).getD (j+1) [])*Sm 81 (tkn ws P a)[j]<=Sm (wf ws) (tkn ws P a)[j]*Sm 81 ((tkn ws P a++[a::(tkn ws P a).flatten]).getD (j+1) [])/\(tkn ws P a++[a::(tkn ws P a).flatten]).getD (j+1) []≠[]:=by
  rcases jC (j+1) (tkn ws P a).length with h|h
  .have e1:(tkn ws P a++[a::(tkn ws P a).flatten]).getD (j+1) []=(tkn ws P a)[j+1]:=by simp only[List.getD];rw[List.getElem?_append_left h,List.getElem?_eq_getElem h];rfl
   rw[e1];refine⟨?_,ne _ (List.getElem_mem h)⟩;have ej':(tkn ws P a)[j+1]=bs[j+1]' 66:=by simp only[et,List.getElem_take]
   rw[ej,ej'];exact List.pairwise_iff_getElem.mp L.fall j (j+1) jb 66 66
  .have ejm:j+1=(tkn ws P a).length:=by omega
   have e1:(tkn ws P a++[a::(tkn ws P a).flatten]).getD (j+1) []=a::(tkn ws P a).flatten:=by rw[ejm];simp[List.getD]
   rw[e1];refine⟨?_,by simp⟩;have lt:=C.lt j bs[j] 66 (List.getElem?_eq_getElem jb);have e2:(tkn ws P a).flatten=(bs.take j).flatten++bs[j]:=by
    rw[et,show m=j+1 by omega];exact Cg (List.getElem?_eq_getElem jb)
   rw[ej,e2];rw[show a::((bs.take j).flatten++bs[j])=(a::(bs.take j).flatten)++bs[j]from rfl,Fs.sm_app,Fs.sm_app,jO,jk];have lt:Sm (wf ws) (a::(bs.take j).flatten)*Sm 81 bs[j]<Sm (wf ws) bs[j]*Sm 81 (a::(bs.take j).flatten):=lt;omega
 have e:=p.eq;rw[e0]at e;obtain⟨k1,k2⟩:=key;have P1:=lp _ (ne _ (List.getElem_mem hj));have P2:=lp _ k2;have q0:=p.rd.q0;refine Classical.byContradiction λz=>?_;have h1:=Int.mul_neg_of_neg_of_pos (a:=en.p) 66 (jT P1 P2);have h2:0<=(Sm (wf ws) (tkn ws P a)[j]*Sm 81 ((tkn ws P a++[a::(tkn ws P a).flatten]).getD (j+1) [])-Sm (wf ws) ((tkn ws P a++[a::(tkn ws P a).flatten]).getD (j+1) [])*Sm 81 (tkn ws P a)[j])*en.q:=jS 66 66;omega
end
section
variable{c:Int}{ws:84}{P:List (Nat×Nat)}{up:Nat->Option Nat}{pos:Nat->Nat}
structure Vo(n:Nat)(P:List (Nat×Nat))(ks:71):Prop where
 pm:ks.Perm (69 n)
 kp:∀q∈P,ks.idxOf q.1<ks.idxOf q.2
def Vo.anc{n:Nat}(V:Vo n P ks)(hup:∀a b,up b=some a↔(a,b)∈P){a b:Nat}(h:Anc up a b):a=b∨ks.idxOf a<ks.idxOf b:=by
 induction h with
 |refl=>exact .inl rfl
 |step _ e ih=>
  have:=V.kp _ ((hup _ _).mp e);dsimp only at this;rcases ih with rfl|h
  .exact .inr this
  .exact .inr 66
def KY{A B:71}{x y:Nat}(nd:(A++B).Nodup)(hx:x∈A)(hy:y∈B):(A++B).idxOf x<(A++B).idxOf y:=by
 have hy':y∉A:=λz=>(nodup_append.mp nd).2.2 y z y hy rfl;rw[kg,kg,ic hx,ig hy'];have:=List.idxOf_lt_length_iff.mpr hx;omega
def KQ(F:Fo 68 P up pos){bs:List (List Nat)}(L:Line up pos 81 (wf ws) (C2 68 P) bs):Vo 68 P bs.flatten:=by
 have pm:bs.flatten.Perm (69 68):=Of L.nd λv=>by
  rw[L.mem];constructor
  .rintro⟨a,ha,h⟩;exact K4 F (by have:=(mem_filter.mp ha).1;simpa using this) h
  .intro hv;exact Zk F _ v (iq _) hv
 refine⟨pm,λq hq=>?_⟩;have hb:=(F.lt q hq).2;have e:=(F.hup q.1 q.2).mpr hq;have mb:q.2∈bs.flatten:=pm.mem_iff.mpr (by simpa using hb);obtain⟨B,hB,hbB⟩:=mem_flatten.mp mb;obtain⟨X,Y,eb⟩:=kf hB;obtain⟨h,t,eB,par⟩:=L.par X B Y eb;obtain⟨h',t',eB',ho,_⟩:=(L.hold B hB).ex;rw[eB]at eB';obtain⟨rfl,rfl⟩:=List.cons.inj eB';have nd:=L.nd;have ef:bs.flatten=X.flatten++(B++Y.flatten):=by rw[eb,jc,jv]
 rw[ef]at nd ⊢;rw[eB]at hbB;rcases mem_cons.mp hbB with z|z
 .rcases par with s|⟨u,hu,e2⟩
  .have:=OJ F s;rw[<- z,e]at this;cases this
  .rw[<- z,e]at e2;cases e2;exact KY nd hu (by rw[eB,z];simp)
 .obtain⟨i,hi,ei⟩:=mem_iff_getElem.mp z;obtain⟨u,e2,hu⟩:=ho.get (i:=i) (v:=q.2) (by rw[List.getElem?_eq_getElem hi,ei]);rw[e]at e2;cases e2;have eB2:B=(h::t.take i)++t.drop i:=by rw[eB,j9,jf]
  have ef2:X.flatten++(B++Y.flatten)=(X.flatten++(h::t.take i))++(t.drop i++Y.flatten):=by rw[eB2];simp only[jL]
  rw[ef2]at nd ⊢;refine KY nd ?_ ?_
  .rcases hu with hu|hu
   .simp at hu;simp[hu]
   .simp[hu]
  .rw[jE hi,ei];simp
def Vo.split{n:Nat}{ks:71}(V:Vo n P ks){a:Nat}(ha:a<n){S:71}(h:∀b∈S,b<n/\ks.idxOf a<ks.idxOf b):∃pre post,ks=pre++a::post/\∀b∈S,b∈post:=by
 have ma:a∈ks:=V.pm.mem_iff.mpr (by simpa using ha);have nd:ks.Nodup:=V.pm.nodup_iff.mpr jR;obtain⟨pre,post,e⟩:=kf ma;refine⟨pre,post,e,λb hb=>?_⟩;obtain⟨h1,h2⟩:=h b hb;have mb:b∈ks:=V.pm.mem_iff.mpr (by simpa using h1);rw[e]at mb h2 nd;rcases mem_append.mp mb with z|z
 .have:=KY nd z (jg (a:=a) (l:=post));omega
 .rcases mem_cons.mp z with rfl|z
  .omega
  .exact z
noncomputable abbrev Bm(B:Int)(e:Ent):Sm.Pe:=⟨e.a,e.S,e.p*(B/e.q)⟩
def bS{f:Nat->List Ent}{a:Nat}(B:Int)(p:Pra ws P a (f a)):Sm.pes (tkn ws P) (eS f) (eT B f) a=(f a).map (Bm B):=by
 refine List.ext_getElem (by simp[Sm.pes,p.ln]) λj h1 h2=>?_;have hj:j<(f a).length:=by simpa using h2
 have:=(p.ok j hj).ea;simp only[Sm.pes,List.getElem_map,List.getElem_range,eS,eT,List.getElem?_eq_getElem hj,iY,getD_some,Bm,this]
def ZG{f:Nat->List Ent}(B:Int)(p:∀a,a<68->Pra ws P a (f a)):(69 68).flatMap (Sm.pes (tkn ws P) (eS f) (eT B f))=((69 68).flatMap f).map (Bm B):=by
 have go:∀A:List Nat,(∀a∈A,a<68)->A.flatMap (Sm.pes (tkn ws P) (eS f) (eT B f))=(A.flatMap f).map (Bm B):=by
  intro A
  induction A with
  |nil=>intro _;rfl
  |cons a A ih=>intro h;rw[k0,k0,jl,bS B (p a (h a 70)),ih λx hx=>h x (by simp[hx])]
 exact go _ λa ha=>by simpa using ha
section
variable{bs:List (List Nat)}{f:Nat->List Ent}{B:Int}
def Vs(W:WOk c ws)(F:Fo 68 P up pos)(L:Line up pos 81 (wf ws) (C2 68 P) bs)(eb:bs=(RL ws P 18).2 (C2 68 P))(pr:∀a,a<68->Pra ws P a (f a))(B0:0<B)(hB:∀e∈(69 68).flatMap f,e.q ∣ B):
 Sm.gE 81 (((69 68).flatMap f).map (Bm B))+Sm.least 81 (Sm.vE 81 (wf ws) B (((69 68).flatMap f).map (Bm B))) c 68=B*Sm.cst 81 (wf ws) bs.flatten c 0:=by
 have Fl:=(T0 (B:=B) (S:=eS f) (t:=eT B f) W F (λa ha=>f7 W F ha (pr a ha) λe he=>hB e (mem_flatMap.mpr ⟨a,by simpa using ha,he⟩)) 18).2 (C2 68 P) (Im F) 66 λa ha=>by omega
 rw[<- eb]at Fl;have fall:bs.Pairwise λX Y=>Sm.sm (wf ws) Y*Sm.sm 81 X<=Sm.sm (wf ws) X*Sm.sm 81 Y:=by
  refine L.fall.imp λ{X Y} h=>?_
  have h:Sm (wf ws) Y*Sm 81 X<=Sm (wf ws) X*Sm 81 Y:=h;simpa only[Qn]using h
 have:=Fl.fin (λk=>KT W k) (Int.le_of_lt B0) fall (KQ F L).pm c;rw[ZG B pr]at this;exact this
def NJ(W:WOk c ws)(F:Fo 68 P up pos){a:Nat}(ha:a<68){j:Nat}(p:PrOk ws a (tkn ws P a) j e):e.S.Nodup/\∀b∈e.S,b<68/\b≠a/\Anc up a b:=by
 have L0:=(MZ W F (k:=18) ha 66).1;have nd:=L0.nd;rw[jv]at nd;have n1:=nodup_cons.mp (nodup_append.mp nd).1;refine⟨p.up.imp λh=>by omega,λb hb=>?_⟩;have hb':b∈(tkn ws P a).flatten:=by
  obtain⟨X,hX,h⟩:=mem_flatten.mp (p.pm.mem_iff.mp hb);exact mem_flatten.mpr ⟨X,ju hX,h⟩
 have an:Anc up a b:=by
  obtain⟨a',h1,h2⟩:=(L0.mem b).mp (by rw[jv];exact jK _ (j4 _ hb'));rw[jh]at h1;subst h1;exact h2
 exact⟨K4 F ha an,λz=>n1.1 (z ▸ hb'),an⟩
def cQ(W:WOk c ws)(F:Fo 68 P up pos)(pr:∀a,a<68->Pra ws P a (f a))(B0:0<B){ks:71}(V:Vo 68 P ks):Sm.gE 81 (((69 68).flatMap f).map (Bm B))+Sm.cst 81 (Sm.vE 81 (wf ws) B (((69 68).flatMap f).map (Bm B))) ks c 0<=B*Sm.cst 81 (wf ws) ks c 0:=by
 have go:∀E:List Ent,(∀e∈E,0<=e.p/\0<e.q/\Sm.cst 81 (Sm.pv 81 e.a e.S) ks c 0 <= - Sm.gn 81 e.S)->Sm.gE 81 (E.map (Bm B))+Sm.cst 81 (Sm.vE 81 (wf ws) B (E.map (Bm B))) ks c 0<=B*Sm.cst 81 (wf ws) ks c 0:=by
  intro E
  induction E with
  |nil=>
   intro _;have:=Sm.cst_E 81 (wf ws) B c (ks:=ks) (E:=[]) 70;rw[jt];omega
  |cons e E ih=>
   intro h;have ih:=ih λx hx=>h x (by simp[hx]);obtain⟨p0,q0,h0⟩:=h e 70;have t0:0<=e.p*(B/e.q):=jS p0 (Int.ediv_nonneg 66 66);generalize ht:e.p*(B/e.q)=t at t0;have e1:Sm.vE 81 (wf ws) B ((e::E).map (Bm B))=λk=>Sm.vE 81 (wf ws) B (E.map (Bm B)) k+t*Sm.pv 81 e.a e.S k:=by
    funext k;simp only[Sm.vE,iw,sum_cons,Bm,ht];omega
   have h3:=Sm.cst_add 81 (Sm.vE 81 (wf ws) B (E.map (Bm B))) (Sm.pv 81 e.a e.S) t ks c 0 0;rw[mul_zero,add_zero]at h3;have e2:Sm.gE 81 ((e::E).map (Bm B))=t*Sm.gn 81 e.S+Sm.gE 81 (E.map (Bm B)):=by simp only[Sm.gE,iw,sum_cons,Bm,ht]
   rw[e1,e2,h3];have h4:t*Sm.cst 81 (Sm.pv 81 e.a e.S) ks c 0<=t*(- Sm.gn 81 e.S):=Int.mul_le_mul_of_nonneg_left h0 t0;rw[mul_neg]at h4;omega
 refine go _ λe he=>?_;obtain⟨a,ha,h⟩:=mem_flatMap.mp he;have ha:a<ws.length:=by simpa using ha
 obtain⟨j,hj,rfl⟩:=mem_iff_getElem.mp h;have p:=pr a ha;have pk:=p.ok j hj;have hj':j<(tkn ws P a).length:=by rw[<- p.ln];exact hj
 obtain⟨nS,hS⟩:=NJ W F ha pk;refine⟨W9 W F ha hj' pk,pk.rd.q0,?_⟩;rw[pk.ea];obtain⟨pre,post,ek,hs⟩:=V.split ha (S:=((f a)[j]).S) λb hb=>by
  obtain⟨b1,b2,b3⟩:=hS b hb;rcases V.anc F.hup b3 with z|z
  .exact absurd z.symm b2
  .exact⟨b1,z⟩
 have nd:ks.Nodup:=V.pm.nodup_iff.mpr jR;rw[ek]at nd ⊢;exact Sm.price_le 81 (λk=>Int.le_of_lt (KT W k)) nS nd hs c
def Wc{f:Nat->List Ent}(pr:∀a,a<68->Pra ws P a (f a)):∀e∈(69 68).flatMap f,0<e.q:=λe he=>by
 obtain⟨a,ha,h⟩:=mem_flatMap.mp he;obtain⟨j,hj,rfl⟩:=mem_iff_getElem.mp h;exact((pr a (by simpa using ha)).ok j hj).rd.q0
noncomputable def Iv:List Ent->Int
 |[]=>1
 |e::r=>e.q*Iv r
theorem Mq:∀{E:List Ent},(∀e∈E,0<e.q)->0<Iv E
 |[],_=>by simp[Iv]
 |e::r,h=>jT (h e 70) (Mq λx hx=>h x (by simp[hx]))
theorem Mr:∀{E:List Ent} {e:Ent},e∈E->e.q ∣ Iv E
 |x::r,e,h=>by
  rw[Iv];rcases mem_cons.mp h with rfl|h
  .exact Int.dvd_mul_right _ _
  .exact Int.dvd_trans (Mr h) (Int.dvd_mul_left _ _)
def dM(W:WOk c ws)(F:Fo 68 P up pos)(L:Line up pos 81 (wf ws) (C2 68 P) bs)(eb:bs=(RL ws P 18).2 (C2 68 P))(pr:∀a,a<68->Pra ws P a (f a))(V:Vo 68 P ks):Sm.cst 81 (wf ws) bs.flatten c 0<=Sm.cst 81 (wf ws) ks c 0:=by
 have B0:=Mq (Wc pr);have h1:=Vs W F L eb pr B0 λe he=>Mr he;have h2:=cQ W F pr B0 V;have h3:=Sm.least_le 81 (Sm.vE 81 (wf ws) (Iv ((69 68).flatMap f)) (((69 68).flatMap f).map (Bm (Iv ((69 68).flatMap f))))) c V.pm;exact Int.le_of_mul_le_mul_left 66 B0
end
end
noncomputable abbrev enD(q:D×Nat):D:=AT [.im (.int (q.2:Int)),q.1]
def TB{ds:List D}{j:Nat}(h:d::r=((ds.drop j).zipIdx j).map enD):∃e,ds[j]?=some e/\d=enD (e,j)/\r=((ds.drop (j+1)).zipIdx (j+1)).map enD:=by
 cases q:ds[j]? with
 |none=>
  have:82<=j:=List.getElem?_eq_none_iff.mp q;rw[List.drop_of_length_le this]at h;cases h
 |some e=>
  obtain⟨lt,rfl⟩:=72 q;rw[jE lt,List.zipIdx_cons,iw]at h;obtain⟨rfl,rfl⟩:=List.cons.inj h;exact⟨_,rfl,rfl,rfl⟩
def fu{a b j:Nat}:BB 2 (AJ (AB a) (AJ (AB b) BG)) (enD (e,j)) ls hd=some ((ls.set a (some (.im (.int (j:Int))))).set b (some e)):=by
 unfold BB enD;rw[LQ];rfl
def VX:F_behind=Rw.F_behind:=rfl
inductive Good(n:Nat)(ps:84):I->Prop
 |mk (a:Nat) (S:71) (p q:Int):a<n->S.Pairwise (·<·)->(∀b∈S,b<n)->(∀b∈S,Rc ps (a:Int) (b:Int))->Rd p q->0<=p->Good n ps (.tup [.int (a:Int),AS S,frI p q])
def FP{n:Nat}{ps:84}{x y z:I}(g:Good n ps (.tup [x,y,z])):Cf (n:Int) x=true/\EZ (n:Int) y=true/\E7 z=true/\∃a S p q,x=.int ((a:Nat):Int)/\y=AS S/\z=frI p q/\0<=p/\∀b∈S,Rc ps (a:Int) ((b:Nat):Int):=by
 generalize ei:I.tup [x,y,z]=i at g;cases g with
 |mk a S p q h1 h2 h3 h4 h5 h6=>
  simp only[I.tup.injEq,List.cons.injEq,and_true]at ei;obtain⟨rfl,rfl,rfl⟩:=ei;exact⟨Od h1,Wx h2 h3,Z0 h5,a,S,p,q,rfl,rfl,rfl,h6,h4⟩
def DR(ks:71):(ks.map λk:Nat=>I.int (k:Int)).map D.im=AO ks:=by simp[AO]
def Ye(h:AS S=AS S'):S=S':=by
 simp only[AS,I.tup.injEq]at h;refine(List.map_inj_right (λa b e=>?_)).mp h;simp only[I.int.injEq]at e;omega
def Z3{c:Int}{ps:84}(hp:ps.length<64)(hl:∀l,y=.tup l->l.length<=20):WF Ex [.im (AV c ws),.im (Rw.wI ps),.im (.tup [x,y,z])] [] λd _=>(d=.im .non/\Good 68 ps (.tup [x,y,z]))∨((∃w,d=.im (.str w))/\¬ Good 68 ps (.tup [x,y,z])):=by
 unfold Ex;refine Ac rfl ?_;have ln:∀hd,f1 true Aj [.im (AV c ws)] hd=some (.im (.int (ws.length:Int)),hd):=λhd=>by simp[f1,Aj]
 refine AA (F7 (A1 rfl ⟨[some (.im (AV c ws)),some (.im (Rw.wI ps)),some (.im (.tup [x,y,z])),some (.im x),some (.im y),some (.im z),none],rfl,A5 ?_⟩));refine AA (B7 (Bw (BK (AD (A3 (BO (A3 (A1 rfl (A6 (WP.eq (ln _) (A3 (A1 rfl (A6 ⟨by simp,(Sa _ x).mono ?_⟩)))))))))))));rintro d _ rfl;refine⟨_,rfl,_,rfl,?_⟩;by_cases hx:Cf (ws.length:Int) x=true
 case neg=>
  rw[Bool.eq_false_iff.mpr hx];exact⟨λ_=>AH (AK (Or.inr ⟨⟨_,rfl⟩,λg=>hx (FP g).1⟩)),λh=>by cases h⟩
 rw[hx];refine⟨(λh=>by cases h),λ_=>Ad (A5 ?_)⟩;refine AA (B7 (Bw (BK (AD (A3 (BO (A3 (A1 rfl (A6 (WP.eq (ln _) (A3 (A1 rfl (A6 ⟨by simp,(Yx _ y hl).mono ?_⟩)))))))))))));rintro d _ rfl;refine⟨_,rfl,_,rfl,?_⟩;by_cases hy:EZ (ws.length:Int) y=true
 case neg=>
  rw[Bool.eq_false_iff.mpr hy];exact⟨λ_=>AH (AK (Or.inr ⟨⟨_,rfl⟩,λg=>hy (FP g).2.1⟩)),λh=>by cases h⟩
 rw[hy];refine⟨(λh=>by cases h),λ_=>Ad (A5 ?_)⟩;obtain⟨a,rfl,ha⟩:=G5 hx;obtain⟨S,rfl,pw,lt⟩:=Wy hy;have hS:S.length<=20:=by simpa using hl _ rfl
 obtain⟨found,g,eb,nd,mem⟩:=Rw.behind_eq hp (ws.length:Int) (a:Int);rw[<- VX]at eb;refine AA (AM (AD (A3 (BO (A3 (A1 rfl (A6 (WP.eq (ln _) (A3 (A1 rfl (A3 (A1 rfl (A6 ⟨by simp,WP.eq eb ⟨_,rfl,A5 ?_⟩⟩)))))))))))));refine AA (B7 (Bw (BK (BZ (AY (BJ (A1 rfl ⟨_,rfl,?_⟩)))))));rw[DR];refine⟨AQ 75,?_⟩;refine Aq (xs:=S) (λk:Nat=>D.im (.int (k:Int))) (λk=>some (.im (.bl (decide ((k:Int)∈B3 found))))) (λ_ ls=>∃x,ls=[some x,some (.im (.tup ((B3 found).map I.int)))]) _ (AE _) ?_ ?_
 .rintro k hk ls hls;refine⟨[some (.im (.int (k:Int))),some (.im (.tup ((B3 found).map I.int)))],by rcases hls with rfl|⟨_,x,rfl⟩<;>rfl,⟨_,rfl⟩,AZ ⟨rfl,?_⟩⟩;rw[ic rfl];exact⟨_,rfl,A7 (A1 rfl (A1 rfl (HB (xs:=B3 found) (by simp[intD]) ⟨rfl,rfl⟩)))⟩
 rw[List.filterMap_eq_map',show(S.map λk:Nat=>D.im (.bl (decide ((k:Int)∈B3 found))))=blD (S.map λk:Nat=>decide ((k:Int)∈B3 found)) by simp[blD]];refine⟨_,by rw[Dh,EA];rfl,_,rfl,?_⟩;have iff:(S.map λk:Nat=>decide ((k:Int)∈B3 found)).all id=true↔∀b∈S,Rc ps (a:Int) (b:Int):=by
  simp only[all_map,all_eq_true,Function.comp_apply,id,jX];exact⟨λh b hb=>(mem _).mp ((Ct found).mem_iff.mp (h b hb)),λh b hb=>(Ct found).mem_iff.mpr ((mem _).mpr (h b hb))⟩
 by_cases hb:(S.map λk:Nat=>decide ((k:Int)∈B3 found)).all id=true
 case neg=>
  rw[Bool.eq_false_iff.mpr hb];refine⟨λ_=>AH (AK (Or.inr ⟨⟨_,rfl⟩,λg=>hb ?_⟩)),λh=>by cases h⟩;obtain⟨_,_,_,a',S',p,q,e1,e2,e3,_,h⟩:=FP g;have e1:a=a':=by simp only[I.int.injEq]at e1;omega
  have e2:=Ye e2;subst e1;subst e2;exact iff.mpr h
 rw[hb];have hr:=iff.mp hb;refine⟨(λh=>by cases h),λ_=>Ad (A5 ?_)⟩;refine AA (B7 (FV (Bw (BK (AD (A3 (A1 rfl (A6 ⟨by simp,(cZ z).mono ?_⟩))))))));rintro d _ rfl;refine⟨_,rfl,_,rfl,?_⟩;by_cases hz:E7 z=true
 case neg=>
  rw[Bool.eq_false_iff.mpr hz,ic 70];exact⟨λ_=>AH (AK (Or.inr ⟨⟨_,rfl⟩,λg=>hz (FP g).2.2.1⟩)),λh=>by cases h⟩
 rw[hz,ig 70];obtain⟨p,q,rfl,rd⟩:=Z1 hz;refine AU (A7 (A7 (A1 rfl (AK (cn (AK (DF ⟨_,rfl,?_⟩)))))));by_cases h0:p<0
 .rw[jI h0];refine⟨λ_=>AH (AK (Or.inr ⟨⟨_,rfl⟩,λg=>?_⟩)),λh=>by cases h⟩;obtain⟨_,_,_,a',S',p',q',e1,e2,e3,h,_⟩:=FP g;have:p=p':=by simp at e3;exact e3.1
  omega
 .rw[jD h0];exact⟨(λh=>by cases h),λ_=>Ad (A5 (AH (AK (Or.inl ⟨rfl,.mk a S p q ha pw lt hr rd 66⟩))))⟩
open PySem L2 Bd Bt Sm An
def cR(f:Nat->Int)(B:71):E5 (B.map λk=>D.im (.int (f k)))=some (.im (.int (sm f B))):=by
 have:(B.map λk=>D.im (.int (f k)))=intD (B.map f):=by simp[intD]
 rw[this,DS,HF]
def Sk{c:Int}{ws:84}(lt:∀k∈B,k<68)(le:B.length<=8):WF CH [.im (AV c ws),.im (AS B)] [] λd x=>d=.im (.int (sm 81 B)):=by
 unfold CH;refine Ac rfl ?_;refine AH (BZ (AY (BJ (A1 rfl ⟨_,rfl,?_⟩))));rw[DR];refine⟨AQ 75,?_⟩;refine Aq (xs:=B) (λk:Nat=>D.im (.int (k:Int))) (λk=>some (.im (.int (lf ws k)))) (λ_ ls=>∃x,ls=[some x,some (.im (AV c ws))]) _ (AE _) ?_ ?_
 .rintro x hx ls hls;refine⟨[some (.im (.int (x:Int))),some (.im (AV c ws))],by rcases hls with rfl|⟨_,x,rfl⟩<;>rfl,⟨_,rfl⟩,AZ ⟨rfl,?_⟩⟩;rw[ic rfl];exact⟨_,rfl,A7 (A7 (A1 rfl (A1 rfl (AL rfl (DU (lt x hx)) (AK (AL rfl (Cq _ _) ⟨rfl,rfl⟩))))))⟩
 .rw[List.filterMap_eq_map'];exact⟨_,cR _ _,rfl⟩
theorem Oo(l:Nat->Int)(x:Nat):∀S:List Nat,gn l (S++[x])=gn l S+l x*(sm l S+l x)
 |[]=>by simp[gn,Sm.sm]
 |k::r=>by
  rw[j9,gn,Oo l x r,Ey,gn];simp only[Sm.sm,jk,jd (l x) (l k)];omega
noncomputable def gl(l:Nat->Int)(S:71):Nat->List Int
 |0=>[]
 |j+1=>gl l S j++(69 (j+1)).map λi=>l (S.getD i 0)*l (S.getD j 0)
theorem O9(l:Nat->Int)(S:71):∀j,j<=S.length->((69 j).map λi=>l (S.getD i 0)).sum=sm l (S.take j)
 |0,_=>rfl
 |j+1,h=>by
  rw[jH,jl,sum_append,O9 l S j 66,List.take_succ_eq_append_getElem 66,Ey];simp[List.getD_eq_getElem?_getD,show j<S.length from by omega]
theorem O7(l:Nat->Int)(S:71)(t:Int):∀L:List Nat,(L.map λi=>l (S.getD i 0)*t).sum=(L.map λi=>l (S.getD i 0)).sum*t
 |[]=>by simp
 |x::r=>by simp only[iw,sum_cons,O7 l S t r,jO]
theorem Su(l:Nat->Int)(S:71):∀j,j<=S.length->(gl l S j).sum=gn l (S.take j)
 |0,_=>rfl
 |j+1,h=>by
  have e:S.getD j 0=S[j]:=by simp[List.getD_eq_getElem?_getD,show j<S.length from by omega]
  rw[gl,sum_append,Su l S j 66,O7,O9 l S (j+1) h,List.take_succ_eq_append_getElem 66,Oo,Ey,e,jd]
theorem Sv(l:Nat->Int)(S:71):∀j,(gl l S j).length<=j*10∨9<j
 |0=>.inl (by simp[gl])
 |j+1=>by
  rcases Sv l S j with h|h
  .by_cases q:j+1<=9
   .left;simp only[gl,iV,iX,List.length_range];omega
   .right;omega
  .right;omega
def cj{c:Int}(W:WOk c ws)(lt:∀k∈S,k<68)(le:S.length<=8):WF K7 [.im (AV c ws),.im (AS S)] [] λd x=>d=.im (.int (gn 81 S)):=by
 unfold K7;refine Ac rfl ?_;refine AA (AM (Ak (AY (BJ (A1 rfl ⟨_,rfl,?_⟩)))));rw[DR];refine⟨AQ 75,?_⟩;refine Aq (xs:=S) (λk:Nat=>D.im (.int (k:Int))) (λk=>some (.im (.int (lf ws k)))) (λ_ ls=>∃x,ls=[some x,some (.im (AV c ws))]) _ (AE _) ?_ ?_
 .rintro x hx ls hls;refine⟨[some (.im (.int (x:Int))),some (.im (AV c ws))],by rcases hls with rfl|⟨_,x,rfl⟩<;>rfl,⟨_,rfl⟩,AZ ⟨rfl,?_⟩⟩;rw[ic rfl];exact⟨_,rfl,A7 (A7 (A1 rfl (A1 rfl (AL rfl (DU (lt x hx)) (AK (AL rfl (Cq _ _) ⟨rfl,rfl⟩))))))⟩
 rw[List.filterMap_eq_map',show(S.map λk=>D.im (.int (lf ws k)))=intD (S.map 81) by simp[intD]];have la:∀k,k<S.length->atI (intD (S.map 81)) (k:Int)=some (.im (.int (lf ws (S.getD k 0)))):=λk hk=>CW rfl (by simp[intD,hk,List.getD_eq_getElem?_getD]);have lb:∀k,k<S.length->1<=lf ws (S.getD k 0)/\lf ws (S.getD k 0)<=1000000:=λk hk=>by
  have e:S.getD k 0=S[k]:=by simp[List.getD_eq_getElem?_getD,hk]
  rw[e];have:=D9 W (lt _ (List.getElem_mem hk));omega
 refine A5 ?_;change WS _ [some (.im (AV c ws)),some (.im (AS S)),some (.mu 0)] [.lst (intD (S.map 81))] _;refine AH (BO (A3 (F9 (D0 (A3 (BO (A3 (A1 rfl (A6 (CI (ds:=intD (S.map 81)) (z:=.im (.int (S.length:Int))) rfl (by simp[Aj]) ?_))))))))));refine A6 ⟨_,rfl,BI 66 66,?_⟩;rw[jj];refine Ds (λr ls hd=>∃(j:Nat) (z0 z1:Option D),r=AI (j:Int) (S.length-j)/\j<=S.length/\ls=[z0,z1,some (.mu 0)]/\hd=[.lst (intD (S.map 81)),.lst (intD (gl 81 S j))]) ⟨0,none,none,rfl,by omega,rfl,rfl⟩ ?_ ?_
 .rintro d r ls hd ⟨j,z0,z1,er,hj,rfl,rfl⟩;obtain⟨m,hm⟩:∃m,S.length-j=m+1:=by
   cases q:S.length-j with
   |zero=>rw[q]at er;cases er
   |succ m=>exact⟨m,rfl⟩
  rw[hm,AI]at er;obtain⟨rfl,rfl⟩:=List.cons.inj er;refine⟨[some (.im (.int (j:Int))),z1,some (.mu 0)],rfl,AZ ?_⟩;rw[ic rfl];refine D0 (A3 (A7 (A1 rfl (AK (CB (A6 ⟨_,rfl,BI 66 66,?_⟩))))));rw[show((j:Int)+1).toNat=j+1 by omega];have ll:=Sv 81 S j;refine Dt (λr ls hd=>∃(i:Nat) (z1:Option D),r=AI (i:Int) (j+1-i)/\i<=j+1/\ls=[some (.im (.int (j:Int))),z1,some (.mu 0)]/\hd=[.lst (intD (S.map 81)),.lst (intD (gl 81 S j++(69 i).map λi=>lf ws (S.getD i 0)*lf ws (S.getD j 0)))]) ⟨0,_,rfl,by omega,rfl,by simp⟩ ?_ ?_
  .rintro d r ls hd ⟨i,z1,er,hi,rfl,rfl⟩;obtain⟨m',hm'⟩:∃m,j+1-i=m+1:=by
    cases q:j+1-i with
    |zero=>rw[q]at er;cases er
    |succ m=>exact⟨m,rfl⟩
   rw[hm',AI]at er;obtain⟨rfl,rfl⟩:=List.cons.inj er;have b1:=lb i 66;refine⟨[some (.im (.int (j:Int))),some (.im (.int (i:Int))),some (.mu 0)],rfl,AZ ?_⟩;rw[ic rfl];refine A7 (A7 (A1 rfl (A1 rfl (AL rfl (la i 66) (A7 (A1 rfl (A1 rfl (AL rfl (la j 66) (B9 (B5 66 66) ?_)))))))));refine D6 rfl (BU 75) ?_;refine⟨AE _,i+1,_,by rw[show((i:Int)+1)=((i+1:Nat):Int) by omega,show m'=j+1-(i+1) by omega],by omega,rfl,?_⟩;rw[jH];simp[intD]
  .rintro ls hd ⟨i,z1,er,hi,rfl,rfl⟩;have hi':i=j+1:=by
    cases q:j+1-i with
    |zero=>omega
    |succ m=>rw[q]at er;cases er
   subst hi';exact⟨AE _,j+1,_,_,by rw[show((j:Int)+1)=((j+1:Nat):Int) by omega,show m=S.length-(j+1) by omega],by omega,rfl,rfl⟩
 .rintro ls hd ⟨j,z0,z1,er,hj,rfl,rfl⟩;have hj':j=S.length:=by
   cases q:S.length-j with
   |zero=>omega
   |succ m=>rw[q]at er;cases er
  subst hj';refine A6 (CI (ds:=intD (gl 81 S S.length)) rfl (DS _) ?_);show D.im _=_;rw[Su _ _ _ (iq _),List.take_length]
open PySem L2 Bd Bt Sm An
noncomputable abbrev GR(E:List Ent):I:=.tup (E.map Bp)
structure EOk(n:Nat)(ps:84)(e:Ent):Prop where
 a:e.a<n
 pw:e.S.Pairwise (·<·)
 lt:∀b∈e.S,b<n
 rc:∀b∈e.S,Rc ps (e.a:Int) (b:Int)
 rd:Rd e.p e.q
 p0:0<=e.p
def EOk.good{n:Nat}{ps:84}{e:Ent}(h:EOk n ps e):Good n ps (Bp e):=.mk _ _ _ _ h.a h.pw h.lt h.rc h.rd h.p0
def RJ{n:Nat}{S:71}(pw:S.Pairwise (·<·))(lt:∀b∈S,b<n):S.length<=n:=by
 have nd:S.Nodup:=pw.imp λh=>by omega
 exact Hh nd lt
noncomputable abbrev Lk(c:Int)(ws ps:84)(i:I)(z3 z4 z5:Option D):Ls:=[some (.im (AV c ws)),some (.im (Rw.wI ps)),some (.im i),z3,z4,z5]
def fU{l:List I}(hl:l.length<=64)(e:ls[2]?=some (some (.im (.tup l)))){QT:Bool->Hd->Prop}(q:QT (!l.all (DV 3)) []):WT (mOr (CQ (BH (Dd .tuple (A0 2)))) (CQ (BH (BM Dh (Ai 1 [] (Az (A0 2)) (AB 0) B2 (A8 0 CA (A2 (mC (.int 3)) (A2 (A0 0) A4)))))))) ls [] QT:=by
 refine FV (Bw (BK (Bx (A1 e ⟨true,rfl,true,rfl,?_⟩))));rw[ig 70];refine Bw (BK (BZ (AY (BJ (A1 e ⟨_,rfl,AQ 75,?_⟩)))));refine Aq D.im (λe:I=>some (.im (.bl (DV 3 e)))) (λ_ ls=>∃x,ls=[some x]) _ (AE _) ?_ ?_
 .rintro e he ls hls;refine⟨[some (.im e)],by rcases hls with rfl|⟨_,x,rfl⟩<;>rfl,⟨_,rfl⟩,AZ ⟨rfl,?_⟩⟩;rw[ic rfl];refine⟨_,rfl,AD (A3 (AK (A3 (A1 rfl (A6 ⟨by simp,(O2 3 e).mono ?_⟩)))))⟩;rintro d x rfl;exact⟨_,rfl,rfl,rfl⟩
 rw[List.filterMap_eq_map',show(l.map λe=>D.im (.bl (DV 3 e)))=blD (l.map (DV 3)) by simp[blD]];refine⟨_,by rw[Dh,EA];rfl,_,rfl,?_⟩;have ea:(l.map (DV 3)).all id=l.all (DV 3):=by simp[all_map]
 rw[ea];exact q
def cN{c:Int}{ws ps:84}(hp:ps.length<64)(n8:68<=8){E:List Ent}(hE:E.length<=64)(gd:∀e∈E,EOk 68 ps e):WF CY [.im (AV c ws),.im (Rw.wI ps),.im (GR E)] [] λd x=>d=.im .non:=by
 unfold CY;refine Ac rfl ?_;change WS _ (Lk c ws ps (GR E) none none none) [] _;refine AA (B7 (fU (l:=E.map Bp) (by simpa using hE) rfl ?_));have al:(E.map Bp).all (DV 3)=true:=all_eq_true.mpr λi hi=>by
  obtain⟨e,_,rfl⟩:=mem_map.mp hi;rfl
 rw[al];refine⟨(λh=>by cases h),λ_=>Ad (A5 ?_)⟩;refine Bh (K9 (BJ (A1 rfl ⟨(E.map Bp).map D.im,rfl,?_⟩)));change WP (C4 _ _ _ (((((E.map Bp).map D.im).drop 0).zipIdx 0).map enD) (Lk c ws ps (GR E) none none none) []) _;refine BP (λr ls x=>∃(j:Nat) (z3 z4 z5:Option D),r=((((E.map Bp).map D.im).drop j).zipIdx j).map enD/\ls=Lk c ws ps (GR E) z3 z4 z5/\x=[]) ⟨0,none,none,none,rfl,rfl,rfl⟩ ?_ ?_
 .rintro d r ls x ⟨j,z3,z4,z5,er,rfl,rfl⟩;obtain⟨dj,ej,rfl,rfl⟩:=TB er;obtain⟨e,he,rfl⟩:∃e∈E,dj=.im (Bp e):=by
   have:=j5 ej;rw[iZ]at this;obtain⟨e,he,rfl⟩:=mem_map.mp this;exact⟨e,he,rfl⟩
  have g:=gd e he;have sl:=RJ g.pw g.lt;refine⟨Lk c ws ps (GR E) (some (.im (.int (j:Int)))) (some (.im (Bp e))) z5,fu,?_⟩;refine AA (AM (AD (A3 (A1 rfl (A3 (A1 rfl (A3 (A1 rfl (A6 ⟨by simp,(Z3 hp (λl q=>?_)).mono ?_⟩)))))))))
  .cases q;simp;omega
  rintro d x (⟨rfl,_⟩|⟨_,no⟩)
  .refine⟨_,rfl,A5 ?_⟩;refine B7 (AU (WP.eq (z:=.im (.bl false)) (h:=[]) (by simp[Fh]) ⟨_,rfl,(λh=>by cases h),λ_=>Ad ⟨AE _,j+1,_,_,_,rfl,rfl,rfl⟩⟩))
  .exact absurd g.good no
 rintro ls x ⟨j,z3,z4,z5,er,rfl,rfl⟩;rfl
noncomputable def bot:List Ent->Int
 |[]=>1
 |e::r=>e.q*bot r
theorem NZ(e:Ent):∀E:List Ent,bot (E++[e])=bot E*e.q
 |[]=>by simp[bot]
 |x::r=>by rw[j9,bot,NZ e r,bot,jq]
theorem NY:∀{E:List Ent},(∀e∈E,Sz 46 e.q)->Sz (1+46*E.length) (bot E)
 |[],_=>by simp[bot,Sz]
 |e::r,h=>by
  have:=Sz.mul (h e 70) (NY (E:=r) λx hx=>h x (by simp[hx]));rw[bot];refine this.mono ?_;simp only[j6];omega
theorem Kj:∀{E:List Ent},(∀e∈E,0<e.q)->0<bot E
 |[],_=>by decide
 |e::r,h=>by
  rw[bot];exact jT (h e 70) (Kj λx hx=>h x (by simp[hx]))
def dP{a b c:Nat}:BB 3 (AJ (AB a) (AJ (AB b) (AJ (AB c) BG))) (.im (Bp e)) ls hd=some (((ls.set a (some (.im (.int (e.a:Int))))).set b (some (.im (AS e.S)))).set c (some (.im (frI e.p e.q)))):=rfl
def Vk{E:List Ent}(hE:E.length<=64)(hq:∀e∈E,Sz 46 e.q):WF Ci [.im (GR E)] [] λd x=>d=.im (.int (bot E)):=by
 unfold Ci;refine Ac rfl ?_;refine AA (AM (AK (A5 ?_)));refine AA (Bh (BJ (A1 rfl ⟨(E.map Bp).map D.im,rfl,?_⟩)));refine BP (λr ls x=>∃(dn rest:List Ent) (z2 z3 z4:Option D),E=dn++rest/\r=(rest.map Bp).map D.im/\ls=[some (.im (GR E)),some (.im (.int (bot dn))),z2,z3,z4]/\x=[]) ⟨[],E,none,none,none,rfl,rfl,rfl,rfl⟩ ?_ ?_
 .rintro d r ls x ⟨dn,rest,z2,z3,z4,e1,er,rfl,rfl⟩;cases rest with
  |nil=>cases er
  |cons e rest=>
   obtain⟨rfl,rfl⟩:=List.cons.inj er;refine⟨_,dP,?_⟩;have le:dn.length<=64:=by rw[e1]at hE;simp at hE;omega
   have s1:=(NY (E:=dn) λx hx=>hq x (by rw[e1];simp[hx])).mono (k':=2945) 66;refine Wh rfl (A7 (A1 rfl (AK (cm ⟨_,rfl,cC s1 (hq e (by rw[e1];simp)),AE _,dn++[e],rest,some (.im (.int (e.a:Int))),some (.im (AS e.S)),some (.im (frI e.p e.q)),by simp[e1],rfl,?_,rfl⟩))));rw[NZ];rfl
 rintro ls x ⟨dn,rest,z2,z3,z4,e1,er,rfl,rfl⟩;cases rest with
 |cons=>cases er
 |nil=>
  rw[je]at e1;subst e1;exact A5 (AH (A1 rfl rfl))
open PySem L2 Bd Bt Sm An
def Nt{f:Int->Int->Int}{QS:Fl->Hd->Prop}(h:WE mo ls hd λd x=>WE mi ls x λi y=>∃n k ds j v,d=.mu n/\i=.im (.int k)/\y[n]?=some (.lst ds)/\ixN 82 k=some j/\ds[j]?=some (.im (.int v))/\WE me ls y λr z=>∃u ds',r=.im (.int u)/\z[n]?=some (.lst ds')/\ds'.length=82/\QS (.nx ls) (z.set n (.lst (ds'.set j (.im (.int (f v u))))))):WS (GW mo mi me f) ls hd QS:=by
 obtain⟨d,x,e1,i,y,e2,n,k,ds,j,v,rfl,rfl,e3,e4,e5,r,z,e6,u,ds',rfl,e7,e8,q⟩:=h;refine⟨_,_,?_,q⟩;unfold GW;simp only[e1,ik,e2,e3,e4,e5,e6,e7,e8,iU]
noncomputable abbrev Dw(n:Nat)(v:Nat->Int):List D:=intD ((69 n).map v)
def Fx{n:Nat}{v:Nat->Int}{k:Nat}(hk:k<n):(Dw n v)[k]?=some (.im (.int (v k))):=by simp[intD,hk]
def Ez(n:Nat)(v:Nat->Int):(Dw n v).length=n:=by simp[intD]
def OG{n:Nat}{v:Nat->Int}{k:Nat}(hk:k<n)(x:Int):(Dw n v).set k (.im (.int x))=Dw n λi=>if i=k then x else v i:=by
 refine jZ λi=>?_;by_cases hi:i<n
 .rw[List.getElem?_set,Ez];by_cases q:k=i
  .subst q;rw[ic rfl,ic hk,Fx hk,ic rfl]
  .rw[ig q,Fx hi,Fx hi,ig λz=>q z.symm]
 .rw[List.getElem?_eq_none (by rw[List.length_set,Ez];omega),List.getElem?_eq_none (by rw[Ez];omega)]
def OI{n:Nat}{v v':Nat->Int}(h:∀k,k<n->v k=v' k):Dw n v=Dw n v':=by
 unfold Dw
 congr 1
 exact jP λk hk=>h k (by simpa using hk)
def So{n:Nat}{k:Nat}(hk:k<n):ixN n (k:Int)=some k:=by unfold ixN;rw[ic 66,ic 66];simp
theorem Pc{c:Int}(W:WOk c ws):∀(B:71),(∀k∈B,k<68)->0<=sm 81 B/\sm 81 B<=1000000*B.length
 |[],_=>by simp[Sm.sm]
 |x::r,h=>by
  have ih:=Pc W r λk hk=>h k (by simp[hk]);have:=D9 W (h x 70);simp only[Sm.sm,j6];omega
theorem WW{c:Int}(W:WOk c ws):∀(B:71),(∀k∈B,k<68)->B.length<=8->0<=gn 81 B/\gn 81 B<=1000000*9000000*B.length
 |[],_,_=>by simp[gn]
 |x::r,h,hl=>by
  have hl':r.length<=7:=by simp at hl;omega
  have ih:=WW W r (λk hk=>h k (by simp[hk])) 66;have s:=Pc W r λk hk=>h k (by simp[hk]);have b:=D9 W (h x 70);have h1:0<=lf ws x*(lf ws x+sm 81 r):=jS 66 66;have h2:lf ws x*(lf ws x+sm 81 r)<=1000000*9000000:=Int.mul_le_mul 66 66 66 66;simp only[gn,j6];omega
def Sl{l l' w w':Nat->Int}(c:Int){n:Nat}(hl:∀k,k<n->l k=l' k)(hw:∀k,k<n->w k=w' k):least l w c n=least l' w' c n:=by
 unfold least;have a:=FX (f:=λk=>w k*(c+l k)) (g:=λk=>w' k*(c+l' k)) (ks:=69 n) λk hk=>by
  have hk:k<n:=by simpa using hk
  simp only[hl k hk,hw k hk]
 have g:∀x∈69 n,∀y∈69 n,min (l x*w y) (l y*w x)=min (l' x*w' y) (l' y*w' x):=λx hx y hy=>by
  have hx:x<n:=by simpa using hx
  have hy:y<n:=by simpa using hy
  rw[hl x hx,hl y hy,hw x hx,hw y hy]
 have b:=Lm (g:=λx y=>min (l x*w y) (l y*w x)) (h:=λx y=>min (l' x*w' y) (l' y*w' x)) (ks:=69 n) λx hx y hy=>by rw[g x hx y hy];exact Int.le_refl _
 have b':=Lm (h:=λx y=>min (l x*w y) (l y*w x)) (g:=λx y=>min (l' x*w' y) (l' y*w' x)) (ks:=69 n) λx hx y hy=>by rw[g x hx y hy];exact Int.le_refl _
 omega
noncomputable abbrev Pl(c:Int)(ws ps:84)(E:List Ent)(g:Int)(z7 z8 z9 z10 z11:Option D):Ls:=[some (.im (AV c ws)),some (.im (Rw.wI ps)),some (.im (GR E)),some (.im (.int c)),some (.im (.int (bot E))),some (.mu 0),some (.im (.int g)),z7,z8,z9,z10,z11]
structure BE(e:Ent):Prop where
 p:e.p<=64000000000000
 q:e.q<=64000000000000
theorem P7:∀{E:List Ent} {e:Ent},e∈E->e.q ∣ bot E
 |x::r,e,h=>by
  rw[bot];rcases mem_cons.mp h with rfl|h
  .exact Int.dvd_mul_right _ _
  .exact Int.dvd_trans (P7 h) (Int.dvd_mul_left _ _)
set_option maxHeartbeats 1000000 in
def Uz{c:Int}{ps:84}(W:WOk c ws)(hp:ps.length<64){E:List Ent}(hE:E.length<=64)(gd:∀e∈E,EOk 68 ps e)(be:∀e∈E,BE e)(nself:∀e∈E,e.a∉e.S):WF FU [.im (AV c ws),.im (Rw.wI ps),.im (GR E)] [] λd x=>∃p q,d=.im (frI p q)/\Rd p q/\p*bot E=(gE 81 (E.map (Bm (bot E)))+least 81 (vE 81 (wf ws) (bot E) (E.map (Bm (bot E)))) c 68)*q:=by
 have n8:=W.n8;have l0:∀k,0<=lf ws k:=λk=>by have:=KT W k;omega
 have sq:∀e∈E,Sz 46 e.q:=λe he=>by
  have:=(be e he).q;have:=(gd e he).rd.q0;unfold Sz;omega
 have B0:=Kj (E:=E) λe he=>(gd e he).rd.q0;have Bs:=(NY sq).mono (k':=2945) 66;unfold FU;refine Ac rfl ?_;refine AA (AM (AD (A3 (A1 rfl (A6 ⟨by simp,(GI W).mono ?_⟩)))));rintro d x rfl;refine⟨_,rfl,A5 ?_⟩;refine AA (Cr (AD (A3 (A1 rfl (A3 (A1 rfl (A3 (A1 rfl (A6 ⟨by simp,(cN hp n8 hE gd).mono ?_⟩)))))))));rintro d x rfl;refine⟨_,rfl,A5 ?_⟩;refine AA (AM (AD (A3 (A1 rfl (A6 ⟨by simp,(Vk hE sq).mono ?_⟩)))));rintro d x rfl;refine⟨_,rfl,A5 ?_⟩;refine AA (AM (Ak (AY (BJ (A1 rfl ⟨_,rfl,?_⟩)))));rw[Fr];refine⟨AQ 75,?_⟩;refine Aq (wkD c) (λp=>some (.im (.int (p.2*bot E)))) (λ_ ls=>∃x,ls=[some x,some (.im (.int (bot E)))]) _ (AE _) ?_ ?_
 .rintro p hp ls hls;have b:=W.each p hp;refine⟨[some (wkD c p),some (.im (.int (bot E)))],by rcases hls with rfl|⟨_,x,rfl⟩<;>rfl,⟨_,rfl⟩,AZ ⟨rfl,?_⟩⟩;rw[ic rfl];refine⟨_,rfl,A7 (AD (A3 (A1 rfl (A6 ⟨by simp,(Il c p).mono ?_⟩))))⟩;rintro d x rfl;exact⟨_,rfl,A1 rfl (B9 (B5 66 66) ⟨rfl,rfl⟩)⟩
 have e0:(ws.filterMap λp=>some (D.im (.int (p.2*bot E))))=Dw 68 λk=>wf ws k*bot E:=by
  refine jZ λi=>?_;by_cases hi:i<68
  .rw[Fx hi];simp[hi,wf]
  .rw[List.getElem?_eq_none 75,List.getElem?_eq_none (by rw[Ez];omega)]
 rw[e0];refine A5 (AA (AM (AK (A5 ?_))));change WS _ (Pl c ws ps E 0 none none none none none) [.lst (Dw 68 λk=>wf ws k*bot E)] _;refine AA (Bh (BJ (A1 rfl ⟨(E.map Bp).map D.im,rfl,?_⟩)));refine BP (λr ls x=>∃(dn rest:List Ent) (g:Int) (v:Nat->Int) (z7 z8 z9 z10 z11:Option D),E=dn++rest/\r=(rest.map Bp).map D.im/\(g=gE 81 (dn.map (Bm (bot E)))/\v=vE 81 (wf ws) (bot E) (dn.map (Bm (bot E))))/\ls=Pl c ws ps E g z7 z8 z9 z10 z11/\x=[.lst (Dw 68 v)]) ⟨[],E,0,_,none,none,none,none,none,rfl,rfl,⟨by simp[gE],rfl⟩,rfl,by simp[vE]⟩ ?_ ?_
 .rintro d r ls x ⟨dn,rest,g,v,z7,z8,z9,z10,z11,e1,er,ph,rfl,rfl⟩;cases rest with
  |nil=>cases er
  |cons e rest=>
   obtain⟨rfl,rfl⟩:=List.cons.inj er;have he:e∈E:=by rw[e1];simp
   have G:=gd e he;have bE:=be e he;have q0:=G.rd.q0;have p0:=G.p0;have sl:=RJ G.pw G.lt;have bp:=bE.p;have bq:=bE.q;have sb:=Pc W e.S G.lt;have gb:=WW W e.S G.lt 66;obtain⟨t,ht⟩:∃t,t=e.p*(bot E/e.q):=⟨_,rfl⟩
   have t0:0<=t:=by rw[ht];exact jS p0 (Int.ediv_nonneg 66 66)
   refine⟨Pl c ws ps E g (some (.im (.int (e.a:Int)))) (some (.im (AS e.S))) (some (.im (frI e.p e.q))) z10 z11,dP,?_⟩;refine AA (AM (A7 (A7 (A1 rfl (AK (cn (A7 (A1 rfl (A7 (A1 rfl (AK (cm (Ik (TC q0 (sq e he) 80 80) (B9 (.inl ⟨by omega,by omega⟩) (A5 ?_)))))))))))))));rw[<- ht];change WS _ (Pl c ws ps E g (some (.im (.int (e.a:Int)))) (some (.im (AS e.S))) (some (.im (frI e.p e.q))) (some (.im (.int t))) z11) _ _;refine AA (Qr rfl (A7 (A1 rfl (AD (A3 (A1 rfl (A3 (A1 rfl (A6 ⟨by simp,(cj W G.lt 66).mono ?_⟩)))))))));rintro d x rfl;refine⟨_,rfl,B9 (.inr ⟨by omega,by omega⟩) ⟨_,rfl,A5 ?_⟩⟩;change WS _ (Pl c ws ps E (g+t*gn 81 e.S) (some (.im (.int (e.a:Int)))) (some (.im (AS e.S))) (some (.im (frI e.p e.q))) (some (.im (.int t))) z11) _ _;refine AA (Nt (A1 rfl (A1 rfl ⟨0,_,_,e.a,_,rfl,rfl,rfl,by rw[Ez];exact So G.a,Fx G.a,A7 (A1 rfl (AD (A3 (A1 rfl (A3 (A1 rfl (A6 ⟨by simp,(Sk G.lt 66).mono ?_⟩)))))))⟩)));rintro d x rfl;refine⟨_,rfl,B9 (Og 66 66) ⟨_,_,rfl,rfl,rfl,A5 ?_⟩⟩;rw[OG G.a];generalize hv1:(λi=>if i=e.a then v e.a+t*sm 81 e.S else v i)=v1;refine Bh (BJ (A1 rfl ⟨_,rfl,?_⟩));rw[DR];refine BP (λr ls x=>∃(d1 r1:71) (z11:Option D),e.S=d1++r1/\r=AO r1/\ls=Pl c ws ps E (g+t*gn 81 e.S) (some (.im (.int (e.a:Int)))) (some (.im (AS e.S))) (some (.im (frI e.p e.q))) (some (.im (.int t))) z11/\x=[.lst (Dw 68 λk=>if k∈d1 then v1 k-t*lf ws k else v1 k)]) ⟨[],e.S,z11,rfl,rfl,rfl,by simp⟩ ?_ ?_
   .rintro d r ls x ⟨d1,r1,z11,es,er,rfl,rfl⟩;cases r1 with
    |nil=>cases er
    |cons b r1=>
     obtain⟨rfl,rfl⟩:=List.cons.inj er;have hb:b<ws.length:=G.lt b (by rw[es];simp);have lb:=D9 W hb;have mb:∀i,Be i (lf ws b):=λi=>Og 66 66;have nb:b∉d1:=λz=>by
      have:=G.pw;rw[es,List.pairwise_append]at this;have:=this.2.2 b z b 70;omega
     refine⟨Pl c ws ps E (g+t*gn 81 e.S) (some (.im (.int (e.a:Int)))) (some (.im (AS e.S))) (some (.im (frI e.p e.q))) (some (.im (.int t))) (some (.im (.int (b:Int)))),rfl,?_⟩;refine Nt (A1 rfl (A1 rfl ⟨0,_,_,b,_,rfl,rfl,rfl,by rw[Ez];exact So hb,Fx hb,A7 (A1 rfl (A7 (A7 (A1 rfl (A1 rfl (AL rfl (DU hb) (AK (AL rfl (Cq _ _) (B9 (mb _) ⟨_,_,rfl,rfl,rfl,AE _,d1++[b],r1,_,by simp[es],rfl,rfl,?_⟩)))))))))⟩));rw[OG hb];show [MO.lst _]=_
     congr 2
     refine OI λk hk=>?_;by_cases q:k=b
     .subst q;rw[ic rfl,ig nb,ic 70]
     .rw[ig q];by_cases q2:k∈d1
      .rw[ic q2,ic (by simp[q2])]
      .rw[ig q2,ig (by simp[q2,q])]
   rintro ls x ⟨d1,r1,z11,es,er,rfl,rfl⟩;cases r1 with
   |cons=>cases er
   |nil=>
    rw[je]at es;subst es;refine⟨AE _,dn++[e],rest,_,vE 81 (wf ws) (bot E) ((dn++[e]).map (Bm (bot E))),_,_,_,_,_,by simp[e1],rfl,⟨?_,rfl⟩,rfl,?_⟩
    .rw[ph.1,jl,List.map_singleton,Yz,ht]
    show [MO.lst _]=_
    congr 2
    refine OI λk hk=>?_;rw[<- hv1,jl,List.map_singleton,Wn,ph.2];unfold Sm.pv;dsimp only[Bm];rw[<- ht];have na:e.a∉e.S:=nself e he;by_cases ka:k=e.a
    .subst ka;rw[ig na,ic rfl,ic rfl]
    .rw[ig ka,ig ka];by_cases kS:k∈e.S
     .rw[ic kS,ic kS,mul_neg];omega
     .rw[ig kS,ig kS];omega
 rintro ls x ⟨dn,rest,g,v,z7,z8,z9,z10,z11,e1,er,ph,rfl,rfl⟩;refine A5 ?_;refine AH (AD (A3 (A7 (A1 rfl (DN (A3 (A1 rfl (A3 (Ak (AY (BJ (A1 rfl ⟨_,rfl,?_⟩))))))))))));rw[Fr];refine⟨AQ 75,?_⟩;refine Aq (wkD c) (λp=>some (.im (.int p.1))) (λ_ ls=>∃x,ls=[some x]) _ (AE _) ?_ ?_
 .rintro p hp ls hls;refine⟨[some (wkD c p)],by rcases hls with rfl|⟨_,x,rfl⟩<;>rfl,⟨_,rfl⟩,AZ ⟨rfl,?_⟩⟩;rw[ic rfl];exact⟨_,rfl,A7 (A1 rfl (AK (AL rfl (Cq _ _) ⟨rfl,rfl⟩)))⟩
 obtain⟨us,hus⟩:∃us:List (Int×Int),us=(List.range ws.length).map λk=>(lf ws k,v k):=⟨_,rfl⟩
 have ul:us.length=ws.length:=by rw[hus];simp
 have ua:∀k,k<68->us[k]?=some (lf ws k,v k):=λk hk=>by rw[hus];simp[hk]
 have e2:(ws.filterMap λp=>some (D.im (.int p.1)))=intD (us.map (·.1)):=by
  refine jZ λi=>?_;by_cases hi:i<68
  .simp[intD,ua i hi,hi,lf]
  .rw[List.getElem?_eq_none 75,List.getElem?_eq_none 75]
 have e3:Dw 68 v=intD (us.map (·.2)):=by
  rw[hus];simp[Dw,intD]
 rw[e2,e3];refine A3 (A1 rfl (A6 ?_));have U:UOk us:=⟨by omega,λp hp=>by
  rw[hus]at hp;obtain⟨k,hk,rfl⟩:=mem_map.mp hp;have:=D9 W (show k<ws.length by simpa using hk);exact⟨this.1,this.2.1⟩⟩
 refine(SS W.c0 W.c1 U).mono ?_;rintro d x rfl;refine CB (A3 (A1 rfl (A6 ⟨by simp,(Gg (k:=2945) 80 80 66 Bs).mono ?_⟩)));rintro d x ⟨p,q,rfl,rd,pe,_,_⟩;refine⟨_,rfl,p,q,rfl,rd,?_⟩;cases rest with
 |cons _ _=>cases er
 |nil=>
  rw[je]at e1;subst e1;rw[pe,ul,Sl (l':=lf ws) (w':=v) c (λk hk=>by simp[lf,ua k hk]) (λk hk=>by simp[wf,ua k hk]),ph.1,ph.2]
def Wf{i j k:Nat}{QS:Fl->Hd->Prop}(h:WA m ls hd λds x=>∃d1 d2 d3,ds=[d1,d2,d3]/\QS (.nx (((ls.set k (some d3)).set j (some d2)).set i (some d1))) x):WS (IB i j k m) ls hd QS:=by
 obtain⟨ds,x,e,d1,d2,d3,rfl,q⟩:=h;exact⟨_,_,by simp[IB,D3,e],q⟩
noncomputable abbrev cs(q:Nat×Nat):Int×Int:=((q.1:Int),(q.2:Int))
theorem O8:∀{P:List (Nat×Nat)},(P.map (·.2)).Nodup->∀q∈P,∀q'∈P,q.2=q'.2->q=q'
 |[],_,q,h,_,_,_=>by cases h
 |x::r,nd,q,h,q',h',e=>by
  rw[iw,nodup_cons]at nd;rcases mem_cons.mp h with e1|g
  .rcases mem_cons.mp h' with e2|g'
   .rw[e1,e2]
   .exact absurd (mem_map.mpr ⟨q',g',by rw[<- e,e1]⟩) nd.1
  .rcases mem_cons.mp h' with e2|g'
   .exact absurd (mem_map.mpr ⟨q,g,by rw[e,e2]⟩) nd.1
   .exact O8 nd.2 q g q' g' e
noncomputable def upF(P:List (Nat×Nat))(b:Nat):Option Nat:=(P.find? λq=>q.2==b).map (·.1)
def Ny{P:List (Nat×Nat)}(nd:(P.map (·.2)).Nodup)(a b:Nat):upF P b=some a↔(a,b)∈P:=by
 unfold upF;constructor
 .intro h;obtain⟨q,e,e2⟩:=iS h;have h1:=List.mem_of_find?_eq_some e;have h2:=List.find?_some e;simp at h2;obtain⟨x,y⟩:=q;simp at h2 e2;subst h2;subst e2;exact h1
 .intro h;cases e:P.find? λq=>q.2==b with
  |none=>have:=List.find?_eq_none.mp e _ h;simp at this
  |some q=>
   have h1:=List.mem_of_find?_eq_some e;have h2:=List.find?_some e;simp at h2;have:=O8 nd q h1 (a,b) h h2;rw[this];rfl
def Al(seq:71)(P:List (Nat×Nat)):Prop:=∀q∈P,∃i j:Nat,i<j/\seq[i]?=some q.1/\seq[j]?=some q.2
def GA{seq:71}(nd:seq.Nodup){j v:Nat}(e:seq[j]?=some v):seq.idxOf v=j:=by
 obtain⟨hj,rfl⟩:=72 e;exact nd.idxOf_getElem j hj
def WY{n:Nat}{seq:71}{P:List (Nat×Nat)}(n8:n<=8)(pm:seq.Perm (69 n))(nd:(P.map (·.2)).Nodup)(al:Al seq P):Fo n P (upF P) (λv=>seq.idxOf v):=by
 have sl:seq.length=n:=by simpa using pm.length_eq
 have snd:seq.Nodup:=pm.nodup_iff.mpr jR;have hin:∀{i v:Nat},seq[i]?=some v->v<n:=λe=>by simpa using pm.mem_iff.mp (j5 e)
 refine⟨n8,λq hq=>?_,nd,Ny nd,λv u e=>?_,λv hv=>?_⟩
 .obtain⟨i,j,_,e1,e2⟩:=al q hq;exact⟨hin e1,hin e2⟩
 .obtain⟨i,j,h,e1,e2⟩:=al _ ((Ny nd u v).mp e);rw[GA snd e1,GA snd e2];exact h
 .have:=List.idxOf_lt_length_iff.mpr (pm.mem_iff.mpr (by simpa using hv:v∈69 n));omega
def ZS(P:List (Nat×Nat)):∃P':List (Nat×Nat),P'.Perm P/\En (P.map cs)=P'.map cs:=by
 refine⟨(En (P.map cs)).map λp=>(p.1.toNat,p.2.toNat),?_,?_⟩
 .have:=(Em (P.map cs)).map λp:Int×Int=>(p.1.toNat,p.2.toNat)
  refine this.trans ?_;rw[iZ];have e:P.map ((λp:Int×Int=>(p.1.toNat,p.2.toNat)) ∘ cs)=P:=by
   conv=>rhs;rw[<- map_id P]
   exact jP λq _=>by simp[cs]
  rw[e]
 .rw[iZ]
  conv=>lhs;rw[<- map_id (En (P.map cs))]
  refine jP λp hp=>?_;obtain⟨q,_,rfl⟩:=mem_map.mp ((Em _).mem_iff.mp hp);simp[cs]
structure Wsh(n:Nat)(seq:71)(P:List (Nat×Nat)):Prop where
 pm:seq.Perm (69 n)
 al:Al seq P
 le:P.length<=16
 nd:(P.map (·.2)).Nodup
def Wsh.lt{n:Nat}(H:Wsh n seq P):∀q∈P,q.1<n/\q.2<n:=λq hq=>by
 obtain⟨i,j,_,e1,e2⟩:=H.al q hq;exact⟨by simpa using H.pm.mem_iff.mp (j5 e1),by simpa using H.pm.mem_iff.mp (j5 e2)⟩
def PH(P:List (Nat×Nat)):Rw.wI (P.map cs)=fI P:=by simp[Rw.wI,fI,prI,ER,cs]
inductive I_d1(n:Nat)(r:List D)(ls:Ls)(hd:Hd):Prop
 |mk (left seq:71) (k:Nat) (a b:MO) (z:Option D) (er:r=AI (k:Int) (n-k)) (hk:k<=n) (el:ls=[some (.mu 1),some (.im (.int (n:Int))),some (.mu 2),some (.mu 3),some (.mu 4),z,none,none,none]) (eh:hd=[a,b,.lst (AO left),.lst (AO seq),.lst []]) (hT:T 0 a b) (ll:left.length=n-k) (pm:(seq++left).Perm (69 n)):I_d1 n r ls hd
inductive I_d2(n:Nat)(seq:71)(w:Int)(z5:Option D)(r:List D)(ls:Ls)(hd:Hd):Prop
 |mk (P:List (Nat×Nat)) (k:Nat) (a b:MO) (z7 z8:Option D) (er:r=AI (k:Int) (n-k)) (hk:k<=n) (k1:1<=k) (el:ls=[some (.mu 1),some (.im (.int (n:Int))),some (.mu 2),some (.mu 3),some (.mu 4),z5,some (.im (.int w)),z7,z8]) (eh:hd=[a,b,.lst [],.lst (AO seq),.lst ((P.map cs).map Ae)]) (hT:T 0 a b) (sub:(P.map (·.2)).Sublist (seq.take k)) (al:Al seq P):I_d2 n seq w z5 r ls hd
def dD{n:Nat}(n1:1<=n)(n8:n<=8)(a b:MO)(hT:T 0 a b):WF Gs [.mu 1,.im (.int (n:Int))] [a,b] λd x=>∃i a' b' g,d=.im i/\(∃seq P,i=fI P/\Wsh n seq P)/\T 0 a' b'/\x=a'::b'::g:=by
 unfold Gs;refine Ac rfl ?_;refine AA (Wf (A3 (Ak (Nw rfl (Mb 66 66) (A3 (Ak (D7 (A6 ⟨Cc,A3 (Ak (D7 (A6 ⟨Cc,A6 ⟨_,_,_,rfl,?_⟩⟩)))⟩))))))));refine A5 ?_;rw[jj,Eo];refine AA (Bh (D0 (A3 (A1 rfl (A6 ⟨_,rfl,BI 66 66,?_⟩)))));rw[jj];refine BP (I_d1 n) (.mk (69 n) [] 0 a b none 70 66 rfl rfl hT 70 70) ?_ ?_
 .intro d r ls hd hI;obtain⟨left,seq,j,a,b,z,er,hj,rfl,rfl,hT,ll,pm⟩:=hI;obtain⟨m,hm⟩:∃m,n-j=m+1:=by
   cases q:n-j with
   |zero=>rw[q]at er;cases er
   |succ m=>exact⟨m,rfl⟩
  rw[hm,AI]at er;obtain⟨rfl,rfl⟩:=List.cons.inj er;have ej:((j:Int)+1)=((j+1:Nat):Int):=by omega
  have em:m=n-(j+1):=by omega
  have sl:seq.length+left.length=n:=by simpa using pm.length_eq
  refine⟨_,rfl,?_⟩;dsimp only[set_cons_zero,set_cons_succ]
  nofun
  refine tap.draw (many:=(left.length:Int)) (rest:=[.lst (AO left),.lst (AO seq),.lst []]) (n:=0) hT (by simp[Aj]) 66 66 λr a b hT pr qr=>?_
  nofun
  have hr:r.toNat<left.length:=by omega
  have e1:left[r.toNat]?=some left[r.toNat]:=by simp[hr]
  refine Tg rfl (BI 66 66) (Yw (n:=(AO left).length) pr 75) (by simp[e1];rfl) ?_
  nofun
  refine D6 rfl (BU 75) ?_;have er2:(AO left).eraseIdx r.toNat=AO (left.eraseIdx r.toNat):=LD _ _ _;have es:AO seq++[D.im (.int ((left[r.toNat]:Nat):Int))]=AO (seq++[left[r.toNat]]):=by simp[AO]
  refine⟨AE _,.mk (left.eraseIdx r.toNat) (seq++[left[r.toNat]]) (j+1) a b _ (by rw[ej,em]) 66 rfl ?_ hT (by rw[List.length_eraseIdx,ic hr];omega) ((SQ e1).trans pm)⟩;rw[<- er2,<- es];rfl
 .intro ls hd hI;obtain⟨left,seq,j,a,b,z,er,hj,rfl,rfl,hT,ll,pm⟩:=hI;have hj':j=n:=by
   cases q:n-j with
   |zero=>omega
   |succ m=>rw[q]at er;cases er
  have l0:left=[]:=List.length_eq_zero_iff.mp 66;subst l0;rw[je]at pm;have sl:seq.length=n:=by simpa using pm.length_eq
  have sin:∀{i:Nat} (hi:i<seq.length),seq[i]<n:=λhi=>by simpa using pm.mem_iff.mp (List.getElem_mem hi)
  nofun
  refine tap.draw (n:=0) (rest:=[.lst [],.lst (AO seq),.lst []]) hT rfl 80 80 λw a b hT pw qw=>?_;refine A5 (AA (Bh (Vp (A3 (AK (A3 (A1 rfl (A6 ⟨_,_,rfl,XI 66 66 66 66,?_⟩))))))));have e0:((n:Int)-1).toNat=n-1:=by omega
  rw[e0];refine BP (I_d2 n seq w z) (.mk [] 1 a b none none rfl n1 66 rfl rfl hT 70 (by intro q hq;cases hq)) ?_ ?_
  .intro d r ls hd hI;obtain⟨P,j,a,b,z7,z8,er,hj,j1,rfl,rfl,hT,sub,al⟩:=hI;obtain⟨m,hm⟩:∃m,n-j=m+1:=by
    cases q:n-j with
    |zero=>rw[q]at er;cases er
    |succ m=>exact⟨m,rfl⟩
   rw[hm,AI]at er;obtain⟨rfl,rfl⟩:=List.cons.inj er;have ej:((j:Int)+1)=((j+1:Nat):Int):=by omega
   have em:m=n-(j+1):=by omega
   have hjs:j<seq.length:=by omega
   have pl:P.length<=8:=by have:=sub.length_le;simp at this;omega
   have tk:seq.take (j+1)=seq.take j++[seq[j]]:=by rw[List.take_succ,List.getElem?_eq_getElem hjs];rfl
   refine⟨_,rfl,?_⟩;dsimp only[set_cons_zero,set_cons_succ]
   nofun
   refine tap.draw (n:=0) (rest:=[.lst [],.lst (AO seq),.lst ((P.map cs).map Ae)]) hT rfl 80 80 λr1 a b hT pr1 qr1=>?_
   nofun
   have fin:∀(a b:MO) (i:Nat) (hi:i<j),T 0 a b->WS (BF (mMt Au (A0 4) (A2 (Aw (A2 (A0 8) (A2 (mOp gIx (A0 3) (A0 7)) A4))) A4))) [some (.mu 1),some (.im (.int (n:Int))),some (.mu 2),some (.mu 3),some (.mu 4),z,some (.im (.int w)),some (.im (.int (j:Int))),some (.im (.int ((seq[i]' 66:Nat):Int)))] [a,b,.lst [],.lst (AO seq),.lst ((P.map cs).map Ae)] (JR [] (I_d2 n seq w z (AI ((j:Int)+1) m)) (Ej (AR (BM Bb (E4 (BR (A0 4))))) λf x=>match f with
    |.rt d=>∃i a' b' g,d=.im i/\(∃seq P,i=fI P/\Wsh n seq P)/\T 0 a' b'/\x=a'::b'::g
    |.nx _=>∃i a' b' g,D.im .non=.im i/\(∃seq P,i=fI P/\Wsh n seq P)/\T 0 a' b'/\x=a'::b'::g
    | _=>False)):=by
    intro a b i hi hT;refine Cr (JQ (A1 rfl ⟨⟨_,rfl⟩,A3 (BY (A3 (A1 rfl (A3 (A7 (A1 rfl (A1 rfl (AL rfl (Sc (List.getElem?_eq_getElem hjs)) (A6 ⟨FR,A6 ?_⟩)))))))))⟩));refine D6 rfl (BU 75) ⟨AE _,.mk (P++[(seq[i],seq[j])]) (j+1) a b _ _ (by rw[ej,em]) 66 66 rfl ?_ hT ?_ ?_⟩
    .simp[AT,B1,Ae]
    .rw[tk,jl];exact sub.append (List.Sublist.refl _)
    .intro q hq;rcases mem_append.mp hq with h|h
     .exact al q h
     .rw[jh]at h;subst h;exact⟨i,j,hi,by simp,by simp⟩
   refine⟨λhb=>?_,λhb=>Ad ⟨AE _,.mk P (j+1) a b _ _ (by rw[ej,em]) 66 66 rfl rfl hT (by rw[tk];exact sub.trans (List.sublist_append_left _ _)) al⟩⟩;refine AA (AM (Qx (AU (A7 (A1 rfl (AK (F8 ⟨_,rfl,?_,?_⟩)))))))
   .intro _;refine A7 (A1 rfl (A7 (A1 rfl (AK (Lu ?_)))));have h1:j-1<seq.length:=by omega
    refine AL rfl (CW (k:=j-1) (x:=.im (.int ((seq[j-1]:Nat):Int))) 66 (by simp[h1])) (A5 ?_);exact fin a b (j-1) 66 hT
   .intro _;refine A7 (A1 rfl ?_);refine tap.draw (n:=0) (many:=(j:Int)) (rest:=[.lst [],.lst (AO seq),.lst ((P.map cs).map Ae)]) hT rfl 66 66 λr2 a b hT pr2 qr2=>?_;have h2:r2.toNat<seq.length:=by omega
    refine AL rfl (CW (k:=r2.toNat) (x:=.im (.int ((seq[r2.toNat]:Nat):Int))) 66 (by simp[h2])) (A5 ?_);exact fin a b r2.toNat 66 hT
  .intro ls hd hI;obtain⟨P,j,a,b,z7,z8,er,hj,j1,rfl,rfl,hT,sub,al⟩:=hI;have pl:P.length<=8:=by have:=sub.length_le;simp at this;omega
   obtain⟨P',pp,eP⟩:=ZS P;have c64:(P.map cs).length<64/\∀q∈P.map cs,pok q:=by
    refine⟨by simp;omega,λq hq=>?_⟩;obtain⟨q,hq',rfl⟩:=mem_map.mp hq;obtain⟨i,k,_,e1,e2⟩:=al q hq';have h1:q.1<n:=by simpa using pm.mem_iff.mp (j5 e1)
    have h2:q.2<n:=by simpa using pm.mem_iff.mp (j5 e2)
    exact⟨by show -1000000000<=(q.1:Int);omega,by show(q.1:Int)<=1000000000;omega,by show -1000000000<=(q.2:Int);omega,by show(q.2:Int)<=1000000000;omega⟩
   have nd:(P.map (·.2)).Nodup:=(pm.nodup_iff.mpr jR).sublist (sub.trans (List.take_sublist _ _));refine A5 (AH (BZ ?_));refine WP.eq (z:=(En (P.map cs)).map Ae) (h:=[a,b,.lst [],.lst (AO seq),.lst ((P.map cs).map Ae)]) ?_ ?_
   .simp only[QZ,NF,Di,List.getElem?_cons_succ,List.getElem?_cons_zero,ik,Q1];rw[ic c64]
   .refine⟨_,rfl,fI P',a,b,_,?_,⟨seq,P',rfl,⟨pm,λq hq=>al q (pp.mem_iff.mp hq),by rw[pp.length_eq];omega,(pp.map (·.2)).nodup_iff.mpr nd⟩⟩,hT,rfl⟩;rw[eP,iZ];have:P'.map (Ae ∘ cs)=(P'.map prI).map D.im:=by rw[iZ];rfl
    rw[this,BL]
def NO{c:Int}(W:WOk c ws)(lt:∀k∈ks,k<68):WF EW [.im (AV c ws),.im (AS ks)] [] λd x=>d=.im (.int (cst 81 (wf ws) ks c 0)):=by
 have n1:=W.n1;unfold EW;refine Ac rfl ?_;refine AA (JO (A3 (A7 (A7 (A1 rfl (AK (AL rfl (DU (k:=0) 66) (AK (AL rfl (Dm _ _ _) (A3 (AK (A6 ⟨rfl,A5 ?_⟩))))))))))));refine AA (Bh (BJ (A1 rfl ⟨_,rfl,?_⟩)));rw[DR];refine BP (λr ls x=>∃(dn rest:71) (e f:Int) (z:Option D),ks=dn++rest/\r=AO rest/\cst 81 (wf ws) ks c 0=cst 81 (wf ws) rest e f/\ls=[some (.im (AV c ws)),some (.im (AS ks)),some (.im (.int e)),some (.im (.int f)),z]/\x=[]) ⟨[],ks,c,0,none,rfl,rfl,rfl,rfl,rfl⟩ ?_ ?_
 .rintro d r ls x ⟨dn,rest,e,f,z,e1,er,ec,rfl,rfl⟩;cases rest with
  |nil=>cases er
  |cons k rest=>
   obtain⟨rfl,rfl⟩:=List.cons.inj er;have hk:k<ws.length:=lt k (by rw[e1];simp);have b:=D9 W hk;have mw:∀i,Be (wf ws k) i:=λi=>B5 66 66;refine⟨[some (.im (AV c ws)),some (.im (AS ks)),some (.im (.int e)),some (.im (.int f)),some (.im (.int (k:Int)))],rfl,?_⟩;refine AA (AM (A7 (A1 rfl (A7 (A7 (A1 rfl (A1 rfl (AL rfl (DU hk) (AK (AL rfl (Cq _ _) (CB (A5 ?_))))))))))));refine AM (A7 (A1 rfl (A7 (A7 (A7 (A7 (A1 rfl (A1 rfl (AL rfl (DU hk) (AK (AL rfl (Kl _ _ _ _) (AK (AL (ds:=[.im (.str "ends"),.im (.int (wf ws k))]) rfl (Dm _ _ _) (A1 rfl (B9 (mw _) (CB ?_))))))))))))))));exact⟨AE _,dn++[k],rest,e+lf ws k,f+wf ws k*(e+lf ws k),_,by simp[e1],rfl,by rw[ec,cst],rfl,rfl⟩
 rintro ls x ⟨dn,rest,e,f,z,e1,er,ec,rfl,rfl⟩;cases rest with
 |cons=>cases er
 |nil=>
  refine A5 (AH (A1 rfl ?_));show D.im _=_;rw[ec,cst]
def R8{n:Nat}(hP:∀q∈P,q.1<n/\q.2<n){ks:71}(pm:ks.Perm (69 n))(h:∀q∈P,ks.idxOf q.1<ks.idxOf q.2):Vo n P ks:=⟨pm,h⟩
open PySem L2 Bd Bt Sm An
def P4{l l':List I}{QE:D->Hd->Prop}(h:l.length+l'.length<=1000000)(q:QE (.im (.tup (l++l'))) hd):WP (DH (.im (.tup l)) (.im (.tup l')) hd) QE:=by
 refine An.wp_catN (xs:=l.map D.im) (ys:=l'.map D.im) rfl rfl (by simpa using h) ?_;rw[<- jl,BL];exact q
def ZF{l':List I}{QE:D->Hd->Prop}(hn:l≠[])(h:l.length+l'.length<=1000000)(q:QE (.im (.tup (l++l'))) hd):WP (Aa (.im (.tup l)) (.im (.tup l')) hd) QE:=by
 refine An.wp_catA (xs:=l.map D.im) (ys:=l'.map D.im) rfl rfl (by simpa using hn) (by simpa using h) ?_;rw[<- jl,BL];exact q
theorem My:∀{l L:71},l.Nodup->(∀x∈l,x∈L)->l.length<=L.length
 |[],_,_,_=>by simp
 |x::r,L,nd,h=>by
  have hx:=h x 70;obtain⟨n1,n2⟩:=nodup_cons.mp nd;have ih:=My (L:=L.erase x) n2 λy hy=>(List.mem_erase_of_ne λe=>by subst e;exact n1 hy).mpr (h y (by simp[hy]));have e:=List.length_erase_of_mem hx;have:0<L.length:=List.length_pos_of_mem hx;simp only[j6];omega
def Sw{R:71}{n:Nat}(nd:R.Nodup)(lt:∀x∈R,x<n)(ln:R.length=n):R.Perm (69 n):=by
 refine Of nd λv=>⟨lt v,λhv=>Classical.byContradiction λhn=>?_⟩
 have:=My (l:=v::R) (L:=69 n) (nodup_cons.mpr ⟨hn,nd⟩) λx hx=>by
  rcases mem_cons.mp hx with rfl|h
  .simpa using hv
  .simpa using lt x h
 simp at this;omega
theorem LC{R:71}:∀l:List Nat,(∃x∈l,x∉R)->∃(i x:Nat),l[i]?=some x/\x∉R/\∀(i' y:Nat),i'<i->l[i']?=some y->y∈R
 |[],h=>by obtain⟨x,h,_⟩:=h;cases h
 |v::r,h=>by
  by_cases hv:v∈R
  .obtain⟨x,hx,hn⟩:=h;obtain⟨i,x,e,h1,h2⟩:=LC r ⟨x,by
    rcases mem_cons.mp hx with rfl|h
    .exact absurd hv hn
    .exact h,hn⟩
   refine⟨i+1,x,by simpa using e,h1,λi' y hi e'=>?_⟩;cases i' with
   |zero=>simp at e';subst e';exact hv
   |succ i'=>exact h2 i' y 66 (by simpa using e')
  .exact⟨0,v,rfl,hv,λi' y hi=>by omega⟩
def MF(R:71):As hd (.im (AS R))=some (intD (R.map λk:Nat=>(k:Int))):=by
 show some ((R.map λk:Nat=>I.int (k:Int)).map D.im)=_;rw[DR];simp[AO,intD]
def Iz(R:71):AO R=intD (R.map λk:Nat=>(k:Int)):=by simp[AO,intD]
def E3(R:71)(k:Nat):((k:Int)∈R.map λk:Nat=>(k:Int))↔k∈R:=by
 rw[mem_map];constructor
 .rintro⟨a,h,e⟩;obtain rfl:a=k:=by omega
  exact h
 .exact λh=>⟨k,h,rfl⟩
noncomputable def hld(P:List (Nat×Nat))(R:71):List Nat:=P.filterMap λq=>if q.1∈R then none else some q.2
def sme(n:Nat)(P:List (Nat×Nat))(R:71):List Nat:=(69 n).filter λk=>decide (k∉R)&&decide (k∉hld P R)
structure Kp(n:Nat)(P:List (Nat×Nat))(R:71):Prop where
 nd:R.Nodup
 lt:∀x∈R,x<n
 ok:∀q∈P,q.2∈R->q.1∈R/\R.idxOf q.1<R.idxOf q.2
def ZT{n:Nat}{seq:71}{P:List (Nat×Nat)}(H:Wsh n seq P){R:71}(K:Kp n P R)(lR:R.length<n):sme n P R≠[]:=by
 have ex:∃x∈seq,x∉R:=by
  refine Classical.byContradiction λhn=>?_;have nd:seq.Nodup:=H.pm.nodup_iff.mpr jR;have:=My nd λx hx=>Classical.byContradiction λh=>hn ⟨x,hx,h⟩;have l2:=H.pm.length_eq;simp at l2;omega
 obtain⟨i,x,e,h1,h2⟩:=LC seq ex;have nd:seq.Nodup:=H.pm.nodup_iff.mpr jR;have xn:x<n:=by simpa using H.pm.mem_iff.mp (j5 e)
 have nh:x∉hld P R:=λh=>by
  obtain⟨q,hq,e2⟩:=mem_filterMap.mp h;by_cases hR:q.1∈R
  .rw[ic hR]at e2;cases e2
  .rw[ig hR]at e2
   injection e2 with e2
   subst e2;obtain⟨i1,j1,hlt,f1,f2⟩:=H.al q hq;have:j1=i:=by have:=GA nd f2;have:=GA nd e;omega
   subst this;exact hR (h2 i1 q.1 hlt f1)
 intro hs;have:x∈sme n P R:=by simp[sme,xn,h1,nh]
 rw[hs]at this;cases this
def Kp.add{n:Nat}(K:Kp n P R){x:Nat}(hx:x∈sme n P R):Kp n P (R++[x]):=by
 simp only[sme,mem_filter,List.mem_range,Bool.and_eq_true,jX]at hx;obtain⟨xn,h1,h2⟩:=hx;refine⟨?_,?_,λq hq hm=>?_⟩
 .rw[nodup_append];exact⟨K.nd,by simp,λa ha b hb=>by rw[jh]at hb;subst hb;intro e;subst e;exact h1 ha⟩
 .intro y hy;rcases mem_append.mp hy with h|h
  .exact K.lt y h
  .rw[jh]at h;subst h;exact xn
 .rcases mem_append.mp hm with h|h
  .obtain⟨k1,k2⟩:=K.ok q hq h;exact⟨by simp[k1],by rw[kg,kg,ic k1,ic h];exact k2⟩
  .rw[jh]at h;have k1:q.1∈R:=Classical.byContradiction λhn=>h2 (mem_filterMap.mpr ⟨q,hq,by rw[ig hn,h]⟩);refine⟨by simp[k1],?_⟩;rw[kg,kg,ic k1,ig (by rw[h];exact h1)];have:=List.idxOf_lt_length_of_mem k1;omega
def Kp.vd{n:Nat}(H:Wsh n seq P)(K:Kp n P R)(lR:R.length=n):Vo n P R:=by
 have pm:=Sw K.nd K.lt lR;have hP:=H.lt;exact R8 hP pm λq hq=>(K.ok q hq (pm.mem_iff.mpr (by simpa using (hP q hq).2))).2
inductive I_r(n:Nat)(P:List (Nat×Nat))(r:List D)(ls:Ls)(hd:Hd):Prop
 |mk (R:71) (k:Nat) (a b:MO) (g:Hd) (z4 z5 z6:Option D) (er:r=AI (k:Int) (n-k)) (hk:k<=n) (el:ls=[some (.mu 1),some (.im (.int (n:Int))),some (.im (Rw.wI (P.map cs))),some (.im (AS R)),z4,z5,z6]) (eh:hd=a::b::g) (hT:T 0 a b) (lR:R.length=k) (K:Kp n P R):I_r n P r ls hd
set_option maxHeartbeats 1000000 in
def ZA{n:Nat}(n8:n<=8)(H:Wsh n seq P)(a b:MO)(hT:T 0 a b):WF IQ [.mu 1,.im (.int (n:Int)),.im (Rw.wI (P.map cs))] [a,b] λd x=>∃i a' b' g,d=.im i/\(∃R,i=AS R/\Vo n P R)/\T 0 a' b'/\x=a'::b'::g:=by
 have Pl:=H.le;unfold IQ;refine Ac rfl ?_;refine AA (AM (BY (A6 ⟨Cc,A5 ?_⟩)));rw[Sf];change WS _ [some (.mu 1),some (.im (.int (n:Int))),some (.im (Rw.wI (P.map cs))),some (.im (AS [])),none,none,none] _ _;refine AA (Bh (D0 (A3 (A1 rfl (A6 ⟨_,rfl,BI 66 66,?_⟩)))));rw[jj];refine BP (I_r n P) (.mk [] 0 a b [] none none none rfl 66 rfl rfl hT rfl ⟨by simp,by simp,by simp⟩) ?_ ?_
 .intro d r ls hd hI;obtain⟨R,k,a,b,g,z4,z5,z6,er,hk,rfl,rfl,hT,lR,K⟩:=hI;obtain⟨m,hm⟩:∃m,n-k=m+1:=by
   cases q:n-k with
   |zero=>rw[q]at er;cases er
   |succ m=>exact⟨m,rfl⟩
  rw[hm,AI]at er;obtain⟨rfl,rfl⟩:=List.cons.inj er;refine⟨[some (.mu 1),some (.im (.int (n:Int))),some (.im (Rw.wI (P.map cs))),some (.im (AS R)),some (.im (.int (k:Int))),z5,z6],rfl,?_⟩;refine AA (AM (Ak (AY (BJ (A1 rfl ⟨((P.map cs).map ER).map D.im,rfl,?_⟩)))));rw[Rw.pairs_im,iZ];refine⟨AQ 75,?_⟩;refine Aq (xs:=P) (Ae ∘ cs) (λq=>if q.1∈R then none else some (.im (.int (q.2:Int)))) (λ_ ls=>∃x y,ls=[some x,some y,some (.im (AS R))]) _ (AE _) ?_ ?_
  .rintro q hq ls hls;refine⟨[some (.im (.int (q.1:Int))),some (.im (.int (q.2:Int))),some (.im (AS R))],by rcases hls with rfl|⟨_,x,y,rfl⟩<;>rfl,⟨_,_,rfl⟩,?_⟩;refine AU (A7 (A1 rfl (A1 rfl (HB (MF R) ⟨_,rfl,rfl,?_⟩))));rw[ic rfl];by_cases h:q.1∈R
   .rw[ig (by simp[E3,h]),ic h]
   .rw[ic (by simp[E3,h]),ig h];exact⟨_,rfl,A1 rfl ⟨rfl,rfl⟩⟩
  have e1:(P.filterMap λq=>if q.1∈R then none else some (D.im (.int (q.2:Int))))=AO (hld P R):=by
   unfold hld AO;rw[List.map_filterMap]
   congr 1
   funext q
   by_cases h:q.1∈R<;>simp[h]
  rw[e1];refine A5 ?_;change WS _ [some (.mu 1),some (.im (.int (n:Int))),some (.im (Rw.wI (P.map cs))),some (.im (AS R)),some (.im (.int (k:Int))),some (.mu (a::b::g).length),z6] (a::b::(g++[.lst (AO (hld P R))])) _;refine AA (AM (Ak (AY (D0 (A3 (A1 rfl (A6 ⟨_,rfl,BI 66 66,?_⟩)))))));rw[jj,Eo];refine⟨AQ 75,?_⟩;have sv:∀(a' b':MO) (g':Hd),As (a'::b'::(g++.lst (AO (hld P R))::g')) (.mu (a::b::g).length)=some (intD ((hld P R).map λk:Nat=>(k:Int))):=λa' b' g'=>by
   rw[<- Iz];simp[As,AN,Ap]
  refine Aq (xs:=69 n) (λk:Nat=>D.im (.int (k:Int))) (λk=>if k∉R/\k∉hld P R then some (.im (.int (k:Int)))else none) (λ_ ls=>∃x,ls=[some x,some (.im (AS R)),some (.mu (a::b::g).length)]) _ (AE _) ?_ ?_
  .rintro q hq ls hls;refine⟨[some (.im (.int (q:Int))),some (.im (AS R)),some (.mu (a::b::g).length)],by rcases hls with rfl|⟨_,x,rfl⟩<;>rfl,⟨_,rfl⟩,?_⟩;refine JN (AU (A7 (A1 rfl (A1 rfl (HB (MF R) ⟨_,rfl,?_⟩)))));rw[ic rfl];by_cases h:q∈R
   .rw[ig (by simp[E3,h])];exact⟨rfl,by rw[ig 70,ig (by simp[h])]⟩
   .rw[ic (by simp[E3,h])];refine AU (A7 (A1 rfl (A1 rfl (HB (sv a b []) ⟨_,rfl,rfl,?_⟩))));rw[ic rfl];by_cases h2:q∈hld P R
    .rw[ig (by simp[E3,h2]),ig (by simp[h2])]
    .rw[ic (by simp[E3,h2]),ic ⟨h,h2⟩];exact⟨_,rfl,A1 rfl ⟨rfl,rfl⟩⟩
  have e2:((69 n).filterMap λk=>if k∉R/\k∉hld P R then some (D.im (.int (k:Int)))else none)=AO (sme n P R):=by
   unfold sme AO;rw[<- List.filterMap_eq_filter,List.map_filterMap]
   congr 1
   funext k
   by_cases h:k∈R<;>by_cases h2:k∈hld P R<;>simp[h,h2,Option.guard]
  rw[e2];refine A5 ?_;have ne:=ZT H K 66;have sl:(sme n P R).length<=8:=by
   have:(sme n P R).length<=(69 n).length:=List.length_filter_le _ _;simp at this;omega
  have s0:0<(sme n P R).length:=List.length_pos_iff.mpr ne;have all:∀x∈sme n P R,Kp n P (R++[x]):=λx hx=>K.add hx;generalize sme n P R=S at sl s0 all;obtain⟨g2,eg2⟩:∃g2,g2=g++[.lst (AO (hld P R))]:=⟨_,rfl⟩
  rw[<- eg2];change WS _ [some (.mu 1),some (.im (.int (n:Int))),some (.im (Rw.wI (P.map cs))),some (.im (AS R)),some (.im (.int (k:Int))),some (.mu (a::b::g).length),some (.mu (a::b::g2).length)] (a::b::(g2++[.lst (AO S)])) _;have sS:∀(a' b':MO),As (a'::b'::(g2++[.lst (AO S)])) (.mu (a::b::g2).length)=some (AO S):=λa' b'=>by simp[As,AN,Ap]
  refine AM (A7 (A1 rfl (BY (A3 (A7 (A1 rfl ?_))))));refine tap.draw (n:=0) (many:=(S.length:Int)) (rest:=g2++[.lst (AO S)]) hT (by simp[Aj]) 66 66 λr1 a' b' hT p1 q1=>?_;obtain⟨j,rfl⟩:∃j:Nat,r1=(j:Int):=⟨r1.toNat,by omega⟩
  have hj:j<S.length:=by omega
  refine AL (sS a' b') (Sc (List.getElem?_eq_getElem hj)) (A6 ⟨EU,?_⟩);have kp:=all S[j] (List.getElem_mem hj);generalize S[j]=x at kp;refine P4 (l:=R.map λk:Nat=>I.int (k:Int)) (l':=[I.int (x:Int)]) 75 ?_;rw[show(R.map λk:Nat=>I.int (k:Int))++[I.int (x:Int)]=(R++[x]).map λk:Nat=>I.int (k:Int) by simp];exact⟨AE _,.mk (R++[x]) (k+1) a' b' _ _ _ _ (by rw[show((k:Int)+1)=((k+1:Nat):Int) by omega,show m=n-(k+1) by omega]) 66 rfl rfl hT (by simp[lR]) kp⟩
 intro ls hd hI;obtain⟨R,k,a,b,g,z4,z5,z6,er,hk,rfl,rfl,hT,lR,K⟩:=hI;have hk':k=n:=by
  cases q:n-k with
  |zero=>omega
  |succ m=>rw[q]at er;cases er
 exact A5 (AH (A1 rfl ⟨_,a,b,g,rfl,⟨R,rfl,K.vd H 66⟩,hT,rfl⟩))
def Gb(o:71)(a:Nat):(o.map λk:Nat=>(k:Int)).idxOf (a:Int)=o.idxOf a:=by
 induction o with
 |nil=>rfl
 |cons x r ih=>
  rw[iw,List.idxOf_cons,List.idxOf_cons,ih];by_cases h:x=a
  .subst h;simp
  .have h1:((x:Int)==(a:Int))=false:=by simp;omega
   have h2:(x==a)=false:=by simpa using h
   rw[h1,h2]
def N9(bs:List Bool):∃vs,Bi (blD bs)=some vs/\inV (.bl false) vs=bs.any (!·):=by
 induction bs with
 |nil=>exact⟨[],rfl,rfl⟩
 |cons b r ih=>
  obtain⟨vs,e,h⟩:=ih;refine⟨.bl b::vs,?_,?_⟩
  .show((EG (.bl b)).bind λv=>(Bi (blD r)).map (v::·))=_;rw[e];rfl
  .unfold inV at h ⊢;rw[any_cons,h,any_cons]
   congr 1
   cases b<;>rfl
noncomputable def wsd(P:List (Nat×Nat))(R:71):Bool:=P.all λq=>decide (R.idxOf q.1<R.idxOf q.2)
def Lp{n:Nat}(H:Wsh n seq P){R:71}(pm:R.Perm (69 n)):wsd P R=true↔Vo n P R:=by
 unfold wsd;rw[all_eq_true];constructor
 .intro hb;exact R8 H.lt pm λq hq=>by simpa using hb q hq
 .intro v x hx;exact jI (v.kp x hx)
def Tj{n:Nat}(H:Wsh n seq P){R:71}(pm:R.Perm (69 n)):WF Gm [.im (AS R),.im (Rw.wI (P.map cs))] [] λd x=>d=.im (.bl (wsd P R))/\x=[]:=by
 have Pl:=H.le;have hP:=H.lt;have mem:∀k,k<n->k∈R:=λk hk=>pm.mem_iff.mpr (by simpa using hk);unfold Gm;refine Ac rfl ?_;refine AH (Qw (AK (AY (BJ (A1 rfl ⟨((P.map cs).map ER).map D.im,rfl,?_⟩)))));rw[Rw.pairs_im,iZ];refine⟨AQ 75,?_⟩;refine Aq (xs:=P) (Ae ∘ cs) (λq=>some (.im (.bl (decide (R.idxOf q.1<R.idxOf q.2))))) (λ_ ls=>∃x y,ls=[some x,some y,some (.im (AS R))]) _ (AE _) ?_ ?_
 .rintro q hq ls hls;have vi:B4 ((R.map λk:Nat=>I.int (k:Int)).map D.im)=some (R.map λk:Nat=>(k:Int)):=by
   rw[DR,Iz];exact ES _
  have ia:(q.1:Int)∈R.map λk:Nat=>(k:Int):=mem_map.mpr ⟨q.1,mem _ (hP q hq).1,rfl⟩;have ib:(q.2:Int)∈R.map λk:Nat=>(k:Int):=mem_map.mpr ⟨q.2,mem _ (hP q hq).2,rfl⟩;refine⟨[some (.im (.int (q.1:Int))),some (.im (.int (q.2:Int))),some (.im (AS R))],by rcases hls with rfl|⟨_,x,y,rfl⟩<;>rfl,⟨_,_,rfl⟩,AZ ⟨rfl,?_⟩⟩;rw[ic rfl];refine⟨_,rfl,A7 (JP (A1 rfl ⟨⟨_,rfl⟩,A3 (A1 rfl (A6 (FW rfl vi ia (JP (A1 rfl ⟨⟨_,rfl⟩,A3 (A1 rfl (A6 (FW rfl vi ib (DF ⟨rfl,?_⟩))))⟩)))))⟩))⟩;rw[Gb,Gb];simp
 have e:(P.filterMap λq=>some (D.im (.bl (decide (R.idxOf q.1<R.idxOf q.2)))))=blD (P.map λq=>decide (R.idxOf q.1<R.idxOf q.2)):=by simp[blD]
 rw[e];obtain⟨vs,ev,h⟩:=N9 (P.map λq=>decide (R.idxOf q.1<R.idxOf q.2));refine⟨_,_,vs,rfl,rfl,ev,?_,rfl⟩;rw[ic rfl,h,List.not_any_eq_all_not,all_map];unfold wsd
 congr 3
 funext q
 simp
open PySem L2 Bd Bt Sm An
noncomputable abbrev rwD(r:71):D:=.im (AS r)
def Rr(r:71):AT ((r.map λk:Nat=>I.int (k:Int)).map D.im)=rwD r:=BL _
def Vh{x y:71}(hl:x.length+y.length<=1000){QE:D->Hd->Prop}(q:QE (rwD (x++y)) hd):WP (DH (rwD x) (rwD y) hd) QE:=by
 refine P4 (l:=x.map λk:Nat=>I.int (k:Int)) (l':=y.map λk:Nat=>I.int (k:Int)) 75 ?_;rw[<- jl];exact q
def ZD{y:71}(hx:x≠[])(hl:x.length+y.length<=1000){QE:D->Hd->Prop}(q:QE (rwD (x++y)) hd):WP (Aa (rwD x) (rwD y) hd) QE:=by
 refine ZF (l:=x.map λk:Nat=>I.int (k:Int)) (l':=y.map λk:Nat=>I.int (k:Int)) (by simpa using hx) 75 ?_;rw[<- jl];exact q
noncomputable def ins(j:Nat)(row:71):List (List Nat):=(69 (row.length+1)).map λi=>row.take i++j::row.drop i
noncomputable def Bc:Nat->List (List Nat)
 |0=>[[]]
 |j+1=>(Bc j).flatMap (ins j)
theorem Ep:∀n,∀r∈Bc n,r.Perm (69 n)
 |0,r,h=>by simp[Bc]at h;subst h;simp
 |n+1,r,h=>by
  simp only[Bc,mem_flatMap,ins,mem_map]at h;obtain⟨row,hr,i,hi,rfl⟩:=h;have h1:(row.take i++n::row.drop i).Perm (n::row):=by
   have:=List.perm_middle (a:=n) (l₁:=row.take i) (l₂:=row.drop i)
   rwa [jf]at this
  refine h1.trans ?_;rw[jH];exact((List.Perm.cons n (Ep n row hr)).trans (List.perm_append_singleton n _).symm)
theorem HW:∀n,∀r:List Nat,r.Perm (69 n)->r∈Bc n
 |0,r,h=>by
  have:r=[]:=by simpa using h
  subst this;simp[Bc]
 |n+1,r,h=>by
  have hn:n∈r:=h.mem_iff.mpr 70;obtain⟨s,t,rfl⟩:=kf hn;have h2:(s++t).Perm (69 n):=by
   have a1:(n::(s++t)).Perm (n::69 n):=(List.perm_middle (a:=n) (l₁:=s) (l₂:=t)).symm.trans (h.trans (by rw[jH];exact List.perm_append_singleton n _));exact a1.cons_inv
  simp only[Bc,mem_flatMap,ins,mem_map];exact⟨s++t,HW n _ h2,s.length,by simp;omega,by simp⟩
def Kt:∀n,n<=5->(Bc n).length<=120:=by
 intro n hn;rcases(show n=0∨n=1∨n=2∨n=3∨n=4∨n=5 by omega)with rfl|rfl|rfl|rfl|rfl|rfl<;>decide
def dL{F:List D->Hd->Option (D×Hd)}{rest:Hd}{QE:D->Hd->Prop}(e:m ls hd=some (.mu 1::as,a::b::rest))(hT:T 0 a b)(hc:Ay 2 as=true)
 (hF:WF F (.mu 1::as) [a,b] λd x=>∃k es a' b' g,d=.mu k/\2<=k/\x=a'::b'::g/\x[k]?=some (.lst es)/\Ay 2 es=true/\T 0 a' b'/\QE (.mu (2+rest.length)) (a'::b'::(rest++[.lst es]))):WE (A8 2 F m) ls hd QE:=by
 obtain⟨d,x,e2,k,es,a',b',g,rfl,hk,rfl,e3,c3,hT',q⟩:=hF;refine⟨_,_,?_,q⟩;have t3:¬ k<2:=by omega
 have ca:=tap.cl hT;have ca':=tap.cl hT';have c0:Ay 2 (D.mu 1::as)=true:=by simp[Ay,clD,hc]
 simp only[A8,e,ik,List.take_succ_cons,List.take_zero,c0,all_cons,List.all_nil,ca.1,ca.2,Bool.and_self,iU,e2,fin,ca'.1,ca'.2,ig t3,e3,c3];simp[Nat.add_comm]
 try omega
def fB{r:71}{i j:Nat}(hi:i<=r.length)(hl:r.length<=100){QE:D->Hd->Prop}(eR:ls[6]?=some (some (rwD r)))(e6:ls[7]?=some (some (.im (.int (i:Int)))))(e3:ls[4]?=some (some (.im (.int (j:Int)))))(q:QE (rwD (r.take i++j::r.drop i)) hd):
 WE (mOp Aa (mOp DH (D1 (A0 6) B6 (Bf (A0 7))) (Aw (A2 (A0 4) A4))) (D1 (A0 6) (Bf (A0 7)) B6)) ls hd QE:=by
 have c1:C7 ((r.map λk:Nat=>I.int (k:Int)).map D.im) none (some (i:Int))=((r.take i).map λk:Nat=>I.int (k:Int)).map D.im:=by
  rw[Vb,map_take,map_take]
 have c2:C7 ((r.map λk:Nat=>I.int (k:Int)).map D.im) (some (i:Int)) none=((r.drop i).map λk:Nat=>I.int (k:Int)).map D.im:=by
  unfold C7;rw[HT.sIx_nat,HT.sIx_none,map_drop,map_drop,iX,iX,k8 hi];exact jM 70
 refine A7 (A7 (HC (A1 eR (GH (Dr (A1 e6 ⟨_,rfl,?_⟩))))));refine⟨_,rfl,?_⟩;rw[c1,Rr];refine BY (A3 (A1 e3 (A6 ⟨EU,?_⟩)));rw[show AT [D.im (.int (j:Int))]=rwD [j]from rfl];refine Vh 75 ?_;refine HC (A1 eR (Dr (A1 e6 ⟨_,rfl,GH ⟨_,rfl,?_⟩⟩)));rw[c2,Rr];refine ZD 70 75 ?_;simpa using q
def geq(h:Hd)(x:MO):(h++[x])[h.length]?=some x:=by simp
def fV(h:Hd)(x y:MO):(h++[x]).set h.length y=h++[y]:=by simp
def glt{p:Nat}(e:h[p]?=some x):(h++[y])[p]?=some x:=by
 rw[List.getElem?_append_left (List.getElem?_eq_some_iff.mp e).1];exact e
def tv(x:71):AN (rwD x)=some ((x.map λk:Nat=>I.int (k:Int)).map D.im):=rfl
def ZO{n:Nat}(H:Wsh n seq P):Vo n P seq:=⟨H.pm,λq hq=>by
 obtain⟨i,j,hij,e1,e2⟩:=H.al q hq;have nd:seq.Nodup:=H.pm.nodup_iff.mpr jR;rw[GA nd e1,GA nd e2];exact hij⟩
structure OrdP(n:Nat)(P:List (Nat×Nat))(S:List (List Nat)):Prop where
 ne:S≠[]
 le:S.length<=1000
 ok:∀r∈S,Vo n P r
 al:n<6->∀r,Vo n P r->r∈S
inductive I_c(n:Nat)(P:List (Nat×Nat))(r es:List D)(ls:Ls)(hd:Hd):Prop
 |mk (S:List (List Nat)) (k:Nat) (a b:MO) (z:Option D) (er:r=AI (k:Int) (24-k)) (hk:k<=24) (ee:es=S.map rwD) (lS:S.length=k) (ok:∀R∈S,Vo n P R) (el:ls=[z,some (.mu 1),some (.im (.int (n:Int))),some (.im (Rw.wI (P.map cs)))]) (eh:hd=[a,b]) (hT:T 0 a b):I_c n P r es ls hd
set_option maxHeartbeats 1000000 in
def V9{n:Nat}(n8:n<=8)(H:Wsh n seq P)(a b:MO)(hT:T 0 a b):WF Go [.mu 1,.im (.int (n:Int)),.im (Rw.wI (P.map cs))] [a,b] λd x=>∃k S a' b' g,d=.mu k/\2<=k/\x=a'::b'::g/\x[k]?=some (.lst (S.map rwD))/\T 0 a' b'/\OrdP n P S:=by
 unfold Go;refine Ac rfl ?_;refine AA (B7 (AU (A7 (A1 rfl (AK (Lc ⟨_,rfl,λh5=>?_,λh5=>Ad (A5 ?_)⟩))))))
 .refine AH (Ak (AY (D0 (A3 (AK (A6 ⟨_,rfl,BI 80 80,AQ 80,?_⟩))))));refine PD (I_c n P) (.mk [] 0 a b none rfl 66 rfl rfl 70 rfl rfl hT) ?_ ?_
  .intro d r es ls hd hI;obtain⟨S,k,a,b,z,er,hk,rfl,lS,ok,rfl,rfl,hT⟩:=hI;obtain⟨m,hm⟩:∃m,24-k=m+1:=by
    cases q:24-k with
    |zero=>rw[q]at er;cases er
    |succ m=>exact⟨m,rfl⟩
   rw[hm,AI]at er;obtain⟨rfl,rfl⟩:=List.cons.inj er;refine⟨[some (.im (.int (k:Int))),some (.mu 1),some (.im (.int (n:Int))),some (.im (Rw.wI (P.map cs)))],rfl,AZ ?_⟩;rw[ic rfl];refine tap.call (n:=0) (c:=0) (R:=λi=>∃R,i=AS R/\Vo n P R) (as:=[.im (.int (n:Int)),.im (Rw.wI (P.map cs))]) (rest:=[]) hT rfl 70 (λa b hT=>ZA n8 H a b hT) ?_;rintro i a b hT ⟨R,rfl,v⟩;refine⟨AE _,.mk (S++[R]) (k+1) a b _ (by rw[show((k:Int)+1)=((k+1:Nat):Int) by omega,show m=24-(k+1) by omega]) 66 70 (by simp[lS]) (λx hx=>?_) rfl rfl hT⟩;rcases mem_append.mp hx with h|h
   .exact ok x h
   .rw[jh]at h;subst h;exact v
  intro es ls hd hI;obtain⟨S,k,a,b,z,er,hk,rfl,lS,ok,rfl,rfl,hT⟩:=hI;have hk':k=24:=by
   cases q:24-k with
   |zero=>omega
   |succ m=>rw[q]at er;cases er
  exact⟨2,S,a,b,[.lst (S.map rwD)],rfl,by omega,rfl,rfl,hT,⟨by intro h;subst h;simp at lS;omega,by omega,ok,λh6=>by have:=kr h5;omega⟩⟩
 have h6:n<6:=by have:=of_decide_eq_false h5;omega
 refine AA (AM (Ak (D7 (A3 (BY (A6 ⟨Cc,A6 ⟨EU,A5 ?_⟩⟩))))));change WS _ [some (.mu 1),some (.im (.int (n:Int))),some (.im (Rw.wI (P.map cs))),some (.mu 2),none,none,none,none] [a,b,.lst [rwD []]] _;refine AA (Bh (D0 (A3 (A1 rfl (A6 ⟨_,rfl,BI 66 66,?_⟩)))));rw[jj];refine BP (λr ls hd=>∃(j p:Nat) (a b:MO) (g:Hd) (z4 z5 z6 z7:Option D),r=AI (j:Int) (n-j)/\j<=n/\2<=p/\hd[p]?=some (.lst ((Bc j).map rwD))/\ls=[some (.mu 1),some (.im (.int (n:Int))),some (.im (Rw.wI (P.map cs))),some (.mu p),z4,z5,z6,z7]/\hd=a::b::g/\T 0 a b) ⟨0,2,a,b,_,none,none,none,none,rfl,by omega,by omega,rfl,rfl,rfl,hT⟩ ?_ ?_
 .rintro d r ls hd ⟨j,p,a,b,g,z4,z5,z6,z7,er,hj,hp,ep,rfl,rfl,hT⟩;obtain⟨m,hm⟩:∃m,n-j=m+1:=by
   cases q:n-j with
   |zero=>rw[q]at er;cases er
   |succ m=>exact⟨m,rfl⟩
  rw[hm,AI]at er;obtain⟨rfl,rfl⟩:=List.cons.inj er;refine⟨_,rfl,?_⟩;dsimp only[set_cons_zero,set_cons_succ];generalize hh:(a::b::g)=h0 at ep ⊢;refine AA (AM (Ak (D7 (A6 ⟨Cc,A5 ?_⟩))));change WS _ [some (.mu 1),some (.im (.int (n:Int))),some (.im (Rw.wI (P.map cs))),some (.mu p),some (.im (.int (j:Int))),some (.mu h0.length),z6,z7] (h0++[.lst []]) _;have tot:(Bc (j+1)).length<=120:=Kt (j+1) 66;refine AA (Bh (Cj (A1 rfl ⟨p,_,rfl,glt ep,?_⟩)));refine BP (λr ls hd=>∃(dn rest:List (List Nat)) (z6 z7:Option D),Bc j=dn++rest/\r=rest.map rwD/\ls=[some (.mu 1),some (.im (.int (n:Int))),some (.im (Rw.wI (P.map cs))),some (.mu p),some (.im (.int (j:Int))),some (.mu h0.length),z6,z7]/\hd=h0++[.lst ((dn.flatMap (ins j)).map rwD)]) ⟨[],Bc j,_,_,rfl,rfl,rfl,rfl⟩ ?_ ?_
  .rintro d r ls hd ⟨dn,rest,z6,z7,eS,er',rfl,rfl⟩;cases rest with
   |nil=>cases er'
   |cons u rest=>
    obtain⟨rfl,rfl⟩:=List.cons.inj er';have hu:=Ep j u (by rw[eS];simp);have ul:u.length=j:=by simpa using hu.length_eq
    have lt:(dn.flatMap (ins j)).length+(ins j u).length<=120:=by
     have e:Bc (j+1)=dn.flatMap (ins j)++(ins j u++rest.flatMap (ins j)):=by rw[Bc,eS,List.flatMap_append,k0]
     rw[e]at tot;simp only[iV]at tot;omega
    refine⟨_,rfl,?_⟩;dsimp only[set_cons_zero,set_cons_succ];refine Bh (D0 (A3 (A7 (BO (A3 (A1 rfl (A6 ?_)))))));refine CI (z:=.im (.int (u.length:Int))) (tv u) (by simp[Aj]) ?_;refine AK (CB (A6 ⟨_,rfl,BI 66 66,?_⟩));rw[show((u.length:Int)+1).toNat=u.length+1 by omega];refine BP (λr ls hd=>∃(i:Nat) (z7:Option D),r=AI (i:Int) (u.length+1-i)/\i<=u.length+1/\ls=[some (.mu 1),some (.im (.int (n:Int))),some (.im (Rw.wI (P.map cs))),some (.mu p),some (.im (.int (j:Int))),some (.mu h0.length),some (rwD u),z7]/\hd=h0++[.lst ((dn.flatMap (ins j)++(69 i).map λi=>u.take i++j::u.drop i).map rwD)]) ⟨0,_,rfl,by omega,rfl,by simp⟩ ?_ ?_
    .rintro d r ls hd ⟨i,z7,er',hi,rfl,rfl⟩;obtain⟨m',hm'⟩:∃m,u.length+1-i=m+1:=by
      cases q:u.length+1-i with
      |zero=>rw[q]at er';cases er'
      |succ m=>exact⟨m,rfl⟩
     rw[hm',AI]at er';obtain⟨rfl,rfl⟩:=List.cons.inj er';refine⟨_,rfl,?_⟩;dsimp only[set_cons_zero,set_cons_succ];refine Cr (JQ (A1 rfl ⟨⟨_,by rw[Ln,geq]⟩,A3 (fB (r:=u) (i:=i) (j:=j) 66 66 rfl rfl rfl (A6 ?_))⟩));have il:(ins j u).length=u.length+1:=by simp[ins]
     refine D6 (geq _ _) (BU (by simp at lt ⊢;omega)) ?_;rw[fV];refine⟨AE _,i+1,_,by rw[show((i:Int)+1)=((i+1:Nat):Int) by omega,show m'=u.length+1-(i+1) by omega],by omega,rfl,?_⟩;rw[jH];simp
    .rintro ls hd ⟨i,z7,er',hi,rfl,rfl⟩;have hi':i=u.length+1:=by
      cases q:u.length+1-i with
      |zero=>omega
      |succ m=>rw[q]at er';cases er'
     subst hi';refine⟨by intro q hq;rw[jh]at hq;subst hq;exact glt ep,dn++[u],rest,_,_,by rw[eS];simp,rfl,rfl,?_⟩;rw[List.flatMap_append];simp[ins]
  .rintro ls hd ⟨dn,rest,z6,z7,eS,er',rfl,rfl⟩;have:rest=[]:=by cases rest with
    |nil=>rfl
    |cons _ _=>cases er'
   subst this;rw[je]at eS;refine A5 (AM (A1 rfl ?_));dsimp only[set_cons_zero,set_cons_succ];subst hh;refine⟨AE _,j+1,(a::b::g).length,a,b,g++[_],_,_,_,_,by rw[show((j:Int)+1)=((j+1:Nat):Int) by omega,show m=n-(j+1) by omega],by omega,by simp,?_,rfl,rfl,hT⟩;rw[geq,<- eS];rfl
 .rintro ls hd ⟨j,p,a,b,g,z4,z5,z6,z7,er,hj,hp,ep,rfl,rfl,hT⟩;have hj':j=n:=by
   cases q:n-j with
   |zero=>omega
   |succ m=>rw[q]at er;cases er
  subst hj';have pl:=Kt j 66;refine A5 (AH (Ak (AY (Cj (A1 rfl ⟨p,_,rfl,ep,AQ 75,?_⟩)))));refine Aq rwD (λR=>if wsd P R=true then some (rwD R)else none) (λ_ ls=>∃x,ls=[some x,some (.im (Rw.wI (P.map cs)))]) _ (by intro q hq;rw[jh]at hq;subst hq;exact ep) ?_ ?_
  .rintro R hR ls hls;refine⟨[some (rwD R),some (.im (Rw.wI (P.map cs)))],by rcases hls with rfl|⟨_,x,rfl⟩<;>rfl,⟨_,rfl⟩,?_⟩;refine BK (AD (A3 (A1 rfl (A3 (A1 rfl (A6 ⟨by simp,(Tj H (Ep j R hR)).mono ?_⟩))))));rintro d x ⟨rfl,rfl⟩;refine⟨_,rfl,_,rfl,rfl,?_⟩;by_cases h:wsd P R=true
   .rw[ic h,ic h];exact⟨_,rfl,A1 rfl ⟨rfl,rfl⟩⟩
   .rw[ig h,ig h]
  have e1:((Bc j).filterMap λR=>if wsd P R=true then some (rwD R)else none)=((Bc j).filter (wsd P)).map rwD:=by
   rw[<- List.filterMap_eq_filter,List.map_filterMap]
   congr 1
   funext R
   by_cases h:wsd P R<;>simp[h,Option.guard]
  rw[e1];have fl:((Bc j).filter (wsd P)).length<=(Bc j).length:=List.length_filter_le _ _;refine⟨_,(Bc j).filter (wsd P),a,b,g++[_],rfl,by simp,rfl,by simp,hT,⟨λh=>?_,by omega,λR hR=>?_,λ_ R v=>mem_filter.mpr ⟨HW j R v.pm,(Lp H v.pm).mpr v⟩⟩⟩
  .have:seq∈(Bc j).filter (wsd P):=mem_filter.mpr ⟨HW j seq H.pm,(Lp H H.pm).mpr (ZO H)⟩;rw[h]at this;cases this
  .obtain⟨h1,h2⟩:=mem_filter.mp hR;exact(Lp H (Ep j R h1)).mp h2
def SU{c:Int}(W:WOk c ws):WF Bg [.im (.int c),.mu 0,.mu 1] [.lst (intD (ws.map (·.1))),.lst (intD (ws.map (·.2)))] λd x=>d=.im (.int (least 81 (wf ws) c 68)):=by
 have n8:=W.n8;have la:∀k,k<68->atI (intD (ws.map (·.1))) (k:Int)=some (.im (.int (lf ws k))):=λk hk=>CW rfl (by simp[intD,lf,hk]);have wa:∀k,k<68->atI (intD (ws.map (·.2))) (k:Int)=some (.im (.int (wf ws k))):=λk hk=>CW rfl (by simp[intD,wf,hk]);unfold Bg;refine Ac rfl ?_;refine AA (AM (BZ (AY (Lw (Cj (A1 rfl ⟨0,_,rfl,rfl,Cj (A1 rfl ⟨1,_,rfl,rfl,?_⟩)⟩))))));refine⟨by intro p hp;rw[jh]at hp;subst hp;rfl,?_⟩;dsimp only;have ez:List.zipWith (λx y=>AT [x,y]) (intD (ws.map (·.1))) (intD (ws.map (·.2)))=ws.map Ae:=by
  simp only[intD,iZ];rw[List.zipWith_map];have:∀l:List (Int×Int),List.zipWith (λa b:Int×Int=>AT [((λi=>D.im (.int i)) ∘ λx=>x.1) a,((λi=>D.im (.int i)) ∘ λx=>x.2) b]) l l=l.map Ae:=by
   intro l
   induction l with
   |nil=>rfl
   |cons p r ih=>rw[List.zipWith_cons_cons,iw,ih];rfl
  exact this ws
 rw[ez];refine⟨AQ 75,?_⟩;have gk:GOk [.lst (intD (ws.map (·.1))),.lst (intD (ws.map (·.2)))] ([(0,intD (ws.map (·.1)))]++[(1,intD (ws.map (·.2)))]):=by
  intro p hp;simp only[iT,jh]at hp;rcases hp with rfl|rfl<;>rfl
 refine Aq Ae (λp=>some (.im (.int (p.2*(c+p.1))))) (λ_ ls=>∃x y,ls=[some x,some y,some (.im (.int c))]) _ gk ?_ ?_
 .rintro p hp ls hls;have b:=W.each p hp;refine⟨[some (.im (.int p.1)),some (.im (.int p.2)),some (.im (.int c))],by rcases hls with rfl|⟨_,x,y,rfl⟩<;>rfl,⟨_,_,rfl⟩,AZ ⟨rfl,?_⟩⟩;rw[ic rfl];exact⟨_,rfl,A7 (A1 rfl (A7 (A1 rfl (A1 rfl (CB (B9 (B5 66 66) ⟨rfl,rfl⟩))))))⟩
 have e1:(ws.filterMap λp=>some (D.im (.int (p.2*(c+p.1)))))=intD (ws.map λp=>p.2*(c+p.1)):=by simp[intD]
 rw[e1];refine⟨_,DS _,A5 ?_⟩;have es:(ws.map λp=>p.2*(c+p.1)).sum=sm (λk=>wf ws k*(c+lf ws k)) (69 68):=by
  rw[<- HF]
  congr 1
  refine jZ λi=>?_;by_cases hi:i<68
  .simp[hi,lf,wf]
  .rw[List.getElem?_eq_none 75,List.getElem?_eq_none 75]
 rw[es];change WS _ [some (.im (.int c)),some (.mu 0),some (.mu 1),some (.im (.int (sm (λk=>wf ws k*(c+lf ws k)) (69 68)))),none] _ _;generalize hal:Sm.sm (λk=>wf ws k*(c+lf ws k)) (69 68)=alone;refine AA (AM (F9 (D0 (A3 (BO (A3 (A1 rfl (A6 (CI (ds:=intD (ws.map (·.1))) (z:=.im (.int (ws.length:Int))) rfl (by simp[Aj]) ?_)))))))));refine A6 ⟨_,rfl,BI 66 66,?_⟩;rw[jj];refine Ds (λr ls hd=>∃(j:Nat) (z0 z1:Option D),r=AI (j:Int) (68-j)/\j<=68/\ls=[z0,z1]/\hd=[.lst (intD (ws.map (·.1))),.lst (intD (ws.map (·.2))),.lst ((prs j).map prD)]) ⟨0,none,none,rfl,by omega,rfl,rfl⟩ ?_ ?_
 .rintro d r ls hd ⟨j,z0,z1,er,hj,rfl,rfl⟩;obtain⟨m,hm⟩:∃m,ws.length-j=m+1:=by
   cases q:68-j with
   |zero=>rw[q]at er;cases er
   |succ m=>exact⟨m,rfl⟩
  rw[hm,AI]at er;obtain⟨rfl,rfl⟩:=List.cons.inj er;refine⟨[some (.im (.int (j:Int))),z1],rfl,AZ ?_⟩;rw[ic rfl];refine D0 (A3 (A1 rfl (A6 ⟨_,rfl,BI 66 66,?_⟩)));rw[jj];refine Dt (λr ls hd=>∃(i:Nat) (z1:Option D),r=AI (i:Int) (j-i)/\i<=j/\ls=[some (.im (.int (j:Int))),z1]/\hd=[.lst (intD (ws.map (·.1))),.lst (intD (ws.map (·.2))),.lst ((prs j++(69 i).map λi=>(i,j)).map prD)]) ⟨0,_,rfl,by omega,rfl,by simp⟩ ?_ ?_
  .rintro d r ls hd ⟨i,z1,er,hi,rfl,rfl⟩;obtain⟨m',hm'⟩:∃m,j-i=m+1:=by
    cases q:j-i with
    |zero=>rw[q]at er;cases er
    |succ m=>exact⟨m,rfl⟩
   rw[hm',AI]at er;obtain⟨rfl,rfl⟩:=List.cons.inj er;refine⟨[some (.im (.int (j:Int))),some (.im (.int (i:Int)))],rfl,AZ ?_⟩;rw[ic rfl];refine BY (A3 (A1 rfl (A3 (A1 rfl (A6 ⟨FR,?_⟩)))));have pl:=G0 j;have pl2:j*j<=8*8:=Nat.mul_le_mul 66 66;refine D6 rfl (BU 75) ?_;refine⟨AE _,i+1,_,by rw[show((i:Int)+1)=((i+1:Nat):Int) by omega,show m'=j-(i+1) by omega],by omega,rfl,?_⟩;rw[jH];simp[prD,AT,B1]
  .rintro ls hd ⟨i,z1,er,hi,rfl,rfl⟩;have hi':i=j:=by
    cases q:j-i with
    |zero=>omega
    |succ m=>rw[q]at er;cases er
   subst hi';exact⟨AE _,i+1,_,_,by rw[show((i:Int)+1)=((i+1:Nat):Int) by omega,show m=68-(i+1) by omega],by omega,rfl,rfl⟩
 .rintro ls hd ⟨j,z0,z1,er,hj,rfl,rfl⟩;have hj':j=ws.length:=by
   cases q:68-j with
   |zero=>omega
   |succ m=>rw[q]at er;cases er
  subst hj';refine A5 ?_;refine AH (A7 (A1 rfl (BZ (AY (Cj (A1 rfl ⟨2,_,rfl,rfl,?_⟩))))));have pl:=G0 68;have pl2:68*68<=8*8:=Nat.mul_le_mul 66 66;refine⟨AQ 75,?_⟩;refine Aq prD (λp=>some (.im (.int (min (lf ws p.1*wf ws p.2) (lf ws p.2*wf ws p.1))))) (λ_ ls=>∃x y,ls=[some x,some y,some (.mu 0),some (.mu 1)]) _ (by intro p hp;simp at hp;subst hp;rfl) ?_ ?_
  .rintro p hp ls hls;obtain⟨h1,h2⟩:=Mp _ p hp;have b1:=D9 W h1;have b2:=D9 W h2;refine⟨[some (.im (.int (p.1:Int))),some (.im (.int (p.2:Int))),some (.mu 0),some (.mu 1)],by rcases hls with rfl|⟨_,x,y,rfl⟩<;>rfl,⟨_,_,rfl⟩,AZ ⟨rfl,?_⟩⟩;rw[ic rfl];refine⟨_,rfl,BO (A3 (A7 (A7 (A1 rfl (A1 rfl (AL rfl (la _ h1) ?_))))))⟩;refine A7 (A1 rfl (A1 rfl (AL rfl (wa _ h2) (B9 (B5 66 66) ?_))));refine A3 (A7 (A7 (A1 rfl (A1 rfl (AL rfl (la _ h2) ?_)))));refine A7 (A1 rfl (A1 rfl (AL rfl (wa _ h1) (B9 (B5 66 66) (A6 (K8 ⟨rfl,rfl⟩))))))
  have e2:((prs 68).filterMap λp=>some (D.im (.int (min (lf ws p.1*wf ws p.2) (lf ws p.2*wf ws p.1)))))=intD ((prs 68).map λp=>min (lf ws p.1*wf ws p.2) (lf ws p.2*wf ws p.1)):=by simp[intD]
  rw[e2];refine⟨_,DS _,CB ?_⟩;rw[KL (λx y=>min (lf ws x*wf ws y) (lf ws y*wf ws x)),<- hal];rfl
def Q2{c:Int}(W:WOk c ws):WF Ew [.im (AV c ws)] [] λd x=>d=.im (.int (least 81 (wf ws) c 68)):=by
 have n8:=W.n8;unfold Ew;refine Ac rfl ?_;refine AA (AM (AD (A3 (A1 rfl (A6 ⟨by simp,(GI W).mono ?_⟩)))));rintro d x rfl;refine⟨_,rfl,A5 ?_⟩;refine AH (DN (A3 (A1 rfl (A3 (Ak (AY (BJ (A1 rfl ⟨_,rfl,?_⟩))))))));rw[Fr];refine⟨AQ 75,?_⟩;refine Aq (wkD c) (λp=>some (.im (.int p.1))) (λ_ ls=>∃x,ls=[some x]) _ (AE _) ?_ ?_
 .rintro p hp ls hls;refine⟨[some (wkD c p)],by rcases hls with rfl|⟨_,x,rfl⟩<;>rfl,⟨_,rfl⟩,AZ ⟨rfl,?_⟩⟩;rw[ic rfl];exact⟨_,rfl,A7 (A1 rfl (AK (AL rfl (Cq _ _) ⟨rfl,rfl⟩)))⟩
 have e1:(ws.filterMap λp=>some (D.im (.int p.1)))=intD (ws.map (·.1)):=by simp[intD]
 rw[e1];refine A3 (Ak (AY (BJ (A1 rfl ⟨_,rfl,?_⟩))));rw[Fr];refine⟨AQ 75,?_⟩;refine Aq (wkD c) (λp=>some (.im (.int p.2))) (λ_ ls=>∃x,ls=[some x]) _ (AE _) ?_ ?_
 .rintro p hp ls hls;refine⟨[some (wkD c p)],by rcases hls with rfl|⟨_,x,rfl⟩<;>rfl,⟨_,rfl⟩,AZ ⟨rfl,?_⟩⟩;rw[ic rfl];refine⟨_,rfl,AD (A3 (A1 rfl (A6 ⟨by simp[wkD,DG],(Il c p).mono ?_⟩)))⟩;rintro d y rfl;exact⟨_,rfl,rfl,rfl⟩
 have e2:(ws.filterMap λp=>some (D.im (.int p.2)))=intD (ws.map (·.2)):=by simp[intD]
 rw[e2];refine A6 ((SU W).mono ?_);rintro d x rfl;rfl
open PySem L2 Bd Bt Fs
section
variable{c:Int}{ws:84}{P:List (Nat×Nat)}{up:Nat->Option Nat}{pos:Nat->Nat}{bs:List (List Nat)}{f:Nat->List Ent}
def dQ(hup:∀a b,up b=some a↔(a,b)∈P){a b:Nat}(h:Anc up a b):a=b∨Rc (P.map cs) (a:Int) (b:Int):=by
 induction h with
 |refl=>exact .inl rfl
 |step _ e ih=>
  have m:cs _∈P.map cs:=mem_map.mpr ⟨_,(hup _ _).mp e,rfl⟩;rcases ih with rfl|h
  .exact .inr (.one m)
  .exact .inr (.step h m)
def V0(W:WOk c ws)(F:Fo 68 P up pos)(pl:P.length<=16)(L:Line up pos 81 (wf ws) (C2 68 P) bs)(eb:bs=(RL ws P 18).2 (C2 68 P))(pr:∀a,a<68->Pra ws P a (f a)):
 WF FU [.im (AV c ws),.im (fI P),.im (.tup (((69 68).flatMap f).map Bp))] [] λd x=>d=.im (frI (Sm.cst 81 (wf ws) bs.flatten c 0) 1):=by
 have n8:=W.n8;have ent:∀e∈(69 68).flatMap f,∃a j,a<68/\j<(tkn ws P a).length/\PrOk ws a (tkn ws P a) j e:=λe he=>by
  obtain⟨a,ha,h⟩:=mem_flatMap.mp he;have ha:a<ws.length:=by simpa using ha
  obtain⟨j,hj,rfl⟩:=mem_iff_getElem.mp h;exact⟨a,j,ha,by rw[<- (pr a ha).ln];exact hj,(pr a ha).ok j hj⟩
 have len:((69 68).flatMap f).length<=64:=by
  have go:∀A:List Nat,(∀a∈A,a<68)->(A.flatMap f).length<=8*A.length:=by
   intro A
   induction A with
   |nil=>intro _;simp
   |cons a A ih=>
    intro h;have h1:=ih λx hx=>h x (by simp[hx]);have p:=pr a (h a 70);have:=p.ln;have:=p.t8;rw[k0,iV,j6];omega
  have:=go (69 68) λa ha=>by simpa using ha
  rw[List.length_range]at this;omega
 rw[<- PH];refine(Uz W (ps:=P.map cs) (by rw[iX];omega) len (λe he=>?_) (λe he=>?_) λe he=>?_).mono ?_
 .obtain⟨a,j,ha,hj,p⟩:=ent e he;have q:=NJ W F ha p;refine⟨by rw[p.ea];exact ha,p.up,λb hb=>(q.2 b hb).1,λb hb=>?_,p.rd,W9 W F ha hj p⟩;rw[p.ea];rcases dQ F.hup (q.2 b hb).2.2 with z|z
  .exact absurd z.symm (q.2 b hb).2.1
  .exact z
 .obtain⟨a,j,ha,hj,p⟩:=ent e he;have:=p.pb;have:=p.qb;exact⟨by omega,by omega⟩
 .obtain⟨a,j,ha,hj,p⟩:=ent e he;rw[p.ea];exact λz=>((NJ W F ha p).2 a z).2.1 rfl
 .rintro d x ⟨p,q,rfl,rd,e⟩;have B0:=Kj (Wc pr);have t:=Vs W F L eb pr B0 λe he=>P7 he;rw[t]at e;have e1:p=Sm.cst 81 (wf ws) bs.flatten c 0*q:=by
   refine Int.eq_of_mul_eq_mul_right (Int.ne_of_gt B0) ?_;rw[e,jd (bot _),jq,jd (bot _),<- jq]
  have q0:=rd.q0;have q1:q=1:=by
   have g:=rd.g1;rw[e1,Int.natAbs_mul,Nat.gcd_mul_left_left]at g;omega
  rw[e1,q1,Int.mul_one]
def Wsh.less{n:Nat}(H:Wsh n seq P)(i:Nat):Wsh n seq (P.take i++P.drop (i+1)):=by
 have s:(P.take i++P.drop (i+1)).Sublist P:=by
  conv=>rhs;rw[<- jf i P]
  refine List.Sublist.append (List.Sublist.refl _) ?_;rw[<- List.drop_drop];exact List.drop_sublist _ _
 exact⟨H.pm,λq hq=>H.al q (s.subset hq),jo s.length_le H.le,H.nd.sublist (s.map _)⟩
end
open PySem L2 Bd Bt Sm An
def Yi(hne:ns≠[]):∃m,J9 (intD ns)=some (.im (.int m))/\m∈ns/\∀x∈ns,m<=x:=by
 have e:B4 (intD ns)=some ns:=by
  clear hne
  induction ns with
  |nil=>rfl
  |cons n r ih=>simp[intD]at ih ⊢
 obtain⟨m1,m2⟩:=HY hne;exact⟨GT ns,by unfold J9;rw[e];simp[hne],m1,m2⟩
def dJ{F:List D->Hd->Option (D×Hd)}{QE:D->Hd->Prop}(h:WA m ls hd λds x=>∃(a b:MO) (rest:Hd) (as:List D) (R:I->Prop),x=a::b::rest/\ds=.mu 1::as/\T 0 a b/\Ay 2 as=true/\(∀a b,T 0 a b->WF F (.mu 1::as) [a,b] λd x=>∃i a' b' g,d=.im i/\R i/\T 0 a' b'/\x=a'::b'::g)/\∀i a' b',T 0 a' b'->R i->QE (.im i) (a'::b'::rest)):WE (A8 2 F m) ls hd QE:=by
 obtain⟨ds,x,e,a,b,rest,as,R,rfl,rfl,hT,hc,hF,k⟩:=h;exact tap.call (n:=0) (c:=0) hT e hc hF k
theorem Ic:∀ns:List Int,PyData.eqvAll (ns.map PyData.int) (ns.map PyData.int)=true
 |[]=>by simp[PyData.eqvAll]
 |n::r=>by simp[PyData.eqvAll,PyData.eqv,Ic r]
def N4(ns:List Int):(PyData.list (ns.map PyData.int)).canLay0=true:=by
 rw[PyData.canLay0]
 induction ns with
 |nil=>rfl
 |cons x r ih=>simp[PyData.canLayAll0,PyData.canLay0]at ih ⊢;try exact ih
theorem K0:∀ns:List Int,PyData.depthAll (ns.map PyData.int)=0
 |[]=>by simp[PyData.depthAll]
 |n::r=>by simp[PyData.depthAll,PyData.depth,K0 r]
def Vf(ns:List Int)(hd:Hd)(neg:Bool):Gh neg (.list (ns.map PyData.int)) (.list (ns.map PyData.int)) hd=some (.im (.bl (!neg)),hd):=by
 unfold Gh;rw[ic]
 .simp[PyData.eqv,Ic]
 .refine⟨N4 ns,N4 ns,?_⟩;simp[PyData.depth,K0]
def Qv{neg:Bool}{QE:D->Hd->Prop}(h:WA ma ls hd λes x=>es=intD ns/\WA ml ls x λds y=>ds=intD ns/\QE (.im (.bl (!neg))) y):WE (IG neg ma ml) ls hd QE:=by
 obtain⟨es,x,e1,rfl,ds,y,e2,rfl,q⟩:=h;refine⟨_,y,?_,q⟩;unfold IG;rw[e1];simp only[ik,e2];simp only[intD,Do,ik,Dy,Vf]
def Pa{o:71}{n:Nat}(pm:o.Perm (69 n)):B3 (o.map λk:Nat=>(k:Int))=(69 n).map λk:Nat=>(k:Int):=by
 refine((Ct _).trans (pm.map _)).eq_of_pairwise (le:=(·<=·)) (λa b _ _ h1 h2=>Int.le_antisymm h1 h2) (DY _) ?_;rw[ke];exact List.pairwise_lt_range.imp λh=>by omega
inductive I_law(ns:List Int)(r:List D)(ls:Ls)(hd:Hd):Prop
 |mk (a b:MO) (z2 z3 z4 z5 z6 z7 z8 z9 z10 z11:Option D) (el:ls=[some (.ro ns),some (.mu 1),z2,z3,z4,z5,z6,z7,z8,z9,z10,z11]) (eh:hd=[a,b]) (hT:T 0 a b):I_law ns r ls hd
def X5{v:Int}{QE:D->Hd->Prop}(q:QE (.im (.bl false)) hd):WP (FQ true (.im (frI v 1)) (AT [.im (.int v),.im (.int 1)]) hd) QE:=by
 rw[show AT [D.im (.int v),D.im (.int 1)]=.im (frI v 1)from by simp[AT,B1]];refine Qu (Jj 30 _) (Jj 30 _) ⟨by simp[I.py,I.pys,PyData.canLay0,PyData.canLayAll0],by simp[I.py,I.pys,PyData.canLay0,PyData.canLayAll0],by simp[I.py,I.pys,PyData.depth,PyData.depthAll]⟩ ?_;rw[ic rfl,show PyData.eqv (I.py (frI v 1)) (I.py (frI v 1))=true by simp[I.py,I.pys,PyData.eqv,PyData.eqvAll]];exact q
theorem WQ:∀P:List (Nat×Nat),PyData.canLayAll0 (I.pys (P.map prI))=true/\PyData.depthAll (I.pys (P.map prI))<=1
 |[]=>by simp[I.pys,PyData.canLayAll0,PyData.depthAll]
 |q::r=>by
  obtain⟨h1,h2⟩:=WQ r;simp only[iw,I.pys,PyData.canLayAll0,PyData.depthAll,prI,I.py,PyData.canLay0,PyData.depth];refine⟨by simp[h1],by omega⟩
def cA{QE:D->Hd->Prop}(q:QE (.im (.bl (decide (P≠[])))) hd):WP (FQ true (.im (fI P)) (AT []) hd) QE:=by
 rw[show AT []=D.im (.tup [])from by simp[AT,B1]];obtain⟨h1,h2⟩:=WQ P;refine Qu (Jj 30 _) (Jj 30 _) ⟨by rw[I.py,PyData.canLay0];exact h1,by simp[I.py,I.pys,PyData.canLay0,PyData.canLayAll0],jo (Nat.min_le_right _ _) (by simp[I.py,I.pys,PyData.depth,PyData.depthAll])⟩ ?_;rw[ic rfl];cases P with
 |nil=>exact q
 |cons x r=>exact q
def Z2{c:Int}(W:WOk c ws)(H:Wsh 68 seq P)(V:Vo 68 P R){v:Int}(hv:v=cst 81 (wf ws) R c 0){rest:Hd}(hT:T 0 a b){Q:Fl->Hd->Prop}
 (hQ:∀a b z10 z11,T 0 a b->Q (.nx [some (.ro ns),some (.mu 1),z2,some (.im (AV c ws)),some (.im (fI P)),z5,z6,some (.im (.int v)),z8,z9,z10,z11]) (a::b::rest)):
 WS (Ax (AG (mOp (FQ true) (A0 4) (Aw A4)))
  (A9 (AF 10 (A8 2 Ab (A2 (A0 1) (A2 (mCB (f1 true Aj) (A2 (A0 4) A4)) A4))))
 (A9 (AF 11 (mOp DH (D1 (A0 4) B6 (Bf (A0 10))) (D1 (A0 4) (Bf (mOp Aa (A0 10) (mC (.int 1)))) B6)))
 (Ax (AG (mOp gGt (A8 0 EW (A2 (A0 3) (A2 (mOp gIx (A8 0 BV (A2 (A0 3) (A2 (A0 11) A4))) (mC (.int 0))) A4))) (A0 7)))
  (AR (mC (.bl false)))
  Ah)))
  Ah) [some (.ro ns),some (.mu 1),z2,some (.im (AV c ws)),some (.im (fI P)),z5,z6,some (.im (.int v)),z8,z9,z10,z11] (a::b::rest) Q:=by
 have n8:=W.n8;refine B7 (AU (A7 (A1 rfl (BY (A6 ⟨Cc,cA ⟨_,rfl,λh=>?_,λ_=>Ad (hQ _ _ _ _ hT)⟩⟩)))));have hP:P≠[]:=kr h;have P0:=List.length_pos_iff.mpr hP;have P16:=H.le;refine AA (AM ?_);refine tap.draw (n:=0) (many:=(P.length:Int)) (rest:=rest) hT (by simp[Aj]) 66 66 λr a b hT p q=>A5 ?_;obtain⟨i,rfl⟩:∃i:Nat,r=(i:Int):=⟨r.toNat,by omega⟩
 refine AA (AM (A7 (HC (A1 rfl (GH (Dr (A1 rfl ⟨_,rfl,(P.map prI).map D.im,rfl,?_⟩)))))));rw[TF,<- map_take,<- map_take,BL];refine HC (A1 rfl (Dr (A7 (A1 rfl (AK (CB ⟨_,rfl,GH ⟨(P.map prI).map D.im,rfl,?_⟩⟩))))));rw[show((i:Int)+1)=((i+1:Nat):Int) by omega,cut_on,<- map_drop,<- map_drop,BL];refine wp_catN 75 (A5 ?_);rw[<- jl];have H':=H.less i;generalize hP':P.take i++P.drop (i+1)=P' at H';have sub:∀q∈P',q∈P:=λq hq=>by
  rw[<- hP']at hq;rcases mem_append.mp hq with h|h
  .exact ju h
  .exact List.mem_of_mem_drop h
 have F:=WY n8 H'.pm H'.nd H'.al;refine B7 (AU (A7 (AD (A3 (A1 rfl (A3 (A7 (AD (A3 (A1 rfl (A3 (A1 rfl (A6 ⟨by simp,(Ob W F).mono ?_⟩)))))))))))));rintro d x ⟨bs,f,rfl,L,eb,pr⟩;refine⟨_,rfl,AK (AL (ds:=[.im (AS bs.flatten),.im (.tup (((69 68).flatMap f).map Bp))]) rfl (Cq _ _) ?_)⟩;have V':=KQ F L;refine A6 ⟨by simp,(NO W (λk hk=>by simpa using V'.pm.mem_iff.mp hk)).mono ?_⟩;rintro d x rfl;refine⟨_,rfl,A1 rfl (Lc ⟨_,rfl,λh=>?_,λ_=>Ad (hQ _ _ _ _ hT)⟩)⟩;have h:=kr h;have:=dM W F L eb pr (ks:=R) ⟨V.pm,λq hq=>V.kp q (sub q hq)⟩;omega
set_option maxHeartbeats 1000000 in
def fA(ns:List Int):WF Le [.ro ns] [] λd x=>d=.im (.bl true):=by
 unfold Le;refine Ac rfl ?_;obtain⟨τ,q⟩:=Wr ns;refine AA (AM (DN (A3 (A1 rfl (A6 (WP.eq q (A5 ?_)))))));refine AA (Bh (D0 (A3 (AK (A6 ⟨_,rfl,BI 80 80,?_⟩)))));refine BP (I_law ns) (.mk _ _ none none none none none none none none none none rfl rfl ⟨τ,rfl⟩) ?_ ?_
 .intro d r ls hd hI;obtain⟨a,b,z2,z3,z4,z5,z6,z7,z8,z9,z10,z11,rfl,rfl,hT⟩:=hI;refine⟨[some (.ro ns),some (.mu 1),some d,z3,z4,z5,z6,z7,z8,z9,z10,z11],rfl,?_⟩;generalize some d=z2;refine Lr (AA (AM (dJ (A3 (A1 rfl (A3 (A7 (AK ?_))))))));refine tap.draw (n:=0) hT rfl 80 80 λr1 a b hT p1 q1=>CB (A6 ?_);obtain⟨n,hn⟩:∃n:Nat,1+r1=(n:Int):=⟨(1+r1).toNat,by omega⟩
  rw[hn];refine⟨a,b,[],_,_,rfl,rfl,hT,by simp,Wl (n:=n) 66 66,?_⟩;rintro i a b hT ⟨c,ws,rfl,rfl,W⟩;have n1:=W.n1;have n8:=W.n8;refine A5 (AA (AM ?_));refine tap.call (n:=0) (c:=0) (R:=λi=>∃seq P,i=fI P/\Wsh 68 seq P) (as:=[.im (.int (ws.length:Int))]) (rest:=[]) hT (by simp[Aj]) 70 (λa b hT=>dD n1 n8 a b hT) ?_;rintro i a b hT ⟨seq,P,rfl,H⟩;have F:=WY n8 H.pm H.nd H.al;refine A5 (AA (F7 (AD (A3 (A1 rfl (A3 (A1 rfl (A6 ⟨by simp,(Ob W F).mono ?_⟩))))))));rintro d x ⟨bs,f,rfl,L,eb,pr⟩;have V:=KQ F L;obtain⟨R,hR⟩:∃R,R=bs.flatten:=⟨_,rfl⟩
  have Rl:R.length=ws.length:=by rw[hR];simpa using V.pm.length_eq
  have Rt:∀k∈R,k<ws.length:=λk hk=>by rw[hR]at hk;simpa using V.pm.mem_iff.mp hk
  have Pf:=V0 W F H.le L eb pr;have Bs:∀{ks:71},Vo 68 P ks->Sm.cst 81 (wf ws) R c 0<=Sm.cst 81 (wf ws) ks c 0:=λV'=>by rw[hR];exact dM W F L eb pr V'
  rw[<- hR]at V Pf ⊢;clear L eb pr hR;refine⟨_,rfl,[some (.ro ns),some (.mu 1),z2,some (.im (AV c ws)),some (.im (fI P)),some (.im (AS R)),some (.im (.tup (((69 68).flatMap f).map Bp))),z7,z8,z9,z10,z11],rfl,A5 ?_⟩;generalize ((69 68).flatMap f).map Bp=es at Pf ⊢;refine AA (B7 (AU (Qv (ns:=(69 68).map λk:Nat=>(k:Int)) (Kq (BJ (A1 rfl ⟨_,rfl,R.map (λk:Nat=>(k:Int)),?_,by rw[iX];omega,?_⟩))))))
  .simp[intD]
  refine⟨by rw[Pa V.pm],Nw (k:=(ws.length:Int)) (by simp[Aj]) (Mb 66 66) ⟨?_,_,rfl,(λh=>by cases h),λ_=>Ad (A5 ?_)⟩⟩
  .rw[jj,Eo];simp[AO,intD]
  -- the wishes are kept
  refine AA (B7 (AU (Qw (AK (AY (BJ (A1 rfl ⟨(P.map prI).map D.im,rfl,?_⟩)))))));rw[HV];refine⟨AQ (by have:=H.le;simp;omega),?_⟩;refine Aq (xs:=P) (λq=>D.im (prI q)) (λq=>some (.im (.bl (decide (R.idxOf q.1<R.idxOf q.2))))) (λ_ ls=>∃x y,ls=[some x,some y,some (.im (AS R))]) _ (AE _) ?_ ?_
  .rintro q hq ls hls;have mem:∀k,k<68->k∈R:=λk hk=>V.pm.mem_iff.mpr (by simpa using hk);have vi:B4 ((R.map λk:Nat=>I.int (k:Int)).map D.im)=some (R.map λk:Nat=>(k:Int)):=by
    rw[DR,Iz];exact ES _
   have ia:(q.1:Int)∈R.map λk:Nat=>(k:Int):=mem_map.mpr ⟨q.1,mem _ (H.lt q hq).1,rfl⟩;have ib:(q.2:Int)∈R.map λk:Nat=>(k:Int):=mem_map.mpr ⟨q.2,mem _ (H.lt q hq).2,rfl⟩;refine⟨[some (.im (.int (q.1:Int))),some (.im (.int (q.2:Int))),some (.im (AS R))],by rcases hls with rfl|⟨_,x,y,rfl⟩<;>rfl,⟨_,_,rfl⟩,AZ ⟨rfl,?_⟩⟩;rw[ic rfl];refine⟨_,rfl,A7 (JP (A1 rfl ⟨⟨_,rfl⟩,A3 (A1 rfl (A6 (FW rfl vi ia (JP (A1 rfl ⟨⟨_,rfl⟩,A3 (A1 rfl (A6 (FW rfl vi ib (DF ⟨rfl,?_⟩))))⟩)))))⟩))⟩;rw[Gb,Gb];simp
  have e:(P.filterMap λq=>some (D.im (.bl (decide (R.idxOf q.1<R.idxOf q.2)))))=blD (P.map λq=>decide (R.idxOf q.1<R.idxOf q.2)):=by simp[blD]
  rw[e];obtain⟨vs,ev,h⟩:=N9 (P.map λq=>decide (R.idxOf q.1<R.idxOf q.2));have h0:inV (.bl false) vs=false:=by
   rw[h,List.any_eq_false];intro x hx;obtain⟨q,hq,rfl⟩:=mem_map.mp hx;simpa using V.kp q hq
  refine⟨_,_,vs,rfl,rfl,ev,?_⟩;rw[ig 70,h0];refine⟨_,rfl,(λh=>by cases h),λ_=>Ad (A5 ?_)⟩
  -- the cost
  refine AA (AM (AD (A3 (A1 rfl (A3 (A1 rfl (A6 ⟨by simp,(NO W Rt).mono ?_⟩)))))));rintro d x rfl;refine⟨_,rfl,A5 ?_⟩;obtain⟨v,hv⟩:∃v,v=cst (lf ws) (wf ws) R c 0:=⟨_,rfl⟩
  rw[<- hv]at Pf ⊢;have lv:least 81 (wf ws) c 68<=v:=by rw[hv];exact least_le _ _ c V.pm
  refine AA (B7 (FV (AU (A7 (AD (A3 (A1 rfl (A3 (A1 rfl (A3 (A1 rfl (A6 ⟨by simp,Pf.mono ?_⟩))))))))))));rintro d x rfl;refine⟨_,rfl,BY (A3 (A1 rfl (A3 (AK (A6 ⟨FR,X5 ?_⟩)))))⟩;refine⟨_,rfl,?_⟩;rw[ig 70];refine AU (A7 (AD (A3 (A1 rfl (A6 ⟨by simp,(Q2 W).mono ?_⟩)))));rintro d x rfl;refine⟨_,rfl,A1 rfl (Lc ⟨_,rfl,λh=>?_,λ_=>Ad (A5 ?_)⟩)⟩
  .have:=kr h;omega
  -- other orders
  rw[<- PH];change WS _ [some (.ro ns),some (.mu 1),z2,some (.im (AV c ws)),some (.im (Rw.wI (P.map cs))),some (.im (AS R)),some (.im (.tup es)),some (.im (.int v)),z8,z9,z10,z11] _ _;refine AA (AM (dL (rest:=[]) (as:=[.im (.int (ws.length:Int)),.im (Rw.wI (P.map cs))]) (by simp[Aj]) hT 70 ((V9 n8 H a b hT).mono ?_)));rintro d x ⟨k,O,a',b',g,rfl,hk,rfl,ek,hT,O0,O1,Ov,Oa⟩;have cS:∀l:List (List Nat),Ay 2 (l.map rwD)=true:=by
   intro l
   induction l with
   |nil=>rfl
   |cons x r ih=>simp only[iw,Ay,clD,ih,Bool.and_self]
  refine⟨k,O.map rwD,a',b',g,rfl,hk,rfl,ek,cS O,hT,A5 ?_⟩;change WS _ [some (.ro ns),some (.mu 1),z2,some (.im (AV c ws)),some (.im (Rw.wI (P.map cs))),some (.im (AS R)),some (.im (.tup es)),some (.im (.int v)),some (.mu 2),z9,z10,z11] [a',b',.lst (O.map rwD)] _;refine AA (AM (Ak (AY (Cj (A1 rfl ⟨2,_,rfl,rfl,AQ 75,?_⟩)))));refine Aq rwD (λr=>some (.im (.int (cst 81 (wf ws) r c 0)))) (λ_ ls=>∃x,ls=[some x,some (.im (AV c ws))]) _ (by intro p hp;rw[jh]at hp;subst hp;rfl) ?_ ?_
  .rintro r hr ls hls;refine⟨[some (rwD r),some (.im (AV c ws))],by rcases hls with rfl|⟨_,x,rfl⟩<;>rfl,⟨_,rfl⟩,AZ ⟨rfl,?_⟩⟩;rw[ic rfl];refine⟨_,rfl,AD (A3 (A1 rfl (A3 (A1 rfl (A6 ⟨by simp,(NO W (λk hk=>by simpa using (Ov r hr).pm.mem_iff.mp hk)).mono ?_⟩)))))⟩;rintro d y rfl;exact⟨_,rfl,rfl,rfl⟩
  have e1:(O.filterMap λr=>some (D.im (.int (cst 81 (wf ws) r c 0))))=intD (O.map λr=>cst 81 (wf ws) r c 0):=by simp[intD]
  rw[e1];obtain⟨m,hm,m1,m2⟩:=Yi (ns:=O.map λr=>cst 81 (wf ws) r c 0) (by simpa using O0);have mv:v<=m:=by
   obtain⟨r,hr,rfl⟩:=mem_map.mp m1;rw[hv];exact Bs (Ov r hr)
  have me:68<6->m=v:=λh=>by
   have:=m2 v (mem_map.mpr ⟨R,Oa h R V,hv.symm⟩);omega
  refine A5 ?_;change WS _ [some (.ro ns),some (.mu 1),z2,some (.im (AV c ws)),some (.im (Rw.wI (P.map cs))),some (.im (AS R)),some (.im (.tup es)),some (.im (.int v)),some (.mu 2),some (.mu 3),z10,z11] [a',b',.lst (O.map rwD),.lst (intD (O.map λr=>cst 81 (wf ws) r c 0))] _;have mn:∀{QE:D->Hd->Prop},QE (.im (.int m)) [a',b',.lst (O.map rwD),.lst (intD (O.map λr=>cst 81 (wf ws) r c 0))]->WE (mCB (f1 false J9) (A2 (A0 9) A4)) [some (.ro ns),some (.mu 1),z2,some (.im (AV c ws)),some (.im (Rw.wI (P.map cs))),some (.im (AS R)),some (.im (.tup es)),some (.im (.int v)),some (.mu 2),some (.mu 3),z10,z11] [a',b',.lst (O.map rwD),.lst (intD (O.map λr=>cst 81 (wf ws) r c 0))] QE:=λq=>BO (A3 (A1 rfl (A6 (CI (ds:=intD (O.map λr=>cst 81 (wf ws) r c 0)) rfl hm q))));refine AA (B7 (FV (AU (A7 (mn (A1 rfl (DF ⟨_,rfl,?_⟩)))))));rw[ig 75];refine JN (AU (A7 (BO (A3 (A1 rfl (A6 (CI (ds:=((ws.map (wk c)).map DG).map D.im) (z:=.im (.int (ws.length:Int))) rfl (by simp[Aj]) (AK (DF ⟨_,rfl,?_⟩)))))))));have go:∀{Q:Fl->Hd->Prop},(∀a b z10 z11,T 0 a b->Q (.nx [some (.ro ns),some (.mu 1),z2,some (.im (AV c ws)),some (.im (fI P)),some (.im (AS R)),some (.im (.tup es)),some (.im (.int v)),some (.mu 2),some (.mu 3),z10,z11]) (a::b::[.lst (O.map rwD),.lst (intD (O.map λr=>cst 81 (wf ws) r c 0))]))->WS (Ax (AG (mOp (FQ true) (A0 4) (Aw A4)))       (A9 (AF 10 (A8 2 Ab (A2 (A0 1) (A2 (mCB (f1 true Aj) (A2 (A0 4) A4)) A4))))     (A9 (AF 11 (mOp DH (D1 (A0 4) B6 (Bf (A0 10))) (D1 (A0 4) (Bf (mOp Aa (A0 10) (mC (.int 1)))) B6)))     (Ax (AG (mOp gGt (A8 0 EW (A2 (A0 3) (A2 (mOp gIx (A8 0 BV (A2 (A0 3) (A2 (A0 11) A4))) (mC (.int 0))) A4))) (A0 7)))       (AR (mC (.bl false)))       Ah)))       Ah) [some (.ro ns),some (.mu 1),z2,some (.im (AV c ws)),some (.im (Rw.wI (P.map cs))),some (.im (AS R)),some (.im (.tup es)),some (.im (.int v)),some (.mu 2),some (.mu 3),z10,z11] [a',b',.lst (O.map rwD),.lst (intD (O.map λr=>cst 81 (wf ws) r c 0))] Q:=λhQ=>by
   rw[PH];exact Z2 W H V hv hT hQ
  by_cases h6:68<6
  .rw[ic 75];refine AU (A7 (mn (A1 rfl (Lv ⟨_,rfl,λh'=>?_,λ_=>Ad (A5 (go λa b z10 z11 hT=>?_))⟩))))
   .rw[me h6]at h';simp at h'
   .have ca:=tap.cl hT;exact⟨by simp[ca.1,ca.2],_,rfl,AE _,.mk a b _ _ _ _ _ _ _ _ _ _ rfl rfl hT⟩
  .rw[ig 75];refine⟨(λh=>by cases h),λ_=>Ad (A5 (go λa b z10 z11 hT=>?_))⟩;have ca:=tap.cl hT;exact⟨by simp[ca.1,ca.2],_,rfl,AE _,.mk a b _ _ _ _ _ _ _ _ _ _ rfl rfl hT⟩
 .intro ls hd hI;obtain⟨a,b,z2,z3,z4,z5,z6,z7,z8,z9,z10,z11,rfl,rfl,hT⟩:=hI;exact A5 (AH (AK rfl))
def law_eq(ns:List Int):∃hd,Le [.ro ns] []=some (.im (.bl true),hd):=by
 obtain⟨d,x,e,rfl⟩:=fA ns;exact⟨x,e⟩
open PySem L2 PySem.W PyProof.Rows
noncomputable abbrev xS:Xs:=[]
def all_mk{l:OpenLaw}{w:World}{K:Frag}{h:Heap}{mg:Str->Option Value}{fa:Addr}{c P:Str->Addr}(X:K.In h)(G:h.Ns mainGlobals mg)(hfa:mg "law"=some (.ref fa))(hx:HX xS mg h c P)(F:Qp K):HG l w K xS mg c P fa Qf:=by
 obtain⟨Z,h0,h1,h2,h3,h4,h5,h6,h7,h8,h9,h10,h11,h12,h13,h14,h15,h16,h17,h18,h19,h20,h21,h22,h23,h24,h25,h26,h27,h28,h29,h30,h31,h32,h33,h34,h35,h36,h37,h38,h39,h40,h41,h42,h43⟩:=F;have B:=(zsE Z).blt X G;refine VR X G hfa hx (feE h0) bd1 rfl λbase hd bl=>?_;obtain⟨o_is_number,o_is_number_from,o_is_number_of_work,o_is_tuple_of,o_rises,o_is_set_of_works,o_common_divisor,o_is_fraction,o_fraction,o_minus,o_less,o_falling,o_length_of,o_same_coming,o_one_coming,o_refuse_other_costs,o_weight_of,o_weighted_coming,o_ratio_of,o_row_of,o_pair_sum_of,o_pair_sum,o_reached,o_behind,o_is_forest,o_refuse_no_forest,o_joined,o_prices_of,o_forest_order,o_gain,o_fault_of,o_look_at_prices,o_common_bottom,o_priced,o_tape,o_pick,o_works,o_forest,o_drawn,o_wished,o_orders,o_cost,o_law⟩:=oks (E:=enM l w K xS P mg base) B;have g1:=o_weight_of ((feE h1).dn X G hx bd1 l w base);have g2:=o_same_coming ((feE h2).dn X G hx bd1 l w base);have g3:=o_one_coming ((feE h3).dn X G hx bd1 l w base) g2;have g4:=o_refuse_other_costs ((feE h4).dn X G hx bd2 l w base);have g5:=o_weighted_coming ((feE h5).dn X G hx bd1 l w base) g3 g4;have g6:=o_pair_sum_of ((feE h6).dn X G hx bd3 l w base);have g7:=o_pair_sum ((feE h7).dn X G hx bd1 l w base) g1 g5 g6;have g8:=o_is_forest ((feE h8).dn X G hx bd2 l w base);have g9:=o_refuse_no_forest ((feE h9).dn X G hx bd2 l w base) g5 g8;have g10:=o_less ((feE h10).dn X G hx bd2 l w base);have g11:=o_falling ((feE h11).dn X G hx bd1 l w base) g10;have g12:=o_common_divisor ((feE h12).dn X G hx bd2 l w base);have g13:=o_fraction ((feE h13).dn X G hx bd2 l w base) g12;have g14:=o_length_of ((feE h14).dn X G hx bd2 l w base);have g15:=o_ratio_of ((feE h15).dn X G hx bd2 l w base) g13 g14 g1;obtain⟨g16,g17⟩:=o_row_of ((feE h16).dn X G hx bd3 l w base) ((feE h17).dn X G hx bd3 l w base) g10 g11 g15;have g18:=o_joined ((feE h18).dn X G hx bd2 l w base) g9 g17;have g19:=o_minus ((feE h19).dn X G hx bd2 l w base) g13;have g20:=o_prices_of ((feE h20).dn X G hx bd3 l w base) g19 g15 g16;have g21:=o_forest_order ((feE h21).dn X G hx bd2 l w base) g18 g20;have g22:=o_gain ((feE h22).dn X G hx bd2 l w base);have g23:=o_is_tuple_of ((feE h23).dn X G hx bd2 l w base);have g24:=o_is_number ((feE h24).dn X G hx bd1 l w base);have g25:=o_is_number_from ((feE h25).dn X G hx bd2 l w base) g24;have g26:=o_is_number_of_work ((feE h26).dn X G hx bd2 l w base) g25;have g27:=o_rises ((feE h27).dn X G hx bd1 l w base);have g28:=o_is_set_of_works ((feE h28).dn X G hx bd2 l w base) g26 g27;have g29:=o_is_fraction ((feE h29).dn X G hx bd1 l w base) g24 g25 g23 g12;have g30:=o_reached ((feE h30).dn X G hx bd2 l w base);have g31:=o_behind ((feE h31).dn X G hx bd3 l w base) g30;have g32:=o_fault_of ((feE h32).dn X G hx bd3 l w base) g26 g28 g29 g31;have g33:=o_look_at_prices ((feE h33).dn X G hx bd3 l w base) g23 g32;have g34:=o_common_bottom ((feE h34).dn X G hx bd1 l w base);have g35:=o_priced ((feE h35).dn X G hx bd3 l w base) g13 g14 g1 g5 g6 g22 g33 g34;have g36:=o_tape ((feE h36).dn X G hx bd1 l w base);have g37:=o_pick ((feE h37).dn X G hx bd2 l w base);have g38:=o_works ((feE h38).dn X G hx bd2 l w base) g37;have g39:=o_forest ((feE h39).dn X G hx bd2 l w base) g37;have g40:=o_drawn ((feE h40).dn X G hx bd3 l w base) g37;have g41:=o_wished ((feE h41).dn X G hx bd2 l w base);have g42:=o_orders ((feE h42).dn X G hx bd3 l w base) g40 g41;have g43:=o_cost ((feE h43).dn X G hx bd2 l w base);exact o_law ((feE h0).dn X G hx bd1 l w base) g7 g21 g35 g36 g37 g38 g39 g42 g43
end T63
theorem PySem.Challenge.cw_benchdays_k63_whole_forest_meets_holds : PySem.Challenge.rw_benchdays_k63_whole_forest_meets.Holds := by
 refine T63.early λK F d hd hdf=>L2.walkL T63.xS (l:=PySem.Challenge.rw_benchdays_k63_whole_forest_meets) (n:=63) (k:=24) (F:=T63.Le) rfl 80 hdf ⟨rfl,by decide,by decide,rfl⟩ (by intro x hx;cases hx) T63.law_eq (λw h Y=>Y) λw mg fa h c P X G hmg hx=>?_;rw[hd]at hmg;exact T63.all_mk X G hmg hx (F w)
