import PyProof.Rows.All
import Wide.All
import OpenK.AllK
import Wide.FinOn
import Lean
import PyProof.EqAt
import PyProof.EqKinds
import PyProof.TupleCall
import KE.KSortKey
import PyProof.ListMulRoad
import PyProof.Draws
import PyProof.EnumMake
import PyProof.ListNew
import KE.KRevIter
import KE.KMinKey
import PySem.Challenge.RW_benchdays_k62_whole_prices_bound
set_option Elab.async false
set_option linter.all false
set_option maxRecDepth 100000
noncomputable section
open PySem.W(Frag fnOf Looks findIn OpenLaw keepIn codeIn mroIn nsIn mg_of)
set_option hygiene false in
local macro_rules | `(tactic| and_intros) => `(tactic| intro ρ σ H hd ls Q d hd' hR hL hm hQ)
open List(mem_cons mem_filter mem_append mem_filterMap nodup_cons all_cons any_cons mem_map all_eq_true mem_singleton nodup_append drop_length zipIdx_cons pairwise_map map_take map_drop reverse_cons filter_cons nil_append set_cons_succ set_cons_zero map_id all_map idxOf_append)
open Option(bind_some isSome_iff_exists none_or)
open Nat(le_of_lt not_lt gcd_comm)
open Int(mul_add mul_assoc)
def i6{α β:Type _}{o:Option α}{f:α->Option β}{b:β}(h:o.bind f=some b):∃a,o=some a/\f a=some b:=Option.bind_eq_some_iff.mp h
def i7{α β:Type _}{o:Option α}{f:α->β}{b:β}(h:o.map f=some b):∃a,o=some a/\f a=b:=Option.map_eq_some_iff.mp h
def i8:=@PySem.wpAny_bind
def i9:=@if_pos
def ic:=@if_neg
def ie:=@PySem.wpAny_pure
def ig:=@Nat.le_refl
def ik:=@List.size_toArray
def ip:=@List.mem_cons
def iq:=@Nat.ne_of_lt
def ir:=@List.mem_append_right
def iu:=@List.length_map
def iw:=@PySem.wpAny_mono
def iA:=@List.lookup_cons
def iB:=@List.mem_singleton
def iC:=@Nat.lt_of_lt_of_le
def iD:=@List.map_cons
def iE:=@if_true
def iF:=@List.map_map
def iG:=@PySem.wpAny_field
def iH:=@List.mem_of_getElem?
def iI:=@Option.map_some
def iJ:=@Nat.le_trans
def iK:=@List.mem_cons_of_mem
def iL:=@List.length_append
def iM:=@List.length_cons
def iN:=@Nat.lt_irrefl
def iO:=@Int.toNat_natCast
def iP:=@congrArg
def iQ:=@PySem.wpAny_newObj_type
def iR:=@List.mem_cons_self
def iS:=@List.append_nil
def iT:=@Nat.zero_le
def iU:=@List.map_nil
def iV:=@List.not_mem_nil
def iW:=@decide_eq_false
def iX:=@List.length_take
def iY:=@List.cons_append
def iZ:=@Nat.ne_of_gt
def j0:=@PySem.wpAny_holding
def j3:=@PySem.wpAny_standAt
def j4:=@or_false
def j5:=@List.mem_append_left
def j6:=@List.map_append
def j7:=@Nat.le_succ
def j8:=@PySem.wpAny_passesOwn
def j9:=@if_false
def ja:=@decide_eq_true
def jb:=@List.filterMap_cons
def jc:=@List.lookup_append
def jd:=@Int.mul_comm
def je:=@PySem.sizeLine_eq
def jf:=@PySem.codeAny_mono
def jg:=@List.take_of_length_le
def jh:=@List.length_nil
def ji:=@List.drop_eq_getElem_cons
def jj:=@List.ext_getElem?
def jk:=@List.map_congr_left
def jl:=@List.range_succ
def jm:=@Nat.lt_succ_of_lt
def jn:=@PySem.wpAny_execs_nil
def jo:=@PySem.wpAny_Call_Name_kw
def jq:=@PySem.wpAny_call_entry
def jr:=@PySem.wpAny_seqItems
def jt:=@decide_eq_true_eq
def ju:=@List.length_drop
def jv:=@List.nodup_range
def jw:=@Int.mul_nonneg
def jx:=@Int.natAbs_natCast
def jy:=@PySem.wpAny_truthy_bool
def jA:=@PySem.wpAny_rule
def jB:=@PySem.wpAny_call
def jC:=@PySem.wpAny_callSpecial?_slot
def jD:=@List.length_replicate
def jE:=@List.contains_cons
def jF:=@List.take_append_drop
def jG:=@Nat.le_add_right
def jH:=@PyProof.Rows.assignInOrder_cons
def jI:=@PySem.wpAny_bindName
def jJ:=@PySem.wpAny_loadPart_at
def jK:=@PySem.wpAny_setField
def jL:=@PySem.wpAny_setField_rec
def jM:=@PySem.wpAny_onRaise
def jN:=@PySem.wpAny_execs_cons
def jO:=@of_decide_eq_true
def jP:=@PySem.wpAny_comprehension_free
set_option compiler.extract_closed false
local macro_rules | `(tactic| omega) => `(tactic| first | lia | omega (config := {}))
namespace Ea
open PySem PySem.W
def dA(s:Stmt):Arguments:=match s with
 |.FunctionDef _ a _ _ _ _ _ _ _ _=>a
 |_=>{ posonlyargs:=[],args:=[],vararg:=none,kwonlyargs:=[],kw_defaults:=[],kwarg:=none,defaults:=[] }
def dB(s:Stmt):List Stmt:=match s with
 |.FunctionDef _ _ b _ _ _ _ _ _ _=>b
 |_=>[]
def dS(s:Stmt):Scope:=match s with
 |.FunctionDef _ _ _ _ _ _ sc _ _ _=>sc
 |_=>{ kind:=.function,names:=[],isGenerator:=false,isCoroutine:=false }
def tO(o:Obj):Option Addr:=match o.data with
 | .fields vs=>(match (vs[11]?:Option Value)with
  |some (Value.ref P)=>some P
  | _=>none)
 |_=>none
def At(K:Frag)(n:Str)(s:Stmt)(f:Addr)(cd:Value):Prop:=∃oc kV dc pm ct od an sl,nsIn K mainGlobals n=some (some (.ref f))/\K.lookup f=some ⟨oc,od,.func (fnOf n n (dA s) (dB s) (dS s) .none kV dc pm an cd ct),sl⟩/\codeIn K cd n=true/\keepIn K (.ref f)=true
def Fe(K:Frag)(n:Str)(s:Stmt):Prop:=∃f cd,At K n s f cd
def Fl(K:Frag)(n:Str)(s:Stmt)(p:Addr):Prop:=∃f ca ob,At K n s f (.ref ca)/\K.lookup ca=some ob/\tO ob=some p
section
variable{K:Frag}{n:Str}{s:Stmt}{f ca p:Addr}{oc kV dc pm cd ct:Value}{od an:Option Addr}{sl:Array (Option Value)}{ob:Obj}
def feI(a:nsIn K mainGlobals n=some (some (.ref f)))(l:K.lookup f=some ⟨oc,od,.func (fnOf n n (dA s) (dB s) (dS s) .none kV dc pm an cd ct),sl⟩)(c:codeIn K cd n=true)(k:keepIn K (.ref f)=true):Fe K n s:=⟨f,cd,_,_,_,_,_,_,_,_,a,l,c,k⟩
end
abbrev cN:List Str:=["list","tuple","len","range","repr","sum","min","max","abs","all","any","sorted","zip","isinstance","int","bool","str","set","enumerate","reversed","dict"]
def Zs(K:Frag):Prop:=∀n∈cN,nsIn K mainGlobals n=some none
def Zg(K:Frag)(l:List Str):Prop:=∀n∈l,nsIn K mainGlobals n=some none
def zs0{K:Frag}:Zg K []:=λ_ h=>nomatch h
def zs1{K:Frag}{n:Str}{l:List Str}(h:nsIn K mainGlobals n=some none)(r:Zg K l):Zg K (n::l):=λm hm=>by
 rcases mem_cons.mp hm with rfl|hm
 .exact h
 .exact r m hm
end Ea
namespace L2
open PySem
def dm(nm:Str)(p:Addr×Obj):Bool:=match p.2.data with
 |.cls cd=>cd.name==nm
 |_=>false
def clsAt(K:Frag)(nm:Str):Option Addr:=(K.find? (dm nm)).map (·.1)
end L2
namespace Ea
open PySem PySem.W
def inC(s:Stmt):Stmt:=match s with
 |.ClassDef _ _ _ b _ _ _ _ _ _ _=>b.getD 0 (.Pass ⟨0,0,0,0⟩)
 |_=>.Pass ⟨0,0,0,0⟩
def ovB:List Value->Bool
 |[]=>false
 | v::l=>decide (v::l=[.type "ValueError",.type "Exception",.type "BaseException",.type "object"])||(match v with
  |.ref _=>ovB l
  | _=>false)
def Ec(K:Frag)(nm:Str)(s:Stmt)(fs:List Str)(C:Addr):Prop:=∃(fI N:Addr) (nm' q:Str) (bs bm sub:List Value) (sn:List Str) (ab:Bool) (col:Option Bool) (dd od an:Option Addr) (k0 k1 k2 k3 k5:Option Value) (oc kV dc pm cd ct:Value) (sl:Array (Option Value)),
 nsIn K mainGlobals nm=some (some (.ref C))/\L2.clsAt K nm=some C/\K.lookup C=some (excClassObj nm' q C N bs bm true sn sub ab col dd k0 k1 k2 k3 k5 "ValueError.__new__")/\ovB bm=true/\findIn K (.ref C) "__init__"=some (some (.ref fI))/\isFn K (.ref fI)=true/\keepIn K (.ref C)=true /\
 findIn K (.ref C) "__setattr__"=some (some (.builtin "object.__setattr__"))/\findIn K (.ref C) "__getattribute__"=some (some (.builtin "BaseException.__getattribute__"))/\findIn K (.ref C) "__getattr__"=some none/\findIn K (.ref C) "__class__"=some (some (.builtin "object.__class__"))/\
 specialIn K (.builtin "object.__class__") "__get__"=some (some (.builtin "getset_descriptor.__get__"))/\takesIn K (.builtin "object.__class__")=some true/\mroIn K C (.type "object")=some true/\(∀f∈fs,findIn K (.ref C) f=some none)/\
 K.lookup fI=some ⟨oc,od,.func (fnOf "__init__" (nm++".__init__") (dA s) (dB s) (dS s) .none kV dc pm an cd ct),sl⟩/\codeIn K cd (nm++".__init__")=true/\keepIn K (.ref fI)=true
section
variable{K:Frag}{nm:Str}{s:Stmt}{fs:List Str}{C fI N:Addr}{nm' q:Str}{bs bm sub:List Value}{sn:List Str}{ab:Bool}{col:Option Bool}{dd od an:Option Addr}{k0 k1 k2 k3 k5:Option Value}{oc kV dc pm cd ct:Value}{sl:Array (Option Value)}
def na0:∀f∈([]:List Str),findIn K (.ref C) f=some none:=λ_ h=>nomatch h
def na1{f:Str}(h:findIn K (.ref C) f=some none)(r:∀f∈fs,findIn K (.ref C) f=some none):∀g∈f::fs,findIn K (.ref C) g=some none:=λg hg=>by
 rcases mem_cons.mp hg with rfl|hg
 .exact h
 .exact r g hg
def ecI(a:nsIn K mainGlobals nm=some (some (.ref C)))(b:L2.clsAt K nm=some C)(c:K.lookup C=some (excClassObj nm' q C N bs bm true sn sub ab col dd k0 k1 k2 k3 k5 "ValueError.__new__"))(d:ovB bm=true)(e:findIn K (.ref C) "__init__"=some (some (.ref fI)))(f:isFn K (.ref fI)=true)(g:keepIn K (.ref C)=true)
 (h:findIn K (.ref C) "__setattr__"=some (some (.builtin "object.__setattr__"))) (i:findIn K (.ref C) "__getattribute__"=some (some (.builtin "BaseException.__getattribute__"))) (j:findIn K (.ref C) "__getattr__"=some none) (k:findIn K (.ref C) "__class__"=some (some (.builtin "object.__class__")))
 (l:specialIn K (.builtin "object.__class__") "__get__"=some (some (.builtin "getset_descriptor.__get__"))) (m:takesIn K (.builtin "object.__class__")=some true) (n:mroIn K C (.type "object")=some true) (o:∀f∈fs,findIn K (.ref C) f=some none)
 (p:K.lookup fI=some ⟨oc,od,.func (fnOf "__init__" (nm++".__init__") (dA s) (dB s) (dS s) .none kV dc pm an cd ct),sl⟩) (r:codeIn K cd (nm++".__init__")=true) (t:keepIn K (.ref fI)=true):Ec K nm s fs C:=
 ⟨fI,N,nm',q,bs,bm,sub,sn,ab,col,dd,od,an,k0,k1,k2,k3,k5,oc,kV,dc,pm,cd,ct,sl,a,b,c,d,e,f,g,h,i,j,k,l,m,n,o,p,r,t⟩
end
end Ea
namespace Hl
open PySem PySem.W PyProof.Rows
def OX(p:Program)(w:World)(m:Nat)(ann:Option Value):Nat->SharedT->Thread->Option SharedT
 |0,_,_=>none
 |n+1,s,t=>match through t with
  |true=>some s
  |false=>match stepOk m ann t with
   |false=>none
   |true=>match stepT (denote treeTable) p w s t with
    |some (s',t')=>OX p w m ann n s' t'
    |none=>none
theorem NQ{p:Program}{w:World}{m:Nat}{ann:Option Value}:∀{n:Nat} {s s':SharedT} {t:Thread},OX p w m ann n s t=some s'->topRun treeTable p w m ann n s.abs t=some s'.abs
 |0,_,_,_,h=>by cases h
 |n+1,s,s',t,h=>by
  rw[OX]at h;rw[topRun];cases h1:through t with
  |true=>rw[h1]at h;cases h;rfl
  |false=>
   rw[h1]at h;cases h2:stepOk m ann t with
   |false=>rw[h2]at h;cases h
   |true=>
    rw[h2]at h;cases h3:stepT (denote treeTable) p w s t with
    |none=>rw[h3]at h;cases h
    |some r=>obtain⟨s2,t2⟩:=r;rw[h3]at h;rw[stepT_spec h3];exact NQ h
def V2:Nat->List Obj->BT->BT
 |_,[],t=>t
 |n,o::r,t=>V2 (n+1) r (t.ins n o)
def bT(P:Params):BT:=V2 0 (boot_heap P).objs.toList .nil
def cM(P:Params):absHeap (bT P) 11 (boot_heap P).life=boot_heap P:=by kernel_rfl
def f8(P:Params):((boot_heap P).isNs mainGlobals,(boot_heap P).nsMap mainGlobals "__annotations__")=(true,some (.ref 6)):=by kernel_rfl
variable{p q:Program}{loose:List Str}{Xt:Shared->Bool}{α:Type}{Yf:Shared->α}{Ya:World->α}{N M:Nat}
def bN(p q:Program)(loose:List Str)(Xt:Shared->Bool)(Yf:Shared->α)(M:Nat)(w:World)(os:OsState):=
 match OX p w 11 (some (.ref 6)) M ⟨bT w.params,11,(boot_heap w.params).life,Array.mk [],boot_drawn,boot_toks,os⟩ (topStub p)with
 | some s=>(match staticsOk (importedModules p.main.body) (boot_heap w.params) s.abs.heap&&namesBound p s.abs.heap&&gensDone s.abs&&laidKept (boot_heap w.params) s.abs.heap with
  |true=>some (openSeen q loose (importedModules p.main.body) Xt true s.abs,Yf s.abs)
  | false=>none)
 |none=>none
def left(e:opening p=plainProg p.main.scope.names)(f:∀s,fenceModules? p s=some s)(hN:Nat.ble 600 N=true)(hM:Nat.ble M N=true)(h:∀w os,bN p q loose Xt Yf M w os=some (openGood q loose,Ya w)):LeftO p q loose Xt Yf Ya N:=λw=>by
 obtain⟨⟨hp,gs,d,k,os⟩,e1,e2⟩:=i7 (boot_open e hN f w);simp only[Prod.mk.injEq]at e2;obtain⟨rfl,rfl,rfl,rfl⟩:=e2;have hl:=h w os;unfold bN at hl;split at hl
 .next s hs=>
  have r:=topRun_mono (N-M) _ _ _ _ (NQ hs);rw[show M+(N-M)=N by have:=Nat.le_of_ble_eq_true hM;omega]at r;have ea:(SharedT.mk (bT w.params) 11 (boot_heap w.params).life (Array.mk []) boot_drawn boot_toks os).abs=⟨boot_heap w.params,Array.mk [],boot_drawn,boot_toks,os⟩:=by
   show Shared.mk (absHeap (bT w.params) 11 (boot_heap w.params).life) _ _ _ _=_;rw[cM]
  rw[ea]at r;obtain⟨z1,z2⟩:=Prod.mk.inj (f8 w.params);have z3:(boot_heap w.params).objs.size=11:=rfl;split at hl
  .next c=>
   show((fencedOpening treeTable p w N).bind (topFrom treeTable p w N)).map _=_;rw[e1,bind_some];have t:topFrom treeTable p w N ⟨boot_heap w.params,Array.mk [],boot_drawn,boot_toks,os⟩=some s.abs:=by
    unfold topFrom;dsimp only;rw[z1,z2,z3,r];show(match staticsOk (importedModules p.main.body) (boot_heap w.params) s.abs.heap&&namesBound p s.abs.heap&&gensDone s.abs&&laidKept (boot_heap w.params) s.abs.heap with|true=>some s.abs|false=>none)=_;rw[c]
   rw[t];exact hl
  .cases hl
 .cases hl
end Hl
namespace T62
open PySem PySem.W PyProof.Rows Ea
def top(i:Nat):Stmt:=PySem.Challenge.pw_benchdays_k62_whole_prices_bound.main.body.getD i (.Pass ⟨0,0,0,0⟩)
def vw:PySem.Program:={ PySem.Challenge.pw_benchdays_k62_whole_prices_bound with main:={ PySem.Challenge.pw_benchdays_k62_whole_prices_bound.main with body:=[1,2,3,5,6,7,8,9,10,12,13,14,16,17,18,19,20,22,23,25,26,28,29,30,31,32,34,35,36,37,38,39,40,41,42,43,44,45,46,47].map top } }
def Pn(K:Frag):Prop:=Zs K/\Fe K "law" (top 47)/\Fe K "_law_tape" (top 34)/\Fe K "_law_pick" (top 35)/\Fe K "_law_works" (top 36)/\Fe K "_law_wishes" (top 37)/\Fe K "_law_behind" (top 38)/\Fe K "_law_low" (top 39)/\Fe K "_law_paper" (top 40)/\Fe K "_law_bent" (top 41)/\Fe K "_law_drawn" (top 42)/\Fe K "_law_wished" (top 43)/\Fe K "_law_orders" (top 44)/\Fe K "_law_cost" (top 45)/\Fe K "common_divisor" (top 12)/\Fe K "fraction" (top 14)/\Fe K "length_of" (top 16)/\Fe K "weight_of" (top 20)/\Fe K "same_coming" (top 17)/\Fe K "one_coming" (top 18)/\Fe K "refuse_other_costs" (top 19)/\Fe K "weighted_coming" (top 22)/\Fe K "pair_sum_of" (top 23)/\Fe K "gain" (top 28)/\Fe K "is_tuple_of" (top 8)/\Fe K "is_number" (top 5)/\Fe K "is_number_from" (top 6)/\Fe K "is_number_of_work" (top 7)/\Fe K "rises" (top 9)/\Fe K "is_set_of_works" (top 10)/\Fe K "is_fraction" (top 13)/\Fe K "reached" (top 25)/\Fe K "behind" (top 26)/\Fe K "fault_of" (top 29)/\Fe K "look_at_prices" (top 30)/\Fe K "common_bottom" (top 31)/\Fe K "priced" (top 32)/\Fe K "_law_told" (top 46)/\∃cc0,Ec K "NoPaper" (inC (top 2)) ["path","word"] cc0/\nsIn K mainGlobals "NoPaper"=some (some (.ref cc0))/\exmOne K (.ref cc0) (.ref cc0)=some true
def eX{K:Frag}{cc0:Addr}(z:Zs K)(h0:Fe K "law" (top 47))(h1:Fe K "_law_tape" (top 34))(h2:Fe K "_law_pick" (top 35))(h3:Fe K "_law_works" (top 36))(h4:Fe K "_law_wishes" (top 37))(h5:Fe K "_law_behind" (top 38))(h6:Fe K "_law_low" (top 39))(h7:Fe K "_law_paper" (top 40))(h8:Fe K "_law_bent" (top 41))(h9:Fe K "_law_drawn" (top 42))(h10:Fe K "_law_wished" (top 43))(h11:Fe K "_law_orders" (top 44))(h12:Fe K "_law_cost" (top 45))(h13:Fe K "common_divisor" (top 12))(h14:Fe K "fraction" (top 14))(h15:Fe K "length_of" (top 16))(h16:Fe K "weight_of" (top 20))(h17:Fe K "same_coming" (top 17))(h18:Fe K "one_coming" (top 18))(h19:Fe K "refuse_other_costs" (top 19))(h20:Fe K "weighted_coming" (top 22))(h21:Fe K "pair_sum_of" (top 23))(h22:Fe K "gain" (top 28))(h23:Fe K "is_tuple_of" (top 8))(h24:Fe K "is_number" (top 5))(h25:Fe K "is_number_from" (top 6))(h26:Fe K "is_number_of_work" (top 7))(h27:Fe K "rises" (top 9))(h28:Fe K "is_set_of_works" (top 10))(h29:Fe K "is_fraction" (top 13))(h30:Fe K "reached" (top 25))(h31:Fe K "behind" (top 26))(h32:Fe K "fault_of" (top 29))(h33:Fe K "look_at_prices" (top 30))(h34:Fe K "common_bottom" (top 31))(h35:Fe K "priced" (top 32))(h36:Fe K "_law_told" (top 46))(ec_NoPaper:Ec K "NoPaper" (inC (top 2)) ["path","word"] cc0)(ns_NoPaper:nsIn K mainGlobals "NoPaper"=some (some (.ref cc0)))(kt0:exmOne K (.ref cc0) (.ref cc0)=some true):Pn K:=⟨z,h0,h1,h2,h3,h4,h5,h6,h7,h8,h9,h10,h11,h12,h13,h14,h15,h16,h17,h18,h19,h20,h21,h22,h23,h24,h25,h26,h27,h28,h29,h30,h31,h32,h33,h34,h35,h36,_,ec_NoPaper,ns_NoPaper,kt0⟩
local macro_rules | `(tactic| o_head $H) => `(tactic| (refine holds_open (r := PySem.Challenge.rw_benchdays_k62_whole_prices_bound.row) (q := T62.vw) (loose := []) (Xt := λ s => xlAt T62.vw [] s && recOk (RowW.records (OpenRow.toRowW PySem.Challenge.rw_benchdays_k62_whole_prices_bound.row)) s) (XP := XL T62.vw []) (Yf := Hook.obs $H) (Ya := Hook.val $H) (YP := Hook.says $H) (N := 100000) ?hl (Hook.of $H) (Hook.keeps $H) (λ s e => xl_of s (Bool.and_eq_true_iff.mp e).1) XL.keeps (by rfl) (by rfl) (by rfl) (λ s e => recFacts_of (Bool.and_eq_true_iff.mp e).2) (by rfl) (by first | assumption | decide +kernel) (by decide +kernel) ⟨rfl, rfl, rfl, rfl, rfl, by decide +kernel⟩ ?hw ?hc; (case hl => exact Hl.left (M := 10000) (by rfl) (λ s => by rfl) (by decide) (by decide) λ w os => by kernel_rfl)))
set_option maxRecDepth 100000 in
set_option maxHeartbeats 0 in
def early(hG:∀(K:Params->Frag),(∀w:World,Pn (K w.params))->∀d:DefRec,d.name="law"->d.params.defaults=[]->WalkO T62.vw [] (XL T62.vw []) (λw h=>(K w.params).In h) PySem.Challenge.rw_benchdays_k62_whole_prices_bound.row.toRowW d [] (λf vs=>PySem.call f vs)):PySem.Challenge.rw_benchdays_k62_whole_prices_bound.Holds:=by
 w_on;o_law;k_head;(case hw=>w_witness2)
 k_fill
 refine λw s₀ s₁ mg mb G Y=>hG _ ?F _ rfl rfl w s₀ s₁ mg mb G (kIn_of Y)
 case F=>
  intro w;refine' eX ?z ?h0 ?h1 ?h2 ?h3 ?h4 ?h5 ?h6 ?h7 ?h8 ?h9 ?h10 ?h11 ?h12 ?h13 ?h14 ?h15 ?h16 ?h17 ?h18 ?h19 ?h20 ?h21 ?h22 ?h23 ?h24 ?h25 ?h26 ?h27 ?h28 ?h29 ?h30 ?h31 ?h32 ?h33 ?h34 ?h35 ?h36 ?ec_NoPaper ?ns_NoPaper ?kt0
  case z=>(refine' zs1 _ (zs1 _ (zs1 _ (zs1 _ (zs1 _ (zs1 _ (zs1 _ (zs1 _ (zs1 _ (zs1 _ (zs1 _ (zs1 _ (zs1 _ (zs1 _ (zs1 _ (zs1 _ (zs1 _ (zs1 _ (zs1 _ (zs1 _ (zs1 _ (zs0)))))))))))))))))))))<;>k_is)
  case h0|h1|h2|h3|h4|h5|h6|h7|h8|h9|h10|h11|h12|h13|h14|h15|h16|h17|h18|h19|h20|h21|h22|h23|h24|h25|h26|h27|h28|h29|h30|h31|h32|h33|h34|h35|h36=>(refine' feI ?a ?l ?c ?k;case a|l|c|k=>k_is)
  case ec_NoPaper=>(refine' ecI ?a ?b ?c ?d ?e ?f ?g ?h ?i ?j ?k ?l ?m ?n (na1 ?o1 (na1 ?o0 (na0))) ?p ?r ?t;(case a=>k_is);(case c=>k_is);(case d=>decide);(case e=>k_is);(case p=>k_is);(case b=>kernel_rfl);(case f|g|h|i|j|k|l|m|n|o0|o1|r|t=>k_is))
  case ns_NoPaper|kt0=>first|k_is|kernel_rfl
end T62
namespace L2
open PySem PySem.Spec PyProof.Rows
abbrev Key:=Sum Int Str
def VX:Key->Value->Bool
 |.inl k,v=>Value.isInt k v
 |.inr x,v=>Value.isStrOf x v
def eW(w:World):Key->Int
 |.inl k=>hashInt k
 |.inr x=>hashStr w x
def BZ:∀{k:Key} {v:Value},VX k v=true->(∃i t,k=Sum.inl i/\v=Value.int i t)∨(∃x t,k=Sum.inr x/\v=Value.str x t)
 |.inl i,v,h=>by
  obtain⟨t,e⟩:=Value.isInt_shape (k:=i) (v:=v) h;exact .inl ⟨i,t,rfl,e⟩
 |.inr x,v,h=>by
  obtain⟨t,e⟩:=Value.isStrOf_shape (x:=x) (v:=v) h;exact .inr ⟨x,t,rfl,e⟩
def bS(a b:Int):decide ((Sum.inl a:Key)=Sum.inl b)=(a==b):=by
 by_cases e:a=b
 .subst e;simp
 .have h:¬ (Sum.inl a:Key)=Sum.inl b:=λq=>e (Sum.inl.inj q);rw[iW h];exact(beq_eq_false_iff_ne.mpr e).symm
def bP(a b:Str):decide ((Sum.inr a:Key)=Sum.inr b)=decide (a=b):=by
 by_cases e:a=b
 .subst e;simp
 .have h:¬ (Sum.inr a:Key)=Sum.inr b:=λq=>e (Sum.inr.inj q);rw[iW h,iW e]
def bR(a:Int)(b:Str):decide ((Sum.inl a:Key)=Sum.inr b)=false:=iW (λq=>nomatch q)
def bQ(a:Str)(b:Int):decide ((Sum.inr a:Key)=Sum.inl b)=false:=iW (λq=>nomatch q)
def Jj(prog:Program)(w:World):PySem.KeyKind prog w Key where
 is:=VX
 hash:=eW w
 inj:=λv a b ha hb=>by
  rcases BZ ha with⟨i,t,rfl,rfl⟩|⟨x,t,rfl,rfl⟩
  .rcases BZ hb with⟨j,u,rfl,e⟩|⟨y,u,rfl,e⟩
   .injection e with e1 _;rw[e1]
   .exact nomatch e
  .rcases BZ hb with⟨j,u,rfl,e⟩|⟨y,u,rfl,e⟩
   .exact nomatch e
   .injection e with e1 _;rw[e1]
 byValue:=λk v h=>by
  rcases BZ h with⟨i,t,rfl,rfl⟩|⟨x,t,rfl,rfl⟩<;>rfl
 pyHash:=λhv h=>by
  rcases BZ hv with⟨i,t,rfl,rfl⟩|⟨x,t,rfl,rfl⟩
  .exact wpAny_pyHash_int h
  .exact wpAny_pyHash_str h
 eqBool:=λhu hv h=>by
  rcases BZ hu with⟨i,t,rfl,rfl⟩|⟨x,t,rfl,rfl⟩
  .rcases BZ hv with⟨j,u,rfl,rfl⟩|⟨y,u,rfl,rfl⟩
   .rw[bS]at h;exact wpAny_eqBool_int h
   .rw[bR]at h;exact SeqAt.EqAt.int_str i t y u _ _ _ _ h
  .rcases BZ hv with⟨j,u,rfl,rfl⟩|⟨y,u,rfl,rfl⟩
   .rw[bQ]at h;exact SeqAt.EqAt.str_int x t j u _ _ _ _ h
   .rw[bP]at h;exact wpAny_eqBool_str h
 «strs»:=λk x t v h=>by
  rcases BZ h with⟨i,u,rfl,e⟩|⟨y,u,rfl,e⟩
  .exact nomatch e
  .injection e with e1 _
   subst e1;cases v<;>rfl
inductive V where
 |non|bl (b:Bool)|int (i:Int)|str (x:Str)|byt (b:Array UInt8)|flt (b:UInt64)|ref (a:Addr)|ty (n:String)
 deriving DecidableEq
def RelV:V->Value->Prop
 |.non,u=>u=Value.none
 |.bl b,u=>u=Value.bool b
 |.int i,u=>∃t,u=Value.int i t
 |.str x,u=>∃t,u=Value.str x t
 |.byt b,u=>∃t,u=Value.bytes b t
 |.flt b,u=>∃t,u=Value.float b t
 |.ref a,u=>u=Value.ref a
 |.ty n,u=>u=Value.type n
abbrev Vals:List V->List Value->Prop:=Paired RelV
theorem Vals.length{xs:List V}{us:List Value}(r:Vals xs us):xs.length=us.length:=Paired.length r
theorem Vals.get:∀{xs:List V} {us:List Value} {i:Nat} {x:V},Vals xs us->xs[i]?=some x->∃u,us[i]?=some u/\RelV x u
 |_,_,_,_,.nil,e=>by simp at e
 |_,_,0,_,.cons r _,e=>by simp at e;subst e;exact⟨_,rfl,r⟩
 |_,_,i+1,x,.cons _ t,e=>by
  obtain⟨u,h1,h2⟩:=Vals.get (i:=i) (x:=x) t (by simpa using e);exact⟨u,by simpa using h1,h2⟩
theorem Vals.set{x:V}{u:Value}(r:RelV x u):∀{xs:List V} {us:List Value} (i:Nat),Vals xs us->Vals (xs.set i x) (us.set i u)
 |_,_,_,.nil=>.nil
 |_,_,0,.cons _ t=>.cons r t
 |_,_,i+1,.cons q t=>.cons q (Vals.set r i t)
theorem Vals.append:∀{xs ys:List V} {us ws:List Value},Vals xs us->Vals ys ws->Vals (xs++ys) (us++ws)
 |_,_,_,_,.nil,s=>s
 |_,_,_,_,.cons r t,s=>.cons r (Vals.append t s)
theorem Vals.take:∀{xs:List V} {us:List Value} (n:Nat),Vals xs us->Vals (xs.take n) (us.take n)
 |_,_,0,_=>.nil
 |_,_,_+1,.nil=>.nil
 |_,_,n+1,.cons r t=>.cons r (Vals.take n t)
theorem Vals.drop:∀{xs:List V} {us:List Value} (n:Nat),Vals xs us->Vals (xs.drop n) (us.drop n)
 |_,_,0,r=>r
 |_,_,_+1,.nil=>.nil
 |_,_,n+1,.cons _ t=>Vals.drop n t
def Uz:Option V->Option Value->Prop
 |some v,some u=>RelV v u
 |none,none=>True
 |_,_=>False
def KV{κ:Type}:List (κ×V)->List (κ×Value)->Prop:=Paired λ(p:κ×V) (q:κ×Value)=>p.1=q.1/\RelV p.2 q.2
def kV:Key->V
 |.inl i=>.int i
 |.inr x=>.str x
inductive HO where
 /-- a list -/
 |lst (xs:List V)
 /-- a tuple (never changes) -/
 |tup (xs:List V)
 /-- a dict whose keys are ints and texts;one whose keys are tuples of ints and texts (the empty one is both) -/
 |dK (kvs:List (Key×V))|dT (kvs:List (List Key×V))
 /-- a set of ints: its members,its size -/
 |set (S:Int->Bool) (n:Nat)
 /-- an instance of the class at C,its dict at dx,its attributes -/
 |ins (C dx:Addr) (fs:List (Str×V))
 /-- the dict of the instance at x -/
 |own (x:Addr)
 /-- the dict of an exception -/
 |xd (fs:List (Str×V))
 /-- a bound method,f of x -/
 |met (f x:Addr)
 /-- a range object lo,lo+1,.. below hi -/
 |rng (lo hi:Int)
 /-- a thing that is known to the object (the script;a dict while a loop walks it): read,never written while it is so -/
 |frz (o:Obj) (u:HO)
 /-- a code object's table -/
 |tbl (ps:Array Value)
 /-- any other thing,by what is true of its one object (a def of one's own: SetO a S n:=HO.ext λh=>..) -/
 |ext (φ:Heap->Prop)
abbrev Hp:=Addr->Option HO
def upd(H:Hp)(a:Addr)(o:HO):Hp:=λb=>if b=a then some o else H b
def AJ{H:Hp}{a:Addr}{o:HO}:upd H a o a=some o:=by unfold upd;rw[i9 rfl]
def AF{H:Hp}{a b:Addr}{o:HO}(h:b≠a):upd H a o b=H b:=by unfold upd;rw[ic h]
def Ac{H:Hp}{a b:Addr}{o:HO}(h:H a=some o)(h':H b=none):a≠b:=by
 intro e;subst e;rw[h]at h';cases h'
def IsTupD(h:Heap)(a:Addr)(items:Array Value):Prop:=∃o,h.get? a=some o/\o.cls=.type "tuple"/\(∃n,o.data=.seq items n)/\o.dict=none
def IsTupD.t{h:Heap}{a:Addr}{items:Array Value}(x:IsTupD h a items):IsTup h a items:=let ⟨o,e,c,d,_⟩:=x;⟨o,e,c,d⟩
def IsTupD.new(h:Heap)(items:Array Value):IsTupD (h.push { cls:=.type "tuple",data:=.seq items }) h.objs.size items:=⟨_,Heap.get?_push_size _ rfl,rfl,⟨_,rfl⟩,rfl⟩
section
variable(P:Program)(w:World)
def ObjOk(H:Hp)(h:Heap)(a:Addr):HO->Prop
 |.lst xs=>xs.length<=sizeLine/\∃(its:List Value) (n:Nat),Vals xs its/\h.get? a=some { cls:=.type "list",data:=.seq its.toArray n }
 |.tup xs=>xs.length<=sizeLine/\∃its:List Value,Vals xs its/\IsTupD h a its.toArray
 |.dK kvs=>kvs.length<=sizeLine/\(a==sysModules)=false/\∃vs,KV kvs vs/\h.DictOf (Jj P w) a vs
 |.dT kvs=>kvs.length<=sizeLine/\(a==sysModules)=false/\∃xs:List (List Key×Addr×Value),
  Paired (λ(p:List Key×V) (q:List Key×Addr×Value)=>p.1=q.1/\H q.2.1=some (.tup (p.1.map kV))/\RelV p.2 q.2.2) kvs xs /\
  ∃o es ep,h.get? a=some o/\o.ExactDict/\o.data=.dict es ep/\es.toList=xs.map (entryOfKey (tupleKind (Jj P w)))/\(xs.map (·.1)).Nodup
 |.set S n=>h.SetOf (intKind P w) a S n
 |.ins C dx fs=>H dx=some (.own a)/\fs.length<=1000/\dx≠a/\h.get? a=some (PySem.W.instObj C dx)/\
  ∃mA,h.Ns1 dx mA/\(∀f,Uz (fs.lookup f) (mA f))/\PySem.Within mA (fs.map (·.1))
 |.own _=>∃o,h.get? a=some o
 |.xd fs=>∃mA,h.Ns1 a mA/\∀f,Uz (fs.lookup f) (mA f)
 |.rng lo hi=>∃t u v,h.get? a=some { cls:=.type "range",data:=.fields #[.int lo t,.int hi u,.int 1 v] }
 |.frz o u=>h.get? a=some o/\ObjOk H h a u
 |.tbl ps=>h.get? a=some { cls:=.none,data:=.fields ps }
 |.met f x=>h.get? a=some (PySem.W.methodObj (.ref f) (.ref x))
 |.ext φ=>φ h/\(∃o,h.get? a=some o)/\∀h1 h2:Heap,φ h1->(∀o,h1.get? a=some o->h2.get? a=some o)->φ h2
def HOk(H:Hp)(h:Heap):Prop:=∀a o,H a=some o->ObjOk P w H h a o
end
section
variable{P:Program}{w:World}{H H':Hp}{h h':Heap}{a:Addr}{o:HO}
def ObjOk.lt(x:ObjOk P w H h a o):a<h.objs.size:=by
 cases o with
 |lst xs=>obtain⟨_,_,_,_,e⟩:=x;exact Heap.lt_size e
 |tup xs=>obtain⟨_,_,_,o,e,_⟩:=x;exact Heap.lt_size e
 |dK kvs=>obtain⟨_,_,_,_,o,_,_,e,_⟩:=x;exact Heap.lt_size e
 |dT kvs=>obtain⟨_,_,_,_,o,_,_,e,_⟩:=x;exact Heap.lt_size e
 |set S n=>obtain⟨o,_,_,_,e,_⟩:=x;exact Heap.lt_size e
 |ins C dx fs=>obtain⟨_,_,_,e,_⟩:=x;exact Heap.lt_size e
 |own y=>obtain⟨_,e⟩:=x;exact Heap.lt_size e
 |xd fs=>obtain⟨_,⟨_,_,_,e,_⟩,_⟩:=x;exact Heap.lt_size e
 |rng lo hi=>obtain⟨_,_,_,e⟩:=x;exact Heap.lt_size e
 |frz ob u=>obtain⟨e,_⟩:=x;exact Heap.lt_size e
 |tbl ps=>exact Heap.lt_size (show h.get? a=some _ from x)
 |met f y=>exact Heap.lt_size (show h.get? a=some _ from x)
 |ext φ=>obtain⟨_,⟨_,e⟩,_⟩:=x;exact Heap.lt_size e
theorem Paired.mapP{α β:Type}{F G:α->β->Prop}:∀{l₁:List α} {l₂:List β},Paired F l₁ l₂->(∀a b,F a b->G a b)->Paired G l₁ l₂
 |_,_,.nil,_=>.nil
 |_,_,.cons r t,f=>.cons (f _ _ r) (Paired.mapP t f)
def ObjOk.stay(x:ObjOk P w H h a o)(k:∀b u,(b=a∨H b=some (.own a))->h.get? b=some u->h'.get? b=some u)
 (ho:∀b,H b=some (.own a)->H' b=some (.own a)) (ht:∀b xs,H b=some (.tup xs)->H' b=some (.tup xs)):ObjOk P w H' h' a o:=by
 induction o with
 |lst xs=>obtain⟨z,its,n,r,e⟩:=x;exact⟨z,its,n,r,k _ _ (.inl rfl) e⟩
 |tup xs=>obtain⟨z,its,r,ob,e,c⟩:=x;exact⟨z,its,r,ob,k _ _ (.inl rfl) e,c⟩
 |dK kvs=>obtain⟨z,y,vs,r,ob,es,ep,e,c⟩:=x;exact⟨z,y,vs,r,ob,es,ep,k _ _ (.inl rfl) e,c⟩
 |dT kvs=>
  obtain⟨z,y,xs,r,ob,es,ep,e,c⟩:=x;exact⟨z,y,xs,Paired.mapP r λp q z=>⟨z.1,ht _ _ z.2.1,z.2.2⟩,ob,es,ep,k _ _ (.inl rfl) e,c⟩
 |set S n=>obtain⟨ob,es,ep,t,e,c⟩:=x;exact⟨ob,es,ep,t,k _ _ (.inl rfl) e,c⟩
 |ins C dx fs=>
  obtain⟨d,z,ne,e,mA,⟨od,es,ep,e2,c⟩,r⟩:=x;exact⟨ho _ d,z,ne,k _ _ (.inl rfl) e,mA,⟨od,es,ep,k _ _ (.inr d) e2,c⟩,r⟩
 |own y=>obtain⟨ob,e⟩:=x;exact⟨ob,k _ _ (.inl rfl) e⟩
 |xd fs=>obtain⟨mA,⟨od,es,ep,e,c⟩,r⟩:=x;exact⟨mA,⟨od,es,ep,k _ _ (.inl rfl) e,c⟩,r⟩
 |rng lo hi=>obtain⟨t,u,v,e⟩:=x;exact⟨t,u,v,k _ _ (.inl rfl) e⟩
 |frz ob u ih=>obtain⟨e,q⟩:=x;exact⟨k _ _ (.inl rfl) e,ih q⟩
 |tbl ps=>
  have e:h.get? a=some { cls:=.none,data:=.fields ps }:=x;show h'.get? a=some { cls:=.none,data:=.fields ps };exact k a _ (.inl rfl) e
 |met f y=>
  have e:h.get? a=some (PySem.W.methodObj (.ref f) (.ref y)):=x;show h'.get? a=some (PySem.W.methodObj (.ref f) (.ref y));exact k a _ (.inl rfl) e
 |ext φ=>obtain⟨p,⟨o,e⟩,st⟩:=x;exact⟨st _ _ p λo q=>k _ _ (.inl rfl) q,⟨o,k _ _ (.inl rfl) e⟩,st⟩
theorem HOk.lt(x:HOk P w H h)(e:H a=some o):a<h.objs.size:=(x a o e).lt
def HOk.fresh(x:HOk P w H h)(e:h.objs.size<=a):H a=none:=by
 cases q:H a with
 |none=>rfl
 |some u=>exact absurd (iC (x.lt q) e) (iN _)
def HOk.kept(x:HOk P w H h)(k:∀b u,h.get? b=some u->h'.get? b=some u):HOk P w H h':=λa o e=>
 (x a o e).stay (λb u _ q=>k b u q) (λ_ q=>q) λ_ _ q=>q
def HOk.laid(x:HOk P w H h)(k:∀b u,h.get? b=some u->h'.get? b=some u)(hp:h.objs.size<=a)(new:ObjOk P w (upd H a o) h' a o):HOk P w (upd H a o) h':=λb u e=>by
 have hn:=x.fresh hp;by_cases hb:b=a
 .subst hb;rw[AJ]at e;cases e;exact new
 .rw[AF hb]at e;exact(x b u e).stay (λc v _ q=>k c v q) (λc q=>by rw[AF (Ac q hn)];exact q) λc xs q=>by rw[AF (Ac q hn)];exact q
end
def Rd(H:Hp)(a:Addr)(u:HO):Prop:=H a=some u∨∃o,H a=some (.frz o u)
def Rd.ok{P:Program}{w:World}{H:Hp}{h:Heap}{a:Addr}{u:HO}(r:Rd H a u)(x:HOk P w H h):ObjOk P w H h a u:=by
 rcases r with r|⟨o,r⟩
 .exact x a u r
 .obtain⟨_,q⟩:=x a _ r;exact q
def Mut:Option HO->Prop
 |some (.lst _)=>True
 |some (.dK _)=>True
 |some (.dT _)=>True
 |some (.set _ _)=>True
 |some (.ins _ _ _)=>True
 |some (.ext _)=>True
 |_=>False
section
variable{P:Program}{w:World}{H:Hp}{h h':Heap}{x e:Addr}{o':HO}
def HOk.write(ok:HOk P w H h)(mu:Mut (H x))(he:e=x∨H e=some (.own x))(k:∀b u,b≠e->h.get? b=some u->h'.get? b=some u)(heo:∃u,h'.get? e=some u)
 (new:ObjOk P w (upd H x o') h' x o'):HOk P w (upd H x o') h':=λb u q=>by
 have nown:∀c y,H c=some (.own y)->c≠x:=λc y r z=>by subst z;rw[r]at mu;exact mu
 have ntup:∀c xs,H c=some (.tup xs)->c≠x:=λc xs r z=>by subst z;rw[r]at mu;exact mu
 by_cases hb:b=x
 .subst hb;rw[AJ]at q;cases q;exact new
 .rw[AF hb]at q;by_cases hbe:b=e
  .have q':H b=some (.own x):=by
    rcases he with z|z
    .exact absurd (hbe.trans z) hb
    .rw[hbe];exact z
   rw[q]at q';cases q';obtain⟨v,hv⟩:=heo;exact⟨v,by rw[hbe];exact hv⟩
  .refine(ok b u q).stay (λc v hc r=>k c v ?_ r) (λc r=>by rw[AF (nown c b r)];exact r) λc xs r=>by rw[AF (ntup c xs r)];exact r
   rcases hc with rfl|hc
   .exact hbe
   .rintro rfl;rcases he with z|z
    .exact nown c b hc z
    .rw[hc]at z;cases z;exact hb rfl
end
structure Un(fs ex:List Addr)(H H':Hp)(h h':Heap):Prop where
 keep:∀b o,h.get? b=some o->H b=none->b∉fs->b∉ex->h'.get? b=some o
 slot:∀b o,h.get? b=some o->H b=none->b∈fs->b∉ex->∃sl,h'.get? b=some { o with slots:=sl }
 free:∀b o,h.get? b=some o->H b=none->b∉ex->H' b=none
 there:∀b o,h.get? b=some o->b∉ex->∃o',h'.get? b=some o'
 tups:∀b xs,H b=some (.tup xs)->H' b=some (.tup xs)
 frzs:∀b o u,H b=some (.frz o u)->H' b=some (.frz o u)
 tbls:∀b ps,H b=some (.tbl ps)->∃more,H' b=some (.tbl (ps++more))
section
variable{fs fs' ex ex':List Addr}{H H1 H2:Hp}{h h1 h2 h':Heap}{a x e:Addr}{o:HO}
def Un.any(u:Un fs ex H H1 h h1){b:Addr}{ob:Obj}(q:h.get? b=some ob)(n:H b=none)(hx:b∉ex):∃sl,h1.get? b=some { ob with slots:=sl }:=by
 by_cases hb:b∈fs
 .exact u.slot b ob q n hb hx
 .exact⟨ob.slots,u.keep b ob q n hb hx⟩
def Un.kept(k:∀b u,h.get? b=some u->h'.get? b=some u):Un fs ex H H h h':=
 ⟨λb ob q _ _ _=>k b ob q,λb ob q _ _ _=>⟨ob.slots,k b ob q⟩,λ_ _ _ n _=>n,λb ob q _=>⟨ob,k b ob q⟩,λ_ _ q=>q,λ_ _ _ q=>q,λ_ ps q=>⟨#[],by rw[q];simp⟩⟩
def Un.refl:Un fs ex H H h h:=Un.kept λ_ _ q=>q
def Un.laid(k:∀b u,h.get? b=some u->h'.get? b=some u)(hp:h.objs.size<=a)(hn:H a=none):Un fs ex H (upd H a o) h h' where
 keep:=λb u q _ _ _=>k b u q
 slot:=λb u q _ _ _=>⟨u.slots,k b u q⟩
 free:=λb u q n _=>by rw[AF (iq (iC (Heap.lt_size q) hp))];exact n
 there:=λb u q _=>⟨u,k b u q⟩
 tups:=λb xs q=>by rw[AF (Ac q hn)];exact q
 frzs:=λb u xs q=>by rw[AF (Ac q hn)];exact q
 tbls:=λb ps q=>⟨#[],by rw[AF (Ac q hn),q];simp⟩
def Un.write(mu:Mut (H x))(he:e=x∨H e=some (.own x))(k:∀b u,b≠e->h.get? b=some u->h'.get? b=some u)(heo:∃u,h'.get? e=some u):Un fs ex H (upd H x o) h h':=by
 have hx:∀b,H b=none->b≠x:=λb n z=>by subst z;rw[n]at mu;exact mu
 have hb:∀b,H b=none->b≠e:=λb n z=>by
  subst z;rcases he with r|r
  .exact hx b n r
  .rw[n]at r;cases r
 have hm:∀b u,H b=some u->¬ Mut (some u)->b≠x:=λb u q nm z=>by subst z;rw[q]at mu;exact nm mu
 refine⟨λb u q n _ _=>k b u (hb b n) q,λb u q n _ _=>⟨u.slots,k b u (hb b n) q⟩,λb u q n _=>by rw[AF (hx b n)];exact n,λb u q _=>?_,
  λb xs q=>by rw[AF (hm b _ q λz=>z)];exact q,λb u xs q=>by rw[AF (hm b _ q λz=>z)];exact q,λb ps q=>⟨#[],by rw[AF (hm b _ q λz=>z),q];simp⟩⟩
 by_cases hbe:b=e
 .subst hbe;exact heo
 .exact⟨u,k b u hbe q⟩
end
def trk(h:Heap)(H:Hp):List Addr:=(List.range h.objs.size).filter λa=>(H a).isSome
def GB(h:Heap)(H:Hp):Heap:=PySem.W.hideAll h (trk h H)
def Rt(h:Heap)(H:Hp):(GB h H).objs.size=h.objs.size:=PySem.W.hideAll_size _ _
def UU{h:Heap}{H:Hp}{b:Addr}{o:Obj}(e:h.get? b=some o)(n:H b=none):(GB h H).get? b=some o:=
 PySem.W.hideAll_get _ e λhm=>by
  have q:(H b).isSome=true:=(mem_filter.mp hm).2;rw[n]at q;simp at q
def Xo{h:Heap}{H:Hp}{b:Addr}{o:Obj}(e:(GB h H).get? b=some o):h.get? b=some o/\H b=none:=by
 have e':h.get? b=some o:=PySem.W.of_hideAll (trk h H) e;refine⟨e',?_⟩;cases q:H b with
 |none=>rfl
 |some x=>
  have hm:b∈trk h H:=mem_filter.mpr ⟨List.mem_range.mpr (Heap.lt_size e'),by simp[q]⟩;have z:(GB h H).get? b=none:=PySem.W.hideAll_none (trk h H) hm;rw[z]at e;cases e
def YW(g h:Heap)(L:Addr):List (Addr×Obj):=(List.range h.objs.size).filterMap λa=>if a=L∨(g.get? a).isSome=true then none else(h.get? a).map λo=>(a,o)
def rest(g h:Heap)(L d:Addr):List (Addr×Obj):=(YW g h L).filter λp=>decide (p.1≠d)
structure Mod(K:Frag)(mg:Str->Option Value)(base:Heap):Prop where
 kin:K.In base
 glob:base.Ns mainGlobals mg
 blt:∃mb,base.Ns builtinsNs mb/\∀x:Str,x≠"__name__"->mb x=bootBuiltins x
 nolimit:base.NoLimit
structure Cx where
 prog:Program
 w:World
 K:Frag
 mg:Str->Option Value
 base:Heap
 A:Around
 N:List Str
 s₀:Shared
 H₀:Hp
 env:Env
 outer:List Env
 stack:List Env
 ex:List Addr
 fn:Str->Bool
 calm:Bool
 pn:List (Addr×Obj)
 xe:Value->Shared->Prop
def frs(l:List Env):List Addr:=l.filterMap (·.frame)
abbrev Cx.fs(X:Cx):List Addr:=frs X.outer
def Vis(sc:Scope)(x:Str):Prop:=sc.names.lookup x=some .local∨sc.names.lookup x=some .cell∨sc.names.lookup x=some .free
def Loc(sc:Scope)(x:Str):Prop:=sc.names.lookup x=some .local∨sc.names.lookup x=some .cell
def fE(env:Env)(h:Heap)(m:Str->Option Value)(x:Str)(u:Value):Prop:=
 (env.kindOf x=some .local/\m x=some u)∨((env.kindOf x=some .cell∨env.kindOf x=some .free)/\∃c,env.cells.lookup x=some c/\h.IsCell c (some u))
structure Cx.Ok(X:Cx):Prop where
 mod:Mod X.K X.mg X.base
 kind:X.env.scope.kind=.function
 glob:X.env.globals=mainGlobals
 blt:X.env.builtins=builtinsNs
 above:X.s₀.heap.objs.size<=X.env.locals
 inj:∀x y c,X.env.cells.lookup x=some c->X.env.cells.lookup y=some c->x=y
 has:∀x,(X.env.kindOf x=some .cell∨X.env.kindOf x=some .free)->∃c,X.env.cells.lookup x=some c
 cab:∀x c,X.fn x=true->X.env.cells.lookup x=some c->X.s₀.heap.objs.size<=c
 hd:X.calm=true->X.A.handled=none
 frames:X.A.frames=some X.stack
 stk:X.stack=X.outer∨(X.stack=X.env::X.outer/\X.env.frame=some X.env.locals)
 exf:∀b∈X.ex,b≠X.env.locals/\∀x c,X.env.cells.lookup x=some c->c≠b
 bs:∀b o,X.base.get? b=some o->X.s₀.heap.get? b=some o/\X.H₀ b=none
 bsz:X.base.objs.size<=X.s₀.heap.objs.size
 noex:∀b o,X.base.get? b=some o->b∉X.ex
 exfs:∀b∈X.ex,b∉X.fs
 funs:X.s₀.heap.FunFrames X.base X.outer
 frf:∀b∈X.fs,X.H₀ b=none
structure Inv(X:Cx)(pins:List (Addr×Obj))(σ:List (Option V))(H:Hp)(s:Shared):Prop where
 ok:X.Ok
 os:s.os=X.s₀.os
 bare:AllBare s.gens
 base:Un X.fs X.ex X.H₀ H X.s₀.heap s.heap
 loc:∃m,s.heap.Ns X.env.locals m/\∀(i:Nat) (x:Str) (v:V),X.N[i]?=some x->σ[i]?=some (some v)->Vis X.env.scope x->∃u,RelV v u/\fE X.env s.heap m x u
 cell:∀x c,X.env.cells.lookup x=some c->∃v,s.heap.IsCell c v
 free:H X.env.locals=none
 freeC:∀x c,X.env.cells.lookup x=some c->H c=none
 pin:∀p∈X.pn++pins,s.heap.get? p.1=some p.2/\H p.1=none/\p.1≠X.env.locals/\p.1∉X.fs/\∀v,p.2.data≠.cell v
 hok:HOk X.prog X.w H s.heap
 len:σ.length=X.N.length
section
variable{X:Cx}{pins:List (Addr×Obj)}{σ:List (Option V)}{H H':Hp}{s:Shared}{h':Heap}
def Cx.Ok.nofr(ok:X.Ok){b:Addr}{o:Obj}(e:X.base.get? b=some o):b∉X.fs:=λhb=>by
 have:=(ok.funs.mem hb).1;rw[e]at this;cases this
theorem Inv.bs(I:Inv X pins σ H s):∀b o,X.base.get? b=some o->s.heap.get? b=some o/\H b=none:=λb o e=>
 ⟨I.base.keep b o (I.ok.bs b o e).1 (I.ok.bs b o e).2 (I.ok.nofr e) (I.ok.noex b o e),I.base.free b o (I.ok.bs b o e).1 (I.ok.bs b o e).2 (I.ok.noex b o e)⟩
def Inv.bk(I:Inv X pins σ H s):∀b o,X.base.get? b=some o->s.heap.get? b=some o:=λb o e=>(I.bs b o e).1
theorem Inv.mod(I:Inv X pins σ H s):Mod X.K X.mg X.base:=I.ok.mod
def Inv.kIn(I:Inv X pins σ H s):X.K.In s.heap:=I.ok.mod.kin.keeps I.bk
def Inv.fr(I:Inv X pins σ H s):∃m,Fr X.base X.env.locals s.heap m:=
 let ⟨m,hn,_⟩:=I.loc
 ⟨m,hn,I.bk,iJ I.ok.bsz I.ok.above⟩
theorem Inv.lt(I:Inv X pins σ H s):X.env.locals<s.heap.objs.size:=let ⟨_,hn,_⟩:=I.loc;hn.lt
def Inv.sz(I:Inv X pins σ H s):X.s₀.heap.objs.size<=s.heap.objs.size:=iJ I.ok.above (le_of_lt I.lt)
def Inv.nofs(I:Inv X pins σ H s){a:Addr}(h:s.heap.objs.size<=a):a∉X.fs:=λhb=>by
 obtain⟨_,o,ho,_⟩:=I.ok.funs.mem hb;exact absurd (iC (Heap.lt_size ho) (iJ I.sz h)) (iN _)
def Inv.cne(I:Inv X pins σ H s):∀x c,X.env.cells.lookup x=some c->c≠X.env.locals:=λx c e z=>by
 obtain⟨v,o,ho,hd⟩:=I.cell x c e;obtain⟨m,⟨o',es,ep,ho',hd',_⟩,_⟩:=I.loc;rw[z,ho']at ho;cases ho;rw[hd']at hd;cases hd
theorem Inv.funs(I:Inv X pins σ H s):s.heap.FunFrames X.base X.outer:=by
 have all:∀(l:List Env),(∀b∈frs l,b∈X.fs)->X.s₀.heap.FunFrames X.base l->s.heap.FunFrames X.base l:=by
  intro l
  induction l with
  |nil=>intro _ _;trivial
  |cons env r ih=>
   intro hs hl;obtain⟨hk,⟨L,o,hf,hn,ho,hd⟩,hr⟩:=hl;have hL:L∈X.fs:=hs L (by unfold frs;rw[jb,hf];exact iR);obtain⟨sl,e⟩:=I.base.slot L o ho (I.ok.frf L hL) hL λz=>I.ok.exfs L z hL;exact⟨hk,⟨L,_,hf,hn,e,hd⟩,ih (λb hb=>hs b (by unfold frs;rw[jb,hf];exact iK _ hb)) hr⟩
 exact all X.outer (λ_ hb=>hb) I.ok.funs
theorem Inv.stack(I:Inv X pins σ H s):s.heap.FunFrames X.base X.stack:=by
 rcases I.ok.stk with e|⟨e,hf⟩
 .rw[e];exact I.funs
 .rw[e];obtain⟨m,hn,_⟩:=I.loc;refine .cons (by rw[I.ok.kind];decide) hf hn ?_ I.funs;exact Heap.get?_none_of_le (iJ I.ok.bsz I.ok.above)
def Inv.stkSub(I:Inv X pins σ H s):∀b∈frs X.stack,b∈X.env.locals::X.fs:=λb hb=>by
 rcases I.ok.stk with e|⟨e,hf⟩
 .rw[e]at hb;exact iK _ hb
 .rw[e]at hb;unfold frs at hb;rw[jb,hf]at hb;exact hb
def Inv.stkFree(I:Inv X pins σ H s):∀b∈frs X.stack,H b=none:=λb hb=>by
 rcases mem_cons.mp (I.stkSub b hb)with e|hb
 .rw[e];exact I.free
 .obtain⟨_,o,ho,_⟩:=I.ok.funs.mem hb;exact I.base.free b o ho (I.ok.frf b hb) λz=>I.ok.exfs b z hb
def Inv.step{g':Array GenState}{t':Nat}{d':Drawn}{ch:List Addr}(I:Inv X pins σ H s)
 (hch:∀b∈ch,(b∈X.ex∨X.s₀.heap.objs.size<=b)/\b≠X.env.locals/\(∀x c,X.env.cells.lookup x=some c->c≠b)/\∀p∈X.pn++pins,p.1≠b)
 (keep:∀b o,b≠X.env.locals->b∉X.fs->b∉ch->s.heap.get? b=some o->H b=none->h'.get? b=some o)
 (slot:∀b o,b≠X.env.locals->b∈X.fs->b∉ch->s.heap.get? b=some o->H b=none->∃sl,h'.get? b=some { o with slots:=sl }) (free:∀b o,b∉ch->s.heap.get? b=some o->H b=none->H' b=none)
 (there:∀b o,b∉ch->s.heap.get? b=some o->∃o',h'.get? b=some o')
 (tups:∀b xs,H b=some (.tup xs)->H' b=some (.tup xs)) (frzs:∀b o u,H b=some (.frz o u)->H' b=some (.frz o u)) (tbls:∀b ps,H b=some (.tbl ps)->∃more,H' b=some (.tbl (ps++more)))
 (ns:∀m,s.heap.Ns X.env.locals m->h'.Ns X.env.locals m) (hok:HOk X.prog X.w H' h') (hg:AllBare g'):
 Inv X pins σ H' { s with heap:=h',gens:=g',drawn:=d',toks:=t' }:=by
 have neL:∀b o,X.s₀.heap.get? b=some o->b≠X.env.locals:=λb o e=>iq (iC (Heap.lt_size e) I.ok.above);have neC:∀b o,X.s₀.heap.get? b=some o->b∉X.ex->b∉ch:=λb o e hx hb=>by
  rcases(hch b hb).1 with z|z
  .exact hx z
  .exact absurd (iC (Heap.lt_size e) z) (iN _)
 have cellK:∀x c,X.env.cells.lookup x=some c->∀v,s.heap.IsCell c v->h'.IsCell c v:=λx c e v ⟨o,ho,hd⟩=>by
  have nch:c∉ch:=λz=>(hch c z).2.2.1 x c e rfl;by_cases hc:c∈X.fs
  .obtain⟨sl,q⟩:=slot c o (I.cne x c e) hc nch ho (I.freeC x c e);exact⟨_,q,hd⟩
  .exact⟨o,keep c o (I.cne x c e) hc nch ho (I.freeC x c e),hd⟩
 refine⟨I.ok,I.os,hg,⟨λb o e n hb hx=>?_,λb o e n hb hx=>?_,λb o e n hx=>?_,λb o e hx=>?_,λb xs e=>tups b xs (I.base.tups b xs e),λb o xs e=>frzs b o xs (I.base.frzs b o xs e),λb ps e=>?_⟩,?_,λx c e=>?_,?_,λx c e=>?_,λp hp=>?_,hok,I.len⟩
 .exact keep b o (neL b o e) hb (neC b o e hx) (I.base.keep b o e n hb hx) (I.base.free b o e n hx)
 .obtain⟨sl,e1⟩:=I.base.slot b o e n hb hx;obtain⟨sl',e2⟩:=slot b _ (neL b o e) hb (neC b o e hx) e1 (I.base.free b o e n hx);exact⟨sl',e2⟩
 .obtain⟨o',e1⟩:=I.base.there b o e hx;exact free b o' (neC b o e hx) e1 (I.base.free b o e n hx)
 .obtain⟨o',e1⟩:=I.base.there b o e hx;exact there b o' (neC b o e hx) e1
 .obtain⟨m1,e1⟩:=I.base.tbls b ps e;obtain⟨m2,e2⟩:=tbls b _ e1;exact⟨m1++m2,by rw[e2,Array.append_assoc]⟩
 .obtain⟨m,hn,hl⟩:=I.loc;refine⟨m,ns m hn,λi x v e1 e2 e3=>?_⟩;obtain⟨u,r,l⟩:=hl i x v e1 e2 e3;refine⟨u,r,?_⟩;rcases l with l|⟨k,c,e,z⟩
  .exact .inl l
  .exact .inr ⟨k,c,e,cellK x c e _ z⟩
 .obtain⟨v,z⟩:=I.cell x c e;exact⟨v,cellK x c e v z⟩
 .obtain⟨m,⟨o,_,_,ho,_⟩,_⟩:=I.loc;exact free _ o (λz=>(hch _ z).2.1 rfl) ho I.free
 .obtain⟨v,o,ho,hd⟩:=I.cell x c e;exact free c o (λz=>(hch c z).2.2.1 x c e rfl) ho (I.freeC x c e)
 .obtain⟨e,n,ne,nf,d⟩:=I.pin p hp;have nch:p.1∉ch:=λz=>(hch p.1 z).2.2.2 p hp rfl;exact⟨keep p.1 p.2 ne nf nch e n,free p.1 p.2 nch e n,ne,nf,d⟩
def Inv.un{t':Nat}(I:Inv X pins σ H s)(u:Un X.fs [] H H' s.heap h')(hok:HOk X.prog X.w H' h'):Inv X pins σ H' { s with heap:=h',toks:=t' }:=by
 obtain⟨m,⟨o,es,ep,ho,r⟩,_⟩:=id I.loc;obtain⟨sl,hL⟩:=u.any ho I.free (by simp);exact I.step (g':=s.gens) (d':=s.drawn) (ch:=[]) (λ_ z=>nomatch z) (λb o _ hb _ e n=>u.keep b o e n hb (by simp)) (λb o _ hb _ e n=>u.slot b o e n hb (by simp)) (λb o _ e n=>u.free b o e n (by simp)) (λb o _ e=>u.there b o e (by simp)) u.tups u.frzs u.tbls (λm' hm=>by
  obtain⟨o',es',ep',ho',r'⟩:=hm;rw[ho]at ho';cases ho';exact⟨_,es',ep',hL,r'⟩) hok I.bare
def Inv.call{g':Array GenState}{t':Nat}{d':Drawn}{ch:List Addr}(I:Inv X pins σ H s)(u:Un (frs X.stack) ch H H' s.heap h')(hok:HOk X.prog X.w H' h')(hg:AllBare g')
 (hch:∀b∈ch,(b∈X.ex∨X.s₀.heap.objs.size<=b)/\b≠X.env.locals/\(∀x c,X.env.cells.lookup x=some c->c≠b)/\∀p∈X.pn++pins,p.1≠b):
 Inv X pins σ H' { s with heap:=h',gens:=g',drawn:=d',toks:=t' }:=by
 obtain⟨m,⟨o,es,ep,ho,r⟩,_⟩:=id I.loc;obtain⟨sl,hL⟩:=u.any ho I.free λz=>(hch _ z).2.1 rfl;exact I.step (ch:=ch) hch (λb o hL hb hc e n=>u.keep b o e n (λz=>(mem_cons.mp (I.stkSub b z)).elim hL hb) hc) (λb o _ _ hc e n=>u.any e n hc) (λb o hc e n=>u.free b o e n hc) (λb o hc e=>u.there b o e hc) u.tups u.frzs u.tbls (λm' hm=>by
  obtain⟨o',es',ep',ho',r'⟩:=hm;rw[ho]at ho';cases ho';exact⟨_,es',ep',hL,r'⟩) hok hg
def Inv.turned{t':Nat}{it:Addr}(I:Inv X pins σ H s)(k:∀b o,b≠it->s.heap.get? b=some o->h'.get? b=some o)(hn:H it=none)(hL:it≠X.env.locals)
 (h1:it∈X.ex∨X.s₀.heap.objs.size<=it) (h2:∀x c,X.env.cells.lookup x=some c->c≠it) (h3:∀p∈X.pn++pins,p.1≠it):Inv X pins σ H { s with heap:=h',toks:=t' }:=by
 have nit:∀b u,H b=some u->b≠it:=λb u e z=>by rw[z,hn]at e;cases e
 refine I.step (g':=s.gens) (d':=s.drawn) (ch:=[it]) (λb hb=>?_) (λb o _ _ hc e _=>k b o (λz=>hc (by simp[z])) e) (λb o _ _ hc e _=>⟨o.slots,k b o (λz=>hc (by simp[z])) e⟩) (λ_ _ _ _ n=>n)
  (λb o hc e=>⟨o,k b o (λz=>hc (by simp[z])) e⟩) (λ_ _ e=>e) (λ_ _ _ e=>e) (λb ps e=>⟨#[],by rw[e];simp⟩) (λm hm=>?_) (λb u e=>?_) I.bare
 .have e:b=it:=by simpa using hb
  subst e;exact⟨h1,hL,h2,h3⟩
 .obtain⟨o,es,ep,ho,r⟩:=hm;exact⟨o,es,ep,k _ o (Ne.symm hL) ho,r⟩
 .refine(I.hok b u e).stay (λc v hc q=>k c v ?_ q) (λ_ q=>q) λ_ _ q=>q;rcases hc with z|z
  .rw[z];exact nit b u e
  .exact nit c _ z
def Inv.tok(I:Inv X pins σ H s)(t:Nat):Inv X pins σ H { s with toks:=t }:=I.un (h':=s.heap) (t':=t) Un.refl I.hok
theorem Inv.kept{t':Nat}(I:Inv X pins σ H s)(k:∀b u,s.heap.get? b=some u->h'.get? b=some u):Inv X pins σ H { s with heap:=h',toks:=t' }:=I.un (Un.kept k) (I.hok.kept k)
theorem Inv.laid{a:Addr}{o:HO}{t':Nat}(I:Inv X pins σ H s)(k:∀b u,s.heap.get? b=some u->h'.get? b=some u)(hp:s.heap.objs.size<=a)(new:ObjOk X.prog X.w (upd H a o) h' a o):
 Inv X pins σ (upd H a o) { s with heap:=h',toks:=t' }:=I.un (Un.laid k hp (I.hok.fresh hp)) (I.hok.laid k hp new)
theorem Inv.write{x e:Addr}{o:HO}{t':Nat}(I:Inv X pins σ H s)(mu:Mut (H x))(he:e=x∨H e=some (.own x))(k:∀b u,b≠e->s.heap.get? b=some u->h'.get? b=some u)(heo:∃u,h'.get? e=some u)
 (new:ObjOk X.prog X.w (upd H x o) h' x o):Inv X pins σ (upd H x o) { s with heap:=h',toks:=t' }:=I.un (Un.write mu he k heo) (I.hok.write mu he k heo new)
def Inv.weak{σ':List (Option V)}(I:Inv X pins σ H s)(hl:σ'.length=σ.length)(w:∀(i:Nat) v,σ'[i]?=some (some v)->σ[i]?=some (some v)):Inv X pins σ' H s:=
 ⟨I.ok,I.os,I.bare,I.base,let ⟨m,hn,hl'⟩:=I.loc;⟨m,hn,λi x v e1 e2 e3=>hl' i x v e1 (w i v e2) e3⟩,I.cell,I.free,I.freeC,I.pin,I.hok,hl.trans I.len⟩
def Inv.pins_of{pins':List (Addr×Obj)}(I:Inv X pins σ H s)(h:∀p∈pins',s.heap.get? p.1=some p.2/\H p.1=none/\p.1≠X.env.locals/\p.1∉X.fs/\∀v,p.2.data≠.cell v):Inv X pins' σ H s:=
 ⟨I.ok,I.os,I.bare,I.base,I.loc,I.cell,I.free,I.freeC,λp hp=>(mem_append.mp hp).elim (λz=>I.pin p (j5 _ z)) (h p),I.hok,I.len⟩
def II{N:List Str}(hN:N.Nodup){i j:Nat}{x:Str}(a:N[i]?=some x)(b:N[j]?=some x):i=j:=by
 obtain⟨h1,e1⟩:=List.getElem?_eq_some_iff.mp a;obtain⟨h2,e2⟩:=List.getElem?_eq_some_iff.mp b;exact(List.getElem_inj hN).mp (e1.trans e2.symm)
def GP{M:Model}{A:Around}{E:Value->Shared->Prop}{i:Nat}{x:Str}{v:V}{u:Value}{Q:Unit->Shared->Prop}(I:Inv X pins σ H s)(hN:X.N.Nodup)(hi:X.N[i]?=some x)(hx:Loc X.env.scope x)(r:RelV v u)
 (h:∀s',Inv X pins (σ.set i (some v)) H s'->(∃a,Heap.SameBut a s.heap s'.heap/\(a=X.env.locals∨X.env.cells.lookup x=some a))->Q () s') (hf:X.fn x=true∨X.env.scope.names.lookup x=some .local:=by first|exact .inl rfl|exact .inr rfl|assumption):wpAny M A (storeName X.env x u) Q E s:=by
 obtain⟨m,hn,hl⟩:=id I.loc;have hcls:(X.env.scope.kind==.class||(X.env.scope.kind==.module&&X.env.locals != X.env.globals))=false:=by rw[I.ok.kind];rfl
 have hiσ:i<σ.length:=by rw[I.len];exact(List.getElem?_eq_some_iff.mp hi).1
 have cne:=I.cne;have tracked:∀{a:Addr} {h':Heap},(∃o,s.heap.get? a=some o/\H a=none)->Heap.SameBut a s.heap h'->HOk X.prog X.w H h':=λ{a h'} ha hs b ob e=>by
  obtain⟨_,_,hfree⟩:=ha;refine(I.hok b ob e).stay (λc w' hc q=>(hs.2 c ?_).trans q) (λ_ q=>q) λ_ _ q=>q;rintro rfl;rcases hc with rfl|hc
  .rw[hfree]at e;cases e
  .rw[hfree]at hc;cases hc
 rcases hx with hk|hk
 .refine wpAny_storeName_local hk hn (λh' hn' hs=>?_) hcls;obtain⟨oL,_,_,hoL,_⟩:=id hn;refine h _ ⟨I.ok,I.os,I.bare,⟨λb o e n hb hx=>?_,λb o e n hb hx=>?_,I.base.free,λb o e hx=>?_,I.base.tups,I.base.frzs,I.base.tbls⟩,⟨_,hn',λj y v' e1 e2 e3=>?_⟩,λy c e=>?_,I.free,I.freeC,λp hp=>?_,tracked ⟨oL,hoL,I.free⟩ hs,by simpa using I.len⟩ ⟨_,hs,.inl rfl⟩
  .exact(hs.2 b (iq (iC (Heap.lt_size e) I.ok.above))).trans (I.base.keep b o e n hb hx)
  .obtain⟨sl,e1⟩:=I.base.slot b o e n hb hx;exact⟨sl,(hs.2 b (iq (iC (Heap.lt_size e) I.ok.above))).trans e1⟩
  .obtain⟨o',e1⟩:=I.base.there b o e hx;exact⟨o',(hs.2 b (iq (iC (Heap.lt_size e) I.ok.above))).trans e1⟩
  .by_cases hj:j=i
   .subst hj;rw[hi]at e1;cases e1;rw[List.getElem?_set_self hiσ]at e2;cases e2;exact⟨u,r,.inl ⟨hk,by simp⟩⟩
   .rw[List.getElem?_set_ne (Ne.symm hj)]at e2;obtain⟨u',r',q⟩:=hl j y v' e1 e2 e3;refine⟨u',r',?_⟩;rcases q with⟨k,e⟩|⟨k,c,e,z⟩
    .refine .inl ⟨k,?_⟩;have:y≠x:=λe=>hj (II hN e1 (e ▸ hi));simp[this,e]
    .exact .inr ⟨k,c,e,z.sameBut hs (cne y c e)⟩
  .obtain⟨w',z⟩:=I.cell y c e;exact⟨w',z.sameBut hs (cne y c e)⟩
  .obtain⟨e,n,ne,nf,d⟩:=I.pin p hp;exact⟨(hs.2 p.1 ne).trans e,n,ne,nf,d⟩
 .have hfn:X.fn x=true:=by
   rcases hf with z|z
   .exact z
   .rw[z]at hk;cases hk
  obtain⟨c,hc⟩:=I.ok.has x (.inl hk);obtain⟨w',z⟩:=I.cell x c hc;refine wpAny_storeName_cell I.ok.kind hk hc z (λh' hc' hs=>?_);obtain⟨oc,hoc,hocd⟩:=id z;refine h { s with heap:=h' } ⟨I.ok,I.os,I.bare,⟨λb o e n hb hx=>?_,λb o e n hb hx=>?_,I.base.free,λb o e hx=>?_,I.base.tups,I.base.frzs,I.base.tbls⟩,⟨m,hn.sameBut hs (Ne.symm (cne x c hc)),λj y v' e1 e2 e3=>?_⟩,λy c' e=>?_,I.free,I.freeC,λp hp=>?_,tracked ⟨oc,hoc,I.freeC x c hc⟩ hs,by simpa using I.len⟩ ⟨c,hs,.inr hc⟩
  .exact(hs.2 b (iq (iC (Heap.lt_size e) (I.ok.cab x c hfn hc)))).trans (I.base.keep b o e n hb hx)
  .obtain⟨sl,e1⟩:=I.base.slot b o e n hb hx;exact⟨sl,(hs.2 b (iq (iC (Heap.lt_size e) (I.ok.cab x c hfn hc)))).trans e1⟩
  .obtain⟨o',e1⟩:=I.base.there b o e hx;exact⟨o',(hs.2 b (iq (iC (Heap.lt_size e) (I.ok.cab x c hfn hc)))).trans e1⟩
  .by_cases hj:j=i
   .subst hj;rw[hi]at e1;cases e1;rw[List.getElem?_set_self hiσ]at e2;cases e2;exact⟨u,r,.inr ⟨.inl hk,c,hc,hc'⟩⟩
   .rw[List.getElem?_set_ne (Ne.symm hj)]at e2;obtain⟨u',r',q⟩:=hl j y v' e1 e2 e3;refine⟨u',r',?_⟩;rcases q with q|⟨k,c',e,z'⟩
    .exact .inl q
    .refine .inr ⟨k,c',e,z'.sameBut hs ?_⟩;rintro rfl;exact hj (II hN e1 (I.ok.inj _ _ _ e hc ▸ hi))
  .by_cases hcc:c'=c
   .subst hcc;exact⟨_,hc'⟩
   .obtain⟨w2,z2⟩:=I.cell y c' e;exact⟨w2,z2.sameBut hs hcc⟩
  .obtain⟨e,n,ne,nf,d⟩:=I.pin p hp;refine⟨(hs.2 p.1 ?_).trans e,n,ne,nf,d⟩;intro q;rw[q,hoc]at e;have q':oc=p.2:=Option.some.inj e;exact d w' (by rw[<- q'];exact hocd)
def C5{M:Model}{A:Around}{E:Value->Shared->Prop}{i:Nat}{x:Str}{v:V}{u:Value}{Q:Unit->Shared->Prop}(I:Inv X pins σ H s)(hN:X.N.Nodup)(hi:X.N[i]?=some x)(hx:Loc X.env.scope x)(r:RelV v u)
 (h:∀s',Inv X pins (σ.set i (some v)) H s'->Q () s') (hf:X.fn x=true∨X.env.scope.names.lookup x=some .local:=by first|exact .inl rfl|exact .inr rfl|assumption):wpAny M A (storeName X.env x u) Q E s:=
 GP I hN hi hx r (λs' I' _=>h s' I') hf
def Inv.call'{s':Shared}{ch:List Addr}(I:Inv X pins σ H s)(ho:s'.os=s.os)(u:Un (frs X.stack) ch H H' s.heap s'.heap)(hok:HOk X.prog X.w H' s'.heap)(hg:AllBare s'.gens)
 (hch:∀b∈ch,(b∈X.ex∨X.s₀.heap.objs.size<=b)/\b≠X.env.locals/\(∀x c,X.env.cells.lookup x=some c->c≠b)/\∀p∈X.pn++pins,p.1≠b):Inv X pins σ H' s':=by
 obtain⟨h',g',d',t',o'⟩:=s';have e:o'=s.os:=ho;subst e;exact I.call (g':=g') (t':=t') (d':=d') u hok hg hch
end
abbrev XK:=Value->Option Addr->Hp->Prop
abbrev St:=List (Option V)
abbrev VK:=V->Hp->Prop
abbrev TE:=St->Hp->VK->Prop
abbrev TT:=St->Hp->(Bool->Hp->Prop)->Prop
abbrev TA:=St->Hp->(List V->Hp->Prop)->Prop
structure Ends where
 nx:St->Hp->Prop
 rt:VK
 bk:St->Hp->Prop:=λ_ _=>False
 ct:St->Hp->Prop:=λ_ _=>False
abbrev TS:=Ends->St->Hp->Prop
def EP(X:Cx)(pins:List (Addr×Obj))(σ:St)(Q:VK)(u:Value)(s':Shared):Prop:=∃v H',Inv X pins σ H' s'/\RelV v u/\Q v H'
def TP(X:Cx)(pins:List (Addr×Obj))(σ:St)(Q:Bool->Hp->Prop)(b:Bool)(s':Shared):Prop:=∃H',Inv X pins σ H' s'/\Q b H'
def AP(X:Cx)(pins:List (Addr×Obj))(σ:St)(Q:List V->Hp->Prop)(us:List Value)(s':Shared):Prop:=∃vs H',Inv X pins σ H' s'/\Vals vs us/\Q vs H'
def SP(X:Cx)(pins:List (Addr×Obj))(D:Ends)(f:Flow)(s':Shared):Prop:=
 match f with
 |.next=>∃σ' H',Inv X pins σ' H' s'/\D.nx σ' H'
 |.brk=>∃σ' H',Inv X pins σ' H' s'/\D.bk σ' H'
 |.cont=>∃σ' H',Inv X pins σ' H' s'/\D.ct σ' H'
 |.ret u=>∃v σ' H',Inv X pins σ' H' s'/\RelV v u/\D.rt v H'
def PE(X:Cx)(e:Expr)(t:TE):Prop:=
 ∀(pins:List (Addr×Obj)) (s:Shared) (σ:St) (H:Hp) (Q:VK),Inv X pins σ H s->t σ H Q->wpAny (model X.prog X.w) X.A (eval e X.env) (EP X pins σ Q) X.xe s
def PT(X:Cx)(e:Expr)(t:TT):Prop:=
 ∀(pins:List (Addr×Obj)) (s:Shared) (σ:St) (H:Hp) (Q:Bool->Hp->Prop),Inv X pins σ H s->t σ H Q->wpAny (model X.prog X.w) X.A (isTrue e X.env (eval e X.env)) (TP X pins σ Q) X.xe s
def PW(X:Cx)(e:Expr)(t:TT):Prop:=
 ∀(whole:Sem Value) (pins:List (Addr×Obj)) (s:Shared) (σ:St) (H:Hp) (Q:Bool->Hp->Prop),Inv X pins σ H s->t σ H Q->wpAny (model X.prog X.w) X.A (isTrue e X.env whole) (TP X pins σ Q) X.xe s
def PW.pt{X:Cx}{e:Expr}{t:TT}(h:PW X e t):PT X e t:=h _
def PA(X:Cx)(es:List Expr)(t:TA):Prop:=
 ∀(pos:Pos) (pins:List (Addr×Obj)) (s:Shared) (σ:St) (H:Hp) (Q:List V->Hp->Prop),Inv X pins σ H s->t σ H Q->wpAny (model X.prog X.w) X.A (spliced (backTo pos (starEach es X.env))) (AP X pins σ Q) X.xe s
def PS(X:Cx)(st:Stmt)(t:TS):Prop:=
 ∀(pins:List (Addr×Obj)) (s:Shared) (σ:St) (H:Hp) (D:Ends),Inv X pins σ H s->t D σ H->wpAny (model X.prog X.w) X.A (exec st X.env) (SP X pins D) X.xe s
def PSs(X:Cx)(st:List Stmt)(t:TS):Prop:=
 ∀(pins:List (Addr×Obj)) (s:Shared) (σ:St) (H:Hp) (D:Ends),Inv X pins σ H s->t D σ H->wpAny (model X.prog X.w) X.A (execs st X.env) (SP X pins D) X.xe s
def thn{α:Type}{t:Sem α}{Q Q':α->Shared->Prop}{M:Model}{A:Around}{E:Value->Shared->Prop}{s:Shared}(h:wpAny M A t Q E s)(hQ:∀a s,Q a s->Q' a s):wpAny M A t Q' E s:=iw h hQ λ_ _ x=>x
section
variable{X:Cx}
def bin{a b:Expr}{ta tb:TE}(ha:PE X a ta)(hb:PE X b tb){pins:List (Addr×Obj)}{s:Shared}{σ:St}{H:Hp}{R:V->V->Hp->Prop}(I:Inv X pins σ H s)(h:ta σ H λx H1=>tb σ H1 λy H2=>R x y H2)
 {α:Type} {Q:α->Shared->Prop} {f:Value->Value->Sem α}
 (hf:∀v u s2 x y H2,Inv X pins σ H2 s2->RelV x v->RelV y u->R x y H2->wpAny (model X.prog X.w) X.A (f v u) Q X.xe s2):
 wpAny (model X.prog X.w) X.A (eval a X.env) (λv s₁=>wpAny (model X.prog X.w) X.A (eval b X.env) (λu s₂=>wpAny (model X.prog X.w) X.A (f v u) Q X.xe s₂) X.xe s₁) X.xe s:=by
 refine thn (ha pins s σ H _ I h) λv s1 ⟨x,H1,I1,r1,q1⟩=>?_;refine thn (hb pins s1 σ H1 _ I1 q1) λu s2 ⟨y,H2,I2,r2,q2⟩=>?_;exact hf v u s2 x y H2 I2 r1 r2 q2
def Su(i:Nat):TE:=λσ H Q=>∃v,σ[i]?=some (some v)/\Q v H
def tC(v:V):TE:=λ_ H Q=>Q v H
def GY{i:Nat}{x:Str}{pos:Pos}(hN:X.N[i]?=some x)(hv:Vis X.env.scope x)(hd:(x==("__debug__":Str))=false:=by decide)(hcd:(x==("__classdict__":Str))=false:=by decide):PE X (.Name x pos) (Su i):=by
 intro pins s σ H Q I h;obtain⟨v,e,h⟩:=h;obtain⟨m,hn,hl⟩:=I.loc;obtain⟨u,r,l⟩:=hl i x v hN e hv;have fin:EP X pins σ Q u s:=⟨v,H,I,r,h⟩
 rcases l with⟨hk,hm⟩|⟨hk,c,hc,hcell⟩
 .exact wpAny_Name (wpAny_loadName_local I.ok.kind hk hn hm fin) hd
 .rcases hk with hk|hk
  .exact wpAny_Name (wpAny_loadName_cell I.ok.kind hk hc hcell fin) hd
  .exact wpAny_Name (wpAny_loadName_free I.ok.kind hk hc hcell fin hcd) hd
def ae{i j pos}:PE X (.Constant (.int i) j pos) (tC (.int i)):=λ_ _ _ H _ I h=>wpAny_Constant_int ⟨.int i,H,I.tok _,⟨_,rfl⟩,h⟩
def dM{b j pos}:PE X (.Constant (.bool b) j pos) (tC (.bl b)):=λ_ _ _ H _ I h=>Constant_bool ⟨.bl b,H,I,rfl,h⟩
def aa{j pos}:PE X (.Constant .none j pos) (tC .non):=λ_ _ _ H _ I h=>Constant_none ⟨.non,H,I,rfl,h⟩
def aX{x j pos}:PE X (.Constant (.str x) j pos) (tC (.str x)):=λ_ _ _ H _ I h=>Calls.Constant_str ⟨.str x,H,I.tok _,⟨_,rfl⟩,h⟩
def Gl(X:Cx)(x:Str):Prop:=X.env.kindOf x=some .globalImplicit
def Dl{E:Value->Shared->Prop}{pins:List (Addr×Obj)}{s:Shared}{σ:St}{H:Hp}{x:Str}{u:Value}{pos:Pos}{Q:Value->Shared->Prop}(I:Inv X pins σ H s)(hg:Gl X x)(hm:X.mg x=some u)(h:Q u s)
 (hd:(x==("__debug__":Str))=false:=by decide):wpAny (model X.prog X.w) X.A (eval (.Name x pos) X.env) Q E s:=
 Calls.Name_function_global I.ok.kind hg (Calls.loadGlobal_global (by rw[I.ok.glob];exact I.mod.glob.keeps I.bk) hm h) hd
def Et{E:Value->Shared->Prop}{pins:List (Addr×Obj)}{s:Shared}{σ:St}{H:Hp}{x:Str}{u:Value}{pos:Pos}{Q:Value->Shared->Prop}(I:Inv X pins σ H s)(hg:Gl X x)(hm:X.mg x=none)(hv:bootBuiltins x=some u)(h:Q u s)
 (hn:x≠"__name__":=by decide) (hd:(x==("__debug__":Str))=false:=by decide):wpAny (model X.prog X.w) X.A (eval (.Name x pos) X.env) Q E s:=by
 obtain⟨mb,h1,h2⟩:=I.mod.blt;exact Calls.Name_function_global I.ok.kind hg (Calls.loadGlobal_builtin (by rw[I.ok.glob];exact I.mod.glob.keeps I.bk) hm (by rw[I.ok.blt];exact h1.keeps I.bk) ((h2 x hn).trans hv) h) hd
variable{a b:Expr}{ta tb:TE}{pos:Pos}
def PC(X:Cx)(op:CmpOp)(a b:Expr)(t:TE):Prop:=
 ∀(pins:List (Addr×Obj)) (s:Shared) (σ:St) (H:Hp) (Q:VK),Inv X pins σ H s->t σ H Q ->
   wpAny (model X.prog X.w) X.A (eval a X.env) (λv s₁=>wpAny (model X.prog X.w) X.A (eval b X.env) (λu s₂=>wpAny (model X.prog X.w) X.A (compareOp op v u) (EP X pins σ Q) X.xe s₂) X.xe s₁) X.xe s
def UE(b:Expr){op:CmpOp}(h:op≠.In)(h2:op≠.NotIn):behindInMarks op b=false:=by
 have e1:(op==CmpOp.In)=false:=by cases op<;>first|rfl|exact absurd rfl h
 have e2:(op==CmpOp.NotIn)=false:=by cases op<;>first|rfl|exact absurd rfl h2
 cases b<;>simp[behindInMarks,e1,e2]
def T2(ta:TE):TE:=λσ H Q=>ta σ H λx H1=>Q (.bl (decide (x=.non))) H1
def Od(ta:TE):TE:=λσ H Q=>ta σ H λx H1=>Q (.bl (!decide (x=.non))) H1
def RelV.none_iff{x:V}{v:Value}(r:RelV x v):(v==Value.none)=decide (x=.non):=by
 cases x with
 |non=>cases r;rfl
 |bl _=>cases r;rfl
 |int _=>obtain⟨t,rfl⟩:=r;rfl
 |str _=>obtain⟨t,rfl⟩:=r;rfl
 |byt _=>obtain⟨t,rfl⟩:=r;rfl
 |flt _=>obtain⟨t,rfl⟩:=r;rfl
 |ref _=>cases r;rfl
 |ty _=>cases r;rfl
def ak{j pos'}(ha:PE X a ta):PC X .Is a (.Constant .none j pos') (T2 ta):=by
 intro pins s σ H Q I h;refine thn (ha pins s σ H _ I h) λv s1 ⟨x,H1,I1,r1,q1⟩=>?_;exact Constant_none (is_none_gen ⟨.bl _,H1,I1,by rw[r1.none_iff];rfl,q1⟩)
def Xi{j pos'}(ha:PE X a ta):PC X .IsNot a (.Constant .none j pos') (Od ta):=by
 intro pins s σ H Q I h;refine thn (ha pins s σ H _ I h) λv s1 ⟨x,H1,I1,r1,q1⟩=>?_;exact Constant_none (isnot_none_gen ⟨.bl _,H1,I1,by rw[r1.none_iff];rfl,q1⟩)
def tB(t:TE):TT:=λσ H Q=>t σ H λx H1=>∃c,x=.bl c/\Q c H1
def R9{op:CmpOp}{t:TE}(h:PC X op a b t)(h1:behindInMarks op b=false:=by first|exact UE _ (by decide) (by decide)|rfl):PT X (.Compare a [op] [b] pos) (tB t):=by
 intro pins s σ H Q I hw;refine wpAny_isTrue_Compare1 (thn (h pins s σ H _ I hw) λv s1 h1=>thn h1 λu s2 h2=>thn h2 λc s3 ⟨x,H1,I1,r1,q1⟩=>?_) h1;obtain⟨d,rfl,q⟩:=q1;cases r1;exact jy ⟨H1,I1,q⟩
variable{tA tB':TT}{rest:List Expr}
def T5(t u:TT):TT:=λσ H Q=>t σ H λc H1=>if c=true then u σ H1 Q else Q false H1
def tOr(t u:TT):TT:=λσ H Q=>t σ H λc H1=>if c=true then Q true H1 else u σ H1 Q
def Sx(t:TT):TT:=λσ H Q=>t σ H λc H1=>Q (!c) H1
def XJ(ha:PT X a tA):PW X (.BoolOp .And [a] pos) tA:=by
 intro wh pins s σ H Q I h;refine isTrue_and (thn (ha pins s σ H Q I h) λc s1 e=>?_);cases c with
 |true=>exact isTrue_and_nil e
 |false=>exact e
def aJ(ha:PT X a tA):PW X (.BoolOp .Or [a] pos) tA:=by
 intro wh pins s σ H Q I h;refine isTrue_or (thn (ha pins s σ H Q I h) λc s1 e=>?_);cases c with
 |false=>exact isTrue_or_nil e
 |true=>exact e
def aK(ha:PT X a tA)(hb:PW X (.BoolOp .And (b::rest) pos) tB'):PW X (.BoolOp .And (a::b::rest) pos) (T5 tA tB'):=by
 intro wh pins s σ H Q I h;refine isTrue_and (thn (ha pins s σ H _ I h) λc s1 ⟨H1,I1,q1⟩=>?_);cases c with
 |true=>exact hb wh pins s1 σ H1 Q I1 q1
 |false=>exact⟨H1,I1,q1⟩
def dH(ha:PT X a tA)(hb:PW X (.BoolOp .Or (b::rest) pos) tB'):PW X (.BoolOp .Or (a::b::rest) pos) (tOr tA tB'):=by
 intro wh pins s σ H Q I h;refine isTrue_or (thn (ha pins s σ H _ I h) λc s1 ⟨H1,I1,q1⟩=>?_);cases c with
 |true=>exact⟨H1,I1,q1⟩
 |false=>exact hb wh pins s1 σ H1 Q I1 q1
def aL(ha:PT X a tA):PT X (.UnaryOp .Not a pos) (Sx tA):=by
 intro pins s σ H Q I h;exact isTrue_not (ha pins s σ H (λc H1=>Q (!c) H1) I h)
def Og(ta tb:TE):TE:=λσ H Q=>ta σ H λx H1=>∃c,x=.bl c/\if c=true then tb σ H1 Q else Q (.bl false) H1
def Oc(ta:TE):TE:=λσ H Q=>ta σ H λx H1=>∃c,x=.bl c/\Q (.bl (!c)) H1
def aY{op}{t:TE}(h:PE X a t):PE X (.BoolOp op [a] pos) t:=λpins s σ H Q I hw=>BoolOp_one (h pins s σ H Q I hw)
def ah(ha:PE X a ta)(hb:PE X (.BoolOp .And (b::rest) pos) tb):PE X (.BoolOp .And (a::b::rest) pos) (Og ta tb):=by
 intro pins s σ H Q I h;refine BoolOp_and (thn (ha pins s σ H _ I h) λv s1 ⟨x,H1,I1,r1,q1⟩=>?_);obtain⟨c,rfl,q1⟩:=q1;cases r1;refine jy ?_;cases c with
 |true=>exact hb pins s1 σ H1 Q I1 q1
 |false=>exact⟨.bl false,H1,I1,rfl,q1⟩
def aZ(ha:PE X a ta):PE X (.UnaryOp .Not a pos) (Oc ta):=by
 intro pins s σ H Q I h;refine UnaryOp_ (thn (ha pins s σ H _ I h) λv s1 ⟨x,H1,I1,r1,q1⟩=>?_);obtain⟨c,rfl,q1⟩:=q1;cases r1;exact not_of (jy ⟨.bl (!c),H1,I1,rfl,q1⟩)
def tIf(t:TT)(ta tb:TE):TE:=λσ H Q=>t σ H λc H1=>if c=true then ta σ H1 Q else tb σ H1 Q
def U8{c:Expr}(hc:PT X c tA)(ha:PE X a ta)(hb:PE X b tb):PE X (.IfExp c a b pos) (tIf tA ta tb):=by
 intro pins s σ H Q I h;refine wpAny_IfExp (thn (hc pins s σ H _ I h) λd s1 ⟨H1,I1,q1⟩=>?_);cases d with
 |true=>exact ha pins s1 σ H1 Q I1 q1
 |false=>exact hb pins s1 σ H1 Q I1 q1
end
def SqL(K:Frag)(H:Hp)(a:Addr)(xs:List V):Prop:=
 Rd H a (.lst xs) ∨
  ∃(o:Obj) (its:Array Value) (n:Nat),K.lookup a=some o/\o.cls=.type "list"/\o.dict=none/\o.data=.seq its n/\its.size<=sizeLine/\Vals xs its.toList
def SqT(K:Frag)(H:Hp)(a:Addr)(xs:List V):Prop:=
 Rd H a (.tup xs) ∨
  ∃(o:Obj) (its:Array Value) (n:Nat),K.lookup a=some o/\o.cls=.type "tuple"/\o.dict=none/\o.data=.seq its n/\its.size<=sizeLine/\Vals xs its.toList
def f9:Value->Option V
 |.none=>some .non
 |.bool b=>some (.bl b)
 |.int i _=>some (.int i)
 |.str x _=>some (.str x)
 |.bytes b _=>some (.byt b)
 |.float b _=>some (.flt b)
 |.ref a=>some (.ref a)
 |.type n=>some (.ty n)
 |_=>none
def RelV.abs{x:V}{u:Value}(r:RelV x u):f9 u=some x:=by
 cases x with
 |non=>cases r;rfl
 |bl _=>cases r;rfl
 |int _=>obtain⟨t,rfl⟩:=r;rfl
 |str _=>obtain⟨t,rfl⟩:=r;rfl
 |byt _=>obtain⟨t,rfl⟩:=r;rfl
 |flt _=>obtain⟨t,rfl⟩:=r;rfl
 |ref _=>cases r;rfl
 |ty _=>cases r;rfl
theorem RelV.inj{x y:V}{u:Value}(r:RelV x u)(q:RelV y u):x=y:=Option.some.inj (r.abs.symm.trans q.abs)
theorem Vals.inj:∀{xs ys:List V} {us:List Value},Vals xs us->Vals ys us->xs=ys
 |_,_,_,.nil,.nil=>rfl
 |_,_,_,.cons r t,.cons r' t'=>by rw[r.inj r',Vals.inj t t']
section
variable{X:Cx}{pins:List (Addr×Obj)}{σ:St}{H:Hp}{s:Shared}{a:Addr}{xs ys:List V}
def SqL.of{K:Frag}(h:H a=some (.lst xs)):SqL K H a xs:=.inl (.inl h)
def SqT.of{K:Frag}(h:H a=some (.tup xs)):SqT K H a xs:=.inl (.inl h)
def Inv.list(I:Inv X pins σ H s)(h:SqL X.K H a xs):∃its:List Value,Vals xs its/\PlainL s.heap a its.toArray/\xs.length<=sizeLine:=by
 rcases h with h|⟨o,its,n,hk,hc,hd,hs,hz,r⟩
 .obtain⟨z,its,n,r,e⟩:=h.ok I.hok;exact⟨its,r,⟨_,n,e,rfl,rfl,rfl⟩,z⟩
 .refine⟨its.toList,r,⟨o,n,I.kIn a o hk,hc,hd,by simpa using hs⟩,?_⟩;have e:=r.length;simp only[Array.length_toList]at e;omega
def Inv.tuple(I:Inv X pins σ H s)(h:SqT X.K H a xs):∃its:List Value,Vals xs its/\IsTup s.heap a its.toArray/\xs.length<=sizeLine:=by
 rcases h with h|⟨o,its,n,hk,hc,_,hs,hz,r⟩
 .obtain⟨z,its,r,p⟩:=h.ok I.hok;exact⟨its,r,p.t,z⟩
 .refine⟨its.toList,r,⟨o,I.kIn a o hk,hc,n,by simpa using hs⟩,?_⟩;have e:=r.length;simp only[Array.length_toList]at e;omega
def Inv.tupleD(I:Inv X pins σ H s)(h:SqT X.K H a xs):∃ob,s.heap.get? a=some ob/\ob.cls=.type "tuple"/\ob.dict=none:=by
 rcases h with h|⟨o,its,n,hk,hc,hd,_⟩
 .obtain⟨_,_,_,o,e,c,_,d⟩:=h.ok I.hok;exact⟨o,e,c,d⟩
 .exact⟨o,I.kIn a o hk,hc,hd⟩
def Inv.list_inj(I:Inv X pins σ H s)(h:SqL X.K H a xs)(h':SqL X.K H a ys):xs=ys:=by
 obtain⟨its,r,⟨o,n,e,_,_,d⟩,_⟩:=I.list h;obtain⟨its',r',⟨o',n',e',_,_,d'⟩,_⟩:=I.list h';rw[e]at e';cases e';rw[d]at d'
 injection d' with d1 _
 have:its=its':=by simpa using iP Array.toList d1
 subst this;exact r.inj r'
def Inv.tuple_inj(I:Inv X pins σ H s)(h:SqT X.K H a xs)(h':SqT X.K H a ys):xs=ys:=by
 obtain⟨its,r,⟨o,e,_,n,d⟩,_⟩:=I.tuple h;obtain⟨its',r',⟨o',e',_,n',d'⟩,_⟩:=I.tuple h';rw[e]at e';cases e';rw[d]at d'
 injection d' with d1 _
 have:its=its':=by simpa using iP Array.toList d1
 subst this;exact r.inj r'
end
abbrev Cx.wish(X:Cx)(E:Value->Shared->Prop):Cx:={ X with xe:=E }
abbrev Cx.nox(X:Cx):Cx:=X.wish λ_ _=>False
theorem Cx.Ok.wish{X:Cx}(ok:X.Ok)(E:Value->Shared->Prop):(X.wish E).Ok:=
 ⟨ok.mod,ok.kind,ok.glob,ok.blt,ok.above,ok.inj,ok.has,ok.cab,ok.hd,ok.frames,ok.stk,ok.exf,ok.bs,ok.bsz,ok.noex,ok.exfs,ok.funs,ok.frf⟩
def Cx.Ok.unwish{X:Cx}{E:Value->Shared->Prop}(ok:(X.wish E).Ok):X.Ok:=
 ⟨ok.mod,ok.kind,ok.glob,ok.blt,ok.above,ok.inj,ok.has,ok.cab,ok.hd,ok.frames,ok.stk,ok.exf,ok.bs,ok.bsz,ok.noex,ok.exfs,ok.funs,ok.frf⟩
section
variable{X:Cx}{pins:List (Addr×Obj)}{σ:St}{H:Hp}{s:Shared}{E:Value->Shared->Prop}
theorem Inv.wish(I:Inv X pins σ H s)(E:Value->Shared->Prop):Inv (X.wish E) pins σ H s:=⟨I.ok.wish E,I.os,I.bare,I.base,I.loc,I.cell,I.free,I.freeC,I.pin,I.hok,I.len⟩
theorem Inv.unwish(I:Inv (X.wish E) pins σ H s):Inv X pins σ H s:=⟨I.ok.unwish,I.os,I.bare,I.base,I.loc,I.cell,I.free,I.freeC,I.pin,I.hok,I.len⟩
theorem SP.unwish{D:Ends}{f:Flow}{s':Shared}(h:SP (X.wish E) pins D f s'):SP X pins D f s':=by
 cases f with
 |next=>obtain⟨σ',H',I,q⟩:=h;exact⟨σ',H',I.unwish,q⟩
 |brk=>obtain⟨σ',H',I,q⟩:=h;exact⟨σ',H',I.unwish,q⟩
 |cont=>obtain⟨σ',H',I,q⟩:=h;exact⟨σ',H',I.unwish,q⟩
 |ret u=>obtain⟨v,σ',H',I,r,q⟩:=h;exact⟨v,σ',H',I.unwish,r,q⟩
theorem PSs.nox{st:List Stmt}{t:TS}(h:PSs X.nox st t):PSs X st t:=λpins s σ H D I hw=>
 iw (h pins s σ H D (I.wish _) hw) (λ_ _ q=>q.unwish) λ_ _ z=>False.elim z
end
section
variable{X:Cx}{st:Stmt}{rest:List Stmt}{t u:TS}{e:Expr}{te:TE}{pos:Pos}
def HB:TS:=λD σ H=>D.nx σ H
def LW(t u:TS):TS:=λD σ H=>t { D with nx:=u D } σ H
def Nm:PSs X [] HB:=λ_ _ σ H _ I h=>jn ⟨σ,H,I,h⟩
def MF(h1:PS X st t)(h2:PSs X rest u):PSs X (st::rest) (LW t u):=by
 intro pins s σ H D I h;refine jN (thn (h1 pins s σ H { D with nx:=u D } I h) λf s1 q=>?_);cases f with
 |next=>
  obtain⟨σ',H',I',q⟩:=q;exact h2 pins s1 σ' H' D I' q
 |ret v=>exact q
 |brk=>exact q
 |cont=>exact q
def Nl(h1:PS X st t):PSs X [st] t:=by
 intro pins s σ H D I h;refine jN (thn (h1 pins s σ H D I h) λf s1 q=>?_);cases f with
 |next=>exact jn q
 |ret v=>exact q
 |brk=>exact q
 |cont=>exact q
def XT:PS X (.Pass pos) HB:=λ_ _ σ H _ I h=>wpAny_Pass ⟨σ,H,I,h⟩
def Inv.quiet{pins:List (Addr×Obj)}{σ:St}{H:Hp}{s:Shared}(I:Inv X pins σ H s):interactive X.env=false:=by simp[interactive,I.ok.kind]
def Oe(te:TE):TS:=λD σ H=>te σ H λ_ H1=>D.nx σ H1
def XV(he:PE X e te)(hs:swapsWith e none pos.line X.env=pure false:=by rfl):PS X (.Expr e pos) (Oe te):=by
 intro pins s σ H D I h;exact wpAny_Expr_any (thn (he pins s σ H _ I h) λv s1 ⟨x,H1,I1,r1,q1⟩=>⟨σ,H1,I1,q1⟩) I.quiet hs
def Fu(te:TE):TS:=λD σ H=>te σ H D.rt
def aN(he:PE X e te):PS X (.Return (some e) pos) (Fu te):=by
 intro pins s σ H D I h;exact wpAny_Return_some (thn (he pins s σ H _ I h) λv s1 ⟨x,H1,I1,r1,q1⟩=>⟨x,σ,H1,I1,r1,q1⟩)
def LY(c:TT)(t u:TS):TS:=λD σ H=>c σ H λb H1=>if b=true then t D σ H1 else u D σ H1
def dI{c:Expr}{a b:List Stmt}{tc:TT}(hc:PT X c tc)(ha:PSs X a t)(hb:PSs X b u):PS X (.If c a b pos) (LY tc t u):=by
 intro pins s σ H D I h;refine wpAny_If (thn (hc pins s σ H _ I h) λd s1 ⟨H1,I1,q1⟩=>?_);cases d with
 |true=>exact ha pins s1 σ H1 D I1 q1
 |false=>exact hb pins s1 σ H1 D I1 q1
def Ik:TS:=λ_ _ _=>False
def U0:PS X st Ik:=λ_ _ _ _ _ _ h=>h.elim
end
abbrev TG:=V->St->Hp->(St->Hp->Prop)->Prop
abbrev TGs:=List V->St->Hp->(St->Hp->Prop)->Prop
def PG(X:Cx)(target:Expr)(t:TG):Prop:=
 ∀(pins:List (Addr×Obj)) (s:Shared) (σ:St) (H:Hp) (v:V) (u:Value) (Q:St->Hp->Prop),Inv X pins σ H s->RelV v u->t v σ H Q ->
   wpAny (model X.prog X.w) X.A (assign target X.env u) (λ_ s'=>∃σ' H',Inv X pins σ' H' s'/\Q σ' H') X.xe s
def PGs(X:Cx)(ts:List Expr)(t:TGs):Prop:=
 ∀(pins:List (Addr×Obj)) (s:Shared) (σ:St) (H:Hp) (vs:List V) (us:List Value) (Q:St->Hp->Prop),Inv X pins σ H s->Vals vs us->t vs σ H Q ->
   wpAny (model X.prog X.w) X.A (assignInOrder ((assignEach ts X.env).map (·.2)) us) (λ_ s'=>∃σ' H',Inv X pins σ' H' s'/\Q σ' H') X.xe s
abbrev N6:=V->V->V->Hp->(Hp->Prop)->Prop
def V0(X:Cx)(t:N6):Prop:=
 ∀(pins:List (Addr×Obj)) (s:Shared) (σ:St) (H:Hp) (o i v:V) (ov iv u:Value) (Q:Hp->Prop),Inv X pins σ H s->RelV o ov->RelV i iv->RelV v u->t o i v H Q ->
   wpAny (model X.prog X.w) X.A (setItem ov iv u) (λ_ s'=>∃H',Inv X pins σ H' s'/\Q H') X.xe s
abbrev TIp:=V->V->Hp->VK->Prop
def PIp(X:Cx)(op:Operator)(t:TIp):Prop:=
 ∀(pins:List (Addr×Obj)) (s:Shared) (σ:St) (H:Hp) (x y:V) (v u:Value) (Q:VK),Inv X pins σ H s->RelV x v->RelV y u->t x y H Q ->
   wpAny (model X.prog X.w) X.A (inplaceOp op v u) (EP X pins σ Q) X.xe s
section
variable{X:Cx}{pos:Pos}
def Ct(i:Nat):TG:=λv σ H Q=>Q (σ.set i (some v)) H
def Xe{i:Nat}{x:Str}(hN:X.N.Nodup)(hi:X.N[i]?=some x)(hx:Loc X.env.scope x)(hf:X.fn x=true∨X.env.scope.names.lookup x=some .local:=by first|exact .inl rfl|exact .inr rfl|assumption):PG X (.Name x pos) (Ct i):=by
 intro pins s σ H v u Q I r h;exact wpAny_assign_Name (C5 I hN hi hx r (λs' I'=>⟨_,H,I',h⟩) hf)
def Ud:TGs:=λvs σ H Q=>vs=[]/\Q σ H
def PQ(t:TG)(u:TGs):TGs:=λvs σ H Q=>∃v r,vs=v::r/\t v σ H λσ' H'=>u r σ' H' Q
def Xc:PGs X [] Ud:=by
 intro pins s σ H vs us Q I r h;obtain⟨e,h⟩:=h;subst e;cases r;exact assignInOrder_nil ⟨σ,H,I,h⟩
def U7{e:Expr}{es:List Expr}{t:TG}{u:TGs}(h1:PG X e t)(h2:PGs X es u)
 (hs:(assignEach (e::es) X.env).map (·.2)=assign e X.env::(assignEach es X.env).map (·.2):=by rfl):PGs X (e::es) (PQ t u):=by
 intro pins s σ H vs us Q I r h;obtain⟨v,vr,e1,h⟩:=h;subst e1;cases r with
 |cons r rr=>
  rw[hs];refine jH (thn (h1 pins s σ H _ _ _ I r h) λ_ s1 ⟨σ1,H1,I1,q1⟩=>?_);exact h2 pins s1 σ1 H1 _ _ Q I1 rr q1
def PP(K:Frag)(n:Nat)(t:TGs):TG:=λv σ H Q=>∃a xs,v=.ref a/\SqT K H a xs/\xs.length=n/\t xs σ H Q
def aS{es:List Expr}{k:Nat}{t:TGs}{n:Nat}(hc:X.calm=true)(h:PGs X es t)
 (hn:(assignEach es X.env).length=n:=by rfl) (hst:(assignEach es X.env).findIdx? (·.1)=none:=by rfl):PG X (.Tuple es k pos) (PP X.K n t):=by
 intro pins s σ H v u Q I r hw;obtain⟨a,xs,e1,hq,hl,hw⟩:=hw;subst e1;cases r;obtain⟨its,rv,ht,hz⟩:=I.tuple hq;refine assign_Tuple_tuple (I.ok.hd hc) ht (by simp[hn,<- hl,rv.length]) hst λh' hx=>?_;have I1:Inv X pins σ H { s with heap:=h' }:=I.kept (t':=s.toks) λb o e=>hx b o (iq (Heap.lt_size e)) e;exact h pins _ σ H xs _ Q I1 (by simpa using rv) hw
def Ub(to ti:TE)(t:N6):TG:=λv σ H Q=>to σ H λo H1=>ti σ H1 λi H2=>t o i v H2 λH3=>Q σ H3
def aT{o i:Expr}{to ti:TE}{t:N6}(ho:PE X o to)(hi:PE X i ti)(hs:V0 X t)
 (ha:∀v,assign (.Subscript o i pos) X.env v=(do
  let ov <- holding [v] (eval o X.env)
  let iv <- holding [v,ov] (eval i X.env)
  standAt pos
  holding [v,ov,iv] (setItem ov iv v)
  release [v,ov,iv] []):=by intro _;rfl):PG X (.Subscript o i pos) (Ub to ti t):=by
 intro pins s σ H v u Q I r h;rw[ha];refine i8 (j0 (thn (ho pins s σ H _ I h) λov s1 ⟨x,H1,I1,r1,q1⟩=>?_));refine i8 (j0 (thn (hi pins s1 σ H1 _ I1 q1) λiv s2 ⟨y,H2,I2,r2,q2⟩=>?_));refine i8 (j3 (i8 (j0 (thn (hs pins s2 σ H2 x y v ov iv u _ I2 r1 r2 r q2) λ_ s3 ⟨H3,I3,q3⟩=>?_))));exact wpAny_release ⟨σ,H3,I3,q3⟩
def DK(te:TE)(g:TG):TS:=λD σ H=>te σ H λx H1=>g x σ H1 D.nx
def RK{tg e:Expr}{te:TE}{g:TG}(he:PE X e te)(hg:PG X tg g)(hs:swapsWithSole [tg] e pos.line X.env=pure false:=by rfl)(hw:swappedStores [tg] e X.env=pure none:=by rfl)
 (h1:(assignEach [tg] X.env).map (·.2)=[assign tg X.env]:=by rfl):PS X (.Assign [tg] e pos) (DK te g):=by
 intro pins s σ H D I h;refine wpAny_Assign_stores (thn (he pins s σ H _ I h) λv s1 ⟨x,H1,I1,r1,q1⟩=>?_) hs hw;rw[h1];exact thn (hg pins s1 σ H1 x v _ I1 r1 q1) λ_ s2 q=>q
def aM{i:Nat}{x:Str}{e:Expr}{te:TE}{pos':Pos}(hN:X.N.Nodup)(hi:X.N[i]?=some x)(hx:Loc X.env.scope x)(he:PE X e te)(hs:swapsWith e (some (.Name x pos')) pos.line X.env=pure false:=by rfl)(hf:X.fn x=true∨X.env.scope.names.lookup x=some .local:=by first|exact .inl rfl|exact .inr rfl|assumption):
 PS X (.Assign [.Name x pos'] e pos) (DK te (Ct i)):=by
 intro pins s σ H D I h;refine wpAny_Assign_Name (thn (he pins s σ H _ I h) λv s1 ⟨y,H1,I1,r1,q1⟩=>?_) hs;exact C5 I1 hN hi hx r1 (λs2 I2=>⟨_,H1,I2,q1⟩) hf
def Sw(i j:Nat)(ta:TA):TS:=λD σ H=>ta σ H λvs H1=>∃v w,vs=[v,w]/\D.nx ((σ.set i (some v)).set j (some w)) H1
def aO{i j:Nat}{x y:Str}{a b:Expr}{ta:TA}{px py pt:Pos}{kt k2 pt2}(hc:X.calm=true)(hN:X.N.Nodup)(hi:X.N[i]?=some x)(hj:X.N[j]?=some y)(hij:i≠j)
 (hx:X.env.scope.names.lookup x=some .local) (hy:X.env.scope.names.lookup y=some .local) (ha:PA X [a,b] ta)
 (hw:swappedStores [.Tuple [.Name x px,.Name y py] kt pt] (.Tuple [a,b] k2 pt2) X.env=pure (some [x,y]))
 (hs:swapsWithSole [.Tuple [.Name x px,.Name y py] kt pt] (.Tuple [a,b] k2 pt2) pos.line X.env=pure false:=by rfl):
 PS X (.Assign [.Tuple [.Name x px,.Name y py] kt pt] (.Tuple [a,b] k2 pt2) pos) (Sw i j ta):=by
 intro pins s σ H D I h;rw[exec_Assign_arm];refine i8 (j3 ?_);rw[hs];refine i8 (ie ?_);rw[ic (by decide)];refine i8 (Tuple_ (thn (ha _ pins s σ H _ I h) λus s1 ⟨vs,H1,I1,r1,q1⟩=>?_));obtain⟨v,w,e1,q1⟩:=q1;subst e1;obtain⟨u1,u2,rfl,rv,rw'⟩:∃u1 u2,us=[u1,u2]/\RelV v u1/\RelV w u2:=by
  cases r1 with
  |cons p q=>
   cases q with
   |cons p' q'=>
    cases q';exact⟨_,_,rfl,p,p'⟩
 refine iQ ?_ (by show 2<=sizeLine;decide);have I2:Inv X pins σ H1 { s1 with heap:=s1.heap.push { cls:=.type "tuple",data:=.seq [u1,u2].toArray } }:=I1.kept (t':=s1.toks) λb o e=>Heap.get?_push_of_some _ e;rw[hw];refine i8 (ie ?_);show wpAny (model X.prog X.w) X.A (do rule "assign.swapped-stores";let items <- unpackItems (.ref s1.heap.objs.size) 2 none;assignInOrder [λv=>bindName X.env y v,λv=>bindName X.env x v] items.reverse;pure Flow.next) _ _ _;refine i8 (jA (i8 (unpackItems_tuple (items:=#[u1,u2]) (I.ok.hd hc) (IsTup.new s1.heap _) λh' hx'=>?_)));have I3:=I2.kept (h':=h') (t':=s1.toks) λb o e=>hx' b o (iq (Heap.lt_size e)) e;show wpAny _ _ (assignInOrder [λv=>bindName X.env y v,λv=>bindName X.env x v] [u2,u1] >>= λ_=>pure Flow.next) _ _ _;refine i8 (jH (jI (C5 I3 hN hj (.inl hy) rw' (λs2 I4=>?_) (.inr hy))));refine jH (jI (C5 I4 hN hi (.inl hx) rv (λs3 I5=>assignInOrder_nil (ie ?_)) (.inr hx)));rw[List.set_comm _ _ (Ne.symm hij)]at I5;exact⟨_,H1,I5,q1⟩
def JT(i:Nat)(te:TE)(ti:TIp):TS:=λD σ H=>∃x,σ[i]?=some (some x)/\te σ H λy H1=>ti x y H1 λz H2=>D.nx (σ.set i (some z)) H2
def RJ{i:Nat}{x:Str}{e:Expr}{te:TE}{op:Operator}{ti:TIp}{pos':Pos}(hN:X.N.Nodup)(hi:X.N[i]?=some x)(hx:Loc X.env.scope x)(he:PE X e te)(ho:PIp X op ti)(hf:X.fn x=true∨X.env.scope.names.lookup x=some .local:=by first|exact .inl rfl|exact .inr rfl|assumption):
 PS X (.AugAssign (.Name x pos') op e pos) (JT i te ti):=by
 intro pins s σ H D I h;obtain⟨v,e1,h⟩:=h;obtain⟨m,hn,hl⟩:=I.loc;have vis:Vis X.env.scope x:=by rcases hx with k|k;exact .inl k;exact .inr (.inl k)
 obtain⟨u,r,l⟩:=hl i x v hi e1 vis;refine wpAny_AugAssign_Name ?_;have go:wpAny (model X.prog X.w) X.A (eval e X.env) (λw s₂=>wpAny (model X.prog X.w) X.A (inplaceOp op u w) (λr s₃=>wpAny (model X.prog X.w) X.A (storeName X.env x r) (λ_=>SP X pins D .next) X.xe s₃) X.xe s₂) X.xe s:=by
  refine thn (he pins s σ H _ I h) λw s1 ⟨y,H1,I1,r1,q1⟩=>?_;refine thn (ho pins s1 σ H1 v y u w _ I1 r r1 q1) λz s2 ⟨zv,H2,I2,r2,q2⟩=>?_;exact C5 I2 hN hi hx r2 (λs3 I3=>⟨_,H2,I3,q2⟩) hf
 rcases l with⟨hk,hm⟩|⟨hk,c,hc,hcell⟩
 .exact wpAny_loadName_local I.ok.kind hk hn hm go
 .rcases hk with hk|hk
  .exact wpAny_loadName_cell I.ok.kind hk hc hcell go
  .rcases hx with k|k
   .have:X.env.scope.names.lookup x=some .free:=hk;rw[k]at this;cases this
   .have:X.env.scope.names.lookup x=some .free:=hk;rw[k]at this;cases this
def Of(to ti te:TE)(tget:V->V->Hp->VK->Prop)(tip:TIp)(tset:N6):TS:=λD σ H=>to σ H λo H1=>ti σ H1 λi H2=>tget o i H2 λx H3=>te σ H3 λy H4=>tip x y H4 λz H5=>tset o i z H5 λH6=>D.nx σ H6
def cQ(X:Cx)(t:V->V->Hp->VK->Prop):Prop:=
 ∀(pins:List (Addr×Obj)) (s:Shared) (σ:St) (H:Hp) (o i:V) (ov iv:Value) (Q:VK),Inv X pins σ H s->RelV o ov->RelV i iv->t o i H Q ->
   wpAny (model X.prog X.w) X.A (getItem ov iv) (EP X pins σ Q) X.xe s
def XW{o i e:Expr}{to ti te:TE}{tget:V->V->Hp->VK->Prop}{tip:TIp}{tset:N6}{op:Operator}{tpos:Pos}(ho:PE X o to)(hi:PE X i ti)(hg:cQ X tget)(he:PE X e te)(hp:PIp X op tip)(hs:V0 X tset)
 (ha:∀ov iv new,augStore i ov iv new=(do holding [new,ov,iv] (setItem ov iv new);release [new,ov,iv] [];pure .next):=by intros;rfl):PS X (.AugAssign (.Subscript o i tpos) op e pos) (Of to ti te tget tip tset):=by
 intro pins s σ H D I h;refine wpAny_AugAssign_SubscriptAny (thn (ho pins s σ H _ I h) λov s1 ⟨x1,H1,I1,r1,q1⟩=>?_) ha;refine thn (hi pins s1 σ H1 _ I1 q1) λiv s2 ⟨x2,H2,I2,r2,q2⟩=>?_;refine thn (hg pins s2 σ H2 x1 x2 ov iv _ I2 r1 r2 q2) λold s3 ⟨x3,H3,I3,r3,q3⟩=>?_;refine thn (he pins s3 σ H3 _ I3 q3) λv s4 ⟨x4,H4,I4,r4,q4⟩=>?_;refine thn (hp pins s4 σ H4 x3 x4 old v _ I4 r3 r4 q4) λnew s5 ⟨x5,H5,I5,r5,q5⟩=>?_;exact thn (hs pins s5 σ H5 x1 x2 x5 ov iv new _ I5 r1 r2 r5 q5) λ_ s6 ⟨H6,I6,q6⟩=>⟨σ,H6,I6,q6⟩
def ipI(f:Int->Int->Int):TIp:=λx y H Q=>∃i j,x=.int i/\y=.int j/\Q (.int (f i j)) H
def Rr:PIp X .Add (ipI λi j=>i+j):=by
 intro pins s σ H x y v u Q I r1 r2 h;obtain⟨i,j,e1,e2,q⟩:=h;subst e1;subst e2;obtain⟨t,rfl⟩:=r1;obtain⟨t',rfl⟩:=r2;exact iadd_int ⟨.int _,H,I.tok _,⟨_,rfl⟩,q⟩
def bY:PIp X .Sub (ipI λi j=>i-j):=by
 intro pins s σ H x y v u Q I r1 r2 h;obtain⟨i,j,e1,e2,q⟩:=h;subst e1;subst e2;obtain⟨t,rfl⟩:=r1;obtain⟨t',rfl⟩:=r2;exact isub_int ⟨.int _,H,I.tok _,⟨_,rfl⟩,q⟩
end
section
variable{X:Cx}{pos:Pos}
def LV(c:TT)(tb:TS):TS:=λD σ H=>∃W:Nat->St->Hp->Prop,(∃m,W m σ H)/\∀m σ H,W m σ H ->
 c σ H λb H1=>if b=true then ∃N:St->Hp->Prop,(∀σ' H',N σ' H'->∃m',m'<m/\W m' σ' H')/\tb { D with nx:=N,ct:=N,bk:=D.nx } σ H1 else D.nx σ H1
def Tx{c:Expr}{body:List Stmt}{tc:TT}{tb:TS}(hp:PassesOwn (model X.prog X.w) X.A X.env X.xe)(hc:PT X c tc)(hb:PSs X body tb):PS X (.While c body [] pos) (LV tc tb):=by
 intro pins s σ H D I h;obtain⟨W,⟨m0,w0⟩,turn⟩:=h;refine wpAny_While (codeAny_whileLoop (λn s'=>∃σ' H',Inv X pins σ' H' s'/\W n σ' H') ?_ m0 ⟨σ,H,I,w0⟩);rintro n s1 ⟨σ1,H1,I1,w1⟩;refine j8 hp (thn (hc pins s1 σ1 H1 _ I1 (turn n σ1 H1 w1)) λb s2 ⟨H2,I2,q2⟩=>?_);cases b with
 |true=>
  obtain⟨N,hN,q2⟩:=q2;rw[i9 rfl];refine j8 hp (thn (hb pins s2 σ1 H2 _ I2 q2) λf s3 q3=>?_);cases f with
  |next=>
   obtain⟨σ3,H3,I3,n3⟩:=q3;obtain⟨m',hm,w3⟩:=hN σ3 H3 n3;exact⟨m',hm,σ3,H3,I3,w3⟩
  |cont=>
   obtain⟨σ3,H3,I3,n3⟩:=q3;obtain⟨m',hm,w3⟩:=hN σ3 H3 n3;exact⟨m',hm,σ3,H3,I3,w3⟩
  |brk=>exact q3
  |ret v=>exact q3
 |false=>
  rw[ic Bool.false_ne_true];exact jn ⟨σ1,H2,I2,q2⟩
end
structure It where
 go:Nat->Hp->Prop
 yld:Nat->Hp->V->Hp->Prop
 stop:Nat->Hp->Prop
def Bw(X:Cx)(pins:List (Addr×Obj))(H:Hp)(b:Addr):Prop:=
 H b=none/\b≠X.env.locals/\b∉X.fs/\(b∈X.ex∨X.s₀.heap.objs.size<=b)/\(∀x c,X.env.cells.lookup x=some c->c≠b)/\∀p∈X.pn++pins,p.1≠b
def Inv.fpOk{X:Cx}{pins:List (Addr×Obj)}{σ:St}{H H':Hp}{s:Shared}{b:Addr}(I:Inv X pins σ H s)(hb:s.heap.objs.size<=b)(hn:H' b=none):Bw X pins H' b:=by
 refine⟨hn,iZ (iC I.lt hb),I.nofs hb,.inr (iJ I.sz hb),λx c e z=>?_,λp hp z=>?_⟩
 .obtain⟨v,q⟩:=I.cell x c e;exact absurd (iC q.lt (by rw[z];exact hb)) (iN _)
 .exact absurd (iC (Heap.lt_size (I.pin p hp).1) (by rw[z];exact hb)) (iN _)
structure Turn(P:Program)(w:World)(K:Frag)(tg:Expr)(J:It)(fp:List Addr)(it:Addr)(tn:Nat->Heap->Prop):Prop where
 mem:it∈fp
 obj:∀i h,tn i h->∀b∈fp,∃o,h.get? b=some o/\∀v,o.data≠.cell v
 keep:∀i h h',tn i h->(∀b∈fp,∀o,h.get? b=some o->h'.get? b=some o)->tn i h'
 item:∀(X:Cx),X.prog=P->X.w=w->X.K=K->X.calm=true->∀(i:Nat) (pins:List (Addr×Obj)) (s:Shared) (σ:St) (H:Hp) (E:Value->Shared->Prop),Inv X pins σ H s->(∀b∈fp,Bw X pins H b)->tn i s.heap->J.go i H ->
  wpAny (model P w) X.A (pyNext (.ref it)) (λr s1=>∃u,r=some u /\
   wpAny (model P w) X.A (letOwnedTupleGo tg (.ref it) u) (λ_ s2=>∃x H',Inv X pins σ H' s2/\RelV x u/\J.yld i H x H'/\tn (i+1) s2.heap/\∀b∈fp,H' b=none) E s1) E s
 done:∀(X:Cx),X.prog=P->X.w=w->X.K=K->X.calm=true->∀(i:Nat) (pins:List (Addr×Obj)) (s:Shared) (σ:St) (H:Hp) (E:Value->Shared->Prop),Inv X pins σ H s->(∀b∈fp,Bw X pins H b)->tn i s.heap->J.stop i H ->
  wpAny (model P w) X.A (pyNext (.ref it)) (λr s1=>r=none/\Inv X pins σ H s1) E s
 self:∀(A:Around) (i:Nat) (s:Shared) (Q:Value->Shared->Prop) (E:Value->Shared->Prop),tn i s.heap->Q (.ref it) s->wpAny (model P w) A (pyIter (.ref it)) Q E s
abbrev TI:=St->Hp->(It->Hp->Prop)->Prop
def PIE(X:Cx)(pins:List (Addr×Obj))(σ:St)(tg:Expr)(R:It->Hp->Prop)(itv:Value)(s2:Shared):Prop:=
 ∃(it:Addr) (fp:List Addr) (tn:Nat->Heap->Prop) (J:It) (H':Hp),itv=.ref it/\Inv X pins σ H' s2/\Turn X.prog X.w X.K tg J fp it tn/\tn 0 s2.heap/\(∀b∈fp,Bw X pins H' b)/\R J H'
def PI(X:Cx)(tg iter:Expr)(wi:TI):Prop:=
 ∀(pins:List (Addr×Obj)) (s:Shared) (σ:St) (H:Hp) (R:It->Hp->Prop),Inv X pins σ H s->wi σ H R ->
   wpAny (model X.prog X.w) X.A (eval iter X.env) (λv s1=>wpAny (model X.prog X.w) X.A (pyIter v) (PIE X pins σ tg R) X.xe s1) X.xe s
def PN{M:Model}{A:Around}{E:Value->Shared->Prop}{s:Shared}{tg:Expr}{it:Addr}{u:Value}{o:Obj}{n:String}{vs:Array Value}{Q:Unit->Shared->Prop}(ho:s.heap.get? it=some o)(hc:o.cls=.type n)(hd:o.data=.fields vs)
 (hn:["enumerate","zip","dict_itemiterator","dict_reverseitemiterator","odict_iterator","itertools.zip_longest","itertools.pairwise"].contains n=false) (hQ:Q () s):wpAny M A (letOwnedTupleGo tg (.ref it) u) Q E s:=by
 unfold letOwnedTupleGo;cases tg<;>first
  |exact ie hQ
  | (cases u<;>first
   |exact ie hQ
   | (refine i8 (wpAny_load ho ?_)
      rw[hc,hd];show wpAny M A (if(["enumerate","zip","dict_itemiterator","dict_reverseitemiterator","odict_iterator","itertools.zip_longest","itertools.pairwise"].contains n&&vs[0]?==some (rawInt _))=true then _ else _) Q E s;rw[ic (by intro h;rw[hn,Bool.false_and]at h;cases h)];exact ie hQ))
def Itl(K:Frag)(a:Addr):It:=
 ⟨λi H=>∃xs x,SqL K H a xs/\xs[i]?=some x,λi H x H'=>H'=H/\∀xs,SqL K H a xs->xs[i]?=some x,λi H=>∃xs,SqL K H a xs/\xs.length<=i⟩
def Itt(K:Frag)(a:Addr):It:=
 ⟨λi H=>∃xs x,SqT K H a xs/\xs[i]?=some x,λi H x H'=>H'=H/\∀xs,SqT K H a xs->xs[i]?=some x,λi H=>∃xs,SqT K H a xs/\xs.length<=i⟩
def Itr(lo:Int)(n:Nat):It:=⟨λi _=>i<n,λi H x H'=>H'=H/\x=.int (lo+i),λi _=>n<=i⟩
def Q8{P:Program}{w:World}{K:Frag}{tg:Expr}(a it:Addr):Turn P w K tg (Itl K a) [it] it (λi h=>h.IsListIter it a i) where
 mem:=by simp
 obj:=λi h st b hb=>by
  have e:b=it:=by simpa using hb
  subst e;obtain⟨o,e,c,d⟩:=st;exact⟨o,e,λv z=>by rw[d]at z;cases z⟩
 keep:=λi h h' st k=>st.at λo e=>k it (by simp) o e
 item:=by
  intro X hP hw hK hc i pins s σ H E I hf st hg;subst hP hw hK;obtain⟨xs,x,hq,hx⟩:=hg;obtain⟨its,rv,p,hz⟩:=I.list hq;obtain⟨u,hu,ru⟩:=rv.get hx;obtain⟨f0,f1,f2,f3,f4,f5⟩:=hf it (by simp);refine wpAny_pyNext_list_item st p.isList (x:=u) (by simpa using hu) λh' st' sb=>?_;have I1:Inv X pins σ H { s with heap:=h' }:=I.turned (t':=s.toks) (λb o hb e=>(sb.2 b hb).trans e) f0 f1 f3 f4 f5;obtain⟨o,e,c,d⟩:=id st';exact⟨u,rfl,PN (s:={ s with heap:=h' }) e c d (by decide) ⟨x,H,I1,ru,⟨rfl,λys hy=>by rw[I.list_inj hy hq];exact hx⟩,st',λb hb=>(hf b hb).1⟩⟩
 done:=by
  intro X hP hw hK hc i pins s σ H E I hf st hg;subst hP hw hK;obtain⟨xs,hq,hx⟩:=hg;obtain⟨its,rv,p,hz⟩:=I.list hq;obtain⟨f0,f1,f2,f3,f4,f5⟩:=hf it (by simp);have hl:=rv.length;exact wpAny_pyNext_list_end (I.ok.hd hc) st p.isList (by simp;omega) λh' eb=>⟨rfl,I.turned (t':=s.toks) (λb o hb e=>eb b o hb e) f0 f1 f3 f4 f5⟩
 self:=λ_ _ _ _ _ st h=>wpAny_pyIter_listiter st h
def OU{P:Program}{w:World}{K:Frag}{tg:Expr}(a it:Addr):Turn P w K tg (Itt K a) [it] it (λi h=>h.IsTupleIter it a i) where
 mem:=by simp
 obj:=λi h st b hb=>by
  have e:b=it:=by simpa using hb
  subst e;obtain⟨o,e,c,d⟩:=st;exact⟨o,e,λv z=>by rw[d]at z;cases z⟩
 keep:=λi h h' st k=>st.at λo e=>k it (by simp) o e
 item:=by
  intro X hP hw hK hc i pins s σ H E I hf st hg;subst hP hw hK;obtain⟨xs,x,hq,hx⟩:=hg;obtain⟨its,rv,p,hz⟩:=I.tuple hq;obtain⟨u,hu,ru⟩:=rv.get hx;obtain⟨f0,f1,f2,f3,f4,f5⟩:=hf it (by simp);refine wpAny_pyNext_tuple_item st (show s.heap.IsTuple a its.toArray from p) (x:=u) (by simpa using hu) λh' st' sb=>?_;have I1:Inv X pins σ H { s with heap:=h' }:=I.turned (t':=s.toks) (λb o hb e=>(sb.2 b hb).trans e) f0 f1 f3 f4 f5;obtain⟨o,e,c,d⟩:=id st';exact⟨u,rfl,PN (s:={ s with heap:=h' }) e c d (by decide) ⟨x,H,I1,ru,⟨rfl,λys hy=>by rw[I.tuple_inj hy hq];exact hx⟩,st',λb hb=>(hf b hb).1⟩⟩
 done:=by
  intro X hP hw hK hc i pins s σ H E I hf st hg;subst hP hw hK;obtain⟨xs,hq,hx⟩:=hg;obtain⟨its,rv,p,hz⟩:=I.tuple hq;obtain⟨f0,f1,f2,f3,f4,f5⟩:=hf it (by simp);have hl:=rv.length;exact wpAny_pyNext_tuple_end (I.ok.hd hc) st (show s.heap.IsTuple a its.toArray from p) (by simp;omega) λh' eb=>⟨rfl,I.turned (t':=s.toks) (λb o hb e=>eb b o hb e) f0 f1 f3 f4 f5⟩
 self:=λ_ _ _ _ _ st h=>wpAny_pyIter_tupleiter st h
def OV{P:Program}{w:World}{K:Frag}{tg:Expr}(it:Addr)(lo:Int)(n:Nat):Turn P w K tg (Itr lo n) [it] it (λi h=>IsRangeIter h it (lo+(i:Nat)*1) ((n:Int)-(i:Nat)) 1) where
 mem:=by simp
 obj:=λi h st b hb=>by
  have e:b=it:=by simpa using hb
  subst e;exact⟨_,st,λv z=>by
   have z':Data.fields _=Data.cell v:=z;cases z'⟩
 keep:=λi h h' st k=>k it (by simp) _ st
 item:=by
  intro X hP hw hK hc i pins s σ H E I hf st hg;subst hP hw hK;obtain⟨f0,f1,f2,f3,f4,f5⟩:=hf it (by simp);have W:=Walks.range (prog:=X.prog) (w:=X.w) (I.ok.hd hc) it lo 1 n;refine W.item i s _ _ hg st λv h' tk hv st' kk=>?_;obtain⟨t,rfl⟩:=hv;have I1:Inv X pins σ H { s with heap:=h',toks:=tk }:=I.turned (λb o hb e=>kk b o (by simpa using hb) e) f0 f1 f3 f4 f5;refine⟨_,rfl,PN (s:={ s with heap:=h',toks:=tk }) (n:="range_iterator") st' rfl rfl (by decide) ⟨.int (lo+i),H,I1,⟨t,?_⟩,⟨rfl,rfl⟩,st',λb hb=>(hf b hb).1⟩⟩;rw[Int.mul_one]
 done:=by
  intro X hP hw hK hc i pins s σ H E I hf st hg;subst hP hw hK;obtain⟨f0,f1,f2,f3,f4,f5⟩:=hf it (by simp);exact wpAny_pyNext_range_end (I.ok.hd hc) st (by have:n<=i:=hg;omega) λh' eb=>⟨rfl,I.turned (t':=s.toks) (λb o hb e=>eb b o hb e) f0 f1 f3 f4 f5⟩
 self:=λ_ _ _ _ _ st h=>wpAny_pyIter_rangeiter st h
section
variable{X:Cx}{tg:Expr}
def JE(K:Frag)(tl:TE):TI:=λσ H R=>tl σ H λx H1=>∃a,x=.ref a/\(∃xs,SqL K H1 a xs)/\R (Itl K a) H1
def Ma(K:Frag)(tl:TE):TI:=λσ H R=>tl σ H λx H1=>∃a,x=.ref a/\(∃xs,SqT K H1 a xs)/\R (Itt K a) H1
def Xb{l:Expr}{tl:TE}(hl:PE X l tl):PI X tg l (JE X.K tl):=by
 intro pins s σ H R I h;refine thn (hl pins s σ H _ I h) λv s1 ⟨x,H1,I1,r1,q1⟩=>?_;obtain⟨a,e,⟨xs,hq⟩,q⟩:=q1;subst e;cases r1;obtain⟨its,rv,p,hz⟩:=I1.list hq;refine wpAny_pyIter_list p.isList ?_;refine⟨s1.heap.objs.size,[s1.heap.objs.size],_,_,H1,rfl,I1.kept (t':=s1.toks) λb o e=>Heap.get?_push_of_some _ e,Q8 a _,⟨_,Heap.get?_push_size _ rfl,rfl,rfl⟩,λb hb=>?_,q⟩;have e:b=s1.heap.objs.size:=by simpa using hb
 subst e;exact I1.fpOk (ig _) (I1.hok.fresh (ig _))
def aR{l:Expr}{tl:TE}(hl:PE X l tl):PI X tg l (Ma X.K tl):=by
 intro pins s σ H R I h;refine thn (hl pins s σ H _ I h) λv s1 ⟨x,H1,I1,r1,q1⟩=>?_;obtain⟨a,e,⟨xs,hq⟩,q⟩:=q1;subst e;cases r1;obtain⟨its,rv,p,hz⟩:=I1.tuple hq;refine wpAny_pyIter_tuple (show s1.heap.IsTuple a its.toArray from p) ?_;refine⟨s1.heap.objs.size,[s1.heap.objs.size],_,_,H1,rfl,I1.kept (t':=s1.toks) λb o e=>Heap.get?_push_of_some _ e,OU a _,⟨_,Heap.get?_push_size _ rfl,rfl,rfl⟩,λb hb=>?_,q⟩;have e:b=s1.heap.objs.size:=by simpa using hb
 subst e;exact I1.fpOk (ig _) (I1.hok.fresh (ig _))
def TZ{pins:List (Addr×Obj)}{σ:St}{H:Hp}{s:Shared}{R:It->Hp->Prop}{E:Value->Shared->Prop}{lo hi:Int}{t u v:Tok}{tk:Nat}(I:Inv X pins σ H s)(h1:-(2^62)<=lo)(h2:lo<2^62)(h3:-(2^62)<=hi)(h4:hi<2^62)
 (q:R (Itr lo (hi-lo).toNat) H):wpAny (model X.prog X.w) X.A (pyIter (.ref s.heap.objs.size)) (PIE X pins σ tg R) E { s with heap:=s.heap.push { cls:=.type "range",data:=.fields #[.int lo t,.int hi u,.int 1 v] },toks:=tk }:=by
 refine wpAny_pyIter_range (IsRange.new ..) (small_one h1 h2 h3 h4) ?_;have I1:Inv X pins σ H { s with heap:=s.heap.push { cls:=.type "range",data:=.fields #[.int lo t,.int hi u,.int 1 v] },toks:=tk }:=I.kept λb o e=>Heap.get?_push_of_some _ e;refine⟨(s.heap.push { cls:=.type "range",data:=.fields #[.int lo t,.int hi u,.int 1 v] }).objs.size,[(s.heap.push { cls:=.type "range",data:=.fields #[.int lo t,.int hi u,.int 1 v] }).objs.size],_,_,H,rfl,
  I1.kept (t':=tk) λb o e=>Heap.get?_push_of_some _ e,OV _ lo (hi-lo).toNat,?_,λb hb=>?_,q⟩
 .have e1:lo+((0:Nat):Int)*1=lo:=by simp
  have e2:(((hi-lo).toNat:Nat):Int)-((0:Nat):Int)=Builtin.Range.rangeSize lo hi 1:=by rw[rangeSize_one];split<;>omega
  show IsRangeIter _ _ (lo+((0:Nat):Int)*1) ((((hi-lo).toNat:Nat):Int)-((0:Nat):Int)) 1;rw[e1,e2];exact Heap.get?_push_size _ rfl
 .have e:b=(s.heap.push { cls:=.type "range",data:=.fields #[.int lo t,.int hi u,.int 1 v] }).objs.size:=by simpa using hb
  subst e;exact I1.fpOk (ig _) (I1.hok.fresh (ig _))
def PL(ta:TA):TI:=λσ H R=>ta σ H λvs H1=>∃j:Int,vs=[.int j]/\-(2^62)<=j/\j<2^62/\R (Itr 0 j.toNat) H1
def RV{a:Expr}{ta:TA}{p pos:Pos}(hg:Gl X "range")(hm:X.mg "range"=none)(ha:PA X [a] ta)(hs:starEach [a] X.env=[(false,eval a X.env)]:=by rfl):PI X tg (.Call (.Name "range" p) [a] [] pos) (PL ta):=by
 intro pins s σ H R I h;refine Call_ (Et I hg hm boot_range (PyProof.Rows.callWith_type1 (thn (ha pos pins s σ H _ I h) λus s1 ⟨vs,H1,I1,r1,q1⟩=>?_) hs rfl));obtain⟨j,e,q1,q2,q⟩:=q1;subst e;cases r1 with
 |cons r rr=>
  cases rr;obtain⟨t,rfl⟩:=r;exact call_range_1 (TZ I1 (by omega) (by omega) q1 q2 (by simpa using q))
def LZ(wi:TI)(g:TG)(tb:TS):TS:=λD σ H=>wi σ H λJ H1=>∃W:Nat->Nat->St->Hp->Prop,(∃m,W 0 m σ H1)/\∀i m σ H,W i m σ H ->
 (J.stop i H/\D.nx σ H)∨(J.go i H/\∃N:St->Hp->Prop,(∀σ' H',N σ' H'->∃m',m'<m/\W (i+1) m' σ' H')/\∀x H',J.yld i H x H'->g x σ H' λσ2 H2=>tb { D with nx:=N,ct:=N,bk:=D.nx } σ2 H2)
def DM(fp:List Addr)(h:Heap):List (Addr×Obj):=fp.filterMap λb=>(h.get? b).map λo=>(b,o)
def BH{fp:List Addr}{h:Heap}{b:Addr}{o:Obj}(hb:b∈fp)(e:h.get? b=some o):(b,o)∈DM fp h:=mem_filterMap.mpr ⟨b,hb,by rw[e];rfl⟩
def Rh{fp:List Addr}{h:Heap}{p:Addr×Obj}(hp:p∈DM fp h):p.1∈fp/\h.get? p.1=some p.2:=by
 obtain⟨b,hb,e⟩:=mem_filterMap.mp hp;cases q:h.get? b with
 |none=>rw[q]at e;cases e
 |some o=>
  rw[q]at e;have e':(b,o)=p:=Option.some.inj e;subst e';exact⟨hb,q⟩
def Inv.pinned{pins:List (Addr×Obj)}{σ:St}{H:Hp}{s:Shared}{fp:List Addr}(I:Inv X pins σ H s)(hf:∀b∈fp,Bw X pins H b)(ho:∀b∈fp,∃o,s.heap.get? b=some o/\∀v,o.data≠.cell v):Inv X (pins++DM fp s.heap) σ H s:=
 I.pins_of λp hp=>(mem_append.mp hp).elim (λz=>I.pin p (ir _ z)) λz=>by
  obtain⟨hb,e⟩:=Rh z;obtain⟨f0,f1,f2,_⟩:=hf p.1 hb;obtain⟨o,e',d⟩:=ho p.1 hb;rw[e]at e';cases e';exact⟨e,f0,f1,f2,d⟩
def Inv.unpinned{pins pl:List (Addr×Obj)}{σ:St}{H:Hp}{s:Shared}(I:Inv X (pins++pl) σ H s):Inv X pins σ H s:=I.pins_of λp hp=>I.pin p (ir _ (j5 _ hp))
def aP{iter:Expr}{body:List Stmt}{wi:TI}{g:TG}{tb:TS}{pos:Pos}(hp:PassesOwn (model X.prog X.w) X.A X.env X.xe)(hc:X.calm=true)(hi:PI X tg iter wi)(hg:PG X tg g)(hb:PSs X body tb)
 (hs:∀x,foldedSetIterable iter X.env x=pure x:=by intro _;rfl):PS X (.For tg iter body [] pos) (LZ wi g tb):=by
 intro pins s σ H D I h;refine wpAny_For (thn (hi pins s σ H _ I h) λv s1 h1=>thn h1 λitv s2 h2=>?_) hs;obtain⟨it,fp,tn,J,H2,e,I2,T,st2,f2,W,⟨m0,w0⟩,turn⟩:=h2;subst e
 -- what stays true of the iterator's objects through the loop
 have stat:∀{H':Hp},(∀b∈fp,H' b=none)->∀b∈fp,Bw X pins H' b:=λhn b hb=>⟨hn b hb,(f2 b hb).2⟩
 refine codeAny_forLoop_any (λn s'=>∃i σ' H',Inv X pins σ' H' s'/\tn i s'.heap/\(∀b∈fp,H' b=none)/\W i n σ' H') ?_ m0 ⟨0,σ,H2,I2,st2,λb hb=>(f2 b hb).1,w0⟩;rintro n s3 ⟨i,σ3,H3,I3,st3,fr3,w3⟩;rcases turn i n σ3 H3 w3 with⟨stop,qn⟩|⟨go,N,hN,step⟩
 .refine j8 hp (thn (T.done X rfl rfl rfl hc i pins s3 σ3 H3 X.xe I3 (stat fr3) st3 stop) λr s4 ⟨hr,I4⟩=>?_);subst hr;exact jn ⟨σ3,H3,I4,qn⟩
 .refine j8 hp (thn (T.item X rfl rfl rfl hc i pins s3 σ3 H3 X.xe I3 (stat fr3) st3 go) λr s4 ⟨u,hr,h4⟩=>?_);subst hr;refine j8 hp (thn h4 λ_ s5 ⟨x,H5,I5,r5,y5,st5,fr5⟩=>?_);have I5':=I5.pinned (stat fr5) (T.obj _ _ st5);refine j8 hp (thn (hg _ s5 σ3 H5 x u _ I5' r5 (step x H5 y5)) λ_ s6 ⟨σ6,H6,I6,q6⟩=>?_);refine j8 hp (thn (hb _ s6 σ6 H6 _ I6 q6) λf s7 q7=>?_);have again:∀{σ7:St} {H7:Hp},Inv X (pins++DM fp s5.heap) σ7 H7 s7->N σ7 H7->∃m,m<n/\∃i σ' H',Inv X pins σ' H' s7/\tn i s7.heap/\(∀b∈fp,H' b=none)/\W i m σ' H':=λ{σ7 H7} I7 n7=>by
   obtain⟨m',hm,w7⟩:=hN σ7 H7 n7;refine⟨m',hm,i+1,σ7,H7,I7.unpinned,T.keep _ _ _ st5 λb hb o e=>(I7.pin (b,o) (ir _ (ir _ (BH hb e)))).1,λb hb=>?_,w7⟩;obtain⟨o,e,d⟩:=T.obj _ _ st5 b hb;exact(I7.pin (b,o) (ir _ (ir _ (BH hb e)))).2.1
  cases f with
  |next=>obtain⟨σ7,H7,I7,n7⟩:=q7;exact again I7 n7
  |cont=>obtain⟨σ7,H7,I7,n7⟩:=q7;exact again I7 n7
  |brk=>obtain⟨σ7,H7,I7,q7⟩:=q7;exact⟨σ7,H7,I7.unpinned,q7⟩
  |ret v=>obtain⟨x7,σ7,H7,I7,r7,q7⟩:=q7;exact⟨x7,σ7,H7,I7.unpinned,r7,q7⟩
end
abbrev R2:=V->V->Hp->VK->Prop
def OpR(X:Cx)(f:Value->Value->Sem Value)(r:R2):Prop:=
 ∀(pins:List (Addr×Obj)) (s:Shared) (σ:St) (H:Hp) (x y:V) (v u:Value) (Q:VK),Inv X pins σ H s->RelV x v->RelV y u->r x y H Q ->
   wpAny (model X.prog X.w) X.A (f v u) (EP X pins σ Q) X.xe s
def UnR(X:Cx)(f:Value->Sem Value)(r:V->Hp->VK->Prop):Prop:=
 ∀(pins:List (Addr×Obj)) (s:Shared) (σ:St) (H:Hp) (x:V) (v:Value) (Q:VK),Inv X pins σ H s->RelV x v->r x H Q ->
   wpAny (model X.prog X.w) X.A (f v) (EP X pins σ Q) X.xe s
def CallR(X:Cx)(f:Value)(r:List V->Hp->VK->Prop):Prop:=
 ∀(pins:List (Addr×Obj)) (s:Shared) (σ:St) (H:Hp) (xs:List V) (us:List Value) (Q:VK),Inv X pins σ H s->Vals xs us->r xs H Q ->
   wpAny (model X.prog X.w) X.A (call f us) (EP X pins σ Q) X.xe s
def fA(X:Cx)(r:V->Hp->(Bool->Hp->Prop)->Prop):Prop:=
 ∀(pins:List (Addr×Obj)) (s:Shared) (σ:St) (H:Hp) (x:V) (v:Value) (Q:Bool->Hp->Prop),Inv X pins σ H s->RelV x v->r x H Q ->
   wpAny (model X.prog X.w) X.A (truthy v) (TP X pins σ Q) X.xe s
def tOp(r:R2)(ta tb:TE):TE:=λσ H Q=>ta σ H λx H1=>tb σ H1 λy H2=>r x y H2 Q
def tUn(r:V->Hp->VK->Prop)(ta:TE):TE:=λσ H Q=>ta σ H λx H1=>r x H1 Q
def rI(C:Int->Int->Prop)(g:Int->Int->V):R2:=λx y H Q=>∃i j,x=.int i/\y=.int j/\C i j/\Q (g i j) H
def rI0(g:Int->Int->V):R2:=λx y H Q=>∃i j,x=.int i/\y=.int j/\Q (g i j) H
def rU(g:Int->V):V->Hp->VK->Prop:=λx H Q=>∃i,x=.int i/\Q (g i) H
section
variable{X:Cx}{a b c:Expr}{ta tb tc:TE}{pos:Pos}
def Ux(ha:PE X a ta)(hb:PE X b tb){pins:List (Addr×Obj)}{s:Shared}{σ:St}{H:Hp}{R:V->V->Hp->Prop}(I:Inv X pins σ H s)
 (h:ta σ H λx H1=>tb σ H1 λy H2=>R x y H2) {Q:Value->Shared->Prop} {f:Value->Value->Sem Value}
 (hf:∀v u s2 x y H2,Inv X pins σ H2 s2->RelV x v->RelV y u->R x y H2->wpAny (model X.prog X.w) X.A (f v u) Q X.xe s2):
 wpAny (model X.prog X.w) X.A (eval a X.env) (λv s₁=>wpAny (model X.prog X.w) X.A (eval b X.env) (λu s₂=>wpAny (model X.prog X.w) X.A (f v u) Q X.xe s₂) X.xe s₁) X.xe s:=by
 refine thn (ha pins s σ H _ I h) λv s1 ⟨x,H1,I1,r1,q1⟩=>?_;refine thn (hb pins s1 σ H1 _ I1 q1) λu s2 ⟨y,H2,I2,r2,q2⟩=>?_;exact hf v u s2 x y H2 I2 r1 r2 q2
def VL{op:Operator}{r:R2}(ho:OpR X (binaryOp op) r)(ha:PE X a ta)(hb:PE X b tb):PE X (.BinOp a op b pos) (tOp r ta tb):=by
 intro pins s σ H Q I h;exact wpAny_BinOp (Ux ha hb I h λv u s2 x y H2 I2 rx ry q=>ho pins s2 σ H2 x y v u Q I2 rx ry q)
def dJ{op:UnaryOp}{r:V->Hp->VK->Prop}(ho:UnR X (unaryOp op) r)(ha:PE X a ta):PE X (.UnaryOp op a pos) (tUn r ta):=by
 intro pins s σ H Q I h;exact UnaryOp_ (thn (ha pins s σ H _ I h) λv s1 ⟨x,H1,I1,r1,q1⟩=>ho pins s1 σ H1 x v Q I1 r1 q1)
def opI{f:Value->Value->Sem Value}{C:Int->Int->Prop}{g:Int->Int->Int}
 (rule:∀(i j:Int) (t u:Tok) (s:Shared) (Q:Value->Shared->Prop) (E:Value->Shared->Prop),C i j->Q (.int (g i j) s.toks) { s with toks:=s.toks+1 }->wpAny (model X.prog X.w) X.A (f (.int i t) (.int j u)) Q E s):
 OpR X f (rI C λi j=>.int (g i j)):=by
 intro pins s σ H x y v u Q I rx ry h;obtain⟨i,j,rfl,rfl,hc,q⟩:=h;obtain⟨t,rfl⟩:=rx;obtain⟨t',rfl⟩:=ry;exact rule i j t t' s _ _ hc ⟨.int (g i j),H,I.tok _,⟨_,rfl⟩,q⟩
def ay{f:Value->Value->Sem Value}{g:Int->Int->Int}
 (rule:∀(i j:Int) (t u:Tok) (s:Shared) (Q:Value->Shared->Prop) (E:Value->Shared->Prop),Q (.int (g i j) s.toks) { s with toks:=s.toks+1 }->wpAny (model X.prog X.w) X.A (f (.int i t) (.int j u)) Q E s):
 OpR X f (rI0 λi j=>.int (g i j)):=by
 intro pins s σ H x y v u Q I rx ry h;obtain⟨i,j,rfl,rfl,q⟩:=h;obtain⟨t,rfl⟩:=rx;obtain⟨t',rfl⟩:=ry;exact rule i j t t' s _ _ ⟨.int (g i j),H,I.tok _,⟨_,rfl⟩,q⟩
def P4{f:Value->Value->Sem Value}{g:Int->Int->Bool}
 (rule:∀(i j:Int) (t u:Tok) (s:Shared) (Q:Value->Shared->Prop) (E:Value->Shared->Prop),Q (.bool (g i j)) s->wpAny (model X.prog X.w) X.A (f (.int i t) (.int j u)) Q E s):
 OpR X f (rI0 λi j=>.bl (g i j)):=by
 intro pins s σ H x y v u Q I rx ry h;obtain⟨i,j,rfl,rfl,q⟩:=h;obtain⟨t,rfl⟩:=rx;obtain⟨t',rfl⟩:=ry;exact rule i j t t' s _ _ ⟨.bl (g i j),H,I,rfl,q⟩
def cT(i j:Int):Prop:=0<j/\j<1073741824
def cR(i j:Int):Prop:=0<=j/\j<=1000000/\i.natAbs<2^64
def CMul(i j:Int):Prop:=(-(2^64)<i/\i<2^64)∨(-(2^64)<j/\j<2^64)
def CMul.ok{i j:Int}(h:CMul i j):IntMulOk i j:=by
 rcases h with⟨h1,h2⟩|⟨h1,h2⟩
 .exact .of_left (intBits_le_64 h1 h2)
 .exact .of_right (intBits_le_64 h1 h2)
def Re:OpR X (binaryOp .Add) (rI0 λi j=>.int (i+j)):=ay λ_ _ _ _ _ _ _ q=>add_int q
def am:OpR X (binaryOp .Sub) (rI0 λi j=>.int (i-j)):=ay λ_ _ _ _ _ _ _ q=>sub_int q
def ar:OpR X (binaryOp .Mult) (rI CMul λi j=>.int (i*j)):=opI λ_ _ _ _ _ _ _ hc q=>mul_int q hc.ok
def Xk:OpR X (binaryOp .FloorDiv) (rI cT λi j=>.int (i/j)):=opI λi j _ _ _ _ _ hc q=>by
 have h1:(0:Int)<j:=hc.1;have h2:j<1073741824:=hc.2;exact floordiv_int (by omega) (by rw[Int.fdiv_eq_ediv_of_nonneg i (by omega)];exact q) (.inl (PyProof.noPylong_small (by omega)))
def au:OpR X (binaryOp .Mod) (rI (λ_ j=>0<j) λi j=>.int (i%j)):=opI λi j _ _ _ _ _ hc q=>by
 have h1:(0:Int)<j:=hc;exact mod_int' (by omega) (by rw[Int.fmod_eq_emod_of_nonneg i (by omega)];exact q)
def ao:OpR X (binaryOp .Pow) (rI cR λi j=>.int (i^j.toNat)):=opI λ_ _ _ _ _ _ _ hc q=>pow_int_small hc.1 hc.2.1 hc.2.2 q
def unI{f:Value->Sem Value}{g:Int->Int}
 (rule:∀(i:Int) (t:Tok) (s:Shared) (Q:Value->Shared->Prop) (E:Value->Shared->Prop),Q (.int (g i) s.toks) { s with toks:=s.toks+1 }->wpAny (model X.prog X.w) X.A (f (.int i t)) Q E s):
 UnR X f (rU λi=>.int (g i)):=by
 intro pins s σ H x v Q I rx h;obtain⟨i,rfl,q⟩:=h;obtain⟨t,rfl⟩:=rx;exact rule i t s _ _ ⟨.int (g i),H,I.tok _,⟨_,rfl⟩,q⟩
def Yo:UnR X (unaryOp .USub) (rU λi=>.int (-i)):=unI λ_ _ _ _ _ q=>neg_int q
end
def Lj:V->V->Bool
 |.non,.non=>true|.non,.int _=>true|.int _,.non=>true|.non,.bl _=>true|.bl _,.non=>true|.non,.str _=>true|.str _,.non=>true
 |.int _,.int _=>true|.bl _,.bl _=>true|.str _,.str _=>true|.byt _,.byt _=>true
 |.int _,.str _=>true|.str _,.int _=>true|.bl _,.str _=>true|.str _,.bl _=>true
 |_,_=>false
def rEq:R2:=λx y H Q=>Lj x y=true/\Q (.bl (decide (x=y))) H
def rNe:R2:=λx y H Q=>Lj x y=true/\Q (.bl (!decide (x=y))) H
def OF{i j:Int}:decide (V.int i=V.int j)=(i==j):=by
 rw[Bool.eq_iff_iff];simp
def SH{i j:Bool}:decide (V.bl i=V.bl j)=(i==j):=by
 rw[Bool.eq_iff_iff];simp
def OE{i j:Str}:decide (V.str i=V.str j)=(i==j):=by
 rw[Bool.eq_iff_iff];simp
def OG{i j:Array UInt8}:decide (V.byt i=V.byt j)=(i.toList==j.toList):=by
 rw[Bool.eq_iff_iff];cases i;cases j;simp
section
variable{X:Cx}{a b c:Expr}{ta tb tc:TE}{pos:Pos}
def Ah{pins:List (Addr×Obj)}{σ:St}{H:Hp}{s:Shared}{Q:VK}{k k':Bool}(I:Inv X pins σ H s)(q:Q (.bl k) H)(e:k=k'):EP X pins σ Q (.bool k') s:=by
 subst e;exact⟨.bl k,H,I,rfl,q⟩
def VS:OpR X (compareOp .Eq) rEq:=by
 intro pins s σ H x y v u Q I rx ry h;obtain⟨hs,q⟩:=h;cases x with
 |non=>
  cases rx;cases y with
  |non=>cases ry;exact PySem.EqNone.eq_none_none (Ah I q (by simp))
  |bl j=>cases ry;exact PySem.EqNone.eq_none_bool (Ah I q (by simp))
  |int j=>obtain⟨t',rfl⟩:=ry;exact PySem.EqNone.eq_none_int (Ah I q (by simp))
  |str j=>obtain⟨t',rfl⟩:=ry;exact PySem.EqNone.eq_none_str (Ah I q (by simp))
  |_=>exact absurd (show false=true from hs) Bool.false_ne_true
 |bl i=>
  cases rx;cases y with
  |non=>cases ry;exact PySem.EqNone.eq_bool_none (Ah I q (by simp))
  |bl j=>cases ry;exact eq_bool (Ah I q SH)
  |str j=>obtain⟨t',rfl⟩:=ry;exact PySem.EqMixed.eq_bool_str (Ah I q (by simp))
  |_=>exact absurd (show false=true from hs) Bool.false_ne_true
 |int i=>
  obtain⟨t,rfl⟩:=rx;cases y with
  |non=>cases ry;exact PySem.EqNone.eq_int_none (Ah I q (by simp))
  |int j=>obtain⟨t',rfl⟩:=ry;exact eq_int (Ah I q OF)
  |str j=>obtain⟨t',rfl⟩:=ry;exact PySem.EqMixed.eq_int_str (Ah I q (by simp))
  |_=>exact absurd (show false=true from hs) Bool.false_ne_true
 |str i=>
  obtain⟨t,rfl⟩:=rx;cases y with
  |non=>cases ry;exact PySem.EqNone.eq_str_none (Ah I q (by simp))
  |bl j=>cases ry;exact PySem.EqMixed.eq_str_bool (Ah I q (by simp))
  |int j=>obtain⟨t',rfl⟩:=ry;exact PySem.EqMixed.eq_str_int (Ah I q (by simp))
  |str j=>obtain⟨t',rfl⟩:=ry;exact eq_str (Ah I q OE)
  |_=>exact absurd (show false=true from hs) Bool.false_ne_true
 |byt i=>
  obtain⟨t,rfl⟩:=rx;cases y with
  |byt j=>obtain⟨t',rfl⟩:=ry;exact PySem.W.eq_bytes (Ah I q OG)
  |_=>exact absurd (show false=true from hs) Bool.false_ne_true
 |_=>cases y<;>exact absurd (show false=true from hs) Bool.false_ne_true
def VP:OpR X (compareOp .NotEq) rNe:=by
 intro pins s σ H x y v u Q I rx ry h;obtain⟨hs,q⟩:=h;cases x with
 |non=>
  cases rx;cases y with
  |non=>cases ry;exact PySem.EqNone.ne_none_none (Ah I q (by simp))
  |bl j=>cases ry;exact PySem.EqNone.ne_none_bool (Ah I q (by simp))
  |int j=>obtain⟨t',rfl⟩:=ry;exact PySem.EqNone.ne_none_int (Ah I q (by simp))
  |str j=>obtain⟨t',rfl⟩:=ry;exact PySem.EqNone.ne_none_str (Ah I q (by simp))
  |_=>exact absurd (show false=true from hs) Bool.false_ne_true
 |bl i=>
  cases rx;cases y with
  |non=>cases ry;exact PySem.EqNone.ne_bool_none (Ah I q (by simp))
  |bl j=>cases ry;exact ne_bool (Ah I q (iP not SH))
  |str j=>obtain⟨t',rfl⟩:=ry;exact PySem.EqMixed.ne_bool_str (Ah I q (by simp))
  |_=>exact absurd (show false=true from hs) Bool.false_ne_true
 |int i=>
  obtain⟨t,rfl⟩:=rx;cases y with
  |non=>cases ry;exact PySem.EqNone.ne_int_none (Ah I q (by simp))
  |int j=>obtain⟨t',rfl⟩:=ry;exact ne_int (Ah I q (iP not OF))
  |str j=>obtain⟨t',rfl⟩:=ry;exact PySem.EqMixed.ne_int_str (Ah I q (by simp))
  |_=>exact absurd (show false=true from hs) Bool.false_ne_true
 |str i=>
  obtain⟨t,rfl⟩:=rx;cases y with
  |non=>cases ry;exact PySem.EqNone.ne_str_none (Ah I q (by simp))
  |bl j=>cases ry;exact PySem.EqMixed.ne_str_bool (Ah I q (by simp))
  |int j=>obtain⟨t',rfl⟩:=ry;exact PySem.EqMixed.ne_str_int (Ah I q (by simp))
  |str j=>obtain⟨t',rfl⟩:=ry;exact ne_str (Ah I q (iP not OE))
  |_=>exact absurd (show false=true from hs) Bool.false_ne_true
 |byt i=>
  obtain⟨t,rfl⟩:=rx;cases y with
  |byt j=>obtain⟨t',rfl⟩:=ry;exact PySem.W.ne_bytes (Ah I q (iP not OG))
  |_=>exact absurd (show false=true from hs) Bool.false_ne_true
 |_=>cases y<;>exact absurd (show false=true from hs) Bool.false_ne_true
def VQ:OpR X (compareOp .Lt) (rI0 λi j=>.bl (decide (i<j))):=P4 λ_ _ _ _ _ _ _ q=>lt_int q
def dO:OpR X (compareOp .LtE) (rI0 λi j=>.bl (decide (i<=j))):=P4 λ_ _ _ _ _ _ _ q=>le_int q
def dP:OpR X (compareOp .Gt) (rI0 λi j=>.bl (decide (j<i))):=P4 λ_ _ _ _ _ _ _ q=>gt_int q
def VR:OpR X (compareOp .GtE) (rI0 λi j=>.bl (decide (j<=i))):=P4 λ_ _ _ _ _ _ _ q=>ge_int q
def OpR.or{f:Value->Value->Sem Value}{r r':R2}(h:OpR X f r)(h':OpR X f r'):OpR X f (λx y H Q=>r x y H Q∨r' x y H Q):=by
 intro pins s σ H x y v u Q I rx ry q;rcases q with q|q
 .exact h pins s σ H x y v u Q I rx ry q
 .exact h' pins s σ H x y v u Q I rx ry q
def J4(b:Expr){op:CmpOp}(h:op≠.In:=by decide)(h2:op≠.NotIn:=by decide):behindInMarks op b=false:=by
 have e1:(op==CmpOp.In)=false:=by cases op<;>first|rfl|exact absurd rfl h
 have e2:(op==CmpOp.NotIn)=false:=by cases op<;>first|rfl|exact absurd rfl h2
 cases b<;>simp[behindInMarks,e1,e2]
def Nu{op:CmpOp}{r:R2}(ho:OpR X (compareOp op) r)(ha:PE X a ta)(hb:PE X b tb)(hm:behindInMarks op b=false):PE X (.Compare a [op] [b] pos) (tOp r ta tb):=by
 intro pins s σ H Q I h;exact wpAny_Compare1 (Ux ha hb I h λv u s2 x y H2 I2 rx ry q=>ho pins s2 σ H2 x y v u Q I2 rx ry q) hm
def L9(t:TE):TT:=λσ H Q=>t σ H λx H'=>∃k,x=.bl k/\Q k H'
def Nk{op:CmpOp}{r:R2}(ho:OpR X (compareOp op) r)(ha:PE X a ta)(hb:PE X b tb)(hm:behindInMarks op b=false):PT X (.Compare a [op] [b] pos) (L9 (tOp r ta tb)):=by
 intro pins s σ H Q I h;refine wpAny_isTrue_Compare1 (thn (ha pins s σ H _ I h) λv s1 ⟨x,H1,I1,r1,q1⟩=>thn (hb pins s1 σ H1 _ I1 q1) λu s2 ⟨y,H2,I2,r2,q2⟩=>
  thn (ho pins s2 σ H2 x y v u _ I2 r1 r2 q2) λc s3 ⟨z,H3,I3,r3,k,e,q3⟩=>?_) hm
 subst e;cases r3;exact jy ⟨H3,I3,q3⟩
def N5(K:Frag)(x:V)(H:Hp)(k:Bool):Prop:=
 match x with
 |.non=>k=false
 |.bl b=>k=b
 |.int i=>k=(i != 0)
 |.str y=>y.length<=sizeLine/\k=((y.length:Int) != 0)
 |.byt y=>y.size<=sizeLine/\k=((y.size:Int) != 0)
 |.ref p=>(∃xs,SqL K H p xs/\k=!xs.isEmpty)∨(∃xs,SqT K H p xs/\k=!xs.isEmpty)∨∃kvs,H p=some (.dK kvs)/\k=!kvs.isEmpty
 |_=>False
def PJ{κ:Type}{kvs:List (κ×V)}{vs:List (κ×Value)}(r:KV kvs vs):(!vs.isEmpty)=!kvs.isEmpty:=by
 cases r<;>rfl
def JB{xs:List V}{its:List Value}(r:Vals xs its):(!its.toArray.isEmpty)=!xs.isEmpty:=by
 cases r<;>simp
def Fd:(sizeLine:Nat)<2^63:=by rw[je];decide
def Yr:fA X (λx H Q=>∃k,N5 X.K x H k/\Q k H):=by
 intro pins s σ H x v Q I rx h;obtain⟨k,e,q⟩:=h;have hl:=Fd;have hs:sizeLine=16777216:=je;cases x with
 |non=>
  cases rx;have e':k=false:=e;subst e';exact truthy_none ⟨H,I,q⟩
 |bl b=>
  cases rx;have e':k=b:=e;subst e';exact jy ⟨H,I,q⟩
 |int i=>
  obtain⟨t,rfl⟩:=rx;have e':k=(i != 0):=e;subst e';exact PySem.P.truthy_int ⟨H,I,q⟩
 |str y=>
  obtain⟨t,rfl⟩:=rx;obtain⟨hy,e'⟩:y.length<=sizeLine/\k=((y.length:Int) != 0):=e;subst e';exact PySem.P.truthy_str (by omega) ⟨H,I.tok _,q⟩
 |byt y=>
  obtain⟨t,rfl⟩:=rx;obtain⟨hy,e'⟩:y.size<=sizeLine/\k=((y.size:Int) != 0):=e;subst e';exact PySem.W.truthy_bytes (by omega) ⟨H,I.tok _,q⟩
 |ref p=>
  cases rx;have e':(∃xs,SqL X.K H p xs/\k=!xs.isEmpty)∨(∃xs,SqT X.K H p xs/\k=!xs.isEmpty)∨∃kvs,H p=some (.dK kvs)/\k=!kvs.isEmpty:=e;rcases e' with⟨xs,hx,e'⟩|⟨xs,hx,e'⟩|⟨kvs,hx,e'⟩
  .subst e';obtain⟨its,r,pl,hz⟩:=I.list hx;have hlen:=r.length;exact wpAny_truthy_list pl.isList (by simp only[ik];omega) ⟨H,I.tok _,by rw[JB r];exact q⟩
  .subst e';obtain⟨its,r,pl,hz⟩:=I.tuple hx;have hlen:=r.length;exact truthy_tuple pl (by simp only[ik];omega) ⟨H,I.tok _,by rw[JB r];exact q⟩
  .subst e';obtain⟨hz,hS,vs,r,m⟩:kvs.length<=sizeLine/\(p==sysModules)=false/\∃vs,KV kvs vs/\s.heap.DictOf (Jj X.prog X.w) p vs:=I.hok p _ hx;have hlen:kvs.length=vs.length:=Paired.length r;exact wpAny_truthy_dict hS m (by omega) ⟨H,I.tok _,by rw[PJ r];exact q⟩
 |_=>exact(show False from e).elim
def Tu(ha:PE X a ta)(he:∀whole,isTrue a X.env whole=(do let v <- whole;standAt a.pos;holding [v] (truthy v))):
 PT X a (λσ H Q=>ta σ H λx H'=>∃k,N5 X.K x H' k/\Q k H'):=by
 intro pins s σ H Q I h;exact isTrue_plain (thn (ha pins s σ H _ I h) λv s1 ⟨x,H1,I1,r1,q1⟩=>Yr pins s1 σ H1 x v Q I1 r1 q1) (he _)
def Cf{x:V}{us:List Value}(r:Vals [x] us):∃u,us=[u]/\RelV x u:=by
 cases r with
 |cons r1 r2=>cases r2;exact⟨_,rfl,r1⟩
def OS{x y:V}{us:List Value}(r:Vals [x,y] us):∃u w',us=[u,w']/\RelV x u/\RelV y w':=by
 cases r with
 |cons r1 r2=>
  cases r2 with
  |cons r3 r4=>cases r4;exact⟨_,_,rfl,r1,r3⟩
def Uv:CallR X (.builtin "abs") (λxs H Q=>∃i,xs=[.int i]/\Q (.int (if i<0 then -i else i)) H):=by
 intro pins s σ H xs us Q I r h;obtain⟨i,rfl,q⟩:=h;obtain⟨u,rfl,t,rfl⟩:=Cf r;exact call_abs_int λu tk=>⟨.int (if i<0 then -i else i),H,I.tok _,⟨_,rfl⟩,q⟩
def SR(hc:X.calm=true):CallR X (.builtin "min") (λxs H Q=>∃i j,xs=[.int i,.int j]/\Q (.int (if j<i then j else i)) H):=by
 intro pins s σ H xs us Q I r h;obtain⟨i,j,rfl,q⟩:=h;obtain⟨u,w',rfl,⟨t,rfl⟩,⟨t',rfl⟩⟩:=OS r;refine min_two_ints (I.ok.hd hc) λh' tk k=>⟨_,H,I.kept k,?_,q⟩
 by_cases hj:j<i
 .rw[i9 hj,i9 hj];exact⟨_,rfl⟩
 .rw[ic hj,ic hj];exact⟨_,rfl⟩
end
def Gh{h:Heap}{dx:Addr}{mA:Str->Option Value}(n:h.Ns1 dx mA):∃od,h.get? dx=some od/\∀name,PySem.W.lookIn name od=some (mA name):=by
 obtain⟨o,es,ep,ho,hd,hk,_,hm⟩:=n;refine⟨o,ho,λname=>?_⟩;have e:=hm name;unfold nsFind findBy at e;rw[<- Array.find?_toList]at e;unfold PySem.W.lookIn;rw[hd];dsimp only;split
 .rename_i y q
  rw[q]at e;exact iP some e
 .rename_i q
  rw[q]at e;have a:es.toList.any (·.refKey)=false:=by
   rw[List.any_eq_false];intro y hy;obtain⟨z,t,hkey⟩:=hk y (Array.mem_toList_iff.mp hy);simp[DictEntry.refKey,hkey]
  have a':¬ es.toList.any (·.refKey)=true:=by rw[a];exact Bool.false_ne_true
  rw[ic a'];exact iP some e
def DY(K:Frag)(C:Addr)(f:Str):Prop:=findIn K (.ref C) f=some none
structure Room(k:Nat)(A:Around):Prop where
 hd:A.handled=none
 dp:A.depth+3*k+5<recursionLimit
 un:A.units+16*k+200<cLine
 gd:A.guards=some []
def Room.mono{j k:Nat}{A:Around}(r:Room k A)(h:j<=k):Room j A:=⟨r.hd,by have:=r.dp;omega,by have:=r.un;omega,r.gd⟩
theorem Room.deeper{k:Nat}{A:Around}(r:Room (k+1) A)(env:Env):Room k (A.deeper env):=
 ⟨r.hd,by have:=r.dp;show A.depth+1+3*k+5<_;omega,by have:=r.un;show A.units+3+16*k+200<_;omega,by first|exact r.gd|(simpa [Around.deeper,Around.under,Code.guards,Code.isGuard,pushGuards]using r.gd)⟩
def P7{A:Around}{C:Addr}{us:List Value}{kw:List (Str×Value)}:(A.under (.builtin "type.__call__" ⟨.ref C::us,kw⟩)).depth=A.depth+1:=by
 first|rfl|simp[Around.under,Code.weight,Code.isCreation,Code.isGuard,Code.isCaller,Code.frames,Code.isFrame,guardIds]
def P6{A:Around}{C:Addr}{us:List Value}{kw:List (Str×Value)}:(A.under (.builtin "type.__call__" ⟨.ref C::us,kw⟩)).units=A.units+1:=by
 first|rfl|simp[Around.under,Code.cUnits,Code.frames,Code.isFrame]
def Room.make{k:Nat}{A:Around}(r:Room (k+1) A)(C:Addr)(us:List Value)(kw:List (Str×Value)):Room k (A.under (.builtin "type.__call__" ⟨.ref C::us,kw⟩)):=
 ⟨r.hd,by have:=r.dp;rw[P7];omega,by have:=r.un;rw[P6];omega,by first|exact r.gd|(simpa [Around.under,Code.guards,Code.isGuard,guardIds,pushGuards]using r.gd)⟩
theorem Room.depth{k:Nat}{A:Around}(r:Room k A):A.depth<recursionLimit:=by have:=r.dp;omega
theorem Room.units{k:Nat}{A:Around}(r:Room k A):A.units+64<cLine:=by have:=r.un;omega
def CD:TA:=λ_ H Q=>Q [] H
def Bc(ta:TE)(tr:TA):TA:=λσ H Q=>ta σ H λx H1=>tr σ H1 λxs H2=>Q (x::xs) H2
section
variable{X:Cx}{e:Expr}{es:List Expr}{te:TE}{t:TA}{pos:Pos}
def DP:PA X [] CD:=λ_ _ _ _ H Q I h=>Calls.spliced_nil ⟨[],H,I,.nil,h⟩
def CV(ha:PE X e te)(hr:PA X es t)(hs:starEach (e::es) X.env=(false,eval e X.env)::starEach es X.env:=by rfl):PA X (e::es) (Bc te t):=by
 intro pos pins s σ H Q I h;rw[hs];show wpAny _ _ (spliced ((false,eval e X.env)::backTo pos (starEach es X.env))) _ _ s;refine Calls.spliced_cons (thn (ha pins s σ H _ I h) λu s1 ⟨x,H1,I1,r1,q1⟩=>?_);exact thn (hr pos pins s1 σ H1 _ I1 q1) λus s2 ⟨xs,H2,I2,r2,q2⟩=>⟨x::xs,H2,I2,.cons r1 r2,q2⟩
def Sv(t:TA):TE:=λσ H Q=>t σ H λxs H1=>xs.length<=sizeLine/\∀p,H1 p=none->Q (.ref p) (upd H1 p (.tup xs))
def Sy(t:TA):TE:=λσ H Q=>t σ H λxs H1=>xs.length<=sizeLine/\∀p,H1 p=none->Q (.ref p) (upd H1 p (.lst xs))
def aW{x1}(h:PA X es t):PE X (.Tuple es x1 pos) (Sv t):=by
 intro pins s σ H Q I hq;refine wpAny_Tuple_spliced (thn (h pos pins s σ H _ I hq) λus s1 ⟨xs,H1,I1,r,z,q⟩=>⟨by rw[<- r.length];exact z,?_⟩);have hf:H1 s1.heap.objs.size=none:=I1.hok.fresh (ig _);refine⟨.ref s1.heap.objs.size,upd H1 s1.heap.objs.size (.tup xs),I1.laid (t':=s1.toks) (λb u e=>Heap.get?_push_of_some _ e) (ig _) ?_,rfl,q _ hf⟩;exact⟨z,us,r,⟨_,Heap.get?_push_size _ rfl,rfl,⟨_,rfl⟩,rfl⟩⟩
def ac(h:PA X es t):PE X (.List es pos) (Sy t):=by
 intro pins s σ H Q I hq;refine wpAny_List_spliced (thn (h pos pins s σ H _ I hq) λus s1 ⟨xs,H1,I1,r,z,q⟩=>⟨by rw[<- r.length];exact z,?_⟩);have hf:H1 s1.heap.objs.size=none:=I1.hok.fresh (ig _);refine⟨.ref s1.heap.objs.size,upd H1 s1.heap.objs.size (.lst xs),I1.laid (t':=s1.toks) (λb u e=>Heap.get?_push_of_some _ e) (ig _) ?_,rfl,q _ hf⟩;exact⟨z,us,0,r,Heap.get?_push_size _ rfl⟩
end
abbrev Sp:=List V->Hp->VK->XK->Prop
abbrev CXT:=List Env->Hp->Shared->XK->Value->Shared->Prop
structure Env0(P:Program)(w:World)(K:Frag)(mg:Str->Option Value)(base:Heap)(A:Around)(outer:List Env)(s:Shared)(H:Hp):Prop where
 frames:A.frames=some outer
 mod:Mod K mg base
 bs:∀b o,base.get? b=some o->s.heap.get? b=some o/\H b=none
 bsz:base.objs.size<=s.heap.objs.size
 funs:s.heap.FunFrames base outer
 frf:∀b∈frs outer,H b=none
 hok:HOk P w H s.heap
 bare:AllBare s.gens
def CE(outer:List Env)(P:Program)(w:World)(H:Hp)(s:Shared)(Q:VK)(u:Value)(s':Shared):Prop:=
 ∃v H',s'.os=s.os/\AllBare s'.gens/\Un (frs outer) [] H H' s.heap s'.heap/\HOk P w H' s'.heap/\RelV v u/\Q v H'
def CR(CX:CXT)(outer:List Env)(P:Program)(w:World)(H:Hp)(s:Shared)(Q:VK)(E:XK)(r:Result)(s':Shared):Prop:=
 match r with
 |.ok (.ret u)=>CE outer P w H s Q u s'
 |.ok _=>False
 |.error e=>CX outer H s E e s'
structure FnOk(P:Program)(w:World)(K:Frag)(mg:Str->Option Value)(base:Heap)(CX:CXT)(k:Nat)(f:Addr)(fd:FuncData)(ps:List Str)(sp:Sp):Prop where
 len:∀vs H Q E,sp vs H Q E->vs.length=ps.length
 run:∀(A:Around) (outer:List Env) (s:Shared) (H:Hp) (args:Args) (us:List Value) (vs:List V) (Q:VK) (E:XK),Room k A->Env0 P w K mg base A outer s H->BindsTo s fd args (ps.zip us)->Vals vs us->sp vs H Q E ->
  codeAny (model P w) A (.call (.ref f) args) (CR CX outer P w H s Q E) s
theorem FnOk.mono{P:Program}{w:World}{K:Frag}{mg:Str->Option Value}{base:Heap}{CX:CXT}{j k:Nat}{f:Addr}{fd:FuncData}{ps:List Str}{sp:Sp}(F:FnOk P w K mg base CX j f fd ps sp)(h:j<=k):
 FnOk P w K mg base CX k f fd ps sp:=⟨F.len,λA outer s H args us vs Q E hr=>F.run A outer s H args us vs Q E (hr.mono h)⟩
def Env0.make{P:Program}{w:World}{K:Frag}{mg:Str->Option Value}{base:Heap}{A:Around}{outer:List Env}{s:Shared}{H:Hp}(e:Env0 P w K mg base A outer s H)(C:Addr)(us:List Value)(kw:List (Str×Value)):
 Env0 P w K mg base (A.under (.builtin "type.__call__" ⟨.ref C::us,kw⟩)) outer s H:=⟨by first|exact e.frames|(simpa [Around.under,Code.envs,Code.isFrame,pushEnvs]using e.frames),e.mod,e.bs,e.bsz,e.funs,e.frf,e.hok,e.bare⟩
section
variable{X:Cx}{pins:List (Addr×Obj)}{σ:St}{H:Hp}{s s':Shared}
def Inv.env0(I:Inv X pins σ H s):Env0 X.prog X.w X.K X.mg X.base X.A X.stack s H:=
 ⟨I.ok.frames,I.ok.mod,I.bs,iJ I.ok.bsz I.sz,I.stack,I.stkFree,I.hok,I.bare⟩
def Inv.after{Q:VK}{u:Value}(I:Inv X pins σ H s)(h:CE X.stack X.prog X.w H s Q u s'):EP X pins σ Q u s':=by
 obtain⟨v,H',os,bare,un,hok,r,q⟩:=h;obtain⟨hh,g,d,t,os'⟩:=s';obtain rfl:os'=s.os:=os;exact⟨v,H',I.call (h':=hh) (g':=g) (d':=d) (t':=t) (ch:=[]) un hok bare (λb z=>absurd z (by simp)),r,q⟩
end
def Dt(sp:Sp)(dvs:List V)(E:XK)(t:TA):TE:=λσ H Q=>t σ H λvs H1=>sp (vs++dvs) H1 Q E
def Binds(K:Frag)(fd:FuncData)(ps:List Str)(ds:List Value):Prop:=
 ∀(s:Shared) (us:List Value),K.In s.heap->(us++ds).length=ps.length->BindsTo s fd ⟨us,[]⟩ (ps.zip (us++ds))
def Binds.all{K:Frag}{fd:FuncData}{ps:List Str}(h:∀us:List Value,us.length=ps.length->bindArgs fd ⟨us,[]⟩=pure (ps.zip us)):Binds K fd ps []:=λs us _ hl=>by
 rw[iS]at hl ⊢;exact .of_eq (h us hl)
def N8(CX:CXT)(X:Cx)(E:XK):Prop:=∀(pins:List (Addr×Obj)) (σ:St) (H:Hp) (s:Shared) (e:Value) (s':Shared),Inv X pins σ H s->CX X.stack H s E e s'->X.xe e s'
section
variable{X:Cx}{CX:CXT}{k:Nat}{f C:Addr}{fd:FuncData}{ps:List Str}{sp:Sp}{dvs:List V}{ds:List Value}{E:XK}{x m:Str}{p pos apos:Pos}{e o:Expr}{es:List Expr}{ta:TE}{t:TA}
def Z3{pins:List (Addr×Obj)}{σ:St}{H:Hp}{s:Shared}{Q:VK}{us:List Value}{vs:List V}(F:FnOk X.prog X.w X.K X.mg X.base CX k f fd ps sp)(hr:Room k X.A)(hb:Binds X.K fd ps ds)(hd:Vals dvs ds)(hx:N8 CX X E)
 (I:Inv X pins σ H s) (r:Vals vs us) (h:sp (vs++dvs) H Q E):wpAny (model X.prog X.w) X.A (call (.ref f) us) (EP X pins σ Q) X.xe s:=by
 have r2:Vals (vs++dvs) (us++ds):=r.append hd;have hl:(us++ds).length=ps.length:=by rw[<- r2.length];exact F.len _ _ _ _ h
 refine jB (jf (F.run X.A X.stack s H ⟨us,[]⟩ (us++ds) (vs++dvs) Q E hr I.env0 (hb s us I.kIn hl) r2 h) λr s' hq=>?_);cases r with
 |error e=>exact hx pins σ H s e s' I hq
 |ok fl=>
  cases fl with
  |ret u=>exact I.after hq
  |next=>exact False.elim hq
  |brk=>exact False.elim hq
  |cont=>exact False.elim hq
def Xh(F:FnOk X.prog X.w X.K X.mg X.base CX k f fd ps sp)(hr:Room k X.A)(hg:Gl X x)(hm:X.mg x=some (.ref f))(hk:keepIn X.K (.ref f)=true)(hb:Binds X.K fd ps ds)(hd:Vals dvs ds)(hx:N8 CX X E)
 (ha:PA X (e::es) t) (hdb:(x==("__debug__":Str))=false:=by decide) (he:starEach (e::es) X.env=(false,eval e X.env)::starEach es X.env:=by rfl) (hpl:(backTo pos (starEach es X.env)).any (·.1)=false:=by rfl):
 PE X (.Call (.Name x p) (e::es) [] pos) (Dt sp dvs E t):=by
 intro pins s σ H Q I h;refine jo (Dl I hg hm ?_ hdb);refine PySem.W.callWith_K (h₀:=X.base) I.ok.mod.kin hk (thn (ha pos pins s σ H _ I h) λus s1 ⟨vs,H1,I1,r,q⟩=>⟨I1.kIn,?_⟩) he hpl;exact Z3 F hr hb hd hx I1 r q
end
structure FnScope(N P:List Str)(sc:Scope):Prop where
 kind:sc.kind=.function
 co:sc.isCoroutine=false
 gen:sc.isGenerator=false
 nd:N.Nodup
 pre:N.take P.length=P
 par:∀x∈P,sc.names.lookup x=some .local∨sc.names.lookup x=some .cell
 nofree:∀y∈sc.names,y.2≠.free
theorem Kj{kindOf:Str->Option NameKind}{x:Str}:∀{binds:List (Str×Value)} {m:Str->Option Value},(∀v,(x,v)∉binds)->bindL kindOf binds m x=m x
 |[],_,_=>rfl
 |(n,v)::r,m,h=>by
   unfold bindL;rw[Kj λw hw=>h w (iK _ hw)];split
   .have:x≠n:=by rintro rfl;exact h v iR
    simp[this]
   .rfl
theorem Kl{kindOf:Str->Option NameKind}{x:Str}:∀{binds:List (Str×Value)} {m:Str->Option Value},(∀v,(x,v)∉binds)->bindC kindOf binds m x=m x
 |[],_,_=>rfl
 |(n,v)::r,m,h=>by
   unfold bindC;rw[Kl λw hw=>h w (iK _ hw)];split
   .rfl
   .have:x≠n:=by rintro rfl;exact h v iR
    simp[this]
theorem Kk{kindOf:Str->Option NameKind}{x:Str}{v:Value}:∀{P:List Str} {vs:List Value} {i:Nat} {m:Str->Option Value},P.Nodup->P[i]?=some x->vs[i]?=some v->kindOf x=some .local ->
 bindL kindOf (P.zip vs) m x=some v
 |[],_,_,_,_,h,_,_=>by simp at h
 |_::_,[],_,_,_,_,h,_=>by simp at h
 |p::P,w::vs,0,m,nd,h1,h2,hk=>by
  simp at h1 h2;subst h1;subst h2;show bindL kindOf ((p,w)::P.zip vs) m p=_;unfold bindL;rw[Kj λv hv=>(nodup_cons.mp nd).1 (List.of_mem_zip hv).1,i9 hk];simp
 |p::P,w::vs,i+1,m,nd,h1,h2,hk=>by
  show bindL kindOf ((p,w)::P.zip vs) m x=_;unfold bindL;exact Kk (i:=i) (nodup_cons.mp nd).2 (by simpa using h1) (by simpa using h2) hk
theorem Km{kindOf:Str->Option NameKind}{x:Str}{v:Value}:∀{P:List Str} {vs:List Value} {i:Nat} {m:Str->Option Value},P.Nodup->P[i]?=some x->vs[i]?=some v->kindOf x≠some .local ->
 bindC kindOf (P.zip vs) m x=some v
 |[],_,_,_,_,h,_,_=>by simp at h
 |_::_,[],_,_,_,_,h,_=>by simp at h
 |p::P,w::vs,0,m,nd,h1,h2,hk=>by
  simp at h1 h2;subst h1;subst h2;show bindC kindOf ((p,w)::P.zip vs) m p=_;unfold bindC;rw[Kl λv hv=>(nodup_cons.mp nd).1 (List.of_mem_zip hv).1,ic hk];simp
 |p::P,w::vs,i+1,m,nd,h1,h2,hk=>by
  show bindC kindOf ((p,w)::P.zip vs) m x=_;unfold bindC;exact Km (i:=i) (nodup_cons.mp nd).2 (by simpa using h1) (by simpa using h2) hk
def start(N:List Str)(vs:List V):St:=vs.map some++List.replicate (N.length-vs.length) none
def Do(CX:CXT)(P:Program)(w:World)(K:Frag)(mg:Str->Option Value)(base:Heap)(N:List Str)(qual:Str)(scope:Scope)(f:Addr)(cd:Value)(A:Around)(outer:List Env)(s:Shared)(H:Hp)(E:XK):Cx where
 prog:=P
 w:=w
 K:=K
 mg:=mg
 base:=base
 A:=A.deeper (envOfC qual scope s.heap.objs.size f cd)
 N:=N
 s₀:=s
 H₀:=H
 env:=envOfC qual scope s.heap.objs.size f cd
 outer:=outer
 stack:=envOfC qual scope s.heap.objs.size f cd::outer
 ex:=[]
 calm:=true
 fn:=λ_=>true
 pn:=[]
 xe:=λe s'=>wpAny (model P w) (A.deeper (envOfC qual scope s.heap.objs.size f cd)) (leaving (envOfC qual scope s.heap.objs.size f cd) e) (λ_ s''=>CX outer H s E e s'') (λe' s''=>CX outer H s E e' s'') s'
def Mt{sc:Scope}{n:Nat}{x:Str}(h:sc.names.lookup x=some .cell):∃c,(cellsFrom n sc.names []).lookup x=some c:=by
 have q:=PySem.W.cellsFrom_some sc.names n [] (.inl h);exact isSome_iff_exists.mp q
def Rs{CX:CXT}{P:Program}{w:World}{K:Frag}{mg:Str->Option Value}{base:Heap}{N ps:List Str}{qual:Str}{scope:Scope}{f:Addr}{cd:Value}{A:Around}{outer:List Env}{s s1:Shared}{H:Hp}{E:XK}{us:List Value}{vs:List V}
 (S:FnScope N ps scope) (hd:A.handled=none) (e0:Env0 P w K mg base A outer s H) (hl:vs.length=ps.length) (r:Vals vs us)
 (x:InCallC s s.heap.objs.size (bindL (envOfC qual scope s.heap.objs.size f cd).kindOf (ps.zip us) λ_=>none) (cellsFrom (s.heap.objs.size+1) scope.names []) (bindC (envOfC qual scope s.heap.objs.size f cd).kindOf (ps.zip us) λ_=>none) s1):
 Inv (Do CX P w K mg base N qual scope f cd A outer s H E) [] (start N vs) H s1:=by
 have hpl:ps.length<=N.length:=by have:=iP List.length S.pre;rw[iX]at this;omega
 obtain⟨h1,tk,rfl,hk⟩:=x.done;have noA:∀b:Addr,b∉(Do CX P w K mg base N qual scope f cd A outer s H E).ex:=λb z=>absurd (show b∈([]:List Addr)from z) (by simp);refine⟨⟨e0.mod,S.kind,rfl,rfl,ig _,λy z c h1 h2=>?_,λy hy=>?_,λy c _ h=>?_,λ_=>hd,Around.frames_deeper e0.frames,.inr ⟨rfl,rfl⟩,λb z=>absurd z (noA b),e0.bs,e0.bsz,λb _ _=>noA b,λb z=>absurd z (noA b),e0.funs,e0.frf⟩,
  rfl,e0.bare,Un.kept hk,⟨_,x.toInCall.ns,λi y v h1 h2 h3=>?_⟩,λy c h=>⟨_,x.cell y c h⟩,e0.hok.fresh (ig _),λy c h=>?_,λp hp=>absurd (show p∈([]:List (Addr×Obj))from hp) (by simp),e0.hok.kept hk,?_⟩
 .exact name_of_addr x.apart (PySem.mem_of_lookup h1) (PySem.mem_of_lookup h2)
 .have hy:scope.names.lookup y=some .cell∨scope.names.lookup y=some .free:=hy;rcases hy with hy|hy
  .exact Mt hy
  .exact absurd rfl (S.nofree _ (PySem.mem_of_lookup hy))
 .exact le_of_lt (x.above y c (PySem.mem_of_lookup h))
 .have hi:i<vs.length:=by
   unfold start at h2;by_cases hi:i<vs.length
   .exact hi
   .rw[List.getElem?_append_right (by simpa using hi)]at h2;rw[List.getElem?_replicate]at h2;split at h2<;>cases h2
  have ha:vs[i]?=some v:=by
   unfold start at h2;rw[List.getElem?_append_left (by simpa using hi),List.getElem?_map]at h2;cases e:vs[i]? with
   |none=>rw[e]at h2;cases h2
   |some a=>rw[e]at h2;cases h2;rfl
  obtain⟨u,hu,rv⟩:=r.get ha;have hp:ps[i]?=some y:=by
   rw[<- S.pre,List.getElem?_take_of_lt (by omega)];exact h1
  have ndP:ps.Nodup:=by rw[<- S.pre];exact S.nd.sublist (List.take_sublist _ _)
  refine⟨u,rv,?_⟩;rcases S.par y (iH hp)with k|k
  .exact .inl ⟨k,Kk ndP hp hu k⟩
  .obtain⟨c,e⟩:=Mt (n:=s.heap.objs.size+1) k;refine .inr ⟨.inl k,c,e,?_⟩;have q:=x.cell y c e;rw[Km ndP hp hu (by show scope.names.lookup y≠_;rw[k];decide)]at q;exact q
 .exact e0.hok.fresh (le_of_lt (x.above y c (PySem.mem_of_lookup h)))
 .unfold start;show _=N.length;rw[iL,iu,jD];omega
def Va{CX:CXT}{P:Program}{w:World}{K:Frag}{mg:Str->Option Value}{base:Heap}{k:Nat}{f:Addr}{name qual:Str}{params:Arguments}{body:List Stmt}{scope:Scope}{dV kV doc pm cdv ct oc:Value}{an od:Option Addr}
 {osl:Array (Option Value)} {N ps:List Str} {sp:Sp} (lk:K.lookup f=some ⟨oc,od,.func (fnOf name qual params body scope dV kV doc pm an cdv ct),osl⟩) (hcd:codeIn K cdv qual=true) (S:FnScope N ps scope)
 (len:∀vs H Q E,sp vs H Q E->vs.length=ps.length)
 (hbody:∀(A:Around) (outer:List Env) (s:Shared) (H:Hp) (vs:List V) (Q:VK) (E:XK),Room k (A.deeper (envOfC qual scope s.heap.objs.size f cdv))->sp vs H Q E ->
  ∃t,PSs (Do CX P w K mg base N qual scope f cdv A outer s H E) body t/\t { nx:=λ_ H'=>Q .non H',rt:=Q } (start N vs) H):
 FnOk P w K mg base CX (k+1) f (fnOf name qual params body scope dV kV doc pm an cdv ct) ps sp:=by
 refine⟨len,λA outer s H args us vs Q E hr e0 hb r hsp=>?_⟩;have hl:=len _ _ _ _ hsp;have KX:K.In s.heap:=e0.mod.kin.keeps λb o e=>(e0.bs b o e).1;have lim:s.heap.NoLimit:=e0.mod.nolimit.keeps λb o e=>(e0.bs b o e).1;have hkind:∀y∈ps.zip us,scope.names.lookup y.1=some .local∨(scope.names.lookup y.1=some .cell/\((cellsFrom (s.heap.objs.size+1) scope.names []).lookup y.1).isSome=true):=λ⟨n,v⟩ hy=>by
  rcases S.par n (List.of_mem_zip hy).1 with q|q
  .exact .inl q
  .exact .inr ⟨q,PySem.W.cellsFrom_some _ _ _ (.inl q)⟩
 refine codeAny_call_function hr.depth (KX _ _ lk) rfl S.co S.gen rfl (PySem.W.codeRec_of KX hcd) (hb _ _ _ _ ?_);refine wpAny_newFunctionEnv_cells S.kind hkind λenv he s1 x=>?_;subst he;refine⟨lim.keeps x.toInCall.keep,codeAny_func ?_⟩;obtain⟨t,ht,hq⟩:=hbody A outer s H vs Q E (hr.deeper _) hsp;have I:Inv (Do CX P w K mg base N qual scope f cdv A outer s H E) [] (start N vs) H s1:=Rs S hr.hd e0 hl r x;refine iw (ht [] s1 (start N vs) H _ I hq) (λfl s' hs=>?_) λe s' hs=>hs;have fin:∀{σ':St} {H':Hp} {v:V} {u:Value},Inv (Do CX P w K mg base N qual scope f cdv A outer s H E) [] σ' H' s'->RelV v u->Q v H'->CE outer P w H s Q u s':=
  λ{σ' H' v u} J rv q=>⟨v,H',J.os,J.bare,J.base,J.hok,rv,q⟩
 cases fl with
 |ret u=>
  obtain⟨v,σ',H',J,rv,q⟩:=hs;exact fin J rv q
 |next=>
  obtain⟨σ',H',J,q⟩:=hs;exact fin (v:=V.non) (u:=Value.none) J rfl q
 |brk=>
  obtain⟨_,_,_,q⟩:=hs;exact False.elim q
 |cont=>
  obtain⟨_,_,_,q⟩:=hs;exact False.elim q
section
variable{X:Cx}{x:Str}{p pos:Pos}{e:Expr}{es:List Expr}{t:TA}{id T:String}{r:List V->Hp->VK->Prop}
def tCB(r:List V->Hp->VK->Prop)(t:TA):TE:=λσ H Q=>t σ H λvs H1=>r vs H1 Q
def Fz(hc:CallR X (.builtin id) r)(hg:Gl X x)(hm:X.mg x=none)(hv:bootBuiltins x=some (.builtin id))(ha:PA X (e::es) t)(hn:x≠"__name__":=by decide)(hdb:(x==("__debug__":Str))=false:=by decide)
 (he:starEach (e::es) X.env=(false,eval e X.env)::starEach es X.env:=by rfl) (hpl:(backTo pos (starEach es X.env)).any (·.1)=false:=by rfl):PE X (.Call (.Name x p) (e::es) [] pos) (tCB r t):=by
 intro pins s σ H Q I h;refine jo (Et I hg hm hv ?_ hn hdb);exact PyProof.Rows.callWith_builtin1 (thn (ha pos pins s σ H _ I h) λus s1 ⟨vs,H1,I1,r1,q1⟩=>hc pins s1 σ H1 vs us Q I1 r1 q1) he hpl
def E5(hc:CallR X (.type T) r)(hg:Gl X x)(hm:X.mg x=none)(hv:bootBuiltins x=some (.type T))(ha:PA X (e::es) t)(hn:x≠"__name__":=by decide)(hdb:(x==("__debug__":Str))=false:=by decide)
 (he:starEach (e::es) X.env=(false,eval e X.env)::starEach es X.env:=by rfl) (hpl:(backTo pos (starEach es X.env)).any (·.1)=false:=by rfl):PE X (.Call (.Name x p) (e::es) [] pos) (tCB r t):=by
 intro pins s σ H Q I h;refine jo (Et I hg hm hv ?_ hn hdb);exact PyProof.Rows.callWith_type1 (thn (ha pos pins s σ H _ I h) λus s1 ⟨vs,H1,I1,r1,q1⟩=>hc pins s1 σ H1 vs us Q I1 r1 q1) he hpl
end
end L2
namespace HT
open PySem PyProof.Rows
section
variable{prog:Program}{w:World}{A:Around}{E:Value->Shared->Prop}{s:Shared}
def cat_tup{t b:Addr}{vs ws:List Value}{Q:Value->Shared->Prop}(ht:IsTup s.heap t vs.toArray)(hb:IsTup s.heap b ws.toArray)(hv:vs≠[])
 (h1:ws=[]->Q (.ref t) s) (h2:ws≠[]->Q (.ref s.heap.objs.size) { s with heap:=s.heap.push { cls:=.type "tuple",data:=.seq (vs++ws).toArray } })
 (hsz:vs.length+ws.length<=sizeLine):wpAny (model prog w) A (binaryOp .Add (.ref t) (.ref b)) Q E s:=by
 obtain⟨⟨cls,dd,data,sl⟩,ho,hc,n,hd⟩:=id ht;obtain⟨⟨cls2,dd2,data2,sl2⟩,ho2,hc2,n2,hd2⟩:=id hb;simp only at hc hd hc2 hd2;subst hc hd hc2 hd2;have e:vs.toArray++ws.toArray=(vs++ws).toArray:=by simp
 by_cases hw:ws=[]
 .exact concat_meets ⟨_,ho,rfl⟩ ⟨_,ho2,rfl⟩ noFill_tuple_add seq_tuple_add PySem.F.slot_tuple_add PySem.F.entry_tuple_add (PySem.F.args_tuple_add_2 _ _)
   (tuple_addW1 t b vs.toArray ws.toArray n n2 dd dd2 sl sl2 (by simpa using hv) (by simp[hw])) ⟨ho,ho2,h1 hw⟩
 .refine concat_meets ⟨_,ho,rfl⟩ ⟨_,ho2,rfl⟩ noFill_tuple_add seq_tuple_add PySem.F.slot_tuple_add PySem.F.entry_tuple_add (PySem.F.args_tuple_add_2 _ _)
   (tuple_addW2 t b vs.toArray ws.toArray n n2 dd dd2 sl sl2 (by simpa using hv) (by simpa using hw) (by rw[ik,ik];exact hsz)) ⟨ho,ho2,?_⟩
  rw[e];exact h2 hw
def sIx(n d:Nat):Option Int->Nat
 |none=>d
 |some v=>if v<0 then(v+(n:Int)).toNat else min v.toNat n
def sIx_none(n d:Nat):sIx n d none=d:=rfl
def sIx_nat(n d k:Nat):sIx n d (some (k:Int))=min k n:=by
 show(if(k:Int)<0 then((k:Int)+(n:Int)).toNat else min (k:Int).toNat n)=min k n;rw[ic (by omega),iO]
def Z1(n d:Nat)(hd:d<=n)(o:Option Int):sIx n d o<=n:=by
 cases o with
 |none=>exact hd
 |some v=>
  show(if v<0 then(v+(n:Int)).toNat else min v.toNat n)<=n;by_cases hv:v<0
  .rw[i9 hv];omega
  .rw[ic hv];exact Nat.min_le_right _ _
def OI(v:Int)(n d:Nat):(if v<0 then max (v+(n:Int)) 0 else min v (n:Int))=((sIx n d (some v):Nat):Int):=by
 show(if v<0 then max (v+(n:Int)) 0 else min v (n:Int))=(((if v<0 then(v+(n:Int)).toNat else min v.toNat n):Nat):Int);by_cases hv:v<0
 .simp only[i9 hv];omega
 .simp only[ic hv];omega
def Pj(lo hi:Option Int)(n:Nat):Builtin.Slice.sliceAdjust lo hi 1 (n:Int)=(((sIx n 0 lo:Nat):Int),((sIx n n hi:Nat):Int)):=by
 have h1:¬ ((1:Int)<0):=by omega
 unfold Builtin.Slice.sliceAdjust;simp only[h1,j9];refine Prod.ext ?_ ?_
 .cases lo with
  |none=>rfl
  |some v=>exact OI v n 0
 .cases hi with
  |none=>rfl
  |some v=>exact OI v n n
def P2(i j:Nat):Builtin.Slice.slicePlaces (i:Int) (j:Int) 1=j-i:=by
 unfold Builtin.Slice.slicePlaces;have h1:(1:Int)>0:=by omega
 simp only[h1,iE,Int.ediv_one];split<;>omega
def Im{v:Value}{o:Option Int}{Q:Option Int->Shared->Prop}(p:IsPart v o)(h:Q o s):wpAny (model prog w) A (Builtin.Slice.slicePartIndex v) Q E s:=by
 cases p with
 |none=>exact slicePart_none h
 |int i t=>exact slicePart_int h
def Eh{sl:Addr}{vl vu:Value}{lo hi:Option Int}{n:Nat}{Q:Int×Int×Nat->Shared->Prop}(hs:s.heap.IsSliceOf sl vl vu .none)(pl:IsPart vl lo)(pu:IsPart vu hi)
 (h:Q (((sIx n 0 lo:Nat):Int),1,sIx n n hi-sIx n 0 lo) s):wpAny (model prog w) A (Builtin.Slice.sliceApplied (.ref sl) (pure (n:Int))) Q E s:=by
 obtain⟨os,hos,hcs,hds⟩:=id hs;unfold Builtin.Slice.sliceApplied Builtin.Slice.sliceFields;refine i8 (i8 (iG hos hds (x:=vl) rfl (i8 (iG hos hds (x:=vu) rfl (i8 (iG hos hds (x:=.none) rfl (ie ?_)))))));refine i8 (slicePart_none ?_);show wpAny _ _ (if((1:Int)==0)=true then _ else _) _ _ s;rw[ic (by decide)];refine i8 (Im pl (i8 (Im pu (i8 (ie ?_)))));show wpAny _ _ (match Builtin.Slice.sliceAdjust lo hi 1 (n:Int)with|(lo,hi)=>pure (lo,(1:Int),Builtin.Slice.slicePlaces lo hi 1)) _ _ s;rw[Pj lo hi n];show wpAny _ _ (pure (((sIx n 0 lo:Nat):Int),(1:Int),Builtin.Slice.slicePlaces ((sIx n 0 lo:Nat):Int) ((sIx n n hi:Nat):Int) 1)) _ _ s;rw[P2];exact ie h
def U5(xs:Array Value)(i k:Nat):((List.range k).filterMap λ(m:Nat)=>xs[((i:Int)+(m:Int)*1).toNat]?).toArray=((xs.toList.drop i).take k).toArray:=by
 have e:(λ(m:Nat)=>xs[((i:Int)+(m:Int)*1).toNat]?)=λm=>xs[i+m]? := by
  funext m
  have:((i:Int)+(m:Int)*1).toNat=i+m:=by omega
  rw[this]
 rw[e];have:=pick_run xs i k;rw[List.filterMap_map]at this;have e2:((λx=>xs[x]?) ∘ λx=>i+x)=λm=>xs[i+m]? := rfl;rw[e2]at this;rw[this]
def getItem_tuple_cut{t sl:Addr}{items:Array Value}{vl vu:Value}{lo hi:Option Int}{Q:Value->Shared->Prop}(ht:IsTup s.heap t items)(hs:s.heap.IsSliceOf sl vl vu .none)(pl:IsPart vl lo)(pu:IsPart vu hi)
 (hw:¬ (sIx items.size 0 lo=0/\sIx items.size items.size hi=items.size))
 (h:Q (.ref s.heap.objs.size) { s with heap:=s.heap.push { cls:=.type "tuple",data:=.seq ((items.toList.drop (sIx items.size 0 lo)).take (sIx items.size items.size hi-sIx items.size 0 lo)).toArray } })
 (hsz:items.size<=sizeLine):wpAny (model prog w) A (getItem (.ref t) (.ref sl)) Q E s:=by
 have htake:sizeOk (.seq ((items.toList.drop (sIx items.size 0 lo)).take (sIx items.size items.size hi-sIx items.size 0 lo)).toArray):=by
  show((items.toList.drop (sIx items.size 0 lo)).take (sIx items.size items.size hi-sIx items.size 0 lo)).toArray.size<=sizeLine;rw[ik,iX,ju,Array.length_toList];omega
 have hj:sIx items.size items.size hi<=items.size:=Z1 _ _ (ig _) hi;obtain⟨os,hos,hcs,hds⟩:=id hs;have hTs:s.TypeIs (.ref sl) "slice":=⟨os,hos,hcs⟩
 unfold getItem
 try with_reducible refine j0 ?_
 first|refine i8 (ie ?_)|skip
 refine i8 (wpAny_sequenceKey ht.typeIs (by decide) ?_);refine i8 (jC (name:=Str.ofString "__getitem__") ht.typeIs PyProof.Rows.slot_tuple_getitem
  (jq PyProof.Rows.slot_tuple_getitem ht.typeIs entry_tuple_getitem ?_ (args_tuple_getitem _ _)))
 show wpAny _ _ (Builtin.Tuple.tupleItemsOf (.ref t) >>= _) _ _ s;refine i8 (tupleItemsOf_ ht ?_);refine i8 (wpAny_typeOf hTs ?_);rw[i9 (by decide)];refine i8 (Eh hs pl pu ?_);have hno:¬ ((((sIx items.size 0 lo:Nat):Int)==0&&(1:Int)==1&&(sIx items.size items.size hi-sIx items.size 0 lo)==items.size)=true):=by
  intro q;rw[Bool.and_eq_true,Bool.and_eq_true]at q;have q1:((sIx items.size 0 lo:Nat):Int)=0:=eq_of_beq q.1.1;have q2:sIx items.size items.size hi-sIx items.size 0 lo=items.size:=eq_of_beq q.2;exact hw ⟨by omega,by omega⟩
 show wpAny _ _ (if(((sIx items.size 0 lo:Nat):Int)==0&&(1:Int)==1&&(sIx items.size items.size hi-sIx items.size 0 lo)==items.size)=true then _ else _) _ _ s;rw[ic hno,U5]
 first
  |exact i8 (m:=Builtin.Tuple.tupleExact _) (iQ (ie ⟨_,rfl,ie h⟩) htake)
  |exact i8 (m:=Builtin.Tuple.tupleExact _) (iQ (i8 (ie (ie ⟨_,rfl,ie h⟩))) htake)
  |exact i8 (i8 (m:=Builtin.Tuple.tupleExact _) (iQ (ie (ie ⟨_,rfl,ie h⟩)) htake))
  |exact i8 (i8 (m:=Builtin.Tuple.tupleExact _) (iQ (ie ⟨_,rfl,ie h⟩) htake))
end
end HT
namespace L2
open PySem PySem.Spec PyProof.Rows
abbrev TO:=St->Hp->(Option Int->Hp->Prop)->Prop
def PO(X:Cx)(e:Option Expr)(t:TO):Prop:=
 ∀(pins:List (Addr×Obj)) (s:Shared) (σ:St) (H:Hp) (Q:Option Int->Hp->Prop),Inv X pins σ H s->t σ H Q ->
   wpAny (model X.prog X.w) X.A (evalPart e X.env) (λu s'=>∃o H',Inv X pins σ H' s'/\IsPart u o/\Q o H') X.xe s
def JS:TO:=λ_ H Q=>Q none H
def Oa(t:TE):TO:=λσ H Q=>t σ H λx H1=>∃i,x=.int i/\Q (some i) H1
section
variable{X:Cx}{e:Expr}{te:TE}{lo hi:Option Expr}{tl th:TO}{pos p2:Pos}
def XY:PO X none JS:=by
 intro pins s σ H Q I h;rw[evalPart_none];exact ie ⟨none,H,I,.none,h⟩
def XX(h:PE X e te):PO X (some e) (Oa te):=by
 intro pins s σ H Q I hw;rw[evalPart_some];refine thn (h pins s σ H _ I hw) λu s1 ⟨x,H1,I1,r1,q1⟩=>?_;obtain⟨i,rfl,q⟩:=q1;obtain⟨t,rfl⟩:=r1;exact⟨some i,H1,I1,.int i t,q⟩
def SlR(X:Cx)(r:V->Option Int->Option Int->Hp->VK->Prop):Prop:=
 ∀(pins:List (Addr×Obj)) (s:Shared) (σ:St) (H:Hp) (x:V) (v vl vu:Value) (lo hi:Option Int) (sl:Addr) (Q:VK),Inv X pins σ H s->RelV x v->s.heap.IsSliceOf sl vl vu .none->IsPart vl lo->IsPart vu hi->r x lo hi H Q ->
   ∃T id,typeLookup (.type T) "__getitem__"=pure (some (.builtin id))/\s.TypeIs v T/\wpAny (model X.prog X.w) X.A (getItem v (.ref sl)) (EP X pins σ Q) X.xe s
def tSl(r:V->Option Int->Option Int->Hp->VK->Prop)(te:TE)(tl th:TO):TE:=λσ H Q=>te σ H λx H1=>tl σ H1 λl H2=>th σ H2 λu H3=>r x l u H3 Q
def MJ{r:V->Option Int->Option Int->Hp->VK->Prop}(hr:SlR X r)(he:PE X e te)(hl:PO X lo tl)(hu:PO X hi th):PE X (.Subscript e (.Slice lo hi none p2) pos) (tSl r te tl th):=by
 intro pins s σ H Q I h;refine Subscript_ (thn (he pins s σ H _ I h) λv s1 ⟨x,H1,I1,r1,q1⟩=>?_);refine wpAny_Slice (thn (hl pins s1 σ H1 _ I1 q1) λvl s2 ⟨l,H2,I2,pl,q2⟩=>thn (hu pins s2 σ H2 _ I2 q2) λvu s3 ⟨u,H3,I3,pu,q3⟩=>?_);rw[evalPart_none];refine ie ?_;have I4:Inv X pins σ H3 { s3 with heap:=s3.heap.push { cls:=.type "slice",data:=.fields #[vl,vu,.none] } }:=I3.kept (t':=s3.toks) λb ob q=>Heap.get?_push_of_some _ q;obtain⟨T,id,hT,ht,hg⟩:=hr pins { s3 with heap:=s3.heap.push { cls:=.type "slice",data:=.fields #[vl,vu,.none] } } σ H3 x v vl vu l u s3.heap.objs.size Q I4 r1 (Heap.IsSliceOf.new ..) pl pu q3;show wpAny (model X.prog X.w) X.A (subscriptTail e (.Slice lo hi none p2) v (.ref s3.heap.objs.size)) (EP X pins σ Q) X.xe { s3 with heap:=s3.heap.push { cls:=.type "slice",data:=.fields #[vl,vu,.none] } };exact tail_any (ops:=[.ref s3.heap.objs.size,v]) ht hT hg (by with_unfolding_all rfl)
def FQ(xs:List V)(lo hi:Option Int):List V:=(xs.drop (HT.sIx xs.length 0 lo)).take (HT.sIx xs.length xs.length hi-HT.sIx xs.length 0 lo)
def Hq(xs:List V)(lo hi:Option Int):(FQ xs lo hi).length<=xs.length:=by
 unfold FQ;rw[iX,ju];omega
def ZZ(K:Frag):V->Option Int->Option Int->Hp->VK->Prop:=λx lo hi H Q=>∃a xs,x=.ref a/\SqT K H a xs /\
 ¬ (HT.sIx xs.length 0 lo=0/\HT.sIx xs.length xs.length hi=xs.length)/\∀p,H p=none->Q (.ref p) (upd H p (.tup (FQ xs lo hi)))
def Yv:SlR X (ZZ X.K):=by
 intro pins s σ H x v vl vu lo hi sl Q I rx hs pl pu h;obtain⟨a,xs,rfl,hx,hw,q⟩:=h;cases rx;obtain⟨its,r,ht,hz⟩:=I.tuple hx;have hlen:its.toArray.size=xs.length:=by rw[ik];exact r.length.symm
 refine⟨"tuple",_,PyProof.Rows.slot_tuple_getitem.lookup,ht.typeIs,?_⟩;refine HT.getItem_tuple_cut ht hs pl pu (by rw[hlen];exact hw) ?_ (by rw[hlen];exact hz);rw[hlen];refine⟨.ref s.heap.objs.size,_,I.laid (t':=s.toks) (o:=.tup (FQ xs lo hi)) (λb ob q=>Heap.get?_push_of_some _ q) (ig _) ?_,rfl,q _ (I.hok.fresh (ig _))⟩;exact⟨iJ (Hq xs lo hi) hz,_,(r.drop (HT.sIx xs.length 0 lo)).take (HT.sIx xs.length xs.length hi-HT.sIx xs.length 0 lo),IsTupD.new _ _⟩
def Ox(K:Frag):R2:=λx y H Q=>∃a b xs ys,x=.ref a/\y=.ref b/\SqT K H a xs/\SqT K H b ys/\xs≠[]/\xs.length+ys.length<=sizeLine /\
 (ys=[]->Q (.ref a) H)/\(ys≠[]->∀p,H p=none->Q (.ref p) (upd H p (.tup (xs++ys))))
def Vals.nil_iff{xs:List V}{us:List Value}(r:Vals xs us):us=[]↔xs=[]:=by
 cases r with
 |nil=>simp
 |cons _ _=>simp
def Xl:OpR X (binaryOp .Add) (Ox X.K):=by
 intro pins s σ H x y v u Q I rx ry h;obtain⟨a,b,xs,ys,rfl,rfl,ha,hb,hx,hz,q1,q2⟩:=h;cases rx;cases ry;obtain⟨its,r1,p1,_⟩:=I.tuple ha;obtain⟨its2,r2,p2,_⟩:=I.tuple hb;refine HT.cat_tup p1 p2 (λz=>hx (r1.nil_iff.mp z)) (λz=>⟨.ref a,H,I,rfl,q1 (r2.nil_iff.mp z)⟩) (λz=>?_) (by rw[<- r1.length,<- r2.length];exact hz);refine⟨.ref s.heap.objs.size,_,I.laid (t':=s.toks) (o:=.tup (xs++ys)) (λb ob q=>Heap.get?_push_of_some _ q) (ig _) ?_,rfl,q2 (λw=>z (r2.nil_iff.mpr w)) _ (I.hok.fresh (ig _))⟩;exact⟨by rw[iL];exact hz,_,r1.append r2,IsTupD.new _ _⟩
end
def ixN(n:Nat)(i:Int):Option Nat:=if 0<=i then(if i<n then some i.toNat else none)else if -(n:Int)<=i then some (i+n).toNat else none
def atI{α:Type}(xs:List α)(i:Int):Option α:=(ixN xs.length i).bind λj=>xs[j]?
def Jp{n:Nat}{i:Int}{j:Nat}(h:ixN n i=some j):seqIndex? i n=some j/\j<n/\-(n:Int)<=i/\i<n:=by
 unfold ixN at h;by_cases h0:0<=i
 .rw[i9 h0]at h;by_cases h1:i<n
  .rw[i9 h1]at h;have e:i.toNat=j:=Option.some.inj h;exact⟨by rw[seqIndex_of h0 h1,e],by omega,by omega,h1⟩
  .rw[ic h1]at h;cases h
 .rw[ic h0]at h;by_cases h1:-(n:Int)<=i
  .rw[i9 h1]at h;have e:(i+n).toNat=j:=Option.some.inj h;exact⟨by rw[seqIndex_neg (by omega) h1,e],by omega,h1,by omega⟩
  .rw[ic h1]at h;cases h
def K5{α:Type}{xs:List α}{i:Int}{v:α}(h:atI xs i=some v):∃j,seqIndex? i xs.length=some j/\xs[j]?=some v/\j<xs.length/\-(xs.length:Int)<=i/\i<xs.length:=by
 unfold atI at h;cases e:ixN xs.length i with
 |none=>rw[e]at h;cases h
 |some j=>
  rw[e]at h;obtain⟨h1,h2,h3,h4⟩:=Jp e;exact⟨j,h1,h,h2,h3,h4⟩
def DJ{α:Type}{xs:List α}{j:Nat}{v:α}(h:xs[j]?=some v):atI xs (j:Int)=some v:=by
 have hj:j<xs.length:=(List.getElem?_eq_some_iff.mp h).1;have e:ixN xs.length (j:Int)=some j:=by
  unfold ixN;rw[i9 (by omega),i9 (by omega)];simp
 unfold atI;rw[e];exact h
def K6(b:Expr):Prop:=∀o i,subscripted b false o i=operate [o,i] (getItem o i)
def IxR(X:Cx)(r:R2):Prop:=
 ∀(value slice:Expr) (pins:List (Addr×Obj)) (s:Shared) (σ:St) (H:Hp) (x y:V) (v u:Value) (Q:VK),Inv X pins σ H s->RelV x v->RelV y u->r x y H Q ->
   subscripted slice false v u=operate [v,u] (getItem v u)->wpAny (model X.prog X.w) X.A (subscriptTail value slice v u) (EP X pins σ Q) X.xe s
def MtR(X:Cx)(id:String)(r:V->List V->Hp->VK->Prop):Prop:=
 ∀(pins:List (Addr×Obj)) (s:Shared) (σ:St) (H:Hp) (x:V) (xs:List V) (v:Value) (us:List Value) (Q:VK),Inv X pins σ H s->RelV x v->Vals xs us->r x xs H Q ->
   wpAny (model X.prog X.w) X.A (call (.builtin id) (v::us)) (EP X pins σ Q) X.xe s
section
variable{X:Cx}{a b:Expr}{ta tb:TE}{pos:Pos}
def IxR.or{r r':R2}(h:IxR X r)(h':IxR X r'):IxR X (λx y H Q=>r x y H Q∨r' x y H Q):=by
 intro value slice pins s σ H x y v u Q I rx ry q hs;rcases q with q|q
 .exact h value slice pins s σ H x y v u Q I rx ry q hs
 .exact h' value slice pins s σ H x y v u Q I rx ry q hs
def VM{r:R2}(hr:IxR X r)(ha:PE X a ta)(hb:PE X b tb)(hs:K6 b):PE X (.Subscript a b pos) (tOp r ta tb):=by
 intro pins s σ H Q I h;exact Subscript_ (Ux ha hb I h λv u s2 x y H2 I2 rx ry q=>hr a b pins s2 σ H2 x y v u Q I2 rx ry q (hs _ _))
def Jd(K:Frag):R2:=λx y H Q=>∃p xs i v,x=.ref p/\y=.int i/\SqL K H p xs/\atI xs i=some v/\Q v H
def Tc(K:Frag):R2:=λx y H Q=>∃p xs i v,x=.ref p/\y=.int i/\SqT K H p xs/\atI xs i=some v/\Q v H
def Y9:IxR X (Jd X.K):=by
 intro value slice pins s σ H x y v u Q I rx ry h hs;obtain⟨p,xs,i,z,rfl,rfl,hq,he,q⟩:=h;cases rx;obtain⟨t,rfl⟩:=ry;obtain⟨its,r,pl,hz⟩:=I.list hq;obtain⟨j,h1,h2,h3,h4,h5⟩:=K5 he;obtain⟨w,ew,rw'⟩:=r.get h2;have hl:=r.length;have hn:=Fd;have fin:EP X pins σ Q w s:=⟨z,H,I,rw',q⟩
 by_cases h0:0<=i
 .have hj:i.toNat=j:=by
   rw[seqIndex_of h0 h5]at h1;exact Option.some.inj h1
  exact item_listR pl.isList h0 (by omega) (by rw[hj];simpa using ew) fin hs
 .have hj:(i+(its.toArray.size:Int)).toNat=j:=by
   rw[seqIndex_neg (by omega) h4]at h1;rw[ik,<- hl];exact Option.some.inj h1
  exact subscriptTail_builtinR (x:=w) pl.isList.typeIs slot_list_getitem.lookup
   (wpAny_getItem_list_neg (Q:=λr s'=>r=w/\EP X pins σ Q r s') pl.isList (by omega) (by rw[ik]<;>omega) (by omega) (by rw[hj];simpa using ew) ⟨rfl,fin⟩) hs
def bU:IxR X (Tc X.K):=by
 intro value slice pins s σ H x y v u Q I rx ry h hs;obtain⟨p,xs,i,z,rfl,rfl,hq,he,q⟩:=h;cases rx;obtain⟨t,rfl⟩:=ry;obtain⟨its,r,pl,hz⟩:=I.tuple hq;obtain⟨j,h1,h2,h3,h4,h5⟩:=K5 he;obtain⟨w,ew,rw'⟩:=r.get h2;have hl:=r.length;have hn:=Fd;have fin:EP X pins σ Q w s:=⟨z,H,I,rw',q⟩
 exact subscriptTail_builtinR (x:=w) pl.typeIs slot_tuple_getitem.lookup
  (getItem_tuple (j:=j) (Q:=λr s'=>r=w/\EP X pins σ Q r s') pl (by omega) (by omega) (by rw[ik,<- hl];exact h1) (by simpa using ew) ⟨rfl,fin⟩) hs
def P5(its:List Value)(n j:Nat)(u:Value):Obj.mapSeq (·.setIfInBounds j u) { cls:=.type "list",data:=.seq its.toArray n }={ cls:=.type "list",data:=.seq (its.set j u).toArray n }:=by
 simp[Obj.mapSeq]
theorem Inv.lst{pins:List (Addr×Obj)}{σ:St}{H:Hp}{s:Shared}{p:Addr}{xs:List V}(I:Inv X pins σ H s)(h:H p=some (.lst xs)):
 ∃(its:List Value) (n:Nat),Vals xs its/\s.heap.get? p=some { cls:=.type "list",data:=.seq its.toArray n }/\xs.length<=sizeLine:=by
 obtain⟨z,its,n,r,e⟩:=I.hok p _ h;exact⟨its,n,r,e,z⟩
def Inv.lstUpd{pins:List (Addr×Obj)}{σ:St}{H:Hp}{s:Shared}{p:Addr}{xs ys:List V}{its its':List Value}{n n':Nat}{f:Obj->Obj}(I:Inv X pins σ H s)(h:H p=some (.lst xs))
 (ho:s.heap.get? p=some { cls:=.type "list",data:=.seq its.toArray n }) (hf:f { cls:=.type "list",data:=.seq its.toArray n }={ cls:=.type "list",data:=.seq its'.toArray n' }) (r:Vals ys its') (hz:ys.length<=sizeLine) (t:Nat):
 Inv X pins σ (upd H p (.lst ys)) { s with heap:=s.heap.update p f,toks:=t }:=by
 have e:(s.heap.update p f).get? p=some { cls:=.type "list",data:=.seq its'.toArray n' }:=by
  rw[Heap.get?_update_self f ho (by rw[hf]<;>rfl),hf]
 refine I.write (x:=p) (e:=p) (by rw[h];trivial) (.inl rfl) (λb u hb q=>(Heap.get?_update_other _ _ (Ne.symm hb)).trans q) ⟨_,e⟩ ?_;exact⟨hz,its',n',r,e⟩
def J0:V->V->V->Hp->(Hp->Prop)->Prop:=λo i v H Q=>∃p xs k j,o=.ref p/\i=.int k/\H p=some (.lst xs)/\ixN xs.length k=some j/\Q (upd H p (.lst (xs.set j v)))
def Lh:V0 X J0:=by
 intro pins s σ H o i v ov iv u Q I ro ri rv h;obtain⟨p,xs,k,j,rfl,rfl,hp,hj,q⟩:=h;cases ro;obtain⟨t,rfl⟩:=ri;obtain⟨its,n,r,ho,hz⟩:=I.lst hp;obtain⟨h1,h2,h3,h4⟩:=Jp hj;have hl:=r.length;have hn:=Fd;have I':Inv X pins σ (upd H p (.lst (xs.set j v))) { s with heap:=s.heap.update p (Obj.mapSeq (·.setIfInBounds j u)) }:=
  I.lstUpd hp ho (P5 its n j u) (r.set rv j) (by rw[List.length_set];exact hz) s.toks
 by_cases h0:0<=k
 .have hk:k.toNat=j:=by
   rw[seqIndex_of h0 h4]at h1;exact Option.some.inj h1
  exact PySem.W.ki_setAt ho h0 (by omega) (by rw[ik,<- hl];exact h4) (by rw[hk];exact⟨_,I',q⟩)
 .have hk:(k+(its.toArray.size:Int)).toNat=j:=by
   rw[seqIndex_neg (by omega) h3]at h1;rw[ik,<- hl];exact Option.some.inj h1
  exact PySem.W.ki_setBack ho (by omega) (by rw[ik,<- hl];exact h3) (by omega) (by rw[hk];exact⟨_,I',q⟩)
def Lf(lo hi:Option Int)(n:Nat):(sliceBounds lo hi none n).1=((HT.sIx n 0 lo:Nat):Int)/\(sliceBounds lo hi none n).2.1=((HT.sIx n n hi:Nat):Int)/\(sliceBounds lo hi none n).2.2=1:=by
 refine⟨?_,?_,rfl⟩
 .cases lo with
  |none=>simp[sliceBounds,HT.sIx]
  |some i=>
   simp only[sliceBounds,HT.sIx,Option.getD_none,show(1:Int)>0 by decide,iE];by_cases h:i<0
   .simp only[h,iE]<;>omega
   .simp only[h,j9]<;>omega
 .cases hi with
  |none=>simp[sliceBounds,HT.sIx]
  |some i=>
   simp only[sliceBounds,HT.sIx,Option.getD_none,show(1:Int)>0 by decide,iE];by_cases h:i<0
   .simp only[h,iE]<;>omega
   .simp only[h,j9]<;>omega
def Kq(its:List Value)(lo hi:Option Int):slicePick its.toArray lo hi none=((its.drop (HT.sIx its.length 0 lo)).take (HT.sIx its.length its.length hi-HT.sIx its.length 0 lo)).toArray:=by
 obtain⟨h1,h2,h3⟩:=Lf lo hi its.toArray.size;unfold slicePick;rw[h1,h2,h3];simp only[sliceRange_one,pick_run,ik]<;>rfl
def Ou(K:Frag):V->Option Int->Option Int->Hp->VK->Prop:=λx lo hi H Q=>∃a xs,x=.ref a/\SqL K H a xs/\∀p,H p=none->Q (.ref p) (upd H p (.lst (FQ xs lo hi)))
def W6:SlR X (Ou X.K):=by
 intro pins s σ H x v vl vu lo hi sl Q I rx hs pl pu h;obtain⟨a,xs,rfl,hx,q⟩:=h;cases rx;obtain⟨its,r,ht,hz⟩:=I.list hx;have hlen:=r.length;refine⟨"list",_,slot_list_getitem.lookup,ht.isList.typeIs,?_⟩;refine wpAny_getItem_list_slice ht.isList hs pl pu .none (by simp) ?_ (by rw[ik]<;>omega);rw[Kq,<- hlen];refine⟨.ref s.heap.objs.size,_,I.laid (t':=s.toks) (o:=.lst (FQ xs lo hi)) (λb ob q=>Heap.get?_push_of_some _ q) (ig _) ?_,rfl,q _ (I.hok.fresh (ig _))⟩;exact⟨iJ (Hq xs lo hi) hz,_,0,(r.drop (HT.sIx xs.length 0 lo)).take (HT.sIx xs.length xs.length hi-HT.sIx xs.length 0 lo),Heap.get?_push_size _ rfl⟩
def Dv:V->Bool
 |.non=>true
 |.bl _=>true
 |.int _=>true
 |.str _=>true
 |_=>false
def eqV:V->V->Bool
 |.non,.non=>true
 |.bl a,.bl b=>a==b
 |.bl a,.int b=>(if a then 1 else 0)==b
 |.int a,.bl b=>a==(if b then 1 else 0)
 |.int a,.int b=>a==b
 |.str a,.str b=>a==b
 |_,_=>false
def cC{A:Around}{s:Shared}{y x:V}{u v:Value}(ry:RelV y u)(rx:RelV x v)(fy:Dv y=true)(fx:Dv x=true):SeqAt.EqAt A s u v (eqV y x):=by
 cases y with
 |non=>
  cases ry;cases x with
  |non=>cases rx;exact SeqAt.EqAt.same _
  |bl b=>cases rx;exact SeqAt.EqAt.none_bool b
  |int b=>obtain⟨t,rfl⟩:=rx;exact SeqAt.EqAt.none_int b t
  |str b=>obtain⟨t,rfl⟩:=rx;exact SeqAt.EqAt.none_str b t
  |_=>exact absurd (show false=true from fx) Bool.false_ne_true
 |bl a=>
  cases ry;cases x with
  |non=>cases rx;exact SeqAt.EqAt.bool_none a
  |bl b=>cases rx;exact SeqAt.EqAt.bool_bool a b
  |int b=>obtain⟨t,rfl⟩:=rx;exact SeqAt.EqAt.bool_int a b t
  |str b=>obtain⟨t,rfl⟩:=rx;exact SeqAt.EqAt.bool_str a b t
  |_=>exact absurd (show false=true from fx) Bool.false_ne_true
 |int a=>
  obtain⟨t',rfl⟩:=ry;cases x with
  |non=>cases rx;exact SeqAt.EqAt.int_none a t'
  |bl b=>cases rx;exact SeqAt.EqAt.int_bool a t' b
  |int b=>obtain⟨t,rfl⟩:=rx;exact SeqAt.EqAt.int_int a t' b t
  |str b=>obtain⟨t,rfl⟩:=rx;exact SeqAt.EqAt.int_str a t' b t
  |_=>exact absurd (show false=true from fx) Bool.false_ne_true
 |str a=>
  obtain⟨t',rfl⟩:=ry;cases x with
  |non=>cases rx;exact SeqAt.EqAt.str_none a t'
  |bl b=>cases rx;exact SeqAt.EqAt.str_bool a t' b
  |int b=>obtain⟨t,rfl⟩:=rx;exact SeqAt.EqAt.str_int a t' b t
  |str b=>obtain⟨t,rfl⟩:=rx;exact SeqAt.EqAt.str_str a t' b t
  |_=>exact absurd (show false=true from fx) Bool.false_ne_true
 |_=>exact absurd (show false=true from fy) Bool.false_ne_true
def eqU(x:V)(u:Value):Bool:=match u with
 |.none=>eqV .non x
 |.bool b=>eqV (.bl b) x
 |.int i _=>eqV (.int i) x
 |.str z _=>eqV (.str z) x
 |_=>false
def SB{x y:V}{u:Value}(r:RelV y u)(f:Dv y=true):eqU x u=eqV y x:=by
 cases y with
 |non=>cases r;rfl
 |bl b=>cases r;rfl
 |int i=>obtain⟨t,rfl⟩:=r;rfl
 |str z=>obtain⟨t,rfl⟩:=r;rfl
 |_=>exact absurd (show false=true from f) Bool.false_ne_true
theorem Fm{x:V}:∀{xs:List V} {us:List Value},Vals xs us->xs.all Dv=true->us.any (eqU x)=xs.any λy=>eqV y x
 |_,_,.nil,_=>rfl
 |y::xs,u::us,.cons r t,f=>by
  rw[all_cons,Bool.and_eq_true]at f;rw[any_cons,any_cons,SB r f.1,Fm t f.2]
theorem Ep{A:Around}{s:Shared}{x:V}{v:Value}(rx:RelV x v)(fx:Dv x=true):∀{xs:List V} {us:List Value},Vals xs us->xs.all Dv=true->∀u∈us,SeqAt.EqAt A s u v (eqU x u)
 |_,_,.nil,_=>λu hu=>by cases hu
 |y::xs,u::us,.cons r t,f=>λu' hu=>by
  rw[all_cons,Bool.and_eq_true]at f;rcases mem_cons.mp hu with rfl|hu
  .rw[SB r f.1];exact cC r rx f.1 fx
  .exact Ep rx fx t f.2 u' hu
def inV(x:V)(xs:List V):Bool:=xs.any λy=>eqV y x
def rIn(K:Frag)(neg:Bool):R2:=λx y H Q=>∃p xs,y=.ref p/\(SqL K H p xs∨SqT K H p xs)/\Dv x=true/\xs.all Dv=true/\Q (.bl (if neg then !inV x xs else inV x xs)) H
def Rb:OpR X (compareOp .In) (rIn X.K false):=by
 intro pins s σ H x y v u Q I rx ry h;obtain⟨p,xs,rfl,hq,fx,fs,q⟩:=h;cases ry;rcases hq with hq|hq
 .obtain⟨its,r,pl,hz⟩:=I.list hq;refine SeqAt.in_listAt (eqU x) pl.isList (λw hw=>Ep rx fx r fs w (by simpa using hw)) ⟨.bl _,H,I,rfl,?_⟩;rw[show its.toArray.any (eqU x)=its.any (eqU x) by simp,Fm r fs];exact q
 .obtain⟨its,r,pl,hz⟩:=I.tuple hq;refine SeqAt.in_tupleAt (eqU x) pl (λw hw=>Ep rx fx r fs w (by simpa using hw)) ⟨.bl _,H,I,rfl,?_⟩;rw[show its.toArray.any (eqU x)=its.any (eqU x) by simp,Fm r fs];exact q
def MK:OpR X (compareOp .NotIn) (rIn X.K true):=by
 intro pins s σ H x y v u Q I rx ry h;obtain⟨p,xs,rfl,hq,fx,fs,q⟩:=h;cases ry;rcases hq with hq|hq
 .obtain⟨its,r,pl,hz⟩:=I.list hq;refine SeqAt.notIn_listAt (eqU x) pl.isList (λw hw=>Ep rx fx r fs w (by simpa using hw)) ⟨.bl _,H,I,rfl,?_⟩;rw[show its.toArray.any (eqU x)=its.any (eqU x) by simp,Fm r fs];exact q
 .obtain⟨its,r,pl,hz⟩:=I.tuple hq;refine SeqAt.notIn_tupleAt (eqU x) pl (λw hw=>Ep rx fx r fs w (by simpa using hw)) ⟨.bl _,H,I,rfl,?_⟩;rw[show its.toArray.any (eqU x)=its.any (eqU x) by simp,Fm r fs];exact q
def Mx:CallR X (.builtin "len") (λxs H Q=>∃p ys,xs=[.ref p]/\(SqL X.K H p ys∨SqT X.K H p ys)/\Q (.int ys.length) H):=by
 intro pins s σ H xs us Q I r h;obtain⟨p,ys,rfl,hq,q⟩:=h;obtain⟨u,rfl,rx⟩:=Cf r;cases rx;have hn:=Fd;rcases hq with hq|hq
 .obtain⟨its,r',pl,hz⟩:=I.list hq;have hlen:=r'.length;exact Calls.call_len_list pl.isList (by simp only[ik]<;>omega) ⟨.int ys.length,H,I.tok _,⟨s.toks+1,by rw[ik,hlen]⟩,q⟩
 .obtain⟨its,r',pl,hz⟩:=I.tuple hq;have hlen:=r'.length;exact len_tuple pl (by simp only[ik]<;>omega) ⟨.int ys.length,H,I.tok _,⟨s.toks+1,by rw[ik,hlen]⟩,q⟩
def CallR.or{f:Value}{r r':List V->Hp->VK->Prop}(h:CallR X f r)(h':CallR X f r'):CallR X f (λxs H Q=>r xs H Q∨r' xs H Q):=by
 intro pins s σ H xs us Q I rs q;rcases q with q|q
 .exact h pins s σ H xs us Q I rs q
 .exact h' pins s σ H xs us Q I rs q
def Mw:CallR X (.type "list") (λxs H Q=>∃p ys,xs=[.ref p]/\(SqL X.K H p ys∨SqT X.K H p ys)/\∀l,H l=none->Q (.ref l) (upd H l (.lst ys))):=by
 intro pins s σ H xs us Q I r h;obtain⟨p,ys,rfl,hq,q⟩:=h;obtain⟨u,rfl,rx⟩:=Cf r;cases rx;have fin:∀(its:List Value),Vals ys its->ys.length<=sizeLine->∀(h':Heap) (c':Nat),(∀b o',s.heap.get? b=some o'->h'.get? b=some o') ->
  h'.get? s.heap.objs.size=some { cls:=.type "list",dict:=none,data:=.seq its.toArray c',slots:=#[] }->EP X pins σ Q (.ref s.heap.objs.size) { s with heap:=h' }:=λits r' hz h' c' kp e=>
  ⟨.ref s.heap.objs.size,_,I.laid (t':=s.toks) kp (ig _) (show ObjOk X.prog X.w _ h' _ (.lst ys)from⟨hz,its,c',r',e⟩),rfl,q _ (I.hok.fresh (ig _))⟩
 rcases hq with hq|hq
 .obtain⟨its,r',pl,hz⟩:=I.list hq;have hlen:=r'.length;obtain⟨o,ho,hc,n,hd⟩:=pl.isList;exact call_list_seq p (.inl rfl) ho hc hd (λh' c' kp e=>fin its r' hz h' c' kp e) (by simp only[ik]<;>omega)
 .obtain⟨its,r',pl,hz⟩:=I.tuple hq;have hlen:=r'.length;obtain⟨o,ho,hc,n,hd⟩:=pl;exact call_list_seq p (.inr rfl) ho hc hd (λh' c' kp e=>fin its r' hz h' c' kp e) (by simp only[ik]<;>omega)
def Kx:CallR X (.type "tuple") (λxs H Q=>∃p ys,xs=[.ref p]/\((SqL X.K H p ys/\∀l,H l=none->Q (.ref l) (upd H l (.tup ys)))∨(SqT X.K H p ys/\Q (.ref p) H))):=by
 intro pins s σ H xs us Q I r h;obtain⟨p,ys,rfl,h⟩:=h;obtain⟨u,rfl,rx⟩:=Cf r;cases rx;rcases h with⟨hq,q⟩|⟨hq,q⟩
 .obtain⟨its,r',pl,hz⟩:=I.list hq;have hlen:=r'.length;refine call_tuple_list pl.isList (λh' kp=>?_) (by simp only[ik]<;>omega);have I1:Inv X pins σ H { s with heap:=h' }:=I.kept (t':=s.toks) kp;have I2:Inv X pins σ (upd H h'.objs.size (.tup ys)) { s with heap:=h'.push { cls:=.type "tuple",data:=.seq its.toArray } }:=
   I1.laid (t':=s.toks) (λb o e=>Heap.get?_push_of_some _ e) (ig _) (show ObjOk X.prog X.w _ _ _ (.tup ys)from⟨hz,its,r',IsTupD.new _ _⟩)
  exact⟨.ref h'.objs.size,_,I2,rfl,q _ (I1.hok.fresh (ig _))⟩
 .obtain⟨its,r',pl,hz⟩:=I.tuple hq;exact call_tuple_same pl ⟨.ref p,H,I,rfl,q⟩
def tyV(K:Frag)(T:String)(x:V)(H:Hp):Prop:=match x with
 |.str _=>T="str"
 |.int _=>T="int"
 |.ref p=>(T="list"/\∃xs,SqL K H p xs)∨(T="tuple"/\∃o,K.lookup p=some o/\o.cls=.type "tuple"/\o.dict=none) ∨
  (T="dict"/\((∃kvs,H p=some (.dK kvs))∨∃kvs,H p=some (.dT kvs)))∨(T="set"/\∃S n,H p=some (.set S n))
 |_=>False
def Q7{pins:List (Addr×Obj)}{σ:St}{H:Hp}{s:Shared}{T:String}{x:V}{v:Value}(I:Inv X pins σ H s)(r:RelV x v)(ty:tyV X.K T x H):
 s.TypeIs v T/\∀a,v=.ref a->∃ob,s.heap.get? a=some ob/\ob.dict=none:=by
 cases x with
 |str z=>
  obtain⟨t,rfl⟩:=r;cases(show T="str" from ty);exact⟨typeIs_str s z t,λ_ e=>nomatch e⟩
 |int i=>
  obtain⟨t,rfl⟩:=r;cases(show T="int" from ty);exact⟨typeIs_int s i t,λ_ e=>nomatch e⟩
 |ref p=>
  cases r;rcases ty with⟨rfl,xs,hq⟩|⟨rfl,o,hk,hc,hd⟩|⟨rfl,hk⟩|⟨rfl,S,n,hk⟩
  .obtain⟨its,_,pl,_⟩:=I.list hq;refine⟨pl.isList.typeIs,λa e=>?_⟩;cases e;obtain⟨o,n,e,c,hd,_⟩:=pl;exact⟨o,e,hd⟩
  .refine⟨⟨o,I.kIn p o hk,hc⟩,λa e=>?_⟩;cases e;exact⟨o,I.kIn _ o hk,hd⟩
  .have z:∃o,s.heap.get? p=some o/\o.ExactDict:=by
    rcases hk with⟨kvs,hk⟩|⟨kvs,hk⟩
    .obtain⟨_,_,_,_,o,_,_,e,ex,_⟩:=I.hok p _ hk;exact⟨o,e,ex⟩
    .obtain⟨_,_,_,_,o,_,_,e,ex,_⟩:=I.hok p _ hk;exact⟨o,e,ex⟩
   obtain⟨o,e,ex⟩:=z;refine⟨⟨o,e,ex.1⟩,λa e2=>?_⟩;cases e2;exact⟨o,e,ex.2.1⟩
  .obtain⟨o,_,_,_,e,ex,_⟩:=I.hok p _ hk;refine⟨⟨o,e,ex.1⟩,λa e2=>?_⟩;cases e2;exact⟨o,e,ex.2.1⟩
 |_=>exact False.elim ty
def T4(K:Frag)(T:String)(r:V->List V->Hp->VK->Prop)(to:TE):TE:=λσ H Q=>to σ H λx H1=>tyV K T x H1/\r x [] H1 Q
def tBM(K:Frag)(T:String)(r:V->List V->Hp->VK->Prop)(to:TE)(t:TA):TE:=λσ H Q=>to σ H λx H1=>tyV K T x H1/\t σ H1 λxs H2=>r x xs H2 Q
variable{o e:Expr}{es:List Expr}{to:TE}{t:TA}{name:Str}{apos cpos:Pos}{T id:String}{r:V->List V->Hp->VK->Prop}
def ag(pa:PlainAttrs T)(slot:Slot T name id)(hty:typeOf (.builtin id)=pure (.type "method_descriptor"))(hm:MtR X id r)(ho:PE X o to)
 (hbase:attributeBase o name X.env (eval o X.env)=eval o X.env:=by rfl) (hline:(apos.endLine==cpos.line)=true:=by rfl):PE X (.Call (.Attribute o name apos) [] [] cpos) (T4 X.K T r to):=by
 intro pins s σ H Q I h;refine wpAny_Call_method0_late hbase hline (thn (ho pins s σ H _ I h) λv s1 ⟨x,H1,I1,r1,ty,q1⟩=>?_);obtain⟨h1,h2⟩:=Q7 I1 r1 ty;exact⟨T,id,pa,slot,hty,h1,h2,Calls.callWith_builtin rfl (PySem.evalArgs_none (hm pins s1 σ H1 x [] v [] Q I1 r1 .nil q1))⟩
def dL(pa:PlainAttrs T)(slot:Slot T name id)(hty:typeOf (.builtin id)=pure (.type "method_descriptor"))(hm:MtR X id r)(ho:PE X o to)(ha:PA X (e::es) t)
 (hbase:attributeBase o name X.env (eval o X.env)=eval o X.env:=by rfl)
 (hfew:((backTo cpos (starEach (e::es) X.env)).all (λx=>!x.1)&&(backToKw cpos (keywordEach [] X.env)).all (λx=>x.1.isSome)
  && decide ((e::es).length+([]:List Keyword).length+(if([]:List Keyword).isEmpty then 0 else 1)<30))=true:=by rfl)
 (hline:(apos.endLine==cpos.line)=true:=by rfl) (hs:starEach (e::es) X.env=(false,eval e X.env)::starEach es X.env:=by rfl) (hplain:(backTo cpos (starEach es X.env)).any (·.1)=false:=by rfl):
 PE X (.Call (.Attribute o name apos) (e::es) [] cpos) (tBM X.K T r to t):=by
 intro pins s σ H Q I h;refine wpAny_Call_method_late hbase hfew hline rfl (thn (ho pins s σ H _ I h) λv s1 ⟨x,H1,I1,r1,ty,q1⟩=>?_);obtain⟨h1,h2⟩:=Q7 I1 r1 ty;refine⟨T,id,pa,slot,hty,h1,h2,?_⟩;have hA:=ha cpos pins s1 σ H1 _ I1 q1;rw[hs]at hA ⊢;refine Calls.callWith_builtin (by show(false||(backTo cpos (starEach es X.env)).any (·.1))=false;rw[hplain]<;>rfl) (Calls.evalArgs_plain ?_);exact thn hA λus s2 ⟨vs,H2,I2,r2,q2⟩=>hm pins s2 σ H2 x vs v us Q I2 r1 r2 q2
end
def MtM(X:Cx)(id:String)(r:V->List V->Hp->VK->Prop):Prop:=
 ∀(pins:List (Addr×Obj)) (s:Shared) (σ:St) (H:Hp) (x:V) (xs:List V) (v:Value) (us:List Value) (Q:VK),Inv X pins σ H s->RelV x v->Vals xs us->r x xs H Q ->
   wpAny (model X.prog X.w) X.A (call (.builtin id) (v::us)) (EP X pins σ Q) X.xe s
def Vals.one:∀{x:V} {us:List Value},Vals [x] us->∃u,us=[u]/\RelV x u
 |_,_,.cons r .nil=>⟨_,rfl,r⟩
def Vals.zero:∀{us:List Value},Vals [] us->us=[]
 |_,.nil=>rfl
theorem Vals.dropLast{xs:List V}{us:List Value}(h:Vals xs us):Vals xs.dropLast us.dropLast:=by
 induction h with
 |nil=>exact .nil
 |cons r t ih=>
  cases t with
  |nil=>exact .nil
  |cons q t'=>exact .cons r ih
theorem Vals.eraseIdx:∀{xs:List V} {us:List Value} (i:Nat),Vals xs us->Vals (xs.eraseIdx i) (us.eraseIdx i)
 |_,_,_,.nil=>.nil
 |_,_,0,.cons _ t=>t
 |_,_,i+1,.cons r t=>.cons r (Vals.eraseIdx i t)
def PY{α:Type}(l:List α):l.eraseIdx (l.length-1)=l.dropLast:=by
 induction l with
 |nil=>rfl
 |cons a r ih=>
  cases r with
  |nil=>rfl
  |cons b r=>
   have e:(a::b::r).length-1=((b::r).length-1)+1:=by
    have h1:(a::b::r).length=r.length+2:=rfl;have h2:(b::r).length=r.length+1:=rfl;omega
   rw[e,List.eraseIdx_cons_succ,ih]
   all_goals rfl
theorem KQ{α:Type}:∀(l:List α) (i:Nat),(l.eraseIdx i).length<=l.length
 |[],_=>ig _
 |_::_,0=>j7 _
 |_::r,i+1=>Nat.succ_le_succ (KQ r i)
section
variable{X:Cx}{pins:List (Addr×Obj)}{σ:St}{H:Hp}{s:Shared}{l b:Addr}{xs ys zs:List V}
def Inv.lset{its its':List Value}{n:Nat}{f:Array Value->Array Value}{t':Nat}(I:Inv X pins σ H s)(hH:H l=some (.lst xs))
 (e:s.heap.get? l=some { cls:=.type "list",data:=.seq its.toArray n }) (hf:f its.toArray=its'.toArray) (hv:Vals ys its') (hz:ys.length<=sizeLine):
 Inv X pins σ (upd H l (.lst ys)) { s with heap:=s.heap.update l (Obj.mapSeq f),toks:=t' }:=by
 have q:=PySem.IsL.update e f;rw[hf]at q;refine I.write (x:=l) (e:=l) (by rw[hH];exact trivial) (.inl rfl) (λb' u hb hu=>(Heap.get?_update_other s.heap (Obj.mapSeq f) (Ne.symm hb)).trans hu) ⟨_,q⟩ ?_;exact⟨hz,its',_,hv,q⟩
def Inv.lnew{its:List Value}{t':Nat}(I:Inv X pins σ H s)(hv:Vals ys its)(hz:ys.length<=sizeLine):
 Inv X pins σ (upd H s.heap.objs.size (.lst ys)) { s with heap:=s.heap.push { cls:=.type "list",data:=.seq its.toArray },toks:=t' }:=
 I.laid (λ_ _ q=>Heap.get?_push_of_some _ q) (ig _) ⟨hz,its,0,hv,Heap.get?_push_size _ rfl⟩
theorem Inv.fresh(I:Inv X pins σ H s):H s.heap.objs.size=none:=I.hok.fresh (ig _)
def Inv.lstM(I:Inv X pins σ H s)(hH:H l=some (.lst xs)):xs.length<=sizeLine/\∃(its:List Value) (n:Nat),Vals xs its/\xs.length=its.length/\s.heap.get? l=some { cls:=.type "list",data:=.seq its.toArray n }:=by
 obtain⟨z,its,n,r,e⟩:=I.hok l _ hH;exact⟨z,its,n,r,r.length,e⟩
def UD{n:Nat}(h:n<=sizeLine):Builtin.List.listTooLong n=false:=by
 unfold Builtin.List.listTooLong;exact iW (by omega)
end
section
variable{X:Cx}
def Ni:V->List V->Hp->VK->Prop:=λx vs H Q=>∃l xs y,x=.ref l/\vs=[y]/\H l=some (.lst xs)/\xs.length<sizeLine/\Q .non (upd H l (.lst (xs++[y])))
def KN:MtM X "list.append" Ni:=by
 intro pins s σ H x vs v us Q I rx rv h;obtain⟨l,xs,y,rfl,rfl,hH,hz,q⟩:=h;cases rx;obtain⟨u,rfl,ru⟩:=rv.one;obtain⟨z,its,n,r,hl,e⟩:=I.lstM hH;refine call_meets F.slot_list_append ⟨_,e,rfl⟩ F.entry_list_append (F.args_list_append_2 _ _) (PySem.list_append l its.toArray n u (by rw[ik];omega)) ⟨e,?_⟩;refine⟨.non,_,I.lset (its':=its++[u]) hH e (by simp) (r.append (.cons ru .nil)) ?_,rfl,q⟩;rw[iL,List.length_singleton];omega
def Wp:V->List V->Hp->VK->Prop:=λx vs H Q=>∃l b xs zs,x=.ref l/\vs=[.ref b]/\H l=some (.lst xs)/\H b=some (.lst zs)/\xs.length+zs.length<=sizeLine/\Q .non (upd H l (.lst (xs++zs)))
def e9:MtM X "list.extend" Wp:=by
 intro pins s σ H x vs v us Q I rx rv h;obtain⟨l,b,xs,zs,rfl,rfl,hH,hB,hz,q⟩:=h;cases rx;obtain⟨u,rfl,ru⟩:=rv.one;cases ru;obtain⟨z,its,n,r,hl,e⟩:=I.lstM hH;obtain⟨z2,its2,n2,r2,hl2,e2⟩:=I.lstM hB;have hsz:its.toArray.size+its2.toArray.size<=sizeLine:=by rw[ik,ik];omega
 have hlong:¬ (!its.toArray.isEmpty&&Builtin.List.listTooLong (its.toArray.size+its2.toArray.size))=true:=by
  rw[UD hsz,Bool.and_false];exact Bool.false_ne_true
 refine call_meets F.slot_list_extend ⟨_,e,rfl⟩ F.entry_list_extend (F.args_list_extend_2 _ _)
  (AutoSeq1.list_extend_list_list_0 l its.toArray n b its2.toArray n2 hlong (by rw[ik];omega) (by omega)) ⟨e,e2,?_⟩
 refine⟨.non,_,I.lset (its':=its++its2) hH e (by simp) (r.append r2) ?_,rfl,q⟩;rw[iL];omega
def Za:V->List V->Hp->VK->Prop:=λx vs H Q=>∃l xs y,x=.ref l/\vs=[]/\H l=some (.lst xs)/\xs[xs.length-1]?=some y/\Q y (upd H l (.lst xs.dropLast))
def bA:MtM X "list.pop" Za:=by
 intro pins s σ H x vs v us Q I rx rv h;obtain⟨l,xs,y,rfl,rfl,hH,hy,q⟩:=h;cases rx;have hus:=rv.zero;subst hus;obtain⟨z,its,n,r,hl,e⟩:=I.lstM hH;obtain⟨u,hu,ru⟩:=r.get hy;have hy':its.toArray[its.toArray.size-1]?=some u:=by
  show its.toArray[its.length-1]?=some u;rw[<- Array.getElem?_toList,<- hl];exact hu
 refine call_meets F.slot_list_pop ⟨_,e,rfl⟩ F.entry_list_pop (F.args_list_pop_1 _) (MeetsSeq.list_pop_last l its.toArray n u hy' (by rw[ik];omega)) ⟨e,?_⟩;refine⟨y,_,I.lset (its':=its.dropLast) hH e ?_ r.dropLast ?_,ru,q⟩
 .show its.toArray.eraseIdxIfInBounds (its.toArray.size-1)=its.dropLast.toArray;rw[ik,List.eraseIdxIfInBounds_toArray,PY]
 .rw[List.length_dropLast];omega
def Qy:V->List V->Hp->VK->Prop:=λx vs H Q=>∃l xs i k y,x=.ref l/\vs=[.int i]/\H l=some (.lst xs)/\-(2^63)<=i/\i<2^63/\seqIndex? i xs.length=some k/\xs[k]?=some y/\Q y (upd H l (.lst (xs.eraseIdx k)))
def UG:MtM X "list.pop" Qy:=by
 intro pins s σ H x vs v us Q I rx rv h;obtain⟨l,xs,i,k,y,rfl,rfl,hH,h1,h2,hk,hy,q⟩:=h;cases rx;obtain⟨u,rfl,ru⟩:=rv.one;obtain⟨t,rfl⟩:=ru;obtain⟨z,its,n,r,hl,e⟩:=I.lstM hH;obtain⟨w,hw,rw'⟩:=r.get hy;refine call_meets F.slot_list_pop ⟨_,e,rfl⟩ F.entry_list_pop (F.args_list_pop_2 _ _)
  (MeetsSeq.list_pop_at l its.toArray n i t k w (fitsIndex_both h1 h2) (by rw[ik,<- hl];exact hk) (by rw[<- Array.getElem?_toList];exact hw) (by rw[ik];omega)) ⟨e,?_⟩
 refine⟨y,_,I.lset (its':=its.eraseIdx k) hH e ?_ (r.eraseIdx k) ?_,rw',q⟩
 .show its.toArray.eraseIdxIfInBounds k=(its.eraseIdx k).toArray;rw[List.eraseIdxIfInBounds_toArray]
 .have:=KQ xs k;omega
def Te:R2:=λx y H Q=>∃l b xs zs,x=.ref l/\y=.ref b/\H l=some (.lst xs)/\H b=some (.lst zs)/\xs.length+zs.length<=sizeLine/\∀p,H p=none->Q (.ref p) (upd H p (.lst (xs++zs)))
def ax:OpR X (binaryOp .Add) Te:=by
 intro pins s σ H x y v u Q I rx ry h;obtain⟨l,b,xs,zs,rfl,rfl,hH,hB,hz,q⟩:=h;cases rx;cases ry;obtain⟨z,its,n,r,hl,e⟩:=I.lstM hH;obtain⟨z2,its2,n2,r2,hl2,e2⟩:=I.lstM hB;refine PySem.P.add_list e e2 ?_ (by rw[ik,ik];omega);have ea:its.toArray++its2.toArray=(its++its2).toArray:=by simp
 rw[ea];exact⟨.ref _,_,I.lnew (t':=s.toks) (r.append r2) (by rw[iL];omega),rfl,q _ I.fresh⟩
end
end L2
namespace Att
open PySem PySem.W PySem.Calls PyProof.Rows
def JC{P:Params}{h:Heap}:∀(ns:List Int) (vs:List Value),WellAll P h vs (ns.map WData.int)->IntsAre vs ns:=by
 intro ns
 induction ns with
 |nil=>
  intro vs w;rw[iU]at w;cases w;exact .nil
 |cons n ns ih=>
  intro vs w;rw[iD]at w;cases w with
  |cons a b=>
   cases a;exact .cons _ _ (ih _ b)
def QL{l:OpenLaw}{n:Nat}(hn:l.most=some n){P:Params}{h:Heap}{args:List WData}{vals:List Value}
 (hpre:l.row.toRowW.claim.pre args=true) (hwl:WellAll P h vals args):
 ∃a vs ns,vals=[Value.ref a]/\args=[WData.list (ns.map WData.int)]/\h.get? a=some { cls:=.type "list",data:=.seq vs.toArray }/\IntsAre vs ns/\ns.length<=n:=by
 have hsh:WShape.hasAll [] args [.list .int]=true:=(pre_splitW hpre).1;have hc:l.pre.holds [] { args:=args }=true:=(pre_splitW hpre).2;obtain⟨d,r,rfl,h1,h2⟩:=hasAllW_cons hsh;obtain rfl:=hasAllW_nil h2;obtain⟨xs,rfl,h3⟩:=hasW_list h1;obtain⟨ns,rfl⟩:=items_int h3;have hlen:ns.length<=n:=by
  unfold OpenLaw.pre at hc;have h4:(WTm.not (.lt (.lit (.int (n:Int))) (.len (.arg 0)))).holds [] { args:=[.list (ns.map .int)] }=true:=by
   have h4:=(holds_andW hc).1;rw[hn]at h4;exact h4
  have h5:=condW_of h4 (w_not (w_lt w_lit (w_len_list (w_arg rfl))));rw[iu]at h5;refine Nat.le_of_not_lt λq=>?_;have q':(n:Int)<((ns.length:Nat):Int):=by omega
  first
   |(rw[ja q']at h5;exact absurd h5 (by decide))
   |(simp at h5;omega)
 cases hwl with
 |cons w1 w2=>
  cases w2;cases w1 with
  |list ho hall=>exact⟨_,_,ns,rfl,rfl,ho,JC ns _ hall,hlen⟩
def RQ(l:OpenLaw)(args:List WData):l.row.toRowW.claim.post args (.bool true) args=true:=
 postW_of (r:=l.row.toRowW) (X:=(true==true))
  (show WShape.has [] (.bool true) .bool=true by first|rfl|decide|simp[WShape.has,WShape.arms,WShape.armsAll])
  (show(WTm.eq .res (.lit (.bool true))).value [] { args:=args,res:=some (.bool true),after:=args }=some (.bool (true==true))from w_eq_bool (w_res rfl) w_lit) rfl
def attach_call{l:OpenLaw}{n:Nat}{q:Program}{loose:List Str}{XP:(Str->Option Value)->Heap->Prop}{YP:World->Heap->Prop}{d:DefRec}
 (hn:l.most=some n) (hdf:d.params.defaults=[])
 (call:∀(w:World) (s₀ s₁:Shared) (mg mb:Str->Option Value) (fa:Addr) (o:Obj) (pm cd doc:Value) (a:Addr) (vs:List Value) (ns:List Int),
  Ground q loose [] XP w s₀ mg mb s₁.heap->YP w s₁.heap ->
  s₁.heap.get? fa=some o->o.data=.func (docDef d.name d.params d.body d.scope pm cd doc)->s₁.heap.CodeRec cd d.name->mg d.name=some (.ref fa) ->
  s₁.heap.get? a=some { cls:=.type "list",data:=.seq vs.toArray }->IntsAre vs ns->ns.length<=n->s₁.gens=#[] ->
  codeAny (model l.prog w) callerA (.call (.ref fa) ⟨[.ref a],[]⟩) (λr s'=>r=.ok (.ret (.bool true))/\OldK s₁.heap s'.heap/\s'.os=s₁.os/\AllBare s'.gens) s₁):
 WalkO q loose XP YP l.row.toRowW d [] (λf vs=>PySem.call f vs):=by
 intro w s₀ s₁ mg mb G Y fa o pm cd doc dV kV ho hd hcd hD hmg hg args vals as hpre hlay hrd hwl hlo;obtain rfl:dV=.none:=Dflts.none hD hdf;obtain rfl:kV=.none:=Dflts.noKw hD;obtain⟨a,vs,ns,rfl,rfl,hobj,hints,hlen⟩:=QL hn hpre hwl;refine enter_call (jf (call w s₀ s₁ mg mb fa o pm cd doc a vs ns G Y ho (fd_plain hd) hcd hmg hobj hints hlen hg) λr s' hq=>?_);obtain⟨rfl,h2,h3,h4⟩:=hq;exact⟨.inl ⟨.bool true,.bool true,[],rfl,λ_=>rfl,.bool true,RQ l _,λ_=>⟨List.Pairwise.nil,λ_ hm=>(nomatch hm)⟩⟩,h2,h3,h4⟩
end Att
namespace L2
open PySem PySem.Spec PyProof.Rows
theorem KB:∀{vs:List Value} {ns:List Int},IntsAre vs ns->Vals (ns.map V.int) vs
 |_,_,.nil=>.nil
 |_,_,.cons n t h=>.cons ⟨t,rfl⟩ (KB h)
def CY(s:Stmt):Arguments:=match s with
 |.FunctionDef _ a _ _ _ _ _ _ _ _=>a
 |_=>{ posonlyargs:=[],args:=[],vararg:=none,kwonlyargs:=[],kw_defaults:=[],kwarg:=none,defaults:=[] }
def BW(s:Stmt):List Stmt:=match s with
 |.FunctionDef _ _ b _ _ _ _ _ _ _=>b
 |_=>[]
def AB(s:Stmt):Scope:=match s with
 |.FunctionDef _ _ _ _ _ _ sc _ _ _=>sc
 |_=>{ kind:=.function,names:=[],isGenerator:=false,isCoroutine:=false }
abbrev CX0:CXT:=λ_ _ _ _ _ _=>False
abbrev E0:XK:=λ_ _ _=>False
def dN{X:Cx}:N8 CX0 X E0:=λ_ _ _ _ _ _ _ h=>h.elim
structure Fun(K:Frag)(x qual:Str)(st:Stmt)(f:Addr)(fd:FuncData):Prop where
 ex:∃(oc:Value) (od:Option Addr) (kV doc pm:Value) (an:Option Addr) (cdv ct:Value) (osl:Array (Option Value)),
  fd=fnOf x qual (CY st) (BW st) (AB st) .none kV doc pm an cdv ct/\K.lookup f=some ⟨oc,od,.func fd,osl⟩/\codeIn K cdv qual=true
 kp:keepIn K (.ref f)=true
section
variable{P:Program}{w:World}{K:Frag}{mg:Str->Option Value}{base:Heap}
def Fun.ok{x qual:Str}{st:Stmt}{f:Addr}{fd:FuncData}{N ps:List Str}{k:Nat}{sp:Sp}(F:Fun K x qual st f fd)(S:FnScope N ps (AB st))(len:∀vs H Q E,sp vs H Q E->vs.length=ps.length)
 (hbody:∀(cdv:Value) (A:Around) (outer:List Env) (s:Shared) (H:Hp) (vs:List V) (Q:VK) (E:XK),Room k (A.deeper (envOfC qual (AB st) s.heap.objs.size f cdv))->sp vs H Q E ->
  ∃t,PSs (Do CX0 P w K mg base N qual (AB st) f cdv A outer s H E).nox (BW st) t/\t { nx:=λ_ H'=>Q .non H',rt:=Q } (start N vs) H):FnOk P w K mg base CX0 (k+1) f fd ps sp:=by
 obtain⟨oc,od,kV,doc,pm,an,cdv,ct,osl,rfl,lk,hcd⟩:=F.ex;refine Va lk hcd S len λA outer s H vs Q E hr hsp=>?_;obtain⟨t,h,q⟩:=hbody cdv A outer s H vs Q E hr hsp;exact⟨t,h.nox,q⟩
def Fun.binds{x qual:Str}{st:Stmt}{f:Addr}{fd:FuncData}{ps:List Str}(F:Fun K x qual st f fd)
 (h:∀(kV doc pm:Value) (an:Option Addr) (cdv ct:Value) (us:List Value),us.length=ps.length->bindArgs (fnOf x qual (CY st) (BW st) (AB st) .none kV doc pm an cdv ct) ⟨us,[]⟩=pure (ps.zip us)):Binds K fd ps []:=by
 obtain⟨oc,od,kV,doc,pm,an,cdv,ct,osl,rfl,lk,hcd⟩:=F.ex;exact .all (h kV doc pm an cdv ct)
def Rz{x qual:Str}{st:Stmt}{f:Addr}{oc:Value}{od an:Option Addr}{osl:Array (Option Value)}{kV doc pm cdv ct:Value}(l:K.lookup f=some ⟨oc,od,.func (fnOf x qual (CY st) (BW st) (AB st) .none kV doc pm an cdv ct),osl⟩)
 (c:codeIn K cdv qual=true) (k:keepIn K (.ref f)=true):Fun K x qual st f (fnOf x qual (CY st) (BW st) (AB st) .none kV doc pm an cdv ct):=⟨⟨oc,od,kV,doc,pm,an,cdv,ct,osl,rfl,l,c⟩,k⟩
end
def KC{n:Nat}(h:n<=1000):n<sizeLine:=Nat.lt_of_le_of_lt h (by decide)
def BG(cells:List (Str×Addr)):List (Str×NameKind)->List (Str×Addr)->List (Str×Addr)
 |[],acc=>acc
 |(n,k)::r,acc=>if k==.free then BG cells r ((n,(cells.lookup n).getD 0)::acc)else BG cells r acc
theorem Fk{env:Env}(f:Str×NameKind->List (Str×Addr)->Sem (ForInStep (List (Str×Addr))))
 (hf:∀name kind cs,f (name,kind) cs=if(kind==NameKind.free)=true then(do let a <- cellOf env name;pure (ForInStep.yield ((name,a)::cs)))else pure (ForInStep.yield cs)):
 ∀(names:List (Str×NameKind)) (acc:List (Str×Addr)),(∀y∈names,y.2=.free->∃c,env.cells.lookup y.1=some c)->forIn names acc f=pure (BG env.cells names acc)
 |[],acc,_=>rfl
 |(n,k)::r,acc,hy=>by
   rw[List.forIn_cons,hf];have ih:=λa=>Fk f hf r a λz hz=>hy z (iK _ hz);by_cases hk:(k==NameKind.free)=true
   .obtain⟨c,hc⟩:=hy (n,k) iR (by simpa using hk);have hc:env.cells.lookup n=some c:=hc;have e1:cellOf env n=pure c:=by unfold cellOf;rw[hc]
    rw[i9 hk,e1];show forIn r ((n,c)::acc) f=_;have e2:BG env.cells ((n,k)::r) acc=BG env.cells r ((n,c)::acc):=by
     rw[BG,i9 hk,hc];rfl
    rw[ih,e2]
   .rw[ic hk];show forIn r acc f=_;have e2:BG env.cells ((n,k)::r) acc=BG env.cells r acc:=by
     rw[BG,ic hk]
    rw[ih,e2]
def D6{scope:Scope}{env:Env}(h:∀y∈scope.names,y.2=.free->∃c,env.cells.lookup y.1=some c):closureFor scope env=pure (BG env.cells scope.names []):=by
 unfold closureFor;dsimp only;rw[Fk _ (λname kind cs=>rfl) scope.names [] h];rfl
theorem EU{cells:List (Str×Addr)}:∀{names:List (Str×NameKind)} {acc:List (Str×Addr)},(∀y∈names,y.2=.free->∃c,cells.lookup y.1=some c)->(∀x c,acc.lookup x=some c->cells.lookup x=some c) ->
 ∀x c,(BG cells names acc).lookup x=some c->cells.lookup x=some c
 |[],_,_,ha,x,c,e=>ha x c e
 |(n,k)::r,acc,hy,ha,x,c,e=>by
   unfold BG at e;have hr:∀y∈r,y.2=.free->∃c,cells.lookup y.1=some c:=λz hz=>hy z (iK _ hz);by_cases hk:(k==NameKind.free)=true
   .rw[i9 hk]at e;refine EU hr (λz d q=>?_) x c e;obtain⟨c0,hc0⟩:=hy (n,k) iR (by simpa using hk);have hc0:cells.lookup n=some c0:=hc0;rw[iA]at q;by_cases hz:(z==n)=true
    .rw[hz,hc0]at q;have:z=n:=by simpa using hz
     subst this;simpa [hc0]using q
    .have hz':(z==n)=false:=by simpa using hz
     rw[hz']at q;exact ha z d q
   .rw[ic hk]at e;exact EU hr ha x c e
theorem EV{cells:List (Str×Addr)}:∀{names:List (Str×NameKind)} {acc:List (Str×Addr)} {x:Str},((acc.lookup x).isSome=true∨(x,NameKind.free)∈names)->((BG cells names acc).lookup x).isSome=true
 |[],_,_,h=>h.elim id λz=>by cases z
 |(n,k)::r,acc,x,h=>by
   unfold BG;by_cases hk:(k==NameKind.free)=true
   .rw[i9 hk];refine EV ?_;by_cases hx:(x==n)=true
    .exact .inl (by rw[iA,hx];rfl)
    .have hx':(x==n)=false:=by simpa using hx
     rcases h with h|h
     .exact .inl (by rw[iA,hx'];exact h)
     .rcases mem_cons.mp h with h|h
      .cases h;simp at hx
      .exact .inr h
   .rw[ic hk];refine EV ?_;rcases h with h|h
    .exact .inl h
    .rcases mem_cons.mp h with h|h
     .cases h;simp at hk
     .exact .inr h
def Ca:Nat->List (Str×NameKind)->List (Str×Addr)
 |_,[]=>[]
 |n,(x,k)::r=>if k==.cell then Ca (n+1) r++[(x,n)]else Ca n r
theorem C1:∀(names:List (Str×NameKind)) (n:Nat) (acc:List (Str×Addr)),cellsFrom n names acc=Ca n names++acc
 |[],_,_=>rfl
 |(x,k)::r,n,acc=>by
   unfold cellsFrom Ca;by_cases hk:(k==NameKind.cell)=true
   .rw[i9 hk,i9 hk,C1 r (n+1),List.append_assoc];rfl
   .rw[ic hk,ic hk,C1 r n]
theorem IF:∀(names:List (Str×NameKind)) (n:Nat) (x:Str) (c:Addr),(Ca n names).lookup x=some c->(x,NameKind.cell)∈names
 |[],_,_,_,e=>by cases e
 |(y,k)::r,n,x,c,e=>by
   unfold Ca at e;by_cases hk:(k==NameKind.cell)=true
   .rw[i9 hk]at e;have hk':k=.cell:=by simpa using hk
    rw[jc]at e;cases q:(Ca (n+1) r).lookup x with
    |some d=>exact iK _ (IF r _ x d q)
    |none=>
     rw[q]at e;simp only[none_or,iA]at e;by_cases hx:(x==y)=true
     .have:x=y:=by simpa using hx
      subst this;subst hk';exact iR
     .have hx':(x==y)=false:=by simpa using hx
      rw[hx']at e;cases e
   .rw[ic hk]at e;exact iK _ (IF r n x c e)
theorem IG:∀(names:List (Str×NameKind)) (n:Nat) (x:Str),(x,NameKind.cell)∈names->∃c,(Ca n names).lookup x=some c
 |[],_,_,h=>by cases h
 |(y,k)::r,n,x,h=>by
   unfold Ca;by_cases hk:(k==NameKind.cell)=true
   .rw[i9 hk,jc];rcases mem_cons.mp h with h|h
    .obtain⟨rfl,rfl⟩:=Prod.mk.inj h;cases q:(Ca (n+1) r).lookup x with
     |some d=>exact⟨d,rfl⟩
     |none=>exact⟨n,by simp[iA]⟩
    .obtain⟨c,hc⟩:=IG r (n+1) x h;exact⟨c,by rw[hc];rfl⟩
   .rw[ic hk];rcases mem_cons.mp h with h|h
    .cases h;simp at hk
    .exact IG r n x h
def Pf(scope:Scope)(C:Addr)(env:Env):Env:=
 { scope:=relabel scope env,locals:=C,globals:=env.globals,cells:=cellsFrom (C+1) scope.names (BG env.cells scope.names []),qual:=env.qual,func:=none,code:=env.code,frame:=env.frame,builtins:=env.builtins }
def Jh{M:Model}{A:Around}{E:Value->Shared->Prop}{s:Shared}{scope:Scope}{cl:List (Str×Addr)}{env:Env}{Q:Env->Shared->Prop}
 (hQ:∀h',(∀b o,s.heap.get? b=some o->h'.get? b=some o)->h'.Ns s.heap.objs.size (λ_=>none)->(∀x c,(Ca (s.heap.objs.size+1) scope.names).lookup x=some c->h'.IsCell c none/\s.heap.objs.size<c) ->
  ((Ca (s.heap.objs.size+1) scope.names).Pairwise λx y=>x.2≠y.2) ->
  Q { scope:=scope,locals:=s.heap.objs.size,globals:=env.globals,cells:=cellsFrom (s.heap.objs.size+1) scope.names cl,qual:=env.qual,func:=none,code:=env.code,frame:=env.frame,builtins:=env.builtins } { s with heap:=h' }):
 wpAny M A (newFunctionEnv scope env.globals cl [] env.qual none .none (some env)) Q E s:=by
 simp only[newFunctionEnv,Option.isSome_some,iE];refine i8 (wpAny_alloc ?_);refine i8 (wpAny_layCells _ (λname kind cells=>by cases hkc:kind==NameKind.cell<;>simp[hkc]) _ _ _ _ ?_);have ok:=cellsFrom_ok scope.names (s.heap.push { cls:=.type "dict",data:=.dict #[] }) (s.heap.objs.size+1) [] ⟨λ_ _ hm=>(nomatch hm),List.Pairwise.nil⟩ (by rw[Heap.size_push];exact ig _);rw[Heap.size_push,C1,iS]at ok;rw[show({ s with heap:=s.heap.push { cls:=.type "dict",data:=.dict #[] } }:Shared).heap.objs.size=s.heap.objs.size+1 from Heap.size_push ..];refine i8 (ie (ie ?_));exact hQ _ (λb o e=>pushCells_keeps _ _ b o (Heap.get?_push_of_some _ e)) ((Heap.Ns.new s.heap (.type "dict")).keeps (pushCells_keeps _ _)) (λx c hc=>⟨(ok.empty x c (mem_of_lookup hc)).1,(ok.empty x c (mem_of_lookup hc)).2⟩) ok.apart
theorem KM:∀{names:List (Str×NameKind)} {x:Str} {k k':NameKind},(names.map (·.1)).Nodup->(x,k)∈names->(x,k')∈names->k=k'
 |[],_,_,_,_,h,_=>by cases h
 |(y,q)::r,x,k,k',nd,h,h'=>by
   have nd:(y::r.map (·.1)).Nodup:=nd;obtain⟨n1,n2⟩:=nodup_cons.mp nd;have out:∀{z:NameKind},(y,z)∈r->False:=λm=>n1 (mem_map.mpr ⟨_,m,rfl⟩);rcases mem_cons.mp h with e|e<;>rcases mem_cons.mp h' with e'|e'
   .cases e;cases e';rfl
   .cases e;exact(out e').elim
   .cases e';exact(out e).elim
   .exact KM n2 e e'
theorem GM{env:Env}{x:Str}:∀{names:List (Str×NameKind)},names.lookup x=some .free ->
 (names.map λ(n,k)=>if(k==NameKind.free&&env.scope.kind==.function&&env.kindOf n==some .cell)then(n,NameKind.cell)else(n,k)).lookup x=some .cell ∨
 (names.map λ(n,k)=>if(k==NameKind.free&&env.scope.kind==.function&&env.kindOf n==some .cell)then(n,NameKind.cell)else(n,k)).lookup x=some .free
 |[],h=>by simp at h
 |(n,k)::r,h=>by
   have ih:=@GM env x r;show List.lookup x ((if(k==NameKind.free&&env.scope.kind==.function&&env.kindOf n==some .cell)=true then(n,NameKind.cell)else(n,k))::_)=_∨List.lookup x ((if(k==NameKind.free&&env.scope.kind==.function&&env.kindOf n==some .cell)=true then(n,NameKind.cell)else(n,k))::_)=_;cases hx:x==n with
   |true=>
    simp only[iA,hx]at h;cases h;by_cases hc:(NameKind.free==NameKind.free&&env.scope.kind==.function&&env.kindOf n==some .cell)=true
    .rw[i9 hc];exact .inl (by simp only[iA,hx])
    .rw[ic hc];exact .inr (by simp only[iA,hx])
   |false=>
    simp only[iA,hx]at h;by_cases hc:(k==NameKind.free&&env.scope.kind==.function&&env.kindOf n==some .cell)=true
    .rw[i9 hc];simp only[iA,hx];exact ih h
    .rw[ic hc];simp only[iA,hx];exact ih h
theorem GW{env:Env}{x:Str}:∀{names:List (Str×NameKind)},
 ((names.map λ(n,k)=>if(k==NameKind.free&&env.scope.kind==.function&&env.kindOf n==some .cell)then(n,NameKind.cell)else(n,k)).lookup x=some .cell ∨
 (names.map λ(n,k)=>if(k==NameKind.free&&env.scope.kind==.function&&env.kindOf n==some .cell)then(n,NameKind.cell)else(n,k)).lookup x=some .free) ->
 names.lookup x=some .cell∨names.lookup x=some .free
 |[],h=>by simp at h
 |(n,k)::r,h=>by
   have ih:=@GW env x r;have h:List.lookup x ((if(k==NameKind.free&&env.scope.kind==.function&&env.kindOf n==some .cell)=true then(n,NameKind.cell)else(n,k))::_)=_∨List.lookup x ((if(k==NameKind.free&&env.scope.kind==.function&&env.kindOf n==some .cell)=true then(n,NameKind.cell)else(n,k))::_)=_:=h;cases hx:x==n with
   |true=>
    by_cases hc:(k==NameKind.free&&env.scope.kind==.function&&env.kindOf n==some .cell)=true
    .have hk:k=.free:=by
      have:=(Bool.and_eq_true _ _ ▸ (Bool.and_eq_true _ _ ▸ hc).1:(k==NameKind.free)=true/\_).1;simpa using this
     exact .inr (by simp only[iA,hx,hk])
    .rw[ic hc]at h;simp only[iA,hx]at h ⊢;exact h
   |false=>
    simp only[iA,hx];refine ih ?_;by_cases hc:(k==NameKind.free&&env.scope.kind==.function&&env.kindOf n==some .cell)=true
    .rw[i9 hc]at h;simp only[iA,hx]at h;exact h
    .rw[ic hc]at h;simp only[iA,hx]at h;exact h
def cCx(X:Cx)(N':List Str)(scope:Scope)(s:Shared)(H:Hp)(ex:List Addr):Cx:=
 { X with N:=N',s₀:=s,H₀:=H,env:=Pf scope s.heap.objs.size X.env,outer:=X.stack,ex:=ex,fn:=λx=>decide ((x,NameKind.cell)∈scope.names),pn:=[],xe:=λ_ _=>False }
structure CSc(X:Cx)(scope:Scope)(fr:List Str)(ix:List Nat):Prop where
 kind:scope.kind=.function
 nd:(scope.names.map (·.1)).Nodup
 free:(scope.names.all λy=>y.2 != .free||X.env.kindOf y.1==some .cell||X.env.kindOf y.1==some .free)=true
 frs:(fr.all λx=>scope.names.lookup x==some .free)=true
 ixs:fr.map some=ix.map λi=>X.N[i]?
 loc:(scope.names.all λy=>y.2 != .local||scope.names.lookup y.1==some .local)=true
def FR(n:Nat)(ix:List Nat)(σ:St):St:=List.replicate n none++ix.map λi=>(σ[i]?).join
section
variable{X:Cx}{scope:Scope}{fr loc:List Str}{ix:List Nat}{pins:List (Addr×Obj)}{σ:St}{H:Hp}{s:Shared}
def CSc.outer(S:CSc X scope fr ix){y:Str×NameKind}(hy:y∈scope.names)(e:y.2=.free):X.env.kindOf y.1=some .cell∨X.env.kindOf y.1=some .free:=by
 have h:=all_eq_true.mp S.free y hy;rw[e]at h;simpa using h
def CSc.clos(S:CSc X scope fr ix)(ok:X.Ok):∀y∈scope.names,y.2=.free->∃c,X.env.cells.lookup y.1=some c:=λy hy e=>ok.has y.1 (S.outer hy e)
def D3(S:CSc X scope fr ix)(ok:X.Ok){n:Nat}{x:Str}{c:Addr}(e:(cellsFrom n scope.names (BG X.env.cells scope.names [])).lookup x=some c):
 (Ca n scope.names).lookup x=some c∨X.env.cells.lookup x=some c:=by
 rw[C1,jc]at e;cases q:(Ca n scope.names).lookup x with
 |some d=>rw[q]at e;exact .inl e
 |none=>
  rw[q]at e;exact .inr (EU (S.clos ok) (λ_ _ z=>by simp at z) x c e)
def IQ(S:CSc X scope fr ix)(I:Inv X pins σ H s){ex:List Addr}(hex:∀b∈ex,Bw X pins H b){h':Heap}(hk:∀b o,s.heap.get? b=some o->h'.get? b=some o)(hn:h'.Ns s.heap.objs.size λ_=>none)
 (ho:∀x c,(Ca (s.heap.objs.size+1) scope.names).lookup x=some c->h'.IsCell c none/\s.heap.objs.size<c) (ha:(Ca (s.heap.objs.size+1) scope.names).Pairwise λx y=>x.2≠y.2) (hlt:∀b∈ex,b<s.heap.objs.size):
 Inv (cCx X (loc++fr) scope s H ex) [] (FR loc.length ix σ) H { s with heap:=h' }:=by
 have old:∀x c,X.env.cells.lookup x=some c->c<s.heap.objs.size:=λx c e=>let ⟨v,z⟩:=I.cell x c e;z.lt
 have lenix:fr.length=ix.length:=by simpa using iP List.length S.ixs
 refine⟨⟨I.ok.mod,?_,I.ok.glob,I.ok.blt,ig _,?_,?_,?_,I.ok.hd,I.ok.frames,.inl rfl,?_,I.bs,iJ I.ok.bsz I.sz,?_,?_,I.stack,I.stkFree⟩,rfl,I.bare,Un.kept hk,⟨_,hn,?_⟩,?_,I.hok.fresh (ig _),?_,?_,I.hok.kept hk,?_⟩
 .exact S.kind
 .intro x y c e1 e2;rcases D3 S I.ok e1 with a|a<;>rcases D3 S I.ok e2 with b|b
  .exact name_of_addr ha (PySem.mem_of_lookup a) (PySem.mem_of_lookup b)
  .exact absurd (Nat.lt_trans (ho x c a).2 (old y c b)) (iN _)
  .exact absurd (Nat.lt_trans (ho y c b).2 (old x c a)) (iN _)
  .exact I.ok.inj x y c a b
 .intro x hx;rcases GW hx with e|e
  .exact isSome_iff_exists.mp (PySem.W.cellsFrom_some _ _ _ (.inl e))
  .exact isSome_iff_exists.mp (PySem.W.cellsFrom_some _ _ _ (.inr (EV (.inr (PySem.mem_of_lookup e)))))
 .intro x c hf e;have hf:(x,NameKind.cell)∈scope.names:=jO hf;obtain⟨d,hd⟩:=IG scope.names (s.heap.objs.size+1) x hf;have e':(cellsFrom (s.heap.objs.size+1) scope.names (BG X.env.cells scope.names [])).lookup x=some c:=e;rw[C1,jc,hd]at e';cases e';exact le_of_lt (ho x _ hd).2
 .intro b hb;refine⟨iq (hlt b hb),λx c e z=>?_⟩;rcases D3 S I.ok e with a|a
  .exact absurd (Nat.lt_trans (ho x c a).2 (by rw[z];exact hlt b hb)) (iN _)
  .exact(hex b hb).2.2.2.2.1 x c a z
 .intro b o e hb;rcases(hex b hb).2.2.2.1 with z|z
  .exact I.ok.noex b o e z
  .exact absurd (iC (Heap.lt_size (I.ok.bs b o e).1) z) (iN _)
 .intro b hb hf;rcases mem_cons.mp (I.stkSub b hf)with z|z
  .exact(hex b hb).2.1 z
  .exact(hex b hb).2.2.1 z
 .intro i x v e1 e2 e3;have e1:(loc++fr)[i]?=some x:=e1;unfold FR at e2;by_cases hi:i<loc.length
  .rw[List.getElem?_append_left (by simpa using hi),List.getElem?_replicate]at e2;split at e2<;>cases e2
  .have hi':loc.length<=i:=not_lt.mp hi;rw[List.getElem?_append_right (by simpa using hi')]at e2;rw[List.getElem?_append_right hi']at e1;rw[jD,List.getElem?_map]at e2;generalize hj:i-loc.length=j at e1 e2;have e4:(fr.map some)[j]?=some (some x):=by rw[List.getElem?_map,e1];rfl
   rw[S.ixs,List.getElem?_map]at e4;cases q:ix[j]? with
   |none=>rw[q]at e2;cases e2
   |some k=>
    rw[q]at e2 e4;have e2:(σ[k]?).join=some v:=Option.some.inj e2;have e4:X.N[k]?=some x:=Option.some.inj e4;have e5:σ[k]?=some (some v):=by
     cases w:σ[k]? with
     |none=>rw[w]at e2;cases e2
     |some z=>rw[w]at e2;simpa using e2
    have hfx:=all_eq_true.mp S.frs x (iH e1);have hfx:scope.names.lookup x=some .free:=by simpa using hfx
    have hmem:=PySem.mem_of_lookup hfx;have hout:=S.outer hmem rfl;obtain⟨m,hm,hl⟩:=I.loc;obtain⟨u,r,l⟩:=hl k x v e4 e5 (.inr hout);refine⟨u,r,.inr ⟨GM hfx,?_⟩⟩;rcases l with⟨kk,_⟩|⟨kk,c,ec,z⟩
    .rcases hout with w|w
     .rw[kk]at w;cases w
     .rw[kk]at w;cases w
    .have own0:(Ca (s.heap.objs.size+1) scope.names).lookup x=none:=by
      cases w:(Ca (s.heap.objs.size+1) scope.names).lookup x with
      |none=>rfl
      |some d=>exact absurd (KM S.nd (IF _ _ _ _ w) hmem) (by decide)
     have hc:(BG X.env.cells scope.names []).lookup x=some c:=by
      obtain⟨d,hd⟩:=isSome_iff_exists.mp (EV (cells:=X.env.cells) (acc:=[]) (.inr hmem));have:=EU (S.clos I.ok) (λ_ _ z=>by simp at z) x d hd;rw[ec]at this;cases this;exact hd
     refine⟨c,?_,z.keeps hk⟩;show(cellsFrom (s.heap.objs.size+1) scope.names (BG X.env.cells scope.names [])).lookup x=some c;rw[C1,jc,own0,hc];rfl
 .intro x c e;rcases D3 S I.ok e with a|a
  .exact⟨_,(ho x c a).1⟩
  .obtain⟨v,z⟩:=I.cell x c a;exact⟨v,z.keeps hk⟩
 .intro x c e;rcases D3 S I.ok e with a|a
  .exact I.hok.fresh (le_of_lt (ho x c a).2)
  .exact I.freeC x c a
 .intro p hp;cases hp
 .unfold FR;show _=(loc++fr).length;simp[lenix]
end
section
variable{prog:Program}{w:World}{A:Around}{R:Result->Shared->Prop}{s:Shared}
def Gp{elt target iter:Expr}{ifs:List Expr}{scope:Scope}{pos:Pos}{it acc:Value}{env:Env}(I:Nat->Shared->Prop)
 (turn:∀n s,I n s->wpAny (model prog w) A (pyNext it) (λr s₁=>match r with
  |none=>R (.ok .next) s₁
  | some v=>wpAny (model prog w) A (letOwnedTupleGo target it v) (λ_ s₁=>wpAny (model prog w) A (assign target env v) (λ_ s₂=>
   wpAny (model prog w) A (forIn ifs true λc r=>if r=true then do let ok <- isTrue c env (eval c env);pure (ForInStep.yield ok)else pure (ForInStep.yield r)) (λok s₃=>
    if ok=true then wpAny (model prog w) A (eval elt env) (λx s₄=>
     wpAny (model prog w) A (call (.builtin "list.append") [acc,x]) (λ_ s₅=>∃m,m<n/\I m s₅) (λ_ _=>False) s₄) (λ_ _=>False) s₃
    else ∃m,m<n/\I m s₃) (λ_ _=>False) s₂) (λ_ _=>False) s₁) (λ_ _=>False) s₁) (λ_ _=>False) s)
 (n:Nat) (h:I n s):
 codeAny (model prog w) A (.compLoop (.ListComp elt [⟨target,iter,ifs,0⟩] scope pos) 0 it acc env) R s:=by
 refine codeAny_loop rfl I (λn s hI=>?_) n h;show wpAny _ A ((compTurn (.ListComp elt [⟨target,iter,ifs,0⟩] scope pos) 0 it acc env).onRaise (λx=>do noteFrame x env;theTreesLotGoes x)) _ _ s;refine wpAny_noted ?_;rw[compTurn_list];refine i8 (j3 (i8 (iw (turn n s hI) (λr s₁ h₁=>?_) λ_ _ h'=>h'.elim)));cases r with
 |none=>exact ie h₁
 |some v=>
  refine i8 (iw h₁ (λ_ s₁ h₁=>?_) λ_ _ h'=>h'.elim);refine i8 (iw h₁ (λ_ s₂ h₂=>i8 (iw h₂ (λok s₃ h₃=>?_) λ_ _ h'=>h'.elim)) λ_ _ h'=>h'.elim);cases ok with
  |false=>exact ie ⟨rfl,h₃⟩
  |true=>
   exact i8 (i8 (iw h₃ (λx s₄ h₄=>i8 (iw h₄ (λ_ s₅ h₅=>ie (ie ⟨rfl,h₅⟩)) λ_ _ h'=>h'.elim)) λ_ _ h'=>h'.elim))
end
def PF(X:Cx)(ifs:List Expr)(t:TT):Prop:=
 ∀(pins:List (Addr×Obj)) (s:Shared) (σ:St) (H:Hp) (Q:Bool->Hp->Prop),Inv X pins σ H s->t σ H Q ->
   wpAny (model X.prog X.w) X.A (forIn ifs true λc r=>if r=true then do let ok <- isTrue c X.env (eval c X.env);pure (ForInStep.yield ok)else pure (ForInStep.yield r)) (TP X pins σ Q) X.xe s
def Ss:TT:=λ_ H Q=>Q true H
def aV{X:Cx}:PF X [] Ss:=λpins s σ H Q I h=>wpAny_tests_nil ⟨H,I,h⟩
def aU{X:Cx}{c:Expr}{t:TT}(h:PT X c t):PF X [c] t:=λpins s σ H Q I q=>wpAny_tests_one (h pins s σ H Q I q)
def Vf(J:It)(D:Addr)(σ0:St)(H0:Hp)(g:TG)(tf:TT)(te:TE)(Q:VK):Prop:=∃W:Nat->Nat->St->List V->Hp->Prop,
 (∃m,W 0 m σ0 [] (upd H0 D (.lst [])))/\∀i m σ ys H,W i m σ ys H->H D=some (.lst ys)/\
  ((J.stop i H/\Q (.ref D) H)∨(J.go i H/\ys.length<sizeLine/\∃N:St->List V->Hp->Prop,(∀σ' ys' H',N σ' ys' H'->∃m',m'<m/\W (i+1) m' σ' ys' H')/\
    ∀x H',J.yld i H x H'->g x σ H' λσ2 H2=>tf σ2 H2 λb H3=>
     if b=true then te σ2 H3 λv H4=>H4 D=some (.lst ys)/\N σ2 (ys++[v]) (upd H4 D (.lst (ys++[v])))
     else N σ2 ys H3))
def Fv(n:Nat)(ix:List Nat)(wi:TI)(g:TG)(tf:TT)(te:TE):TE:=λσ H Q=>wi σ H λJ H1=>∀D,H1 D=none->Vf J D (FR n ix σ) H1 g tf te Q
section
variable{X:Cx}
def N4{pins:List (Addr×Obj)}{σ:St}{H:Hp}{s:Shared}{D:Addr}{ys:List V}{x:V}{u:Value}{Q:Value->Shared->Prop}{E:Value->Shared->Prop}(I:Inv X pins σ H s)(hD:H D=some (.lst ys))(r:RelV x u)(hz:ys.length<sizeLine)
 (h:∀v s',Inv X pins σ (upd H D (.lst (ys++[x]))) s'->Q v s'):wpAny (model X.prog X.w) X.A (call (.builtin "list.append") [.ref D,u]) Q E s:=by
 have I':=I.wish λ_ _=>False;have q:=KN (X:=X.wish λ_ _=>False) pins s σ H (.ref D) [x] (.ref D) [u] (λv H'=>H'=upd H D (.lst (ys++[x]))) I' rfl (.cons r .nil) ⟨D,ys,x,rfl,rfl,hD,hz,rfl⟩;refine iw q (λv s' ⟨v',H',I2,_,e⟩=>?_) λ_ _ z=>False.elim z;subst e;exact h v s' I2.unwish
def Xg{elt tg iter:Expr}{ifs:List Expr}{scope:Scope}{pos:Pos}{loc fr:List Str}{ix:List Nat}{wi:TI}{g:TG}{tf:TT}{te:TE}(hc:X.calm=true)(S:CSc X scope fr ix)(hi:PI X tg iter wi)
 (hg:∀s H ex,PG (cCx X (loc++fr) scope s H ex) tg g) (hf:∀s H ex,PF (cCx X (loc++fr) scope s H ex) ifs tf) (he:∀s H ex,PE (cCx X (loc++fr) scope s H ex) elt te)
 (hs:∀x,foldedSetIterable iter X.env x=pure x:=by intro _;rfl):PE X (.ListComp elt [⟨tg,iter,ifs,0⟩] scope pos) (Fv loc.length ix wi g tf te):=by
 intro pins s σ H Q I h;rw[eval_ListComp];have hnames:∀y∈scope.names,y.2=.local->scope.names.lookup y.1=some .local:=λy hy e=>by
  have:=all_eq_true.mp S.loc y hy;rw[e]at this;simpa using this
 refine jP (use:=none) rfl hs (D6 (S.clos I.ok)) S.kind hnames (thn (hi pins s σ H _ I h) λv s1 h1=>thn h1 λitv s2 h2=>?_);obtain⟨it,fp,tn,J,H2,rfl,I2,T,st2,f2,hW⟩:=h2;refine iQ ?_;have fresh2:H2 s2.heap.objs.size=none:=I2.hok.fresh (ig _);have I3:=I2.lnew (its:=[]) (ys:=[]) (t':=s2.toks) .nil (iT _);obtain⟨W,⟨m0,w0⟩,turn⟩:=hW s2.heap.objs.size fresh2;have lt2:∀b∈fp,b<s2.heap.objs.size:=λb hb=>let ⟨o,e,_⟩:=T.obj 0 _ st2 b hb;Heap.lt_size e
 have f3:∀b∈fp,Bw X pins (upd H2 s2.heap.objs.size (.lst [])) b:=λb hb=>⟨by rw[AF (iq (lt2 b hb))];exact(f2 b hb).1,(f2 b hb).2⟩
 have lt3:∀b∈fp,b<(s2.heap.push { cls:=.type "list",data:=.seq ([]:List Value).toArray }).objs.size:=λb hb=>by rw[Heap.size_push];exact jm (lt2 b hb)
 generalize hs3:({ s2 with heap:=s2.heap.push { cls:=.type "list",data:=.seq ([]:List Value).toArray } }:Shared)=s3 at *;have lt3:∀b∈fp,b<s3.heap.objs.size:=by rw[<- hs3];exact lt3
 have st3:tn 0 s3.heap:=T.keep _ _ _ st2 λb hb o e=>by rw[<- hs3];exact Heap.get?_push_of_some _ e
 refine Jh λh' hk hn ho ha=>?_;have I4:=IQ (loc:=loc) S I3 f3 hk hn ho ha lt3;have fpX:∀{H':Hp},(∀b∈fp,H' b=none)->∀b∈fp,Bw (cCx X (loc++fr) scope s3 (upd H2 s2.heap.objs.size (.lst [])) fp) [] H' b:=λhn b hb=>
  ⟨hn b hb,(I4.ok.exf b hb).1,I4.ok.exfs b hb,.inl hb,(I4.ok.exf b hb).2,λp hp=>by cases hp⟩
 have loop:codeAny (model X.prog X.w) X.A (.compLoop (.ListComp elt [⟨tg,iter,ifs,0⟩] scope pos) 0 (.ref it) (.ref s2.heap.objs.size) (Pf scope s3.heap.objs.size X.env))
  (compPost (model X.prog X.w) X.A X.xe none (EP X pins σ Q) (.ref s2.heap.objs.size) s3.heap.objs.size) { s3 with heap:=h' }:=by
  refine Gp (λn s'=>∃i σ' ys H',Inv (cCx X (loc++fr) scope s3 (upd H2 s2.heap.objs.size (.lst [])) fp) [] σ' H' s'/\tn i s'.heap/\(∀b∈fp,H' b=none)/\W i n σ' ys H') ?_ m0
   ⟨0,_,[],_,I4,T.keep _ _ _ st3 λb hb o e=>hk b o e,λb hb=>(f3 b hb).1,w0⟩
  rintro n s5 ⟨i,σ5,ys,H5,I5,st5,fr5,w5⟩;obtain⟨hD,w5⟩:=turn i n σ5 ys H5 w5;rcases w5 with⟨stop,qn⟩|⟨go,hz,N,hN,step⟩
  .refine thn (T.done (cCx X (loc++fr) scope s3 (upd H2 s2.heap.objs.size (.lst [])) fp) rfl rfl rfl hc i [] s5 σ5 H5 _ I5 (fpX fr5) st5 stop) λr s6 ⟨hr,I6⟩=>?_;subst hr;obtain⟨m,hm,_⟩:=I6.loc;refine⟨m,hm,λh'' hs=>?_⟩;have neC:∀b o,s3.heap.get? b=some o->b≠s3.heap.objs.size:=λb o e=>iq (Heap.lt_size e);have un:=I6.base;refine⟨.ref s2.heap.objs.size,H5,I3.call' (s':={ s6 with heap:=h'' }) (ch:=fp) I6.os ⟨λb o e n hb hx=>?_,λb o e n hb hx=>?_,un.free,λb o e hx=>?_,un.tups,un.frzs,un.tbls⟩ ?_ I6.bare ?_,rfl,qn⟩
   .exact(hs.2 b (neC b o e)).trans (un.keep b o e n hb hx)
   .obtain⟨sl,q⟩:=un.slot b o e n hb hx;exact⟨sl,(hs.2 b (neC b o e)).trans q⟩
   .obtain⟨o',q⟩:=un.there b o e hx;exact⟨o',(hs.2 b (neC b o e)).trans q⟩
   .intro b ob e;have hfree:H5 s3.heap.objs.size=none:=I6.free;refine(I6.hok b ob e).stay (λc w' hc q=>(hs.2 c ?_).trans q) (λ_ q=>q) λ_ _ q=>q;intro z;rcases hc with hc|hc
    .rw[<- hc,z,hfree]at e;cases e
    .rw[z,hfree]at hc;cases hc
   .intro b hb;obtain⟨_,a2,_,a4,a5,a6⟩:=f3 b hb;exact⟨a4,a2,a5,a6⟩
  .refine thn (T.item (cCx X (loc++fr) scope s3 (upd H2 s2.heap.objs.size (.lst [])) fp) rfl rfl rfl hc i [] s5 σ5 H5 _ I5 (fpX fr5) st5 go) λr s6 ⟨u,hr,h6⟩=>?_;subst hr;refine thn h6 λ_ s7 ⟨x,H7,I7,r7,y7,st7,fr7⟩=>?_;have I7':=I7.pinned (fpX fr7) (T.obj _ _ st7);have keepI:∀{σ8:St} {H8:Hp} {s8:Shared},Inv (cCx X (loc++fr) scope s3 (upd H2 s2.heap.objs.size (.lst [])) fp) ([]++DM fp s7.heap) σ8 H8 s8->tn (i+1) s8.heap/\∀b∈fp,H8 b=none:=λ{σ8 H8 s8} I8=>by
    refine⟨T.keep _ _ _ st7 λb hb o e=>(I8.pin (b,o) (ir _ (ir _ (BH hb e)))).1,λb hb=>?_⟩;obtain⟨o,e,d⟩:=T.obj _ _ st7 b hb;exact(I8.pin (b,o) (ir _ (ir _ (BH hb e)))).2.1
   refine thn (hg s3 (upd H2 s2.heap.objs.size (.lst [])) fp _ s7 σ5 H7 x u _ I7' r7 (step x H7 y7)) λ_ s8 ⟨σ8,H8,I8,q8⟩=>?_;refine thn (hf s3 (upd H2 s2.heap.objs.size (.lst [])) fp _ s8 σ8 H8 _ I8 q8) λb s9 ⟨H9,I9,q9⟩=>?_;cases b with
   |false=>
    rw[ic Bool.false_ne_true]at q9 ⊢;obtain⟨m',hm,w9⟩:=hN _ _ _ q9;exact⟨m',hm,i+1,σ8,ys,H9,I9.unpinned,(keepI I9).1,(keepI I9).2,w9⟩
   |true=>
    rw[i9 rfl]at q9 ⊢;refine thn (he s3 (upd H2 s2.heap.objs.size (.lst [])) fp _ s9 σ8 H9 _ I9 q9) λe10 s10 ⟨v10,H10,I10,r10,hD10,n10⟩=>?_;obtain⟨m',hm,w10⟩:=hN _ _ _ n10;refine N4 (X:=cCx X (loc++fr) scope s3 (upd H2 s2.heap.objs.size (.lst [])) fp) I10 hD10 r10 hz λ_ s11 I11=>?_;exact⟨m',hm,i+1,σ8,_,_,I11.unpinned,(keepI I11).1,(keepI I11).2,w10⟩
 exact codeAny_compStart_list loop (T.self X.A 0 _ _ _ (T.keep _ _ _ st3 λb hb o e=>hk b o e) loop)
end
section
variable{X:Cx}
def Pc{elt tg iter:Expr}{ifs:List Expr}{scope:Scope}{pos:Pos}{loc fr:List Str}{ix:List Nat}{g:TG}{tf:TT}{te:TE}{pins:List (Addr×Obj)}{σ:St}{Q:VK}{it:Addr}{fp:List Addr}{tn:Nat->Heap->Prop}{J:It}{H2:Hp}{s2:Shared}{E:Value->Shared->Prop}
 {RR:Value->Addr->Result->Shared->Prop} (hc:X.calm=true) (S:CSc X scope fr ix)
 (hg:∀s H ex,PG (cCx X (loc++fr) scope s H ex) tg g) (hf:∀s H ex,PF (cCx X (loc++fr) scope s H ex) ifs tf) (he:∀s H ex,PE (cCx X (loc++fr) scope s H ex) elt te)
 (I2:Inv X pins σ H2 s2) (T:Turn X.prog X.w X.K tg J fp it tn) (st2:tn 0 s2.heap) (f2:∀b∈fp,Bw X pins H2 b) (hW:∀D,H2 D=none->Vf J D (FR loc.length ix σ) H2 g tf te Q)
 (hfin:∀(s3 s6:Shared) (H5:Hp) (σ5:St) (D:Addr),Inv X pins σ (upd H2 D (.lst [])) s3->Inv (cCx X (loc++fr) scope s3 (upd H2 D (.lst [])) fp) [] σ5 H5 s6->(∀b∈fp,Bw X pins (upd H2 D (.lst [])) b)->Q (.ref D) H5->RR (.ref D) s3.heap.objs.size (.ok .next) s6):
 wpAny (model X.prog X.w) X.A (newList []) (λacc s₃=>wpAny (model X.prog X.w) X.A (newFunctionEnv scope X.env.globals (BG X.env.cells scope.names []) [] X.env.qual none .none (some X.env)) (λcenv s₄=>
  codeAny (model X.prog X.w) X.A (.compStart (.ListComp elt [⟨tg,iter,ifs,0⟩] scope pos) 0 (.ref it) acc { cenv with scope:=relabel scope X.env }) (RR acc cenv.locals) s₄) E s₃) E s2:=by
 refine iQ ?_;have fresh2:H2 s2.heap.objs.size=none:=I2.hok.fresh (ig _);have I3:=I2.lnew (its:=[]) (ys:=[]) (t':=s2.toks) .nil (iT _);obtain⟨W,⟨m0,w0⟩,turn⟩:=hW s2.heap.objs.size fresh2;have lt2:∀b∈fp,b<s2.heap.objs.size:=λb hb=>let ⟨o,e,_⟩:=T.obj 0 _ st2 b hb;Heap.lt_size e
 have f3:∀b∈fp,Bw X pins (upd H2 s2.heap.objs.size (.lst [])) b:=λb hb=>⟨by rw[AF (iq (lt2 b hb))];exact(f2 b hb).1,(f2 b hb).2⟩
 have lt3:∀b∈fp,b<(s2.heap.push { cls:=.type "list",data:=.seq ([]:List Value).toArray }).objs.size:=λb hb=>by rw[Heap.size_push];exact jm (lt2 b hb)
 generalize hs3:({ s2 with heap:=s2.heap.push { cls:=.type "list",data:=.seq ([]:List Value).toArray } }:Shared)=s3 at *;have lt3:∀b∈fp,b<s3.heap.objs.size:=by rw[<- hs3];exact lt3
 have st3:tn 0 s3.heap:=T.keep _ _ _ st2 λb hb o e=>by rw[<- hs3];exact Heap.get?_push_of_some _ e
 refine Jh λh' hk hn ho ha=>?_;have I4:=IQ (loc:=loc) S I3 f3 hk hn ho ha lt3;have fpX:∀{H':Hp},(∀b∈fp,H' b=none)->∀b∈fp,Bw (cCx X (loc++fr) scope s3 (upd H2 s2.heap.objs.size (.lst [])) fp) [] H' b:=λhn b hb=>
  ⟨hn b hb,(I4.ok.exf b hb).1,I4.ok.exfs b hb,.inl hb,(I4.ok.exf b hb).2,λp hp=>by cases hp⟩
 have loop:codeAny (model X.prog X.w) X.A (.compLoop (.ListComp elt [⟨tg,iter,ifs,0⟩] scope pos) 0 (.ref it) (.ref s2.heap.objs.size) (Pf scope s3.heap.objs.size X.env))
  (RR (.ref s2.heap.objs.size) s3.heap.objs.size) { s3 with heap:=h' }:=by
  refine Gp (λn s'=>∃i σ' ys H',Inv (cCx X (loc++fr) scope s3 (upd H2 s2.heap.objs.size (.lst [])) fp) [] σ' H' s'/\tn i s'.heap/\(∀b∈fp,H' b=none)/\W i n σ' ys H') ?_ m0
   ⟨0,_,[],_,I4,T.keep _ _ _ st3 λb hb o e=>hk b o e,λb hb=>(f3 b hb).1,w0⟩
  rintro n s5 ⟨i,σ5,ys,H5,I5,st5,fr5,w5⟩;obtain⟨hD,w5⟩:=turn i n σ5 ys H5 w5;rcases w5 with⟨stop,qn⟩|⟨go,hz,N,hN,step⟩
  .refine thn (T.done (cCx X (loc++fr) scope s3 (upd H2 s2.heap.objs.size (.lst [])) fp) rfl rfl rfl hc i [] s5 σ5 H5 _ I5 (fpX fr5) st5 stop) λr s6 ⟨hr,I6⟩=>?_;subst hr;exact hfin s3 s6 H5 σ5 s2.heap.objs.size I3 I6 f3 qn
  .refine thn (T.item (cCx X (loc++fr) scope s3 (upd H2 s2.heap.objs.size (.lst [])) fp) rfl rfl rfl hc i [] s5 σ5 H5 _ I5 (fpX fr5) st5 go) λr s6 ⟨u,hr,h6⟩=>?_;subst hr;refine thn h6 λ_ s7 ⟨x,H7,I7,r7,y7,st7,fr7⟩=>?_;have I7':=I7.pinned (fpX fr7) (T.obj _ _ st7);have keepI:∀{σ8:St} {H8:Hp} {s8:Shared},Inv (cCx X (loc++fr) scope s3 (upd H2 s2.heap.objs.size (.lst [])) fp) ([]++DM fp s7.heap) σ8 H8 s8->tn (i+1) s8.heap/\∀b∈fp,H8 b=none:=λ{σ8 H8 s8} I8=>by
    refine⟨T.keep _ _ _ st7 λb hb o e=>(I8.pin (b,o) (ir _ (ir _ (BH hb e)))).1,λb hb=>?_⟩;obtain⟨o,e,d⟩:=T.obj _ _ st7 b hb;exact(I8.pin (b,o) (ir _ (ir _ (BH hb e)))).2.1
   refine thn (hg s3 (upd H2 s2.heap.objs.size (.lst [])) fp _ s7 σ5 H7 x u _ I7' r7 (step x H7 y7)) λ_ s8 ⟨σ8,H8,I8,q8⟩=>?_;refine thn (hf s3 (upd H2 s2.heap.objs.size (.lst [])) fp _ s8 σ8 H8 _ I8 q8) λb s9 ⟨H9,I9,q9⟩=>?_;cases b with
   |false=>
    rw[ic Bool.false_ne_true]at q9 ⊢;obtain⟨m',hm,w9⟩:=hN _ _ _ q9;exact⟨m',hm,i+1,σ8,ys,H9,I9.unpinned,(keepI I9).1,(keepI I9).2,w9⟩
   |true=>
    rw[i9 rfl]at q9 ⊢;refine thn (he s3 (upd H2 s2.heap.objs.size (.lst [])) fp _ s9 σ8 H9 _ I9 q9) λe10 s10 ⟨v10,H10,I10,r10,hD10,n10⟩=>?_;obtain⟨m',hm,w10⟩:=hN _ _ _ n10;refine N4 (X:=cCx X (loc++fr) scope s3 (upd H2 s2.heap.objs.size (.lst [])) fp) I10 hD10 r10 hz λ_ s11 I11=>?_;exact⟨m',hm,i+1,σ8,_,_,I11.unpinned,(keepI I11).1,(keepI I11).2,w10⟩
 exact codeAny_compStart_list loop (T.self X.A 0 _ _ _ (T.keep _ _ _ st3 λb hb o e=>hk b o e) loop)
def FS{scope:Scope}{N':List Str}{fp:List Addr}{pins:List (Addr×Obj)}{σ σ5:St}{H3 H5:Hp}{s3 s6:Shared}{h'':Heap}(I3:Inv X pins σ H3 s3)(I6:Inv (cCx X N' scope s3 H3 fp) [] σ5 H5 s6)(f3:∀b∈fp,Bw X pins H3 b)
 (hs:Heap.SameBut s3.heap.objs.size s6.heap h''):Inv X pins σ H5 { s6 with heap:=h'' }:=by
 have neC:∀b o,s3.heap.get? b=some o->b≠s3.heap.objs.size:=λb o e=>iq (Heap.lt_size e);have un:=I6.base;refine I3.call' (s':={ s6 with heap:=h'' }) (ch:=fp) I6.os ⟨λb o e n hb hx=>?_,λb o e n hb hx=>?_,un.free,λb o e hx=>?_,un.tups,un.frzs,un.tbls⟩ ?_ I6.bare ?_
 .exact(hs.2 b (neC b o e)).trans (un.keep b o e n hb hx)
 .obtain⟨sl,q⟩:=un.slot b o e n hb hx;exact⟨sl,(hs.2 b (neC b o e)).trans q⟩
 .obtain⟨o',q⟩:=un.there b o e hx;exact⟨o',(hs.2 b (neC b o e)).trans q⟩
 .intro b ob e;have hfree:H5 s3.heap.objs.size=none:=I6.free;refine(I6.hok b ob e).stay (λc w' hc q=>(hs.2 c ?_).trans q) (λ_ q=>q) λ_ _ q=>q;intro z;rcases hc with hc|hc
  .rw[<- hc,z,hfree]at e;cases e
  .rw[z,hfree]at hc;cases hc
 .intro b hb;obtain⟨_,a2,_,a4,a5,a6⟩:=f3 b hb;exact⟨a4,a2,a5,a6⟩
def XR{i:Nat}{y:Str}{elt tg iter:Expr}{ifs:List Expr}{scope:Scope}{pos spos py:Pos}{loc fr:List Str}{ix:List Nat}{wi:TI}{g:TG}{tf:TT}{te:TE}(hN:X.N.Nodup)(hiN:X.N[i]?=some y)(hy:X.env.scope.names.lookup y=some .local)
 (hc:X.calm=true) (S:CSc X scope fr ix) (hi:PI X tg iter wi)
 (hg:∀s H ex,PG (cCx X (loc++fr) scope s H ex) tg g) (hf:∀s H ex,PF (cCx X (loc++fr) scope s H ex) ifs tf) (he:∀s H ex,PE (cCx X (loc++fr) scope s H ex) elt te)
 (hsw:swapsWith (.ListComp elt [⟨tg,iter,ifs,0⟩] scope pos) (some (.Name y py)) spos.line X.env=pure true:=by rfl) (hs:∀x,foldedSetIterable iter X.env x=pure x:=by intro _;rfl):
 PS X (.Assign [.Name y py] (.ListComp elt [⟨tg,iter,ifs,0⟩] scope pos) spos) (DK (Fv loc.length ix wi g tf te) (Ct i)):=by
 intro pins s σ H D I h;have hnames:∀y∈scope.names,y.2=.local->scope.names.lookup y.1=some .local:=λy hy e=>by
  have:=all_eq_true.mp S.loc y hy;rw[e]at this;simpa using this
 rw[exec_Assign_Name_used _ _ _ _ hsw];refine i8 (j3 (i8 ?_));show wpAny _ _ (do let _ <- comprehension (.ListComp elt [⟨tg,iter,ifs,0⟩] scope pos) scope X.env _ (newList []) false (eval iter X.env) (some (assign (.Name y py) X.env))) _ _ s;refine i8 (iw (jP (use:=some (assign (.Name y py) X.env)) (Q:=λ_ s'=>SP X pins D .next s') rfl hs (D6 (S.clos I.ok)) S.kind hnames
  (thn (hi pins s σ H _ I h) λv s1 h1=>thn h1 λitv s2 h2=>?_)) (λ_ s' hq=>ie (ie hq)) λ_ _ e=>e)
 obtain⟨it,fp,tn,J,H2,rfl,I2,T,st2,f2,hW⟩:=h2;refine Pc (RR:=λacc C=>compPost (model X.prog X.w) X.A X.xe (some (assign (.Name y py) X.env)) (λ_ s'=>SP X pins D .next s') acc C) hc S hg hf he I2 T st2 f2 hW λs3 s6 H5 σ5 L I3 I6 f3 q=>?_;have J6:Inv X pins σ H5 s6:=FS (h'':=s6.heap) I3 I6 f3 (.refl ..);obtain⟨m,hm,_⟩:=I6.loc;have hm:s6.heap.Ns s3.heap.objs.size m:=hm;have hL:s3.heap.objs.size≠X.env.locals:=Ne.symm (iq I3.lt);show wpAny _ _ (assign (.Name y py) X.env (.ref L)) _ _ s6;refine wpAny_assign_Name (GP (v:=.ref L) J6 hN hiN (.inl hy) rfl (λs7 I7 ⟨a,sb,ha⟩=>?_) (.inr hy));have hca:s3.heap.objs.size≠a:=by
  rcases ha with rfl|ha
  .exact hL
  .obtain⟨v,z⟩:=I3.cell y a ha;exact Ne.symm (iq z.lt)
 refine⟨m,hm.sameBut sb hca,λh' hs'=>?_⟩;refine⟨_,H5,I7.turned (t':=s7.toks) (it:=s3.heap.objs.size) (λb o hb e=>(hs'.2 b hb).trans e) I6.free hL (.inr I3.sz) (λx c e z=>?_) (λp hp z=>?_),q⟩
 .obtain⟨v,w⟩:=I3.cell x c e;exact absurd w.lt (by rw[z];exact iN _)
 .exact absurd (Heap.lt_size (I3.pin p hp).1) (by rw[z];exact iN _)
end
mutual
def Rep(K:Frag)(H:Hp):PyData->V->Prop
 |.none,v=>v=.non
 |.bool b,v=>v=.bl b
 |.int i,v=>v=.int i
 |.str x,v=>v=.str x
 |.list ds,v=>∃a xs,v=.ref a/\SqL K H a xs/\Bv K H ds xs
 |.tuple ds,v=>∃a xs,v=.ref a/\SqT K H a xs/\Bv K H ds xs
 |.dict _,_=>False
def Bv(K:Frag)(H:Hp):List PyData->List V->Prop
 |[],xs=>xs=[]
 |d::ds,xs=>∃x r,xs=x::r/\Rep K H d x/\Bv K H ds r
end
section
variable{X:Cx}{pins:List (Addr×Obj)}{σ:St}{H:Hp}{s:Shared}
mutual
theorem E4(I:Inv X pins σ H s):∀(d:PyData) (v:V) (u:Value),Rep X.K H d v->RelV v u->∃as,Reads s.heap u d as
 |.none,v,u,h,r=>by
  have h:v=.non:=by simpa only[Rep]using h
  subst h;cases r;exact⟨_,.none⟩
 |.bool b,v,u,h,r=>by
  have h:v=.bl b:=by simpa only[Rep]using h
  subst h;cases r;exact⟨_,.bool b⟩
 |.int i,v,u,h,r=>by
  have h:v=.int i:=by simpa only[Rep]using h
  subst h;obtain⟨t,rfl⟩:=r;exact⟨_,.int i t⟩
 |.str x,v,u,h,r=>by
  have h:v=.str x:=by simpa only[Rep]using h
  subst h;obtain⟨t,rfl⟩:=r;exact⟨_,.str x t⟩
 |.list ds,v,u,h,r=>by
  have h:∃a xs,v=.ref a/\SqL X.K H a xs/\Bv X.K H ds xs:=by simpa only[Rep]using h
  obtain⟨a,xs,rfl,hq,ha⟩:=h;cases r;obtain⟨its,rv,⟨o,n,e,c,_,dd⟩,hz⟩:=I.list hq;obtain⟨as,q⟩:=Em I ds xs its ha rv;exact⟨_,.list e c dd (by simpa using q)⟩
 |.tuple ds,v,u,h,r=>by
  have h:∃a xs,v=.ref a/\SqT X.K H a xs/\Bv X.K H ds xs:=by simpa only[Rep]using h
  obtain⟨a,xs,rfl,hq,ha⟩:=h;cases r;obtain⟨its,rv,⟨o,e,c,n,dd⟩,hz⟩:=I.tuple hq;obtain⟨as,q⟩:=Em I ds xs its ha rv;exact⟨_,.tuple e c dd (by simpa using q)⟩
 |.dict _,v,u,h,r=>by
  have h:False:=by simpa only[Rep]using h
  exact h.elim
theorem Em(I:Inv X pins σ H s):∀(ds:List PyData) (xs:List V) (us:List Value),Bv X.K H ds xs->Vals xs us->∃as,ReadsAll s.heap us ds as
 |[],xs,us,h,r=>by
  have h:xs=[]:=by simpa only[Bv]using h
  subst h;cases r;exact⟨_,.nil⟩
 |d::ds,xs,us,h,r=>by
  have h:∃x r,xs=x::r/\Rep X.K H d x/\Bv X.K H ds r:=by simpa only[Bv]using h
  obtain⟨x,rr,rfl,h1,h2⟩:=h;cases r with
  |cons r1 r2=>
   obtain⟨as,q1⟩:=E4 I d _ _ h1 r1;obtain⟨bs,q2⟩:=Em I ds _ _ h2 r2;exact⟨_,.cons q1 q2⟩
end
end
def Stb:HO->Prop
 |.tup _=>True
 |.frz _ _=>True
 |.ext _=>True
 |.xd _=>True
 |_=>False
structure Grow(H H':Hp):Prop where
 keep:∀b o,Stb o->H b=some o->H' b=some o
theorem Grow.tup{H H':Hp}(g:Grow H H'):∀b xs,H b=some (.tup xs)->H' b=some (.tup xs):=λb _ h=>g.keep b _ trivial h
theorem Grow.frz{H H':Hp}(g:Grow H H'):∀b o u,H b=some (.frz o u)->H' b=some (.frz o u):=λb _ _ h=>g.keep b _ trivial h
def Grow.refl{H:Hp}:Grow H H:=⟨λ_ _ _ h=>h⟩
def Chg(H:Hp)(p:Addr):Prop:=∀o,Stb o->H p≠some o
def Grow.put{H H':Hp}{p:Addr}{o:HO}(a:Grow H H')(h:Chg H' p):Grow H (upd H' p o):=⟨λc u s e=>by
 have q:=a.keep c u s e;have n:c≠p:=λz=>h u s (by rw[<- z];exact q);rw[AF n];exact q⟩
theorem Chg.lst{H:Hp}{p:Addr}{xs:List V}(h:H p=some (.lst xs)):Chg H p:=λo s e=>by rw[h]at e;cases e;exact s
def Grow.sq{K:Frag}{H H':Hp}{a:Addr}{xs:List V}(g:Grow H H')(h:SqT K H a xs):SqT K H' a xs:=by
 rcases h with(h|⟨o,h⟩)|h
 .exact .inl (.inl (g.tup _ _ h))
 .exact .inl (.inr ⟨o,g.frz _ _ _ h⟩)
 .exact .inr h
section
variable{X:Cx}
def Ow(K:Frag):R2:=λx y H Q=>∃d e,Rep K H d x/\Rep K H e y/\d.canLay0=true/\e.canLay0=true/\min d.depth e.depth<=60/\Q (.bl (!PyData.eqv d e)) H
def Td(K:Frag):R2:=λx y H Q=>∃d e,Rep K H d x/\Rep K H e y/\d.canLay0=true/\e.canLay0=true/\min d.depth e.depth<=60/\Q (.bl (PyData.eqv d e)) H
def aq(hu:X.A.units+64<cLine):OpR X (compareOp .NotEq) (Ow X.K):=by
 intro pins s σ H x y v u Q I rx ry h;obtain⟨d,e,h1,h2,c1,c2,hm,q⟩:=h;obtain⟨as,q1⟩:=E4 I d x v h1 rx;obtain⟨bs,q2⟩:=E4 I e y u h2 ry;exact PySem.SeqAt.compareNe_reads q1 q2 c1 c2 (by omega) ⟨.bl _,H,I,rfl,q⟩
def aw(hu:X.A.units+64<cLine):OpR X (compareOp .Eq) (Td X.K):=by
 intro pins s σ H x y v u Q I rx ry h;obtain⟨d,e,h1,h2,c1,c2,hm,q⟩:=h;obtain⟨as,q1⟩:=E4 I d x v h1 rx;obtain⟨bs,q2⟩:=E4 I e y u h2 ry;exact PySem.SeqAt.compareEq_reads q1 q2 c1 c2 (by omega) ⟨.bl _,H,I,rfl,q⟩
theorem EZ:∀{ns:List Int} {us:List Value},Vals (ns.map V.int) us->IntsAre us ns
 |[],_,.nil=>.nil
 |n::ns,_,.cons r t=>by obtain⟨k,rfl⟩:=r;exact .cons _ _ (EZ t)
def SO(hc:X.calm=true):CallR X (.builtin "sum") (λxs H Q=>∃(a:Addr) (ns:List Int),xs=[.ref a]/\SqL X.K H a (ns.map V.int)/\Q (.int ns.sum) H):=by
 intro pins s σ H xs us Q I r h;obtain⟨a,ns,rfl,hq,q⟩:=h;obtain⟨u,rfl,ru⟩:=Cf r;cases ru;obtain⟨its,rv,p,hz⟩:=I.list hq;have hi:=EZ rv;obtain⟨xs,hx⟩:=hi.allInts.items;have hl':s.heap.IsList a (intItems xs):=hx ▸ p.isList;refine sum_intListG (I.ok.hd hc) hl' λh' tk t' hk=>?_;have e1:ns=xs.toList.map (·.1):=by
  rw[<- nums_intItems,<- hx];exact(show numsOf its.toArray.toList=ns from hi.numsOf).symm
 have e2:preSum (numAt xs) xs.size=ns.sum:=by
  rw[preSum_eq,jg (by simp),e1]
 rw[e2];exact⟨.int ns.sum,H,I.kept hk,⟨_,rfl⟩,q⟩
end
end L2
namespace L2
open PySem PySem.Spec PyProof.Rows
section
variable(K:Frag){X:Cx}
def MY(hK:X.K=K:=by rfl):IxR X (Jd K):=by subst hK;exact Y9
def O4(hK:X.K=K:=by rfl):IxR X (Tc K):=by subst hK;exact bU
def T8(hK:X.K=K:=by rfl):SlR X (Ou K):=by subst hK;exact W6
def av(hK:X.K=K:=by rfl):OpR X (compareOp .In) (rIn K false):=by subst hK;exact Rb
def KK(hK:X.K=K:=by rfl):OpR X (compareOp .NotIn) (rIn K true):=by subst hK;exact MK
def Nv(hu:X.A.units+64<cLine)(hK:X.K=K:=by rfl):OpR X (compareOp .Eq) (Td K):=by subst hK;exact aw hu
def HJ(hu:X.A.units+64<cLine)(hK:X.K=K:=by rfl):OpR X (compareOp .NotEq) (Ow K):=by subst hK;exact aq hu
def ML(hK:X.K=K:=by rfl):OpR X (binaryOp .Add) (Ox K):=by subst hK;exact Xl
def Zb:List V->Hp->VK->Prop:=λxs H Q=>∃p ys,xs=[.ref p]/\(SqL K H p ys∨SqT K H p ys)/\Q (.int ys.length) H
def SS(hK:X.K=K:=by rfl):CallR X (.builtin "len") (Zb K):=by subst hK;exact Mx
def Jc:List V->Hp->VK->Prop:=λxs H Q=>∃p ys,xs=[.ref p]/\(SqL K H p ys∨SqT K H p ys)/\∀l,H l=none->Q (.ref l) (upd H l (.lst ys))
def Pe(hK:X.K=K:=by rfl):CallR X (.type "list") (Jc K):=by subst hK;exact Mw
def M9:List V->Hp->VK->Prop:=λxs H Q=>∃p ys,xs=[.ref p]/\((SqL K H p ys/\∀l,H l=none->Q (.ref l) (upd H l (.tup ys)))∨(SqT K H p ys/\Q (.ref p) H))
def Ht(hK:X.K=K:=by rfl):CallR X (.type "tuple") (M9 K):=by subst hK;exact Kx
def VG:List V->Hp->VK->Prop:=λxs H Q=>∃(a:Addr) (ns:List Int),xs=[.ref a]/\SqL K H a (ns.map V.int)/\Q (.int ns.sum) H
def Kd(hc:X.calm=true)(hK:X.K=K:=by rfl):CallR X (.builtin "sum") (VG K):=by subst hK;exact SO hc
def MH{tg l:Expr}{tl:TE}(hl:PE X l tl)(hK:X.K=K:=by rfl):PI X tg l (JE K tl):=by subst hK;exact Xb hl
def Nr{tg l:Expr}{tl:TE}(hl:PE X l tl)(hK:X.K=K:=by rfl):PI X tg l (Ma K tl):=by subst hK;exact aR hl
def Xd{pos:Pos}{es:List Expr}{k:Nat}{t:TGs}{n:Nat}(hc:X.calm=true)(h:PGs X es t)(hK:X.K=K:=by rfl)
 (hn:(assignEach es X.env).length=n:=by rfl) (hst:(assignEach es X.env).findIdx? (·.1)=none:=by rfl):PG X (.Tuple es k pos) (PP K n t):=by
 subst hK;exact aS hc h hn hst
end
section
variable(K:Frag){X:Cx}
theorem Gs:∀{bs:List Bool} {us:List Value} {i:Nat} {v:Value},Vals (bs.map V.bl) us->us[i]?=some v->∃b,bs[i]?=some b/\v=.bool b
 |[],_,_,_,.nil,e=>by simp at e
 |b::bs,_,0,_,.cons r _,e=>by simp at e;subst e;exact⟨b,rfl,r⟩
 |b::bs,_,i+1,_,.cons _ t,e=>by
  obtain⟨c,h1,h2⟩:=Gs (i:=i) t (by simpa using e);exact⟨c,by simpa using h1,h2⟩
def Zd:List V->Hp->VK->Prop:=λxs H Q=>∃(a:Addr) (bs:List Bool),xs=[.ref a]/\SqL K H a (bs.map V.bl)/\Q (.bl (bs.all id)) H
def Zc:List V->Hp->VK->Prop:=λxs H Q=>∃(a:Addr) (bs:List Bool),xs=[.ref a]/\SqL K H a (bs.map V.bl)/\Q (.bl (bs.any id)) H
def Kg(hc:X.calm=true)(hK:X.K=K:=by rfl):CallR X (.builtin "all") (Zd K):=by
 subst hK;intro pins s σ H xs us Q I r h;obtain⟨a,bs,rfl,hq,q⟩:=h;obtain⟨u,rfl,ru⟩:=Cf r;cases ru;obtain⟨its,rv,p,hz⟩:=I.list hq;have hl:=p.isList;have hlen:=rv.length;have hlt:a<s.heap.objs.size:=by obtain⟨_,e,_⟩:=hl;exact Heap.lt_size e
 refine call_all_walk (wpAny_pyIter_list hl ?_);refine⟨s.heap.objs.size,[s.heap.objs.size,a],[s.heap.objs.size],its.toArray.size,_,_,λi=>(bs[i]?).getD true,rfl,Walks.list (A:=X.A.in1) (I.ok.hd hc) _ a (iq hlt) its.toArray,
  ⟨⟨_,Heap.get?_push_size _ rfl,rfl,rfl⟩,hl.push _⟩,λi v s' Q' E' hP hQ=>?_,λh' tk hk=>?_⟩
 .obtain⟨b,e,rfl⟩:=Gs rv (by simpa using hP);simp only[e,Option.getD_some]at hQ;exact jy hQ
 .have e:((List.range its.toArray.size).all λi=>(bs[i]?).getD true)=bs.all id:=by
   rw[ik,<- hlen,iu];exact LSm.range_all bs
  rw[e];exact⟨.bl _,H,I.kept (LSm.kept_iter hk),rfl,q⟩
def Kf(hc:X.calm=true)(hK:X.K=K:=by rfl):CallR X (.builtin "any") (Zc K):=by
 subst hK;intro pins s σ H xs us Q I r h;obtain⟨a,bs,rfl,hq,q⟩:=h;obtain⟨u,rfl,ru⟩:=Cf r;cases ru;obtain⟨its,rv,p,hz⟩:=I.list hq;have hl:=p.isList;have hlen:=rv.length;have hlt:a<s.heap.objs.size:=by obtain⟨_,e,_⟩:=hl;exact Heap.lt_size e
 refine call_any_walk (wpAny_pyIter_list hl ?_);refine⟨s.heap.objs.size,[s.heap.objs.size,a],[s.heap.objs.size],its.toArray.size,_,_,λi=>(bs[i]?).getD false,rfl,Walks.list (A:=X.A.in1) (I.ok.hd hc) _ a (iq hlt) its.toArray,
  ⟨⟨_,Heap.get?_push_size _ rfl,rfl,rfl⟩,hl.push _⟩,λi v s' Q' E' hP hQ=>?_,λh' tk hk=>?_⟩
 .obtain⟨b,e,rfl⟩:=Gs rv (by simpa using hP);simp only[e,Option.getD_some]at hQ;exact jy hQ
 .have e:((List.range its.toArray.size).any λi=>(bs[i]?).getD false)=bs.any id:=by
   rw[ik,<- hlen,iu];exact LSm.range_any bs
  rw[e];exact⟨.bl _,H,I.kept (LSm.kept_iter hk),rfl,q⟩
def Ja:List V->Hp->VK->Prop:=λxs H Q=>∃(a:Addr) (ns:List Int),xs=[.ref a]/\SqL K H a (ns.map V.int)/\ns.length<64/\∀(p:Addr) (ns':List Int),H p=none->ns'.Perm ns->ns'.Pairwise (·<=·)->Q (.ref p) (upd H p (.lst (ns'.map V.int)))
theorem NN:∀{ns:List Int} {us:List Value},IntsAre us ns->Vals (ns.map V.int) us
 |[],_,.nil=>.nil
 |_::_,_,.cons _ _ t=>.cons ⟨_,rfl⟩ (NN t)
def Mv(hK:X.K=K:=by rfl):CallR X (.builtin "sorted") (Ja K):=by
 subst hK;intro pins s σ H xs us Q I r h;obtain⟨a,ns,rfl,hq,h64,q⟩:=h;obtain⟨u,rfl,ru⟩:=Cf r;cases ru;obtain⟨its,rv,p,hz⟩:=I.list hq;have hlen:=rv.length;rw[iu]at hlen;refine sorted_ints p.isList (EZ rv) (by omega) λout ns' a1 a2 a3=>?_;obtain⟨e,he⟩:=sortedAll_at s.heap its out;have hl':ns'.length=ns.length:=a2.length_eq;refine⟨.ref (s.heap.objs.size+1),_,I.laid (a:=s.heap.objs.size+1) (o:=.lst (ns'.map V.int)) (t':=s.toks) (λb o hb=>sortedAll_old hb) (j7 _) ⟨?_,out.toList,e,NN a1,he⟩,rfl,q _ _ (I.hok.fresh (j7 _)) a2 a3⟩;rw[iu,hl'];exact le_of_lt (KC (by omega))
def d6:List V->Hp->VK->Prop:=λxs H Q=>∃(a:Addr) (ns:List Int),xs=[.ref a]/\SqL K H a (ns.map V.int)/\0<ns.length/\∀M:Int,M∈ns->(∀x∈ns,x<=M)->Q (.int M) H
def eC(hc:X.calm=true)(hK:X.K=K:=by rfl):CallR X (.builtin "max") (d6 K):=by
 subst hK;intro pins s σ H xs us Q I r h;obtain⟨a,ns,rfl,hq,hne,q⟩:=h;obtain⟨u,rfl,ru⟩:=Cf r;cases ru;obtain⟨its,rv,p,hz⟩:=I.list hq;have hi:=EZ rv;obtain⟨ys,e⟩:=hi.allInts.items;have hns:ns=ys.toList.map (·.1):=by
  rw[<- hi.numsOf,<- nums_intItems,<- e]
 have hsz:0<ys.size:=by
  have h3:=hne;rw[hns,iu,Array.length_toList]at h3;exact h3
 have hl:=p.isList;rw[e]at hl;refine max_intList (I.ok.hd hc) hl hsz λv h' tk hv hk=>?_;obtain⟨t,rfl⟩:=intItems_at hv;obtain⟨h1,h2⟩:=argBest_gt (numAt ys) (ys.size-1);refine⟨.int _,H,I.kept hk,⟨t,rfl⟩,q _ ?_ λx hx=>?_⟩
 .rw[hns,numAt_eq];exact getD_mem (by rw[iu,Array.length_toList];omega)
 .rw[hns]at hx;obtain⟨j,hj,rfl⟩:=mem_getD hx;rw[iu,Array.length_toList]at hj;rw[<- numAt_eq];exact h2 j (by omega)
def VH:List V->Hp->VK->Prop:=λxs H Q=>∃(a:Addr) (ns:List Int),xs=[.ref a]/\SqL K H a (ns.map V.int)/\0<ns.length/\∀M:Int,M∈ns->(∀x∈ns,M<=x)->Q (.int M) H
def Ke(hc:X.calm=true)(hK:X.K=K:=by rfl):CallR X (.builtin "min") (VH K):=by
 subst hK;intro pins s σ H xs us Q I r h;obtain⟨a,ns,rfl,hq,hne,q⟩:=h;obtain⟨u,rfl,ru⟩:=Cf r;cases ru;obtain⟨its,rv,p,hz⟩:=I.list hq;have hi:=EZ rv;obtain⟨ys,e⟩:=hi.allInts.items;have hns:ns=ys.toList.map (·.1):=by
  rw[<- hi.numsOf,<- nums_intItems,<- e]
 have hsz:0<ys.size:=by
  have h3:=hne;rw[hns,iu,Array.length_toList]at h3;exact h3
 have hl:=p.isList;rw[e]at hl;refine min_intList (I.ok.hd hc) hl hsz λv h' tk hv hk=>?_;obtain⟨t,rfl⟩:=intItems_at hv;obtain⟨h1,h2⟩:=argBest_lt (numAt ys) (ys.size-1);refine⟨.int _,H,I.kept hk,⟨t,rfl⟩,q _ ?_ λx hx=>?_⟩
 .rw[hns,numAt_eq];exact getD_mem (by rw[iu,Array.length_toList];omega)
 .rw[hns]at hx;obtain⟨j,hj,rfl⟩:=mem_getD hx;rw[iu,Array.length_toList]at hj;rw[<- numAt_eq];exact h2 j (by omega)
end
section
variable{prog:Program}{w:World}{A:Around}{E:Value->Shared->Prop}{s:Shared}{l:Addr}{xs:Array (Int×Tok)}
def Kw{Q:Value->Shared->Prop}(hl:s.heap.IsTuple l (intItems xs))
 (h:∀s₂:Shared,s₂={ s with heap:=s.heap.push { cls:=.type "tuple_iterator",data:=.fields #[.ref l,.int 0 0] } } ->
  (s₂.heap.IsTupleIter s.heap.objs.size l 0/\s₂.heap.IsTuple l (intItems xs))->(∀b∈[s.heap.objs.size,l],b<s₂.heap.objs.size)->l≠s.heap.objs.size->Q (.ref s.heap.objs.size) s₂):
 wpAny (model prog w) A (pyIter (.ref l)) Q E s:=by
 have hlt:l<s.heap.objs.size:=by obtain⟨_,e,_⟩:=hl;exact Heap.lt_size e
 refine wpAny_pyIter_tuple hl (h _ rfl ⟨⟨_,Heap.get?_push_size _ rfl,rfl,rfl⟩,hl.push _⟩ (λb hb=>?_) (iq hlt));show b<(s.heap.push _).objs.size;rw[Heap.size_push];rcases mem_cons.mp hb with rfl|hb
 .exact Nat.lt_succ_self _
 .rcases mem_cons.mp hb with rfl|hb
  .exact jm hlt
  .cases hb
def Rf{h':Heap}{o:Obj}(hk:∀b x,b∉[s.heap.objs.size]->(s.heap.push o).get? b=some x->h'.get? b=some x):∀b x,s.heap.get? b=some x->h'.get? b=some x:=
 λb x e=>hk b x (λhm=>by rw[mem_singleton.mp hm]at e;exact iN _ (Heap.lt_size e)) (Heap.get?_push_of_some _ e)
def Lb{Q:Value->Shared->Prop}(hh:A.handled=none)(hl:s.heap.IsTuple l (intItems xs))
 (h:∀h' tk t',(∀b o,s.heap.get? b=some o->h'.get? b=some o)->Q (.int (preSum (numAt xs) xs.size) t') { s with heap:=h',toks:=tk }):
 wpAny (model prog w) A (call (.builtin "sum") [.ref l]) Q E s:=by
 refine call_sum_walkG (Kw hl λs₂ e st hfp hlI=>?_);subst e;refine⟨_,_,_,_,_,_,numAt xs,rfl,Walks.tuple (A:=A.in1) hh _ l hlI (intItems xs),st,hfp,(λ_ _=>intItems_at),λh' tk t' hk=>?_⟩;have:=h h' tk t' (Rf hk);simpa [intItems]using this
end
section
variable(K:Frag){X:Cx}
def VF:List V->Hp->VK->Prop:=λxs H Q=>∃(a:Addr) (ns:List Int),xs=[.ref a]/\SqT K H a (ns.map V.int)/\Q (.int ns.sum) H
def JK(hc:X.calm=true)(hK:X.K=K:=by rfl):CallR X (.builtin "sum") (VF K):=by
 subst hK;intro pins s σ H xs us Q I r h;obtain⟨a,ns,rfl,hq,q⟩:=h;obtain⟨u,rfl,ru⟩:=Cf r;cases ru;obtain⟨its,rv,p,hz⟩:=I.tuple hq;have hi:=EZ rv;obtain⟨xs,hx⟩:=hi.allInts.items;have hl':s.heap.IsTuple a (intItems xs):=hx ▸ (show s.heap.IsTuple a its.toArray from p);refine Lb (I.ok.hd hc) hl' λh' tk t' hk=>?_;have e1:ns=xs.toList.map (·.1):=by
  rw[<- nums_intItems,<- hx];exact(show numsOf its.toArray.toList=ns from hi.numsOf).symm
 have e2:preSum (numAt xs) xs.size=ns.sum:=by
  rw[preSum_eq,jg (by simp),e1]
 rw[e2];exact⟨.int ns.sum,H,I.kept hk,⟨_,rfl⟩,q⟩
end
structure DefAt(K:Frag)(mg:Str->Option Value)(x:Str)(st:Stmt)(f:Addr)(fd:FuncData)(ps:List Str):Prop where
 fn:Fun K x x st f fd
 mg:mg x=some (.ref f)
 bd:Binds K fd ps []
def VN{X:Cx}{j k:Nat}{f:Addr}{fd:FuncData}{ps:List Str}{sp:Sp}{x:Str}{st:Stmt}{e:Expr}{es:List Expr}{t:TA}{p pos:Pos}(F:FnOk X.prog X.w X.K X.mg X.base CX0 j f fd ps sp)(hr:Room k X.A)(D:DefAt X.K X.mg x st f fd ps)(ha:PA X (e::es) t)
 (hjk:j<=k:=by decide) (hg:Gl X x:=by rfl) (hdb:(x==("__debug__":Str))=false:=by decide) (he:starEach (e::es) X.env=(false,eval e X.env)::starEach es X.env:=by rfl) (hpl:(backTo pos (starEach es X.env)).any (·.1)=false:=by rfl):
 PE X (.Call (.Name x p) (e::es) [] pos) (Dt sp [] E0 t):=
 Xh (F.mono hjk) hr hg D.mg D.fn.kp D.bd .nil dN ha hdb he hpl
def Ob(i j k:Nat)(ta:TA):TS:=λD σ H=>ta σ H λvs H1=>∃v w z,vs=[v,w,z]/\D.nx (((σ.set k (some z)).set j (some w)).set i (some v)) H1
def XU{X:Cx}{i j k:Nat}{x y z:Str}{a b c:Expr}{ta:TA}{px py pz pt pos:Pos}{kt k2 pt2}(hc:X.calm=true)(hN:X.N.Nodup)(hi:X.N[i]?=some x)(hj:X.N[j]?=some y)(hk:X.N[k]?=some z)
 (hx:X.env.scope.names.lookup x=some .local) (hy:X.env.scope.names.lookup y=some .local) (hz:X.env.scope.names.lookup z=some .local) (ha:PA X [a,b,c] ta)
 (hw:swappedStores [.Tuple [.Name x px,.Name y py,.Name z pz] kt pt] (.Tuple [a,b,c] k2 pt2) X.env=pure (some [x,y,z]))
 (hs:swapsWithSole [.Tuple [.Name x px,.Name y py,.Name z pz] kt pt] (.Tuple [a,b,c] k2 pt2) pos.line X.env=pure false:=by rfl):
 PS X (.Assign [.Tuple [.Name x px,.Name y py,.Name z pz] kt pt] (.Tuple [a,b,c] k2 pt2) pos) (Ob i j k ta):=by
 intro pins s σ H D I h;rw[exec_Assign_arm];refine i8 (j3 ?_);rw[hs];refine i8 (ie ?_);rw[ic (by decide)];refine i8 (Tuple_ (thn (ha _ pins s σ H _ I h) λus s1 ⟨vs,H1,I1,r1,q1⟩=>?_));obtain⟨v,w,q,e1,q1⟩:=q1;subst e1;obtain⟨u1,u2,u3,rfl,rv,rw',rq⟩:∃u1 u2 u3,us=[u1,u2,u3]/\RelV v u1/\RelV w u2/\RelV q u3:=by
  cases r1 with
  |cons p1 q1=>
   cases q1 with
   |cons p2 q2=>
    cases q2 with
    |cons p3 q3=>
     cases q3;exact⟨_,_,_,rfl,p1,p2,p3⟩
 refine iQ ?_ (by show 3<=sizeLine;decide);have I2:Inv X pins σ H1 { s1 with heap:=s1.heap.push { cls:=.type "tuple",data:=.seq [u1,u2,u3].toArray } }:=I1.kept (t':=s1.toks) λb o e=>Heap.get?_push_of_some _ e;rw[hw];refine i8 (ie ?_);show wpAny (model X.prog X.w) X.A (do rule "assign.swapped-stores";let items <- unpackItems (.ref s1.heap.objs.size) 3 none;assignInOrder [λv=>bindName X.env z v,λv=>bindName X.env y v,λv=>bindName X.env x v] items.reverse;pure Flow.next) _ _ _;refine i8 (jA (i8 (unpackItems_tuple (items:=#[u1,u2,u3]) (I.ok.hd hc) (IsTup.new s1.heap _) λh' hx'=>?_)));have I3:=I2.kept (h':=h') (t':=s1.toks) λb o e=>hx' b o (iq (Heap.lt_size e)) e;show wpAny _ _ (assignInOrder [λv=>bindName X.env z v,λv=>bindName X.env y v,λv=>bindName X.env x v] [u3,u2,u1] >>= λ_=>pure Flow.next) _ _ _;refine i8 (jH (jI (C5 I3 hN hk (.inl hz) rq (λs2 I4=>?_) (.inr hz))));refine jH (jI (C5 I4 hN hj (.inl hy) rw' (λs3 I5=>?_) (.inr hy)));refine jH (jI (C5 I5 hN hi (.inl hx) rv (λs4 I6=>assignInOrder_nil (ie ?_)) (.inr hx)));exact⟨_,H1,I6,q1⟩
def OL:bootBuiltins "list"=some (.type "list"):=by decide +kernel
def bt_tuple:bootBuiltins "tuple"=some (.type "tuple"):=by decide +kernel
def bt_len:bootBuiltins "len"=some (.builtin "len"):=by decide +kernel
def bt_sum:bootBuiltins "sum"=some (.builtin "sum"):=by decide +kernel
def bt_min:bootBuiltins "min"=some (.builtin "min"):=by decide +kernel
def bt_abs:bootBuiltins "abs"=some (.builtin "abs"):=by decide +kernel
def Ki:bootBuiltins "sorted"=some (.builtin "sorted"):=by decide +kernel
def bt_all:bootBuiltins "all"=some (.builtin "all"):=by decide +kernel
def bt_any:bootBuiltins "any"=some (.builtin "any"):=by decide +kernel
def Ky:bootBuiltins "isinstance"=some (.builtin "isinstance"):=by decide +kernel
mutual
theorem Hs:∀ns:List Int,PyData.canLayAll0 (ns.map PyData.int)=true
 |[]=>by simp[PyData.canLayAll0]
 |n::ns=>by simp[PyData.canLayAll0,PyData.canLay0,Hs ns]
end
end L2
namespace L2
open PySem PySem.Spec PyProof.Rows PySem.W
def cdF(c:Addr)(q:Str):Heap->Prop:=λh=>h.CodeRec (.ref c) q
def dz(H:Hp)(q:Str)(pos:Pos)(ps:Array Value):Prop:=ps=#[]∨∃c,ps=#[rawInt pos.line,rawInt pos.col,.ref c]/\H c=some (.ext (cdF c q))
end L2
namespace L2
open PySem PySem.Spec PyProof.Rows
section
variable{prog:Program}{w:World}{A:Around}{E:Value->Shared->Prop}{R:Result->Shared->Prop}{h:Heap}{g:Array GenState}{d:Drawn}{t:Nat}{os:OsState}
variable{nm q:Str}{C N:Addr}{bs bm:List Value}{hdct:Bool}{sn:List Str}{sub:List Value}{ab:Bool}{col:Option Bool}{dd:Option Addr}{k0 k1 k2 k3 k5:Option Value}
abbrev E8(C t:Addr):Obj:={ cls:=.ref C,data:=.fields #[.ref t,.none,.none,.none,.bool false,.none] }
def YL{rest:List Value}(hC:h.get? C=some (excClassObj nm q C N bs bm hdct sn sub ab col dd k0 k1 k2 k3 k5 "ValueError.__new__"))(b1:(Value.ref C::bm).contains (.type "ValueError")=true)
 (b2:(Value.ref C::bm).contains (.type "AttributeError")=false) (b3:(Value.ref C::bm).contains (.type "NameError")=false) (hrest:rest.length<=sizeLine)
 (hq:R (.ok (.ret (.ref (h.objs.size+1)))) ⟨(h.push { cls:=.type "tuple",data:=.seq rest.toArray }).push (E8 C h.objs.size),g,d,t,os⟩):
 codeAny (model prog w) A (.builtin "ValueError.__new__" ⟨.ref C::rest,[]⟩) R ⟨h,g,d,t,os⟩:=by
 have F0:=F.excBase_ValueError;have en:=F0.ends;refine codeAny_builtinAt F0.entry (PySem.wpAt_bind ?_);show PySem.wpAt _ _ _ (stack >>= _) _ _ _;refine PySem.wpAt_bind (PySem.wpAt_stack λp0 below0=>PySem.wpAt_of_wpAny ?_)
 wp_walk;refine PySem.wpAt_of_wpAny ?_;rw[F0.owner]
 repeat (first|with_reducible refine wpAny_madeHere_exc F0.canon hC ?_|with_reducible refine jJ hC ?_|(with_reducible refine wpAny_isSubtype_exc hC ?_;first|rw[b1]|rw[b2]|rw[b3])|wp_step)
 show R _ _;rw[Heap.size_push];exact hq
def SN{M:Model}{rest:List Value}{Q:Unit->Shared->Prop}(hC:h.get? C=some (excClassObj nm q C N bs bm hdct sn sub ab col dd k0 k1 k2 k3 k5 "ValueError.__new__"))(b1:bm.contains (.type "ValueError")=true)
 (hq:Q () ⟨h,g,d,t,os⟩):wpAny M A (checkBuiltinCall "ValueError.__new__" ⟨.ref C::rest,[]⟩) Q E ⟨h,g,d,t,os⟩:=
 wpAny_check_new_subU F.excBase_ValueError b1 .base hC hq
def UH{rest:List Value}:Heap.MadeExcOf h ((h.push { cls:=.type "tuple",data:=.seq rest.toArray }).push (E8 C h.objs.size)) (h.objs.size+1) (.ref C) rest:=by
 refine⟨λb o e=>Heap.get?_push_of_some _ (Heap.get?_push_of_some _ e),Heap.get?_none_of_le (j7 _),h.objs.size,?_,Heap.get?_none_of_le (ig _),Heap.get?_push_of_some _ (Heap.get?_push_at rfl rfl)⟩;exact Heap.get?_push_at (by rw[Heap.size_push]) rfl
def My{K:Frag}{fI:Addr}{rest:List Value}{Q:Value->Shared->Prop}(X:K.In h)(hC:h.get? C=some (excClassObj nm q C N bs bm hdct sn sub ab col dd k0 k1 k2 k3 k5 "ValueError.__new__"))(b1:bm.contains (.type "ValueError")=true)
 (b2:bm.contains (.type "AttributeError")=false) (b3:bm.contains (.type "NameError")=false) (hi:findIn K (.ref C) "__init__"=some (some (.ref fI))) (hf:PySem.W.typeIn K (.ref fI)=some (.type "function")) (hrest:rest.length<=sizeLine)
 (hq:wpAny (model prog w) (A.under (.builtin "type.__call__" ⟨.ref C::rest,[]⟩)) (call (.ref fI) (.ref (h.objs.size+1)::rest)) (λr s'=>r=.none/\Q (.ref (h.objs.size+1)) s') E ⟨(h.push { cls:=.type "tuple",data:=.seq rest.toArray }).push (E8 C h.objs.size),g,d,t,os⟩):
 wpAny (model prog w) A (call (.ref C) rest) Q E ⟨h,g,d,t,os⟩:=by
 have f1:=tc_lookup;have f2:=tc_bind (.ref C);have hT:(⟨h,g,d,t,os⟩:Shared).TypeIs (.ref C) "type":=⟨_,hC,rfl⟩
 have c1:(Value.ref C::bm).contains (.type "ValueError")=true:=by rw[jE,b1,Bool.or_true]
 have c2:(Value.ref C::bm).contains (.type "AttributeError")=false:=by rw[jE,b2];rfl
 have c3:(Value.ref C::bm).contains (.type "NameError")=false:=by rw[jE,b3];rfl
 have m0:Heap.MadeExcOf h ((h.push { cls:=.type "tuple",data:=.seq rest.toArray }).push (E8 C h.objs.size)) (h.objs.size+1) (.ref C) rest:=UH;have X1:=X.keeps m0.keeps;have hC1:=m0.keeps _ _ hC;have e1:((h.push { cls:=.type "tuple",data:=.seq rest.toArray }).push (E8 C h.objs.size)).get? (h.objs.size+1)=some { cls:=.ref C,data:=.fields #[.ref h.objs.size,.none,.none,.none,.bool false,.none] }:=Heap.get?_push_at (by rw[Heap.size_push]) rfl;have cc:(Value.ref C::bm).contains (.ref C)=true:=by simp
 refine jB (codeAny_of_tree ?_);show wpAny _ _ (callAny (.ref C) _) _ _ _
 repeat (any_goals (first|assumption|with_reducible refine jJ hC ?_|wp_step))
 refine⟨rfl,codeAny_call_builtin_at (Code.quiet_builtin _ (by decide +kernel)) entry_typeCall (wpAny_check_type_call_sub hC ?_)⟩
 repeat (first|with_reducible refine jJ hC ?_|with_reducible refine wpAny_madeBy_exc hC ?_|wp_step)
 refine codeAny_call_builtin_code (Code.quiet_builtin _ F.excBase_ValueError.quiet) (SN hC b1 (YL hC c1 c2 c3 hrest ?_));show wpAny _ _ _ _ _ _;unfold isInstance
 repeat (first|with_reducible refine jJ e1 ?_|(refine wpAny_isSubtype_exc hC1 ?_;rw[cc])|wp_step)
 show wpAny _ _ (typeLookup (.ref C) _) _ _ _;refine PySem.W.Looks.at (PySem.W.looks_findIn X1 hi) (j0 (i8 (PySem.W.Looks.at (PySem.W.bind_fn X1 _ hf) (i8 (iw hq (λr s' hr=>?_) λ_ _ x=>x)))))
 obtain⟨rfl,z⟩:=hr
 wp_walk
 exact z
end
end L2
namespace L2
open PySem PySem.Spec PyProof.Rows
open Builtin Builtin.ObjectAttr
inductive OverV:List Value->Prop
 |base:OverV [.type "ValueError",.type "Exception",.type "BaseException",.type "object"]
 |own {c:Addr} {l:List Value}:OverV l->OverV (.ref c::l)
def OverV.sa(self:Value){l:List Value}(h:OverV l):refuseLoop self "__setattr__" l=pure ():=by
 induction h with
 |base=>exact PySem.F.store_ValueError.passes self
 |own _ ih=>rw[refuseLoop_ref];exact ih
def OverV.has{l:List Value}(h:OverV l){x:String}(e:[Value.type "ValueError",.type "Exception",.type "BaseException",.type "object"].contains (.type x)=true):l.contains (.type x)=true:=by
 induction h with
 |base=>exact e
 |own _ ih=>rw[jE,ih,Bool.or_true]
def OverV.not{l:List Value}(h:OverV l){x:String}(e:[Value.type "ValueError",.type "Exception",.type "BaseException",.type "object"].contains (.type x)=false):l.contains (.type x)=false:=by
 induction h with
 |base=>exact e
 |own _ ih=>rw[jE,ih];rfl
structure XC(K:Frag)(C fI:Addr):Prop where
 at_:∃nm q N bs bm sn sub ab col dd k0 k1 k2 k3 k5,K.lookup C=some (excClassObj nm q C N bs bm true sn sub ab col dd k0 k1 k2 k3 k5 "ValueError.__new__")/\OverV bm
 init:findIn K (.ref C) "__init__"=some (some (.ref fI))
 fn:PySem.W.isFn K (.ref fI)=true
 kp:keepIn K (.ref C)=true
 sa:findIn K (.ref C) "__setattr__"=some (some (.builtin "object.__setattr__"))
 ga:findIn K (.ref C) "__getattribute__"=some (some (.builtin "BaseException.__getattribute__"))
 gx:findIn K (.ref C) "__getattr__"=some none
section
variable{prog:Program}{w:World}{A:Around}{E:Value->Shared->Prop}{s:Shared}{K:Frag}{C fI x:Addr}{name:Str}{v:Value}
def XC.cls(c:XC K C fI):∃cd,PySem.W.clsIn K C=some cd/\OverV cd.mro/\cd.hasDict=true:=by
 obtain⟨nm,q,N,bs,bm,sn,sub,ab,col,dd,k0,k1,k2,k3,k5,e,o⟩:=c.at_;exact⟨_,by unfold PySem.W.clsIn;rw[e],.own o,rfl⟩
def W7{sl:Array (Option Value)}{vs:Array Value}{Q:Unit->Shared->Prop}(X:K.In s.heap)(c:XC K C fI)(hx:s.heap.get? x=some ⟨.ref C,none,.fields vs,sl⟩)(na:findIn K (.ref C) name=some none)
 (h:∀h',h'.get? x=some ⟨.ref C,some s.heap.objs.size,.fields vs,sl⟩->h'.Ns1 s.heap.objs.size (λy=>if y=name then some v else none)->(∀b o,b≠x->s.heap.get? b=some o->h'.get? b=some o)->Q () { s with heap:=h',toks:=s.toks+2 }):
 wpAny (model prog w) A (setAttr (.ref x) name v) Q E s:=by
 have SF:=PySem.F.store_object;have I:PySem.W.InstAt s.heap x ⟨.ref C,none,.fields vs,sl⟩ C none:=⟨hx,rfl,rfl,True.intro⟩
 obtain⟨cd,hc,ov,hd⟩:=c.cls;have ne:cd.mro.isEmpty=false:=by cases q:cd.mro with|nil=>rw[q]at ov;cases ov|cons _ _=>rfl
 have sub:Looks (model prog w) s.heap (isInstance (.ref x) (.type "object")) true:=
  I.type.andThen (PySem.W.looks_mroIn X (by unfold mroIn;rw[hc,bind_some,ic (by rw[ne];decide),ov.has (by decide +kernel)]))
 have hm:Looks (model prog w) s.heap (mroOf (.ref C)) cd.mro:=(PySem.W.looks_clsIn X hc).andThen .now;refine PySem.W.set_plain X I c.sa (codeAny_call_builtin SF.slot.plain SF.entry (@PySem.W.check_slot (model prog w) _ _ _ "object.__setattr__" "object" "__setattr__" (.ref x) [.str name s.toks,v] [] _ SF.kind SF.split sub (SF.args (.ref x) (.str name s.toks) v) ?_));rw[PySem.W.osa_eq,refuse_eq];refine i8 (i8 (I.type.here (s:={ s with toks:=s.toks+1 }) (i8 (hm.here (s:={ s with toks:=s.toks+1 }) ?_))));rw[ov.sa];refine ie (i8 (I.type.here (s:={ s with toks:=s.toks+1 }) (i8 ((PySem.W.looks_findIn X na).here (s:={ s with toks:=s.toks+1 }) (i8 (ie ?_))))));have hxs:x≠s.heap.objs.size:=iq (Heap.lt_size hx);have hx1:(s.heap.push { cls:=.type "dict",data:=.dict #[] }).get? x=some ⟨.ref C,none,.fields vs,sl⟩:=Heap.get?_push_of_some _ hx;refine i8 (ie (i8 (i8 (wpAny_loadPart hx (i8 (PySem.W.Looks.here (s:={ s with toks:=s.toks+1 }) (PySem.W.looks_clsIn X hc) ?_))))));rw[hd];show wpAny _ _ (do let d <- alloc { cls:=.type "dict",data:=.dict #[] };update x λo=>{ cls:=o.cls,dict:=some d,data:=o.data,slots:=o.slots };dictMade (.ref C) x d) _ _ _;refine i8 (wpAny_alloc' (i8 (wpAny_update' hx1 ?_)));generalize hh:((s.heap.push { cls:=.type "dict",data:=.dict #[] }).update x λo=>{ cls:=o.cls,dict:=some s.heap.objs.size,data:=o.data,slots:=o.slots })=h2;have g1:h2.get? s.heap.objs.size=some { cls:=.type "dict",data:=.dict #[] }:=by rw[<- hh];exact(Heap.get?_update_ne _ _ _ _ hxs.symm).trans (Heap.get?_push_at rfl rfl)
 have g2:h2.get? x=some ⟨.ref C,some s.heap.objs.size,.fields vs,sl⟩:=by rw[<- hh];exact Heap.get?_update_self _ hx1 rfl
 have g3:∀b o,b≠x->s.heap.get? b=some o->h2.get? b=some o:=λb o n e=>by rw[<- hh];exact(Heap.get?_update_ne _ _ _ _ n).trans (Heap.get?_push_of_some _ e)
 have hnd:h2.Ns s.heap.objs.size (λ_=>none):=⟨_,#[],_,g1,rfl,λe he=>absurd he (by simp),λ_=>rfl⟩
 refine ie ?_;show wpAny _ _ (storeInDict s.heap.objs.size (.str name s.toks) name v) _ _ _;unfold storeInDict newKeyGuard;refine i8 (ie (i8 (wpAny_nsSet1 (Heap.Ns1.of_empty hnd) λh' hn' hs=>?_)));obtain⟨oD,esD,epD,hoD,hdD,hcD⟩:=hn'.count (Within.cons name v Within.nil);refine i8 (wpAny_lookBehind hoD (by rw[hdD];exact pastItsLine_dict (iJ hcD (by rw[iM,jh,je];omega))) ?_);exact ie (h h' ((hs.2 x hxs).trans g2) hn' λb o n e=>(hs.2 b (iq (Heap.lt_size e))).trans (g3 b o n e))
end
section
variable{prog:Program}{w:World}{A:Around}{E:Value->Shared->Prop}{s:Shared}{K:Frag}{C fI x dx:Addr}{name:Str}{v:Value}{mA:Str->Option Value}
def fK{sl:Array (Option Value)}{vs:Array Value}{expr:Bool}{Q:Value->Shared->Prop}(X:K.In s.heap)(c:XC K C fI)(hx:s.heap.get? x=some ⟨.ref C,some dx,.fields vs,sl⟩)(hn:s.heap.Ns1 dx mA)(na:findIn K (.ref C) name=some none)(hv:mA name=some v)
 (hh:PySem.W.handedIn v=true) (h:Q v { s with toks:=s.toks+1 }):wpAny (model prog w) A (getAttr (.ref x) name expr) Q E s:=by
 obtain⟨od,ho,hl⟩:=Gh hn;obtain⟨hp,g,d,t,os⟩:=s;have I:PySem.W.InstAt hp x ⟨.ref C,some dx,.fields vs,sl⟩ C (some od):=⟨hx,rfl,rfl,ho⟩
 obtain⟨cd,hc,ov,hd⟩:=c.cls;have hhd:PySem.W.hasDictIn K C=true:=by unfold PySem.W.hasDictIn;rw[hc];exact hd
 have L0:Looks (model prog w) hp (typeOf (.ref x)) (.ref C):=I.type;have L1:Looks (model prog w) hp (find (.ref x) (.ref C) name) (.value v):=PySem.W.looks_find X I (PySem.W.findObj_own hhd na rfl (by rw[hl,hv]));have L2:Looks (model prog w) hp (typeLookup (.ref C) "__getattribute__") (some (.builtin "BaseException.__getattribute__")):=PySem.W.looks_findIn X c.ga;have L3:Looks (model prog w) hp (hookBefore (.ref C)) none:=PySem.W.looks_hook X c.gx;have ne:cd.mro.isEmpty=false:=by cases q:cd.mro with|nil=>rw[q]at ov;cases ov|cons _ _=>rfl
 have sub:Looks (model prog w) hp (isInstance (.ref x) (.type "BaseException")) true:=
  I.type.andThen (PySem.W.looks_mroIn X (by unfold mroIn;rw[hc,bind_some,ic (by rw[ne];decide),ov.has (by decide +kernel)]))
 have hx2:(Value.builtin "BaseException.__getattribute__"==Value.builtin "object.__getattribute__")=false:=by decide +kernel
 have hx1:(onTheHeap (Value.ref C)&&Value.builtin "BaseException.__getattribute__"==Value.builtin "object.__getattribute__")=false:=by rw[hx2];rfl
 unfold getAttr getAttrBy;refine i8 (wpAny_mkText (j0 (i8 (L0.at (i8 (L2.at ?_))))));dsimp only;rw[ic (by rw[hx1];exact Bool.false_ne_true)];unfold getAttrByItsOwn;refine i8 (L3.at (i8 (wpAny_attempt (j0 ?_))));have hx0:(expr&&onTheHeap (Value.builtin "BaseException.__getattribute__"))=false:=by cases expr<;>rfl
 have FB:=F.attrBase_ValueError;have hk:builtinKind "BaseException.__getattribute__"=some .slot:=by decide +kernel
 have hs:splitId "BaseException.__getattribute__"=some ("BaseException","__getattribute__"):=by decide +kernel
 unfold callGetattribute boundAndCalled;rw[ic (by rw[hx0];exact Bool.false_ne_true),FB.ga.bind];refine i8 (ie (jB (codeAny_call_builtin FB.ga.plain F.entry_bexc_ga (@PySem.W.check_slot (model prog w) _ _ _ "BaseException.__getattribute__" "BaseException" "__getattribute__" (.ref x) [.str name t] [] _ hk hs sub (F.args_bexc_ga _ _) ?_))));refine i8 (ie (i8 (ie (i8 (L0.at (i8 (L1.at ?_)))))));refine ie ?_;show wpAny _ _ (handedOut v) _ _ _;rw[PySem.W.handedOut_of hh];exact ie h
def KH{M:Model}{env:Env}{xe:Expr}{pos:Pos}{Q:Flow->Shared->Prop}(hh:A.handled=none)(c:XC K C fI)
 (h:wpAny M A (eval xe env) (λv s1=>∃e t dx sl,v=.ref e/\K.In s1.heap/\s1.heap.get? e=some ⟨.ref C,dx,.fields #[.ref t,.none,.none,.none,.bool false,.none],sl⟩/\E (.ref e) s1) E s):
 wpAny M A (exec (.Raise (some xe) none pos) env) Q E s:=by
 obtain⟨nm,q,N,bs,bm,sn,sub,ab,col,dd,k0,k1,k2,k3,k5,lk,ov⟩:=c.at_;have cb:(Value.ref C::bm).contains (.type "BaseException")=true:=(OverV.own ov).has (by decide +kernel);rw[arm_exec_Raise];refine i8 (j3 ?_);show wpAny _ _ (raiseStmt env (some (do let v <- eval xe env;standAt pos;pure v)) none) _ _ _;unfold raiseStmt;refine i8 (i8 (iw h (λv s1 h1=>?_) λ_ _ z=>z));obtain⟨e,t,dx,sl,rfl,X,he,hE⟩:=h1;have hC:=X _ _ lk;refine i8 (j3 (ie ?_));obtain⟨hp,g,d,tk,os⟩:=s1
 repeat (first|with_reducible refine jJ he ?_|with_reducible refine jJ hC ?_|(with_reducible refine wpAny_isSubtype_exc hC ?_;rw[cb])|wp_step)
 exact wpAny_raiseNew_none hh hE
end
end L2
namespace L2
open PySem PySem.Spec PyProof.Rows
def Exo(h:Heap)(a C:Addr)(dx:Option Addr)(tb:Value):Prop:=∃vs sl,h.get? a=some ⟨.ref C,dx,.fields vs,sl⟩/\vs[1]?=some tb
structure Note(fs:List Addr)(a:Addr)(tb:Value)(h h':Heap):Prop where
 keep:∀b o,h.get? b=some o->b≠a->.ref b≠tb->b∉fs->h'.get? b=some o
 slot:∀b o,h.get? b=some o->b∈fs->∃sl,h'.get? b=some { o with slots:=sl }
 there:∀b o,h.get? b=some o->∃o',h'.get? b=some o'
end L2
namespace L2
open PySem PySem.Spec PyProof.Rows
open Builtin Builtin.ObjectAttr
section
variable{prog:Program}{w:World}{A:Around}{E:Value->Shared->Prop}{s:Shared}{K:Frag}{C fI x:Addr}{dx:Option Addr}{mA:Str->Option Value}
structure XI(K:Frag)(C:Addr):Prop where
 ca:findIn K (.ref C) "__class__"=some (some (.builtin "object.__class__"))
 gd:PySem.W.specialIn K (.builtin "object.__class__") "__get__"=some (some (.builtin "getset_descriptor.__get__"))
 tk:PySem.W.takesIn K (.builtin "object.__class__")=some true
 mo:mroIn K C (.type "object")=some true
end
def X0(a C t:Addr)(h:Heap):Prop:=h.get? a=some (E8 C t)
def X1(a C dx t:Addr)(h:Heap):Prop:=h.get? a=some ⟨.ref C,some dx,.fields #[.ref t,.none,.none,.none,.bool false,.none],#[]⟩
def XO(a C:Addr)(dx:Option Addr)(h:Heap):Prop:=∃tb,Exo h a C dx tb
def XdAt(H:Hp):Option Addr->List (Str×V)->Prop
 |none,fs=>fs=[]
 |some d,fs=>H d=some (.xd fs)
def New(X:Cx)(pins:List (Addr×Obj))(b:Addr):Prop:=(b∈X.ex∨X.s₀.heap.objs.size<=b)/\b≠X.env.locals/\(∀x c,X.env.cells.lookup x=some c->c≠b)/\∀p∈X.pn++pins,p.1≠b
def Inv.new{X:Cx}{pins:List (Addr×Obj)}{σ:St}{H:Hp}{s:Shared}(I:Inv X pins σ H s){b:Addr}(h:s.heap.objs.size<=b):New X pins b:=by
 refine⟨.inr (iJ I.sz h),iZ (iC I.lt h),λx c e=>?_,λp hp=>?_⟩
 .obtain⟨v,o,ho,_⟩:=I.cell x c e;exact iq (iC (Heap.lt_size ho) h)
 .exact iq (iC (Heap.lt_size (I.pin p hp).1) h)
section
variable{C:Addr}{f:Str}{X:Cx}{pins:List (Addr×Obj)}{σ:St}{H:Hp}{s s':Shared}{Q:VK}{e:Value}
def MM{P:Program}{w:World}{fs:List Addr}{a T:Addr}{dx:Option Addr}{tb:Value}{h h':Heap}(hok:HOk P w H h)(N:Note fs a tb h h')(hx:Exo h' a C dx (.ref T))(ha:H a=some (.ext (XO a C dx)))(hT:∀T,tb=.ref T->H T=none)(hf:∀b∈fs,H b=none):HOk P w H h':=by
 have k:∀b o u,H b=some o->b≠a->h.get? b=some u->h'.get? b=some u:=λb o u q n e=>N.keep b u e n (λz=>by rw[hT b z.symm]at q;cases q) λz=>by rw[hf b z]at q;cases q
 intro b o q;by_cases n:b=a
 .subst n;rw[ha]at q;cases q;obtain⟨vs,sl,e1,e2⟩:=id hx;refine⟨⟨_,hx⟩,⟨_,e1⟩,λh1 h2 ⟨tb,vs,sl,e,z⟩ k=>⟨tb,vs,sl,k _ e,z⟩⟩
 .refine(hok b o q).stay (λc u hc e=>?_) (λ_ z=>z) λ_ _ z=>z;rcases hc with rfl|hc
  .exact k c o u q n e
  .exact k c _ u hc (λz=>by subst z;rw[ha]at hc;cases hc) e
end
end L2
namespace L2
open PySem PySem.Spec PyProof.Rows
def XdAt.grow{H H':Hp}{dx:Option Addr}{fs:List (Str×V)}(g:Grow H H')(h:XdAt H dx fs):XdAt H' dx fs:=by
 cases dx with
 |none=>exact h
 |some d=>exact g.keep _ _ trivial h
def ExR(K:Frag)(nm:Str)(fs:List Str)(H:Hp)(a:Addr)(xs:List V):Prop:=∃C dx,clsAt K nm=some C/\H a=some (.ext (XO a C dx))/\XdAt H dx (fs.zip xs)/\xs.length=fs.length
theorem ExR.grow{K:Frag}{nm:Str}{fs:List Str}{H H':Hp}{a:Addr}{xs:List V}(g:Grow H H')(h:ExR K nm fs H a xs):ExR K nm fs H' a xs:=
 let ⟨C,dx,h1,h2,h3,h4⟩:=h;⟨C,dx,h1,g.keep _ _ trivial h2,h3.grow g,h4⟩
inductive I where
 |non|bl (b:Bool)|int (i:Int)|str (x:Str)|tup (ds:List I)
inductive D where
 |im (i:I)|mu (n:Nat)|tm (ds:List D)|ro (ns:List Int)|op (nm:Str) (fs:List Str) (ds:List D)
inductive MO where
 |lst (ds:List D)|dic (kvs:List (Key×D))
abbrev Hd:=List MO
abbrev Ls:=List (Option D)
def RoL(K:Frag)(H:Hp)(a:Addr)(xs:List V):Prop:=(∃o,H a=some (.frz o (.lst xs))) ∨
 ∃(o:Obj) (its:Array Value) (n:Nat),K.lookup a=some o/\o.cls=.type "list"/\o.dict=none/\o.data=.seq its n/\its.size<=sizeLine/\Vals xs its.toList
def RoL.sq{K:Frag}{H:Hp}{a:Addr}{xs:List V}(h:RoL K H a xs):SqL K H a xs:=by
 rcases h with⟨o,h⟩|h
 .exact .inl (.inr ⟨o,h⟩)
 .exact .inr h
def RoL.grow{K:Frag}{H H':Hp}{a:Addr}{xs:List V}(g:Grow H H')(h:RoL K H a xs):RoL K H' a xs:=by
 rcases h with⟨o,h⟩|h
 .exact .inl ⟨o,g.frz _ _ _ h⟩
 .exact .inr h
def CC(n:Nat):Prop:=n<=sizeLine
def FK(n:Nat):Prop:=n<sizeLine
def Cg(i j:Int):Prop:=(-(2^64)<i/\i<2^64)∨(-(2^64)<j/\j<2^64)
def P0(i j:Int):Prop:=0<=j/\j<=1000000/\i.natAbs<2^64
def GE(j:Int):Prop:=0<j/\j<1073741824
def Bf(j:Int):Prop:=0<j
def GV(j:Int):Prop:=-(2^62)<=j/\j<2^62
def TM(i j:Int):Prop:=(-(2^62)<=i/\i<2^62)/\-(2^62)<=j/\j<2^62
def LA(j:Int):Prop:=j<2^24/\-(2^62)<=j
def V7(i j:Int):Prop:=(-(2^62)<=i/\i<2^62)/\(-(2^62)<=j/\j<2^62)/\(j-i).toNat<=2^24
def AY{n:Nat}(h:n<=1000000):CC n:=iJ h (by rw[je];decide)
def Bi{n:Nat}(h:n<1000000):FK n:=iC h (by rw[je];decide)
def BO{i j:Int}(a:-1000000000000<=i)(b:i<=1000000000000):Cg i j:=.inl ⟨by omega,by omega⟩
def Ny{i j:Int}(a:-1000000000000<=j)(b:j<=1000000000000):Cg i j:=.inr ⟨by omega,by omega⟩
def BC{j:Int}(a:-1000000000000<=j)(b:j<=1000000000000):GV j:=⟨by omega,by omega⟩
def TL{j:Int}(a:-1000000000000<=j)(b:j<=1000000):LA j:=⟨by omega,by omega⟩
section
variable(K:Frag)
mutual
def RI(H:Hp):I->V->Prop
 |.non,v=>v=.non
 |.bl b,v=>v=.bl b
 |.int i,v=>v=.int i
 |.str x,v=>v=.str x
 |.tup ds,v=>∃a xs,v=.ref a/\SqT K H a xs/\RIs H ds xs
def RIs(H:Hp):List I->List V->Prop
 |[],xs=>xs=[]
 |d::ds,xs=>∃x r,xs=x::r/\RI H d x/\RIs H ds r
end
mutual
def RD(ρ:List Addr)(H:Hp):D->V->Prop
 |.im i,v=>RI K H i v
 |.mu n,v=>∃a,ρ[n]?=some a/\v=.ref a
 |.tm ds,v=>∃a xs,v=.ref a/\SqT K H a xs/\RDs ρ H ds xs
 |.ro ns,v=>∃a,v=.ref a/\RoL K H a (ns.map V.int)
 |.op nm fs ds,v=>∃a xs,v=.ref a/\ExR K nm fs H a xs/\RDs ρ H ds xs
def RDs(ρ:List Addr)(H:Hp):List D->List V->Prop
 |[],xs=>xs=[]
 |d::ds,xs=>∃x r,xs=x::r/\RD ρ H d x/\RDs ρ H ds r
end
def RKs(ρ:List Addr)(H:Hp):List (Key×D)->List (Key×V)->Prop
 |[],xs=>xs=[]
 |d::ds,xs=>∃x r,xs=x::r/\x.1=d.1/\RD K ρ H d.2 x.2/\RKs ρ H ds r
def RC(ρ:List Addr)(H:Hp):MO->HO->Prop
 |.lst ds,o=>∃xs,o=.lst xs/\RDs K ρ H ds xs
 |.dic kvs,o=>∃kv,o=.dK kv/\RKs K ρ H kvs kv
def L8:List Value->List (Addr×Str×Pos)
 |.ref P::.str q _::.int l _::.int c _::r=>(P,q,⟨l.toNat,c.toNat,0,0⟩)::L8 r
 |_=>[]
def cm(o:Obj):List (Addr×Str×Pos):=match o.cls,o.data with
 |.str _ _,.fields vs=>L8 vs.toList
 |_,_=>[]
def Ii(K:Frag):List (Addr×Str×Pos):=match K.getLast? with
 |some p=>cm p.2
 |none=>[]
def TabsOk(K:Frag)(H:Hp):Prop:=∀x∈Ii K,∃ps,H x.1=some (.tbl ps)/\dz H x.2.1 x.2.2 ps
structure RH(ρ:List Addr)(H:Hp)(hd:Hd):Prop where
 len:ρ.length=hd.length
 nd:ρ.Nodup
 tabs:TabsOk K H
 ob:∀(n:Nat) (o:MO) (a:Addr),hd[n]?=some o->ρ[n]?=some a->∃ho,H a=some ho/\RC K ρ H o ho
structure RL(ρ:List Addr)(H:Hp)(ls:Ls)(σ:St):Prop where
 len:ls.length=σ.length
 ob:∀(i:Nat) (d:D),ls[i]?=some (some d)->∃v,σ[i]?=some (some v)/\RD K ρ H d v
end
structure Ext(ρ:List Addr)(H:Hp)(ρ':List Addr)(H':Hp):Prop where
 pre:∃r,ρ'=ρ++r/\∀b∈r,H b=none
 keep:∀b o,H b=some o->b∉ρ->(∀ps,o≠.tbl ps)->H' b=some o
 tab:∀b ps,H b=some (.tbl ps)->∃ps',H' b=some (.tbl ps')
def nt{o:HO}(h:match o with|.tbl _=>False|_=>True:=by trivial):∀ps,o≠.tbl ps:=λps e=>by subst e;exact h
theorem TabsOk.upd{K:Frag}{H:Hp}(t:TabsOk K H){a:Addr}{ho:HO}(h1:∀ps,H a≠some (.tbl ps))(h2:∀φ,H a≠some (.ext φ)):TabsOk K (upd H a ho):=λx hx=>by
 obtain⟨ps,e,g⟩:=t x hx;have ne:x.1≠a:=λz=>h1 ps (by rw[<- z];exact e);refine⟨ps,by rw[AF ne];exact e,?_⟩;rcases g with g|⟨c,g1,g2⟩
 .exact .inl g
 .have nc:c≠a:=λz=>h2 _ (by rw[<- z];exact g2);exact .inr ⟨c,g1,by rw[AF nc];exact g2⟩
section
variable{K:Frag}{ρ ρ' ρ1 ρ2:List Addr}{H H' H1 H2:Hp}{hd hd' hd1:Hd}
mutual
theorem RI.grow(g:Grow H H'):∀{i:I} {v:V},RI K H i v->RI K H' i v
 |.non,v,h=>by simpa only[RI]using h
 |.bl b,v,h=>by simpa only[RI]using h
 |.int b,v,h=>by simpa only[RI]using h
 |.str b,v,h=>by simpa only[RI]using h
 |.tup ds,v,h=>by
  simp only[RI]at h ⊢;obtain⟨a,xs,e,q,r⟩:=h;exact⟨a,xs,e,g.sq q,RIs.grow g r⟩
theorem RIs.grow(g:Grow H H'):∀{i:List I} {v:List V},RIs K H i v->RIs K H' i v
 |[],v,h=>by simpa only[RIs]using h
 |d::ds,v,h=>by
  simp only[RIs]at h ⊢;obtain⟨x,r,e,q,z⟩:=h;exact⟨x,r,e,q.grow g,RIs.grow g z⟩
end
def RH.mut(h:RH K ρ H hd){a:Addr}(m:a∈ρ):(∃xs,H a=some (.lst xs))∨∃kv,H a=some (.dK kv):=by
 obtain⟨n,e⟩:=List.mem_iff_getElem?.mp m;have hn:n<hd.length:=by rw[<- h.len];exact(List.getElem?_eq_some_iff.mp e).1
 obtain⟨ho,e1,e2⟩:=h.ob n hd[n] a (by simp[hn]) e;cases q:hd[n]with
 |lst ds=>rw[q]at e2;obtain⟨xs,rfl,_⟩:=e2;exact .inl ⟨xs,e1⟩
 |dic ds=>rw[q]at e2;obtain⟨xs,rfl,_⟩:=e2;exact .inr ⟨xs,e1⟩
def RH.stb_out(h:RH K ρ H hd){a:Addr}{o:HO}(s:Stb o)(e:H a=some o):a∉ρ:=λm=>by
 rcases h.mut m with⟨y,z⟩|⟨y,z⟩<;>(rw[e]at z;cases z;exact s)
def Ys{o:HO}(s:Stb o):∀ps,o≠.tbl ps:=λps e=>by subst e;exact s
def Ext.grow(e:Ext ρ H ρ' H')(h:RH K ρ H hd):Grow H H':=⟨λb o s q=>e.keep b _ q (h.stb_out s q) (Ys s)⟩
def Ext.refl:Ext ρ H ρ H:=⟨⟨[],by simp,by simp⟩,λ_ _ h _ _=>h,λ_ ps h=>⟨ps,h⟩⟩
def Ext.trans(e:Ext ρ H ρ1 H1)(h0:RH K ρ1 H1 hd1)(e2:Ext ρ1 H1 ρ2 H2):Ext ρ H ρ2 H2:=by
 obtain⟨r1,rfl,f1⟩:=e.pre;obtain⟨r2,rfl,f2⟩:=e2.pre;refine⟨⟨r1++r2,by simp,λb m=>?_⟩,λb o q n t=>?_,λb ps q=>?_⟩
 .rcases mem_append.mp m with m|m
  .exact f1 b m
  .have z:=f2 b m;cases q:H b with
   |none=>rfl
   |some o=>
    by_cases n:b∈ρ
    .rcases h0.mut (j5 r1 n)with⟨y,w⟩|⟨y,w⟩<;>(rw[z]at w;cases w)
    .by_cases t:∃ps,o=.tbl ps
     .obtain⟨ps,rfl⟩:=t;obtain⟨ps',this⟩:=e.tab b ps q;rw[z]at this;cases this
     .have:=e.keep b o q n λps y=>t ⟨ps,y⟩;rw[z]at this;cases this
 .refine e2.keep b o (e.keep b o q n t) (λm=>?_) t;rcases mem_append.mp m with m|m
  .exact n m
  .have:=f1 b m;rw[q]at this;cases this
 .obtain⟨ps',q'⟩:=e.tab b ps q;exact e2.tab b ps' q'
mutual
theorem RD.mono(g:Grow H H')(r:List Addr):∀{d:D} {v:V},RD K ρ H d v->RD K (ρ++r) H' d v
 |.im i,v,h=>by simp only[RD]at h ⊢;exact h.grow g
 |.mu n,v,h=>by
  simp only[RD]at h ⊢;obtain⟨a,e,q⟩:=h;exact⟨a,by rw[List.getElem?_append_left (List.getElem?_eq_some_iff.mp e).1];exact e,q⟩
 |.tm ds,v,h=>by
  simp only[RD]at h ⊢;obtain⟨a,xs,e,q,z⟩:=h;exact⟨a,xs,e,g.sq q,RDs.mono g r z⟩
 |.ro ns,v,h=>by
  simp only[RD]at h ⊢;obtain⟨a,e,q⟩:=h;exact⟨a,e,q.grow g⟩
 |.op nm fs ds,v,h=>by
  simp only[RD]at h ⊢;obtain⟨a,xs,e,q,z⟩:=h;exact⟨a,xs,e,q.grow g,RDs.mono g r z⟩
theorem RDs.mono(g:Grow H H')(r:List Addr):∀{d:List D} {v:List V},RDs K ρ H d v->RDs K (ρ++r) H' d v
 |[],v,h=>by simpa only[RDs]using h
 |d::ds,v,h=>by
  simp only[RDs]at h ⊢;obtain⟨x,r',e,q,z⟩:=h;exact⟨x,r',e,q.mono g r,RDs.mono g r z⟩
end
theorem RKs.mono(g:Grow H H')(r:List Addr):∀{d:List (Key×D)} {v:List (Key×V)},RKs K ρ H d v->RKs K (ρ++r) H' d v
 |[],v,h=>by simpa only[RKs]using h
 |d::ds,v,h=>by
  simp only[RKs]at h ⊢;obtain⟨x,r',e,q1,q,z⟩:=h;exact⟨x,r',e,q1,q.mono g r,RKs.mono g r z⟩
theorem RC.mono(g:Grow H H')(r:List Addr){o:MO}{ho:HO}(h:RC K ρ H o ho):RC K (ρ++r) H' o ho:=by
 cases o with
 |lst ds=>obtain⟨xs,e,q⟩:=h;exact⟨xs,e,q.mono g r⟩
 |dic ds=>obtain⟨xs,e,q⟩:=h;exact⟨xs,e,q.mono g r⟩
def RD.ext(h:RH K ρ H hd)(e:Ext ρ H ρ' H'){d:D}{v:V}(q:RD K ρ H d v):RD K ρ' H' d v:=by
 obtain⟨r,rfl,_⟩:=e.pre;exact q.mono (e.grow h) r
def RDs.ext(h:RH K ρ H hd)(e:Ext ρ H ρ' H'){d:List D}{v:List V}(q:RDs K ρ H d v):RDs K ρ' H' d v:=by
 obtain⟨r,rfl,_⟩:=e.pre;exact q.mono (e.grow h) r
theorem RL.ext(h:RH K ρ H hd)(e:Ext ρ H ρ' H'){ls:Ls}{σ:St}(q:RL K ρ H ls σ):RL K ρ' H' ls σ:=
 ⟨q.len,λi d z=>let ⟨v,a,b⟩:=q.ob i d z;⟨v,a,b.ext h e⟩⟩
theorem RDs.len:∀{ds:List D} {xs:List V},RDs K ρ H ds xs->xs.length=ds.length
 |[],xs,h=>by simp only[RDs]at h;rw[h];rfl
 |d::ds,xs,h=>by
  simp only[RDs]at h;obtain⟨x,r,rfl,_,z⟩:=h;simp[RDs.len z]
theorem RDs.get:∀{ds:List D} {xs:List V} {i:Nat} {d:D},RDs K ρ H ds xs->ds[i]?=some d->∃x,xs[i]?=some x/\RD K ρ H d x
 |[],xs,i,d,h,e=>by simp at e
 |d::ds,xs,0,e,h,q=>by
  simp only[RDs]at h;obtain⟨x,r,rfl,z,_⟩:=h;simp at q;subst q;exact⟨x,rfl,z⟩
 |d::ds,xs,i+1,e,h,q=>by
  simp only[RDs]at h;obtain⟨x,r,rfl,_,z⟩:=h;obtain⟨y,a,b⟩:=RDs.get (i:=i) z (by simpa using q);exact⟨y,by simpa using a,b⟩
def RDs.nil:RDs K ρ H [] []:=by simp[RDs]
def RDs.cons{d:D}{v:V}{ds:List D}{vs:List V}(h:RD K ρ H d v)(t:RDs K ρ H ds vs):RDs K ρ H (d::ds) (v::vs):=by
 simp only[RDs];exact⟨v,vs,rfl,h,t⟩
theorem RDs.app:∀{ds es:List D} {xs ys:List V},RDs K ρ H ds xs->RDs K ρ H es ys->RDs K ρ H (ds++es) (xs++ys)
 |[],es,xs,ys,h,t=>by simp only[RDs]at h;subst h;simpa using t
 |d::ds,es,xs,ys,h,t=>by
  simp only[RDs]at h;obtain⟨x,r,rfl,z,q⟩:=h;simp only[iY];exact .cons z (q.app t)
theorem RDs.set:∀{ds:List D} {xs:List V} {d:D} {v:V} (i:Nat),RDs K ρ H ds xs->RD K ρ H d v->RDs K ρ H (ds.set i d) (xs.set i v)
 |[],xs,d,v,i,h,t=>by simp only[RDs]at h;subst h;simp[RDs]
 |d::ds,xs,e,v,0,h,t=>by
  simp only[RDs]at h;obtain⟨x,r,rfl,z,q⟩:=h;simpa using RDs.cons t q
 |d::ds,xs,e,v,i+1,h,t=>by
  simp only[RDs]at h;obtain⟨x,r,rfl,z,q⟩:=h;simpa using RDs.cons z (q.set i t)
theorem RDs.drop:∀{ds:List D} {xs:List V} (n:Nat),RDs K ρ H ds xs->RDs K ρ H (ds.drop n) (xs.drop n)
 |ds,xs,0,h=>by simpa using h
 |[],xs,n+1,h=>by simp only[RDs]at h;subst h;simp[RDs]
 |d::ds,xs,n+1,h=>by
  simp only[RDs]at h;obtain⟨x,r,rfl,z,q⟩:=h;simpa using q.drop n
theorem RDs.take:∀{ds:List D} {xs:List V} (n:Nat),RDs K ρ H ds xs->RDs K ρ H (ds.take n) (xs.take n)
 |ds,xs,0,h=>by simp[RDs]
 |[],xs,n+1,h=>by simp only[RDs]at h;subst h;simp[RDs]
 |d::ds,xs,n+1,h=>by
  simp only[RDs]at h;obtain⟨x,r,rfl,z,q⟩:=h;simpa using RDs.cons z (q.take n)
theorem RIs.ds:∀{is:List I} {xs:List V},RIs K H is xs->RDs K ρ H (is.map D.im) xs
 |[],xs,h=>by simpa only[RIs,RDs,iU]using h
 |i::is,xs,h=>by
  simp only[RIs]at h;obtain⟨x,r,rfl,z,q⟩:=h;exact .cons (by simpa only[RD]using z) q.ds
theorem RDs.is:∀{is:List I} {xs:List V},RDs K ρ H (is.map D.im) xs->RIs K H is xs
 |[],xs,h=>by simpa only[RIs,RDs,iU]using h
 |i::is,xs,h=>by
  simp only[iD,RDs]at h;obtain⟨x,r,rfl,z,q⟩:=h;simp only[RIs];exact⟨x,r,rfl,by simpa only[RD]using z,q.is⟩
def RH.new(h:RH K ρ H hd){a:Addr}(ha:H a=none){o:MO}{ho:HO}(c:RC K ρ H o ho):RH K (ρ++[a]) (upd H a ho) (hd++[o])/\Ext ρ H (ρ++[a]) (upd H a ho):=by
 have out:a∉ρ:=λm=>by rcases h.mut m with⟨y,z⟩|⟨y,z⟩<;>(rw[ha]at z;cases z)
 have ex:Ext ρ H (ρ++[a]) (upd H a ho):=⟨⟨[a],rfl,λb m=>by simp at m;subst m;exact ha⟩,λb o q n _=>by rw[AF (Ac q ha)];exact q,λb ps q=>⟨ps,by rw[AF (Ac q ha)];exact q⟩⟩
 refine⟨⟨by simp[h.len],?_,h.tabs.upd (by simp[ha]) (by simp[ha]),λn o' b e1 e2=>?_⟩,ex⟩
 .rw[nodup_append];refine⟨h.nd,by simp,λx hx y hy z=>?_⟩;simp at hy;subst hy;subst z;exact out hx
 .have gr:=ex.grow h;by_cases hn:n<ρ.length
  .rw[List.getElem?_append_left hn]at e2;rw[List.getElem?_append_left (by rw[<- h.len];exact hn)]at e1;obtain⟨ho',q1,q2⟩:=h.ob n o' b e1 e2;exact⟨ho',by rw[AF (Ac q1 ha)];exact q1,q2.mono gr [a]⟩
  .have hn':n=ρ.length:=by
    have:=(List.getElem?_eq_some_iff.mp e2).1;simp at this;omega
   subst hn';simp at e2;rw[h.len]at e1;simp at e1;subst e1;subst e2;exact⟨ho,AJ,c.mono gr [a]⟩
def RH.put(h:RH K ρ H hd){n:Nat}{a:Addr}(hn:ρ[n]?=some a){o:MO}{ho:HO}(c:RC K ρ H o ho):RH K ρ (upd H a ho) (hd.set n o)/\Ext ρ H ρ (upd H a ho):=by
 have ha:=h.mut (iH hn);have n1:∀ps,H a≠some (.tbl ps):=λps e=>by rcases ha with⟨y,z⟩|⟨y,z⟩<;>(rw[e]at z;cases z)
 have n2:∀φ,H a≠some (.ext φ):=λps e=>by rcases ha with⟨y,z⟩|⟨y,z⟩<;>(rw[e]at z;cases z)
 have ex:Ext ρ H ρ (upd H a ho):=⟨⟨[],by simp,by simp⟩,λb o q m _=>by
  have:b≠a:=λz=>m (by rw[z];exact iH hn);rw[AF this];exact q,λb ps q=>⟨ps,(AF (show b≠a from λz=>n1 ps (by rw[<- z];exact q))).trans q⟩⟩
 have gr:=ex.grow h;refine⟨⟨by simp[h.len],h.nd,h.tabs.upd n1 n2,λm o' b e1 e2=>?_⟩,ex⟩;have hm:m<hd.length:=by rw[<- h.len];exact(List.getElem?_eq_some_iff.mp e2).1
 by_cases hmn:m=n
 .subst hmn;rw[hn]at e2;cases e2;rw[List.getElem?_set_self hm]at e1;cases e1;exact⟨ho,AJ,by simpa using c.mono gr []⟩
 .rw[List.getElem?_set_ne (λz=>hmn z.symm)]at e1;obtain⟨ho',q1,q2⟩:=h.ob m o' b e1 e2;have:b≠a:=λz=>by
   subst z;have l1:=(List.getElem?_eq_some_iff.mp e2).1;have l2:=(List.getElem?_eq_some_iff.mp hn).1;exact hmn ((List.getElem?_inj l1 h.nd).mp (e2.trans hn.symm))
  exact⟨ho',by rw[AF this];exact q1,by simpa using q2.mono gr []⟩
theorem RH.lst(h:RH K ρ H hd){n:Nat}{a:Addr}{ds:List D}(hn:ρ[n]?=some a)(e:hd[n]?=some (.lst ds)):∃xs,H a=some (.lst xs)/\RDs K ρ H ds xs:=by
 obtain⟨ho,q,xs,rfl,r⟩:=h.ob n _ a e hn;exact⟨xs,q,r⟩
theorem RH.dic(h:RH K ρ H hd){n:Nat}{a:Addr}{ds:List (Key×D)}(hn:ρ[n]?=some a)(e:hd[n]?=some (.dic ds)):∃xs,H a=some (.dK xs)/\RKs K ρ H ds xs:=by
 obtain⟨ho,q,xs,rfl,r⟩:=h.ob n _ a e hn;exact⟨xs,q,r⟩
def RH.hid(h:RH K ρ H hd){a:Addr}(ha:H a=none){ho:HO}:RH K ρ (upd H a ho) hd/\Ext ρ H ρ (upd H a ho):=by
 have out:a∉ρ:=λm=>by rcases h.mut m with⟨y,z⟩|⟨y,z⟩<;>(rw[ha]at z;cases z)
 have ex:Ext ρ H ρ (upd H a ho):=⟨⟨[],by simp,by simp⟩,λb o q n _=>by rw[AF (Ac q ha)];exact q,λb ps q=>⟨ps,by rw[AF (Ac q ha)];exact q⟩⟩
 have gr:=ex.grow h;refine⟨⟨h.len,h.nd,h.tabs.upd (by simp[ha]) (by simp[ha]),λm o' b e1 e2=>?_⟩,ex⟩;obtain⟨ho',q1,q2⟩:=h.ob m o' b e1 e2;exact⟨ho',by rw[AF (Ac q1 ha)];exact q1,by simpa using q2.mono gr []⟩
def RH.hput(h:RH K ρ H hd){a:Addr}(out:a∉ρ){xs:List V}{ho:HO}(hl:H a=some (.lst xs)):RH K ρ (upd H a ho) hd:=by
 have gr:Grow H (upd H a ho):=Grow.refl.put (.lst hl);refine⟨h.len,h.nd,h.tabs.upd (by simp[hl]) (by simp[hl]),λm o' b e1 e2=>?_⟩;obtain⟨ho',q1,q2⟩:=h.ob m o' b e1 e2;have:b≠a:=λz=>out (by rw[<- z];exact iH e2);exact⟨ho',by rw[AF this];exact q1,by simpa using q2.mono gr []⟩
end
end L2
namespace L2
open PySem PySem.Spec PyProof.Rows
abbrev ME:=Ls->Hd->Option (D×Hd)
abbrev MT:=Ls->Hd->Option (Bool×Hd)
abbrev MA:=Ls->Hd->Option (List D×Hd)
inductive Fl where
 |nx (ls:Ls)|rt (d:D)|bk (ls:Ls)|ct (ls:Ls)
abbrev MS:=Ls->Hd->Option (Fl×Hd)
section
variable(K:Frag)
def RE(t:TE)(m:ME):Prop:=∀(ρ:List Addr) (σ:St) (H:Hp) (hd:Hd) (ls:Ls) (Q:VK) (d:D) (hd':Hd),RH K ρ H hd->RL K ρ H ls σ->m ls hd=some (d,hd') ->
 (∀ρ' H' v,Ext ρ H ρ' H'->RH K ρ' H' hd'->RD K ρ' H' d v->Q v H')->t σ H Q
def RT(t:TT)(m:MT):Prop:=∀(ρ:List Addr) (σ:St) (H:Hp) (hd:Hd) (ls:Ls) (Q:Bool->Hp->Prop) (d:Bool) (hd':Hd),RH K ρ H hd->RL K ρ H ls σ->m ls hd=some (d,hd') ->
 (∀ρ' H',Ext ρ H ρ' H'->RH K ρ' H' hd'->Q d H')->t σ H Q
def RA(t:TA)(m:MA):Prop:=∀(ρ:List Addr) (σ:St) (H:Hp) (hd:Hd) (ls:Ls) (Q:List V->Hp->Prop) (d:List D) (hd':Hd),RH K ρ H hd->RL K ρ H ls σ->m ls hd=some (d,hd') ->
 (∀ρ' H' v,Ext ρ H ρ' H'->RH K ρ' H' hd'->RDs K ρ' H' d v->Q v H')->t σ H Q
def RN(t:TE)(m:MA):Prop:=∀(ρ:List Addr) (σ:St) (H:Hp) (hd:Hd) (ls:Ls) (Q:VK) (d:List D) (hd':Hd),RH K ρ H hd->RL K ρ H ls σ->m ls hd=some (d,hd') ->
 (∀ρ' H' a xs,Ext ρ H ρ' H'->RH K ρ' H' hd'->H a=none->a∉ρ'->H' a=some (.lst xs)->RDs K ρ' H' d xs->Q (.ref a) H')->t σ H Q
def dy(E:Ends)(ρ:List Addr)(H:Hp):Fl->Prop
 |.nx ls=>∀σ,RL K ρ H ls σ->E.nx σ H
 |.bk ls=>∀σ,RL K ρ H ls σ->E.bk σ H
 |.ct ls=>∀σ,RL K ρ H ls σ->E.ct σ H
 |.rt d=>∀v,RD K ρ H d v->E.rt v H
def RS(t:TS)(m:MS):Prop:=∀(ρ:List Addr) (σ:St) (H:Hp) (hd:Hd) (ls:Ls) (E:Ends) (f:Fl) (hd':Hd),RH K ρ H hd->RL K ρ H ls σ->m ls hd=some (f,hd') ->
 (∀ρ' H',Ext ρ H ρ' H'->RH K ρ' H' hd'->dy K E ρ' H' f)->t E σ H
def RB(r:R2)(f:D->D->Hd->Option (D×Hd)):Prop:=∀(ρ:List Addr) (H:Hp) (hd:Hd) (d e:D) (v u:V) (Q:VK) (z:D) (hd':Hd),RH K ρ H hd->RD K ρ H d v->RD K ρ H e u->f d e hd=some (z,hd') ->
 (∀ρ' H' w,Ext ρ H ρ' H'->RH K ρ' H' hd'->RD K ρ' H' z w->Q w H')->r v u H Q
def RF(r:List V->Hp->VK->Prop)(f:List D->Hd->Option (D×Hd)):Prop:=∀(ρ:List Addr) (H:Hp) (hd:Hd) (ds:List D) (vs:List V) (Q:VK) (z:D) (hd':Hd),RH K ρ H hd->RDs K ρ H ds vs->f ds hd=some (z,hd') ->
 (∀ρ' H' w,Ext ρ H ρ' H'->RH K ρ' H' hd'->RD K ρ' H' z w->Q w H')->r vs H Q
def RG(tp:Bool)(r:List V->Hp->VK->Prop)(g:List D->Option D):Prop:=∀(ρ:List Addr) (H:Hp) (hd:Hd) (a:Addr) (xs:List V) (ds:List D) (Q:VK) (z:D),RH K ρ H hd->(SqL K H a xs∨(tp=true/\SqT K H a xs))->RDs K ρ H ds xs->g ds=some z ->
 (∀H' w,Ext ρ H ρ H'->RH K ρ H' hd->RD K ρ H' z w->Q w H')->r [.ref a] H Q
end
structure QE(K:Frag)(X:Cx)(e:Expr)(t:TE)(m:ME):Prop where
 p:PE X e t
 r:RE K t m
structure QT(K:Frag)(X:Cx)(e:Expr)(t:TT)(m:MT):Prop where
 p:PT X e t
 r:RT K t m
structure QW(K:Frag)(X:Cx)(e:Expr)(t:TT)(m:MT):Prop where
 p:PW X e t
 r:RT K t m
structure QA(K:Frag)(X:Cx)(e:List Expr)(t:TA)(m:MA):Prop where
 p:PA X e t
 r:RA K t m
structure QN(K:Frag)(X:Cx)(e:Expr)(t:TE)(m:MA):Prop where
 p:PE X e t
 r:RN K t m
structure QS(K:Frag)(X:Cx)(e:Stmt)(t:TS)(m:MS):Prop where
 p:PS X e t
 r:RS K t m
structure QSs(K:Frag)(X:Cx)(e:List Stmt)(t:TS)(m:MS):Prop where
 p:PSs X e t
 r:RS K t m
def AL:D->Option (List D)
 |.im (.tup is)=>some (is.map .im)
 |.tm ds=>some ds
 |_=>none
def Ay(hd:Hd):D->Option (List D)
 |.mu n=>match hd[n]? with
  |some (.lst ds)=>some ds
  |_=>none
 |.ro ns=>some (ns.map λn=>.im (.int n))
 |_=>none
def Ad(hd:Hd)(d:D):Option (List D):=match AL d with
 |some ds=>some ds
 |none=>Ay hd d
def Ba:List D->Option (List I)
 |[]=>some []
 |.im i::r=>(Ba r).map (i::·)
 |_::_=>none
def AV(ds:List D):D:=match Ba ds with
 |some is=>.im (.tup is)
 |none=>.tm ds
def B3:List D->Option (List Int)
 |[]=>some []
 |.im (.int i)::r=>(B3 r).map (i::·)
 |_::_=>none
def CO:List D->Option (List Bool)
 |[]=>some []
 |.im (.bl i)::r=>(CO r).map (i::·)
 |_::_=>none
section
variable{K:Frag}{ρ ρ':List Addr}{H H':Hp}{hd hd':Hd}
theorem Ez:∀{ds:List D} {is:List I},Ba ds=some is->ds=is.map .im
 |[],is,h=>by simp[Ba]at h;subst h;rfl
 |.im i::r,is,h=>by
  simp only[Ba,Option.map_eq_some_iff]at h;obtain⟨js,e,rfl⟩:=h;simp[Ez e]
 |.mu _::_,is,h=>by simp[Ba]at h
 |.tm _::_,is,h=>by simp[Ba]at h
 |.ro _::_,is,h=>by simp[Ba]at h
 |.op _ _ _::_,is,h=>by simp[Ba]at h
theorem Eu:∀{ds:List D} {is:List Int},B3 ds=some is->ds=is.map λi=>.im (.int i)
 |[],is,h=>by simp[B3]at h;subst h;rfl
 |.im (.int i)::r,is,h=>by
  simp only[B3,Option.map_eq_some_iff]at h;obtain⟨js,e,rfl⟩:=h;simp[Eu e]
 |.im (.bl _)::_,is,h=>by simp[B3]at h
 |.im (.str _)::_,is,h=>by simp[B3]at h
 |.im .non::_,is,h=>by simp[B3]at h
 |.im (.tup _)::_,is,h=>by simp[B3]at h
 |.mu _::_,is,h=>by simp[B3]at h
 |.tm _::_,is,h=>by simp[B3]at h
 |.ro _::_,is,h=>by simp[B3]at h
 |.op _ _ _::_,is,h=>by simp[B3]at h
theorem K4:∀{ds:List D} {is:List Bool},CO ds=some is->ds=is.map λi=>.im (.bl i)
 |[],is,h=>by simp[CO]at h;subst h;rfl
 |.im (.bl i)::r,is,h=>by
  simp only[CO,Option.map_eq_some_iff]at h;obtain⟨js,e,rfl⟩:=h;simp[K4 e]
 |.im (.int _)::_,is,h=>by simp[CO]at h
 |.im (.str _)::_,is,h=>by simp[CO]at h
 |.im .non::_,is,h=>by simp[CO]at h
 |.im (.tup _)::_,is,h=>by simp[CO]at h
 |.mu _::_,is,h=>by simp[CO]at h
 |.tm _::_,is,h=>by simp[CO]at h
 |.ro _::_,is,h=>by simp[CO]at h
 |.op _ _ _::_,is,h=>by simp[CO]at h
@[simp] theorem SW(is:List I):Ba (is.map .im)=some is:=by induction is<;>simp_all [Ba]
@[simp] theorem KS(is:List Int):B3 (is.map λi=>.im (.int i))=some is:=by induction is<;>simp_all [B3]
@[simp] theorem Dp(is:List Bool):CO (is.map λi=>.im (.bl i))=some is:=by induction is<;>simp_all [CO]
theorem HF:∀{ns:List Int} {xs:List V},RDs K ρ H (ns.map λi=>.im (.int i)) xs->xs=ns.map V.int
 |[],xs,h=>by simpa [RDs]using h
 |n::ns,xs,h=>by
  simp only[iD,RDs,RD,RI]at h;obtain⟨x,r,rfl,rfl,z⟩:=h;rw[HF z];rfl
theorem Ff:∀{ns:List Int},RDs K ρ H (ns.map λi=>.im (.int i)) (ns.map V.int)
 |[]=>by simp[RDs]
 |n::ns=>by simp only[iD];exact .cons (by simp[RD,RI]) Ff
theorem M6:∀{ns:List Bool} {xs:List V},RDs K ρ H (ns.map λi=>.im (.bl i)) xs->xs=ns.map V.bl
 |[],xs,h=>by simpa [RDs]using h
 |n::ns,xs,h=>by
  simp only[iD,RDs,RD,RI]at h;obtain⟨x,r,rfl,rfl,z⟩:=h;rw[M6 z];rfl
theorem RD.tup{d:D}{v:V}{ds:List D}(h:RD K ρ H d v)(e:AL d=some ds):∃a xs,v=.ref a/\SqT K H a xs/\RDs K ρ H ds xs:=by
 cases d with
 |im i=>
  cases i with
  |tup is=>
   simp only[AL,Option.some.injEq]at e;subst e;simp only[RD,RI]at h;obtain⟨a,xs,rfl,q,r⟩:=h;exact⟨a,xs,rfl,q,r.ds⟩
  |_=>simp[AL]at e
 |tm es=>
  simp only[AL,Option.some.injEq]at e;subst e;simpa only[RD]using h
 |_=>simp[AL]at e
theorem RD.lst{d:D}{v:V}{ds:List D}(hR:RH K ρ H hd)(h:RD K ρ H d v)(e:Ay hd d=some ds):∃a xs,v=.ref a/\SqL K H a xs/\RDs K ρ H ds xs:=by
 cases d with
 |mu n=>
  simp only[Ay]at e;simp only[RD]at h;obtain⟨a,hn,rfl⟩:=h;split at e
  .next q=>
   cases e;obtain⟨xs,e1,e2⟩:=hR.lst hn q;exact⟨a,xs,rfl,SqL.of e1,e2⟩
  .cases e
 |ro ns=>
  simp only[Ay,Option.some.injEq]at e;subst e;simp only[RD]at h;obtain⟨a,rfl,q⟩:=h;exact⟨a,_,rfl,q.sq,Ff⟩
 |_=>simp[Ay]at e
def RD.seq{d:D}{v:V}{ds:List D}(hR:RH K ρ H hd)(h:RD K ρ H d v)(e:Ad hd d=some ds):∃a xs,v=.ref a/\(SqL K H a xs∨SqT K H a xs)/\RDs K ρ H ds xs:=by
 unfold Ad at e;split at e
 .next q=>
  cases e;obtain⟨a,xs,e1,e2,e3⟩:=h.tup q;exact⟨a,xs,e1,.inr e2,e3⟩
 .obtain⟨a,xs,e1,e2,e3⟩:=h.lst hR e;exact⟨a,xs,e1,.inl e2,e3⟩
def Bp{ds:List D}{a:Addr}{xs:List V}(q:SqT K H a xs)(r:RDs K ρ H ds xs):RD K ρ H (AV ds) (.ref a):=by
 unfold AV;split
 .next e=>
  rw[Ez e]at r;simp only[RD,RI];exact⟨a,xs,rfl,q,r.is⟩
 .simp only[RD];exact⟨a,xs,rfl,q,r⟩
@[simp] theorem Ko(ds:List D):AL (AV ds)=some ds:=by
 unfold AV;split
 .next e=>simp[AL,Ez e]
 .rfl
def A0(i:Nat):ME:=λls hd=>match ls[i]? with
 |some (some d)=>some (d,hd)
 |_=>none
def ZK{i:Nat}:RE K (Su i) (A0 i):=by
 and_intros;unfold A0 at hm;split at hm
 .next e=>
  cases hm;obtain⟨v,e1,e2⟩:=hL.ob i _ e;exact⟨v,e1,hQ ρ H v .refl hR e2⟩
 .cases hm
def mC(i:I):ME:=λ_ hd=>some (.im i,hd)
def Os{v:V}{i:I}(h:∀H,RI K H i v):RE K (tC v) (mC i):=by
 and_intros;cases hm;exact hQ ρ H v .refl hR (by simpa only[RD]using h H)
def mOp(f:D->D->Hd->Option (D×Hd))(ma mb:ME):ME:=λls hd=>(ma ls hd).bind λp=>(mb ls p.2).bind λq=>f p.1 q.1 q.2
def LB{r:R2}{f:D->D->Hd->Option (D×Hd)}{ta tb:TE}{ma mb:ME}(hr:RB K r f)(ha:RE K ta ma)(hb:RE K tb mb):RE K (tOp r ta tb) (mOp f ma mb):=by
 and_intros;obtain⟨⟨d1,h1⟩,e1,hm⟩:=i6 hm;obtain⟨⟨d2,h2⟩,e2,hm⟩:=i6 hm;refine ha ρ σ H hd ls _ d1 h1 hR hL e1 λρ1 H1 v1 x1 R1 r1=>?_;refine hb ρ1 σ H1 h1 ls _ d2 h2 R1 (hL.ext hR x1) e2 λρ2 H2 v2 x2 R2 r2=>?_;exact hr ρ2 H2 h2 d1 d2 v1 v2 Q d hd' R2 (r1.ext R1 x2) r2 hm λρ' H' w x3 R3 r3=>hQ ρ' H' w ((x1.trans R1 x2).trans R2 x3) R3 r3
def CI(ta tb:MT):MT:=λls hd=>(ta ls hd).bind λp=>if p.1=true then tb ls p.2 else some (false,p.2)
def mOr(ta tb:MT):MT:=λls hd=>(ta ls hd).bind λp=>if p.1=true then some (true,p.2)else tb ls p.2
def CH(ta:MT):MT:=λls hd=>(ta ls hd).bind λp=>some (!p.1,p.2)
def Z6{ta tb:TT}{ma mb:MT}(ha:RT K ta ma)(hb:RT K tb mb):RT K (T5 ta tb) (CI ma mb):=by
 and_intros;obtain⟨⟨d1,h1⟩,e1,hm⟩:=i6 hm;refine ha ρ σ H hd ls _ d1 h1 hR hL e1 λρ1 H1 x1 R1=>?_;cases d1 with
 |true=>
  rw[i9 rfl]at hm ⊢;exact hb ρ1 σ H1 h1 ls Q d hd' R1 (hL.ext hR x1) hm λρ2 H2 x2 R2=>hQ ρ2 H2 (x1.trans R1 x2) R2
 |false=>
  rw[ic Bool.false_ne_true]at hm ⊢;cases hm;exact hQ ρ1 H1 x1 R1
def cu{ta tb:TT}{ma mb:MT}(ha:RT K ta ma)(hb:RT K tb mb):RT K (tOr ta tb) (mOr ma mb):=by
 and_intros;obtain⟨⟨d1,h1⟩,e1,hm⟩:=i6 hm;refine ha ρ σ H hd ls _ d1 h1 hR hL e1 λρ1 H1 x1 R1=>?_;cases d1 with
 |true=>
  rw[i9 rfl]at hm ⊢;cases hm;exact hQ ρ1 H1 x1 R1
 |false=>
  rw[ic Bool.false_ne_true]at hm ⊢;exact hb ρ1 σ H1 h1 ls Q d hd' R1 (hL.ext hR x1) hm λρ2 H2 x2 R2=>hQ ρ2 H2 (x1.trans R1 x2) R2
def Z5{ta:TT}{ma:MT}(ha:RT K ta ma):RT K (Sx ta) (CH ma):=by
 and_intros;obtain⟨⟨d1,h1⟩,e1,hm⟩:=i6 hm;cases hm;exact ha ρ σ H hd ls _ d1 h1 hR hL e1 λρ1 H1 x1 R1=>hQ ρ1 H1 x1 R1
open Classical in
def Cv(hd:Hd):D->Option Bool
 |.im .non=>some false
 |.im (.bl b)=>some b
 |.im (.int i)=>some (i != 0)
 |.im (.str x)=>if CC x.length then some ((x.length:Int) != 0)else none
 |.im (.tup is)=>some (!is.isEmpty)
 |.tm is=>some (!is.isEmpty)
 |.ro ns=>some (!ns.isEmpty)
 |.op _ _ _=>none
 |.mu n=>match hd[n]? with
  |some (.lst ds)=>some (!ds.isEmpty)
  |some (.dic ds)=>some (!ds.isEmpty)
  |none=>none
def D2{α β:Type}{xs:List α}{ys:List β}(h:xs.length=ys.length):xs.isEmpty=ys.isEmpty:=by
 cases xs<;>cases ys<;>simp_all
theorem RKs.len:∀{ds:List (Key×D)} {xs:List (Key×V)},RKs K ρ H ds xs->xs.length=ds.length
 |[],xs,h=>by simp only[RKs]at h;rw[h];rfl
 |d::ds,xs,h=>by
  simp only[RKs]at h;obtain⟨x,r,rfl,_,_,z⟩:=h;simp[RKs.len z]
def W1{d:D}{v:V}{b:Bool}(hR:RH K ρ H hd)(h:RD K ρ H d v)(e:Cv hd d=some b):N5 K v H b:=by
 cases d with
 |im i=>
  cases i with
  |non=>simp only[RD,RI]at h;subst h;simp only[Cv,Option.some.injEq]at e;subst e;exact rfl
  |bl c=>simp only[RD,RI]at h;subst h;simp only[Cv,Option.some.injEq]at e;subst e;exact rfl
  |int c=>simp only[RD,RI]at h;subst h;simp only[Cv,Option.some.injEq]at e;subst e;exact rfl
  |str c=>
   simp only[RD,RI]at h;subst h;simp only[Cv]at e;split at e
   .next z=>cases e;exact⟨z,rfl⟩
   .cases e
  |tup is=>
   obtain⟨a,xs,rfl,q,r⟩:=h.tup (ds:=is.map .im) rfl;simp only[Cv,Option.some.injEq]at e;subst e;exact .inr (.inl ⟨xs,q,by rw[D2 (show xs.length=is.length by simpa using r.len)]⟩)
 |tm ds=>
  obtain⟨a,xs,rfl,q,r⟩:=h.tup (ds:=ds) rfl;simp only[Cv,Option.some.injEq]at e;subst e;exact .inr (.inl ⟨xs,q,by rw[D2 r.len]⟩)
 |ro ns=>
  obtain⟨a,xs,rfl,q,r⟩:=h.lst hR (hd:=hd) (ds:=ns.map λn=>.im (.int n)) rfl;simp only[Cv,Option.some.injEq]at e;subst e;exact .inl ⟨xs,q,by rw[D2 (show xs.length=ns.length by simpa using r.len)]⟩
 |op _ _ _=>simp[Cv]at e
 |mu n=>
  simp only[RD]at h;obtain⟨a,hn,rfl⟩:=h;simp only[Cv]at e;split at e
  .next q=>
   cases e;obtain⟨xs,e1,e2⟩:=hR.lst hn q;exact .inl ⟨xs,SqL.of e1,by rw[D2 e2.len]⟩
  .next q=>
   cases e;obtain⟨xs,e1,e2⟩:=hR.dic hn q;exact .inr (.inr ⟨xs,e1,by rw[D2 e2.len]⟩)
  .cases e
def B9(ma:ME):MT:=λls hd=>(ma ls hd).bind λp=>(Cv p.2 p.1).map (·,p.2)
def TH{ta:TE}{ma:ME}(ha:RE K ta ma):RT K (λσ H Q=>ta σ H λx H'=>∃k,N5 K x H' k/\Q k H') (B9 ma):=by
 and_intros;obtain⟨⟨d1,h1⟩,e1,hm⟩:=i6 hm;obtain⟨b,e2,e3⟩:=i7 hm;cases e3;exact ha ρ σ H hd ls _ d1 h1 hR hL e1 λρ1 H1 v x1 R1 r1=>⟨_,W1 R1 r1 e2,hQ ρ1 H1 x1 R1⟩
def AH(ma:ME):MT:=λls hd=>(ma ls hd).bind λp=>match p.1 with
 |.im (.bl b)=>some (b,p.2)
 |_=>none
def FX{ta:TE}{ma:ME}(ha:RE K ta ma):RT K (L9 ta) (AH ma):=by
 and_intros;obtain⟨⟨d1,h1⟩,e1,hm⟩:=i6 hm;dsimp only at hm;split at hm
 .cases hm;exact ha ρ σ H hd ls _ _ _ hR hL e1 λρ1 H1 v x1 R1 r1=>⟨_,by simpa only[RD,RI]using r1,hQ ρ1 H1 x1 R1⟩
 .cases hm
def Z7{ta:TE}{ma:ME}(ha:RE K ta ma):RT K (tB ta) (AH ma):=FX ha
def mIf(c:MT)(ma mb:ME):ME:=λls hd=>(c ls hd).bind λp=>if p.1=true then ma ls p.2 else mb ls p.2
def VA{tc:TT}{c:MT}{ta tb:TE}{ma mb:ME}(hc:RT K tc c)(ha:RE K ta ma)(hb:RE K tb mb):RE K (tIf tc ta tb) (mIf c ma mb):=by
 and_intros;obtain⟨⟨d1,h1⟩,e1,hm⟩:=i6 hm;refine hc ρ σ H hd ls _ d1 h1 hR hL e1 λρ1 H1 x1 R1=>?_;cases d1 with
 |true=>
  rw[i9 rfl]at hm ⊢;exact ha ρ1 σ H1 h1 ls Q d hd' R1 (hL.ext hR x1) hm λρ2 H2 v x2 R2 r2=>hQ ρ2 H2 v (x1.trans R1 x2) R2 r2
 |false=>
  rw[ic Bool.false_ne_true]at hm ⊢;exact hb ρ1 σ H1 h1 ls Q d hd' R1 (hL.ext hR x1) hm λρ2 H2 v x2 R2 r2=>hQ ρ2 H2 v (x1.trans R1 x2) R2 r2
def DU(ma mb:ME):ME:=λls hd=>(AH ma ls hd).bind λp=>if p.1=true then mb ls p.2 else some (.im (.bl false),p.2)
def eU(ma mb:ME):ME:=λls hd=>(AH ma ls hd).bind λp=>if p.1=true then some (.im (.bl true),p.2)else mb ls p.2
def HM(ma:ME):ME:=λls hd=>(AH ma ls hd).bind λp=>some (.im (.bl (!p.1)),p.2)
def Wj{ta tb:TE}{ma mb:ME}(ha:RE K ta ma)(hb:RE K tb mb):RE K (Og ta tb) (DU ma mb):=by
 and_intros;obtain⟨⟨d1,h1⟩,e1,hm⟩:=i6 hm;refine FX ha ρ σ H hd ls (λc H1=>if c=true then tb σ H1 Q else Q (.bl false) H1) d1 h1 hR hL e1 λρ1 H1 x1 R1=>?_;cases d1 with
 |true=>
  rw[i9 rfl]at hm ⊢;exact hb ρ1 σ H1 h1 ls Q d hd' R1 (hL.ext hR x1) hm λρ2 H2 v x2 R2 r2=>hQ ρ2 H2 v (x1.trans R1 x2) R2 r2
 |false=>
  rw[ic Bool.false_ne_true]at hm ⊢;cases hm;exact hQ ρ1 H1 _ x1 R1 (by simp[RD,RI])
def Wg{ta:TE}{ma:ME}(ha:RE K ta ma):RE K (Oc ta) (HM ma):=by
 and_intros;obtain⟨⟨d1,h1⟩,e1,hm⟩:=i6 hm;cases hm;exact FX ha ρ σ H hd ls (λc H1=>Q (.bl (!c)) H1) d1 h1 hR hL e1 λρ1 H1 x1 R1=>hQ ρ1 H1 _ x1 R1 (by simp[RD,RI])
def A4:MA:=λ_ hd=>some ([],hd)
def A1(ma:ME)(mr:MA):MA:=λls hd=>(ma ls hd).bind λp=>(mr ls p.2).bind λq=>some (p.1::q.1,q.2)
def Qw:RA K CD A4:=by
 and_intros;cases hm;exact hQ ρ H [] .refl hR .nil
def Wo{ta:TE}{tr:TA}{ma:ME}{mr:MA}(ha:RE K ta ma)(hr:RA K tr mr):RA K (Bc ta tr) (A1 ma mr):=by
 and_intros;obtain⟨⟨d1,h1⟩,e1,hm⟩:=i6 hm;obtain⟨⟨d2,h2⟩,e2,hm⟩:=i6 hm;cases hm;refine ha ρ σ H hd ls _ d1 h1 hR hL e1 λρ1 H1 v1 x1 R1 r1=>?_;exact hr ρ1 σ H1 h1 ls _ d2 _ R1 (hL.ext hR x1) e2 λρ2 H2 v2 x2 R2 r2=>hQ ρ2 H2 _ (x1.trans R1 x2) R2 (.cons (r1.ext R1 x2) r2)
open Classical in
def Ae(ma:MA):ME:=λls hd=>(ma ls hd).bind λp=>if CC p.1.length then some (AV p.1,p.2)else none
def ZL{t:TA}{m:MA}(h:RA K t m):RE K (Sv t) (Ae m):=by
 and_intros;obtain⟨⟨d1,h1⟩,e1,hm⟩:=i6 hm;dsimp only at hm;split at hm
 .next z=>
  cases hm;refine h ρ σ H hd ls _ d1 _ hR hL e1 λρ1 H1 v1 x1 R1 r1=>⟨by rw[r1.len];exact z,λp hp=>?_⟩
  obtain⟨R2,x2⟩:=R1.hid (ho:=.tup v1) hp;exact hQ ρ1 _ _ (x1.trans R1 x2) R2 (Bp (SqT.of AJ) (r1.ext R1 x2))
 .cases hm
open Classical in
def BA(ma:MA):MA:=λls hd=>(ma ls hd).bind λp=>if CC p.1.length then some (p.1,p.2)else none
def RH.out(hR:RH K ρ H hd){a:Addr}(h:H a=none):a∉ρ:=λm=>by rcases hR.mut m with⟨y,z⟩|⟨y,z⟩<;>(rw[h]at z;cases z)
theorem Ext.none(e:Ext ρ H ρ' H')(hR:RH K ρ H hd){a:Addr}(h:H' a=none)(hR':RH K ρ' H' hd'):H a=none:=by
 cases q:H a with
 |none=>rfl
 |some o=>
  by_cases m:a∈ρ
  .obtain⟨r,rfl,_⟩:=e.pre;exact absurd (j5 r m) (hR'.out h)
  .by_cases t:∃ps,o=.tbl ps
   .obtain⟨ps,rfl⟩:=t;obtain⟨ps',this⟩:=e.tab a ps q;rw[h]at this;cases this
   .rw[e.keep a o q m λps y=>t ⟨ps,y⟩]at h;cases h
def ZB{t:TA}{m:MA}(h:RA K t m):RN K (Sy t) (BA m):=by
 and_intros;obtain⟨⟨d1,h1⟩,e1,hm⟩:=i6 hm;dsimp only at hm;split at hm
 .next z=>
  cases hm;refine h ρ σ H hd ls _ _ _ hR hL e1 λρ1 H1 v1 x1 R1 r1=>⟨by rw[r1.len];exact z,λp hp=>?_⟩
  obtain⟨R2,x2⟩:=R1.hid (ho:=.lst v1) hp;exact hQ ρ1 _ p v1 (x1.trans R1 x2) R2 (x1.none hR hp R1) (R1.out hp) AJ (r1.ext R1 x2)
 .cases hm
def Ao(ml:MA):ME:=λls hd=>(ml ls hd).bind λp=>some (.mu p.2.length,p.2++[.lst p.1])
def RH.name(hR:RH K ρ H hd){a:Addr}{xs:List V}{ds:List D}(out:a∉ρ)(e:H a=some (.lst xs))(r:RDs K ρ H ds xs):RH K (ρ++[a]) H (hd++[.lst ds]):=by
 have mono:∀{o:MO} {ho:HO},RC K ρ H o ho->RC K (ρ++[a]) H o ho:=λc=>c.mono Grow.refl [a];refine⟨by simp[hR.len],?_,hR.tabs,λn o' b e1 e2=>?_⟩
 .rw[nodup_append];refine⟨hR.nd,by simp,λx hx y hy z=>?_⟩;simp at hy;subst hy;subst z;exact out hx
 .by_cases hn:n<ρ.length
  .rw[List.getElem?_append_left hn]at e2;rw[List.getElem?_append_left (by rw[<- hR.len];exact hn)]at e1;obtain⟨ho',q1,q2⟩:=hR.ob n o' b e1 e2;exact⟨ho',q1,mono q2⟩
  .have hn':n=ρ.length:=by
    have:=(List.getElem?_eq_some_iff.mp e2).1;simp at this;omega
   subst hn';simp at e2;rw[hR.len]at e1;simp at e1;subst e1;subst e2;exact⟨_,e,mono ⟨xs,rfl,r⟩⟩
def Ext.name(e:Ext ρ H ρ' H'){a:Addr}(h:H a=Option.none):Ext ρ H (ρ'++[a]) H':=by
 obtain⟨r,rfl,f⟩:=e.pre;refine⟨⟨r++[a],by simp,λb m=>?_⟩,e.keep,e.tab⟩;rcases mem_append.mp m with m|m
 .exact f b m
 .simp at m;subst m;exact h
def Qp{t:TE}{m:MA}(h:RN K t m):RE K t (Ao m):=by
 and_intros;obtain⟨⟨d1,h1⟩,e1,hm⟩:=i6 hm;cases hm;refine h ρ σ H hd ls Q d1 h1 hR hL e1 λρ1 H1 a xs x1 R1 na oa ea r1=>?_;refine hQ (ρ1++[a]) H1 _ (x1.name na) (R1.name oa ea r1) ?_;simp only[RD];exact⟨a,by rw[<- R1.len];simp,rfl⟩
end
section
variable{K:Frag}{ρ ρ':List Addr}{H H':Hp}{hd hd':Hd}
def fI(g:Int->Int->Option I):D->D->Hd->Option (D×Hd)
 |.im (.int i),.im (.int j),hd=>(g i j).map (.im ·,hd)
 |_,_,_=>none
def M7{C:Int->Int->Prop}{g:Int->Int->V}{f:Int->Int->Option I}(h:∀i j z,f i j=some z->C i j/\∀H,RI K H z (g i j)):RB K (rI C g) (fI f):=by
 intro ρ H hd d e v u Q z hd' hR h1 h2 hf hQ;unfold fI at hf;split at hf
 .simp only[RD,RI]at h1 h2;subst h1 h2;obtain⟨w,e1,e2⟩:=i7 hf;cases e2;obtain⟨c,r⟩:=h _ _ _ e1;exact⟨_,_,rfl,rfl,c,hQ ρ H _ .refl hR (by simpa only[RD]using r H)⟩
 .cases hf
def HH{g:Int->Int->V}{f:Int->Int->I}(h:∀i j H,RI K H (f i j) (g i j)):RB K (rI0 g) (fI λi j=>some (f i j)):=by
 intro ρ H hd d e v u Q z hd' hR h1 h2 hf hQ;unfold fI at hf;split at hf
 .simp only[RD,RI]at h1 h2;subst h1 h2;cases hf;exact⟨_,_,rfl,rfl,hQ ρ H _ .refl hR (by simpa only[RD]using h _ _ H)⟩
 .cases hf
def CJ(f g:D->D->Hd->Option (D×Hd)):D->D->Hd->Option (D×Hd):=λd e hd=>match f d e hd with
 |some z=>some z
 |none=>g d e hd
def De{r r':R2}{f g:D->D->Hd->Option (D×Hd)}(h:RB K r f)(h':RB K r' g):RB K (λx y H Q=>r x y H Q∨r' x y H Q) (CJ f g):=by
 intro ρ H hd d e v u Q z hd' hR h1 h2 hf hQ;unfold CJ at hf;split at hf
 .next q=>cases hf;exact .inl (h ρ H hd d e v u Q z hd' hR h1 h2 q hQ)
 .exact .inr (h' ρ H hd d e v u Q z hd' hR h1 h2 hf hQ)
abbrev Md:D->D->Hd->Option (D×Hd):=fI λi j=>some (.int (i+j))
abbrev HP:D->D->Hd->Option (D×Hd):=fI λi j=>some (.int (i-j))
def Qv:RB K (rI0 λi j=>.int (i+j)) Md:=HH λ_ _ _=>by simp[RI]
def ZU:RB K (rI0 λi j=>.int (i-j)) HP:=HH λ_ _ _=>by simp[RI]
open Classical in
abbrev As:D->D->Hd->Option (D×Hd):=fI λi j=>if Cg i j then some (.int (i*j))else none
def ZX:RB K (rI CMul λi j=>.int (i*j)) As:=M7 λi j z h=>by
 split at h
 .next q=>cases h;exact⟨q,λ_=>by simp[RI]⟩
 .cases h
open Classical in
abbrev DF:D->D->Hd->Option (D×Hd):=fI λi j=>if Bf j then some (.int (i%j))else none
def ZY:RB K (rI (λ_ j=>0<j) λi j=>.int (i%j)) DF:=M7 λi j z h=>by
 split at h
 .next q=>cases h;exact⟨q,λ_=>by simp[RI]⟩
 .cases h
open Classical in
abbrev EQ:D->D->Hd->Option (D×Hd):=fI λi j=>if GE j then some (.int (i/j))else none
def Wm:RB K (rI cT λi j=>.int (i/j)) EQ:=M7 λi j z h=>by
 split at h
 .next q=>cases h;exact⟨q,λ_=>by simp[RI]⟩
 .cases h
open Classical in
abbrev Uc:D->D->Hd->Option (D×Hd):=fI λi j=>if P0 i j then some (.int (i^j.toNat))else none
def ZV:RB K (rI cR λi j=>.int (i^j.toNat)) Uc:=M7 λi j z h=>by
 split at h
 .next q=>cases h;exact⟨q,λ_=>by simp[RI]⟩
 .cases h
abbrev gLt:D->D->Hd->Option (D×Hd):=fI λi j=>some (.bl (decide (i<j)))
abbrev gLe:D->D->Hd->Option (D×Hd):=fI λi j=>some (.bl (decide (i<=j)))
abbrev gGt:D->D->Hd->Option (D×Hd):=fI λi j=>some (.bl (decide (j<i)))
abbrev gGe:D->D->Hd->Option (D×Hd):=fI λi j=>some (.bl (decide (j<=i)))
def VC:RB K (rI0 λi j=>.bl (decide (i<j))) gLt:=HH λ_ _ _=>by simp[RI]
def cx:RB K (rI0 λi j=>.bl (decide (i<=j))) gLe:=HH λ_ _ _=>by simp[RI]
def cz:RB K (rI0 λi j=>.bl (decide (j<i))) gGt:=HH λ_ _ _=>by simp[RI]
def VE:RB K (rI0 λi j=>.bl (decide (j<=i))) gGe:=HH λ_ _ _=>by simp[RI]
def scI:I->Option V
 |.non=>some .non
 |.bl b=>some (.bl b)
 |.int i=>some (.int i)
 |.str x=>some (.str x)
 |.tup _=>none
def Io{i:I}{v w:V}(e:scI i=some w)(h:RI K H i v):v=w:=by
 cases i with
 |tup _=>simp[scI]at e
 |_=>simp only[scI,Option.some.injEq]at e;subst e;simpa only[RI]using h
def FP(neg:Bool):D->D->Hd->Option (D×Hd)
 |.im i,.im j,hd=>match scI i,scI j with
  |some x,some y=>if Lj x y=true then some (.im (.bl (if neg then !decide (x=y)else decide (x=y))),hd)else none
  |_,_=>none
 |_,_,_=>none
def Qt:RB K rEq (FP false):=by
 intro ρ H hd d e v u Q z hd' hR h1 h2 hf hQ;unfold FP at hf;split at hf
 .split at hf
  .next x y e1 e2=>
   split at hf
   .next s=>
    cases hf;simp only[RD]at h1 h2;rw[Io e1 h1,Io e2 h2];exact⟨s,hQ ρ H _ .refl hR (by simp[RD,RI])⟩
   .cases hf
  .cases hf
 .cases hf
def Qr:RB K rNe (FP true):=by
 intro ρ H hd d e v u Q z hd' hR h1 h2 hf hQ;unfold FP at hf;split at hf
 .split at hf
  .next x y e1 e2=>
   split at hf
   .next s=>
    cases hf;simp only[RD]at h1 h2;rw[Io e1 h1,Io e2 h2];exact⟨s,hQ ρ H _ .refl hR (by simp[RD,RI])⟩
   .cases hf
  .cases hf
 .cases hf
mutual
def I.py:I->PyData
 |.non=>.none
 |.bl b=>.bool b
 |.int i=>.int i
 |.str x=>.str x
 |.tup ds=>.tuple (I.pys ds)
def I.pys:List I->List PyData
 |[]=>[]
 |d::ds=>I.py d::I.pys ds
end
mutual
theorem RI.rep:∀{i:I} {v:V},RI K H i v->Rep K H i.py v
 |.non,v,h=>by simpa only[RI,I.py,Rep]using h
 |.bl _,v,h=>by simpa only[RI,I.py,Rep]using h
 |.int _,v,h=>by simpa only[RI,I.py,Rep]using h
 |.str _,v,h=>by simpa only[RI,I.py,Rep]using h
 |.tup ds,v,h=>by
  simp only[RI]at h;obtain⟨a,xs,e,q,r⟩:=h;simp only[I.py,Rep];exact⟨a,xs,e,q,RIs.rep r⟩
theorem RIs.rep:∀{i:List I} {v:List V},RIs K H i v->Bv K H (I.pys i) v
 |[],v,h=>by simpa only[RIs,I.pys,Bv]using h
 |d::ds,v,h=>by
  simp only[RIs]at h;obtain⟨x,r,e,q,z⟩:=h;simp only[I.pys,Bv];exact⟨x,r,e,q.rep,RIs.rep z⟩
end
def pyD(hd:Hd):D->Option PyData
 |.im i=>some i.py
 |.mu n=>match hd[n]? with
  |some (.lst ds)=>(Ba ds).map λis=>.list (I.pys is)
  |_=>none
 |.ro ns=>some (.list (I.pys (ns.map I.int)))
 |_=>none
def Dg{d:D}{v:V}{p:PyData}(hR:RH K ρ H hd)(h:RD K ρ H d v)(e:pyD hd d=some p):Rep K H p v:=by
 cases d with
 |im i=>simp only[pyD,Option.some.injEq]at e;subst e;simp only[RD]at h;exact h.rep
 |mu n=>
  simp only[pyD]at e;simp only[RD]at h;obtain⟨a,hn,rfl⟩:=h;split at e
  .next q=>
   obtain⟨is,e1,rfl⟩:=i7 e;obtain⟨xs,e2,e3⟩:=hR.lst hn q;rw[Ez e1]at e3;simp only[Rep];exact⟨a,xs,rfl,SqL.of e2,e3.is.rep⟩
  .cases e
 |ro ns=>
  simp only[pyD,Option.some.injEq]at e;subst e;obtain⟨a,xs,rfl,q,r⟩:=h.lst hR (hd:=hd) (ds:=ns.map λn=>.im (.int n)) rfl;simp only[Rep];refine⟨a,xs,rfl,q,RIs.rep (RDs.is (ρ:=ρ) ?_)⟩;rw[iF];exact r
 |tm _=>simp[pyD]at e
 |op _ _ _=>simp[pyD]at e
def Jr(neg:Bool):D->D->Hd->Option (D×Hd):=λd e hd=>match pyD hd d,pyD hd e with
 |some x,some y=>if x.canLay0=true/\y.canLay0=true/\min x.depth y.depth<=60 then some (.im (.bl (if neg then !PyData.eqv x y else PyData.eqv x y)),hd)else none
 |_,_=>none
def Qu:RB K (Td K) (Jr false):=by
 intro ρ H hd d e v u Q z hd' hR h1 h2 hf hQ;unfold Jr at hf;split at hf
 .next e1 e2=>
  split at hf
  .next c=>cases hf;exact⟨_,_,Dg hR h1 e1,Dg hR h2 e2,c.1,c.2.1,c.2.2,hQ ρ H _ .refl hR (by simp[RD,RI])⟩
  .cases hf
 .cases hf
def Qs:RB K (Ow K) (Jr true):=by
 intro ρ H hd d e v u Q z hd' hR h1 h2 hf hQ;unfold Jr at hf;split at hf
 .next e1 e2=>
  split at hf
  .next c=>cases hf;exact⟨_,_,Dg hR h1 e1,Dg hR h2 e2,c.1,c.2.1,c.2.2,hQ ρ H _ .refl hR (by simp[RD,RI])⟩
  .cases hf
 .cases hf
abbrev gEq:=CJ (FP false) (Jr false)
abbrev gNe:=CJ (FP true) (Jr true)
def gIx:D->D->Hd->Option (D×Hd)
 |d,.im (.int i),hd=>(Ad hd d).bind λds=>(atI ds i).map (·,hd)
 |_,_,_=>none
def OO{α β:Type}{xs:List α}{ys:List β}{i:Int}{y:β}(h:xs.length=ys.length)(e:atI ys i=some y):∃(j:Nat),ys[j]?=some y/\∀x,xs[j]?=some x->atI xs i=some x:=by
 unfold atI at e;obtain⟨j,e1,e2⟩:=i6 e;exact⟨j,e2,λx q=>by unfold atI;rw[h,e1];exact q⟩
def LC(K:Frag):R2:=λx y H Q=>Jd K x y H Q∨Tc K x y H Q
def cy:RB K (LC K) gIx:=by
 intro ρ H hd d e v u Q z hd' hR h1 h2 hf hQ;unfold gIx at hf;split at hf
 .obtain⟨ds,e1,hf⟩:=i6 hf;obtain⟨w,e2,e3⟩:=i7 hf;cases e3;obtain⟨a,xs,rfl,q,r⟩:=h1.seq hR e1;simp only[RD,RI]at h2;subst h2;obtain⟨j,j1,j2⟩:=OO r.len e2;obtain⟨x,x1,x2⟩:=r.get j1;rcases q with q|q
  .exact .inl ⟨a,xs,_,x,rfl,rfl,q,j2 x x1,hQ ρ H x .refl hR x2⟩
  .exact .inr ⟨a,xs,_,x,rfl,rfl,q,j2 x x1,hQ ρ H x .refl hR x2⟩
 .cases hf
def Br(xs:List D)(lo hi:Option Int):List D:=(xs.drop (HT.sIx xs.length 0 lo)).take (HT.sIx xs.length xs.length hi-HT.sIx xs.length 0 lo)
def OH{ds:List D}{xs:List V}{lo hi:Option Int}(r:RDs K ρ H ds xs):RDs K ρ H (Br ds lo hi) (FQ xs lo hi):=by
 unfold Br FQ;rw[r.len];exact(r.drop _).take _
abbrev MO1:=Ls->Hd->Option (Option Int×Hd)
def RO1(K:Frag)(t:TO)(m:MO1):Prop:=∀(ρ:List Addr) (σ:St) (H:Hp) (hd:Hd) (ls:Ls) (Q:Option Int->Hp->Prop) (d:Option Int) (hd':Hd),RH K ρ H hd->RL K ρ H ls σ->m ls hd=some (d,hd') ->
 (∀ρ' H',Ext ρ H ρ' H'->RH K ρ' H' hd'->Q d H')->t σ H Q
def Ap:MO1:=λ_ hd=>some (none,hd)
def BN(m:ME):MO1:=λls hd=>(m ls hd).bind λp=>match p.1 with
 |.im (.int i)=>some (some i,p.2)
 |_=>none
def WY:RO1 K JS Ap:=by
 and_intros;cases hm;exact hQ ρ H .refl hR
def WX{t:TE}{m:ME}(h:RE K t m):RO1 K (Oa t) (BN m):=by
 and_intros;obtain⟨⟨d1,h1⟩,e1,hm⟩:=i6 hm;dsimp only at hm;split at hm
 .cases hm;exact h ρ σ H hd ls _ _ _ hR hL e1 λρ1 H1 v x1 R1 r1=>⟨_,by simpa only[RD,RI]using r1,hQ ρ1 H1 x1 R1⟩
 .cases hm
def eQ(m:ME)(ml mh:MO1):ME:=λls hd=>(m ls hd).bind λp=>(ml ls p.2).bind λl=>(mh ls l.2).bind λh=>(AL p.1).bind λds=>
 if ¬ (HT.sIx ds.length 0 l.1=0/\HT.sIx ds.length ds.length h.1=ds.length)then some (AV (Br ds l.1 h.1),h.2)else none
def MU(m:ME)(ml mh:MO1):MA:=λls hd=>(m ls hd).bind λp=>(ml ls p.2).bind λl=>(mh ls l.2).bind λh=>(Ay h.2 p.1).bind λds=>some (Br ds l.1 h.1,h.2)
def ZA{t:TE}{tl th:TO}{m:ME}{ml mh:MO1}(h:RE K t m)(hl:RO1 K tl ml)(hh:RO1 K th mh):RN K (tSl (Ou K) t tl th) (MU m ml mh):=by
 and_intros;obtain⟨⟨d1,h1⟩,e1,hm⟩:=i6 hm;obtain⟨⟨d2,h2⟩,e2,hm⟩:=i6 hm;obtain⟨⟨d3,h3⟩,e3,hm⟩:=i6 hm;obtain⟨ds,e4,hm⟩:=i6 hm;dsimp only at e2 e3 e4 hm;cases hm;refine h ρ σ H hd ls _ d1 h1 hR hL e1 λρ1 H1 v1 x1 R1 r1=>?_;refine hl ρ1 σ H1 h1 ls _ d2 h2 R1 (hL.ext hR x1) e2 λρ2 H2 x2 R2=>?_;refine hh ρ2 σ H2 h2 ls _ d3 _ R2 (hL.ext hR (x1.trans R1 x2)) e3 λρ3 H3 x3 R3=>?_;obtain⟨a,xs,rfl,q,r⟩:=RD.lst R3 ((r1.ext R1 x2).ext R2 x3) e4;refine⟨a,xs,rfl,q,λp hp=>?_⟩;obtain⟨R4,x4⟩:=R3.hid (ho:=.lst (FQ xs d2 d3)) hp;have x123:=(x1.trans R1 x2).trans R2 x3;exact hQ ρ3 _ p _ (x123.trans R3 x4) R4 (x123.none hR hp R3) (R3.out hp) AJ ((OH r).ext R3 x4)
def mCB(f:List D->Hd->Option (D×Hd))(ma:MA):ME:=λls hd=>(ma ls hd).bind λp=>f p.1 p.2
def VB{r:List V->Hp->VK->Prop}{f:List D->Hd->Option (D×Hd)}{t:TA}{m:MA}(hr:RF K r f)(h:RA K t m):RE K (tCB r t) (mCB f m):=by
 and_intros;obtain⟨⟨d1,h1⟩,e1,hm⟩:=i6 hm;refine h ρ σ H hd ls _ d1 h1 hR hL e1 λρ1 H1 v1 x1 R1 r1=>?_;exact hr ρ1 H1 h1 d1 v1 Q d hd' R1 r1 hm λρ' H' w x2 R2 r2=>hQ ρ' H' w (x1.trans R1 x2) R2 r2
def f1(tp:Bool)(g:List D->Option D):List D->Hd->Option (D×Hd)
 |[d],hd=>((if tp then Ad hd d else Ay hd d)).bind λds=>(g ds).map (·,hd)
 |_,_=>none
def JZ{tp:Bool}{r:List V->Hp->VK->Prop}{g:List D->Option D}(h:RG K tp r g):RF K r (f1 tp g):=by
 intro ρ H hd ds vs Q z hd' hR h1 hf hQ;unfold f1 at hf;split at hf
 .next d hd'=>
  obtain⟨es,e1,hf⟩:=i6 hf;obtain⟨w,e2,e3⟩:=i7 hf;cases e3;simp only[RDs]at h1;obtain⟨x,r,rfl,rx,rfl⟩:=h1;cases tp with
  |true=>
   rw[i9 rfl]at e1;obtain⟨a,xs,rfl,q,rr⟩:=rx.seq hR e1;exact h ρ H hd a xs es Q z hR (q.imp id λq=>⟨rfl,q⟩) rr e2 λH' w x R r=>hQ ρ H' w x R r
  |false=>
   rw[ic Bool.false_ne_true]at e1;obtain⟨a,xs,rfl,q,rr⟩:=rx.lst hR e1;exact h ρ H hd a xs es Q z hR (.inl q) rr e2 λH' w x R r=>hQ ρ H' w x R r
 .cases hf
def BL(g:List D->Option D)(ml:MA):ME:=λls hd=>(ml ls hd).bind λp=>(g p.1).map (·,p.2)
def Qq{tp:Bool}{r:List V->Hp->VK->Prop}{g:List D->Option D}{t:TE}{m:MA}(hr:RG K tp r g)(h:RN K t m):RE K (tCB r (Bc t CD)) (BL g m):=by
 and_intros;obtain⟨⟨d1,h1⟩,e1,hm⟩:=i6 hm;obtain⟨w,e2,e3⟩:=i7 hm;cases e3;refine h ρ σ H hd ls _ d1 _ hR hL e1 λρ1 H1 a xs x1 R1 na oa ea r1=>?_;exact hr ρ1 H1 _ a xs d1 Q d R1 (.inl (SqL.of ea)) r1 e2 λH' w x R r=>hQ ρ1 H' w (x1.trans R1 x) R r
def Ag(ds:List D):Option D:=some (.im (.int ds.length))
def ZH:RG K true (Zb K) Ag:=by
 intro ρ H hd a xs ds Q z hR q r e hQ;cases e;refine⟨a,xs,rfl,q.imp id λq=>q.2,?_⟩;rw[r.len];exact hQ H _ .refl hR (by simp[RD,RI])
def BR(ds:List D):Option D:=some (AV ds)
def M2:RG K true (M9 K) BR:=by
 intro ρ H hd a xs ds Q z hR q r e hQ;cases e;refine⟨a,xs,rfl,?_⟩;rcases q with q|⟨_,q⟩
 .refine .inl ⟨q,λp hp=>?_⟩;obtain⟨R2,x2⟩:=hR.hid (ho:=.tup xs) hp;exact hQ _ _ x2 R2 (Bp (SqT.of AJ) (r.ext hR x2))
 .exact .inr ⟨q,hQ H _ .refl hR (Bp q r)⟩
def FO(ds:List D):Option D:=(B3 ds).map λns=>.im (.int ns.sum)
def eM(K:Frag):List V->Hp->VK->Prop:=λxs H Q=>VG K xs H Q∨VF K xs H Q
def Qk:RG K true (eM K) FO:=by
 intro ρ H hd a xs ds Q z hR q r e hQ;obtain⟨ns,e1,rfl⟩:=i7 e;rw[Eu e1]at r;have:=HF r;subst this;rcases q with q|⟨_,q⟩
 .exact .inl ⟨a,ns,rfl,q,hQ H _ .refl hR (by simp[RD,RI])⟩
 .exact .inr ⟨a,ns,rfl,q,hQ H _ .refl hR (by simp[RD,RI])⟩
def DE(ds:List D):Option D:=(CO ds).map λbs=>.im (.bl (bs.all id))
def MX(ds:List D):Option D:=(CO ds).map λbs=>.im (.bl (bs.any id))
def Qn:RG K false (Zd K) DE:=by
 intro ρ H hd a xs ds Q z hR q r e hQ;obtain⟨ns,e1,rfl⟩:=i7 e;rw[K4 e1]at r;have:=M6 r;subst this;rcases q with q|⟨q,_⟩
 .exact⟨a,ns,rfl,q,hQ H _ .refl hR (by simp[RD,RI])⟩
 .cases q
def Qm:RG K false (Zc K) MX:=by
 intro ρ H hd a xs ds Q z hR q r e hQ;obtain⟨ns,e1,rfl⟩:=i7 e;rw[K4 e1]at r;have:=M6 r;subst this;rcases q with q|⟨q,_⟩
 .exact⟨a,ns,rfl,q,hQ H _ .refl hR (by simp[RD,RI])⟩
 .cases q
def Jl:List Int->Int
 |[]=>0
 |[x]=>x
 |x::r=>if Jl r>x then Jl r else x
def G4:List Int->Int
 |[]=>0
 |[x]=>x
 |x::r=>if G4 r<x then G4 r else x
theorem Rk:∀{xs:List Int},xs≠[]->Jl xs∈xs/\∀x∈xs,x<=Jl xs
 |[],h=>absurd rfl h
 |[x],_=>by simp[Jl]
 |x::y::r,_=>by
  obtain⟨h1,h2⟩:=Rk (xs:=y::r) (by simp);rw[Jl];split
  .next h=>exact⟨iK _ h1,λz m=>by rcases mem_cons.mp m with rfl|m;omega;exact h2 z m⟩
  .next h=>exact⟨iR,λz m=>by rcases mem_cons.mp m with rfl|m;omega;exact Int.le_trans (h2 z m) (by omega)⟩
  .simp
theorem Ga:∀{xs:List Int},xs≠[]->G4 xs∈xs/\∀x∈xs,G4 xs<=x
 |[],h=>absurd rfl h
 |[x],_=>by simp[G4]
 |x::y::r,_=>by
  obtain⟨h1,h2⟩:=Ga (xs:=y::r) (by simp);rw[G4];split
  .next h=>exact⟨iK _ h1,λz m=>by rcases mem_cons.mp m with rfl|m;omega;exact h2 z m⟩
  .next h=>exact⟨iR,λz m=>by rcases mem_cons.mp m with rfl|m;omega;exact Int.le_trans (by omega) (h2 z m)⟩
  .simp
def IP(ds:List D):Option D:=(B3 ds).bind λns=>if ns=[]then none else some (.im (.int (G4 ns)))
def HN{α:Type}{xs:List α}(h:xs≠[]):0<xs.length:=by cases xs<;>simp_all
def Ql:RG K false (VH K) IP:=by
 intro ρ H hd a xs ds Q z hR q r e hQ;obtain⟨ns,e1,e⟩:=i6 e;split at e
 .cases e
 .next hn=>
  cases e;rw[Eu e1]at r;have:=HF r;subst this;have u:∀M:Int,M∈ns->(∀x∈ns,M<=x)->M=G4 ns:=λM m1 m2=>by
   obtain⟨n1,n2⟩:=Ga hn;have:=n2 M m1;have:=m2 _ n1;omega
  rcases q with q|⟨q,_⟩
  .exact⟨a,ns,rfl,q,HN hn,λM m1 m2=>by rw[u M m1 m2];exact hQ H _ .refl hR (by simp[RD,RI])⟩
  .cases q
def Vb:List D->Hd->Option (D×Hd)
 |[.im (.int i),.im (.int j)],hd=>some (.im (.int (if j>i then j else i)),hd)
 |_,_=>none
def HQ:List D->Hd->Option (D×Hd)
 |[.im (.int i),.im (.int j)],hd=>some (.im (.int (if j<i then j else i)),hd)
 |_,_=>none
def Wc:RF K (λxs H Q=>∃i j,xs=[.int i,.int j]/\Q (.int (if j<i then j else i)) H) HQ:=by
 intro ρ H hd ds vs Q z hd' hR h1 hf hQ;unfold HQ at hf;split at hf
 .cases hf;simp only[RDs,RD,RI]at h1;obtain⟨x,r,rfl,rfl,y,r2,rfl,rfl,rfl⟩:=h1;exact⟨_,_,rfl,hQ ρ H _ .refl hR (by simp[RD,RI])⟩
 .cases hf
def Gk:List D->Hd->Option (D×Hd)
 |[.im (.int i)],hd=>some (.im (.int (if i<0 then -i else i)),hd)
 |_,_=>none
def ZI:RF K (λxs H Q=>∃i,xs=[.int i]/\Q (.int (if i<0 then -i else i)) H) Gk:=by
 intro ρ H hd ds vs Q z hd' hR h1 hf hQ;unfold Gk at hf;split at hf
 .cases hf;simp only[RDs,RD,RI]at h1;obtain⟨x,r,rfl,rfl,rfl⟩:=h1;exact⟨_,rfl,hQ ρ H _ .refl hR (by simp[RD,RI])⟩
 .cases hf
def dX(ma:ME):MA:=λls hd=>(ma ls hd).bind λp=>(Ad p.2 p.1).map (·,p.2)
def Ge(ml:MA):MA:=ml
def TQ{t:TE}{m:MA}(h:RN K t m):RN K (tCB (Jc K) (Bc t CD)) (Ge m):=by
 and_intros;refine h ρ σ H hd ls _ d _ hR hL hm λρ1 H1 a xs x1 R1 na oa ea r1=>?_;refine⟨a,xs,rfl,.inl (SqL.of ea),λl hl=>?_⟩;obtain⟨R2,x2⟩:=R1.hid (ho:=.lst xs) hl;exact hQ ρ1 _ l xs (x1.trans R1 x2) R2 (x1.none hR hl R1) (R1.out hl) AJ (r1.ext R1 x2)
def Dw:I->Option V
 |.non=>some .non
 |.bl b=>some (.bl b)
 |.int i=>some (.int i)
 |.str x=>some (.str x)
 |.tup _=>none
def Bq:List D->Option (List V)
 |[]=>some []
 |.im i::r=>(Dw i).bind λv=>(Bq r).map (v::·)
 |_::_=>none
def IR{i:I}{v w:V}(e:Dw i=some w)(h:RI K H i v):v=w/\Dv w=true:=by
 cases i with
 |tup _=>simp[Dw]at e
 |_=>simp only[Dw,Option.some.injEq]at e;subst e;exact⟨by simpa only[RI]using h,rfl⟩
theorem Gj:∀{ds:List D} {vs ws:List V},Bq ds=some ws->RDs K ρ H ds vs->vs=ws/\ws.all Dv=true
 |[],vs,ws,e,h=>by simp[Bq]at e;subst e;simp only[RDs]at h;subst h;exact⟨rfl,rfl⟩
 |.im i::r,vs,ws,e,h=>by
  simp only[Bq]at e;obtain⟨v,e1,e⟩:=i6 e;obtain⟨us,e2,rfl⟩:=i7 e;simp only[RDs,RD]at h;obtain⟨x,y,rfl,h1,h2⟩:=h;obtain⟨rfl,f1⟩:=IR e1 h1;obtain⟨rfl,f2⟩:=Gj e2 h2;exact⟨rfl,by simp[f1,f2]⟩
 |.mu _::_,_,_,e,_=>by simp[Bq]at e
 |.tm _::_,_,_,e,_=>by simp[Bq]at e
 |.ro _::_,_,_,e,_=>by simp[Bq]at e
 |.op _ _ _::_,_,_,e,_=>by simp[Bq]at e
def gIn(neg:Bool):D->D->Hd->Option (D×Hd)
 |.im i,e,hd=>(Dw i).bind λx=>(Ad hd e).bind λds=>(Bq ds).map λxs=>(.im (.bl (if neg then !inV x xs else inV x xs)),hd)
 |_,_,_=>none
def VD{neg:Bool}:RB K (rIn K neg) (gIn neg):=by
 intro ρ H hd d e v u Q z hd' hR h1 h2 hf hQ;unfold gIn at hf;split at hf
 .obtain⟨x,e1,hf⟩:=i6 hf;obtain⟨ds,e2,hf⟩:=i6 hf;obtain⟨xs,e3,e4⟩:=i7 hf;cases e4;simp only[RD]at h1;obtain⟨rfl,f1⟩:=IR e1 h1;obtain⟨a,ys,rfl,q,r⟩:=h2.seq hR e2;obtain⟨rfl,f2⟩:=Gj e3 r;exact⟨a,ys,rfl,q,f1,f2,hQ ρ H _ .refl hR (by simp[RD,RI])⟩
 .cases hf
def mMt(f:D->List D->Hd->Option (D×Hd))(mo:ME)(ma:MA):ME:=λls hd=>(mo ls hd).bind λp=>match Ay p.2 p.1 with
 |some _=>(ma ls p.2).bind λq=>f p.1 q.1 q.2
 |none=>none
def RM(K:Frag)(r:V->List V->Hp->VK->Prop)(f:D->List D->Hd->Option (D×Hd)):Prop:=∀(ρ:List Addr) (H:Hp) (hd:Hd) (d:D) (v:V) (ds:List D) (vs:List V) (Q:VK) (z:D) (hd':Hd),RH K ρ H hd->RD K ρ H d v->RDs K ρ H ds vs->f d ds hd=some (z,hd') ->
 (∀ρ' H' w,Ext ρ H ρ' H'->RH K ρ' H' hd'->RD K ρ' H' z w->Q w H')->r v vs H Q
def V9{r:V->List V->Hp->VK->Prop}{f:D->List D->Hd->Option (D×Hd)}{to:TE}{t:TA}{mo:ME}{ma:MA}(hr:RM K r f)(ho:RE K to mo)(ha:RA K t ma):RE K (tBM K "list" r to t) (mMt f mo ma):=by
 and_intros;obtain⟨⟨d1,h1⟩,e1,hm⟩:=i6 hm;dsimp only at hm;split at hm
 .next e=>
  obtain⟨⟨d2,h2⟩,e2,hm⟩:=i6 hm;refine ho ρ σ H hd ls _ d1 h1 hR hL e1 λρ1 H1 v x1 R1 r1=>⟨?_,?_⟩
  .obtain⟨a,xs,rfl,q,_⟩:=r1.lst R1 e;exact .inl ⟨rfl,xs,q⟩
  .exact ha ρ1 σ H1 h1 ls _ d2 h2 R1 (hL.ext hR x1) e2 λρ2 H2 vs x2 R2 r2=>hr ρ2 H2 h2 d1 v d2 vs Q d hd' R2 (r1.ext R1 x2) r2 hm λρ' H' w x3 R3 r3=>hQ ρ' H' w ((x1.trans R1 x2).trans R2 x3) R3 r3
 .cases hm
def ZP{r:V->List V->Hp->VK->Prop}{f:D->List D->Hd->Option (D×Hd)}{to:TE}{mo:ME}(hr:RM K r f)(ho:RE K to mo):RE K (T4 K "list" r to) (mMt f mo A4):=V9 (t:=CD) hr ho Qw
open Classical in
def Ab:D->List D->Hd->Option (D×Hd)
 |.mu n,[x],hd=>match hd[n]? with
  |some (.lst ds)=>if FK ds.length then some (.im .non,hd.set n (.lst (ds++[x])))else none
  |_=>none
 |_,_,_=>none
def Qi:RM K Ni Ab:=by
 intro ρ H hd d v ds vs Q z hd' hR h1 h2 hf hQ;unfold Ab at hf;split at hf
 .split at hf
  .next q=>
   split at hf
   .next c=>
    cases hf;simp only[RD]at h1;obtain⟨a,hn,rfl⟩:=h1;simp only[RDs]at h2;obtain⟨x,r,rfl,rx,rfl⟩:=h2;obtain⟨xs,e1,e2⟩:=hR.lst hn q;obtain⟨R2,x2⟩:=hR.put hn (o:=.lst (_++[_])) (ho:=.lst (xs++[x])) ⟨_,rfl,e2.app (.cons rx .nil)⟩;exact⟨a,xs,x,rfl,rfl,e1,by rw[e2.len];exact c,hQ ρ _ _ x2 R2 (by simp[RD,RI])⟩
   .cases hf
  .cases hf
 .cases hf
def Ex:D->List D->Hd->Option (D×Hd)
 |.mu n,[],hd=>match hd[n]? with
  |some (.lst ds)=>(ds[ds.length-1]?).map λy=>(y,hd.set n (.lst ds.dropLast))
  |_=>none
 |_,_,_=>none
theorem RDs.dropLast{ds:List D}{xs:List V}(h:RDs K ρ H ds xs):RDs K ρ H ds.dropLast xs.dropLast:=by
 rw[List.dropLast_eq_take,List.dropLast_eq_take,h.len];exact h.take _
def ZD:RM K Za Ex:=by
 intro ρ H hd d v ds vs Q z hd' hR h1 h2 hf hQ;unfold Ex at hf;split at hf
 .split at hf
  .next q=>
   obtain⟨y,e0,e3⟩:=i7 hf;cases e3;simp only[RD]at h1;obtain⟨a,hn,rfl⟩:=h1;simp only[RDs]at h2;subst h2;obtain⟨xs,e1,e2⟩:=hR.lst hn q;obtain⟨x,x1,x3⟩:=e2.get e0;obtain⟨R2,x2⟩:=hR.put hn (o:=.lst _) (ho:=.lst xs.dropLast) ⟨_,rfl,e2.dropLast⟩;exact⟨a,xs,x,rfl,rfl,e1,by rw[e2.len];exact x1,hQ ρ _ _ x2 R2 (x3.ext hR x2)⟩
  .cases hf
 .cases hf
end
end L2
namespace L2
open PySem PySem.Spec PyProof.Rows
section
variable{K:Frag}{ρ ρ':List Addr}{H H':Hp}{hd hd':Hd}
def Aa:MS:=λls hd=>some (.nx ls,hd)
def JY:RS K HB Aa:=by
 intro ρ σ H hd ls E f hd' hR hL hm hQ;cases hm;exact hQ ρ H .refl hR σ hL
def A8(a b:MS):MS:=λls hd=>(a ls hd).bind λp=>match p.1 with
 |.nx ls1=>b ls1 p.2
 |f=>some (f,p.2)
def Qc{t u:TS}{a b:MS}(ha:RS K t a)(hb:RS K u b):RS K (LW t u) (A8 a b):=by
 intro ρ σ H hd ls E f hd' hR hL hm hQ;obtain⟨⟨f1,h1⟩,e1,hm⟩:=i6 hm;refine ha ρ σ H hd ls { E with nx:=u E } f1 h1 hR hL e1 λρ1 H1 x1 R1=>?_;cases f1 with
 |nx ls1=>
  intro σ1 L1;exact hb ρ1 σ1 H1 h1 ls1 E f hd' R1 L1 hm λρ2 H2 x2 R2=>hQ ρ2 H2 (x1.trans R1 x2) R2
 |bk ls1=>cases hm;exact hQ ρ1 H1 x1 R1
 |ct ls1=>cases hm;exact hQ ρ1 H1 x1 R1
 |rt d=>cases hm;exact hQ ρ1 H1 x1 R1
def bK:MS:=λls hd=>some (.bk ls,hd)
def db:MS:=λls hd=>some (.ct ls,hd)
def Aw(m:ME):MS:=λls hd=>(m ls hd).bind λp=>some (.nx ls,p.2)
def WU{t:TE}{m:ME}(h:RE K t m):RS K (Oe t) (Aw m):=by
 intro ρ σ H hd ls E f hd' hR hL hm hQ;obtain⟨⟨d1,h1⟩,e1,hm⟩:=i6 hm;cases hm;exact h ρ σ H hd ls _ d1 _ hR hL e1 λρ1 H1 v x1 R1 r1=>hQ ρ1 H1 x1 R1 σ (hL.ext hR x1)
def AM(m:ME):MS:=λls hd=>(m ls hd).bind λp=>some (.rt p.1,p.2)
def Ir{t:TE}{m:ME}(h:RE K t m):RS K (Fu t) (AM m):=by
 intro ρ σ H hd ls E f hd' hR hL hm hQ;obtain⟨⟨d1,h1⟩,e1,hm⟩:=i6 hm;cases hm;exact h ρ σ H hd ls _ d1 _ hR hL e1 λρ1 H1 v x1 R1 r1=>hQ ρ1 H1 x1 R1 v r1
def dW:MS:=λ_ hd=>some (.rt (.im .non),hd)
def Aj(c:MT)(a b:MS):MS:=λls hd=>(c ls hd).bind λp=>if p.1=true then a ls p.2 else b ls p.2
def V6{tc:TT}{t u:TS}{c:MT}{a b:MS}(hc:RT K tc c)(ha:RS K t a)(hb:RS K u b):RS K (LY tc t u) (Aj c a b):=by
 intro ρ σ H hd ls E f hd' hR hL hm hQ;obtain⟨⟨d1,h1⟩,e1,hm⟩:=i6 hm;refine hc ρ σ H hd ls _ d1 h1 hR hL e1 λρ1 H1 x1 R1=>?_;cases d1 with
 |true=>
  rw[i9 rfl]at hm ⊢;exact ha ρ1 σ H1 h1 ls E f hd' R1 (hL.ext hR x1) hm λρ2 H2 x2 R2=>hQ ρ2 H2 (x1.trans R1 x2) R2
 |false=>
  rw[ic Bool.false_ne_true]at hm ⊢;exact hb ρ1 σ H1 h1 ls E f hd' R1 (hL.ext hR x1) hm λρ2 H2 x2 R2=>hQ ρ2 H2 (x1.trans R1 x2) R2
def CS:MS:=λ_ _=>none
def M0:RS K Ik CS:=by
 intro ρ σ H hd ls E f hd' hR hL hm hQ;cases hm
abbrev MG:=D->Ls->Hd->Option Ls
abbrev MGs:=List D->Ls->Hd->Option Ls
def RGt(K:Frag)(t:TG)(m:MG):Prop:=∀(ρ:List Addr) (σ:St) (H:Hp) (hd:Hd) (ls ls':Ls) (d:D) (v:V) (Q:St->Hp->Prop),RH K ρ H hd->RL K ρ H ls σ->RD K ρ H d v->m d ls hd=some ls' ->
 (∀σ',RL K ρ H ls' σ'->Q σ' H)->t v σ H Q
def N7(K:Frag)(t:TGs)(m:MGs):Prop:=∀(ρ:List Addr) (σ:St) (H:Hp) (hd:Hd) (ls ls':Ls) (d:List D) (v:List V) (Q:St->Hp->Prop),RH K ρ H hd->RL K ρ H ls σ->RDs K ρ H d v->m d ls hd=some ls' ->
 (∀σ',RL K ρ H ls' σ'->Q σ' H)->t v σ H Q
theorem RL.set{ls:Ls}{σ:St}{d:D}{v:V}(h:RL K ρ H ls σ)(i:Nat)(r:RD K ρ H d v):RL K ρ H (ls.set i (some d)) (σ.set i (some v)):=by
 refine⟨by simp[h.len],λj e q=>?_⟩;by_cases hij:i=j
 .subst hij;have hl:i<ls.length:=by
   have:=(List.getElem?_eq_some_iff.mp q).1;simpa using this
  rw[List.getElem?_set_self hl]at q;cases q;exact⟨v,by rw[List.getElem?_set_self (by rw[<- h.len];exact hl)],r⟩
 .rw[List.getElem?_set_ne hij]at q;obtain⟨w,e1,e2⟩:=h.ob j e q;exact⟨w,by rw[List.getElem?_set_ne hij];exact e1,e2⟩
def AC(i:Nat):MG:=λd ls _=>some (ls.set i (some d))
def HE{i:Nat}:RGt K (Ct i) (AC i):=by
 intro ρ σ H hd ls ls' d v Q hR hL hd hm hQ;cases hm;exact hQ _ (hL.set i hd)
def Bg:MGs:=λds ls _=>match ds with
 |[]=>some ls
 |_=>none
def AU(m:MG)(r:MGs):MGs:=λds ls hd=>match ds with
 |d::es=>(m d ls hd).bind λls1=>r es ls1 hd
 |[]=>none
def Wb:N7 K Ud Bg:=by
 intro ρ σ H hd ls ls' d v Q hR hL hd hm hQ;cases d with
 |nil=>
  simp only[RDs]at hd;subst hd;cases hm;exact⟨rfl,hQ _ hL⟩
 |cons a b=>cases hm
def TV{t:TG}{u:TGs}{m:MG}{r:MGs}(h:RGt K t m)(h':N7 K u r):N7 K (PQ t u) (AU m r):=by
 intro ρ σ H hd ls ls' d v Q hR hL hd hm hQ;cases d with
 |nil=>cases hm
 |cons a b=>
  simp only[RDs]at hd;obtain⟨x,y,rfl,h1,h2⟩:=hd;obtain⟨ls1,e1,e2⟩:=i6 hm;exact⟨x,y,rfl,h ρ σ H _ ls ls1 a x _ hR hL h1 e1 λσ1 L1=>h' ρ σ1 H _ ls1 ls' b y Q hR L1 h2 e2 hQ⟩
def Bb(n:Nat)(r:MGs):MG:=λd ls hd=>(AL d).bind λds=>if ds.length=n then r ds ls hd else none
def ZG{n:Nat}{u:TGs}{r:MGs}(h':N7 K u r):RGt K (PP K n u) (Bb n r):=by
 intro ρ σ H hd ls ls' d v Q hR hL hd hm hQ;obtain⟨ds,e1,hm⟩:=i6 hm;split at hm
 .next c=>
  obtain⟨a,xs,rfl,q,rr⟩:=hd.tup e1;exact⟨a,xs,rfl,q,by rw[rr.len];exact c,h' ρ σ H _ ls ls' ds xs Q hR hL rr hm hQ⟩
 .cases hm
def GA(m:ME)(g:MG):MS:=λls hd=>(m ls hd).bind λp=>(g p.1 ls p.2).map λls'=>(.nx ls',p.2)
def Iu{t:TE}{m:ME}{g:TG}{n:MG}(h:RE K t m)(hg:RGt K g n):RS K (DK t g) (GA m n):=by
 intro ρ σ H hd ls E f hd' hR hL hm hQ;obtain⟨⟨d1,h1⟩,e1,hm⟩:=i6 hm;obtain⟨ls',e2,e3⟩:=i7 hm;cases e3;exact h ρ σ H hd ls _ d1 _ hR hL e1 λρ1 H1 v x1 R1 r1=>hg ρ1 σ H1 _ ls ls' d1 v _ R1 (hL.ext hR x1) r1 e2 λσ' L'=>hQ ρ1 H1 x1 R1 σ' L'
abbrev AE(i:Nat)(m:ME):MS:=GA m (AC i)
def CG(ix:List Nat)(ma:MA):MS:=λls hd=>(ma ls hd).bind λp=>if p.1.length=ix.length then some (.nx ((ix.zip p.1).foldl (λl q=>l.set q.1 (some q.2)) ls),p.2)else none
def Z8{i j:Nat}{t:TA}{m:MA}(h:RA K t m):RS K (Sw i j t) (CG [i,j] m):=by
 intro ρ σ H hd ls E f hd' hR hL hm hQ;obtain⟨⟨d1,h1⟩,e1,hm⟩:=i6 hm;dsimp only at hm;split at hm
 .next c=>
  cases hm;refine h ρ σ H hd ls _ d1 _ hR hL e1 λρ1 H1 v x1 R1 r1=>?_
  match d1,c,r1,hQ with
  |[a,b],_,r1,hQ=>
   simp only[RDs]at r1;obtain⟨x,r,rfl,ra,y,r2,rfl,rb,rfl⟩:=r1;exact⟨x,y,rfl,hQ ρ1 H1 x1 R1 _ (((hL.ext hR x1).set i ra).set j rb)⟩
 .cases hm
def HL(i j k:Nat)(ma:MA):MS:=CG [k,j,i] (λls hd=>(ma ls hd).map λp=>(p.1.reverse,p.2))
def WN{i j k:Nat}{t:TA}{m:MA}(h:RA K t m):RS K (Ob i j k t) (HL i j k m):=by
 intro ρ σ H hd ls E f hd' hR hL hm hQ;obtain⟨⟨d1,h1⟩,e1,hm⟩:=i6 hm;obtain⟨⟨d2,h2⟩,e2,e3⟩:=i7 e1;cases e3;dsimp only at hm;split at hm
 .next c=>
  cases hm;refine h ρ σ H hd ls _ d2 _ hR hL e2 λρ1 H1 v x1 R1 r1=>?_;have c:d2.length=3:=by simpa using c
  match d2,c,r1,hQ with
  |[a,b,e],_,r1,hQ=>
   simp only[RDs]at r1;obtain⟨x,r,rfl,ra,y,r2,rfl,rb,z,r3,rfl,rc,rfl⟩:=r1;exact⟨x,y,z,rfl,hQ ρ1 H1 x1 R1 _ ((((hL.ext hR x1).set k rc).set j rb).set i ra)⟩
 .cases hm
abbrev Gd:=List (Nat×List D)
abbrev MI:=Ls->Hd->Option ((List D×Gd)×Hd)
def GOk(hd:Hd)(g:Gd):Prop:=∀p∈g,hd[p.1]?=some (.lst p.2)
@[simp] theorem AK(hd:Hd):GOk hd []:=λp h=>by cases h
def JM(K:Frag)(ρ:List Addr)(H:Hp)(J:It)(ds:List D)(g:Gd):Prop:=∀(ρ2:List Addr) (H2:Hp) (hd2:Hd),Ext ρ H ρ2 H2->RH K ρ2 H2 hd2->GOk hd2 g ->
 ∀i:Nat,(i<ds.length->J.go i H2/\∀x H3,J.yld i H2 x H3->∃ρ3 d,Ext ρ2 H2 ρ3 H3/\ρ3=ρ2/\RH K ρ3 H3 hd2/\ds[i]?=some d/\RD K ρ3 H3 d x)/\(i=ds.length->J.stop i H2)
def RIt(K:Frag)(t:TI)(m:MI):Prop:=∀(ρ:List Addr) (σ:St) (H:Hp) (hd:Hd) (ls:Ls) (Q:It->Hp->Prop) (d:List D) (g:Gd) (hd':Hd),RH K ρ H hd->RL K ρ H ls σ->m ls hd=some ((d,g),hd') ->
 (∀ρ' H' J,Ext ρ H ρ' H'->RH K ρ' H' hd'->GOk hd' g->JM K ρ' H' J d g->Q J H')->t σ H Q
def OP{a:Addr}{xs:List V}{ds:List D}(hR:RH K ρ H hd)(q:SqT K H a xs)(r:RDs K ρ H ds xs)(g:Gd):JM K ρ H (Itt K a) ds g:=by
 intro ρ2 H2 hd2 x2 R2 _ i;have q2:=(x2.grow hR).sq q;have r2:=r.ext hR x2;have uniq:∀ys,SqT K H2 a ys->True:=λ_ _=>trivial;refine⟨λhi=>?_,λhi=>⟨xs,q2,by rw[r2.len,hi];exact ig _⟩⟩;have e:ds[i]?=some ds[i]:=by simp[hi]
 obtain⟨x,x1,x3⟩:=r2.get e;refine⟨⟨xs,x,q2,x1⟩,λy H3 ⟨e3,hy⟩=>?_⟩;subst e3;have:=hy xs q2;rw[x1]at this;cases this;exact⟨ρ2,_,.refl,rfl,R2,e,x3⟩
def BF(m:ME):MI:=λls hd=>(m ls hd).bind λp=>(AL p.1).map λds=>((ds,[]),p.2)
def Qj{t:TE}{m:ME}(h:RE K t m):RIt K (Ma K t) (BF m):=by
 intro ρ σ H hd ls Q d g hd' hR hL hm hQ;obtain⟨⟨d1,h1⟩,e1,hm⟩:=i6 hm;obtain⟨ds,e2,e3⟩:=i7 hm;cases e3;refine h ρ σ H hd ls _ d1 _ hR hL e1 λρ1 H1 v x1 R1 r1=>?_;obtain⟨a,xs,rfl,q,r⟩:=r1.tup e2;exact⟨a,rfl,⟨xs,q⟩,hQ ρ1 H1 _ x1 R1 (AK _) (OP R1 q r [])⟩
def BV(m:ME):MI:=λls hd=>(m ls hd).bind λp=>match p.1 with
 |.mu n=>match p.2[n]? with
  |some (.lst ds)=>some ((ds,[(n,ds)]),p.2)
  |_=>none
 |.ro ns=>some ((ns.map λn=>.im (.int n),[]),p.2)
 |_=>none
def Nc{t:TE}{m:ME}(h:RE K t m):RIt K (JE K t) (BV m):=by
 intro ρ σ H hd ls Q d g hd' hR hL hm hQ;obtain⟨⟨d1,h1⟩,e1,hm⟩:=i6 hm;dsimp only at hm;split at hm
 .next n=>
  split at hm
  .next ds q=>
   cases hm;refine h ρ σ H hd ls _ _ _ hR hL e1 λρ1 H1 v x1 R1 r1=>?_;simp only[RD]at r1;obtain⟨a,hn,rfl⟩:=r1;obtain⟨xs,e2,e3⟩:=R1.lst hn q;refine⟨a,rfl,⟨xs,SqL.of e2⟩,hQ ρ1 H1 _ x1 R1 (λp z=>by simp at z;subst z;exact q) ?_⟩;intro ρ2 H2 hd2 x2 R2 G2 i;have q2:=G2 (n,d) (by simp);have hn2:ρ2[n]?=some a:=by
    obtain⟨r,rfl,_⟩:=x2.pre;rw[List.getElem?_append_left (List.getElem?_eq_some_iff.mp hn).1];exact hn
   obtain⟨ys,e4,e5⟩:=R2.lst hn2 q2;refine⟨λhi=>?_,λhi=>⟨ys,SqL.of e4,by rw[e5.len,hi];exact ig _⟩⟩;have e:d[i]?=some d[i]:=by simp[hi]
   obtain⟨x,y1,y2⟩:=e5.get e;refine⟨⟨ys,x,SqL.of e4,y1⟩,λy H3 ⟨e6,hy⟩=>?_⟩;subst e6;have:=hy ys (SqL.of e4);rw[y1]at this;cases this;exact⟨ρ2,_,.refl,rfl,R2,e,y2⟩
  .cases hm
 .next ns=>
  cases hm;refine h ρ σ H hd ls _ _ _ hR hL e1 λρ1 H1 v x1 R1 r1=>?_;simp only[RD]at r1;obtain⟨a,rfl,q⟩:=r1;refine⟨a,rfl,⟨_,q.sq⟩,hQ ρ1 H1 _ x1 R1 (AK _) ?_⟩;intro ρ2 H2 hd2 x2 R2 G2 i;have q2:=(q.grow (x2.grow R1)).sq;have e5:RDs K ρ2 H2 (ns.map λn=>.im (.int n)) (ns.map V.int):=Ff;refine⟨λhi=>?_,λhi=>⟨_,q2,by rw[e5.len,hi];exact ig _⟩⟩;have e:(ns.map λn=>D.im (.int n))[i]?=some ((ns.map λn=>D.im (.int n))[i]):=by simp[hi]
  obtain⟨x,y1,y2⟩:=e5.get e;refine⟨⟨_,x,q2,y1⟩,λy H3 ⟨e6,hy⟩=>?_⟩;subst e6;have:=hy _ q2;rw[y1]at this;cases this;exact⟨ρ2,_,.refl,rfl,R2,e,y2⟩
 .cases hm
def bJ(ml:MA):MI:=λls hd=>(ml ls hd).map λp=>((p.1,[]),p.2)
def AG(lo:Int):Nat->List D
 |0=>[]
 |n+1=>.im (.int lo)::AG (lo+1) n
@[simp] theorem Iy(lo:Int)(n:Nat):(AG lo n).length=n:=by
 induction n generalizing lo with
 |zero=>rfl
 |succ n ih=>simp[AG,ih]
def Iz{n:Nat}:∀{lo:Int} {i:Nat},i<n->(AG lo n)[i]?=some (.im (.int (lo+i))):=by
 induction n with
 |zero=>intro lo i h;omega
 |succ n ih=>
  intro lo i h;cases i with
  |zero=>simp[AG]
  |succ i=>
   simp only[AG,List.getElem?_cons_succ];rw[ih (by omega)]
   congr 3
   push_cast
   omega
def OQ{lo:Int}{n:Nat}{g:Gd}:JM K ρ H (Itr lo n) (AG lo n) g:=by
 intro ρ2 H2 hd2 x2 R2 G2 i;refine⟨λhi=>?_,λhi=>by rw[hi,Iy];exact ig _⟩;rw[Iy]at hi;refine⟨hi,λx H3 ⟨e1,e2⟩=>?_⟩;subst e1 e2;exact⟨ρ2,_,.refl,rfl,R2,Iz hi,by simp[RD,RI]⟩
open Classical in
def Bh(m:MA):MI:=λls hd=>(m ls hd).bind λp=>match p.1 with
 |[.im (.int j)]=>if GV j then some ((AG 0 j.toNat,[]),p.2)else none
 |_=>none
def Wa{t:TA}{m:MA}(h:RA K t m):RIt K (PL t) (Bh m):=by
 intro ρ σ H hd ls Q d g hd' hR hL hm hQ;obtain⟨⟨d1,h1⟩,e1,hm⟩:=i6 hm;dsimp only at hm;split at hm
 .next j=>
  split at hm
  .next c=>
   cases hm;refine h ρ σ H hd ls _ _ _ hR hL e1 λρ1 H1 v x1 R1 r1=>?_;simp only[RDs,RD,RI]at r1;obtain⟨x,r,rfl,rfl,rfl⟩:=r1;exact⟨j,rfl,c.1,c.2,hQ ρ1 H1 _ x1 R1 (AK _) OQ⟩
  .cases hm
 .cases hm
open Classical in
def VW(m:MA):MI:=λls hd=>(m ls hd).bind λp=>match p.1 with
 |[.im (.int i),.im (.int j)]=>if TM i j then some ((AG i (j-i).toNat,[]),p.2)else none
 |_=>none
open Classical in
def B1(n:MG)(b:MS)(g:Gd):List D->Ls->Hd->Option (Fl×Hd)
 |[],ls,hd=>some (.nx ls,hd)
 |d::r,ls,hd=>(n d ls hd).bind λls1=>(b ls1 hd).bind λp=>match p.1 with
  |.nx ls2=>if GOk p.2 g then B1 n b g r ls2 p.2 else none
  |.ct ls2=>if GOk p.2 g then B1 n b g r ls2 p.2 else none
  |.bk ls2=>some (.nx ls2,p.2)
  |.rt d=>some (.rt d,p.2)
def Ax(mi:MI)(n:MG)(b:MS):MS:=λls hd=>(mi ls hd).bind λp=>B1 n b p.1.2 p.1.1 ls p.2
def Qf{wi:TI}{g:TG}{tb:TS}{mi:MI}{n:MG}{b:MS}(hi:RIt K wi mi)(hg:RGt K g n)(hb:RS K tb b):RS K (LZ wi g tb) (Ax mi n b):=by
 intro ρ σ H hd ls E f hd' hR hL hm hQ;obtain⟨⟨⟨ds,gd⟩,h1⟩,e1,hm⟩:=i6 hm;refine hi ρ σ H hd ls _ ds gd h1 hR hL e1 λρ1 H1 J x1 R1 G1 Y=>?_;dsimp only at hm;refine⟨λi m σ2 H2=>m=ds.length-i/\i<=ds.length/\∃ρ2 ls2 hd2,Ext ρ1 H1 ρ2 H2/\RH K ρ2 H2 hd2/\RL K ρ2 H2 ls2 σ2/\GOk hd2 gd/\B1 n b gd (ds.drop i) ls2 hd2=some (f,hd'),
  ⟨ds.length,by simp,iT _,ρ1,ls,h1,.refl,R1,hL.ext hR x1,G1,by simpa using hm⟩,?_⟩
 rintro i m σ2 H2 ⟨rfl,hi,ρ2,ls2,hd2,x2,R2,L2',G2,hm2⟩;obtain⟨Y1,Y2⟩:=Y ρ2 H2 hd2 x2 R2 G2 i;by_cases hlt:i<ds.length
 .obtain⟨go,Y1⟩:=Y1 hlt;have ed:ds.drop i=ds[i]::ds.drop (i+1):=ji hlt;rw[ed]at hm2;unfold B1 at hm2;obtain⟨ls3,e3,hm2⟩:=i6 hm2;obtain⟨⟨fl,hd4⟩,e4,hm2⟩:=i6 hm2;refine .inr ⟨go,λσ' H'=>∃ρ2 ls2 hd2,Ext ρ1 H1 ρ2 H'/\RH K ρ2 H' hd2/\RL K ρ2 H' ls2 σ'/\GOk hd2 gd/\B1 n b gd (ds.drop (i+1)) ls2 hd2=some (f,hd'),λσ' H' z=>⟨ds.length-(i+1),by omega,rfl,hlt,z⟩,λx H3 y=>?_⟩;obtain⟨ρ3,d3,x3,rfl,R3,e5,r3⟩:=Y1 x H3 y;have e6:d3=ds[i]:=by
   have:ds[i]?=some ds[i]:=by simp[hlt]
   rw[this]at e5;exact(Option.some.inj e5).symm
  subst e6;refine hg ρ3 σ2 H3 hd2 ls2 ls3 _ x _ R3 (L2'.ext R2 x3) r3 e3 λσ4 L4=>?_;refine hb ρ3 σ4 H3 hd2 ls3 _ fl hd4 R3 L4 e4 λρ5 H5 x5 R5=>?_;have x15:=(x2.trans R2 x3).trans R3 x5;cases fl with
  |nx ls5=>
   intro σ5 L5;dsimp only at hm2;split at hm2
   .next c=>exact⟨ρ5,ls5,hd4,x15,R5,L5,c,hm2⟩
   .cases hm2
  |ct ls5=>
   intro σ5 L5;dsimp only at hm2;split at hm2
   .next c=>exact⟨ρ5,ls5,hd4,x15,R5,L5,c,hm2⟩
   .cases hm2
  |bk ls5=>
   intro σ5 L5;cases hm2;exact hQ ρ5 H5 (x1.trans R1 x15) R5 σ5 L5
  |rt d5=>
   intro v5 r5;cases hm2;exact hQ ρ5 H5 (x1.trans R1 x15) R5 v5 r5
 .have e:i=ds.length:=by omega
  subst e;rw[drop_length]at hm2;unfold B1 at hm2;cases hm2;exact .inl ⟨Y2 rfl,hQ ρ2 H2 (x1.trans R1 x2) R2 σ2 L2'⟩
open Classical in
def BD(n:MG)(c:MT)(m:ME)(g:Gd):List D->Ls->Hd->Option (List D×Hd)
 |[],_,hd=>some ([],hd)
 |d::r,ls,hd=>(n d ls hd).bind λls1=>(c ls1 hd).bind λp=>if p.1=true then(m ls1 p.2).bind λq=>if GOk q.2 g then(BD n c m g r ls1 q.2).map λz=>(q.1::z.1,z.2)else none else if GOk p.2 g then BD n c m g r ls1 p.2 else none
def EW(k:Nat)(ix:List Nat)(ls:Ls):Ls:=List.replicate k none++ix.map λi=>(ls[i]?).join
open Classical in
def Ai(k:Nat)(ix:List Nat)(mi:MI)(n:MG)(c:MT)(m:ME):MA:=λls hd=>(mi ls hd).bind λp=>if CC p.1.1.length then BD n c m p.1.2 p.1.1 (EW k ix ls) p.2 else none
def OK{k:Nat}{ix:List Nat}{ls:Ls}{σ:St}(h:RL K ρ H ls σ):RL K ρ H (EW k ix ls) (FR k ix σ):=by
 refine⟨by simp[EW,FR],λi d e=>?_⟩;unfold EW at e;unfold FR;by_cases hi:i<k
 .rw[List.getElem?_append_left (by simpa using hi),List.getElem?_replicate]at e;split at e<;>cases e
 .have hi':k<=i:=not_lt.mp hi;rw[List.getElem?_append_right (by simpa using hi'),jD,List.getElem?_map]at e ⊢;cases q:ix[i-k]? with
  |none=>rw[q]at e;cases e
  |some j=>
   rw[q]at e;simp only[iI,Option.some.injEq]at e ⊢;have e5:ls[j]?=some (some d):=by
    cases w:ls[j]? with
    |none=>rw[w]at e;cases e
    |some z=>rw[w]at e;simpa using e
   obtain⟨v,e6,e7⟩:=h.ob j d e5;exact⟨v,by rw[e6];rfl,e7⟩
def Nb{k:Nat}{ix:List Nat}{wi:TI}{g:TG}{tf:TT}{te:TE}{mi:MI}{n:MG}{c:MT}{m:ME}(hi:RIt K wi mi)(hg:RGt K g n)(hf:RT K tf c)(he:RE K te m):RN K (Fv k ix wi g tf te) (Ai k ix mi n c m):=by
 intro ρ σ H hd ls Q out hd' hR hL hm hQ;obtain⟨⟨⟨ds,gd⟩,h1⟩,e1,hm⟩:=i6 hm;dsimp only at hm;split at hm
 .next hlen=>
  have hlen:ds.length<=sizeLine:=hlen;refine hi ρ σ H hd ls _ ds gd h1 hR hL e1 λρ1 H1 J x1 R1 G1 Y=>?_;intro Da hDa;obtain⟨R1',x1'⟩:=R1.hid (ho:=.lst []) hDa;have oD:Da∉ρ1:=R1.out hDa;have nD:H Da=none:=x1.none hR hDa R1;refine⟨λi mm σ2 ys H2=>mm=ds.length-i/\i<=ds.length/\∃ρ2 ls2 hd2 es rest,Ext ρ1 (upd H1 Da (.lst ys)) ρ2 H2/\Ext ρ1 H1 ρ2 H2/\Da∉ρ2/\H2 Da=some (.lst ys)/\RH K ρ2 H2 hd2/\RL K ρ2 H2 ls2 σ2/\RDs K ρ2 H2 es ys/\es.length<=i/\GOk hd2 gd/\BD n c m gd (ds.drop i) ls2 hd2=some (rest,hd')/\out=es++rest,
   ⟨ds.length,by simp,iT _,ρ1,_,h1,[],out,.refl,x1',oD,AJ,R1',(OK ((hL.ext hR x1).ext R1 x1')),.nil,ig _,G1,by simpa using hm,rfl⟩,?_⟩
  rintro i mm σ2 ys H2 ⟨rfl,hi,ρ2,ls2,hd2,es,rest,x2',x2,oD2,hD2,R2,L2',r2,hle,G2,hm2,rfl⟩;refine⟨hD2,?_⟩;obtain⟨Y1,Y2⟩:=Y ρ2 H2 hd2 x2 R2 G2 i;by_cases hlt:i<ds.length
  .obtain⟨go,Y1⟩:=Y1 hlt;have ed:ds.drop i=ds[i]::ds.drop (i+1):=ji hlt;rw[ed]at hm2;unfold BD at hm2;obtain⟨ls3,e3,hm2⟩:=i6 hm2;obtain⟨⟨bb,hd4⟩,e4,hm2⟩:=i6 hm2;refine .inr ⟨go,Nat.lt_of_le_of_lt (by rw[r2.len];exact hle) (by omega),λσ' ys' H'=>∃ρ2 ls2 hd2 es' rest',Ext ρ1 (upd H1 Da (.lst ys')) ρ2 H'/\Ext ρ1 H1 ρ2 H'/\Da∉ρ2/\H' Da=some (.lst ys')/\RH K ρ2 H' hd2/\RL K ρ2 H' ls2 σ'/\RDs K ρ2 H' es' ys'/\es'.length<=i+1/\GOk hd2 gd/\BD n c m gd (ds.drop (i+1)) ls2 hd2=some (rest',hd')/\es++rest=es'++rest',λσ' ys' H' z=>⟨ds.length-(i+1),by omega,rfl,hlt,z⟩,λx H3 y=>?_⟩;obtain⟨ρ3,d3,x3,rfl,R3,e5,r3⟩:=Y1 x H3 y;have e6:d3=ds[i]:=by
    have:ds[i]?=some ds[i]:=by simp[hlt]
    rw[this]at e5;exact(Option.some.inj e5).symm
   subst e6;refine hg ρ3 σ2 H3 hd2 ls2 ls3 _ x _ R3 (L2'.ext R2 x3) r3 e3 λσ4 L4=>?_;refine hf ρ3 σ4 H3 hd2 ls3 _ bb hd4 R3 L4 e4 λρ5 H5 x5 R5=>?_;have hD5:H5 Da=some (.lst ys):=x5.keep Da _ (x3.keep Da _ hD2 oD2 nt) oD2 nt;have out5:Da∉ρ5:=by
    obtain⟨r,rfl,fr⟩:=x5.pre;intro z;rcases mem_append.mp z with z|z
    .exact oD2 z
    .have:=fr _ z;rw[x3.keep Da _ hD2 oD2 nt]at this;cases this
   cases bb with
   |false=>
    rw[ic Bool.false_ne_true]at hm2 ⊢;have y25:=x3.trans R3 x5;split at hm2
    .next g5=>exact⟨ρ5,ls3,hd4,es,rest,x2'.trans R2 y25,(x2.trans R2 y25),out5,hD5,R5,L4.ext R3 x5,(r2.ext R2 y25),by omega,g5,hm2,rfl⟩
    .cases hm2
   |true=>
    rw[i9 rfl]at hm2 ⊢;obtain⟨⟨z,hd6⟩,e6,hm2⟩:=i6 hm2;obtain⟨g6,hm2⟩:GOk hd6 gd/\((BD n c m gd (ds.drop (i+1)) ls3 hd6).map λq=>(z::q.1,q.2))=some (rest,hd'):=by
     dsimp only at hm2;split at hm2
     .next g6=>exact⟨g6,hm2⟩
     .cases hm2
    obtain⟨⟨zs,hd7⟩,e7,e8⟩:=i7 hm2;cases e8;refine he ρ5 σ4 H5 hd4 ls3 _ z hd6 R5 (L4.ext R3 x5) e6 λρ6 H6 v6 x6 R6 r6=>?_;have hD6:H6 Da=some (.lst ys):=x6.keep Da _ hD5 out5 nt;have out6:Da∉ρ6:=by
     obtain⟨r,rfl,fr⟩:=x6.pre;intro z;rcases mem_append.mp z with z|z
     .exact out5 z
     .have:=fr _ z;rw[hD5]at this;cases this
    refine⟨hD6,?_⟩;have y26:=(x3.trans R3 x5).trans R5 x6;have gr:Grow H6 (upd H6 Da (.lst (ys++[v6]))):=Grow.refl.put (.lst hD6);have R7:=R6.hput (ho:=.lst (ys++[v6])) out6 hD6;have x12:=x2.trans R2 y26;have ext7:Ext ρ1 H1 ρ6 (upd H6 Da (.lst (ys++[v6]))):=⟨x12.pre,λb o q nb t=>by
     have:b≠Da:=Ac q hDa;rw[AF this];exact x12.keep b o q nb t,λb ps q=>by
     have:b≠Da:=Ac q hDa;rw[AF this];exact x12.tab b ps q⟩
    have ext8:Ext ρ1 (upd H1 Da (.lst (ys++[v6]))) ρ6 (upd H6 Da (.lst (ys++[v6]))):=by
     obtain⟨r,er,fr⟩:=x12.pre;refine⟨⟨r,er,λb hb=>?_⟩,λb o q nb t=>?_,λb ps q=>?_⟩
     .have:b≠Da:=λz=>out6 (by rw[er,<- z];exact ir _ hb);rw[AF this];exact fr b hb
     .by_cases hb:b=Da
      .subst hb;rw[AJ]at q ⊢;exact q
      .rw[AF hb]at q ⊢;exact x12.keep b o q nb t
     .by_cases hb:b=Da
      .subst hb;rw[AJ]at q;cases q
      .rw[AF hb]at q ⊢;exact x12.tab b ps q
    refine⟨ρ6,ls3,hd6,es++[z],zs,ext8,ext7,out6,AJ,R7,?_,?_,by simp;omega,g6,e7,by simp⟩
    .have L6:=(L4.ext R3 x5).ext R5 x6;exact⟨L6.len,λi d e=>let ⟨v,a,b⟩:=L6.ob i d e;⟨v,a,by simpa using b.mono gr []⟩⟩
    .have:=((r2.ext R2 y26).app (.cons r6 .nil)).mono gr [];simpa using this
  .have e:i=ds.length:=by omega
   subst e;rw[drop_length]at hm2;unfold BD at hm2;cases hm2;refine .inl ⟨Y2 rfl,?_⟩;exact hQ ρ2 H2 Da ys (x1.trans R1 x2) R2 nD oD2 hD2 (by simpa using r2)
 .cases hm
end
mutual
def clD(w:Nat):D->Bool
 |.im _=>true
 |.mu n=>decide (n<w)
 |.tm ds=>Au w ds
 |.ro _=>true
 |.op _ _ ds=>Au w ds
def Au(w:Nat):List D->Bool
 |[]=>true
 |d::ds=>clD w d&&Au w ds
end
def GF(w:Nat):List (Key×D)->Bool
 |[]=>true
 |d::ds=>clD w d.2&&GF w ds
def clO(w:Nat):MO->Bool
 |.lst ds=>Au w ds
 |.dic ds=>GF w ds
section
variable{K:Frag}{ρ ρ' ρ1:List Addr}{H H' H1:Hp}{hd hd' h1 h2:Hd}
mutual
theorem RD.take(w:Nat):∀{d:D} {v:V},RD K ρ H d v->clD w d=true->RD K (ρ.take w) H d v
 |.im i,v,h,_=>by simp only[RD]at h ⊢;exact h
 |.mu n,v,h,c=>by
  simp only[RD]at h ⊢;obtain⟨a,e,q⟩:=h;exact⟨a,by rw[List.getElem?_take_of_lt (by simpa [clD]using c)];exact e,q⟩
 |.tm ds,v,h,c=>by
  simp only[RD]at h ⊢;obtain⟨a,xs,e,q,z⟩:=h;exact⟨a,xs,e,q,RDs.take' w z (by simpa [clD]using c)⟩
 |.ro ns,v,h,c=>by simp only[RD]at h ⊢;exact h
 |.op nm fs ds,v,h,c=>by
  simp only[RD]at h ⊢;obtain⟨a,xs,e,q,z⟩:=h;exact⟨a,xs,e,q,RDs.take' w z (by simpa [clD]using c)⟩
theorem RDs.take'(w:Nat):∀{d:List D} {v:List V},RDs K ρ H d v->Au w d=true->RDs K (ρ.take w) H d v
 |[],v,h,_=>by simpa only[RDs]using h
 |d::ds,v,h,c=>by
  simp only[RDs]at h ⊢;obtain⟨x,r',e,q,z⟩:=h;have c:clD w d=true/\Au w ds=true:=by simpa [Au]using c
  exact⟨x,r',e,q.take w c.1,RDs.take' w z c.2⟩
end
theorem RKs.take(w:Nat):∀{d:List (Key×D)} {v:List (Key×V)},RKs K ρ H d v->GF w d=true->RKs K (ρ.take w) H d v
 |[],v,h,_=>by simpa only[RKs]using h
 |d::ds,v,h,c=>by
  simp only[RKs]at h ⊢;obtain⟨x,r',e,q1,q,z⟩:=h;have c:clD w d.2=true/\GF w ds=true:=by simpa [GF]using c
  exact⟨x,r',e,q1,q.take w c.1,RKs.take w z c.2⟩
theorem RC.take(w:Nat){o:MO}{ho:HO}(h:RC K ρ H o ho)(c:clO w o=true):RC K (ρ.take w) H o ho:=by
 cases o with
 |lst ds=>obtain⟨xs,e,q⟩:=h;exact⟨xs,e,q.take' w c⟩
 |dic ds=>obtain⟨xs,e,q⟩:=h;exact⟨xs,e,q.take w c⟩
theorem RH.take(h:RH K ρ H hd)(w:Nat)(c:(hd.take w).all (clO w)=true):RH K (ρ.take w) H (hd.take w):=by
 refine⟨by simp[h.len],h.nd.sublist (List.take_sublist _ _),h.tabs,λn o a e1 e2=>?_⟩;have co:=all_eq_true.mp c o (iH e1);have hn:n<w:=by
  have:=(List.getElem?_eq_some_iff.mp e1).1;simp at this;omega
 rw[List.getElem?_take_of_lt hn]at e1 e2;obtain⟨ho,q1,q2⟩:=h.ob n o a e1 e2;exact⟨ho,q1,q2.take w co⟩
def RH.back(R1:RH K ρ1 H1 h1){w:Nat}(hw:w<=h1.length)(c1:(h1.take w).all (clO w)=true)(x:Ext (ρ1.take w) H1 ρ' H')(R':RH K ρ' H' h2)(c:(h2.take w).all (clO w)=true):
 RH K ρ1 H' (h2.take w++h1.drop w)/\Ext ρ1 H1 ρ1 H'/\ρ'.take w=ρ1.take w:=by
 obtain⟨r,rfl,fr⟩:=x.pre;have lw:(ρ1.take w).length=w:=by rw[iX,R1.len];omega
 have l2:w<=h2.length:=by rw[<- R'.len];simp[lw]
 have tk:(ρ1.take w++r).take w=ρ1.take w:=by rw[List.take_append_of_le_length (by omega),List.take_take];simp
 refine⟨⟨?_,R1.nd,R'.tabs,λn o a e1 e2=>?_⟩,⟨⟨[],by simp,by simp⟩,λb o q nb t=>x.keep b o q (λm=>nb (List.mem_of_mem_take m)) t,x.tab⟩,tk⟩
 .rw[iL,iX,ju,R1.len];omega
 .by_cases hn:n<w
  .rw[List.getElem?_append_left (by rw[iX];omega),List.getElem?_take_of_lt hn]at e1;have e3:(ρ1.take w++r)[n]?=some a:=by
    rw[List.getElem?_append_left (by omega),List.getElem?_take_of_lt hn];exact e2
   obtain⟨ho,q1,q2⟩:=R'.ob n o a e1 e3;have co:=all_eq_true.mp c o (by
    have:(h2.take w)[n]?=some o:=by rw[List.getElem?_take_of_lt hn];exact e1
    exact iH this)
   have q3:=q2.take w co;rw[tk]at q3;have q4:=q3.mono (Grow.refl (H:=H')) (ρ1.drop w);rw[jF]at q4;exact⟨ho,q1,q4⟩
  .rw[List.getElem?_append_right (by rw[iX];omega),iX,List.getElem?_drop]at e1;have e1:h1[n]?=some o:=by
    have:w+(n-min w h2.length)=n:=by omega
    rw[this]at e1;exact e1
   obtain⟨ho,q1,q2⟩:=R1.ob n o a e1 e2;have out:a∉ρ1.take w:=λm=>by
    obtain⟨k,hk⟩:=List.mem_iff_getElem?.mp m;have kw:k<w:=by
     have:=(List.getElem?_eq_some_iff.mp hk).1;rw[lw]at this;exact this
    rw[List.getElem?_take_of_lt kw]at hk;have:=(List.getElem?_inj (List.getElem?_eq_some_iff.mp e2).1 R1.nd).mp (e2.trans hk.symm);omega
   have gr:=x.grow (R1.take w c1);exact⟨ho,x.keep a ho q1 out (λps z=>by rcases R1.mut (iH e2)with⟨y,w⟩|⟨y,w⟩<;>(rw[q1,z]at w;cases w)),by simpa using q2.mono gr []⟩
def spF(K:Frag)(k:Nat)(F:List D->Hd->Option (D×Hd)):Sp:=λvs H Q _=>vs.length=k/\∃(ρ:List Addr) (hd:Hd) (ds:List D) (d:D) (hd':Hd),RH K ρ H hd/\RDs K ρ H ds vs/\F ds hd=some (d,hd')/\
 ∀ρ' H' v,Ext ρ H ρ' H'->RH K ρ' H' hd'->RD K ρ' H' d v->Q v H'
def mkF(k n:Nat)(m:MS):List D->Hd->Option (D×Hd):=λds hd=>if ds.length=k then(match m (ds.map some++List.replicate (n-k) none) hd with
 |some (.rt d,hd')=>some (d,hd')
 |some (.nx _,hd')=>some (.im .non,hd')
 | _=>none)else none
def IC{N:List Str}:∀{ds:List D} {vs:List V},RDs K ρ H ds vs->RL K ρ H (ds.map some++List.replicate (N.length-ds.length) none) (start N vs):=by
 intro ds vs r;have hl:=r.len;refine⟨by simp[start,hl],λi d e=>?_⟩;unfold start;by_cases hi:i<ds.length
 .rw[List.getElem?_append_left (by simpa using hi),List.getElem?_map]at e;have e':ds[i]?=some d:=by
   cases q:ds[i]? with
   |none=>rw[q]at e;cases e
   |some z=>rw[q]at e;simpa using e
  obtain⟨x,x1,x2⟩:=r.get e';exact⟨x,by rw[List.getElem?_append_left (by rw[iu,hl];exact hi),List.getElem?_map,x1];rfl,x2⟩
 .rw[List.getElem?_append_right (by simpa using not_lt.mp hi),List.getElem?_replicate]at e;split at e<;>cases e
def W3{k:Nat}{N:List Str}{m:MS}{t:TS}(h:RS K t m){vs:List V}{H:Hp}{Q:VK}{E:XK}(s:spF K k (mkF k N.length m) vs H Q E):t { nx:=λ_ H'=>Q .non H',rt:=Q } (start N vs) H:=by
 obtain⟨hk,ρ,hd,ds,d,hd',hR,hr,hF,hQ⟩:=s;unfold mkF at hF;split at hF
 .next hl=>
  subst hl;split at hF
  .next q=>
   cases hF;exact h ρ _ H hd _ _ _ _ hR (IC hr) q λρ' H' x R v r=>hQ ρ' H' v x R r
  .next q=>
   cases hF;exact h ρ _ H hd _ _ _ _ hR (IC hr) q λρ' H' x R σ L=>hQ ρ' H' .non x R (by simp[RD,RI])
  .cases hF
 .cases hF
def DT(F:List D->Hd->Option (D×Hd))(ma:MA):ME:=λls hd=>(ma ls hd).bind λp=>F p.1 p.2
def M5{k:Nat}{F:List D->Hd->Option (D×Hd)}{t:TA}{m:MA}(h:RA K t m)(hk:∀ds hd z,F ds hd=some z->ds.length=k):RE K (Dt (spF K k F) [] E0 t) (DT F m):=by
 and_intros;obtain⟨⟨d1,h1⟩,e1,hm⟩:=i6 hm;refine h ρ σ H hd ls _ d1 h1 hR hL e1 λρ1 H1 v1 x1 R1 r1=>?_;rw[iS];exact⟨by rw[r1.len];exact hk _ _ _ hm,ρ1,h1,d1,d,hd',R1,r1,hm,λρ' H' w x2 R2 r2=>hQ ρ' H' w (x1.trans R1 x2) R2 r2⟩
def Xu{k n:Nat}{m:MS}:∀ds hd z,mkF k n m ds hd=some z->ds.length=k:=λds hd z h=>by
 unfold mkF at h;split at h
 .next e=>exact e
 .cases h
def fin(w:Nat)(d:D)(h2 rest:Hd):Option (D×Hd):=if(h2.take w).all (clO w)=true then(match d with
 | .mu k=>if k<w then some (.mu k,h2.take w++rest)else(match h2[k]? with
  |some (.lst ds)=>if Au w ds=true then some (.mu (w+rest.length),h2.take w++rest++[.lst ds])else none
  | _=>none)
 | d=>if clD w d=true then some (d,h2.take w++rest)else none)else none
def A6(w:Nat)(F:List D->Hd->Option (D×Hd))(ma:MA):ME:=λls hd=>(ma ls hd).bind λp=>
 if w<=p.2.length/\Au w p.1=true/\(p.2.take w).all (clO w)=true then(F p.1 (p.2.take w)).bind λr=>fin w r.1 r.2 (p.2.drop w)else none
def M4{w k:Nat}{F:List D->Hd->Option (D×Hd)}{t:TA}{m:MA}(h:RA K t m)(hk:∀ds hd z,F ds hd=some z->ds.length=k):RE K (Dt (spF K k F) [] E0 t) (A6 w F m):=by
 and_intros;obtain⟨⟨d1,h1⟩,e1,hm⟩:=i6 hm;dsimp only at hm;split at hm
 .next c=>
  obtain⟨c0,c1,c2⟩:=c;obtain⟨⟨d2,h2⟩,e2,hm⟩:=i6 hm;refine h ρ σ H hd ls _ d1 h1 hR hL e1 λρ1 H1 v1 x1 R1 r1=>?_;rw[iS];refine⟨by rw[r1.len];exact hk _ _ _ e2,ρ1.take w,h1.take w,d1,d2,h2,R1.take w c2,r1.take' w c1,e2,λρ' H' v x2 R2 r2=>?_⟩;unfold fin at hm;dsimp only at hm;split at hm
  .next c3=>
   obtain⟨R3,x3,tk⟩:=R1.back c0 c2 x2 R2 c3;have up:∀{d:D} {v:V},RD K ρ' H' d v->clD w d=true->RD K ρ1 H' d v:=λr c=>by
    have q:=r.take w c;rw[tk]at q;have q:=q.mono (Grow.refl (H:=H')) (ρ1.drop w);rw[jF]at q;exact q
   have ups:∀{d:List D} {v:List V},RDs K ρ' H' d v->Au w d=true->RDs K ρ1 H' d v:=λr c=>by
    have q:=r.take' w c;rw[tk]at q;have q:=q.mono (Grow.refl (H:=H')) (ρ1.drop w);rw[jF]at q;exact q
   split at hm
   .next k'=>
    split at hm
    .next hk'=>
     cases hm;exact hQ ρ1 H' v (x1.trans R1 x3) R3 (up r2 (by simpa [clD]using hk'))
    .next hk'=>
     split at hm
     .next ds q=>
      split at hm
      .next c4=>
       cases hm;simp only[RD]at r2;obtain⟨a,ea,rfl⟩:=r2;obtain⟨xs,l1,l2⟩:=R2.lst ea q;have len3:=R3.len;have out:a∉ρ1:=λm=>by
        -- a is one of those made behind the first w
        obtain⟨r,er,fr⟩:=x2.pre;have lw:(ρ1.take w).length=w:=by rw[iX,R1.len];omega
        have ma:a∈r:=by
         rw[er,List.getElem?_append_right (by rw[lw];omega)]at ea;exact iH ea
        exact R1.out (fr a ma) m
       have na:H1 a=none:=by
        obtain⟨r,er,fr⟩:=x2.pre;have lw:(ρ1.take w).length=w:=by rw[iX,R1.len];omega
        have ma:a∈r:=by
         rw[er,List.getElem?_append_right (by rw[lw];omega)]at ea;exact iH ea
        exact fr a ma
       refine hQ (ρ1++[a]) H' _ (x1.trans R1 (x3.name na)) (R3.name out l1 (ups l2 c4)) ?_;simp only[RD];refine⟨a,?_,rfl⟩;have:w+(List.drop w h1).length=ρ1.length:=by rw[ju,R1.len];omega
       rw[this];simp
      .cases hm
     .cases hm
   .next d' nd=>
    split at hm
    .next c4=>cases hm;exact hQ ρ1 H' v (x1.trans R1 x3) R3 (up r2 c4)
    .cases hm
  .cases hm
 .cases hm
def B6(c:MT)(b:MS):Nat->Ls->Hd->Option (Fl×Hd)
 |0,_,_=>none
 | k+1,ls,hd=>(c ls hd).bind λp=>if p.1=true then(b ls p.2).bind λq=>(match q.1 with
  |.nx ls2=>B6 c b k ls2 q.2
  |.ct ls2=>B6 c b k ls2 q.2
  |.bk ls2=>some (.nx ls2,q.2)
  | .rt d=>some (.rt d,q.2))else some (.nx ls,p.2)
open Classical in
def CQ(c:MT)(b:MS):MS:=λls hd=>if h:∃r k,B6 c b k ls hd=some r then some h.choose else none
theorem Ds{c:MT}{b:MS}:∀{k j:Nat} {ls:Ls} {hd:Hd} {r:Fl×Hd},B6 c b k ls hd=some r->k<=j->B6 c b j ls hd=some r
 |0,_,_,_,_,h,_=>by cases h
 |k+1,0,_,_,_,_,hj=>by omega
 |k+1,j+1,ls,hd,r,h,hj=>by
  unfold B6 at h ⊢;obtain⟨p,e1,h⟩:=i6 h;rw[e1];show(if p.1=true then _ else _)=_;split at h
  .next c=>
   rw[i9 c];obtain⟨q,e2,h⟩:=i6 h;rw[e2];obtain⟨f,hd2⟩:=q;cases f with
   |nx ls2=>exact Ds h (by omega)
   |ct ls2=>exact Ds h (by omega)
   |bk ls2=>exact h
   |rt d=>exact h
  .next c=>rw[ic c];exact h
def KO{c:MT}{b:MS}{k:Nat}{ls:Ls}{hd:Hd}{r:Fl×Hd}(h:B6 c b k ls hd=some r):CQ c b ls hd=some r:=by
 unfold CQ;have ex:∃r k,B6 c b k ls hd=some r:=⟨r,k,h⟩
 rw[dif_pos ex];obtain⟨j,e⟩:=ex.choose_spec;have e1:=Ds e (Nat.le_max_left j k);have e2:=Ds h (Nat.le_max_right j k);rw[e1]at e2;exact e2
def TJ{tc:TT}{tb:TS}{c:MT}{b:MS}(hc:RT K tc c)(hb:RS K tb b):RS K (LV tc tb) (CQ c b):=by
 intro ρ σ H hd ls E f hd' hR hL hm hQ;obtain⟨k,hk⟩:∃k,B6 c b k ls hd=some (f,hd'):=by
  unfold CQ at hm;split at hm
  .next ex=>
   obtain⟨j,e⟩:=ex.choose_spec;exact⟨j,by rw[e];exact hm⟩
  .cases hm
 refine⟨λm σ2 H2=>∃ρ2 ls2 hd2,Ext ρ H ρ2 H2/\RH K ρ2 H2 hd2/\RL K ρ2 H2 ls2 σ2/\B6 c b m ls2 hd2=some (f,hd'),⟨k,ρ,ls,hd,.refl,hR,hL,hk⟩,?_⟩;rintro m σ2 H2 ⟨ρ2,ls2,hd2,x2,R2,L2',hm2⟩;cases m with
 |zero=>cases hm2
 |succ m=>
  unfold B6 at hm2;obtain⟨⟨bb,hd3⟩,e1,hm2⟩:=i6 hm2;refine hc ρ2 σ2 H2 hd2 ls2 _ bb hd3 R2 L2' e1 λρ3 H3 x3 R3=>?_;cases bb with
  |false=>
   rw[ic Bool.false_ne_true]at hm2 ⊢;cases hm2;exact hQ ρ3 H3 (x2.trans R2 x3) R3 σ2 (L2'.ext R2 x3)
  |true=>
   rw[i9 rfl]at hm2 ⊢;obtain⟨⟨fl,hd4⟩,e2,hm2⟩:=i6 hm2;refine⟨λσ' H'=>∃ρ2 ls2 hd2,Ext ρ H ρ2 H'/\RH K ρ2 H' hd2/\RL K ρ2 H' ls2 σ'/\B6 c b m ls2 hd2=some (f,hd'),λσ' H' z=>⟨m,Nat.lt_succ_self m,z⟩,?_⟩;refine hb ρ3 σ2 H3 hd3 ls2 _ fl hd4 R3 (L2'.ext R2 x3) e2 λρ5 H5 x5 R5=>?_;have x15:=(x2.trans R2 x3).trans R3 x5;cases fl with
   |nx ls5=>intro σ5 L5;exact⟨ρ5,ls5,hd4,x15,R5,L5,hm2⟩
   |ct ls5=>intro σ5 L5;exact⟨ρ5,ls5,hd4,x15,R5,L5,hm2⟩
   |bk ls5=>intro σ5 L5;cases hm2;exact hQ ρ5 H5 x15 R5 σ5 L5
   |rt d5=>intro v5 r5;cases hm2;exact hQ ρ5 H5 x15 R5 v5 r5
def Yn(kvs:List (Key×D))(k:Key):Option D:=(kvs.find? λkv=>decide (kv.1=k)).map (·.2)
def Tt(kvs:List (Key×D))(k:Key)(v:D):List (Key×D):=
 if(kvs.any λkv=>decide (kv.1=k))=true then kvs.map (λkv=>if kv.1=k then(kv.1,v)else kv)else kvs++[(k,v)]
def Gi:D->Option Key
 |.im (.int i)=>some (.inl i)
 |.im (.str x)=>some (.inr x)
 |_=>none
def K0(hd:Hd):D->Option (List (Key×D))
 |.mu n=>match hd[n]? with
  |some (.dic kvs)=>some kvs
  |_=>none
 |_=>none
def di:D->D->Hd->Option (D×Hd):=λd e hd=>(K0 hd d).bind λkvs=>(Gi e).bind λk=>(Yn kvs k).map (·,hd)
open Classical in
def dZ(md my mv:ME):MS:=λls hd=>(mv ls hd).bind λp=>(md ls p.2).bind λq=>(my ls q.2).bind λr=>(Gi r.1).bind λk=>match q.1 with
 |.mu n=>match r.2[n]? with
  |some (.dic kvs)=>if FK kvs.length then some (.nx ls,r.2.set n (.dic (Tt kvs k p.1)))else none
  |_=>none
 |_=>none
def Fc:List (ME×ME)->Ls->Hd->Option (List (Key×D)×Hd)
 |[],_,hd=>some ([],hd)
 |(mk,mv)::r,ls,hd=>(mk ls hd).bind λp=>(mv ls p.2).bind λq=>(Fc r ls q.2).bind λz=>(Gi p.1).map λk=>((k,q.1)::z.1,z.2)
def Rj(kvs more:List (Key×D)):List (Key×D):=more.foldl (λacc kv=>Tt acc kv.1 kv.2) kvs
def dY(ms:List (ME×ME)):ME:=λls hd=>(Fc ms ls hd).bind λp=>if p.1.length<=15 then some (.mu p.2.length,p.2++[.dic (Rj [] p.1)])else none
def EO(mo mi mv:ME):MS:=λls hd=>(mv ls hd).bind λp=>(mo ls p.2).bind λq=>(mi ls q.2).bind λr=>match q.1,r.1 with
 |.mu n,.im (.int i)=>match r.2[n]? with
  |some (.lst ds)=>(ixN ds.length i).map λj=>(.nx ls,r.2.set n (.lst (ds.set j p.1)))
  |_=>none
 |_,_=>none
def WQ{to ti tv:TE}{mo mi mv:ME}(ho:RE K to mo)(hi:RE K ti mi)(hv:RE K tv mv):RS K (DK tv (Ub to ti J0)) (EO mo mi mv):=by
 intro ρ σ H hd0 ls E f hd' hR hL hm hQ;obtain⟨⟨d1,h1⟩,e1,hm⟩:=i6 hm;obtain⟨⟨d2,h2⟩,e2,hm⟩:=i6 hm;obtain⟨⟨d3,h3⟩,e3,hm⟩:=i6 hm;dsimp only at hm;split at hm
 .split at hm
  .next q=>
   obtain⟨j,e4,e5⟩:=i7 hm;cases e5;refine hv ρ σ H hd0 ls _ d1 h1 hR hL e1 λρ1 H1 v1 x1 R1 r1=>?_;refine ho ρ1 σ H1 h1 ls _ _ h2 R1 (hL.ext hR x1) e2 λρ2 H2 v2 x2 R2 r2=>?_;refine hi ρ2 σ H2 h2 ls _ _ _ R2 (hL.ext hR (x1.trans R1 x2)) e3 λρ3 H3 v3 x3 R3 r3=>?_;have r2:=r2.ext R2 x3;simp only[RD]at r2;obtain⟨a,hn,rfl⟩:=r2;simp only[RD,RI]at r3;subst r3;obtain⟨xs,l1,l2⟩:=R3.lst hn q;obtain⟨R4,x4⟩:=R3.put hn (o:=.lst _) (ho:=.lst (xs.set j v1)) ⟨_,rfl,l2.set j ((r1.ext R1 x2).ext R2 x3)⟩;have x13:=(x1.trans R1 x2).trans R2 x3;exact⟨a,xs,_,j,rfl,rfl,l1,by rw[l2.len];exact e4,hQ ρ3 _ (x13.trans R3 x4) R4 σ ((hL.ext hR x13).ext R3 x4)⟩
  .cases hm
 .cases hm
def Gf(i:Nat)(g:Int->Int->Int)(m:ME):MS:=λls hd=>match ls[i]? with
 |some (some (.im (.int x)))=>(m ls hd).bind λp=>match p.1 with
  |.im (.int y)=>some (.nx (ls.set i (some (.im (.int (g x y))))),p.2)
  |_=>none
 |_=>none
def Z9{i:Nat}{g:Int->Int->Int}{t:TE}{m:ME}(h:RE K t m):RS K (JT i t (ipI g)) (Gf i g m):=by
 intro ρ σ H hd0 ls E f hd' hR hL hm hQ;unfold Gf at hm;split at hm
 .next x e0=>
  obtain⟨⟨d1,h1⟩,e1,hm⟩:=i6 hm;dsimp only at hm;split at hm
  .cases hm;obtain⟨v,v1,v2⟩:=hL.ob i _ e0;simp only[RD,RI]at v2;subst v2;refine⟨_,v1,h ρ σ H hd0 ls _ _ _ hR hL e1 λρ1 H1 w x1 R1 r1=>?_⟩;simp only[RD,RI]at r1;subst r1;exact⟨_,_,rfl,rfl,hQ ρ1 H1 x1 R1 _ ((hL.ext hR x1).set i (by simp[RD,RI]))⟩
  .cases hm
 .cases hm
end
end L2
namespace L2
open PySem PySem.Spec PyProof.Rows
structure QG(K:Frag)(X:Cx)(e:Expr)(t:TG)(m:MG):Prop where
 p:PG X e t
 r:RGt K t m
structure QGs(K:Frag)(X:Cx)(e:List Expr)(t:TGs)(m:MGs):Prop where
 p:PGs X e t
 r:N7 K t m
structure QI(K:Frag)(X:Cx)(tg e:Expr)(t:TI)(m:MI):Prop where
 p:PI X tg e t
 r:RIt K t m
structure QF(K:Frag)(X:Cx)(e:List Expr)(t:TT)(m:MT):Prop where
 p:PF X e t
 r:RT K t m
structure QO(K:Frag)(X:Cx)(e:Option Expr)(t:TO)(m:MO1):Prop where
 p:PO X e t
 r:RO1 K t m
def dq(a b:List D):Prop:=a≠[]/\CC (a.length+b.length)
open Classical in
def ER:D->D->Hd->Option (D×Hd):=λd e hd=>(AL d).bind λa=>(AL e).bind λb=>if dq a b then some (AV (a++b),hd)else none
def Nd{K:Frag}:RB K (Ox K) ER:=by
 intro ρ H hd d e v u Q z hd' hR h1 h2 hf hQ;unfold ER at hf;obtain⟨a,e1,hf⟩:=i6 hf;obtain⟨b,e2,hf⟩:=i6 hf;split at hf
 .next c=>
  cases hf;obtain⟨p,xs,rfl,q1,r1⟩:=h1.tup e1;obtain⟨p2,ys,rfl,q2,r2⟩:=h2.tup e2;have l1:=r1.len;have l2:=r2.len;refine⟨p,p2,xs,ys,rfl,rfl,q1,q2,λz=>c.1 (by rw[z]at l1;simpa using l1.symm),by rw[l1,l2];exact c.2,λz=>?_,λ_ p3 hp=>?_⟩
  .have:b=[]:=by rw[z]at l2;simpa using l2.symm
   subst this;exact hQ ρ H _ .refl hR (by rw[iS];exact Bp q1 r1)
  .obtain⟨R2,x2⟩:=hR.hid (ho:=.tup (xs++ys)) hp;exact hQ ρ _ _ x2 R2 (Bp (SqT.of AJ) ((r1.app r2).ext hR x2))
 .cases hf
abbrev AX:=CJ Md ER
def Dk(neg:Bool)(m:ME):ME:=λls hd=>(m ls hd).bind λp=>some (.im (.bl (match p.1 with
 |.im .non=>!neg
 | _=>neg)),p.2)
def b8{K:Frag}{ρ:List Addr}{H:Hp}{d:D}{v:V}(h:RD K ρ H d v):decide (v=.non)=(match d with|.im .non=>true|_=>false):=by
 cases d with
 |im i=>
  cases i with
  |non=>simp only[RD,RI]at h;subst h;rfl
  |tup is=>simp only[RD,RI]at h;obtain⟨a,xs,rfl,_⟩:=h;rfl
  |_=>simp only[RD,RI]at h;subst h;rfl
 |mu n=>simp only[RD]at h;obtain⟨a,_,rfl⟩:=h;rfl
 |tm ds=>simp only[RD]at h;obtain⟨a,xs,rfl,_⟩:=h;rfl
 |ro ns=>simp only[RD]at h;obtain⟨a,rfl,_⟩:=h;rfl
 |op nm fs ds=>simp only[RD]at h;obtain⟨a,xs,rfl,_⟩:=h;rfl
def ZS{K:Frag}{t:TE}{m:ME}(h:RE K t m):RE K (T2 t) (Dk false m):=by
 and_intros;obtain⟨⟨d1,h1⟩,e1,hm⟩:=i6 hm;cases hm;refine h ρ σ H hd ls _ d1 _ hR hL e1 λρ1 H1 v x1 R1 r1=>?_;rw[b8 r1];refine hQ ρ1 H1 _ x1 R1 ?_;simp only[RD,RI];cases d1 with
 |im i=>cases i<;>rfl
 |_=>rfl
def Wh{K:Frag}{t:TE}{m:ME}(h:RE K t m):RE K (Od t) (Dk true m):=by
 and_intros;obtain⟨⟨d1,h1⟩,e1,hm⟩:=i6 hm;cases hm;refine h ρ σ H hd ls _ d1 _ hR hL e1 λρ1 H1 v x1 R1 r1=>?_;rw[b8 r1];refine hQ ρ1 H1 _ x1 R1 ?_;simp only[RD,RI];cases d1 with
 |im i=>cases i<;>rfl
 |_=>rfl
def Cw(m:ME):ME:=λls hd=>(m ls hd).bind λp=>match p.1 with
 |.im (.int i)=>some (.im (.int (-i)),p.2)
 |_=>none
def ZN{K:Frag}{t:TE}{m:ME}(h:RE K t m):RE K (tUn (rU λi=>.int (-i)) t) (Cw m):=by
 and_intros;obtain⟨⟨d1,h1⟩,e1,hm⟩:=i6 hm;dsimp only at hm;split at hm
 .cases hm;exact h ρ σ H hd ls _ _ _ hR hL e1 λρ1 H1 v x1 R1 r1=>⟨_,by simpa only[RD,RI]using r1,hQ ρ1 H1 _ x1 R1 (by simp[RD,RI])⟩
 .cases hm
def BM:MT:=λ_ hd=>some (true,hd)
def Z4{K:Frag}:RT K Ss BM:=by
 and_intros;cases hm;exact hQ ρ H .refl hR
section
variable(K:Frag){X:Cx}{a b c e:Expr}{es:List Expr}{ta tb tc te:TE}{ma mb mc me:ME}{tA tB':TT}{nA nB:MT}{t:TA}{m:MA}{pos:Pos}{x:Str}
def qv(i:Nat){x:Str}{pos:Pos}(hN:X.N[i]?=some x:=by rfl)(hv:Vis X.env.scope x:=by first|exact Or.inl rfl|exact Or.inr (Or.inl rfl)|exact Or.inr (Or.inr rfl))(hd:(x==("__debug__":Str))=false:=by decide)
 (hcd:(x==("__classdict__":Str))=false:=by decide):QE K X (.Name x pos) (Su i) (A0 i):=⟨GY hN hv hd hcd,ZK⟩
def aG{i:Int}{j pos}:QE K X (.Constant (.int i) j pos) (tC (.int i)) (mC (.int i)):=⟨ae,Os λ_=>by simp[RI]⟩
def dF{i:Bool}{j pos}:QE K X (.Constant (.bool i) j pos) (tC (.bl i)) (mC (.bl i)):=⟨dM,Os λ_=>by simp[RI]⟩
def aA{j pos}:QE K X (.Constant .none j pos) (tC .non) (mC .non):=⟨aa,Os λ_=>by simp[RI]⟩
def a0{x:Str}{j pos}:QE K X (.Constant (.str x) j pos) (tC (.str x)) (mC (.str x)):=⟨aX,Os λ_=>by simp[RI]⟩
def FE{op:Operator}{r:R2}{f:D->D->Hd->Option (D×Hd)}(ho:OpR X (binaryOp op) r)(hr:RB K r f)(ha:QE K X a ta ma)(hb:QE K X b tb mb):QE K X (.BinOp a op b pos) (tOp r ta tb) (mOp f ma mb):=⟨VL ho ha.p hb.p,LB hr ha.r hb.r⟩
def aC(ha:QE K X a ta ma):QE K X (.UnaryOp .USub a pos) (tUn (rU λi=>.int (-i)) ta) (Cw ma):=⟨dJ Yo ha.p,ZN ha.r⟩
def FZ{op:CmpOp}{r:R2}{f:D->D->Hd->Option (D×Hd)}(ho:OpR X (compareOp op) r)(hr:RB K r f)(ha:QE K X a ta ma)(hb:QE K X b tb mb)(hm:behindInMarks op b=false:=by first|exact J4 _|rfl):QE K X (.Compare a [op] [b] pos) (tOp r ta tb) (mOp f ma mb):=⟨Nu ho ha.p hb.p hm,LB hr ha.r hb.r⟩
def En{op:CmpOp}{r:R2}{f:D->D->Hd->Option (D×Hd)}(ho:OpR X (compareOp op) r)(hr:RB K r f)(ha:QE K X a ta ma)(hb:QE K X b tb mb)(hm:behindInMarks op b=false:=by first|exact J4 _|rfl):QT K X (.Compare a [op] [b] pos) (L9 (tOp r ta tb)) (AH (mOp f ma mb)):=⟨Nk ho ha.p hb.p hm,FX (LB hr ha.r hb.r)⟩
def Zi{j pos'}(ha:QE K X a ta ma):QT K X (.Compare a [.Is] [.Constant .none j pos'] pos) (tB (T2 ta)) (AH (Dk false ma)):=⟨R9 (ak ha.p),Z7 (ZS ha.r)⟩
def Wr{j pos'}(ha:QE K X a ta ma):QT K X (.Compare a [.IsNot] [.Constant .none j pos'] pos) (tB (Od ta)) (AH (Dk true ma)):=⟨R9 (Xi ha.p),Z7 (Wh ha.r)⟩
def Tf(ha:QE K X a ta ma)(he:∀whole,isTrue a X.env whole=(do let v <- whole;standAt a.pos;holding [v] (truthy v)):=by intro _;rfl)(hK:X.K=K:=by rfl):
 QT K X a (λσ H Q=>ta σ H λx H'=>∃k,N5 K x H' k/\Q k H') (B9 ma):=by
 subst hK;exact⟨Tu ha.p he,TH ha.r⟩
def Zh(ha:QT K X a tA nA):QT K X (.UnaryOp .Not a pos) (Sx tA) (CH nA):=⟨aL ha.p,Z5 ha.r⟩
def Wq(ha:QT K X a tA nA):QW K X (.BoolOp .And [a] pos) tA nA:=⟨XJ ha.p,ha.r⟩
def Ze(ha:QT K X a tA nA):QW K X (.BoolOp .Or [a] pos) tA nA:=⟨aJ ha.p,ha.r⟩
def Zf{rest:List Expr}(ha:QT K X a tA nA)(hb:QW K X (.BoolOp .And (b::rest) pos) tB' nB):QW K X (.BoolOp .And (a::b::rest) pos) (T5 tA tB') (CI nA nB):=⟨aK ha.p hb.p,Z6 ha.r hb.r⟩
def d7{rest:List Expr}(ha:QT K X a tA nA)(hb:QW K X (.BoolOp .Or (b::rest) pos) tB' nB):QW K X (.BoolOp .Or (a::b::rest) pos) (tOr tA tB') (mOr nA nB):=⟨dH ha.p hb.p,cu ha.r hb.r⟩
def QW.toT{K:Frag}{X:Cx}{e:Expr}{t:TT}{m:MT}(h:QW K X e t m):QT K X e t m:=⟨h.p.pt,h.r⟩
def a8{op}(ha:QE K X a ta ma):QE K X (.BoolOp op [a] pos) ta ma:=⟨aY ha.p,ha.r⟩
def aH{rest:List Expr}(ha:QE K X a ta ma)(hb:QE K X (.BoolOp .And (b::rest) pos) tb mb):QE K X (.BoolOp .And (a::b::rest) pos) (Og ta tb) (DU ma mb):=⟨ah ha.p hb.p,Wj ha.r hb.r⟩
def a9(ha:QE K X a ta ma):QE K X (.UnaryOp .Not a pos) (Oc ta) (HM ma):=⟨aZ ha.p,Wg ha.r⟩
def To(hc:QT K X c tA nA)(ha:QE K X a ta ma)(hb:QE K X b tb mb):QE K X (.IfExp c a b pos) (tIf tA ta tb) (mIf nA ma mb):=⟨U8 hc.p ha.p hb.p,VA hc.r ha.r hb.r⟩
def aI:QA K X [] CD A4:=⟨DP,Qw⟩
def XH(ha:QE K X e te me)(hr:QA K X es t m)(hs:starEach (e::es) X.env=(false,eval e X.env)::starEach es X.env:=by rfl):QA K X (e::es) (Bc te t) (A1 me m):=⟨CV ha.p hr.p hs,Wo ha.r hr.r⟩
def Zz{x1}(h:QA K X es t m):QE K X (.Tuple es x1 pos) (Sv t) (Ae m):=⟨aW h.p,ZL h.r⟩
def Zq(h:QA K X es t m):QN K X (.List es pos) (Sy t) (BA m):=⟨ac h.p,ZB h.r⟩
def aB(h:QN K X e te m):QE K X e te (Ao m):=⟨h.p,Qp h.r⟩
def dC(ha:QE K X a ta ma)(hb:QE K X b tb mb)(hs:K6 b:=by exact λ_ _=>rfl)(hK:X.K=K:=by rfl):QE K X (.Subscript a b pos) (tOp (LC K) ta tb) (mOp gIx ma mb):=⟨VM ((MY K hK).or (O4 K hK)) ha.p hb.p hs,LB cy ha.r hb.r⟩
def X7:QO K X none JS Ap:=⟨XY,WY⟩
def X6(h:QE K X e te me):QO K X (some e) (Oa te) (BN me):=⟨XX h.p,WX h.r⟩
def Zp{lo hi:Option Expr}{tl th:TO}{ml mh:MO1}{p2:Pos}(h:QE K X e te me)(hl:QO K X lo tl ml)(hh:QO K X hi th mh)(hK:X.K=K:=by rfl):QN K X (.Subscript e (.Slice lo hi none p2) pos) (tSl (Ou K) te tl th) (MU me ml mh):=⟨MJ (T8 K hK) h.p hl.p hh.p,ZA h.r hl.r hh.r⟩
def Fy{id:String}{p:Pos}{r:List V->Hp->VK->Prop}{f:List D->Hd->Option (D×Hd)}(hc:CallR X (.builtin id) r)(hr:RF K r f)(hm:X.mg x=none)(hv:bootBuiltins x=some (.builtin id))(ha:QA K X (e::es) t m)(hg:Gl X x:=by rfl)(hn:x≠"__name__":=by decide)(hdb:(x==("__debug__":Str))=false:=by decide)
 (he:starEach (e::es) X.env=(false,eval e X.env)::starEach es X.env:=by rfl) (hpl:(backTo pos (starEach es X.env)).any (·.1)=false:=by rfl):QE K X (.Call (.Name x p) (e::es) [] pos) (tCB r t) (mCB f m):=⟨Fz hc hg hm hv ha.p hn hdb he hpl,VB hr ha.r⟩
def dE{id:String}{p:Pos}{r:List V->Hp->VK->Prop}{f:List D->Hd->Option (D×Hd)}(hc:CallR X (.type id) r)(hr:RF K r f)(hm:X.mg x=none)(hv:bootBuiltins x=some (.type id))(ha:QA K X (e::es) t m)(hg:Gl X x:=by rfl)(hn:x≠"__name__":=by decide)(hdb:(x==("__debug__":Str))=false:=by decide)
 (he:starEach (e::es) X.env=(false,eval e X.env)::starEach es X.env:=by rfl) (hpl:(backTo pos (starEach es X.env)).any (·.1)=false:=by rfl):QE K X (.Call (.Name x p) (e::es) [] pos) (tCB r t) (mCB f m):=⟨E5 hc hg hm hv ha.p hn hdb he hpl,VB hr ha.r⟩
def LD{id:String}{p:Pos}{r:List V->Hp->VK->Prop}{tp:Bool}{g:List D->Option D}(hc:CallR X (.builtin id) r)(hr:RG K tp r g)(hm:X.mg x=none)(hv:bootBuiltins x=some (.builtin id))(ha:QN K X e te m)(hg:Gl X x:=by rfl)(hn:x≠"__name__":=by decide)(hdb:(x==("__debug__":Str))=false:=by decide)
 (he:starEach [e] X.env=[(false,eval e X.env)]:=by rfl):QE K X (.Call (.Name x p) [e] [] pos) (tCB r (Bc te CD)) (BL g m):=⟨Fz hc hg hm hv (CV ha.p DP he) hn hdb he rfl,Qq hr ha.r⟩
def dD{id:String}{p:Pos}{r:List V->Hp->VK->Prop}{tp:Bool}{g:List D->Option D}(hc:CallR X (.type id) r)(hr:RG K tp r g)(hm:X.mg x=none)(hv:bootBuiltins x=some (.type id))(ha:QN K X e te m)(hg:Gl X x:=by rfl)(hn:x≠"__name__":=by decide)(hdb:(x==("__debug__":Str))=false:=by decide)
 (he:starEach [e] X.env=[(false,eval e X.env)]:=by rfl):QE K X (.Call (.Name x p) [e] [] pos) (tCB r (Bc te CD)) (BL g m):=⟨E5 hc hg hm hv (CV ha.p DP he) hn hdb he rfl,Qq hr ha.r⟩
def Tl{p:Pos}(hm:X.mg "list"=none)(ha:QN K X e te m)(hg:Gl X "list":=by rfl)(he:starEach [e] X.env=[(false,eval e X.env)]:=by rfl)(hK:X.K=K:=by rfl):QN K X (.Call (.Name "list" p) [e] [] pos) (tCB (Jc K) (Bc te CD)) (Ge m):=⟨E5 (Pe K hK) hg hm OL (CV ha.p DP he) (by decide) (by decide) he rfl,TQ ha.r⟩
def VJ{id:String}{r:V->List V->Hp->VK->Prop}{f:D->List D->Hd->Option (D×Hd)}{name:Str}{apos cpos:Pos}{o:Expr}{to:TE}{mo:ME}(slot:Slot "list" name id)(hty:typeOf (.builtin id)=pure (.type "method_descriptor"))(hm:MtM X id r)(hr:RM K r f)(ho:QE K X o to mo)(ha:QA K X (e::es) t m)
 (hbase:attributeBase o name X.env (eval o X.env)=eval o X.env:=by rfl)
 (hfew:((backTo cpos (starEach (e::es) X.env)).all (λx=>!x.1)&&(backToKw cpos (keywordEach [] X.env)).all (λx=>x.1.isSome)
  && decide ((e::es).length+([]:List Keyword).length+(if([]:List Keyword).isEmpty then 0 else 1)<30))=true:=by rfl)
 (hline:(apos.endLine==cpos.line)=true:=by rfl) (hs:starEach (e::es) X.env=(false,eval e X.env)::starEach es X.env:=by rfl) (hplain:(backTo cpos (starEach es X.env)).any (·.1)=false:=by rfl) (hK:X.K=K:=by rfl):
 QE K X (.Call (.Attribute o name apos) (e::es) [] cpos) (tBM K "list" r to t) (mMt f mo m):=by
 subst hK;exact⟨dL PySem.F.plainAttrs_list slot hty hm ho.p ha.p hbase hfew hline hs hplain,V9 hr ho.r ha.r⟩
def aE{id:String}{r:V->List V->Hp->VK->Prop}{f:D->List D->Hd->Option (D×Hd)}{name:Str}{apos cpos:Pos}{o:Expr}{to:TE}{mo:ME}(slot:Slot "list" name id)(hty:typeOf (.builtin id)=pure (.type "method_descriptor"))(hm:MtM X id r)(hr:RM K r f)(ho:QE K X o to mo)
 (hbase:attributeBase o name X.env (eval o X.env)=eval o X.env:=by rfl) (hline:(apos.endLine==cpos.line)=true:=by rfl) (hK:X.K=K:=by rfl):
 QE K X (.Call (.Attribute o name apos) [] [] cpos) (T4 K "list" r to) (mMt f mo A4):=by
 subst hK;exact⟨ag PySem.F.plainAttrs_list slot hty hm ho.p hbase hline,ZP hr ho.r⟩
def Tq(w:Nat){j k:Nat}{f:Addr}{fd:FuncData}{ps:List Str}{n:Nat}{F:List D->Hd->Option (D×Hd)}{st:Stmt}{p:Pos}(G:FnOk X.prog X.w X.K X.mg X.base CX0 j f fd ps (spF K n F))(hr:Room k X.A)(DA:DefAt X.K X.mg x st f fd ps)(ha:QA K X (e::es) t m)(hF:∀ds hd z,F ds hd=some z->ds.length=n)
 (hjk:j<=k:=by decide) (hg:Gl X x:=by rfl) (hdb:(x==("__debug__":Str))=false:=by decide) (he:starEach (e::es) X.env=(false,eval e X.env)::starEach es X.env:=by rfl) (hpl:(backTo pos (starEach es X.env)).any (·.1)=false:=by rfl):
 QE K X (.Call (.Name x p) (e::es) [] pos) (Dt (spF K n F) [] E0 t) (A6 w F m):=⟨VN G hr DA ha.p hjk hg hdb he hpl,M4 ha.r hF⟩
def Tr{j k:Nat}{f:Addr}{fd:FuncData}{ps:List Str}{n:Nat}{F:List D->Hd->Option (D×Hd)}{st:Stmt}{p:Pos}(G:FnOk X.prog X.w X.K X.mg X.base CX0 j f fd ps (spF K n F))(hr:Room k X.A)(DA:DefAt X.K X.mg x st f fd ps)(ha:QA K X (e::es) t m)(hF:∀ds hd z,F ds hd=some z->ds.length=n)
 (hjk:j<=k:=by decide) (hg:Gl X x:=by rfl) (hdb:(x==("__debug__":Str))=false:=by decide) (he:starEach (e::es) X.env=(false,eval e X.env)::starEach es X.env:=by rfl) (hpl:(backTo pos (starEach es X.env)).any (·.1)=false:=by rfl):
 QE K X (.Call (.Name x p) (e::es) [] pos) (Dt (spF K n F) [] E0 t) (DT F m):=⟨VN G hr DA ha.p hjk hg hdb he hpl,M5 ha.r hF⟩
def XD{i:Nat}(hN:X.N.Nodup)(hi:X.N[i]?=some x)(hx:Loc X.env.scope x)(hf:X.fn x=true∨X.env.scope.names.lookup x=some .local:=by first|exact .inl rfl|exact .inr rfl|assumption):QG K X (.Name x pos) (Ct i) (AC i):=⟨Xe hN hi hx hf,HE⟩
def XB:QGs K X [] Ud Bg:=⟨Xc,Wb⟩
def Tn{tg:TG}{tgs:TGs}{n:MG}{ns:MGs}(h1:QG K X e tg n)(h2:QGs K X es tgs ns)(hs:(assignEach (e::es) X.env).map (·.2)=assign e X.env::(assignEach es X.env).map (·.2):=by rfl):QGs K X (e::es) (PQ tg tgs) (AU n ns):=⟨U7 h1.p h2.p hs,TV h1.r h2.r⟩
def Zw{k n:Nat}{tgs:TGs}{ns:MGs}(hc:X.calm=true)(h:QGs K X es tgs ns)(hK:X.K=K:=by rfl)(hn:(assignEach es X.env).length=n:=by rfl)(hst:(assignEach es X.env).findIdx? (·.1)=none:=by rfl):QG K X (.Tuple es k pos) (PP K n tgs) (Bb n ns):=⟨Xd K hc h.p hK hn hst,ZG h.r⟩
def Zu{tg:Expr}(h:QE K X e te me)(hK:X.K=K:=by rfl):QI K X tg e (Ma K te) (BF me):=⟨Nr K h.p hK,Qj h.r⟩
def XA{tg:Expr}(h:QE K X e te me)(hK:X.K=K:=by rfl):QI K X tg e (JE K te) (BV me):=⟨MH K h.p hK,Nc h.r⟩
def X9{tg:Expr}{p:Pos}(hm:X.mg "range"=none)(ha:QA K X [a] t m)(hg:Gl X "range":=by rfl)(hs:starEach [a] X.env=[(false,eval a X.env)]:=by rfl):QI K X tg (.Call (.Name "range" p) [a] [] pos) (PL t) (Bh m):=⟨RV hg hm ha.p hs,Wa ha.r⟩
def Zy:QF K X [] Ss BM:=⟨aV,Z4⟩
def Zx(h:QT K X c tA nA):QF K X [c] tA nA:=⟨aU h.p,h.r⟩
def X8{elt tg iter:Expr}{ifs:List Expr}{scope:Scope}{loc fr:List Str}{ix:List Nat}{wi:TI}{g:TG}{tf:TT}{te:TE}{mi:MI}{n:MG}{mf:MT}{mm:ME}(hc:X.calm=true)(S:CSc X scope fr ix)(hi:QI K X tg iter wi mi)
 (hg:∀s H ex,QG K (cCx X (loc++fr) scope s H ex) tg g n) (hf:∀s H ex,QF K (cCx X (loc++fr) scope s H ex) ifs tf mf) (he:∀s H ex,QE K (cCx X (loc++fr) scope s H ex) elt te mm)
 (hs:∀x,foldedSetIterable iter X.env x=pure x:=by intro _;rfl):QN K X (.ListComp elt [⟨tg,iter,ifs,0⟩] scope pos) (Fv loc.length ix wi g tf te) (Ai loc.length ix mi n mf mm):=
 ⟨Xg hc S hi.p (λs H ex=>(hg s H ex).p) (λs H ex=>(hf s H ex).p) (λs H ex=>(he s H ex).p) hs,Nb hi.r (hg X.s₀ X.H₀ []).r (hf X.s₀ X.H₀ []).r (he X.s₀ X.H₀ []).r⟩
def Wu:QSs K X [] HB Aa:=⟨Nm,JY⟩
def Tg{st:Stmt}{rest:List Stmt}{u v:TS}{m1 m2:MS}(h1:QS K X st u m1)(h2:QSs K X rest v m2):QSs K X (st::rest) (LW u v) (A8 m1 m2):=⟨MF h1.p h2.p,Qc h1.r h2.r⟩
def Wt{st:Stmt}{u:TS}{m1:MS}(h1:QS K X st u m1):QSs K X [st] u m1:=⟨Nl h1.p,h1.r⟩
def Wy:QS K X (.Pass pos) HB Aa:=⟨XT,JY⟩
def X3(he:QE K X e te me)(hs:swapsWith e none pos.line X.env=pure false:=by rfl):QS K X (.Expr e pos) (Oe te) (Aw me):=⟨XV he.p hs,WU he.r⟩
def Zk(he:QE K X e te me):QS K X (.Return (some e) pos) (Fu te) (AM me):=⟨aN he.p,Ir he.r⟩
def d8{a b:List Stmt}{u v:TS}{m1 m2:MS}(hc:QT K X c tA nA)(ha:QSs K X a u m1)(hb:QSs K X b v m2):QS K X (.If c a b pos) (LY tA u v) (Aj nA m1 m2):=⟨dI hc.p ha.p hb.p,V6 hc.r ha.r hb.r⟩
def Tj{st:Stmt}:QS K X st Ik CS:=⟨U0,M0⟩
def Zo{tg:Expr}{g:TG}{n:MG}(he:QE K X e te me)(hg:QG K X tg g n)(hs:swapsWithSole [tg] e pos.line X.env=pure false:=by rfl)(hw:swappedStores [tg] e X.env=pure none:=by rfl)
 (h1:(assignEach [tg] X.env).map (·.2)=[assign tg X.env]:=by rfl):QS K X (.Assign [tg] e pos) (DK te g) (GA me n):=⟨RK he.p hg.p hs hw h1,Iu he.r hg.r⟩
def Zj{i:Nat}{pos':Pos}(hN:X.N.Nodup)(hi:X.N[i]?=some x)(hx:Loc X.env.scope x)(he:QE K X e te me)(hs:swapsWith e (some (.Name x pos')) pos.line X.env=pure false:=by rfl)(hf:X.fn x=true∨X.env.scope.names.lookup x=some .local:=by first|exact .inl rfl|exact .inr rfl|assumption):
 QS K X (.Assign [.Name x pos'] e pos) (DK te (Ct i)) (AE i me):=⟨aM hN hi hx he.p hs hf,Iu he.r HE⟩
def Wx{i:Nat}{y:Str}{elt tg iter:Expr}{ifs:List Expr}{scope:Scope}{spos py:Pos}{loc fr:List Str}{ix:List Nat}{wi:TI}{g:TG}{tf:TT}{te:TE}{mi:MI}{n:MG}{mf:MT}{mm:ME}(hN:X.N.Nodup)(hiN:X.N[i]?=some y)(hy:X.env.scope.names.lookup y=some .local)
 (hc:X.calm=true) (S:CSc X scope fr ix) (hi:QI K X tg iter wi mi)
 (hg:∀s H ex,QG K (cCx X (loc++fr) scope s H ex) tg g n) (hf:∀s H ex,QF K (cCx X (loc++fr) scope s H ex) ifs tf mf) (he:∀s H ex,QE K (cCx X (loc++fr) scope s H ex) elt te mm)
 (hsw:swapsWith (.ListComp elt [⟨tg,iter,ifs,0⟩] scope pos) (some (.Name y py)) spos.line X.env=pure true:=by rfl) (hs:∀x,foldedSetIterable iter X.env x=pure x:=by intro _;rfl):
 QS K X (.Assign [.Name y py] (.ListComp elt [⟨tg,iter,ifs,0⟩] scope pos) spos) (DK (Fv loc.length ix wi g tf te) (Ct i)) (AE i (Ao (Ai loc.length ix mi n mf mm))):=
 ⟨XR hN hiN hy hc S hi.p (λs H ex=>(hg s H ex).p) (λs H ex=>(hf s H ex).p) (λs H ex=>(he s H ex).p) hsw hs,Iu (Qp (Nb hi.r (hg X.s₀ X.H₀ []).r (hf X.s₀ X.H₀ []).r (he X.s₀ X.H₀ []).r)) HE⟩
def Zl{i j:Nat}{x y:Str}{a b:Expr}{px py pt:Pos}{kt k2 pt2}(hc:X.calm=true)(hN:X.N.Nodup)(hi:X.N[i]?=some x)(hj:X.N[j]?=some y)(hij:i≠j)
 (hx:X.env.scope.names.lookup x=some .local) (hy:X.env.scope.names.lookup y=some .local) (ha:QA K X [a,b] t m)
 (hw:swappedStores [.Tuple [.Name x px,.Name y py] kt pt] (.Tuple [a,b] k2 pt2) X.env=pure (some [x,y]):=by rfl)
 (hs:swapsWithSole [.Tuple [.Name x px,.Name y py] kt pt] (.Tuple [a,b] k2 pt2) pos.line X.env=pure false:=by rfl):
 QS K X (.Assign [.Tuple [.Name x px,.Name y py] kt pt] (.Tuple [a,b] k2 pt2) pos) (Sw i j t) (CG [i,j] m):=⟨aO hc hN hi hj hij hx hy ha.p hw,Z8 ha.r⟩
def Wz{i j k:Nat}{x y z:Str}{a b c:Expr}{px py pz pt:Pos}{kt k2 pt2}(hc:X.calm=true)(hN:X.N.Nodup)(hi:X.N[i]?=some x)(hj:X.N[j]?=some y)(hk:X.N[k]?=some z)
 (hx:X.env.scope.names.lookup x=some .local) (hy:X.env.scope.names.lookup y=some .local) (hz:X.env.scope.names.lookup z=some .local) (ha:QA K X [a,b,c] t m)
 (hw:swappedStores [.Tuple [.Name x px,.Name y py,.Name z pz] kt pt] (.Tuple [a,b,c] k2 pt2) X.env=pure (some [x,y,z]):=by rfl)
 (hs:swapsWithSole [.Tuple [.Name x px,.Name y py,.Name z pz] kt pt] (.Tuple [a,b,c] k2 pt2) pos.line X.env=pure false:=by rfl):
 QS K X (.Assign [.Tuple [.Name x px,.Name y py,.Name z pz] kt pt] (.Tuple [a,b,c] k2 pt2) pos) (Ob i j k t) (HL i j k m):=⟨XU hc hN hi hj hk hx hy hz ha.p hw hs,WN ha.r⟩
def X2{o i value:Expr}{pos':Pos}{to ti tv:TE}{mo mi mv:ME}(ho:QE K X o to mo)(hi:QE K X i ti mi)(hv:QE K X value tv mv)(hs:swapsWithSole [.Subscript o i pos'] value pos.line X.env=pure false:=by rfl)(hw:swappedStores [.Subscript o i pos'] value X.env=pure none:=by rfl)
 (h1:(assignEach [.Subscript o i pos'] X.env).map (·.2)=[assign (.Subscript o i pos') X.env]:=by rfl)
 (ha:∀v,assign (.Subscript o i pos') X.env v=(do
  let ov <- holding [v] (eval o X.env)
  let iv <- holding [v,ov] (eval i X.env)
  standAt pos'
  holding [v,ov,iv] (setItem ov iv v)
  release [v,ov,iv] []):=by intro _;rfl):QS K X (.Assign [.Subscript o i pos'] value pos) (DK tv (Ub to ti J0)) (EO mo mi mv):=⟨RK hv.p (aT ho.p hi.p Lh ha) hs hw h1,WQ ho.r hi.r hv.r⟩
def Zn{i:Nat}{op:Operator}{g:Int->Int->Int}{pos':Pos}(hN:X.N.Nodup)(hi:X.N[i]?=some x)(hx:Loc X.env.scope x)(he:QE K X e te me)(ho:PIp X op (ipI g))(hf:X.fn x=true∨X.env.scope.names.lookup x=some .local:=by first|exact .inl rfl|exact .inr rfl|assumption):
 QS K X (.AugAssign (.Name x pos') op e pos) (JT i te (ipI g)) (Gf i g me):=⟨RJ hN hi hx he.p ho hf,Z9 he.r⟩
def Zm{tg iter:Expr}{body:List Stmt}{wi:TI}{g:TG}{tb:TS}{mi:MI}{n:MG}{mb:MS}(hc:X.calm=true)(hi:QI K X tg iter wi mi)(hg:QG K X tg g n)(hb:QSs K X body tb mb)(hp:PassesOwn (model X.prog X.w) X.A X.env X.xe:=by exact PassesOwn.never)
 (hs:∀x,foldedSetIterable iter X.env x=pure x:=by intro _;rfl):QS K X (.For tg iter body [] pos) (LZ wi g tb) (Ax mi n mb):=⟨aP hp hc hi.p hg.p hb.p hs,Qf hi.r hg.r hb.r⟩
def Th{body:List Stmt}{tb:TS}{mb:MS}(hc:QT K X c tA nA)(hb:QSs K X body tb mb)(hp:PassesOwn (model X.prog X.w) X.A X.env X.xe:=by exact PassesOwn.never):QS K X (.While c body [] pos) (LV tA tb) (CQ nA mb):=⟨Tx hp hc.p hb.p,TJ hc.r hb.r⟩
end
def Xn{P:Program}{w:World}{K:Frag}{mg:Str->Option Value}{base:Heap}{x:Str}{st:Stmt}{f:Addr}{fd:FuncData}{N ps:List Str}{j:Nat}{m:MS}(DA:DefAt K mg x st f fd ps)(S:FnScope N ps (AB st))
 (h:∀(cdv:Value) (A:Around) (outer:List Env) (s:Shared) (H:Hp) (E:XK),Room j (A.deeper (envOfC x (AB st) s.heap.objs.size f cdv))->∃t,QSs K (Do CX0 P w K mg base N x (AB st) f cdv A outer s H E).nox (BW st) t m):
 FnOk P w K mg base CX0 (j+1) f fd ps (spF K ps.length (mkF ps.length N.length m)):=by
 refine DA.fn.ok S (λvs H Q E h=>h.1) (λcdv A outer s H vs Q E hr hs=>?_);obtain⟨t,q⟩:=h cdv A outer s H E hr;exact⟨t,q.p,W3 q.r hs⟩
section
variable{X:Cx}{pins:List (Addr×Obj)}{σ:List (Option V)}{H H':Hp}{s:Shared}{h':Heap}
def Inv.turns{tk:Nat}{fp:List Addr}(I:Inv X pins σ H s)(k:∀b o,b∉fp->s.heap.get? b=some o->h'.get? b=some o)(hf:∀b∈fp,Bw X pins H b):Inv X pins σ H { s with heap:=h',toks:=tk }:=by
 have out:∀b u,H b=some u->b∉fp:=λb u e z=>by rw[(hf b z).1]at e;cases e
 have hL:X.env.locals∉fp:=λz=>(hf _ z).2.1 rfl;refine I.step (g':=s.gens) (d':=s.drawn) (ch:=fp) (λb hb=>⟨(hf b hb).2.2.2.1,(hf b hb).2.1,(hf b hb).2.2.2.2.1,(hf b hb).2.2.2.2.2⟩) (λb o _ _ hc e _=>k b o hc e) (λb o _ _ hc e _=>⟨o.slots,k b o hc e⟩) (λ_ _ _ _ n=>n)
  (λb o hc e=>⟨o,k b o hc e⟩) (λ_ _ e=>e) (λ_ _ _ e=>e) (λb ps e=>⟨#[],by rw[e];simp⟩) (λm hm=>?_) (λb u e=>?_) I.bare
 .obtain⟨o,es,ep,ho,r⟩:=hm;exact⟨o,es,ep,k _ o hL ho,r⟩
 .refine(I.hok b u e).stay (λc v hc q=>k c v ?_ q) (λ_ q=>q) λ_ _ q=>q;rcases hc with z|z
  .rw[z];exact out b u e
  .exact out c _ z
end
def Inv.turnsL{X:Cx}{pins:List (Addr×Obj)}{σ:List (Option V)}{H:Hp}{s:Shared}{h':Heap}{tk:Nat}{fp:List Addr}{a:Addr}{o:HO}(I:Inv X pins σ H s)(k:∀b o,b∉fp->s.heap.get? b=some o->h'.get? b=some o)(hf:∀b∈fp,Bw X pins H b)(ha:s.heap.objs.size<=a)(new:ObjOk X.prog X.w (upd H a o) h' a o):
 Inv X pins σ (upd H a o) { s with heap:=h',toks:=tk }:=by
 have out:∀b u,H b=some u->b∉fp:=λb u e z=>by rw[(hf b z).1]at e;cases e
 have hL:X.env.locals∉fp:=λz=>(hf _ z).2.1 rfl;have fr:H a=none:=I.hok.fresh ha;refine I.step (g':=s.gens) (d':=s.drawn) (ch:=fp) (λb hb=>⟨(hf b hb).2.2.2.1,(hf b hb).2.1,(hf b hb).2.2.2.2.1,(hf b hb).2.2.2.2.2⟩) (λb o _ _ hc e _=>k b o hc e) (λb o _ _ hc e _=>⟨o.slots,k b o hc e⟩)
  (λb o _ e n=>by rw[AF (iq (iC (Heap.lt_size e) ha))];exact n) (λb o hc e=>⟨o,k b o hc e⟩) (λb xs e=>by rw[AF (Ac e fr)];exact e) (λb o u e=>by rw[AF (Ac e fr)];exact e)
  (λb ps e=>⟨#[],by rw[AF (Ac e fr),e];simp⟩) (λm hm=>?_) (λb u e=>?_) I.bare
 .obtain⟨o,es,ep,ho,r⟩:=hm;exact⟨o,es,ep,k _ o hL ho,r⟩
 .by_cases hb:b=a
  .subst hb;rw[AJ]at e;cases e;exact new
  .rw[AF hb]at e;refine(I.hok b u e).stay (λc v hc q=>k c v ?_ q) (λc q=>by rw[AF (Ac q fr)];exact q) λc xs q=>by rw[AF (Ac q fr)];exact q
   rcases hc with z|z
   .rw[z];exact out b u e
   .exact out c _ z
def RowI(tp:Bool)(h:Heap)(it l:Addr)(k:Nat):Prop:=match tp with
 |true=>h.IsTupleIter it l k
 |false=>h.IsListIter it l k
def RowL(tp:Bool)(h:Heap)(l:Addr)(xs:Array Value):Prop:=match tp with
 |true=>h.IsTuple l xs
 |false=>h.IsList l xs
theorem RowI.at{tp:Bool}{h h':Heap}{it l:Addr}{k:Nat}(x:RowI tp h it l k)(e:∀o,h.get? it=some o->h'.get? it=some o):RowI tp h' it l k:=by
 cases tp with
 |true=>exact Heap.IsTupleIter.at x e
 |false=>exact Heap.IsListIter.at x e
def RowL.at{tp:Bool}{h h':Heap}{l:Addr}{xs:Array Value}(x:RowL tp h l xs)(e:∀o,h.get? l=some o->h'.get? l=some o):RowL tp h' l xs:=by
 cases tp with
 |true=>obtain⟨o,e1,r⟩:=(show h.IsTuple l xs from x);exact⟨o,e _ e1,r⟩
 |false=>obtain⟨o,e1,r⟩:=(show h.IsList l xs from x);exact⟨o,e _ e1,r⟩
def RowI.obj{tp:Bool}{h:Heap}{it l:Addr}{k:Nat}(x:RowI tp h it l k):∃o,h.get? it=some o/\o.data=.fields #[.ref l,.int k 0]:=by
 cases tp with
 |true=>obtain⟨o,e,_,d⟩:=(show h.IsTupleIter it l k from x);exact⟨o,e,d⟩
 |false=>obtain⟨o,e,_,d⟩:=(show h.IsListIter it l k from x);exact⟨o,e,d⟩
def RowL.obj{tp:Bool}{h:Heap}{l:Addr}{xs:Array Value}(x:RowL tp h l xs):∃o n,h.get? l=some o/\o.data=.seq xs n:=by
 cases tp with
 |true=>obtain⟨o,e,_,n,d⟩:=(show h.IsTuple l xs from x);exact⟨o,n,e,d⟩
 |false=>obtain⟨o,e,_,n,d⟩:=(show h.IsList l xs from x);exact⟨o,n,e,d⟩
section
variable{prog:Program}{w:World}{A:Around}{E:Value->Shared->Prop}{s:Shared}{it l:Addr}{k:Nat}{xs:Array Value}{x:Value}
def tup_next(hit:s.heap.IsTupleIter it l k)(hl:s.heap.IsTuple l xs)(hx:xs[k]?=some x){Q:Value->Shared->Prop}(hQ:∀g,g.IsTupleIter it l (k+1)->Heap.SameBut it s.heap g->Q x { s with heap:=g }):
 wpAny (model prog w) A (Builtin.SmallTypes.nextOf (.ref it)) Q E s:=by
 obtain⟨o,eo,ec,ed⟩:=id hit;obtain⟨ol,el,_,nl,edl⟩:=hl;unfold Builtin.SmallTypes.nextOf;refine i8 (jC (name:=Str.ofString "__next__") hit.typeIs PyProof.Rows.slot_tupleiter_next (jq PyProof.Rows.slot_tupleiter_next hit.typeIs PyProof.Rows.entry_tupleiter_next ?_ (PyProof.Rows.args_tupleiter_next _)));show wpAny _ _ (field (.ref it) 0 >>= _) _ _ s;refine i8 (iG eo ed (x:=.ref l) rfl ?_);show wpAny _ _ (if(Value.ref l==Value.none)=true then _ else _) _ _ s;rw[ic (show ¬ (Value.ref l==Value.none)=true from Bool.false_ne_true)];show wpAny _ _ (field (.ref it) 1 >>= _) _ _ s;refine i8 (iG eo ed (x:=.int k 0) rfl ?_);show wpAny _ _ (seqItems? (.ref l) >>= _) _ _ s;refine i8 (jr el edl ?_);simp only[iO,hx];refine i8 (jK eo ed (by simp) (ie ⟨x,rfl,ie (hQ _ ⟨_,Heap.get?_update_self _ eo (Obj.isFreed_of_fields (Obj.data_mapFields ed _)),(Obj.cls_mapFields ..).trans ec,?_⟩ (Heap.SameBut.update ..))⟩));rw[Obj.data_mapFields ed];simp[rawInt]
def tup_stop(hh:A.handled=none)(hit:s.heap.IsTupleIter it l k)(hl:s.heap.IsTuple l xs)(hx:xs[k]?=none){Q:Value->Shared->Prop}(hE:∀g e,Heap.ExtBut it s.heap g->(∃o,g.get? e=some o/\o.cls=.type "StopIteration")->E (.ref e) { s with heap:=g }):
 wpAny (model prog w) A (Builtin.SmallTypes.nextOf (.ref it)) Q E s:=by
 obtain⟨o,eo,ec,ed⟩:=id hit;obtain⟨ol,el,_,nl,edl⟩:=hl;unfold Builtin.SmallTypes.nextOf;refine i8 (jC (name:=Str.ofString "__next__") hit.typeIs PyProof.Rows.slot_tupleiter_next (jq PyProof.Rows.slot_tupleiter_next hit.typeIs PyProof.Rows.entry_tupleiter_next ?_ (PyProof.Rows.args_tupleiter_next _)));show wpAny _ _ (field (.ref it) 0 >>= _) _ _ s;refine i8 (iG eo ed (x:=.ref l) rfl ?_);show wpAny _ _ (if(Value.ref l==Value.none)=true then _ else _) _ _ s;rw[ic (show ¬ (Value.ref l==Value.none)=true from Bool.false_ne_true)];show wpAny _ _ (field (.ref it) 1 >>= _) _ _ s;refine i8 (iG eo ed (x:=.int k 0) rfl ?_);show wpAny _ _ (seqItems? (.ref l) >>= _) _ _ s;refine i8 (jr el edl ?_);simp only[iO,hx];refine i8 (jA (i8 (jK eo ed (by simp) ?_)));show wpAny _ _ (newExc (.type "StopIteration") [] >>= _) _ _ _;refine i8 ?_;simp only[newExc,newTuple];refine i8 (iQ ?_ (by size_fits));refine i8 (m:=firstArgMember _ _) (wpAny_of_eq (a:=Value.none) (by first|rfl|(simp only[firstArgMember];rfl)) ?_);refine iQ ?_ (by size_fits);simp only[raiseNew];refine i8 (wpAny_handled ?_)
 first|rw[show A.in1.handled=none from hh]|rw[hh]
 exact i8 (ie (wpAny_throw (hE _ _ (((Heap.SameBut.update ..).extBut.push _).push _) ⟨_,Heap.get?_push_size _ rfl,rfl⟩)))
def IB{tp:Bool}(hit:RowI tp s.heap it l k)(hl:RowL tp s.heap l xs)(hx:xs[k]?=some x){Q:Value->Shared->Prop}(hQ:∀g,RowI tp g it l (k+1)->Heap.SameBut it s.heap g->Q x { s with heap:=g }):
 wpAny (model prog w) A (Builtin.SmallTypes.nextOf (.ref it)) Q E s:=by
 cases tp with
 |true=>exact tup_next hit hl hx hQ
 |false=>exact wpAny_nextOf_list_item hit hl hx hQ
def M1{tp:Bool}(hh:A.handled=none)(hit:RowI tp s.heap it l k)(hl:RowL tp s.heap l xs)(hx:xs[k]?=none){Q:Value->Shared->Prop}(hE:∀g e,Heap.ExtBut it s.heap g->(∃o,g.get? e=some o/\o.cls=.type "StopIteration")->E (.ref e) { s with heap:=g }):
 wpAny (model prog w) A (Builtin.SmallTypes.nextOf (.ref it)) Q E s:=by
 cases tp with
 |true=>exact tup_stop hh hit hl hx hE
 |false=>exact wpAny_nextOf_list_end hh hit hl hx hE
end
structure ZAt(t1 t2:Bool)(h:Heap)(z a b i1 i2 l1 l2:Addr)(f0:Value)(j k:Nat):Prop where
 z:IsZip h z a b f0
 p:IsPair h a (.ref i1) (.ref i2)
 o:∃u v,IsPair h b u v
 r1:RowI t1 h i1 l1 j
 r2:RowI t2 h i2 l2 k
structure ZNe(z a b i1 i2 l1 l2:Addr):Prop where
 az:a≠z
 bz:b≠z
 iz:i1≠z
 jz:i2≠z
 ab:a≠b
 ai:a≠i1
 aj:a≠i2
 bi:b≠i1
 bj:b≠i2
 ij:i1≠i2
 lz:l1≠z
 lb:l1≠b
 li:l1≠i1
 lj:l1≠i2
 mz:l2≠z
 mb:l2≠b
 mi:l2≠i1
 mj:l2≠i2
section
variable{prog:Program}{w:World}{A:Around}{E:Value->Shared->Prop}{s:Shared}{t1 t2:Bool}{z a b i1 i2 l1 l2:Addr}{j k:Nat}{xs ys:Array Value}{x y:Value}
abbrev Pk(z b i1 i2:Addr)(h h':Heap):Prop:=∀c o,c≠z->c≠b->c≠i1->c≠i2->h.get? c=some o->h'.get? c=some o
def Sa(N:ZNe z a b i1 i2 l1 l2)(Z:ZAt t1 t2 s.heap z a b i1 i2 l1 l2 .none j k)(hl1:RowL t1 s.heap l1 xs)(hl2:RowL t2 s.heap l2 ys)(hx:xs[j]?=some x)(hy:ys[k]?=some y){Q:Value->Shared->Prop}
 (hQ:∀g,ZAt t1 t2 g z a b i1 i2 l1 l2 (rawInt s.heap.objs.size) (j+1) (k+1)->IsPair g s.heap.objs.size x y->Pk z b i1 i2 s.heap g->Q (.ref s.heap.objs.size) { s with heap:=g }):
 wpAny (model prog w) A (Builtin.«zip.__next__» ⟨[.ref z],[]⟩) (λfin s'=>∃v,fin=.done (.ret v)/\Q v s') E s:=by
 obtain⟨hz,hp,⟨u,v,hb⟩,q1,q2⟩:=Z;show wpAny _ _ (field (.ref z) 2 >>= _) _ _ _;refine i8 (iG hz rfl (x:=.bool false) rfl ?_);show wpAny _ _ (field (.ref z) 3 >>= _) _ _ _;refine i8 (iG hz rfl (x:=.ref a) rfl (i8 (jr hp rfl ?_)));show wpAny _ _ (Builtin.SmallTypes.ownedTupleIsFree (.ref z) >>= _) _ _ _;unfold Builtin.SmallTypes.ownedTupleIsFree;refine i8 (i8 (iG hz rfl (x:=.none) rfl (ie ?_)));simp only[iE];refine i8 (jA (i8 (iG hz rfl (x:=.ref b) rfl ?_)));refine i8 (jL hz (by simp) λg1 z1 s1=>?_);have z1:IsZip g1 z a b .ellipsis:=z1;refine i8 ?_;simp only[zipIdx_cons,List.zipIdx_nil,List.forIn_cons,List.forIn_nil];refine i8 (i8 (jM ?_));show wpAny _ _ (Builtin.SmallTypes.nextOf (.ref i1) >>= _) _ _ _;refine i8 (IB (s:={ s with heap:=g1 }) (q1.at λo e=>s1.extBut _ _ N.iz e) (hl1.at λo e=>s1.extBut _ _ N.lz e) hx λg2 r2 s2=>ie ?_);have b2:IsPair g2 b u v:=s2.extBut _ _ N.bi (s1.extBut _ _ N.bz hb);refine i8 (jr b2 rfl (i8 (wpAny_updateSeq_pair b2 λg3 b3 s3=>?_)));have b3:IsPair g3 b x v:=b3;refine i8 (wpAny_letGo (ie (i8 (i8 (jM ?_)))));show wpAny _ _ (Builtin.SmallTypes.nextOf (.ref i2) >>= _) _ _ _;have q3:RowI t2 g3 i2 l2 k:=q2.at λo e=>s3.extBut _ _ N.bj.symm (s2.extBut _ _ N.ij.symm (s1.extBut _ _ N.jz e));have m3:RowL t2 g3 l2 ys:=hl2.at λo e=>s3.extBut _ _ N.mb (s2.extBut _ _ N.mi (s1.extBut _ _ N.mz e));refine i8 (IB (s:={ s with heap:=g3 }) q3 m3 hy λg4 r4 s4=>ie ?_);have b4:IsPair g4 b x v:=s4.extBut _ _ N.bj b3;refine i8 (jr b4 rfl (i8 (wpAny_updateSeq_pair b4 λg5 b5 s5=>?_)));have b5:IsPair g5 b x y:=b5;refine i8 (wpAny_letGo (ie (ie (i8 (jr b5 rfl (i8 (wpAny_newTuple ?_)))))));have sz:g5.objs.size=s.heap.objs.size:=by rw[s5.1,s4.1,s3.1,s2.1,s1.1]
 have z5:IsZip g5 z a b .ellipsis:=s5.extBut _ _ N.bz.symm (s4.extBut _ _ N.jz.symm (s3.extBut _ _ N.bz.symm (s2.extBut _ _ N.iz.symm z1)));have kp:Pk z b i1 i2 s.heap g5:=λc o c1 c2 c3 c4 e=>s5.extBut _ _ c2 (s4.extBut _ _ c4 (s3.extBut _ _ c2 (s2.extBut _ _ c3 (s1.extBut _ _ c1 e))));have w1:RowI t1 g5 i1 l1 (j+1):=r2.at λo e=>s5.extBut _ _ N.bi.symm (s4.extBut _ _ N.ij (s3.extBut _ _ N.bi.symm e));have w2:RowI t2 g5 i2 l2 (k+1):=r4.at λo e=>s5.extBut _ _ N.bj.symm e;have zlt:=Heap.lt_size z5;show wpAny _ _ (Builtin.SmallTypes.ownedTupleHandOut (.ref z) (.ref g5.objs.size) >>= _) _ _ _;unfold Builtin.SmallTypes.ownedTupleHandOut;have z6:IsZip (g5.push { cls:=.type "tuple",data:=.seq #[x,y] }) z a b .ellipsis:=Heap.get?_push_of_some _ z5;refine i8 (i8 (jL z6 (by simp) λg7 z7 s7=>?_));have z7:IsZip g7 z a b (rawInt g5.objs.size):=z7;refine jL z7 (by simp) λg8 z8 s8=>ie ⟨_,rfl,?_⟩;have z8:IsZip g8 z a b (rawInt g5.objs.size):=z8;have up:∀c o,c≠z->g5.get? c=some o->g8.get? c=some o:=λc o c1 e=>s8.extBut _ _ c1 (s7.extBut _ _ c1 (Heap.get?_push_of_some _ e));have t8:IsPair g8 g5.objs.size x y:=s8.extBut _ _ (iZ zlt) (s7.extBut _ _ (iZ zlt) (Heap.get?_push_size _ rfl));show Q (.ref g5.objs.size) _;rw[sz]at z8 t8 ⊢;exact hQ g8 ⟨z8,up _ _ N.az (kp _ _ N.az N.ab N.ai N.aj hp),⟨_,_,up _ _ N.bz b5⟩,w1.at λo e=>up _ o N.iz e,w2.at λo e=>up _ o N.jz e⟩ t8 λc o c1 c2 c3 c4 e=>up c o c1 (kp c o c1 c2 c3 c4 e)
def SZ(hh:A.handled=none)(N:ZNe z a b i1 i2 l1 l2)(Z:ZAt t1 t2 s.heap z a b i1 i2 l1 l2 .none j k)(hl1:RowL t1 s.heap l1 xs)(hl2:RowL t2 s.heap l2 ys)(hend:xs[j]?=none∨ys[k]?=none){Q:Fin->Shared->Prop}
 (hE:∀g e,Pk z b i1 i2 s.heap g->(∃o,g.get? e=some o/\o.cls=.type "StopIteration")->E (.ref e) { s with heap:=g }):
 wpAny (model prog w) A (Builtin.«zip.__next__» ⟨[.ref z],[]⟩) Q E s:=by
 obtain⟨hz,hp,⟨u,v,hb⟩,q1,q2⟩:=Z;show wpAny _ _ (field (.ref z) 2 >>= _) _ _ _;refine i8 (iG hz rfl (x:=.bool false) rfl ?_);show wpAny _ _ (field (.ref z) 3 >>= _) _ _ _;refine i8 (iG hz rfl (x:=.ref a) rfl (i8 (jr hp rfl ?_)));show wpAny _ _ (Builtin.SmallTypes.ownedTupleIsFree (.ref z) >>= _) _ _ _;unfold Builtin.SmallTypes.ownedTupleIsFree;refine i8 (i8 (iG hz rfl (x:=.none) rfl (ie ?_)));simp only[iE];refine i8 (jA (i8 (iG hz rfl (x:=.ref b) rfl ?_)));refine i8 (jL hz (by simp) λg1 z1 s1=>?_);have z1:IsZip g1 z a b .ellipsis:=z1;refine i8 ?_;simp only[zipIdx_cons,List.zipIdx_nil,List.forIn_cons,List.forIn_nil];refine i8 (i8 (jM ?_));show wpAny _ _ (Builtin.SmallTypes.nextOf (.ref i1) >>= _) _ _ _;have o1:RowI t1 g1 i1 l1 j:=q1.at λo e=>s1.extBut _ _ N.iz e;have m1:RowL t1 g1 l1 xs:=hl1.at λo e=>s1.extBut _ _ N.lz e;cases hx:xs[j]? with
 |none=>
  refine i8 (M1 (s:={ s with heap:=g1 }) hh o1 m1 hx λg2 e s2 he=>?_);obtain⟨oe,he1,he2⟩:=he;have z2:IsZip g2 z a b .ellipsis:=s2 _ _ N.iz.symm z1;have ne:e≠z:=λq=>by subst q;rw[z2]at he1;cases he1;simp at he2
  exact jL z2 (by simp) λg3 _ s3=>hE g3 e (λc o c1 _ c3 _ q=>s3.extBut _ _ c1 (s2 _ _ c3 (s1.extBut _ _ c1 q))) ⟨oe,s3.extBut _ _ ne he1,he2⟩
 |some x=>
  have hy:ys[k]?=none:=by
   rcases hend with q|q
   .rw[hx]at q;cases q
   .exact q
  refine i8 (IB (s:={ s with heap:=g1 }) o1 m1 hx λg2 r2 s2=>ie ?_);have b2:IsPair g2 b u v:=s2.extBut _ _ N.bi (s1.extBut _ _ N.bz hb);refine i8 (jr b2 rfl (i8 (wpAny_updateSeq_pair b2 λg3 b3 s3=>?_)));refine i8 (wpAny_letGo (ie (i8 (i8 (jM ?_)))));show wpAny _ _ (Builtin.SmallTypes.nextOf (.ref i2) >>= _) _ _ _;have q3:RowI t2 g3 i2 l2 k:=q2.at λo e=>s3.extBut _ _ N.bj.symm (s2.extBut _ _ N.ij.symm (s1.extBut _ _ N.jz e));have m3:RowL t2 g3 l2 ys:=hl2.at λo e=>s3.extBut _ _ N.mb (s2.extBut _ _ N.mi (s1.extBut _ _ N.mz e));refine i8 (M1 (s:={ s with heap:=g3 }) hh q3 m3 hy λg4 e s4 he=>?_);obtain⟨oe,he1,he2⟩:=he;have z4:IsZip g4 z a b .ellipsis:=s4 _ _ N.jz.symm (s3.extBut _ _ N.bz.symm (s2.extBut _ _ N.iz.symm z1));have ne:e≠z:=λq=>by subst q;rw[z4]at he1;cases he1;simp at he2
  exact jL z4 (by simp) λg5 _ s5=>hE g5 e (λc o c1 c2 c3 c4 q=>s5.extBut _ _ c1 (s4 _ _ c4 (s3.extBut _ _ c2 (s2.extBut _ _ c3 (s1.extBut _ _ c1 q))))) ⟨oe,s5.extBut _ _ ne he1,he2⟩
end
def SqS(K:Frag)(tp:Bool)(H:Hp)(a:Addr)(xs:List V):Prop:=match tp with
 |true=>SqT K H a xs
 |false=>SqL K H a xs
def Itz(K:Frag)(t1 t2:Bool)(a b:Addr):It:=
 ⟨λi H=>∃xs ys x y,SqS K t1 H a xs/\SqS K t2 H b ys/\xs[i]?=some x/\ys[i]?=some y,
  λi H x H'=>∃p u v,H p=none/\H'=upd H p (.tup [u,v])/\x=.ref p/\(∀xs,SqS K t1 H a xs->xs[i]?=some u)/\∀ys,SqS K t2 H b ys->ys[i]?=some v,
  λi H=>∃xs ys,SqS K t1 H a xs/\SqS K t2 H b ys/\(xs.length<=i∨ys.length<=i)⟩
section
variable{X:Cx}{pins:List (Addr×Obj)}{σ:List (Option V)}{H:Hp}{s:Shared}
def Inv.row{tp:Bool}{a:Addr}{xs:List V}(I:Inv X pins σ H s)(h:SqS X.K tp H a xs):∃its:List Value,Vals xs its/\RowL tp s.heap a its.toArray/\xs.length<=sizeLine:=by
 cases tp with
 |true=>obtain⟨its,r,p,z⟩:=I.tuple h;exact⟨its,r,(show s.heap.IsTuple a its.toArray from p),z⟩
 |false=>obtain⟨its,r,p,z⟩:=I.list h;exact⟨its,r,p.isList,z⟩
def Inv.row_inj{tp:Bool}{a:Addr}{xs ys:List V}(I:Inv X pins σ H s)(h:SqS X.K tp H a xs)(h':SqS X.K tp H a ys):xs=ys:=by
 cases tp with
 |true=>exact I.tuple_inj h h'
 |false=>exact I.list_inj h h'
end
def RowL.lt{tp:Bool}{h:Heap}{l:Addr}{xs:Array Value}(x:RowL tp h l xs):l<h.objs.size:=by
 obtain⟨o,n,e,_⟩:=x.obj;exact Heap.lt_size e
def YY{M:Model}{A:Around}{E:Value->Shared->Prop}{s:Shared}{elts:List Expr}{x1}{pos:Pos}{z a b T:Addr}{Q:Unit->Shared->Prop}(hz:IsZip s.heap z a b (rawInt T)){prog:Program}{w:World}
 (hQ:∀g,IsZip g z a b .none->Heap.SameBut z s.heap g->Q () { s with heap:=g }):wpAny (model prog w) A (letOwnedTupleGo (.Tuple elts x1 pos) (.ref z) (.ref T)) Q E s:=wpAny_letOwnedTupleGo_zip hz hQ
def Sq{P:Program}{w:World}{K:Frag}{elts:List Expr}{kk:Nat}{tpos:Pos}{t1 t2:Bool}{z a b i1 i2 l1 l2:Addr}(N:ZNe z a b i1 i2 l1 l2):Turn P w K (.Tuple elts kk tpos) (Itz K t1 t2 l1 l2) [z,a,b,i1,i2] z (λi h=>ZAt t1 t2 h z a b i1 i2 l1 l2 .none i i) where
 mem:=by simp
 obj:=λi h st c hc=>by
  obtain⟨hz,hp,⟨u,v,hb⟩,q1,q2⟩:=st;simp only[ip,iV,j4]at hc;rcases hc with rfl|rfl|rfl|rfl|rfl
  .exact⟨_,hz,λv z=>by cases(show Data.fields _=Data.cell v from z)⟩
  .exact⟨_,hp,λv z=>by cases(show Data.seq _ _=Data.cell v from z)⟩
  .exact⟨_,hb,λv z=>by cases(show Data.seq _ _=Data.cell v from z)⟩
  .obtain⟨o,e,d⟩:=q1.obj;exact⟨o,e,λv z=>by rw[d]at z;cases z⟩
  .obtain⟨o,e,d⟩:=q2.obj;exact⟨o,e,λv z=>by rw[d]at z;cases z⟩
 keep:=λi h h' st k=>by
  obtain⟨hz,hp,⟨u,v,hb⟩,q1,q2⟩:=st;exact⟨k z (by simp) _ hz,k a (by simp) _ hp,⟨u,v,k b (by simp) _ hb⟩,q1.at λo e=>k i1 (by simp) o e,q2.at λo e=>k i2 (by simp) o e⟩
 item:=by
  intro X hP hw hK hc i pins s σ H E I hf st hg;subst hP hw hK;obtain⟨xs,ys,x,y,h1,h2,hx,hy⟩:=hg;obtain⟨ix,rx,px,zx⟩:=I.row h1;obtain⟨iy,ry,py,zy⟩:=I.row h2;obtain⟨u,hu,ru⟩:=rx.get hx;obtain⟨v,hv,rv⟩:=ry.get hy;have hT:s.TypeIs (.ref z) "zip":=⟨_,st.z,rfl⟩
  unfold pyNext;refine i8 (wpAny_attempt (jC (name:=Str.ofString "__next__") hT F.slot_zip_next (jq F.slot_zip_next hT F.entry_zip_next
   (Sa N st px py (x:=u) (y:=v) (by simpa using hu) (by simpa using hv) λg Z g5 kp=>ie ⟨_,rfl,?_⟩) (F.args_zip_next_1 _))))
  refine YY (M:=model X.prog X.w) (s:={ s with heap:=g }) Z.z λg' z' sb=>?_;have kp2:∀c o,c∉[z,a,b,i1,i2]->s.heap.get? c=some o->g'.get? c=some o:=λc o nc e=>by
   simp only[ip,iV,j4,not_or]at nc;exact sb.extBut _ _ nc.1 (kp c o nc.1 nc.2.2.1 nc.2.2.2.1 nc.2.2.2.2 e)
  have hTz:s.heap.objs.size≠z:=iZ (Heap.lt_size st.z);have hpair:IsPair g' s.heap.objs.size u v:=sb.extBut _ _ hTz g5;have fresh:H s.heap.objs.size=none:=I.hok.fresh (ig _);have I2:Inv X pins σ (upd H s.heap.objs.size (.tup [x,y])) { s with heap:=g' }:=I.turnsL (tk:=s.toks) (o:=.tup [x,y]) kp2 hf (ig _)
   (show ObjOk X.prog X.w _ g' _ (.tup [x,y])from⟨by show 2<=sizeLine;decide,[u,v],.cons ru (.cons rv .nil),⟨_,hpair,rfl,⟨_,rfl⟩,rfl⟩⟩)
  refine⟨.ref s.heap.objs.size,_,I2,rfl,⟨_,x,y,fresh,rfl,rfl,λxs' q=>by rw[I.row_inj q h1];exact hx,λys' q=>by rw[I.row_inj q h2];exact hy⟩,⟨z',?_,?_,?_,?_⟩,λc hc=>?_⟩
  .exact sb.extBut _ _ N.az Z.p
  .obtain⟨p,q,e⟩:=Z.o;exact⟨p,q,sb.extBut _ _ N.bz e⟩
  .exact Z.r1.at λo e=>sb.extBut _ _ N.iz e
  .exact Z.r2.at λo e=>sb.extBut _ _ N.jz e
  .have lt:c<s.heap.objs.size:=by
    obtain⟨hz,hp,⟨u,v,hb⟩,q1,q2⟩:=st;simp only[ip,iV,j4]at hc;rcases hc with rfl|rfl|rfl|rfl|rfl
    .exact Heap.lt_size hz
    .exact Heap.lt_size hp
    .exact Heap.lt_size hb
    .obtain⟨o,e,_⟩:=q1.obj;exact Heap.lt_size e
    .obtain⟨o,e,_⟩:=q2.obj;exact Heap.lt_size e
   rw[AF (iq lt)];exact(hf c hc).1
 done:=by
  intro X hP hw hK hc i pins s σ H E I hf st hg;subst hP hw hK;obtain⟨xs,ys,h1,h2,hend⟩:=hg;obtain⟨ix,rx,px,zx⟩:=I.row h1;obtain⟨iy,ry,py,zy⟩:=I.row h2;have l1':=rx.length;have l2':=ry.length;have hT:s.TypeIs (.ref z) "zip":=⟨_,st.z,rfl⟩
  unfold pyNext;refine i8 (wpAny_attempt (jC (name:=Str.ofString "__next__") hT F.slot_zip_next (jq F.slot_zip_next hT F.entry_zip_next
   (SZ (A:=X.A.in1) (show X.A.in1.handled=none from I.ok.hd hc) N st px py (hend.imp (λq=>by simp;omega) λq=>by simp;omega) λg e kp he=>?_) (F.args_zip_next_1 _))))
  obtain⟨o,ho,hcl⟩:=he;refine i8 (wpAny_isInstance (T:="StopIteration") (b:=true) ⟨o,ho,hcl⟩ isSubtype_stop (ie ⟨rfl,?_⟩));exact I.turns (tk:=s.toks) (λc o nc e=>by
   simp only[ip,iV,j4,not_or]at nc;exact kp c o nc.1 nc.2.2.1 nc.2.2.2.1 nc.2.2.2.2 e) hf
 self:=λ_ _ _ _ _ st h=>wpAny_pyIter_zip st.z h
abbrev Du(tp:Bool)(l:Addr):Obj:={ cls:=.type (match tp with|true=>"tuple_iterator" | false=>"list_iterator"),data:=.fields #[.ref l,.int 0 0] }
abbrev zh1(t1:Bool)(h:Heap)(l1:Addr):Heap:=h.push (Du t1 l1)
abbrev zh2(t1 t2:Bool)(h:Heap)(l1 l2:Addr):Heap:=(zh1 t1 h l1).push (Du t2 l2)
abbrev zh3(t1 t2:Bool)(h:Heap)(l1 l2:Addr):Heap:=(zh2 t1 t2 h l1 l2).push { cls:=.type "tuple",data:=.seq #[.ref h.objs.size,.ref (zh1 t1 h l1).objs.size] }
abbrev zh4(t1 t2:Bool)(h:Heap)(l1 l2:Addr):Heap:=(zh3 t1 t2 h l1 l2).push { cls:=.type "tuple",data:=.seq #[.none,.none] }
abbrev zh5(t1 t2:Bool)(h:Heap)(l1 l2:Addr):Heap:=(zh4 t1 t2 h l1 l2).push { cls:=.type "zip",data:=.fields #[.none,.bool false,.bool false,.ref (zh2 t1 t2 h l1 l2).objs.size,.ref (zh3 t1 t2 h l1 l2).objs.size] }
set_option maxHeartbeats 4000000 in
def Sb(t1 t2:Bool)(l1 l2:Addr)(xs ys:Array Value):
 Meets (Builtin.«zip.__new__» ⟨[.type "zip",.ref l1,.ref l2],[]⟩) (λ_ R s=>RowL t1 s.heap l1 xs/\RowL t2 s.heap l2 ys/\R (.ok (.ret (.ref (zh4 t1 t2 s.heap l1 l2).objs.size))) { s with heap:=zh5 t1 t2 s.heap l1 l2 }):=
 .of_wp λprog w A R s h=>by
  obtain⟨hp,g,d,tk,os⟩:=s;obtain⟨q1,q2,h⟩:=h;have hsub:=sub_zip;have q2':RowL t2 (hp.push (Du t1 l1)) l2 ys:=q2.at λo e=>Heap.get?_push_of_some _ e;cases t1<;>cases t2
  .have p1:Heap.IsList (Shared.heap ⟨hp,g,d,tk,os⟩) l1 xs:=q1;have p2:Heap.IsList (Shared.heap ⟨hp.push (Du false l1),g,d,tk,os⟩) l2 ys:=q2'
   wp_walk using wpAny_pyIter_list p1,wpAny_pyIter_list p2
   exact⟨_,rfl,h⟩
  .have p1:Heap.IsList (Shared.heap ⟨hp,g,d,tk,os⟩) l1 xs:=q1;have p2:Heap.IsTuple (Shared.heap ⟨hp.push (Du false l1),g,d,tk,os⟩) l2 ys:=q2'
   wp_walk using wpAny_pyIter_list p1,wpAny_pyIter_tuple p2
   exact⟨_,rfl,h⟩
  .have p1:Heap.IsTuple (Shared.heap ⟨hp,g,d,tk,os⟩) l1 xs:=q1;have p2:Heap.IsList (Shared.heap ⟨hp.push (Du true l1),g,d,tk,os⟩) l2 ys:=q2'
   wp_walk using wpAny_pyIter_tuple p1,wpAny_pyIter_list p2
   exact⟨_,rfl,h⟩
  .have p1:Heap.IsTuple (Shared.heap ⟨hp,g,d,tk,os⟩) l1 xs:=q1;have p2:Heap.IsTuple (Shared.heap ⟨hp.push (Du true l1),g,d,tk,os⟩) l2 ys:=q2'
   wp_walk using wpAny_pyIter_tuple p1,wpAny_pyIter_tuple p2
   exact⟨_,rfl,h⟩
def Vg{n l1 l2:Addr}(h1:l1<n)(h2:l2<n):ZNe (n+4) (n+2) (n+3) n (n+1) l1 l2:=by
 have k1:@LT.lt Nat _ l1 n:=h1;have k2:@LT.lt Nat _ l2 n:=h2;constructor<;>(intro z;have z:@Eq Nat _ _:=z;omega)
def Na{tp:Bool}{h:Heap}{a l:Addr}(e:h.get? a=some (Du tp l)):RowI tp h a l 0:=by
 cases tp with
 |true=>exact⟨_,e,rfl,rfl⟩
 |false=>exact⟨_,e,rfl,rfl⟩
section
variable{prog:Program}{w:World}{A:Around}{E:Value->Shared->Prop}{s:Shared}
def Sc{t1 t2:Bool}{l1 l2:Addr}{xs ys:Array Value}{Q:Value->Shared->Prop}(q1:RowL t1 s.heap l1 xs)(q2:RowL t2 s.heap l2 ys)
 (h:∀g,ZAt t1 t2 g (s.heap.objs.size+4) (s.heap.objs.size+2) (s.heap.objs.size+3) s.heap.objs.size (s.heap.objs.size+1) l1 l2 .none 0 0->(∀c o,s.heap.get? c=some o->g.get? c=some o)->Q (.ref (s.heap.objs.size+4)) { s with heap:=g }):
 wpAny (model prog w) A (call (.type "zip") [.ref l1,.ref l2]) Q E s:=by
 refine callType_new F.called_zip (by decide) (F.typeCall_zip_2 _ _) (F.newCall_zip_2 _ _) (λobj=>F.args_object_init_3 obj _ _) F.entry_zip_new (Sb t1 t2 l1 l2 xs ys) ⟨q1,q2,?_⟩;have n1:(zh1 t1 s.heap l1).objs.size=s.heap.objs.size+1:=Heap.size_push ..;have n2:(zh2 t1 t2 s.heap l1 l2).objs.size=s.heap.objs.size+2:=by rw[Heap.size_push,n1]
 have n3:(zh3 t1 t2 s.heap l1 l2).objs.size=s.heap.objs.size+3:=by rw[Heap.size_push,n2]
 have n4:(zh4 t1 t2 s.heap l1 l2).objs.size=s.heap.objs.size+4:=by rw[Heap.size_push,n3]
 have up:∀{g:Heap} {c:Addr} {o x:Obj},g.get? c=some o->(g.push x).get? c=some o:=λe=>Heap.get?_push_of_some _ e;have e5:(zh5 t1 t2 s.heap l1 l2).get? (zh4 t1 t2 s.heap l1 l2).objs.size=some _:=Heap.get?_push_size _ rfl;have e4:(zh5 t1 t2 s.heap l1 l2).get? (zh3 t1 t2 s.heap l1 l2).objs.size=some _:=up (Heap.get?_push_size _ rfl);have e3:(zh5 t1 t2 s.heap l1 l2).get? (zh2 t1 t2 s.heap l1 l2).objs.size=some _:=up (up (Heap.get?_push_size _ rfl));have e2:(zh5 t1 t2 s.heap l1 l2).get? (zh1 t1 s.heap l1).objs.size=some (Du t2 l2):=up (up (up (Heap.get?_push_size _ (by cases t2<;>rfl))));have e1:(zh5 t1 t2 s.heap l1 l2).get? s.heap.objs.size=some (Du t1 l1):=up (up (up (up (Heap.get?_push_size _ (by cases t1<;>rfl)))));show _/\_;rw[n2,n3,n4]at e5;rw[n1,n2]at e3;rw[n3]at e4;rw[n1]at e2;rw[n4];exact⟨⟨_,e5,rfl⟩,h _ ⟨e5,e3,⟨_,_,e4⟩,Na e1,Na e2⟩ λc o x=>up (up (up (up (up x))))⟩
end
def PK(K:Frag)(t1 t2:Bool)(ta:TA):TI:=λσ H R=>ta σ H λvs H1=>∃a b xs ys,vs=[.ref a,.ref b]/\SqS K t1 H1 a xs/\SqS K t2 H1 b ys/\R (Itz K t1 t2 a b) H1
section
variable{X:Cx}
def aQ{t1 t2:Bool}{a b:Expr}{ta:TA}{elts:List Expr}{kk:Nat}{tpos p pos:Pos}(hg:Gl X "zip")(hm:X.mg "zip"=none)(ha:PA X [a,b] ta)(hs:starEach [a,b] X.env=[(false,eval a X.env),(false,eval b X.env)]:=by rfl)(hs2:starEach [b] X.env=[(false,eval b X.env)]:=by rfl):
 PI X (.Tuple elts kk tpos) (.Call (.Name "zip" p) [a,b] [] pos) (PK X.K t1 t2 ta):=by
 intro pins s σ H R I h;refine Call_ (Et I hg hm boot_zip (PyProof.Rows.callWith_type1 (thn (ha pos pins s σ H _ I h) λus s1 ⟨vs,H1,I1,r1,q1⟩=>?_) (by rw[hs,hs2]) (by rw[hs2];rfl)));obtain⟨l1,l2,xs,ys,e,c1,c2,q⟩:=q1;subst e;obtain⟨u,v,rfl,ru,rv⟩:=OS r1;cases ru;cases rv;obtain⟨ix,rx,px,zx⟩:=I1.row c1;obtain⟨iy,ry,py,zy⟩:=I1.row c2;refine Sc px py λg Z kp=>wpAny_pyIter_zip Z.z ?_;refine⟨_,_,_,_,H1,rfl,I1.kept (t':=s1.toks) kp,Sq (Vg px.lt py.lt),Z,λc hc=>?_,q⟩;simp only[ip,iV,j4]at hc;have le:s1.heap.objs.size<=c:=by
  rcases hc with rfl|rfl|rfl|rfl|rfl
  .exact jG _ _
  .exact jG _ _
  .exact jG _ _
  .exact ig _
  .exact jG _ _
 exact I1.fpOk le (I1.hok.fresh le)
def Xa(K:Frag){t1 t2:Bool}{a b:Expr}{ta:TA}{elts:List Expr}{kk:Nat}{tpos p pos:Pos}(hg:Gl X "zip")(hm:X.mg "zip"=none)(ha:PA X [a,b] ta)(hK:X.K=K:=by rfl)(hs:starEach [a,b] X.env=[(false,eval a X.env),(false,eval b X.env)]:=by rfl)(hs2:starEach [b] X.env=[(false,eval b X.env)]:=by rfl):
 PI X (.Tuple elts kk tpos) (.Call (.Name "zip" p) [a,b] [] pos) (PK K t1 t2 ta):=by subst hK;exact aQ hg hm ha hs hs2
end
def dw(K:Frag)(ρ:List Addr)(H:Hp)(tp:Bool)(a:Addr)(ds:List D)(g:Gd):Prop:=∀(ρ2:List Addr) (H2:Hp) (hd2:Hd),Ext ρ H ρ2 H2->RH K ρ2 H2 hd2->GOk hd2 g->∃xs,SqS K tp H2 a xs/\RDs K ρ2 H2 ds xs
def RRw(K:Frag)(tp:Bool)(t:TE)(m:MI):Prop:=∀(ρ:List Addr) (σ:St) (H:Hp) (hd:Hd) (ls:Ls) (Q:VK) (d:List D) (g:Gd) (hd':Hd),RH K ρ H hd->RL K ρ H ls σ->m ls hd=some ((d,g),hd') ->
 (∀ρ' H' a,Ext ρ H ρ' H'->RH K ρ' H' hd'->GOk hd' g->dw K ρ' H' tp a d g->Q (.ref a) H')->t σ H Q
structure QR(K:Frag)(tp:Bool)(X:Cx)(e:Expr)(t:TE)(m:MI):Prop where
 p:PE X e t
 r:RRw K tp t m
section
variable{K:Frag}{ρ ρ':List Addr}{H H':Hp}{hd hd':Hd}
def Z2{t:TE}{m:ME}(h:RE K t m):RRw K true t (BF m):=by
 intro ρ σ H hd ls Q d g hd' hR hL hm hQ;obtain⟨⟨d1,h1⟩,e1,hm⟩:=i6 hm;obtain⟨ds,e2,e3⟩:=i7 hm;cases e3;refine h ρ σ H hd ls _ d1 _ hR hL e1 λρ1 H1 v x1 R1 r1=>?_;obtain⟨a,xs,rfl,q,r⟩:=r1.tup e2;exact hQ ρ1 H1 a x1 R1 (AK _) λρ2 H2 hd2 x2 R2 _=>⟨xs,(x2.grow R1).sq q,r.ext R1 x2⟩
def WK{t:TE}{m:ME}(h:RE K t m):RRw K false t (BV m):=by
 intro ρ σ H hd ls Q d g hd' hR hL hm hQ;obtain⟨⟨d1,h1⟩,e1,hm⟩:=i6 hm;dsimp only at hm;split at hm
 .next n=>
  split at hm
  .next ds q=>
   cases hm;refine h ρ σ H hd ls _ _ _ hR hL e1 λρ1 H1 v x1 R1 r1=>?_;simp only[RD]at r1;obtain⟨a,hn,rfl⟩:=r1;refine hQ ρ1 H1 a x1 R1 (λp z=>by simp at z;subst z;exact q) λρ2 H2 hd2 x2 R2 G2=>?_;have hn2:ρ2[n]?=some a:=by
    obtain⟨r,rfl,_⟩:=x2.pre;rw[List.getElem?_append_left (List.getElem?_eq_some_iff.mp hn).1];exact hn
   obtain⟨ys,e4,e5⟩:=R2.lst hn2 (G2 (n,d) (by simp));exact⟨ys,SqL.of e4,e5⟩
  .cases hm
 .next ns=>
  cases hm;refine h ρ σ H hd ls _ _ _ hR hL e1 λρ1 H1 v x1 R1 r1=>?_;simp only[RD]at r1;obtain⟨a,rfl,q⟩:=r1;exact hQ ρ1 H1 a x1 R1 (AK _) λρ2 H2 hd2 x2 R2 _=>⟨_,(q.grow (x2.grow R1)).sq,Ff⟩
 .cases hm
open Classical in
def IM(ma mb:MI):MI:=λls hd=>(ma ls hd).bind λp=>(mb ls p.2).bind λq=>if GOk q.2 p.1.2 then some ((List.zipWith (λx y=>AV [x,y]) p.1.1 q.1.1,p.1.2++q.1.2),q.2)else none
def ZE{t1 t2:Bool}{ta tb:TE}{ma mb:MI}(ha:RRw K t1 ta ma)(hb:RRw K t2 tb mb):RIt K (PK K t1 t2 (Bc ta (Bc tb CD))) (IM ma mb):=by
 intro ρ σ H hd ls Q d g hd' hR hL hm hQ;obtain⟨⟨⟨d1,g1⟩,h1⟩,e1,hm⟩:=i6 hm;obtain⟨⟨⟨d2,g2⟩,h2⟩,e2,hm⟩:=i6 hm;dsimp only at hm;split at hm
 .next gk=>
  cases hm;refine ha ρ σ H hd ls _ d1 g1 h1 hR hL e1 λρ1 H1 a x1 R1 G1 S1=>?_;refine hb ρ1 σ H1 h1 ls _ d2 g2 _ R1 (hL.ext hR x1) e2 λρ2 H2 b x2 R2 G2 S2=>?_;obtain⟨xs,c1,r1⟩:=S1 ρ2 H2 _ x2 R2 gk;obtain⟨ys,c2,r2⟩:=S2 ρ2 H2 _ .refl R2 G2;refine⟨a,b,xs,ys,rfl,c1,c2,hQ ρ2 H2 _ (x1.trans R1 x2) R2 (λp hp=>(mem_append.mp hp).elim (gk p) (G2 p)) ?_⟩;intro ρ3 H3 hd3 x3 R3 G3 i;obtain⟨xs,c1,r1⟩:=S1 ρ3 H3 _ (x2.trans R2 x3) R3 λp hp=>G3 p (j5 _ hp);obtain⟨ys,c2,r2⟩:=S2 ρ3 H3 _ x3 R3 λp hp=>G3 p (ir _ hp);have l1:=r1.len;have l2:=r2.len;refine⟨λhi=>?_,λhi=>⟨xs,ys,c1,c2,?_⟩⟩
  .simp only[List.length_zipWith]at hi;have i1:d1[i]?=some (d1[i]'(by omega)):=List.getElem?_eq_getElem _;have i2:d2[i]?=some (d2[i]'(by omega)):=List.getElem?_eq_getElem _;obtain⟨x,x4,x5⟩:=r1.get i1;obtain⟨y,y4,y5⟩:=r2.get i2;refine⟨⟨xs,ys,x,y,c1,c2,x4,y4⟩,λz H4 hz=>?_⟩;obtain⟨p,u,v,fp,rfl,rfl,hu,hv⟩:=hz;have eu:=hu xs c1;rw[x4]at eu;cases eu;have ev:=hv ys c2;rw[y4]at ev;cases ev;obtain⟨R4,x6⟩:=R3.hid (ho:=.tup [x,y]) fp;refine⟨ρ3,AV [d1[i]'(by omega),d2[i]'(by omega)],x6,rfl,R4,?_,Bp (SqT.of AJ) (.cons (x5.ext R3 x6) (.cons (y5.ext R3 x6) .nil))⟩;simp[List.getElem?_zipWith,i1,i2]
  .simp only[List.length_zipWith]at hi;omega
 .cases hm
end
section
variable(K:Frag){X:Cx}{a b e:Expr}{ta tb te:TE}{me:ME}{m:MA}
def R0(h:QE K X e te me):QR K true X e te (BF me):=⟨h.p,Z2 h.r⟩
def X5(h:QE K X e te me):QR K false X e te (BV me):=⟨h.p,WK h.r⟩
def Zt{t1 t2:Bool}{ma mb:MI}{elts:List Expr}{kk:Nat}{tpos p pos:Pos}(hm:X.mg "zip"=none)(ha:QR K t1 X a ta ma)(hb:QR K t2 X b tb mb)(hg:Gl X "zip":=by rfl)(hK:X.K=K:=by rfl)(hs:starEach [a,b] X.env=[(false,eval a X.env),(false,eval b X.env)]:=by rfl)(hs2:starEach [b] X.env=[(false,eval b X.env)]:=by rfl):
 QI K X (.Tuple elts kk tpos) (.Call (.Name "zip" p) [a,b] [] pos) (PK K t1 t2 (Bc ta (Bc tb CD))) (IM ma mb):=⟨Xa K hg hm (CV ha.p (CV hb.p DP hs2) (by rw[hs,hs2])) hK hs hs2,ZE ha.r hb.r⟩
end
section
variable{K:Frag}
def EB(ml:MA)(mb:ME):ME:=λls hd=>(ml ls hd).bind λp=>(mb ls p.2).bind λq=>match q.1 with
 |.im (.int i)=>(atI p.1 i).map (·,q.2)
 |_=>none
def ZQ{ta tb:TE}{ml:MA}{mb:ME}(ha:RN K ta ml)(hb:RE K tb mb):RE K (tOp (LC K) ta tb) (EB ml mb):=by
 and_intros;obtain⟨⟨d1,h1⟩,e1,hm⟩:=i6 hm;obtain⟨⟨d2,h2⟩,e2,hm⟩:=i6 hm;dsimp only at hm;split at hm
 .obtain⟨w,e3,e4⟩:=i7 hm;cases e4;refine ha ρ σ H hd ls _ d1 h1 hR hL e1 λρ1 H1 a xs x1 R1 na oa ea r1=>?_;refine hb ρ1 σ H1 h1 ls _ _ _ R1 (hL.ext hR x1) e2 λρ2 H2 v2 x2 R2 r2=>?_;simp only[RD,RI]at r2;subst r2;have r1':=r1.ext R1 x2;obtain⟨j,j1,j2⟩:=OO r1'.len e3;obtain⟨x,y1,y2⟩:=r1'.get j1;exact .inl ⟨a,xs,_,x,rfl,rfl,SqL.of (x2.keep a _ ea oa nt),j2 x y1,hQ ρ2 H2 x (x1.trans R1 x2) R2 y2⟩
 .cases hm
def Jv(neg:Bool)(x y:PyData)(hd:Hd):Option (D×Hd):=if x.canLay0=true/\y.canLay0=true/\min x.depth y.depth<=60 then some (.im (.bl (if neg then !PyData.eqv x y else PyData.eqv x y)),hd)else none
def DS(neg:Bool)(ma:ME)(ml:MA):ME:=λls hd=>(ma ls hd).bind λp=>(ml ls p.2).bind λq=>(pyD q.2 p.1).bind λx=>(Ba q.1).bind λis=>Jv neg x (.list (I.pys is)) q.2
def rEN(K:Frag)(neg:Bool):R2:=λx y H Q=>∃d e,Rep K H d x/\Rep K H e y/\d.canLay0=true/\e.canLay0=true/\min d.depth e.depth<=60/\Q (.bl (if neg then !PyData.eqv d e else PyData.eqv d e)) H
def Wd{ρ:List Addr}{H:Hp}{a:Addr}{xs:List V}{ds:List D}{is:List I}(ea:H a=some (.lst xs))(r:RDs K ρ H ds xs)(e:Ba ds=some is):Rep K H (.list (I.pys is)) (.ref a):=by
 rw[Ez e]at r;simp only[Rep];exact⟨a,xs,rfl,SqL.of ea,r.is.rep⟩
def Wi{neg:Bool}{ta tb:TE}{ma:ME}{ml:MA}(ha:RE K ta ma)(hb:RN K tb ml):RE K (tOp (rEN K neg) ta tb) (DS neg ma ml):=by
 and_intros;obtain⟨⟨d1,h1⟩,e1,hm⟩:=i6 hm;obtain⟨⟨d2,h2⟩,e2,hm⟩:=i6 hm;obtain⟨x,e3,hm⟩:=i6 hm;obtain⟨is,e4,hm⟩:=i6 hm;unfold Jv at hm;split at hm
 .next c=>
  cases hm;refine ha ρ σ H hd ls _ d1 h1 hR hL e1 λρ1 H1 v x1 R1 r1=>?_;refine hb ρ1 σ H1 h1 ls _ d2 _ R1 (hL.ext hR x1) e2 λρ2 H2 a xs x2 R2 na oa ea r2=>?_;exact⟨_,_,Dg R2 (r1.ext R1 x2) e3,Wd ea r2 e4,c.1,c.2.1,c.2.2,hQ ρ2 H2 _ (x1.trans R1 x2) R2 (by simp[RD,RI])⟩
 .cases hm
end
def ap(K:Frag){X:Cx}(hu:X.A.units+64<cLine)(hK:X.K=K:=by rfl):OpR X (compareOp .NotEq) (rEN K true):=HJ K hu hK
section
variable(K:Frag){X:Cx}{a b e:Expr}{ta tb te:TE}{ma mb me:ME}{m mk:MA}{pos:Pos}{op:CmpOp}{neg:Bool}
def aF(ha:QN K X a ta m)(hb:QE K X b tb mb)(hs:K6 b:=by exact λ_ _=>rfl)(hK:X.K=K:=by rfl):QE K X (.Subscript a b pos) (tOp (LC K) ta tb) (EB m mb):=⟨VM ((MY K hK).or (O4 K hK)) ha.p hb.p hs,ZQ ha.r hb.r⟩
def Ws(ho:OpR X (compareOp op) (rEN K neg))(ha:QE K X a ta ma)(hb:QN K X b tb m)(hm:behindInMarks op b=false:=by first|exact J4 _|rfl):QT K X (.Compare a [op] [b] pos) (L9 (tOp (rEN K neg) ta tb)) (AH (DS neg ma m)):=⟨Nk ho ha.p hb.p hm,FX (Wi ha.r hb.r)⟩
end
def CP(lo:Int):Nat->List V
 |0=>[]
 |n+1=>.int lo::CP (lo+1) n
def Ot(lo:Int)(n:Nat):(CP lo n).length=n:=by
 induction n generalizing lo with
 |zero=>rfl
 |succ n ih=>simp[CP,ih]
def M8{K:Frag}{ρ:List Addr}{H:Hp}(lo:Int)(n:Nat):RDs K ρ H (AG lo n) (CP lo n):=by
 induction n generalizing lo with
 |zero=>simp[AG,CP,RDs]
 |succ n ih=>exact .cons (by simp[RD,RI]) (ih _)
theorem Iw{lo:Int}:∀{n:Nat} {us:List Value},us.length=n->(∀(j:Nat) (v:Value),us[j]?=some v->∃t,v=.int (lo+j*1) t)->Vals (CP lo n) us
 |0,us,h,_=>by
  have:us=[]:=List.length_eq_zero_iff.mp h;subst this;exact .nil
 |n+1,[],h,_=>by simp at h
 |n+1,u::us,h,k=>by
  obtain⟨t,e⟩:=k 0 u rfl;refine .cons ⟨t,by rw[e];simp⟩ (Iw (by simpa using h) λj v q=>?_);obtain⟨t',e'⟩:=k (j+1) v (by simpa using q);exact⟨t',by rw[e'];congr 1;push_cast;omega⟩
def Ng:List V->Hp->VK->Prop:=λxs H Q=>∃j:Int,xs=[.int j]/\∀p,H p=none->Q (.ref p) (upd H p (.rng 0 j))
def Nf:List V->Hp->VK->Prop:=λxs H Q=>∃i j:Int,xs=[.int i,.int j]/\∀p,H p=none->Q (.ref p) (upd H p (.rng i j))
def MB:List V->Hp->VK->Prop:=λxs H Q=>∃a lo hi,xs=[.ref a]/\H a=some (.rng lo hi)/\(-(2^62)<=lo/\lo<2^62/\-(2^62)<=hi/\hi<2^62)/\(hi-lo).toNat<=2^24/\∀p,H p=none->Q (.ref p) (upd H p (.lst (CP lo (hi-lo).toNat)))
section
variable{X:Cx}
def call_rng1:CallR X (.type "range") Ng:=by
 intro pins s σ H xs us Q I r h;obtain⟨j,rfl,q⟩:=h;obtain⟨u,rfl,t,rfl⟩:=Cf r;exact call_range_1 ⟨.ref s.heap.objs.size,_,I.laid (a:=s.heap.objs.size) (o:=.rng 0 j) (λb o e=>Heap.get?_push_of_some _ e) (ig _) ⟨_,_,_,Heap.get?_push_size _ rfl⟩,rfl,q _ (I.hok.fresh (ig _))⟩
def SQ:CallR X (.type "range") Nf:=by
 intro pins s σ H xs us Q I r h;obtain⟨i,j,rfl,q⟩:=h;obtain⟨u,v,rfl,⟨t,rfl⟩,⟨t',rfl⟩⟩:=OS r;exact call_range_2 ⟨.ref s.heap.objs.size,_,I.laid (a:=s.heap.objs.size) (o:=.rng i j) (λb o e=>Heap.get?_push_of_some _ e) (ig _) ⟨_,_,_,Heap.get?_push_size _ rfl⟩,rfl,q _ (I.hok.fresh (ig _))⟩
def cv{lo hi:Int}:Builtin.Range.rangeSize lo hi 1=((hi-lo).toNat:Nat):=by rw[rangeSize_one];split<;>omega
def PH{lo:Int}{n:Nat}{acc:Array Value}(it:ItemsOf (λi v=>∃t,v=.int (lo+i*1) t) acc n):Vals (CP lo n) acc.toList:=Iw (by simpa using it.1) λj v q=>it.2 j v (by simpa using q)
def Pd(hc:X.calm=true):CallR X (.type "list") MB:=by
 intro pins s σ H xs us Q I r h;obtain⟨a,lo,hi,rfl,ha,⟨b1,b2,b3,b4⟩,hz,q⟩:=h;obtain⟨u,rfl,ru⟩:=Cf r;cases ru;obtain⟨t,u,v,hr⟩:∃t u v,s.heap.get? a=some { cls:=.type "range",data:=.fields #[.int lo t,.int hi u,.int 1 v] }:=I.hok a _ ha;refine call_list_range (I.ok.hd hc) hr (small_one b1 b2 b3 b4) cv hz λg tk acc c' kp e it=>?_;exact⟨.ref s.heap.objs.size,_,I.laid (t':=tk) (o:=.lst _) kp (ig _) ⟨by rw[Ot,je];omega,acc.toList,c',PH it,by simpa using e⟩,rfl,q _ (I.hok.fresh (ig _))⟩
end
section
variable{K:Frag}
open Classical in
def Gc(m:MA):MA:=λls hd=>(m ls hd).bind λp=>match p.1 with
 |[.im (.int j)]=>if LA j then some (AG 0 j.toNat,p.2)else none
 |[.im (.int i),.im (.int j)]=>if V7 i j then some (AG i (j-i).toNat,p.2)else none
 |_=>none
def Qx:List V->Hp->VK->Prop:=λxs H Q=>Ng xs H Q∨Nf xs H Q
def TN{t:TA}{m:MA}(h:RA K t m):RN K (tCB MB (Bc (tCB Qx t) CD)) (Gc m):=by
 and_intros;obtain⟨⟨d1,h1⟩,e1,hm⟩:=i6 hm;dsimp only at hm;refine h ρ σ H hd ls _ d1 h1 hR hL e1 λρ1 H1 v x1 R1 r1=>?_;split at hm
 .next j=>
  split at hm
  .next c=>
   have c:j<2^24/\-(2^62)<=j:=c;cases hm;simp only[RDs,RD,RI]at r1;obtain⟨x,r,rfl,rfl,rfl⟩:=r1;refine .inl ⟨j,rfl,λp hp=>⟨p,0,j,rfl,AJ,⟨by decide,by decide,c.2,by omega⟩,by omega,λl hl=>?_⟩⟩;obtain⟨R2,x2⟩:=R1.hid (ho:=.rng 0 j) hp;obtain⟨R3,x3⟩:=R2.hid (ho:=.lst (CP 0 (j-0).toNat)) hl;refine hQ ρ1 _ l (CP 0 (j-0).toNat) ((x1.trans R1 x2).trans R2 x3) R3 ((x1.trans R1 x2).none hR hl R2) (R2.out hl) AJ ?_;rw[Int.sub_zero];exact M8 0 _
  .cases hm
 .next i j=>
  split at hm
  .next c=>
   cases hm;simp only[RDs,RD,RI]at r1;obtain⟨x,r,rfl,rfl,y,r2,rfl,rfl,rfl⟩:=r1;refine .inr ⟨i,j,rfl,λp hp=>⟨p,i,j,rfl,AJ,⟨c.1.1,c.1.2,c.2.1.1,c.2.1.2⟩,c.2.2,λl hl=>?_⟩⟩;obtain⟨R2,x2⟩:=R1.hid (ho:=.rng i j) hp;obtain⟨R3,x3⟩:=R2.hid (ho:=.lst (CP i (j-i).toNat)) hl;exact hQ ρ1 _ l (CP i (j-i).toNat) ((x1.trans R1 x2).trans R2 x3) R3 ((x1.trans R1 x2).none hR hl R2) (R2.out hl) AJ (M8 i _)
  .cases hm
 .cases hm
def dU(m:MA):ME:=λls hd=>(Gc m ls hd).bind λp=>some (AV p.1,p.2)
def Jf:∀{xs ys:List Int},xs.Perm ys->xs.Pairwise (·<=·)->ys.Pairwise (·<=·)->xs=ys:=λ{xs ys} p a b=>
 p.eq_of_pairwise (le:=(·<=·)) (λ_ _ _ _ h1 h2=>Int.le_antisymm h1 h2) a b
def BB(xs:List Int):List Int:=xs.mergeSort (λa b=>decide (a<=b))
def EL(xs:List Int):(BB xs).Perm xs:=List.mergeSort_perm ..
def GQ(xs:List Int):(BB xs).Pairwise (·<=·):=by
 have:=List.pairwise_mergeSort (le:=λa b:Int=>decide (a<=b)) (by intro a b c h1 h2;simp at *;omega) (by intro a b;simp;omega) xs;exact this.imp (by simp)
def CW(m:MI):MA:=λls hd=>(m ls hd).bind λp=>(B3 p.1.1).bind λns=>if ns.length<64 then some ((BB ns).map λi=>.im (.int i),p.2)else none
def Op{t:TE}{m:MI}(h:RRw K false t m):RN K (tCB (Ja K) (Bc t CD)) (CW m):=by
 and_intros;obtain⟨⟨⟨d1,g1⟩,h1⟩,e1,hm⟩:=i6 hm;obtain⟨ns,e2,hm⟩:=i6 hm;split at hm
 .next c=>
  cases hm;refine h ρ σ H hd ls _ d1 g1 _ hR hL e1 λρ1 H1 a x1 R1 G1 S1=>?_;obtain⟨xs,q,r⟩:=S1 ρ1 H1 _ .refl R1 G1;have e3:d1=ns.map λi=>.im (.int i):=Eu e2;rw[e3]at r;have:=HF r;subst this;refine⟨a,ns,rfl,q,c,λp ns' hp pm pw=>?_⟩;have:ns'=BB ns:=Jf (pm.trans (EL ns).symm) pw (GQ ns);subst this;obtain⟨R2,x2⟩:=R1.hid (ho:=.lst ((BB ns).map V.int)) hp;exact hQ ρ1 _ p _ (x1.trans R1 x2) R2 (x1.none hR hp R1) (R1.out hp) AJ Ff
 .cases hm
end
section
variable(K:Frag){X:Cx}{a b e:Expr}{ta tb te:TE}{me:ME}{m:MA}{t:TA}{p p2 pos pos2:Pos}{es:List Expr}
def Tk(hm:X.mg "list"=none)(hm2:X.mg "range"=none)(ha:QA K X (a::es) t m)(hc:X.calm=true:=by rfl)(hg:Gl X "list":=by rfl)(hg2:Gl X "range":=by rfl)(he2:starEach (a::es) X.env=(false,eval a X.env)::starEach es X.env:=by rfl)(hpl:(backTo pos2 (starEach es X.env)).any (·.1)=false:=by rfl)
 (he:starEach [.Call (.Name "range" p2) (a::es) [] pos2] X.env=[(false,eval (.Call (.Name "range" p2) (a::es) [] pos2) X.env)]:=by rfl):
 QN K X (.Call (.Name "list" p) [.Call (.Name "range" p2) (a::es) [] pos2] [] pos) (tCB MB (Bc (tCB Qx t) CD)) (Gc m):=
 ⟨E5 (Pd hc) hg hm OL (CV (E5 (call_rng1.or SQ) hg2 hm2 boot_range ha.p (by decide) (by decide) he2 hpl) DP he) (by decide) (by decide) he rfl,TN ha.r⟩
def Oz{mi:MI}(hm:X.mg "sorted"=none)(ha:QR K false X e te mi)(hg:Gl X "sorted":=by rfl)(he:starEach [e] X.env=[(false,eval e X.env)]:=by rfl)(hK:X.K=K:=by rfl):QN K X (.Call (.Name "sorted" p) [e] [] pos) (tCB (Ja K) (Bc te CD)) (CW mi):=
 ⟨Fz (Mv K hK) hg hm Ki (CV ha.p DP he) (by decide) (by decide) he rfl,Op ha.r⟩
end
end L2
namespace L2
structure BltA(mg:PySem.Str->Option PySem.Value):Prop where
 list:mg "list"=none
 tuple:mg "tuple"=none
 len:mg "len"=none
 range:mg "range"=none
 repr:mg "repr"=none
 sum:mg "sum"=none
 min:mg "min"=none
 max:mg "max"=none
 abs:mg "abs"=none
 all:mg "all"=none
 any:mg "any"=none
 sorted:mg "sorted"=none
 zip:mg "zip"=none
 isinstance:mg "isinstance"=none
 int:mg "int"=none
 bool:mg "bool"=none
 str:mg "str"=none
 set:mg "set"=none
 enumerate:mg "enumerate"=none
 reversed:mg "reversed"=none
 dict:mg "dict"=none
end L2
namespace L2
open PySem PySem.Spec PyProof.Rows
section
variable{ls:Ls}{hd:Hd}{a b c:MS}{ma mb mc:ME}{ta tb:MT}{m m1 m2:MA}{n:MG}{ns:MGs}{d e:D}
@[simp] theorem JG:A8 a b ls hd=(a ls hd).bind λp=>match p.1 with
 |.nx ls1=>b ls1 p.2
 |f=>some (f,p.2):=rfl
@[simp] theorem OA:Aa ls hd=some (.nx ls,hd):=rfl
@[simp] theorem YQ:Aw ma ls hd=(ma ls hd).bind λp=>some (.nx ls,p.2):=rfl
@[simp] theorem S8:AM ma ls hd=(ma ls hd).bind λp=>some (.rt p.1,p.2):=rfl
@[simp] theorem fM:dW ls hd=some (.rt (.im .non),hd):=rfl
@[simp] theorem f6:bK ls hd=some (.bk ls,hd):=rfl
@[simp] theorem fX:db ls hd=some (.ct ls,hd):=rfl
@[simp] theorem Mj:Aj ta a b ls hd=(ta ls hd).bind λp=>if p.1=true then a ls p.2 else b ls p.2:=rfl
@[simp] theorem Gm:GA ma n ls hd=(ma ls hd).bind λp=>(n p.1 ls p.2).map λls'=>(.nx ls',p.2):=rfl
@[simp] theorem Jt(i:Nat):AC i d ls hd=some (ls.set i (some d)):=rfl
@[simp] theorem fO(k:Nat):Bb k ns d ls hd=(AL d).bind λds=>if ds.length=k then ns ds ls hd else none:=rfl
@[simp] theorem eZ(d:D)(ds:List D):AU n ns (d::ds) ls hd=(n d ls hd).bind λls1=>ns ds ls1 hd:=rfl
@[simp] theorem fQ:Bg [] ls hd=some ls:=rfl
@[simp] theorem br(ix:List Nat):CG ix m ls hd=(m ls hd).bind λp=>if p.1.length=ix.length then some (.nx ((ix.zip p.1).foldl (λl q=>l.set q.1 (some q.2)) ls),p.2)else none:=rfl
@[simp] theorem fN(i j k:Nat):HL i j k m ls hd=CG [k,j,i] (λls hd=>(m ls hd).map λp=>(p.1.reverse,p.2)) ls hd:=rfl
@[simp] theorem DX(i:Nat):A0 i ls hd=match ls[i]? with
 |some (some d)=>some (d,hd)
 |_=>none:=rfl
@[simp] theorem i5(i:I):mC i ls hd=some (.im i,hd):=rfl
@[simp] theorem PV(f:D->D->Hd->Option (D×Hd)):mOp f ma mb ls hd=(ma ls hd).bind λp=>(mb ls p.2).bind λq=>f p.1 q.1 q.2:=rfl
@[simp] theorem Ml:CI ta tb ls hd=(ta ls hd).bind λp=>if p.1=true then tb ls p.2 else some (false,p.2):=rfl
@[simp] theorem gW:mOr ta tb ls hd=(ta ls hd).bind λp=>if p.1=true then some (true,p.2)else tb ls p.2:=rfl
@[simp] theorem gA:CH ta ls hd=(ta ls hd).bind λp=>some (!p.1,p.2):=rfl
@[simp] theorem JF:B9 ma ls hd=(ma ls hd).bind λp=>(Cv p.2 p.1).map (·,p.2):=rfl
@[simp] theorem HU:AH ma ls hd=(ma ls hd).bind λp=>match p.1 with
 |.im (.bl b)=>some (b,p.2)
 |_=>none:=rfl
@[simp] theorem gX:mIf ta ma mb ls hd=(ta ls hd).bind λp=>if p.1=true then ma ls p.2 else mb ls p.2:=rfl
@[simp] theorem fZ:DU ma mb ls hd=(AH ma ls hd).bind λp=>if p.1=true then mb ls p.2 else some (.im (.bl false),p.2):=rfl
@[simp] theorem fz:eU ma mb ls hd=(AH ma ls hd).bind λp=>if p.1=true then some (.im (.bl true),p.2)else mb ls p.2:=rfl
@[simp] theorem fP:HM ma ls hd=(AH ma ls hd).bind λp=>some (.im (.bl (!p.1)),p.2):=rfl
@[simp] theorem Mh:A4 ls hd=some ([],hd):=rfl
@[simp] theorem OB:A1 ma m ls hd=(ma ls hd).bind λp=>(m ls p.2).bind λq=>some (p.1::q.1,q.2):=rfl
open Classical in
@[simp] theorem fu:Ae m ls hd=(m ls hd).bind λp=>if CC p.1.length then some (AV p.1,p.2)else none:=rfl
open Classical in
@[simp] theorem bv:BA m ls hd=(m ls hd).bind λp=>if CC p.1.length then some (p.1,p.2)else none:=rfl
@[simp] theorem bt:Ao m ls hd=(m ls hd).bind λp=>some (.mu p.2.length,p.2++[.lst p.1]):=rfl
@[simp] theorem bu:Cw ma ls hd=(ma ls hd).bind λp=>match p.1 with
 |.im (.int i)=>some (.im (.int (-i)),p.2)
 |_=>none:=rfl
@[simp] theorem gB(neg:Bool):Dk neg ma ls hd=(ma ls hd).bind λp=>some (.im (.bl (match p.1 with
 |.im .non=>!neg
 | _=>neg)),p.2):=rfl
@[simp] theorem gY(g:Int->Int->Option I)(i j:Int):fI g (.im (.int i)) (.im (.int j)) hd=(g i j).map (.im ·,hd):=rfl
@[simp] theorem Ju(f g:D->D->Hd->Option (D×Hd)):CJ f g d e hd=match f d e hd with
 |some z=>some z
 |none=>g d e hd:=rfl
@[simp] theorem Mk(neg:Bool)(i j:Int):FP neg (.im (.int i)) (.im (.int j)) hd=some (.im (.bl (if neg then !decide (i=j)else decide (i=j))),hd):=by simp[FP,scI,Lj]
@[simp] theorem gC(neg:Bool)(i j:Str):FP neg (.im (.str i)) (.im (.str j)) hd=some (.im (.bl (if neg then !decide (i=j)else decide (i=j))),hd):=by simp[FP,scI,Lj]
@[simp] theorem dk(i:Int):gIx d (.im (.int i)) hd=(Ad hd d).bind λds=>(atI ds i).map (·,hd):=rfl
@[simp] theorem fW:di d e hd=(K0 hd d).bind λkvs=>(Gi e).bind λk=>(Yn kvs k).map (·,hd):=rfl
@[simp] theorem gZ(f:List D->Hd->Option (D×Hd)):mCB f m ls hd=(m ls hd).bind λp=>f p.1 p.2:=rfl
@[simp] theorem dl(tp:Bool)(g:List D->Option D):f1 tp g [d] hd=((if tp then Ad hd d else Ay hd d)).bind λds=>(g ds).map (·,hd):=rfl
@[simp] theorem S9(g:List D->Option D):BL g m ls hd=(m ls hd).bind λp=>(g p.1).map (·,p.2):=rfl
@[simp] theorem PX(f:D->List D->Hd->Option (D×Hd)):mMt f ma m ls hd=(ma ls hd).bind λp=>match Ay p.2 p.1 with
 |some _=>(m ls p.2).bind λq=>f p.1 q.1 q.2
 |none=>none:=rfl
@[simp] theorem fS(i j:Int):Vb [.im (.int i),.im (.int j)] hd=some (.im (.int (if j>i then j else i)),hd):=rfl
@[simp] theorem fR(i j:Int):HQ [.im (.int i),.im (.int j)] hd=some (.im (.int (if j<i then j else i)),hd):=rfl
@[simp] theorem gD(i:Int):Gk [.im (.int i)] hd=some (.im (.int (if i<0 then -i else i)),hd):=rfl
@[simp] theorem bw:EB m ma ls hd=(m ls hd).bind λp=>(ma ls p.2).bind λq=>match q.1 with
 |.im (.int i)=>(atI p.1 i).map (·,q.2)
 |_=>none:=rfl
@[simp] theorem c8:BF ma ls hd=(ma ls hd).bind λp=>(AL p.1).map λds=>((ds,[]),p.2):=rfl
@[simp] theorem cA:bJ m ls hd=(m ls hd).map λp=>((p.1,[]),p.2):=rfl
@[simp] theorem Mi:BV ma ls hd=(ma ls hd).bind λp=>match p.1 with
 |.mu n=>match p.2[n]? with
  |some (.lst ds)=>some ((ds,[(n,ds)]),p.2)
  |_=>none
 |.ro ns=>some ((ns.map λn=>.im (.int n),[]),p.2)
 |_=>none:=rfl
open Classical in
@[simp] theorem c9:Bh m ls hd=(m ls hd).bind λp=>match p.1 with
 |[.im (.int j)]=>if GV j then some ((AG 0 j.toNat,[]),p.2)else none
 |_=>none:=rfl
open Classical in
@[simp] theorem YO:VW m ls hd=(m ls hd).bind λp=>match p.1 with
 |[.im (.int i),.im (.int j)]=>if TM i j then some ((AG i (j-i).toNat,[]),p.2)else none
 |_=>none:=rfl
@[simp] theorem cB(mi:MI):Ax mi n a ls hd=(mi ls hd).bind λp=>B1 n a p.1.2 p.1.1 ls p.2:=rfl
open Classical in
@[simp] theorem fY(k:Nat)(ix:List Nat)(mi:MI):Ai k ix mi n ta ma ls hd=(mi ls hd).bind λp=>if CC p.1.1.length then BD n ta ma p.1.2 p.1.1 (EW k ix ls) p.2 else none:=rfl
@[simp] theorem ft:BM ls hd=some (true,hd):=rfl
@[simp] theorem ey(F:List D->Hd->Option (D×Hd)):DT F m ls hd=(m ls hd).bind λp=>F p.1 p.2:=rfl
@[simp] theorem eB:Ap ls hd=some (none,hd):=rfl
@[simp] theorem YM:BN ma ls hd=(ma ls hd).bind λp=>match p.1 with
 |.im (.int i)=>some (some i,p.2)
 |_=>none:=rfl
@[simp] theorem fT:dX ma ls hd=(ma ls hd).bind λp=>(Ad p.2 p.1).map (·,p.2):=rfl
@[simp] theorem eg:Ge m ls hd=m ls hd:=rfl
@[simp] theorem fw(ml mh:MO1):MU ma ml mh ls hd=(ma ls hd).bind λp=>(ml ls p.2).bind λl=>(mh ls l.2).bind λh=>(Ay h.2 p.1).bind λds=>some (Br ds l.1 h.1,h.2):=rfl
@[simp] theorem fv(ml mh:MO1):eQ ma ml mh ls hd=(ma ls hd).bind λp=>(ml ls p.2).bind λl=>(mh ls l.2).bind λh=>(AL p.1).bind λds=>if ¬ (HT.sIx ds.length 0 l.1=0/\HT.sIx ds.length ds.length h.1=ds.length)then some (AV (Br ds l.1 h.1),h.2)else none:=rfl
@[simp] theorem fL:dU m ls hd=(Gc m ls hd).bind λp=>some (AV p.1,p.2):=rfl
open Classical in
@[simp] theorem bo:Gc m ls hd=(m ls hd).bind λp=>match p.1 with
 |[.im (.int j)]=>if LA j then some (AG 0 j.toNat,p.2)else none
 |[.im (.int i),.im (.int j)]=>if V7 i j then some (AG i (j-i).toNat,p.2)else none
 |_=>none:=rfl
@[simp] theorem S7(mi:MI):CW mi ls hd=(mi ls hd).bind λp=>(B3 p.1.1).bind λns=>if ns.length<64 then some ((BB ns).map λi=>.im (.int i),p.2)else none:=rfl
@[simp] theorem fV(ms:List (ME×ME)):dY ms ls hd=(Fc ms ls hd).bind λp=>if p.1.length<=15 then some (.mu p.2.length,p.2++[.dic (Rj [] p.1)])else none:=rfl
@[simp] theorem eA:Fc [] ls hd=some ([],hd):=rfl
@[simp] theorem eY(r:List (ME×ME)):Fc ((ma,mb)::r) ls hd=(ma ls hd).bind λp=>(mb ls p.2).bind λq=>(Fc r ls q.2).bind λz=>(Gi p.1).map λk=>((k,q.1)::z.1,z.2):=rfl
open Classical in
@[simp] theorem fU:dZ ma mb mc ls hd=(mc ls hd).bind λp=>(ma ls p.2).bind λq=>(mb ls q.2).bind λr=>(Gi r.1).bind λk=>match q.1 with
 |.mu n=>match r.2[n]? with
  |some (.dic kvs)=>if FK kvs.length then some (.nx ls,r.2.set n (.dic (Tt kvs k p.1)))else none
  |_=>none
 |_=>none:=rfl
@[simp] theorem YN:EO ma mb mc ls hd=(mc ls hd).bind λp=>(ma ls p.2).bind λq=>(mb ls q.2).bind λr=>match q.1,r.1 with
 |.mu n,.im (.int i)=>match r.2[n]? with
  |some (.lst ds)=>(ixN ds.length i).map λj=>(.nx ls,r.2.set n (.lst (ds.set j p.1)))
  |_=>none
 |_,_=>none:=rfl
@[simp] theorem fc(is:List I):AL (.im (.tup is))=some (is.map .im):=rfl
@[simp] theorem gI(ds:List D):AL (.tm ds)=some ds:=rfl
@[simp] theorem gK(k:Nat):AL (.mu k)=none:=rfl
@[simp] theorem gJ(k:List Int):AL (.ro k)=none:=rfl
@[simp] theorem fm(is:List I):Ad hd (.im (.tup is))=some (is.map .im):=rfl
@[simp] theorem gQ(ds:List D):Ad hd (.tm ds)=some ds:=rfl
@[simp] theorem cn(k:Nat):Ad hd (.mu k)=Ay hd (.mu k):=rfl
@[simp] theorem gR(k:List Int):Ad hd (.ro k)=some (k.map λn=>.im (.int n)):=rfl
@[simp] theorem LG(k:Nat):Ay hd (.mu k)=match hd[k]? with
 |some (.lst ds)=>some ds
 |_=>none:=rfl
@[simp] theorem gS(k:List Int):Ay hd (.ro k)=some (k.map λn=>.im (.int n)):=rfl
@[simp] theorem gc(k:Nat):K0 hd (.mu k)=match hd[k]? with
 |some (.dic ds)=>some ds
 |_=>none:=rfl
@[simp] theorem gU(i:Int):Gi (.im (.int i))=some (.inl i):=rfl
@[simp] theorem gT(i:Str):Gi (.im (.str i))=some (.inr i):=rfl
@[simp] theorem gH:Ba []=some []:=rfl
@[simp] theorem gh(i:I)(r:List D):Ba (.im i::r)=(Ba r).map (i::·):=rfl
@[simp] theorem fo:B3 []=some []:=rfl
@[simp] theorem fq(i:Int)(r:List D):B3 (.im (.int i)::r)=(B3 r).map (i::·):=rfl
@[simp] theorem gG:CO []=some []:=rfl
@[simp] theorem gf(i:Bool)(r:List D):CO (.im (.bl i)::r)=(CO r).map (i::·):=rfl
@[simp] theorem BU(is:List I):AV (is.map .im)=.im (.tup is):=by simp[AV]
@[simp] theorem GZ:AV []=.im (.tup []):=rfl
@[simp] theorem fJ(i:I):AV [.im i]=.im (.tup [i]):=rfl
@[simp] theorem fH(i j:I):AV [.im i,.im j]=.im (.tup [i,j]):=rfl
@[simp] theorem fG(i j k:I):AV [.im i,.im j,.im k]=.im (.tup [i,j,k]):=rfl
@[simp] theorem fF(i j k l:I):AV [.im i,.im j,.im k,.im l]=.im (.tup [i,j,k,l]):=rfl
@[simp] theorem gF(w:Nat)(i:I):clD w (.im i)=true:=by simp[clD]
@[simp] theorem gE(w n:Nat):clD w (.mu n)=decide (n<w):=by simp[clD]
@[simp] theorem f7(w:Nat):Au w []=true:=by simp[Au]
@[simp] theorem SM(w:Nat)(d:D)(ds:List D):Au w (d::ds)=(clD w d&&Au w ds):=by simp[Au]
@[simp] theorem Cz{α:Type}(x:α)(r:List α):atI (x::r) 0=some x:=DJ (j:=0) rfl
@[simp] theorem Dq{α:Type}(x y:α)(r:List α):atI (x::y::r) 1=some y:=DJ (j:=1) rfl
@[simp] theorem GG{α:Type}(x y z:α)(r:List α):atI (x::y::z::r) 2=some z:=DJ (j:=2) rfl
def Cr{α:Type}{xs:List α}{i:Int}{k:Nat}{x:α}(hi:i=k)(h:xs[k]?=some x):atI xs i=some x:=by subst hi;exact DJ h
@[simp] theorem CA:CC 0:=AY (by decide)
@[simp] theorem CT:CC 1:=AY (by decide)
@[simp] theorem Fg:CC 2:=AY (by decide)
@[simp] theorem Mf:CC 3:=AY (by decide)
@[simp] theorem bn:CC 4:=AY (by decide)
@[simp] theorem bh:CC 5:=AY (by decide)
open Classical in
@[simp] theorem SA(k:Nat)(x:D):Ab (.mu k) [x] hd=match hd[k]? with
 |some (.lst ds)=>if FK ds.length then some (.im .non,hd.set k (.lst (ds++[x])))else none
 |_=>none:=rfl
def Kh{F:List D->Hd->Option (D×Hd)}{ds:List D}{hd1 h2:Hd}{i:I}(h1:m ls hd=some (ds,hd1))(hc:Au 0 ds=true)(hF:F ds []=some (.im i,h2)):A6 0 F m ls hd=some (.im i,hd1):=by
 simp[A6,h1,hc,hF,fin]
def Mz{w:Nat}{F:List D->Hd->Option (D×Hd)}{ds:List D}{pre pre' rest g:Hd}{i:I}(hw:pre.length=w)(hw':pre'.length=w)(h1:m ls hd=some (ds,pre++rest))(hc:Au w ds=true)(hp:pre.all (clO w)=true)(hp':pre'.all (clO w)=true)(hF:F ds pre=some (.im i,pre'++g)):A6 w F m ls hd=some (.im i,pre'++rest):=by
 subst hw;have e1:(pre++rest).take pre.length=pre:=by simp
 have e2:(pre'++g).take pre.length=pre':=by rw[<- hw'];simp
 simp only[A6,h1,bind_some,e1,hc,hp,hF,fin,e2,hp'];simp
end
def UM{n:MG}{b:MS}{g:Gd}{ls:Ls}{hd:Hd}:B1 n b g [] ls hd=some (.nx ls,hd):=by unfold B1;rfl
def KP{n:MG}{b:MS}{g:Gd}{d:D}{r:List D}{ls ls1 ls2:Ls}{hd hd2:Hd}(h1:n d ls hd=some ls1)(h2:b ls1 hd=some (.nx ls2,hd2))(h3:GOk hd2 g):B1 n b g (d::r) ls hd=B1 n b g r ls2 hd2:=by
 conv=>lhs;unfold B1
 simp[h1,h2,h3]
abbrev LC2(elt tg iter:Expr)(ifs:List Expr)(tg2 iter2:Expr)(ifs2:List Expr)(scope:Scope)(pos:Pos):Expr:=.ListComp elt [⟨tg,iter,ifs,0⟩,⟨tg2,iter2,ifs2,0⟩] scope pos
def W0(elt tg iter:Expr)(ifs:List Expr)(tg2 iter2:Expr)(ifs2:List Expr)(scope:Scope)(pos:Pos)(it acc:Value)(env:Env):
 compTurn (LC2 elt tg iter ifs tg2 iter2 ifs2 scope pos) 0 it acc env=(do
  standAt iter.pos
  match <- pyNext it with
  |none=>pure (.done .next)
  |some v=>
   letOwnedTupleGo tg it v
   assign tg env v
   let mut ok:=true
   for c in ifs do
    if ok then ok <- isTrue c env (eval c env)
   if ok then
    let x <- eval iter2 env
    standAt iter2.pos
    let x <- foldedSetIterable iter2 env x
    let _ <- runOwn (.compStart (LC2 elt tg iter ifs tg2 iter2 ifs2 scope pos) 1 (<- holding [x] (pyIter x)) acc env) env
   again (.compLoop (LC2 elt tg iter ifs tg2 iter2 ifs2 scope pos) 0 it acc env)):=by rfl
def Vz(elt tg iter:Expr)(ifs:List Expr)(tg2 iter2:Expr)(ifs2:List Expr)(scope:Scope)(pos:Pos)(it acc:Value)(env:Env):
 compTurn (LC2 elt tg iter ifs tg2 iter2 ifs2 scope pos) 1 it acc env=(do
  standAt iter2.pos
  match <- pyNext it with
  |none=>pure (.done .next)
  |some v=>
   letOwnedTupleGo tg2 it v
   assign tg2 env v
   let mut ok:=true
   for c in ifs2 do
    if ok then ok <- isTrue c env (eval c env)
   if ok then
    (do let _ <- call (.builtin "list.append") [acc,<- eval elt env])
   again (.compLoop (LC2 elt tg iter ifs tg2 iter2 ifs2 scope pos) 1 it acc env)):=by rfl
section
variable{prog:Program}{w:World}{A:Around}{R:Result->Shared->Prop}{s:Shared}{elt tg iter tg2 iter2:Expr}{ifs ifs2:List Expr}{scope:Scope}{pos:Pos}{it acc:Value}{env:Env}
def Y7(I:Nat->Shared->Prop)
 (turn:∀n s,I n s->wpAny (model prog w) A (pyNext it) (λr s₁=>match r with
  |none=>R (.ok .next) s₁
  | some v=>wpAny (model prog w) A (letOwnedTupleGo tg2 it v) (λ_ s₁=>wpAny (model prog w) A (assign tg2 env v) (λ_ s₂=>
   wpAny (model prog w) A (forIn ifs2 true λc r=>if r=true then do let ok <- isTrue c env (eval c env);pure (ForInStep.yield ok)else pure (ForInStep.yield r)) (λok s₃=>
    if ok=true then wpAny (model prog w) A (eval elt env) (λx s₄=>
     wpAny (model prog w) A (call (.builtin "list.append") [acc,x]) (λ_ s₅=>∃m,m<n/\I m s₅) (λ_ _=>False) s₄) (λ_ _=>False) s₃
    else ∃m,m<n/\I m s₃) (λ_ _=>False) s₂) (λ_ _=>False) s₁) (λ_ _=>False) s₁) (λ_ _=>False) s)
 (n:Nat) (h:I n s):codeAny (model prog w) A (.compLoop (LC2 elt tg iter ifs tg2 iter2 ifs2 scope pos) 1 it acc env) R s:=by
 refine codeAny_loop rfl I (λn s hI=>?_) n h;show wpAny _ A ((compTurn (LC2 elt tg iter ifs tg2 iter2 ifs2 scope pos) 1 it acc env).onRaise (λx=>do noteFrame x env;theTreesLotGoes x)) _ _ s;refine wpAny_noted ?_;rw[Vz];refine i8 (j3 (i8 (iw (turn n s hI) (λr s₁ h₁=>?_) λ_ _ h'=>h'.elim)));cases r with
 |none=>exact ie h₁
 |some v=>
  refine i8 (iw h₁ (λ_ s₁ h₁=>?_) λ_ _ h'=>h'.elim);refine i8 (iw h₁ (λ_ s₂ h₂=>i8 (iw h₂ (λok s₃ h₃=>?_) λ_ _ h'=>h'.elim)) λ_ _ h'=>h'.elim);cases ok with
  |false=>exact ie ⟨rfl,h₃⟩
  |true=>
   exact i8 (i8 (iw h₃ (λx s₄ h₄=>i8 (iw h₄ (λ_ s₅ h₅=>ie (ie ⟨rfl,h₅⟩)) λ_ _ h'=>h'.elim)) λ_ _ h'=>h'.elim))
def Y8(hs:∀x,foldedSetIterable iter2 env x=pure x)(I:Nat->Shared->Prop)
 (turn:∀n s,I n s->wpAny (model prog w) A (pyNext it) (λr s₁=>match r with
  |none=>R (.ok .next) s₁
  | some v=>wpAny (model prog w) A (letOwnedTupleGo tg it v) (λ_ s₁=>wpAny (model prog w) A (assign tg env v) (λ_ s₂=>
   wpAny (model prog w) A (forIn ifs true λc r=>if r=true then do let ok <- isTrue c env (eval c env);pure (ForInStep.yield ok)else pure (ForInStep.yield r)) (λok s₃=>
    if ok=true then wpAny (model prog w) A (eval iter2 env) (λx s₄=>wpAny (model prog w) A (pyIter x) (λit2 s₅=>
     codeAny (model prog w) A (.compStart (LC2 elt tg iter ifs tg2 iter2 ifs2 scope pos) 1 it2 acc env) (λr s₆=>r=.ok .next/\∃m,m<n/\I m s₆) s₅) (λ_ _=>False) s₄) (λ_ _=>False) s₃
    else ∃m,m<n/\I m s₃) (λ_ _=>False) s₂) (λ_ _=>False) s₁) (λ_ _=>False) s₁) (λ_ _=>False) s)
 (n:Nat) (h:I n s):codeAny (model prog w) A (.compLoop (LC2 elt tg iter ifs tg2 iter2 ifs2 scope pos) 0 it acc env) R s:=by
 refine codeAny_loop rfl I (λn s hI=>?_) n h;show wpAny _ A ((compTurn (LC2 elt tg iter ifs tg2 iter2 ifs2 scope pos) 0 it acc env).onRaise (λx=>do noteFrame x env;theTreesLotGoes x)) _ _ s;refine wpAny_noted ?_;rw[W0];refine i8 (j3 (i8 (iw (turn n s hI) (λr s₁ h₁=>?_) λ_ _ h'=>h'.elim)));cases r with
 |none=>exact ie h₁
 |some v=>
  refine i8 (iw h₁ (λ_ s₁ h₁=>?_) λ_ _ h'=>h'.elim);refine i8 (iw h₁ (λ_ s₂ h₂=>i8 (iw h₂ (λok s₃ h₃=>?_) λ_ _ h'=>h'.elim)) λ_ _ h'=>h'.elim);cases ok with
  |false=>exact ie ⟨rfl,h₃⟩
  |true=>
   refine i8 (iw h₃ (λx s₄ h₄=>i8 (j3 ?_)) λ_ _ h'=>h'.elim);rw[hs];refine i8 (ie (i8 (j0 (iw h₄ (λit2 s₅ h₅=>i8 (wpAny_runOwn (jf h₅ λr s₆ h₆=>?_))) λ_ _ h'=>h'.elim))));obtain⟨rfl,h₆⟩:=h₆;exact ie ⟨rfl,h₆⟩
def T6(h0:codeAny (model prog w) A (.compLoop (LC2 elt tg iter ifs tg2 iter2 ifs2 scope pos) 1 it acc env) R s)
 (h:wpAny (model prog w) A (pyIter it) (λit' s'=>codeAny (model prog w) A (.compLoop (LC2 elt tg iter ifs tg2 iter2 ifs2 scope pos) 1 it' acc env) R s') (λ_ _=>False) s):
 codeAny (model prog w) A (.compStart (LC2 elt tg iter ifs tg2 iter2 ifs2 scope pos) 1 it acc env) R s:=by
 refine codeAny_of_tree ?_;show wpAny _ _ ((compStart (LC2 elt tg iter ifs tg2 iter2 ifs2 scope pos) 1 it acc env).onRaise (λx=>do noteFrame x env;standAt theWindowsPlace)) _ _ s;refine wpAny_notedAt ?_;unfold compStart;show wpAny _ _ (ask >>= _) _ _ s;refine i8 (wpAny_askSetting (wpAny_ite ?_));split
 .exact i8 (ie (ie (And.intro rfl h0)))
 .exact i8 (jA (i8 (j3 (i8 (iw h (λit' s' h'=>ie (And.intro rfl h')) λ_ _ x=>x.elim)))))
end
def Po(J:It)(D:Addr)(σ0:St)(H0:Hp)(g:TG)(tf:TT)(te:TE)(Q:St->Hp->Prop):Prop:=∃W:Nat->Nat->St->Hp->Prop,
 (∃m,W 0 m σ0 H0)/\∀i m σ H,W i m σ H ->
  ((J.stop i H/\Q σ H)∨(J.go i H/\∃N:St->Hp->Prop,(∀σ' H',N σ' H'->∃m',m'<m/\W (i+1) m' σ' H')/\
    ∀x H',J.yld i H x H'->g x σ H' λσ2 H2=>tf σ2 H2 λb H3=>
     if b=true then te σ2 H3 λv H4=>∃ys,H4 D=some (.lst ys)/\ys.length<sizeLine/\N σ2 (upd H4 D (.lst (ys++[v])))
     else N σ2 H3))
def SY(J:It)(D:Addr)(σ0:St)(H0:Hp)(g:TG)(tf:TT)(wi2:TI)(g2:TG)(tf2:TT)(te:TE)(Q:VK):Prop:=∃W:Nat->Nat->St->Hp->Prop,
 (∃m,W 0 m σ0 (upd H0 D (.lst [])))/\∀i m σ H,W i m σ H ->
  ((J.stop i H/\Q (.ref D) H)∨(J.go i H/\∃N:St->Hp->Prop,(∀σ' H',N σ' H'->∃m',m'<m/\W (i+1) m' σ' H')/\
    ∀x H',J.yld i H x H'->g x σ H' λσ2 H2=>tf σ2 H2 λb H3=>
     if b=true then wi2 σ2 H3 λJ2 H4=>Po J2 D σ2 H4 g2 tf2 te N
     else N σ2 H3))
def Eg(n:Nat)(ix:List Nat)(wi:TI)(g:TG)(tf:TT)(wi2:TI)(g2:TG)(tf2:TT)(te:TE):TE:=λσ H Q=>wi σ H λJ H1=>∀D,H1 D=none->SY J D (FR n ix σ) H1 g tf wi2 g2 tf2 te Q
section
variable{X:Cx}
def Pb{elt tg iter tg2 iter2:Expr}{ifs ifs2:List Expr}{scope:Scope}{pos:Pos}{N':List Str}{s3:Shared}{H3:Hp}{fp3:List Addr}{g:TG}{tf:TT}{te:TE}{pins:List (Addr×Obj)}{σ:St}{H:Hp}{s:Shared}{D it:Addr}{fp:List Addr}{tn:Nat->Heap->Prop}{J:It}{Q:St->Hp->Prop}
 (hc:X.calm=true) (hg:PG (cCx X N' scope s3 H3 fp3) tg2 g) (hf:PF (cCx X N' scope s3 H3 fp3) ifs2 tf) (he:PE (cCx X N' scope s3 H3 fp3) elt te)
 (I:Inv (cCx X N' scope s3 H3 fp3) pins σ H s) (T:Turn X.prog X.w X.K tg2 J fp it tn) (st:tn 0 s.heap) (f2:∀b∈fp,Bw (cCx X N' scope s3 H3 fp3) pins H b) (hW:Po J D σ H g tf te Q):
 codeAny (model X.prog X.w) X.A (.compStart (LC2 elt tg iter ifs tg2 iter2 ifs2 scope pos) 1 (.ref it) (.ref D) (cCx X N' scope s3 H3 fp3).env)
  (λr s'=>r=.ok .next/\∃σ' H',Inv (cCx X N' scope s3 H3 fp3) pins σ' H' s'/\Q σ' H') s:=by
 obtain⟨W,⟨m0,w0⟩,turn⟩:=hW;have fpX:∀{H':Hp},(∀b∈fp,H' b=none)->∀b∈fp,Bw (cCx X N' scope s3 H3 fp3) pins H' b:=λhn b hb=>⟨hn b hb,(f2 b hb).2⟩
 have loop:codeAny (model X.prog X.w) X.A (.compLoop (LC2 elt tg iter ifs tg2 iter2 ifs2 scope pos) 1 (.ref it) (.ref D) (cCx X N' scope s3 H3 fp3).env)
  (λr s'=>r=.ok .next/\∃σ' H',Inv (cCx X N' scope s3 H3 fp3) pins σ' H' s'/\Q σ' H') s:=by
  refine Y7 (λn s'=>∃i σ' H',Inv (cCx X N' scope s3 H3 fp3) pins σ' H' s'/\tn i s'.heap/\(∀b∈fp,H' b=none)/\W i n σ' H') ?_ m0
   ⟨0,_,_,I,st,λb hb=>(f2 b hb).1,w0⟩
  rintro n s5 ⟨i,σ5,H5,I5,st5,fr5,w5⟩;have w5:=turn i n σ5 H5 w5;rcases w5 with⟨stop,qn⟩|⟨go,N,hN,step⟩
  .refine thn (T.done (cCx X N' scope s3 H3 fp3) rfl rfl rfl hc i pins s5 σ5 H5 _ I5 (fpX fr5) st5 stop) λr s6 ⟨hr,I6⟩=>?_;subst hr;exact⟨rfl,σ5,H5,I6,qn⟩
  .refine thn (T.item (cCx X N' scope s3 H3 fp3) rfl rfl rfl hc i pins s5 σ5 H5 _ I5 (fpX fr5) st5 go) λr s6 ⟨u,hr,h6⟩=>?_;subst hr;refine thn h6 λ_ s7 ⟨x,H7,I7,r7,y7,st7,fr7⟩=>?_;have I7':=I7.pinned (fpX fr7) (T.obj _ _ st7);have keepI:∀{σ8:St} {H8:Hp} {s8:Shared},Inv (cCx X N' scope s3 H3 fp3) (pins++DM fp s7.heap) σ8 H8 s8->tn (i+1) s8.heap/\∀b∈fp,H8 b=none:=λ{σ8 H8 s8} I8=>by
    refine⟨T.keep _ _ _ st7 λb hb o e=>(I8.pin (b,o) (ir _ (ir _ (BH hb e)))).1,λb hb=>?_⟩;obtain⟨o,e,d⟩:=T.obj _ _ st7 b hb;exact(I8.pin (b,o) (ir _ (ir _ (BH hb e)))).2.1
   refine thn (hg _ s7 σ5 H7 x u _ I7' r7 (step x H7 y7)) λ_ s8 ⟨σ8,H8,I8,q8⟩=>?_;refine thn (hf _ s8 σ8 H8 _ I8 q8) λb s9 ⟨H9,I9,q9⟩=>?_;cases b with
   |false=>
    rw[ic Bool.false_ne_true]at q9 ⊢;obtain⟨m',hm,w9⟩:=hN _ _ q9;exact⟨m',hm,i+1,σ8,H9,I9.unpinned,(keepI I9).1,(keepI I9).2,w9⟩
   |true=>
    rw[i9 rfl]at q9 ⊢;refine thn (he _ s9 σ8 H9 _ I9 q9) λe10 s10 ⟨v10,H10,I10,r10,ys,hD10,hz,n10⟩=>?_;obtain⟨m',hm,w10⟩:=hN _ _ n10;refine N4 (X:=cCx X N' scope s3 H3 fp3) I10 hD10 r10 hz λ_ s11 I11=>?_;exact⟨m',hm,i+1,σ8,_,I11.unpinned,(keepI I11).1,(keepI I11).2,w10⟩
 exact T6 loop (T.self X.A 0 _ _ _ st loop)
def Hr{elt tg iter tg2 iter2:Expr}{ifs ifs2:List Expr}{scope:Scope}{pos:Pos}{loc fr:List Str}{ix:List Nat}{g g2:TG}{tf tf2:TT}{wi2:TI}{te:TE}{pins:List (Addr×Obj)}{σ:St}{Q:VK}{it:Addr}{fp:List Addr}{tn:Nat->Heap->Prop}{J:It}{H2:Hp}{s2:Shared}{E:Value->Shared->Prop}
 {RR:Value->Addr->Result->Shared->Prop} (hc:X.calm=true) (S:CSc X scope fr ix)
 (hg:∀s H ex,PG (cCx X (loc++fr) scope s H ex) tg g) (hf:∀s H ex,PF (cCx X (loc++fr) scope s H ex) ifs tf) (hi2:∀s H ex,PI (cCx X (loc++fr) scope s H ex) tg2 iter2 wi2) (hg2:∀s H ex,PG (cCx X (loc++fr) scope s H ex) tg2 g2) (hf2:∀s H ex,PF (cCx X (loc++fr) scope s H ex) ifs2 tf2) (he:∀s H ex,PE (cCx X (loc++fr) scope s H ex) elt te)
 (hs2:∀s H ex x,foldedSetIterable iter2 (cCx X (loc++fr) scope s H ex).env x=pure x)
 (I2:Inv X pins σ H2 s2) (T:Turn X.prog X.w X.K tg J fp it tn) (st2:tn 0 s2.heap) (f2:∀b∈fp,Bw X pins H2 b) (hW:∀D,H2 D=none->SY J D (FR loc.length ix σ) H2 g tf wi2 g2 tf2 te Q)
 (hfin:∀(s3 s6:Shared) (H5:Hp) (σ5:St) (D:Addr),Inv X pins σ (upd H2 D (.lst [])) s3->Inv (cCx X (loc++fr) scope s3 (upd H2 D (.lst [])) fp) [] σ5 H5 s6->(∀b∈fp,Bw X pins (upd H2 D (.lst [])) b)->Q (.ref D) H5->RR (.ref D) s3.heap.objs.size (.ok .next) s6):
 wpAny (model X.prog X.w) X.A (newList []) (λacc s₃=>wpAny (model X.prog X.w) X.A (newFunctionEnv scope X.env.globals (BG X.env.cells scope.names []) [] X.env.qual none .none (some X.env)) (λcenv s₄=>
  codeAny (model X.prog X.w) X.A (.compStart (LC2 elt tg iter ifs tg2 iter2 ifs2 scope pos) 0 (.ref it) acc { cenv with scope:=relabel scope X.env }) (RR acc cenv.locals) s₄) E s₃) E s2:=by
 refine iQ ?_;have fresh2:H2 s2.heap.objs.size=none:=I2.hok.fresh (ig _);have I3:=I2.lnew (its:=[]) (ys:=[]) (t':=s2.toks) .nil (iT _);obtain⟨W,⟨m0,w0⟩,turn⟩:=hW s2.heap.objs.size fresh2;have lt2:∀b∈fp,b<s2.heap.objs.size:=λb hb=>let ⟨o,e,_⟩:=T.obj 0 _ st2 b hb;Heap.lt_size e
 have f3:∀b∈fp,Bw X pins (upd H2 s2.heap.objs.size (.lst [])) b:=λb hb=>⟨by rw[AF (iq (lt2 b hb))];exact(f2 b hb).1,(f2 b hb).2⟩
 have lt3:∀b∈fp,b<(s2.heap.push { cls:=.type "list",data:=.seq ([]:List Value).toArray }).objs.size:=λb hb=>by rw[Heap.size_push];exact jm (lt2 b hb)
 generalize hs3:({ s2 with heap:=s2.heap.push { cls:=.type "list",data:=.seq ([]:List Value).toArray } }:Shared)=s3 at *;have lt3:∀b∈fp,b<s3.heap.objs.size:=by rw[<- hs3];exact lt3
 have st3:tn 0 s3.heap:=T.keep _ _ _ st2 λb hb o e=>by rw[<- hs3];exact Heap.get?_push_of_some _ e
 refine Jh λh' hk hn ho ha=>?_;have I4:=IQ (loc:=loc) S I3 f3 hk hn ho ha lt3;have fpX:∀{H':Hp},(∀b∈fp,H' b=none)->∀b∈fp,Bw (cCx X (loc++fr) scope s3 (upd H2 s2.heap.objs.size (.lst [])) fp) [] H' b:=λhn b hb=>
  ⟨hn b hb,(I4.ok.exf b hb).1,I4.ok.exfs b hb,.inl hb,(I4.ok.exf b hb).2,λp hp=>by cases hp⟩
 have loop:codeAny (model X.prog X.w) X.A (.compLoop (LC2 elt tg iter ifs tg2 iter2 ifs2 scope pos) 0 (.ref it) (.ref s2.heap.objs.size) (Pf scope s3.heap.objs.size X.env))
  (RR (.ref s2.heap.objs.size) s3.heap.objs.size) { s3 with heap:=h' }:=by
  refine Y8 (hs2 s3 (upd H2 s2.heap.objs.size (.lst [])) fp) (λn s'=>∃i σ' H',Inv (cCx X (loc++fr) scope s3 (upd H2 s2.heap.objs.size (.lst [])) fp) [] σ' H' s'/\tn i s'.heap/\(∀b∈fp,H' b=none)/\W i n σ' H') ?_ m0
   ⟨0,_,_,I4,T.keep _ _ _ st3 λb hb o e=>hk b o e,λb hb=>(f3 b hb).1,w0⟩
  rintro n s5 ⟨i,σ5,H5,I5,st5,fr5,w5⟩;have w5:=turn i n σ5 H5 w5;rcases w5 with⟨stop,qn⟩|⟨go,N,hN,step⟩
  .refine thn (T.done (cCx X (loc++fr) scope s3 (upd H2 s2.heap.objs.size (.lst [])) fp) rfl rfl rfl hc i [] s5 σ5 H5 _ I5 (fpX fr5) st5 stop) λr s6 ⟨hr,I6⟩=>?_;subst hr;exact hfin s3 s6 H5 σ5 s2.heap.objs.size I3 I6 f3 qn
  .refine thn (T.item (cCx X (loc++fr) scope s3 (upd H2 s2.heap.objs.size (.lst [])) fp) rfl rfl rfl hc i [] s5 σ5 H5 _ I5 (fpX fr5) st5 go) λr s6 ⟨u,hr,h6⟩=>?_;subst hr;refine thn h6 λ_ s7 ⟨x,H7,I7,r7,y7,st7,fr7⟩=>?_;have I7':=I7.pinned (fpX fr7) (T.obj _ _ st7);have keepI:∀{σ8:St} {H8:Hp} {s8:Shared},Inv (cCx X (loc++fr) scope s3 (upd H2 s2.heap.objs.size (.lst [])) fp) ([]++DM fp s7.heap) σ8 H8 s8->tn (i+1) s8.heap/\∀b∈fp,H8 b=none:=λ{σ8 H8 s8} I8=>by
    refine⟨T.keep _ _ _ st7 λb hb o e=>(I8.pin (b,o) (ir _ (ir _ (BH hb e)))).1,λb hb=>?_⟩;obtain⟨o,e,d⟩:=T.obj _ _ st7 b hb;exact(I8.pin (b,o) (ir _ (ir _ (BH hb e)))).2.1
   refine thn (hg s3 (upd H2 s2.heap.objs.size (.lst [])) fp _ s7 σ5 H7 x u _ I7' r7 (step x H7 y7)) λ_ s8 ⟨σ8,H8,I8,q8⟩=>?_;refine thn (hf s3 (upd H2 s2.heap.objs.size (.lst [])) fp _ s8 σ8 H8 _ I8 q8) λb s9 ⟨H9,I9,q9⟩=>?_;cases b with
   |false=>
    rw[ic Bool.false_ne_true]at q9 ⊢;obtain⟨m',hm,w9⟩:=hN _ _ q9;exact⟨m',hm,i+1,σ8,H9,I9.unpinned,(keepI I9).1,(keepI I9).2,w9⟩
   |true=>
    rw[i9 rfl]at q9 ⊢;refine thn (hi2 s3 (upd H2 s2.heap.objs.size (.lst [])) fp _ s9 σ8 H9 _ I9 q9) λv10 s10 h10=>thn h10 λit2 s11 h11=>?_;obtain⟨itb,fpb,tnb,Jb,Hb,rfl,Ib,Tb,stb,fb,hWb⟩:=h11;refine jf (Pb hc (hg2 _ _ _) (hf2 _ _ _) (he _ _ _) Ib Tb stb fb hWb) λr s12 ⟨hr,σ12,H12,I12,n12⟩=>⟨hr,?_⟩
    obtain⟨m',hm,w12⟩:=hN _ _ n12;exact⟨m',hm,i+1,σ12,H12,I12.unpinned,(keepI I12).1,(keepI I12).2,w12⟩
 exact codeAny_compStart_list loop (T.self X.A 0 _ _ _ (T.keep _ _ _ st3 λb hb o e=>hk b o e) loop)
def U9{elt tg iter tg2 iter2:Expr}{ifs ifs2:List Expr}{scope:Scope}{pos:Pos}{loc fr:List Str}{ix:List Nat}{wi wi2:TI}{g g2:TG}{tf tf2:TT}{te:TE}(hc:X.calm=true)(S:CSc X scope fr ix)(hi:PI X tg iter wi)
 (hg:∀s H ex,PG (cCx X (loc++fr) scope s H ex) tg g) (hf:∀s H ex,PF (cCx X (loc++fr) scope s H ex) ifs tf) (hi2:∀s H ex,PI (cCx X (loc++fr) scope s H ex) tg2 iter2 wi2) (hg2:∀s H ex,PG (cCx X (loc++fr) scope s H ex) tg2 g2) (hf2:∀s H ex,PF (cCx X (loc++fr) scope s H ex) ifs2 tf2) (he:∀s H ex,PE (cCx X (loc++fr) scope s H ex) elt te)
 (hs:∀x,foldedSetIterable iter X.env x=pure x:=by intro _;rfl) (hs2:∀s H ex x,foldedSetIterable iter2 (cCx X (loc++fr) scope s H ex).env x=pure x:=by intro _ _ _ _;rfl):
 PE X (LC2 elt tg iter ifs tg2 iter2 ifs2 scope pos) (Eg loc.length ix wi g tf wi2 g2 tf2 te):=by
 intro pins s σ H Q I h;rw[eval_ListComp];have hnames:∀y∈scope.names,y.2=.local->scope.names.lookup y.1=some .local:=λy hy e=>by
  have:=all_eq_true.mp S.loc y hy;rw[e]at this;simpa using this
 refine jP (use:=none) rfl hs (D6 (S.clos I.ok)) S.kind hnames (thn (hi pins s σ H _ I h) λv s1 h1=>thn h1 λitv s2 h2=>?_);obtain⟨it,fp,tn,J,H2,rfl,I2,T,st2,f2,hW⟩:=h2;refine Hr (RR:=λacc C=>compPost (model X.prog X.w) X.A X.xe none (EP X pins σ Q) acc C) hc S hg hf hi2 hg2 hf2 he hs2 I2 T st2 f2 hW λs3 s6 H5 σ5 L I3 I6 f3 q=>?_;obtain⟨m,hm,_⟩:=I6.loc;exact⟨m,hm,λh'' hs'=>⟨.ref L,H5,FS I3 I6 f3 hs',rfl,q⟩⟩
end
open Classical in
def mIn(k:Nat)(n:MG)(c:MT)(m:ME)(g:Gd):List D->Ls->Hd->Option (Ls×Hd)
 |[],ls,hd=>some (ls,hd)
 |d::r,ls,hd=>(n d ls hd).bind λls1=>(c ls1 hd).bind λp=>if p.1=true then(m ls1 p.2).bind λq=>(Ab (.mu k) [q.1] q.2).bind λz=>if GOk z.2 g then mIn k n c m g r ls1 z.2 else none else if GOk p.2 g then mIn k n c m g r ls1 p.2 else none
open Classical in
def EA(k:Nat)(n:MG)(c:MT)(mi:MI)(n2:MG)(c2:MT)(m:ME)(g:Gd):List D->Ls->Hd->Option Hd
 |[],ls,hd=>some hd
 |d::r,ls,hd=>(n d ls hd).bind λls1=>(c ls1 hd).bind λp=>if p.1=true then(mi ls1 p.2).bind λq=>(mIn k n2 c2 m q.1.2 q.1.1 ls1 q.2).bind λz=>if GOk z.2 g then EA k n c mi n2 c2 m g r z.1 z.2 else none else if GOk p.2 g then EA k n c mi n2 c2 m g r ls1 p.2 else none
def Cp(j:Nat)(ix:List Nat)(mi:MI)(n:MG)(c:MT)(mi2:MI)(n2:MG)(c2:MT)(m:ME):ME:=λls hd=>(mi ls hd).bind λp=>(EA p.2.length n c mi2 n2 c2 m p.1.2 p.1.1 (EW j ix ls) (p.2++[.lst []])).map λh=>(.mu p.2.length,h)
section
variable{K:Frag}{ρ:List Addr}{H:Hp}{hd:Hd}
def O7{h:Hd}{g:Gd}(G:GOk h g)(r:Hd):GOk (h++r) g:=λp hp=>by
 have:=G p hp;have hl:p.1<h.length:=(List.getElem?_eq_some_iff.mp this).1;rw[List.getElem?_append_left hl];exact this
def eK{g:TG}{tf:TT}{te:TE}{n:MG}{c:MT}{m:ME}(hg:RGt K g n)(hf:RT K tf c)(he:RE K te m){J:It}{ds:List D}{gd:Gd}{k:Nat}{Da:Addr}{ls ls':Ls}{hd':Hd}{σ:St}{Q:St->Hp->Prop}
 (hR:RH K ρ H hd) (hL:RL K ρ H ls σ) (G:GOk hd gd) (Y:JM K ρ H J ds gd) (hk:ρ[k]?=some Da) (hm:mIn k n c m gd ds ls hd=some (ls',hd'))
 (hQ:∀ρ' H' σ',Ext ρ H ρ' H'->RH K ρ' H' hd'->RL K ρ' H' ls' σ'->Q σ' H'):Po J Da σ H g tf te Q:=by
 refine⟨λi mm σ2 H2=>mm=ds.length-i/\i<=ds.length/\∃ρ2 ls2 hd2,Ext ρ H ρ2 H2/\RH K ρ2 H2 hd2/\RL K ρ2 H2 ls2 σ2/\GOk hd2 gd/\mIn k n c m gd (ds.drop i) ls2 hd2=some (ls',hd'),
  ⟨ds.length,by simp,iT _,ρ,ls,hd,.refl,hR,hL,G,by simpa using hm⟩,?_⟩
 rintro i mm σ2 H2 ⟨rfl,hi,ρ2,ls2,hd2,x2,R2,L2',G2,hm2⟩;obtain⟨Y1,Y2⟩:=Y ρ2 H2 hd2 x2 R2 G2 i;have hk2:ρ2[k]?=some Da:=by
  obtain⟨r,rfl,_⟩:=x2.pre;rw[List.getElem?_append_left (List.getElem?_eq_some_iff.mp hk).1];exact hk
 by_cases hlt:i<ds.length
 .obtain⟨go,Y1⟩:=Y1 hlt;have ed:ds.drop i=ds[i]::ds.drop (i+1):=ji hlt;rw[ed]at hm2;unfold mIn at hm2;obtain⟨ls3,e3,hm2⟩:=i6 hm2;obtain⟨⟨bb,hd4⟩,e4,hm2⟩:=i6 hm2;refine .inr ⟨go,λσ' H'=>∃ρ2 ls2 hd2,Ext ρ H ρ2 H'/\RH K ρ2 H' hd2/\RL K ρ2 H' ls2 σ'/\GOk hd2 gd/\mIn k n c m gd (ds.drop (i+1)) ls2 hd2=some (ls',hd'),λσ' H' z=>⟨ds.length-(i+1),by omega,rfl,hlt,z⟩,λx H3 y=>?_⟩;obtain⟨ρ3,d3,x3,rfl,R3,e5,r3⟩:=Y1 x H3 y;have e6:d3=ds[i]:=by
   have:ds[i]?=some ds[i]:=by simp[hlt]
   rw[this]at e5;exact(Option.some.inj e5).symm
  subst e6;refine hg ρ3 σ2 H3 hd2 ls2 ls3 _ x _ R3 (L2'.ext R2 x3) r3 e3 λσ4 L4=>?_;refine hf ρ3 σ4 H3 hd2 ls3 _ bb hd4 R3 L4 e4 λρ5 H5 x5 R5=>?_;have y25:=x3.trans R3 x5;cases bb with
  |false=>
   rw[ic Bool.false_ne_true]at hm2 ⊢;split at hm2
   .next g5=>exact⟨ρ5,ls3,hd4,x2.trans R2 y25,R5,L4.ext R3 x5,g5,hm2⟩
   .cases hm2
  |true=>
   rw[i9 rfl]at hm2 ⊢;obtain⟨⟨z,hd6⟩,e6,hm2⟩:=i6 hm2;obtain⟨⟨z7,hd7⟩,e7,hm2⟩:=i6 hm2;refine he ρ5 σ4 H5 hd4 ls3 _ z hd6 R5 (L4.ext R3 x5) e6 λρ6 H6 v6 x6 R6 r6=>?_;have y26:=y25.trans R5 x6;have hk6:ρ6[k]?=some Da:=by
    obtain⟨r,rfl,_⟩:=y26.pre;rw[List.getElem?_append_left (List.getElem?_eq_some_iff.mp hk2).1];exact hk2
   unfold Ab at e7;dsimp only at e7 hm2;split at e7
   .next es q=>
    split at e7
    .next c7=>
     cases e7;obtain⟨xs,e1,e2⟩:=R6.lst hk6 q;obtain⟨R7,x7⟩:=R6.put hk6 (o:=.lst (es++[z])) (ho:=.lst (xs++[v6])) ⟨_,rfl,e2.app (.cons r6 .nil)⟩;refine⟨xs,e1,by rw[e2.len];exact c7,?_⟩;split at hm2
     .next g7=>exact⟨ρ6,ls3,_,(x2.trans R2 y26).trans R6 x7,R7,((L4.ext R3 x5).ext R5 x6).ext R6 x7,g7,hm2⟩
     .cases hm2
    .cases e7
   .cases e7
 .have e:i=ds.length:=by omega
  subst e;rw[drop_length]at hm2;unfold mIn at hm2;cases hm2;exact .inl ⟨Y2 rfl,hQ ρ2 H2 σ2 x2 R2 L2'⟩
def TX{j:Nat}{ix:List Nat}{wi wi2:TI}{g g2:TG}{tf tf2:TT}{te:TE}{mi mi2:MI}{n n2:MG}{c c2:MT}{m:ME}(hi:RIt K wi mi)(hg:RGt K g n)(hf:RT K tf c)(hi2:RIt K wi2 mi2)(hg2:RGt K g2 n2)(hf2:RT K tf2 c2)(he:RE K te m):RE K (Eg j ix wi g tf wi2 g2 tf2 te) (Cp j ix mi n c mi2 n2 c2 m):=by
 intro ρ σ H hd ls Q out hd' hR hL hm hQ;obtain⟨⟨⟨ds,gd⟩,h1⟩,e1,hm⟩:=i6 hm;obtain⟨hd2,hm,e2⟩:=i7 hm;cases e2;dsimp only at hm;refine hi ρ σ H hd ls _ ds gd h1 hR hL e1 λρ1 H1 J x1 R1 G1 Y=>?_;intro Da hDa;obtain⟨R1',x1'⟩:=R1.new (o:=.lst []) (ho:=.lst []) hDa ⟨[],rfl,.nil⟩;have hk1:(ρ1++[Da])[h1.length]?=some Da:=by rw[<- R1.len];simp
 refine⟨λi mm σ2 H2=>mm=ds.length-i/\i<=ds.length/\∃ρ2 ls2 h2,Ext (ρ1++[Da]) (upd H1 Da (.lst [])) ρ2 H2/\RH K ρ2 H2 h2/\RL K ρ2 H2 ls2 σ2/\GOk h2 gd/\EA h1.length n c mi2 n2 c2 m gd (ds.drop i) ls2 h2=some hd',
  ⟨ds.length,by simp,iT _,_,_,_,.refl,R1',OK ((hL.ext hR x1).ext R1 x1'),O7 G1 _,by simpa using hm⟩,?_⟩
 rintro i mm σ2 H2 ⟨rfl,hi',ρ2,ls2,h2,x2,R2,L2',G2,hm2⟩;have x12:=x1'.trans R1' x2;obtain⟨Y1,Y2⟩:=Y ρ2 H2 h2 x12 R2 G2 i;have hk2:ρ2[h1.length]?=some Da:=by
  obtain⟨r,rfl,_⟩:=x2.pre;rw[List.getElem?_append_left (List.getElem?_eq_some_iff.mp hk1).1];exact hk1
 by_cases hlt:i<ds.length
 .obtain⟨go,Y1⟩:=Y1 hlt;have ed:ds.drop i=ds[i]::ds.drop (i+1):=ji hlt;rw[ed]at hm2;unfold EA at hm2;obtain⟨ls3,e3,hm2⟩:=i6 hm2;obtain⟨⟨bb,hd4⟩,e4,hm2⟩:=i6 hm2;refine .inr ⟨go,λσ' H'=>∃ρ2 ls2 h2,Ext (ρ1++[Da]) (upd H1 Da (.lst [])) ρ2 H'/\RH K ρ2 H' h2/\RL K ρ2 H' ls2 σ'/\GOk h2 gd/\EA h1.length n c mi2 n2 c2 m gd (ds.drop (i+1)) ls2 h2=some hd',λσ' H' z=>⟨ds.length-(i+1),by omega,rfl,hlt,z⟩,λx H3 y=>?_⟩;obtain⟨ρ3,d3,x3,rfl,R3,e5,r3⟩:=Y1 x H3 y;have e6:d3=ds[i]:=by
   have:ds[i]?=some ds[i]:=by simp[hlt]
   rw[this]at e5;exact(Option.some.inj e5).symm
  subst e6;refine hg ρ3 σ2 H3 h2 ls2 ls3 _ x _ R3 (L2'.ext R2 x3) r3 e3 λσ4 L4=>?_;refine hf ρ3 σ4 H3 h2 ls3 _ bb hd4 R3 L4 e4 λρ5 H5 x5 R5=>?_;have y25:=x3.trans R3 x5;cases bb with
  |false=>
   rw[ic Bool.false_ne_true]at hm2 ⊢;split at hm2
   .next g5=>exact⟨ρ5,ls3,hd4,x2.trans R2 y25,R5,L4.ext R3 x5,g5,hm2⟩
   .cases hm2
  |true=>
   rw[i9 rfl]at hm2 ⊢;obtain⟨⟨⟨ds6,g6⟩,hd6⟩,e6,hm2⟩:=i6 hm2;obtain⟨⟨ls7,hd7⟩,e7,hm2⟩:=i6 hm2;refine hi2 ρ5 σ4 H5 hd4 ls3 _ ds6 g6 hd6 R5 (L4.ext R3 x5) e6 λρ6 H6 J6 x6 R6 G6 Y6=>?_;have y26:=y25.trans R5 x6;have hk6:ρ6[h1.length]?=some Da:=by
    obtain⟨r,rfl,_⟩:=y26.pre;rw[List.getElem?_append_left (List.getElem?_eq_some_iff.mp hk2).1];exact hk2
   refine eK hg2 hf2 he R6 ((L4.ext R3 x5).ext R5 x6) G6 Y6 hk6 e7 λρ7 H7 σ7 x7 R7 L7=>?_;dsimp only at hm2;split at hm2
   .next g7=>exact⟨ρ7,ls7,hd7,(x2.trans R2 y26).trans R6 x7,R7,L7,g7,hm2⟩
   .cases hm2
 .have e:i=ds.length:=by omega
  subst e;rw[drop_length]at hm2;unfold EA at hm2;cases hm2;refine .inl ⟨Y2 rfl,hQ ρ2 H2 _ (x1.trans R1 x12) R2 ?_⟩;simp only[RD];exact⟨Da,hk2,rfl⟩
end
def MD(K:Frag){X:Cx}{elt tg iter tg2 iter2:Expr}{ifs ifs2:List Expr}{scope:Scope}{pos:Pos}{loc fr:List Str}{ix:List Nat}{wi wi2:TI}{g g2:TG}{tf tf2:TT}{te:TE}{mi mi2:MI}{n n2:MG}{mf mf2:MT}{mm:ME}(hc:X.calm=true)(S:CSc X scope fr ix)(hi:QI K X tg iter wi mi)
 (hg:∀s H ex,QG K (cCx X (loc++fr) scope s H ex) tg g n) (hf:∀s H ex,QF K (cCx X (loc++fr) scope s H ex) ifs tf mf) (hi2:∀s H ex,QI K (cCx X (loc++fr) scope s H ex) tg2 iter2 wi2 mi2) (hg2:∀s H ex,QG K (cCx X (loc++fr) scope s H ex) tg2 g2 n2) (hf2:∀s H ex,QF K (cCx X (loc++fr) scope s H ex) ifs2 tf2 mf2) (he:∀s H ex,QE K (cCx X (loc++fr) scope s H ex) elt te mm)
 (hs:∀x,foldedSetIterable iter X.env x=pure x:=by intro _;rfl) (hs2:∀s H ex x,foldedSetIterable iter2 (cCx X (loc++fr) scope s H ex).env x=pure x:=by intro _ _ _ _;rfl):
 QE K X (.ListComp elt [⟨tg,iter,ifs,0⟩,⟨tg2,iter2,ifs2,0⟩] scope pos) (Eg loc.length ix wi g tf wi2 g2 tf2 te) (Cp loc.length ix mi n mf mi2 n2 mf2 mm):=
 ⟨U9 hc S hi.p (λs H ex=>(hg s H ex).p) (λs H ex=>(hf s H ex).p) (λs H ex=>(hi2 s H ex).p) (λs H ex=>(hg2 s H ex).p) (λs H ex=>(hf2 s H ex).p) (λs H ex=>(he s H ex).p) hs hs2,
  TX hi.r (hg X.s₀ X.H₀ []).r (hf X.s₀ X.H₀ []).r (hi2 X.s₀ X.H₀ []).r (hg2 X.s₀ X.H₀ []).r (hf2 X.s₀ X.H₀ []).r (he X.s₀ X.H₀ []).r⟩
open Classical in
def Jn(ma mb:ME):MA:=λls hd=>(ma ls hd).bind λp=>(mb ls p.2).bind λq=>match p.1,q.1 with
 |.mu i,.mu j=>match q.2[i]?,q.2[j]? with
  |some (.lst xs),some (.lst ys)=>if CC (xs.length+ys.length)then some (xs++ys,q.2)else none
  |_,_=>none
 |_,_=>none
def ZC{K:Frag}{ta tb:TE}{ma mb:ME}(ha:RE K ta ma)(hb:RE K tb mb):RN K (tOp Te ta tb) (Jn ma mb):=by
 and_intros;obtain⟨⟨d1,h1⟩,e1,hm⟩:=i6 hm;obtain⟨⟨d2,h2⟩,e2,hm⟩:=i6 hm;dsimp only at hm;split at hm
 .next i j=>
  split at hm
  .next xs ys q1 q2=>
   split at hm
   .next c=>
    cases hm;refine ha ρ σ H hd ls _ _ h1 hR hL e1 λρ1 H1 v x1 R1 r1=>?_;refine hb ρ1 σ H1 h1 ls _ _ _ R1 (hL.ext hR x1) e2 λρ2 H2 u x2 R2 r2=>?_;have r1':=r1.ext R1 x2;simp only[RD]at r1' r2;obtain⟨a,ka,rfl⟩:=r1';obtain⟨b,kb,rfl⟩:=r2;obtain⟨vs,f1,f2⟩:=R2.lst ka q1;obtain⟨us,f3,f4⟩:=R2.lst kb q2;refine⟨a,b,vs,us,rfl,rfl,f1,f3,by rw[f2.len,f4.len];exact c,λp hp=>?_⟩;obtain⟨R3,x3⟩:=R2.hid (ho:=.lst (vs++us)) hp;have x12:=x1.trans R1 x2;exact hQ ρ2 _ p _ (x12.trans R2 x3) R3 (x12.none hR hp R2) (R2.out hp) AJ ((f2.app f4).ext R2 x3)
   .cases hm
  .cases hm
 .cases hm
def Zr(K:Frag){X:Cx}{a b:Expr}{pos:Pos}{ta tb:TE}{ma mb:ME}(ha:QE K X a ta ma)(hb:QE K X b tb mb):QN K X (.BinOp a .Add b pos) (tOp Te ta tb) (Jn ma mb):=⟨VL ax ha.p hb.p,ZC ha.r hb.r⟩
@[simp] theorem Ui(j:Nat)(ix:List Nat)(mi mi2:MI)(n n2:MG)(c c2:MT)(m:ME)(ls:Ls)(hd:Hd):Cp j ix mi n c mi2 n2 c2 m ls hd=(mi ls hd).bind λp=>(EA p.2.length n c mi2 n2 c2 m p.1.2 p.1.1 (EW j ix ls) (p.2++[.lst []])).map λh=>(.mu p.2.length,h):=rfl
end L2
namespace L2
open PySem PySem.Spec PyProof.Rows PySem.W
section
variable(r:Nat->Int)(n:Nat)
def PWp{α:Type}:KasT α->(α->Prop)->Prop
 |.ret a,Q=>Q a
 |.ask i j k,Q=>i<n/\j<n/\PWp (k (decide (r i<r j))) Q
def kv(p:Array Nat)(i:Nat):Int:=r (p.getD i 0)
def STo(p:Array Nat)(m:Nat):Prop:=∀i j,i<=j->j<m->kv r p i<=kv r p j
def DTo(p:Array Nat)(m:Nat):Prop:=∀i j,i<=j->j<m->kv r p j<=kv r p i
def EqL(p:Array Nat)(m q:Nat):Prop:=∀k,m-(q+1)<=k->k<m->kv r p k=kv r p (m-1)
def PAr(p:Array Nat):Prop:=p.Perm (List.range n).toArray
end
section
variable{r:Nat->Int}{n:Nat}
theorem PWp.bind{α β:Type}{f:α->KasT β}{Q:β->Prop}:∀{t:KasT α},PWp r n t (λa=>PWp r n (f a) Q)->PWp r n (t.bind f) Q
 |.ret _,h=>h
 |.ask i j k,h=>⟨h.1,h.2.1,PWp.bind h.2.2⟩
theorem PWp.mono{α:Type}{Q Q':α->Prop}:∀{t:KasT α},PWp r n t Q->(∀a,Q a->Q' a)->PWp r n t Q'
 |.ret _,h,q=>q _ h
 |.ask i j k,h,q=>⟨h.1,h.2.1,PWp.mono h.2.2 q⟩
theorem PWp.wp{α:Type}{cmp:Nat->Nat->(Bool->Shared->Prop)->Shared->Prop}{P:Shared->Prop}{Q:α->Shared->Prop}(hc:∀i j C s,i<n->j<n->P s->(∀s',P s'->C (decide (r i<r j)) s')->cmp i j C s):∀{t:KasT α} {s:Shared},PWp r n t (λa=>∀s,P s->Q a s)->P s->t.kasWp cmp Q s
 |.ret _,s,h,p=>h s p
 |.ask i j k,s,h,p=>hc i j _ s h.1 h.2.1 p λs' p'=>PWp.wp hc h.2.2 p'
theorem PAr.size{p:Array Nat}(h:PAr n p):p.size=n:=by have:=h.size_eq;simpa using this
def PAr.lt{p:Array Nat}(h:PAr n p){i:Nat}(hi:i<n):p.getD i 0<n:=by
 have hs:=h.size;have hi':i<p.size:=by omega
 have:p[i]∈(List.range n).toArray:=h.mem_iff.mp (Array.getElem_mem hi');have e:p.getD i 0=p[i]:=by simp[Array.getD,hi']
 rw[e];simpa using this
def JA{p:Array Nat}{i j:Nat}(hj:j<=p.size)(k:Nat):kv r (kas_rev p i j) k=if i<=k/\k<j then kv r p (i+j-1-k)else kv r p k:=by
 unfold kv kas_rev;simp only[Array.getD_eq_getD_getElem?];rw[getElem?_mirror_all hj];split<;>rfl
def PAr.rev{p:Array Nat}(h:PAr n p)(i j:Nat):PAr n (kas_rev p i j):=(mirror_perm _ _ _ _).trans h
def O3{p:Array Nat}{m q:Nat}(hj:m<=p.size)(hq:q+1<=m)(h:EqL r p m q)(k:Nat):kv r (kas_rev p (m-(q+1)) m) k=kv r p k:=by
 rw[JA hj];split
 .next c=>rw[h _ (by omega) (by omega),h k c.1 c.2]
 .rfl
theorem N3{p:Array Nat}(pa:PAr n p):∀(f m:Nat),1<=m->m+f<=n->STo r p m->PWp r n (kas_asc p f m) λm'=>m<=m'/\m'<=m+f/\STo r p m'/\(m'<m+f->kv r p m'<kv r p (m'-1))
 |0,m,h1,hn,hs=>⟨ig _,ig _,hs,λh=>by omega⟩
 |f+1,m,h1,hn,hs=>by
  refine⟨pa.lt (by omega),pa.lt (by omega),?_⟩;by_cases c:r (p.getD m 0)<r (p.getD (m-1) 0)
  .rw[ja c];exact⟨ig _,by omega,hs,λ_=>c⟩
  .rw[iW c];refine(N3 pa f (m+1) (by omega) (by omega) ?_).mono λm' h=>⟨by omega,by omega,h.2.2.1,λz=>h.2.2.2 (by omega)⟩
   intro i j hij hj;by_cases e:j<m
   .exact hs i j hij e
   .have:j=m:=by omega
    subst this;by_cases e2:i=j
    .subst e2;exact Int.le_refl _
    .have:=hs i (j-1) (by omega) (by omega);have:kv r p (j-1)<=kv r p j:=by unfold kv;omega
     omega
def IX{p:Array Nat}{m:Nat}(h1:1<=m)(h:DTo r p m)(c:kv r p m<=kv r p (m-1)):DTo r p (m+1):=by
 intro i j hij hj;by_cases e:j<m
 .exact h i j hij e
 .have:j=m:=by omega
  subst this;by_cases e2:i=j
  .subst e2;exact Int.le_refl _
  .have:=h i (j-1) (by omega) (by omega);omega
theorem HV:∀(f:Nat) (p:Array Nat) (m q:Nat),PAr n p->1<=m->q+1<=m->m+f<=n->DTo r p m->EqL r p m q ->
 PWp r n (kas_desc f p m q) λz=>PAr n z.1/\m<=z.2.1/\z.2.1<=m+f/\DTo r z.1 z.2.1/\EqL r z.1 z.2.1 z.2.2/\z.2.2+1<=z.2.1
 |0,p,m,q,pa,h1,hq,hn,hd,he=>⟨pa,ig _,ig _,hd,he,hq⟩
 |f+1,p,m,q,pa,h1,hq,hn,hd,he=>by
  refine⟨pa.lt (by omega),pa.lt (by omega),?_⟩;have sz:=pa.size;by_cases c:r (p.getD m 0)<r (p.getD (m-1) 0)
  .rw[ja c];have c':kv r p m<=kv r p (m-1):=by unfold kv;omega
   dsimp only;rw[i9 rfl];by_cases hq0:q>0
   .rw[i9 hq0];have sm:=O3 (r:=r) (p:=p) (m:=m) (q:=q) (by omega) hq he;refine(HV f _ (m+1) 0 (pa.rev _ _) (by omega) (by omega) (by omega) ?_ ?_).mono λz h=>⟨h.1,by omega,by omega,h.2.2.2⟩
    .have:=IX h1 hd c';intro i j a b;rw[sm,sm];exact this i j a b
    .intro k a b;have:k=m:=by omega
     subst this;rfl
   .rw[ic hq0];refine(HV f p (m+1) 0 pa (by omega) (by omega) (by omega) (IX h1 hd c') ?_).mono λz h=>⟨h.1,by omega,by omega,h.2.2.2⟩
    intro k a b;have:k=m:=by omega
    subst this;rfl
  .rw[iW c];dsimp only;rw[ic Bool.false_ne_true];refine⟨pa.lt (by omega),pa.lt (by omega),?_⟩;by_cases d:r (p.getD (m-1) 0)<r (p.getD m 0)
   .rw[ja d];exact⟨pa,ig _,by show m<=m+(f+1);omega,hd,he,hq⟩
   .rw[iW d];dsimp only;rw[ic Bool.false_ne_true];have e:kv r p m=kv r p (m-1):=by unfold kv;omega
    refine(HV f p (m+1) (q+1) pa (by omega) (by omega) (by omega) (IX h1 hd (by omega)) ?_).mono λz h=>⟨h.1,by omega,by omega,h.2.2.2⟩
    intro k a b;by_cases e2:k=m
    .subst e2;rfl
    .have:=he k (by omega) (by omega);have e3:m+1-1=m:=rfl;rw[e3];omega
def Run(z:Nat×Array Nat)(r:Nat->Int)(n:Nat):Prop:=PAr n z.2/\1<=z.1/\z.1<=n/\STo r z.2 z.1
def LU{p:Array Nat}{m:Nat}(pa:PAr n p)(h1:1<=m)(hn:m<=n)(hd:DTo r p m):PWp r n (kas_tail3 m n p) λz=>Run z r n:=by
 have sz:=pa.size;have st:STo r (kas_rev p 0 m) m:=by
  intro i j a b;rw[JA (by omega),JA (by omega),i9 ⟨by omega,by omega⟩,i9 ⟨by omega,by omega⟩];exact hd _ _ (by omega) (by omega)
 refine PWp.bind ((N3 (pa.rev 0 m) (n-m) m h1 (by omega) st).mono λm' h=>?_);exact⟨pa.rev 0 m,by show 1<=m';omega,by show m'<=n;omega,h.2.2.1⟩
def Ho{p:Array Nat}{m:Nat}(pa:PAr n p)(hn:m+1<=n)(hd:DTo r p (m+1)):PWp r n (kas_descPart m n p) λz=>Run z r n:=by
 refine PWp.bind ((HV (n-(m+1)) p (m+1) 0 pa (by omega) (by omega) (by omega) hd ?_).mono λz h=>?_)
 .intro k a b;have:k=m:=by omega
  subst this;rfl
 .obtain⟨a,b,c,d,e,g⟩:=h;have sz:=a.size;by_cases hq:z.2.2>0
  .rw[i9 hq];have sm:=O3 (r:=r) (p:=z.1) (m:=z.2.1) (q:=z.2.2) (by omega) g e;exact LU (a.rev _ _) (by omega) (by omega) λi j x y=>by rw[sm,sm];exact d i j x y
  .rw[ic hq];exact LU a (by omega) (by omega) d
def Uq(h1:1<=n):PWp r n (kas_count n (List.toArray (List.range n))) λz=>Run z r n:=by
 have pa:PAr n (List.range n).toArray:=.refl _;have sz:=pa.size;refine PWp.bind ((N3 pa (n-1) 1 (by omega) (by omega) λi j a b=>?_).mono λm h=>?_)
 .have:i=j:=by omega
  subst this;exact Int.le_refl _
 .obtain⟨a,b,c,d⟩:=h;by_cases e:(m==n)=true
  .rw[i9 e];have:m=n:=by simpa using e
   exact⟨pa,by show 1<=m;omega,by show m<=n;omega,c⟩
  .rw[ic e];have hne:m≠n:=by simpa using e
   have dd:=d (by omega);by_cases h2:m>1
   .rw[i9 h2];refine⟨pa.lt (by omega),pa.lt (by omega),?_⟩;by_cases g:r ((List.range n).toArray.getD 0 0)<r ((List.range n).toArray.getD (m-1) 0)
    .rw[ja g];exact⟨pa,by show 1<=m;omega,by show m<=n;omega,c⟩
    .rw[iW g];dsimp only;rw[ic Bool.false_ne_true];have g':kv r (List.range n).toArray (m-1)<=kv r (List.range n).toArray 0:=by unfold kv;omega
     have eq:∀k,k<m->kv r (List.range n).toArray k=kv r (List.range n).toArray 0:=λk hk=>by
      have x1:=c 0 k (by omega) hk;have x2:=c k (m-1) (by omega) (by omega);omega
     have rv:∀k,kv r (kas_rev (List.range n).toArray 0 m) k=kv r (List.range n).toArray k:=λk=>by
      rw[JA (by omega)];split
      .next z=>rw[eq _ (by omega),eq k z.2]
      .rfl
     refine Ho (pa.rev 0 m) (by omega) λi j x y=>?_;rw[rv,rv];by_cases z:j<m
     .rw[eq i (by omega),eq j z];exact Int.le_refl _
     .have:j=m:=by omega
      subst this;by_cases z2:i=j
      .subst z2;exact Int.le_refl _
      .rw[eq i (by omega)];have:=eq (j-1) (by omega);omega
   .rw[ic h2];have:m=1:=by omega
    subst this;refine Ho pa (by omega) λi j x y=>?_;by_cases z:i=j
    .subst z;exact Int.le_refl _
    .have:i=0:=by omega
     have:j=1:=by omega
     subst i j;have:kv r (List.range n).toArray 1<kv r (List.range n).toArray 0:=dd;omega
theorem IE{p:Array Nat}{k:Nat}(pa:PAr n p)(hk:k<n)(hs:STo r p k):∀(f l q:Nat),l<=q->q<=k->q-l<=f->(∀i,i<l->kv r p i<=kv r p k)->(∀i,q<=i->i<k->kv r p k<kv r p i) ->
 PWp r n (kas_place p k f l q) λm=>m<=k/\(∀i,i<m->kv r p i<=kv r p k)/\∀i,m<=i->i<k->kv r p k<kv r p i
 |0,l,q,a,b,c,d,e=>⟨by omega,d,λi x y=>e i (by omega) y⟩
 |f+1,l,q,a,b,c,d,e=>by
  unfold kas_place;by_cases h:l>=q
  .rw[i9 h];exact⟨by omega,d,λi x y=>e i (by omega) y⟩
  .rw[ic h];refine⟨pa.lt (by omega),pa.lt (by omega),?_⟩;by_cases g:r (p.getD k 0)<r (p.getD ((l+q)/2) 0)
   .rw[ja g];dsimp only;rw[i9 rfl];have g':kv r p k<kv r p ((l+q)/2):=g;refine IE pa hk hs f l ((l+q)/2) (by omega) (by omega) (by omega) d λi x y=>?_;have:=hs ((l+q)/2) i x y;omega
   .rw[iW g];dsimp only;rw[ic Bool.false_ne_true];have g':kv r p ((l+q)/2)<=kv r p k:=by unfold kv;omega
    refine IE pa hk hs f ((l+q)/2+1) q (by omega) (by omega) (by omega) (λi x=>?_) e;have:=hs i ((l+q)/2) (by omega) (by omega);omega
def KR{p:Array Nat}{k d:Nat}(hk:k<p.size)(hd:d<=k)(i:Nat):kv r (bubble p k d) i=if i=k-d then kv r p k else if k-d<i/\i<=k then kv r p (i-1)else kv r p i:=by
 unfold kv;simp only[Array.getD_eq_getD_getElem?];rw[getElem?_bubble hk d hd];split
 .rfl
 .split<;>rfl
theorem SV:∀(f:Nat) (p:Array Nat) (k:Nat),PAr n p->k+f=n->STo r p k->PWp r n (kas_bin f p k) λz=>PAr n z/\STo r z n
 | 0,p,k,pa,e,hs=>⟨pa,by
  have:k=n:=by omega
  subst this;exact hs⟩
 |f+1,p,k,pa,e,hs=>by
  have sz:=pa.size;refine PWp.bind ((IE pa (by omega) hs k 0 k (by omega) (by omega) (by omega) (λi h=>by omega) (λi a b=>by omega)).mono λm h=>?_);obtain⟨a,b,c⟩:=h;refine SV f _ (k+1) ((bubble_perm _ _ _).trans pa) (by omega) λi j x y=>?_;rw[KR (by omega) (by omega),KR (by omega) (by omega)];have ek:k-(k-m)=m:=by omega
  rw[ek]
  repeat' split
  .exact Int.le_refl _
  .exact Int.le_of_lt (c _ (by omega) (by omega))
  .omega
  .exact b _ (by omega)
  .exact hs _ _ (by omega) (by omega)
  .omega
  .exact b _ (by omega)
  .exact hs _ _ (by omega) (by omega)
  .exact hs _ _ (by omega) (by omega)
def W4(h1:1<=n):PWp r n (kas_sort n) λp=>PAr n p/\STo r p n:=by
 refine PWp.bind ((Uq h1).mono λz h=>?_);obtain⟨a,b,c,d⟩:=h;by_cases e:z.1<n
 .rw[i9 e];have:max z.1 1=z.1:=by omega
  rw[this];exact SV _ _ _ a (by omega) d
 .rw[ic e];have:z.1=n:=by omega
  exact⟨a,this ▸ d⟩
end
def PairAt(h:Heap)(v:Value)(p:Int×Int):Prop:=∃(x:Addr) (o:Obj) (t u:Tok) (k:Nat),v=.ref x/\h.get? x=some o/\o.cls=.type "tuple"/\o.data=.seq #[.int p.1 t,.int p.2 u] k
def CF(p:Int×Int):Int:=p.1*4000000000+p.2
def pok(p:Int×Int):Prop:=-1000000000<=p.1/\p.1<=1000000000/\-1000000000<=p.2/\p.2<=1000000000
section
variable{prog:Program}{w:World}{A:Around}{E:Value->Shared->Prop}{s:Shared}
def Y5{x y:Value}{p q:Int×Int}{C:Bool->Shared->Prop}(hx:PairAt s.heap x p)(hy:PairAt s.heap y q)(op:pok p)(oq:pok q)(h:C (decide (CF p<CF q)) s):
 wpAny (model prog w) A (keyLt' (tuples' true) x y) C E s:=by
 obtain⟨a,o,t,u,k,rfl,ho,hc,hd⟩:=hx;obtain⟨a2,o2,t2,u2,k2,rfl,ho2,hc2,hd2⟩:=hy;obtain⟨p1,p2⟩:=p;obtain⟨q1,q2⟩:=q;unfold pok at op oq;unfold CF at h;dsimp only at op oq h;refine kat_lt ho hd ho2 hd2 ?_;refine kat_cons (wpAny_eqBool_int ?_);by_cases e1:p1=q1
 .have b1:(p1==q1)=true:=by simp[e1]
  rw[b1];refine kat_yes (kat_cons (wpAny_eqBool_int ?_));by_cases e2:p2=q2
  .have b2:(p2==q2)=true:=by simp[e2]
   rw[b2];refine kat_yes (kat_nil ?_);have:decide (p1*4000000000+p2<q1*4000000000+q2)=false:=iW (by omega);rw[this]at h;exact h
  .have b2:(p2==q2)=false:=by simp[e2]
   rw[b2];refine kat_no (kat_one _ _ (lt_int ?_));have:decide (p1*4000000000+p2<q1*4000000000+q2)=decide (p2<q2):=decide_eq_decide.mpr (by omega);rw[this]at h;exact h
 .have b1:(p1==q1)=false:=by simp[e1]
  rw[b1];refine kat_no (oneLt_int ?_);have:decide (p1*4000000000+p2<q1*4000000000+q2)=decide (p1<q1):=decide_eq_decide.mpr (by omega);rw[this]at h;exact h
theorem NO{h:Heap}:∀{vs:List Value} {ps:List (Int×Int)},vs.length=ps.length->(∀(i:Nat) (v:Value) (p:Int×Int),vs[i]?=some v->ps[i]?=some p->PairAt h v p)->∃fs,KatTups h vs fs/\fs.length=vs.length/\∀f∈fs,∃i t,f=.int i t
 |[],[],_,_=>⟨[],.nil,rfl,λ_ z=>by cases z⟩
 |v::vs,p::ps,hl,hp=>by
  obtain⟨fs,a,b,c⟩:=NO (vs:=vs) (ps:=ps) (by simpa using hl) λi v q e1 e2=>hp (i+1) v q (by simpa using e1) (by simpa using e2);obtain⟨x,o,t,u,k,rfl,ho,hc,hd⟩:=hp 0 v p rfl rfl;exact⟨.int p.1 t::fs,.cons ho hc hd rfl a,by simp[b],λf hf=>by
   rcases mem_cons.mp hf with rfl|hf
   .exact⟨_,_,rfl⟩
   .exact c f hf⟩
def Ed(vs:List Value)(ps:List (Int×Int))(out:List Value):Prop:=∃zs:List (Value×(Int×Int)),zs.Perm (vs.zip ps)/\(zs.map λz=>CF z.2).Pairwise (·<=·)/\out=zs.map (·.1)
def QH{vs:List Value}{ps:List (Int×Int)}(hl:vs.length=ps.length){p:Array Nat}(pa:PAr vs.length p)(hs:STo (λi=>CF (ps.getD i (0,0))) p vs.length):Ed vs ps (p.toList.map λi=>vs.getD i Value.none):=by
 have sz:=pa.size;refine⟨p.toList.map λi=>(vs.getD i Value.none,ps.getD i (0,0)),?_,?_,by rw[iF];rfl⟩
 .have e:vs.zip ps=(List.range vs.length).map λi=>(vs.getD i Value.none,ps.getD i (0,0)):=by
   refine jj λi=>?_;by_cases hi:i<vs.length
   .have hi2:i<ps.length:=by omega
    rw[(List.getElem?_zip_eq_some (z:=(vs[i],ps[i]))).mpr ⟨by simp[hi],by simp[hi2]⟩];simp[hi,hi2]
   .rw[List.getElem?_eq_none (by simp;omega),List.getElem?_eq_none (by simp;omega)]
  rw[e];have:=Array.perm_iff_toList_perm.mp pa;simpa using this.map _
 .rw[iF,List.pairwise_iff_getElem];intro i j hi hj hij;simp only[iu,Array.length_toList]at hi hj;have:=hs i j (by omega) (by omega);unfold kv at this;simpa [Array.getD,hi,hj]using this
def Oi{a:Addr}{vs:List Value}{ps:List (Int×Int)}{n:Nat}{P:PySem.Fin->Shared->Prop}(ho:s.heap.get? a=some (seqObj "list" vs.toArray n))(hl:vs.length=ps.length)(h64:vs.length<64)(hok:∀p∈ps,pok p)
 (hp:∀(i:Nat) (v:Value) (p:Int×Int),vs[i]?=some v->ps[i]?=some p->PairAt (s.heap.update a (Obj.mapSeq λ_=>#[])) v p)
 (h:∀out:List Value,Ed vs ps out->P (.done (.ret .none)) { s with heap:=sortedHeap s.heap a vs out.toArray }):
 wpAny (model prog w) A (Builtin.«list.sort» ⟨[.ref a],[]⟩) P E s:=by
 have ha:=Heap.lt_size ho;have line:vs.length<=sizeLine:=by rw[je];omega
 obtain⟨e1,ho1⟩:∃e1,(s.heap.update a (Obj.mapSeq λ_=>#[])).get? a=some (seqObj "list" #[] e1):=⟨_,get?_update_seq ho _⟩
 rw[list_sort_plain];refine i8 (listItems_at ho rfl (i8 (listUpdate_at ho rfl (i8 (seqEpoch_at ho1 rfl (i8 (wpAny_newTuple (i8 (wpAny_newList (j0 ?_) (iT _))) line)))) (by rw[ik];exact line) (iT _))));have grow:∀b o,(s.heap.update a (Obj.mapSeq λ_=>#[])).get? b=some o->(((s.heap.update a (Obj.mapSeq λ_=>#[])).push (seqObj "tuple" vs.toArray 0)).push (seqObj "list" #[] 0)).get? b=some o:=λb o e=>Heap.get?_push_of_some _ (Heap.get?_push_of_some _ e);have ho6:=grow _ _ ho1;generalize h6:((s.heap.update a (Obj.mapSeq λ_=>#[])).push (seqObj "tuple" vs.toArray 0)).push (seqObj "list" #[] 0)=hp6 at *;have done:∀out:List Value,Ed vs ps out->P (.done (.ret .none)) { s with heap:=hp6.update a (Obj.mapSeq λ_=>out.toArray) }:=λout z=>by
  have:=h out z;unfold sortedHeap at this;rw[h6]at this;exact this
 show wpAny (model prog w) A _ P E { s with heap:=hp6 };dsimp only;have pairs6:∀(i:Nat) (v:Value) (p:Int×Int),vs[i]?=some v->ps[i]?=some p->PairAt hp6 v p:=λi v p x y=>by
  obtain⟨x',o,t,u,k,e,q,c,d⟩:=hp i v p x y;exact⟨x',o,t,u,k,e,grow _ _ q,c,d⟩
 by_cases h2:vs.toArray.size<2
 .rw[i9 h2,i9 h2];refine i8 (ie ?_);rw[StateT.run_pure];refine i8 (ie ?_);dsimp only;have hout:(arrOf (SortSt.mk' general' (vs.toArray.zip vs.toArray) #[] 7 none)).map (·.2)=vs.toArray:=by
   show(vs.toArray.zip vs.toArray).map (·.2)=vs.toArray;apply Array.toList_inj.mp;simp only[Array.toList_map,Array.toList_zip];exact List.map_snd_zip (ig _)
  rw[hout];refine i8 (seqEpoch_at ho6 rfl (i8 (listUpdate_at ho6 rfl ?_ (iT _) (by rw[ik];omega))));simp only[bne_self_eq_false,Bool.false_eq_true,j9];refine ie (done vs ⟨vs.zip ps,.refl _,?_,?_⟩)
  .have hz:(vs.zip ps).length<2:=by simp at h2 ⊢;omega
   cases hh:vs.zip ps with
   |nil=>exact .nil
   |cons z r=>
    cases r with
    |nil=>exact List.pairwise_singleton _ _
    |cons y t=>rw[hh]at hz;exact absurd hz (by simp)
  .rw[List.map_fst_zip (by omega)]
 .rw[ic h2,ic h2];have h2':2<=vs.length:=by simp at h2;omega
  obtain⟨fs,t1,t2,t3⟩:=NO hl pairs6;have tT:∀f∈fs,Looks (model prog w) hp6 (typeOf f) (Value.type "int"):=λf hf=>by
   obtain⟨i,t,rfl⟩:=t3 f hf;exact .of_pure rfl
  refine i8 (kat_kind (s:={ s with heap:=hp6 }) t1 (by omega) tT rfl ?_);have est:SortSt.mk' (tuples' true) (vs.toArray.zip vs.toArray) #[] 7 none=kas_st (tuples' true) (pairsOf vs) (List.toArray (List.range vs.length)):=by
   unfold kas_st;rw[<- pairsOf_size vs,kas_range];rfl
  have ask:(kas_sort vs.length).kasWp (kas_cmp prog w A (tuples' true) (pairsOf vs)) (λp s'=>s'={ s with heap:=hp6 }/\Ed vs ps (p.toList.map λi=>vs.getD i Value.none)) { s with heap:=hp6 }:=by
   rw[<- kas_ask_eq];refine PWp.wp (n:=vs.length) (r:=λi=>CF (ps.getD i (0,0))) (P:=λs'=>s'={ s with heap:=hp6 }) (λi j C s' hi hj e hC=>?_) ((W4 (by omega)).mono λp z s' e=>⟨e,QH hl z.1 z.2⟩) rfl;subst e;have pi:ps[i]?=some (ps.getD i (0,0)):=by simp[show i<ps.length by omega]
   have pj:ps[j]?=some (ps.getD j (0,0)):=by simp[show j<ps.length by omega]
   have vi:vs[i]?=some (vs.getD i Value.none):=by simp[hi]
   have vj:vs[j]?=some (vs.getD j Value.none):=by simp[hj]
   exact Y5 (s:={ s with heap:=hp6 }) (pairs6 i _ _ vi pi) (pairs6 j _ _ vj pj) (hok _ (iH pi)) (hok _ (iH pj)) (hC _ rfl)
  have run:=kas_runs (E:=E) (Q:=λ_ st' s'=>∃p:Array Nat,p.size=vs.length/\arrOf st'=p.map (kas_item (pairsOf vs))/\failedOf st'=none/\s'={ s with heap:=hp6 }/\Ed vs ps (p.toList.map λi=>vs.getD i Value.none)) h2' h64 (λp st' s' x1 x2 x3 x4=>⟨p,x1,x2,x3,x4⟩) ask;rw[<- est]at run;refine i8 (iw run ?_ λ_ _ e=>e);rintro⟨⟨⟩,st'⟩ s' ⟨p,hsz,har,hf,rfl,so⟩;dsimp only;have hout:(arrOf st').map (·.2)=(p.toList.map λi=>vs.getD i Value.none).toArray:=by
   rw[har];apply Array.toList_inj.mp;simp only[Array.toList_map,iF];exact jk λi _=>iP Prod.snd (kas_item_eq vs i)
  rw[hout];refine i8 (seqEpoch_at ho6 rfl (i8 (listUpdate_at ho6 rfl ?_ (iT _) (by simp[hsz];omega))));rw[hf];simp only[bne_self_eq_false,Bool.false_eq_true,j9];exact ie (done _ so)
end
def PairAt.keep{h h':Heap}{v:Value}{p:Int×Int}(k:∀b o,h.get? b=some o->h'.get? b=some o)(q:PairAt h v p):PairAt h' v p:=by
 obtain⟨x,o,t,u,n,e,ho,c,d⟩:=q;exact⟨x,o,t,u,n,e,k _ _ ho,c,d⟩
section
variable{prog:Program}{w:World}{A:Around}{E:Value->Shared->Prop}{s:Shared}
def Lc{l:Addr}{vs:List Value}{ps:List (Int×Int)}{Q:Value->Shared->Prop}(hl:s.heap.IsList l vs.toArray)(hlen:vs.length=ps.length)(h64:vs.length<64)(hok:∀p∈ps,pok p)
 (hp:∀(i:Nat) (v:Value) (p:Int×Int),vs[i]?=some v->ps[i]?=some p->PairAt s.heap v p)
 (h:∀out:List Value,Ed vs ps out->Q (.ref (s.heap.objs.size+1)) { s with heap:=sortedAll s.heap vs out.toArray }):
 wpAny (model prog w) A (call (.builtin "sorted") [.ref l]) Q E s:=by
 have line:vs.length<=sizeLine:=by rw[je];omega
 refine Calls.call_function_entry kind_sorted plain_sorted entry_sorted (args_sorted1 _) ?_;unfold Builtin.«sorted»;refine i8 (m:=checkCount "sorted" 1 1 _) (ie (i8 (collect_list hl (i8 (wpAny_newList ?_ line)) line)));have sz:((s.heap.push (seqObj "list" #[] 0)).update s.heap.objs.size (Obj.mapSeq (·++vs.toArray))).objs.size=s.heap.objs.size+1:=by rw[Heap.size_update,size_push']
 have at1:(((s.heap.push (seqObj "list" #[] 0)).update s.heap.objs.size (Obj.mapSeq (·++vs.toArray))).push (seqObj "list" vs.toArray 0)).get? (s.heap.objs.size+1)=some (seqObj "list" vs.toArray 0):=by
  have:=Heap.get?_push_size ((s.heap.push (seqObj "list" #[] 0)).update s.heap.objs.size (Obj.mapSeq (·++vs.toArray))) (o:=seqObj "list" vs.toArray 0) rfl
  rwa [sz]at this
 have old:∀b o,s.heap.get? b=some o->((((s.heap.push (seqObj "list" #[] 0)).update s.heap.objs.size (Obj.mapSeq (·++vs.toArray))).push (seqObj "list" vs.toArray 0)).update (s.heap.objs.size+1) (Obj.mapSeq λ_=>#[])).get? b=some o:=λb o e=>by
  have lt:=Heap.lt_size e;rw[Heap.get?_update_ne _ _ _ _ (iq (jm lt)),Heap.get?_push_ne _ _ _ (by rw[sz];exact iq (jm lt)),Heap.get?_update_ne _ _ _ _ (iq lt),Heap.get?_push_ne _ _ _ (iq lt)];exact e
 show wpAny _ _ _ _ _ { s with heap:=((s.heap.push (seqObj "list" #[] 0)).update s.heap.objs.size (Obj.mapSeq (·++vs.toArray))).push (seqObj "list" vs.toArray 0) };rw[sz];refine i8 (j0 (jq slot_list_sort ⟨_,at1,rfl⟩ entry_list_sort (Oi at1 hlen h64 hok (λi v p a b=>(hp i v p a b).keep old) λout z=>⟨_,rfl,?_⟩) (args_list_sort _)));exact ie ⟨_,rfl,h out z⟩
end
section
variable(K:Frag){X:Cx}
def ID:List V->Hp->VK->Prop:=λxs H Q=>∃(a:Addr) (us:List V) (ps:List (Int×Int)),xs=[.ref a]/\SqL K H a us/\us.length=ps.length/\us.length<64/\(∀q∈ps,pok q)/\
 (∀(i:Nat) (u:V) (q:Int×Int),us[i]?=some u->ps[i]?=some q->∃x,u=.ref x/\SqT K H x [.int q.1,.int q.2])/\
 ∀(p:Addr) (zs:List (V×(Int×Int))),H p=none->zs.Perm (us.zip ps)->(zs.map λz=>CF z.2).Pairwise (·<=·)->Q (.ref p) (upd H p (.lst (zs.map (·.1))))
def Fx:Value->V
 |.ref x=>.ref x
 |_=>.non
theorem LS:∀{us:List V} {its:List Value} {i:Nat} {u:V},Vals us its->us[i]?=some u->∃v,its[i]?=some v/\RelV u v
 |_,_,_,_,.nil,h=>by simp at h
 |_::_,_::_,0,_,.cons r _,h=>by
  simp at h;subst h;exact⟨_,rfl,r⟩
 |_::_,_::_,i+1,_,.cons _ t,h=>LS (i:=i) t (by simpa using h)
def Mu(hK:X.K=K:=by rfl):CallR X (.builtin "sorted") (ID K):=by
 subst hK;intro pins s σ H xs us0 Q I r h;obtain⟨a,us,ps,rfl,hq,hlen,h64,hok,hpr,q⟩:=h;obtain⟨u,rfl,ru⟩:=Cf r;cases ru;obtain⟨its,rv,p,hz⟩:=I.list hq;have hl2:us.length=its.length:=rv.length;have point:∀(i:Nat) (v:Value) (q:Int×Int),its[i]?=some v->ps[i]?=some q->(∃x,us[i]?=some (.ref x)/\v=.ref x)/\PairAt s.heap v q:=by
  intro i v q e1 e2;have hi:i<us.length:=by rw[hl2];exact(List.getElem?_eq_some_iff.mp e1).1
  have eu:us[i]?=some us[i]:=by simp[hi]
  obtain⟨x,ex,sq⟩:=hpr i _ q eu e2;obtain⟨v',ev,rel⟩:=LS rv eu;rw[e1]at ev;cases ev;rw[ex]at rel eu;have rel:v=Value.ref x:=rel;subst rel;refine⟨⟨x,eu,rfl⟩,?_⟩;obtain⟨jts,rj,⟨o,ho,hc,n,hd⟩,_⟩:=I.tuple sq;cases rj with
  |cons r1 t1=>
   cases t1 with
   |cons r2 t2=>
    cases t2;obtain⟨t,rfl⟩:=r1;obtain⟨t',rfl⟩:=r2;exact⟨x,o,t,t',n,rfl,ho,hc,hd⟩
 refine Lc (ps:=ps) p.isList (by omega) (by omega) hok (λi v q a b=>(point i v q a b).2) λout z=>?_;obtain⟨zs,pm,pw,rfl⟩:=z;obtain⟨e,he⟩:=sortedAll_at s.heap its (zs.map (·.1)).toArray;have mz:∀z∈zs,∃x,z.1=.ref x:=λz hz=>by
  have:=pm.mem_iff.mp hz;obtain⟨i,hi⟩:=List.mem_iff_getElem?.mp this;obtain⟨e1,e2⟩:=List.getElem?_zip_eq_some.mp hi;obtain⟨⟨x,_,ex⟩,_⟩:=point i _ _ e1 e2;exact⟨x,ex⟩
 have vz:∀{zs:List (Value×(Int×Int))},(∀z∈zs,∃x,z.1=.ref x)->Vals (zs.map λz=>Fx z.1) (zs.map (·.1)):=by
  intro zs
  induction zs with
  |nil=>intro _;exact .nil
  |cons z r ih=>
   intro h;obtain⟨x,ex⟩:=h z iR;refine .cons ?_ (ih λy hy=>h y (iK _ hy));show RelV (Fx z.1) z.1;rw[ex];rfl
 have pm2:(zs.map λz=>(Fx z.1,z.2)).Perm (us.zip ps):=by
  have:=pm.map λz:Value×(Int×Int)=>(Fx z.1,z.2)
  have e:((its.zip ps).map λz:Value×(Int×Int)=>(Fx z.1,z.2))=us.zip ps:=by
   refine jj λi=>?_;by_cases hi:i<us.length
   .have h1:i<its.length:=by omega
    have h2:i<ps.length:=by omega
    have e1:its[i]?=some its[i]:=by simp[h1]
    have e2:ps[i]?=some ps[i]:=by simp[h2]
    obtain⟨⟨x,ex,ev⟩,_⟩:=point i _ _ e1 e2;rw[List.getElem?_map,(List.getElem?_zip_eq_some (z:=(its[i],ps[i]))).mpr ⟨e1,e2⟩,(List.getElem?_zip_eq_some (z:=(V.ref x,ps[i]))).mpr ⟨ex,e2⟩,iI,ev];rfl
   .rw[List.getElem?_eq_none (by simp;omega),List.getElem?_eq_none (by simp;omega)]
  rwa [e]at this
 have pw2:((zs.map λz=>(Fx z.1,z.2)).map λz:V×(Int×Int)=>CF z.2).Pairwise (·<=·):=by rw[iF];exact pw
 have fin:=q (s.heap.objs.size+1) _ (I.hok.fresh (j7 _)) pm2 pw2;have em:(zs.map λz=>(Fx z.1,z.2)).map (·.1)=zs.map λz=>Fx z.1:=by rw[iF];rfl
 rw[em]at fin;have zl:zs.length<64:=by rw[pm.length_eq];simp;omega
 refine⟨.ref (s.heap.objs.size+1),_,I.laid (a:=s.heap.objs.size+1) (o:=.lst (zs.map λz=>Fx z.1)) (t':=s.toks) (λb o hb=>sortedAll_old hb) (j7 _) ⟨?_,_,e,vz mz,he⟩,rfl,fin⟩;rw[iu];exact le_of_lt (KC (by omega))
end
def Ar(p:Int×Int):D:=.im (.tup [.int p.1,.int p.2])
def DN:List D->Option (List (Int×Int))
 |[]=>some []
 |.im (.tup [.int a,.int b])::r=>(DN r).map ((a,b)::·)
 |_=>none
def RZ:∀{ds:List D} {ps:List (Int×Int)},DN ds=some ps->ds=ps.map Ar:=by
 intro ds
 induction ds with
 |nil=>intro ps h;simp[DN]at h;subst h;rfl
 |cons d r ih=>
  intro ps h;unfold DN at h;split at h
  .next e=>cases e
  .next a b r' e=>
   cases e;obtain⟨qs,e1,rfl⟩:=i7 h;rw[ih e1];rfl
  .cases h
@[simp] theorem P3(ps:List (Int×Int)):DN (ps.map Ar)=some ps:=by
 induction ps with
 |nil=>rfl
 |cons p r ih=>simp[DN,Ar]at ih ⊢;exact ih
def EK(ps:List (Int×Int)):List (Int×Int):=ps.mergeSort λa b=>decide (CF a<=CF b)
def EJ(ps:List (Int×Int)):(EK ps).Perm ps:=List.mergeSort_perm ..
def Ld(ps:List (Int×Int)):(EK ps).Pairwise λa b=>CF a<=CF b:=by
 have:=List.pairwise_mergeSort (le:=λa b:Int×Int=>decide (CF a<=CF b)) (by intro a b c h1 h2;simp at *;omega) (by intro a b;simp;omega) ps;exact this.imp (by simp)
def U4{p q:Int×Int}(a:pok p)(b:pok q)(h:CF p=CF q):p=q:=by
 unfold pok at a b;unfold CF at h;exact Prod.ext (by omega) (by omega)
open Classical in
def Er(m:MI):MA:=λls hd=>(m ls hd).bind λp=>(DN p.1.1).bind λps=>if ps.length<64/\∀q∈ps,pok q then some ((EK ps).map Ar,p.2)else none
section
variable{K:Frag}{ρ:List Addr}{H:Hp}{hd:Hd}
def Wl{p:Int×Int}{v:V}(h:RD K ρ H (Ar p) v):∃x,v=.ref x/\SqT K H x [.int p.1,.int p.2]:=by
 simp only[Ar,RD,RI,RIs]at h;obtain⟨a,xs,rfl,q,x,r,rfl,rfl,y,r2,rfl,rfl,rfl⟩:=h;exact⟨a,rfl,q⟩
def Oo{t:TE}{m:MI}(h:RRw K false t m):RN K (tCB (ID K) (Bc t CD)) (Er m):=by
 and_intros;obtain⟨⟨⟨d1,g1⟩,h1⟩,e1,hm⟩:=i6 hm;obtain⟨ps,e2,hm⟩:=i6 hm;split at hm
 .next c=>
  cases hm;refine h ρ σ H hd ls _ d1 g1 _ hR hL e1 λρ1 H1 a x1 R1 G1 S1=>?_;obtain⟨xs,q,r⟩:=S1 ρ1 H1 _ .refl R1 G1;have e2:DN d1=some ps:=e2;rw[RZ e2]at r;have hl:xs.length=ps.length:=by simpa using r.len
  have each:∀(i:Nat) (u:V) (q:Int×Int),xs[i]?=some u->ps[i]?=some q->RD K ρ1 H1 (Ar q) u:=λi u q a b=>by
   obtain⟨x,e,z⟩:=r.get (i:=i) (d:=Ar q) (by simp[b]);rw[a]at e;cases e;exact z
  refine⟨a,xs,ps,rfl,q,hl,by rw[hl];exact c.1,c.2,λi u q a b=>Wl (each i u q a b),λp zs hp pm pw=>?_⟩;have es:zs.map (·.2)=EK ps:=by
   have pp:(zs.map (·.2)).Perm ps:=by
    have:=pm.map (λz:V×(Int×Int)=>z.2)
    rwa [List.map_snd_zip (by omega)]at this
   refine(pp.trans (EJ ps).symm).eq_of_pairwise (le:=λa b=>CF a<=CF b) (λx y hx hy l1 l2=>U4 (c.2 _ (pp.mem_iff.mp hx)) (c.2 _ ((EJ ps).mem_iff.mp hy)) (Int.le_antisymm l1 l2)) ?_ (Ld ps);rw[pairwise_map]at pw ⊢;exact pw
  obtain⟨R2,x2⟩:=R1.hid (ho:=.lst (zs.map (·.1))) hp;have all:∀z∈zs,RD K ρ1 H1 (Ar z.2) z.1:=λz hz=>by
   obtain⟨i,hi⟩:=List.mem_iff_getElem?.mp (pm.mem_iff.mp hz);obtain⟨a1,a2⟩:=List.getElem?_zip_eq_some.mp hi;exact each i _ _ a1 a2
  have rd:∀{zs:List (V×(Int×Int))},(∀z∈zs,RD K ρ1 H1 (Ar z.2) z.1)->RDs K ρ1 H1 ((zs.map (·.2)).map Ar) (zs.map (·.1)):=by
   intro zs
   induction zs with
   |nil=>intro _;exact .nil
   |cons z r ih=>intro h;exact .cons (h z iR) (ih λy hy=>h y (iK _ hy))
  have rz:=rd all;rw[es]at rz;exact hQ ρ1 _ p _ (x1.trans R1 x2) R2 (x1.none hR hp R1) (R1.out hp) AJ (rz.ext R1 x2)
 .cases hm
open Classical in
def Fh:D->List D->Hd->Option (D×Hd)
 |.mu n,[.im (.int i)],hd=>match hd[n]? with
  |some (.lst ds)=>if GV i then(ixN ds.length i).bind λk=>(ds[k]?).map λy=>(y,hd.set n (.lst (ds.eraseIdx k)))else none
  |_=>none
 |_,_,_=>none
theorem RDs.erase:∀{ds:List D} {xs:List V} (k:Nat),RDs K ρ H ds xs->RDs K ρ H (ds.eraseIdx k) (xs.eraseIdx k)
 |[],_,_,h=>by simp only[RDs]at h;subst h;simp[RDs]
 |d::ds,_,0,h=>by simp only[RDs]at h;obtain⟨x,r,rfl,_,t⟩:=h;simpa using t
 |d::ds,_,k+1,h=>by
  simp only[RDs]at h;obtain⟨x,r,rfl,a,t⟩:=h;simpa using RDs.cons a (RDs.erase k t)
end
def TR{K:Frag}:RM K Qy Fh:=by
 intro ρ H hd d v ds vs Q z hd' hR h1 h2 hf hQ;unfold Fh at hf;split at hf
 .split at hf
  .next q=>
   split at hf
   .next c=>
    obtain⟨k,e0,hf⟩:=i6 hf;obtain⟨y,e1,e3⟩:=i7 hf;cases e3;simp only[RD]at h1;obtain⟨a,hn,rfl⟩:=h1;simp only[RDs,RD,RI]at h2;obtain⟨x,r,rfl,rfl,rfl⟩:=h2;obtain⟨xs,f1,f2⟩:=hR.lst hn q;obtain⟨x,x1,x3⟩:=f2.get e1;obtain⟨R2,x2⟩:=hR.put hn (o:=.lst _) (ho:=.lst (xs.eraseIdx k)) ⟨_,rfl,f2.erase k⟩;obtain⟨s1,s2,s3,s4⟩:=Jp e0;have sz:=f2.len;unfold GV at c;exact⟨a,xs,_,k,x,rfl,rfl,f1,by omega,by omega,by rw[sz];exact s1,x1,hQ ρ _ _ x2 R2 (x3.ext hR x2)⟩
   .cases hf
  .cases hf
 .cases hf
section
variable(K:Frag){X:Cx}{e:Expr}{te:TE}{p pos:Pos}
def Oy{mi:MI}(hm:X.mg "sorted"=none)(ha:QR K false X e te mi)(hg:Gl X "sorted":=by rfl)(he:starEach [e] X.env=[(false,eval e X.env)]:=by rfl)(hK:X.K=K:=by rfl):QN K X (.Call (.Name "sorted" p) [e] [] pos) (tCB (ID K) (Bc te CD)) (Er mi):=
 ⟨Fz (Mu K hK) hg hm Ki (CV ha.p DP he) (by decide) (by decide) he rfl,Oo ha.r⟩
end
section
variable{ls:Ls}{hd:Hd}
open Classical in
@[simp] theorem Uh(k:Nat)(i:Int):Fh (.mu k) [.im (.int i)] hd=match hd[k]? with
 |some (.lst ds)=>if GV i then(ixN ds.length i).bind λj=>(ds[j]?).map λy=>(y,hd.set k (.lst (ds.eraseIdx j)))else none
 |_=>none:=rfl
open Classical in
@[simp] theorem PU(mi:MI):Er mi ls hd=(mi ls hd).bind λp=>(DN p.1.1).bind λps=>if ps.length<64/\∀q∈ps,pok q then some ((EK ps).map Ar,p.2)else none:=rfl
end
def Es(m:ME):MI:=λls hd=>match BF m ls hd with
 |some z=>some z
 |none=>BV m ls hd
def O5(K:Frag)(t:TE):TI:=λσ H R=>Ma K t σ H R∨JE K t σ H R
def ZF{K:Frag}{t:TE}{m:ME}(h:RE K t m):RIt K (O5 K t) (Es m):=by
 intro ρ σ H hd ls Q d g hd' hR hL hm hQ;unfold Es at hm;split at hm
 .next z e=>
  cases hm;exact .inl (Qj h ρ σ H hd ls Q d g hd' hR hL e hQ)
 .exact .inr (Nc h ρ σ H hd ls Q d g hd' hR hL hm hQ)
def Zv(K:Frag){X:Cx}{tg e:Expr}{t:TE}{m:ME}(h:QE K X e t m)(hK:X.K=K:=by rfl):QI K X tg e (O5 K t) (Es m):=
 ⟨λpins s σ H R I q=>q.elim (λq=>(Nr K h.p hK) pins s σ H R I q) λq=>(MH K h.p hK) pins s σ H R I q,ZF h.r⟩
section
variable{m:ME}{ls:Ls}{hd hd':Hd}
def YB{is:List I}(e:m ls hd=some (.im (.tup is),hd')):Es m ls hd=some ((is.map .im,[]),hd'):=by unfold Es;simp[e]
end
def DO(p:Int×Int):I:=.tup [.int p.1,.int p.2]
end L2
namespace L2
open PySem PySem.Spec PyProof.Rows
def WP{α:Type}(o:Option (α×Hd))(Q:α->Hd->Prop):Prop:=∃z h,o=some (z,h)/\Q z h
abbrev WS(m:MS)(ls:Ls)(hd:Hd)(Q:Fl->Hd->Prop):Prop:=WP (m ls hd) Q
abbrev WE(m:ME)(ls:Ls)(hd:Hd)(Q:D->Hd->Prop):Prop:=WP (m ls hd) Q
abbrev WT(m:MT)(ls:Ls)(hd:Hd)(Q:Bool->Hd->Prop):Prop:=WP (m ls hd) Q
abbrev WA(m:MA)(ls:Ls)(hd:Hd)(Q:List D->Hd->Prop):Prop:=WP (m ls hd) Q
abbrev WO(m:MO1)(ls:Ls)(hd:Hd)(Q:Option Int->Hd->Prop):Prop:=WP (m ls hd) Q
abbrev WI(m:MI)(ls:Ls)(hd:Hd)(Q:List D×Gd->Hd->Prop):Prop:=WP (m ls hd) Q
abbrev WF(F:List D->Hd->Option (D×Hd))(ds:List D)(hd:Hd)(Q:D->Hd->Prop):Prop:=WP (F ds hd) Q
section
variable{α β:Type}{o:Option (α×Hd)}{Q:α->Hd->Prop}{R:β->Hd->Prop}{ls:Ls}{hd:Hd}{d e:D}
theorem WP.some{z:α}{h:Hd}(q:Q z h):WP (some (z,h)) Q:=⟨z,h,rfl,q⟩
def WP.mono{Q':α->Hd->Prop}(h:WP o Q)(k:∀z h,Q z h->Q' z h):WP o Q':=let ⟨z,x,e,q⟩:=h;⟨z,x,e,k z x q⟩
theorem WP.bind{f:α×Hd->Option (β×Hd)}(h:WP o λz x=>WP (f (z,x)) R):WP (o.bind f) R:=by
 obtain⟨z,x,e,q⟩:=h;rw[e];exact q
def WP.eq{z:α}{h:Hd}(e:o=Option.some (z,h))(q:Q z h):WP o Q:=⟨z,h,e,q⟩
end
section
variable{ls:Ls}{hd:Hd}{a b:MS}{ma mb mc:ME}{ta tb:MT}{m m1 m2:MA}{n:MG}{ns:MGs}{mi:MI}{d e:D}{i j:Nat}{QS:Fl->Hd->Prop}{QE:D->Hd->Prop}{QT:Bool->Hd->Prop}{QA:List D->Hd->Prop}{QO:Option Int->Hd->Prop}{QI:List D×Gd->Hd->Prop}
def FA(b:MS)(Q:Fl->Hd->Prop):Fl->Hd->Prop
 |.nx l,h=>WS b l h Q
 |f,h=>Q f h
def AA(h:WS a ls hd (FA b QS)):WS (A8 a b) ls hd QS:=by
 obtain⟨f,x,e,q⟩:=h;show WP (A8 a b ls hd) QS;rw[JG,e];cases f<;>first|exact q|exact⟨_,_,rfl,q⟩
def A5{l:Ls}{h:Hd}(q:WS b l h QS):FA b QS (.nx l) h:=q
def Ft{h:Hd}(q:QS (.rt d) h):FA b QS (.rt d) h:=q
def AW(h:QS (.nx ls) hd):WS Aa ls hd QS:=⟨_,_,rfl,h⟩
def AI(h:WE ma ls hd λd x=>QS (.rt d) x):WS (AM ma) ls hd QS:=WP.bind (h.mono λ_ _ q=>WP.some q)
def AO(h:WE ma ls hd λd x=>QS (.nx (ls.set i (some d))) x):WS (AE i ma) ls hd QS:=by
 obtain⟨d,x,e,q⟩:=h;exact⟨_,_,by simp only[Gm,e,bind_some,Jt,iI],q⟩
def Ia(h:WE ma ls hd λd x=>∃l,n d ls x=some l/\QS (.nx l) x):WS (GA ma n) ls hd QS:=by
 obtain⟨d,x,e,l,e2,q⟩:=h;exact⟨_,_,by simp only[Gm,e,bind_some,e2,iI],q⟩
def Cs(h:WE ma ls hd λ_ x=>QS (.nx ls) x):WS (Aw ma) ls hd QS:=WP.bind (h.mono λ_ _ q=>WP.some q)
def cV(h:WT ta ls hd λc x=>if c=true then WS a ls x QS else WS b ls x QS):WS (Aj ta a b) ls hd QS:=by
 refine WP.bind (h.mono λc x q=>?_);dsimp only;cases c<;>simpa using q
def Af(h:WT ta ls hd λc x=>(c=true->WS a ls x QS)/\(c=false->WS b ls x QS)):WS (Aj ta a b) ls hd QS:=
 cV (h.mono λc x q=>by cases c<;>simp_all)
def Ee{ix:List Nat}(h:WA m ls hd λds x=>ds.length=ix.length/\QS (.nx ((ix.zip ds).foldl (λl q=>l.set q.1 (some q.2)) ls)) x):WS (CG ix m) ls hd QS:=by
 obtain⟨d,x,e,q,q2⟩:=h;exact⟨_,_,by simp only[br,e,bind_some,q,iE],q2⟩
def WL(n:MG)(b:MS)(g:Gd)(ds:List D)(ls:Ls)(hd:Hd)(Q:Fl->Hd->Prop):Prop:=WP (B1 n b g ds ls hd) Q
def BI(h:WI mi ls hd λp x=>WL n b p.2 p.1 ls x QS):WS (Ax mi n b) ls hd QS:=WP.bind (h.mono λ_ _ q=>q)
def Gz(g:Gd)(P:Ls->Hd->Prop)(Q:Fl->Hd->Prop):Fl->Hd->Prop
 |.nx l,h=>GOk h g/\P l h
 |.ct l,h=>GOk h g/\P l h
 |.bk l,h=>Q (.nx l) h
 |.rt d,h=>Q (.rt d) h
theorem B5{g:Gd}(P:List D->Ls->Hd->Prop):∀{ds:List D} {ls:Ls} {hd:Hd},P ds ls hd ->
 (∀d r ls hd,P (d::r) ls hd->∃ls1,n d ls hd=some ls1/\WS b ls1 hd (Gz g (P r) QS))->(∀ls hd,P [] ls hd->QS (.nx ls) hd)->WL n b g ds ls hd QS
 |[],ls,hd,h,_,z=>⟨_,_,by unfold B1;rfl,z _ _ h⟩
 |d::r,ls,hd,h,k,z=>by
  obtain⟨ls1,e1,f,x,e2,q⟩:=k d r ls hd h;unfold WL;unfold B1;rw[e1,bind_some,e2,bind_some];cases f with
  |nx l=>exact(show GOk x g/\P r l x from q).1 |> λg1=>by dsimp only;rw[i9 g1];exact B5 P q.2 k z
  |ct l=>exact(show GOk x g/\P r l x from q).1 |> λg1=>by dsimp only;rw[i9 g1];exact B5 P q.2 k z
  |bk l=>exact⟨_,_,rfl,q⟩
  |rt l=>exact⟨_,_,rfl,q⟩
def A2(h:ls[i]?=some (some d))(q:QE d hd):WE (A0 i) ls hd QE:=⟨d,hd,by rw[DX,h],q⟩
def AD{i:I}(q:QE (.im i) hd):WE (mC i) ls hd QE:=⟨_,_,rfl,q⟩
def A9{f:D->D->Hd->Option (D×Hd)}(h:WE ma ls hd λd x=>WE mb ls x λe y=>WP (f d e y) QE):WE (mOp f ma mb) ls hd QE:=WP.bind (h.mono λ_ _ q=>WP.bind (q.mono λ_ _ q=>q))
def cY(h:WT ta ls hd λc x=>if c=true then WE ma ls x QE else WE mb ls x QE):WE (mIf ta ma mb) ls hd QE:=by
 refine WP.bind (h.mono λc x q=>?_);dsimp only;cases c<;>simpa using q
def Yj(h:WT ta ls hd λc x=>(c=true->WE ma ls x QE)/\(c=false->WE mb ls x QE)):WE (mIf ta ma mb) ls hd QE:=
 cY (h.mono λc x q=>by cases c<;>simp_all)
def BJ(h:WA m ls hd λds x=>CC ds.length/\QE (AV ds) x):WE (Ae m) ls hd QE:=WP.bind (h.mono λds x q=>by dsimp only;rw[i9 q.1];exact WP.some q.2)
def B7(h:WA m ls hd λds x=>QE (.mu x.length) (x++[.lst ds])):WE (Ao m) ls hd QE:=WP.bind (h.mono λ_ _ q=>WP.some q)
def C8{g:List D->Option D}(h:WA m ls hd λds x=>∃d,g ds=some d/\QE d x):WE (BL g m) ls hd QE:=by
 obtain⟨ds,x,e,d,e2,q⟩:=h;exact⟨d,x,by simp only[S9,e,bind_some,e2,iI],q⟩
def LO(h:WA m ls hd λds x=>WE ma ls x λe y=>∃i d,e=.im (.int i)/\atI ds i=some d/\QE d y):WE (EB m ma) ls hd QE:=by
 obtain⟨ds,x,e,d,y,e2,i,z,rfl,e4,q⟩:=h;exact⟨z,y,by simp only[bw,e,bind_some,e2,e4,iI],q⟩
def Ce{f:List D->Hd->Option (D×Hd)}(h:WA m ls hd λds x=>WP (f ds x) QE):WE (mCB f m) ls hd QE:=WP.bind (h.mono λ_ _ q=>q)
def F9{f:D->List D->Hd->Option (D×Hd)}(h:WE ma ls hd λd x=>(∃l,Ay x d=some l)/\WA m ls x λds y=>WP (f d ds y) QE):WE (mMt f ma m) ls hd QE:=by
 obtain⟨d,x,e,⟨l,hl⟩,q⟩:=h;unfold WE;rw[PX,e,bind_some];dsimp only;rw[hl];exact WP.bind (q.mono λ_ _ q=>q)
def Hy{F:List D->Hd->Option (D×Hd)}(h:WA m ls hd λds x=>WF F ds x QE):WE (DT F m) ls hd QE:=WP.bind (h.mono λ_ _ q=>q)
def FV(h:WE ma ls hd λd x=>∃i,d=.im (.int i)/\QE (.im (.int (-i))) x):WE (Cw ma) ls hd QE:=by
 obtain⟨d,x,e,i,rfl,q⟩:=h;exact⟨_,x,by simp only[bu,e,bind_some],q⟩
def Bo(h:WT (AH ma) ls hd λc x=>if c=true then WE mb ls x QE else QE (.im (.bl false)) x):WE (DU ma mb) ls hd QE:=by
 refine WP.bind (h.mono λc x q=>?_);dsimp only;cases c
 .exact WP.some (by simpa using q)
 .simpa using q
def NM(h:WT (AH ma) ls hd λc x=>QE (.im (.bl (!c))) x):WE (HM ma) ls hd QE:=WP.bind (h.mono λ_ _ q=>WP.some q)
def AQ(h:WE ma ls hd λd x=>∃b,d=.im (.bl b)/\QT b x):WT (AH ma) ls hd QT:=by
 obtain⟨d,x,e,b,rfl,q⟩:=h;exact⟨b,x,by simp only[HU,e,bind_some],q⟩
def Az(h:WE ma ls hd λd x=>∃b,Cv x d=some b/\QT b x):WT (B9 ma) ls hd QT:=by
 obtain⟨d,x,e,b,e2,q⟩:=h;exact⟨b,x,by simp only[JF,e,bind_some,e2,iI],q⟩
def C3(h:WT ta ls hd λc x=>QT (!c) x):WT (CH ta) ls hd QT:=WP.bind (h.mono λ_ _ q=>WP.some q)
def D0(h:WT ta ls hd λc x=>if c=true then WT tb ls x QT else QT false x):WT (CI ta tb) ls hd QT:=by
 refine WP.bind (h.mono λc x q=>?_);dsimp only;cases c
 .exact WP.some (by simpa using q)
 .simpa using q
def Fq(h:WT ta ls hd λc x=>if c=true then QT true x else WT tb ls x QT):WT (mOr ta tb) ls hd QT:=by
 refine WP.bind (h.mono λc x q=>?_);dsimp only;cases c
 .simpa using q
 .exact WP.some (by simpa using q)
def B4(h:QT true hd):WT BM ls hd QT:=⟨_,_,rfl,h⟩
def A7(h:QA [] hd):WA A4 ls hd QA:=⟨_,_,rfl,h⟩
def A3(h:WE ma ls hd λd x=>WA m ls x λds y=>QA (d::ds) y):WA (A1 ma m) ls hd QA:=WP.bind (h.mono λ_ _ q=>WP.bind (q.mono λ_ _ q=>WP.some q))
def C9(h:WA m ls hd λds x=>CC ds.length/\QA ds x):WA (BA m) ls hd QA:=WP.bind (h.mono λds x q=>by dsimp only;rw[i9 q.1];exact WP.some q.2)
def Vy{k:Int}(e:m ls hd=some ([.im (.int k)],hd))(hk:LA k)(q:QA (AG 0 k.toNat) hd):WA (Gc m) ls hd QA:=⟨_,_,by simp only[bo,e,bind_some,hk,iE],q⟩
def F8(h:QO none hd):WO Ap ls hd QO:=⟨_,_,rfl,h⟩
def DG(h:WE ma ls hd λd x=>∃i,d=.im (.int i)/\QO (some i) x):WO (BN ma) ls hd QO:=by
 obtain⟨d,x,e,i,rfl,q⟩:=h;exact⟨_,x,by simp only[YM,e,bind_some],q⟩
def Cm(h:WA m ls hd λds x=>∃k,ds=[.im (.int k)]/\GV k/\QI (AG 0 k.toNat,[]) x):WI (Bh m) ls hd QI:=by
 obtain⟨ds,x,e,k,rfl,c,q⟩:=h;exact⟨_,x,by simp only[c9,e,bind_some,c,iE],q⟩
def cX(h:WA m ls hd λds x=>∃j k,ds=[.im (.int j),.im (.int k)]/\TM j k/\QI (AG j (k-j).toNat,[]) x):WI (VW m) ls hd QI:=by
 obtain⟨ds,x,e,j,k,rfl,c,q⟩:=h;exact⟨_,x,by simp only[YO,e,bind_some,c,iE],q⟩
def C0(h:WE ma ls hd λd x=>∃ds,AL d=some ds/\QI (ds,[]) x):WI (BF ma) ls hd QI:=by
 obtain⟨d,x,e,ds,e2,q⟩:=h;exact⟨_,x,by simp only[c8,e,bind_some,e2,iI],q⟩
def eD(h:WA m ls hd λds x=>QI (ds,[]) x):WI (bJ m) ls hd QI:=by
 obtain⟨ds,x,e,q⟩:=h;exact⟨_,x,by simp only[cA,e,iI],q⟩
def Ef(h:WE ma ls hd λd x=>∃k ds,d=.mu k/\x[k]?=some (.lst ds)/\QI (ds,[(k,ds)]) x):WI (BV ma) ls hd QI:=by
 obtain⟨d,x,e,k,ds,rfl,e2,q⟩:=h;exact⟨_,x,by simp only[Mi,e,bind_some,e2],q⟩
def Aq{k:Nat}{ix:List Nat}(h:WI mi ls hd λp x=>CC p.1.length/\WP (BD n ta ma p.2 p.1 (EW k ix ls) x) QA):WA (Ai k ix mi n ta ma) ls hd QA:=WP.bind (h.mono λp x q=>by dsimp only;rw[i9 q.1];exact q.2)
theorem LQ{g:Gd}(P:List D->List D->Ls->Hd->Prop):∀{ds es:List D} {ls:Ls} {hd:Hd},P ds es ls hd ->
 (∀d r es ls hd,P (d::r) es ls hd->∃ls1,n d ls hd=some ls1/\WT ta ls1 hd λc x=>if c=true then WE ma ls1 x λz y=>GOk y g/\P r (es++[z]) ls1 y else GOk x g/\P r es ls1 x) ->
 WP (BD n ta ma g ds ls hd) λzs x=>∃ls',P [] (es++zs) ls' x
 |[],es,ls,hd,h,k=>⟨_,_,by unfold BD;rfl,ls,by simpa using h⟩
 |d::r,es,ls,hd,h,k=>by
  obtain⟨ls1,e1,c,x,e2,q⟩:=k d r es ls hd h;unfold BD;rw[e1,bind_some,e2,bind_some];cases c with
  |true=>
   rw[i9 rfl]at q ⊢;obtain⟨z,y,e3,g3,p3⟩:=q;obtain⟨zs,y2,e4,ls',p4⟩:=LQ P p3 k;rw[e3,bind_some];dsimp only;rw[i9 g3,e4];exact⟨z::zs,y2,rfl,ls',by simpa using p4⟩
  |false=>
   rw[ic Bool.false_ne_true]at q ⊢;dsimp only;rw[i9 q.1];exact LQ P q.2 k
def C4{i j:Int}(q:QE (.im (.int (i+j))) hd):WP (AX (.im (.int i)) (.im (.int j)) hd) QE:=⟨_,_,by simp,q⟩
def Pw{i j:Int}(q:QE (.im (.int (i-j))) hd):WP (HP (.im (.int i)) (.im (.int j)) hd) QE:=⟨_,_,by simp,q⟩
def BP{i j:Int}(c:Cg i j)(q:QE (.im (.int (i*j))) hd):WP (As (.im (.int i)) (.im (.int j)) hd) QE:=⟨_,_,by simp[c],q⟩
def LL{i j:Int}(c:Bf j)(q:QE (.im (.int (i%j))) hd):WP (DF (.im (.int i)) (.im (.int j)) hd) QE:=⟨_,_,by simp[c],q⟩
def JP{i j:Int}(c:GE j)(q:QE (.im (.int (i/j))) hd):WP (EQ (.im (.int i)) (.im (.int j)) hd) QE:=⟨_,_,by simp[c],q⟩
def EI{i j:Int}(q:QE (.im (.bl (decide (i<j)))) hd):WP (gLt (.im (.int i)) (.im (.int j)) hd) QE:=⟨_,_,by simp,q⟩
def cW{i j:Int}(q:QE (.im (.bl (decide (i<=j)))) hd):WP (gLe (.im (.int i)) (.im (.int j)) hd) QE:=⟨_,_,by simp,q⟩
def Ic{i j:Int}(q:QE (.im (.bl (decide (j<i)))) hd):WP (gGt (.im (.int i)) (.im (.int j)) hd) QE:=⟨_,_,by simp,q⟩
def V1{i j:Int}(q:QE (.im (.bl (decide (j<=i)))) hd):WP (gGe (.im (.int i)) (.im (.int j)) hd) QE:=⟨_,_,by simp,q⟩
def FT{i j:Int}(q:QE (.im (.bl (decide (i=j)))) hd):WP (gEq (.im (.int i)) (.im (.int j)) hd) QE:=⟨_,_,by simp,q⟩
def Px{i j:Int}(q:QE (.im (.bl (!decide (i=j)))) hd):WP (gNe (.im (.int i)) (.im (.int j)) hd) QE:=⟨_,_,by simp,q⟩
def LN{i j:Str}(q:QE (.im (.bl (decide (i=j)))) hd):WP (gEq (.im (.str i)) (.im (.str j)) hd) QE:=⟨_,_,by simp,q⟩
def LK{i j:Str}(q:QE (.im (.bl (!decide (i=j)))) hd):WP (gNe (.im (.str i)) (.im (.str j)) hd) QE:=⟨_,_,by simp,q⟩
def AR{i:Int}{ds:List D}(e1:Ad hd d=some ds)(e2:atI ds i=some e)(q:QE e hd):WP (gIx d (.im (.int i)) hd) QE:=⟨_,_,by rw[dk,e1,bind_some,e2];rfl,q⟩
def Vr{i j:Int}(q:QE (.im (.int (max i j))) hd):WP (Vb [.im (.int i),.im (.int j)] hd) QE:=⟨_,_,rfl,by have:(if j>i then j else i)=max i j:=(by split<;>omega);rw[this];exact q⟩
def NJ{i j:Int}(q:QE (.im (.int (min i j))) hd):WP (HQ [.im (.int i),.im (.int j)] hd) QE:=⟨_,_,rfl,by have:(if j<i then j else i)=min i j:=(by split<;>omega);rw[this];exact q⟩
def F7{tp:Bool}{g:List D->Option D}{ds:List D}{z:D}(e1:(if tp then Ad hd d else Ay hd d)=some ds)(e2:g ds=some z)(q:QE z hd):WP (f1 tp g [d] hd) QE:=⟨_,_,by rw[dl,e1,bind_some,e2];rfl,q⟩
def D1{k:Nat}{x:D}{ds:List D}(e1:hd[k]?=some (.lst ds))(c:FK ds.length)(q:QE (.im .non) (hd.set k (.lst (ds++[x])))):WP (Ab (.mu k) [x] hd) QE:=⟨_,_,by rw[SA,e1];simp only[c,iE],q⟩
def Vp(h:WE mc ls hd λp x=>WE ma ls x λq y=>WE mb ls y λr z=>∃w i j ds,q=.mu w/\r=.im (.int i)/\z[w]?=some (.lst ds)/\ixN ds.length i=some j/\QS (.nx ls) (z.set w (.lst (ds.set j p)))):WS (EO ma mb mc) ls hd QS:=by
 obtain⟨p,x,e1,q,y,e2,r,z,e3,w,i,j,ds,rfl,rfl,e5,c,qq⟩:=h;exact⟨_,_,by simp only[YN,e1,bind_some,e2,e3,e5,c,iI],qq⟩
def Ak{k n:Nat}{m:MS}{ds:List D}{Q:D->Hd->Prop}(hl:ds.length=k)(h:WS m (ds.map some++List.replicate (n-k) none) hd λf x=>match f with
 |.rt d=>Q d x
 |.nx _=>Q (.im .non) x
 | _=>False):WF (mkF k n m) ds hd Q:=by
 obtain⟨f,x,e,q⟩:=h;unfold WF mkF;rw[i9 hl,e];cases f with
 |nx l=>exact⟨_,_,rfl,q⟩
 |rt l=>exact⟨_,_,rfl,q⟩
 |bk l=>exact q.elim
 |ct l=>exact q.elim
def AT{F:List D->Hd->Option (D×Hd)}(h:WA m ls hd λds x=>Au 0 ds=true/\WF F ds [] λd _=>∃i,d=.im i/\QE (.im i) x):WE (A6 0 F m) ls hd QE:=by
 obtain⟨ds,x,e,c,d,y,e2,i,rfl,q⟩:=h;exact⟨_,_,Kh e c e2,q⟩
end
structure Tap(T:Nat->MO->MO->Prop)(P:List D->Hd->Option (D×Hd)):Prop where
 cl:∀{k:Nat} {a b:MO},T k a b->clO 2 a=true/\clO 2 b=true
 le:∀{j k:Nat} {a b:MO},T k a b->j<=k->T j a b
 pick:∀{k:Nat} {a b:MO} {many:Int},T (k+1) a b->0<many->many<1073741824->∃r a' b',0<=r/\r<many/\P [.mu 1,.im (.int many)] [a,b]=some (.im (.int r),[a',b'])/\T k a' b'
section
variable{T:Nat->MO->MO->Prop}{P:List D->Hd->Option (D×Hd)}{a b:MO}{rest:Hd}{ls:Ls}{m:MA}{QE:D->Hd->Prop}{n c:Nat}
def Tap.draw(t:Tap T P)(hT:T (n+1) a b){many:Int}{hd:Hd}(e:m ls hd=some ([.mu 1,.im (.int many)],a::b::rest))(h0:0<many)(h1:many<1073741824)
 (k:∀r a' b',T n a' b'->0<=r->r<many->QE (.im (.int r)) (a'::b'::rest)):WE (A6 2 P m) ls hd QE:=by
 obtain⟨r,a',b',p1,p2,e2,hT'⟩:=t.pick hT h0 h1;refine⟨_,_,Mz (w:=2) (ds:=[.mu 1,.im (.int many)]) (pre:=[a,b]) (pre':=[a',b']) (rest:=rest) (g:=[]) rfl rfl e (by simp) ?_ ?_ (by simpa using e2),k r a' b' hT' p1 p2⟩
 .simp[t.cl hT]
 .simp[t.cl hT']
end
section
variable{K:Frag}{ρ ρ':List Addr}{H H':Hp}{hd hd':Hd}
def HA(w:Nat)(ls:Ls):Ls:=ls.map λo=>match o with
 |some d=>if clD w d=true then some d else none
 |none=>none
def Fs(w:Nat):Fl->Option Fl
 |.nx ls=>some (.nx (HA w ls))
 |.bk ls=>some (.bk (HA w ls))
 |.ct ls=>some (.ct (HA w ls))
 |.rt d=>if clD w d=true then some (.rt d)else none
def J8(w:Nat)(m:MS):MS:=λls hd=>if hd.length<=w then(m ls hd).bind λp=>if(p.2.take w).all (clO w)=true then(Fs w p.1).map λf=>(f,p.2.take w)else none else none
def RL.trim{ls:Ls}{σ:St}(h:RL K ρ H ls σ)(w:Nat):RL K (ρ.take w) H (HA w ls) σ:=by
 refine⟨by simp[HA,h.len],λi d e=>?_⟩;unfold HA at e;rw[List.getElem?_map]at e;cases q:ls[i]? with
 |none=>rw[q]at e;cases e
 |some o=>
  rw[q]at e;cases o with
  |none=>simp at e
  |some z=>
   simp only[iI,Option.some.injEq]at e;split at e
   .next c=>
    cases e;obtain⟨v,e1,e2⟩:=h.ob i _ q;exact⟨v,e1,e2.take w c⟩
   .cases e
def Ext.trim(x:Ext ρ H ρ' H'){w:Nat}(h:ρ.length<=w):Ext ρ H (ρ'.take w) H':=by
 obtain⟨r,rfl,fr⟩:=x.pre;refine⟨⟨r.take (w-ρ.length),?_,λb hb=>fr b (List.mem_of_mem_take hb)⟩,x.keep,x.tab⟩;rw[List.take_append,jg h]
def WM{t:TS}{m:MS}(w:Nat)(h:RS K t m):RS K t (J8 w m):=by
 intro ρ σ H hd ls E f hd' hR hL hm hQ;unfold J8 at hm;split at hm
 .next hw=>
  obtain⟨⟨f1,h1⟩,e1,hm⟩:=i6 hm;dsimp only at hm;split at hm
  .next c=>
   obtain⟨f2,e2,e3⟩:=i7 hm;cases e3;refine h ρ σ H hd ls E f1 h1 hR hL e1 λρ1 H1 x1 R1=>?_;have q:=hQ (ρ1.take w) H1 (x1.trim (by rw[hR.len];exact hw)) (R1.take w c);cases f1 with
   |nx l=>simp only[Fs,Option.some.injEq]at e2;subst e2;exact λσ' L=>q σ' (L.trim w)
   |bk l=>simp only[Fs,Option.some.injEq]at e2;subst e2;exact λσ' L=>q σ' (L.trim w)
   |ct l=>simp only[Fs,Option.some.injEq]at e2;subst e2;exact λσ' L=>q σ' (L.trim w)
   |rt d=>
    simp only[Fs]at e2;split at e2
    .next c2=>cases e2;exact λv r=>q v (r.take w c2)
    .cases e2
  .cases hm
 .cases hm
def Vn{w:Nat}{m:MS}{ls:Ls}{Q:Fl->Hd->Prop}(hw:hd.length<=w)(h:WS m ls hd λf x=>(x.take w).all (clO w)=true/\∃f',Fs w f=some f'/\Q f' (x.take w)):WS (J8 w m) ls hd Q:=by
 obtain⟨f,x,e,c,f',e2,q⟩:=h;exact⟨f',x.take w,by unfold J8;rw[i9 hw,e,bind_some];dsimp only;rw[i9 c,e2];rfl,q⟩
def Gb(m:MS):MS:=λls hd=>J8 hd.length m ls hd
def TK{t:TS}{m:MS}(h:RS K t m):RS K t (Gb m):=λρ σ H hd ls E f hd' hR hL hm hQ=>WM hd.length h ρ σ H hd ls E f hd' hR hL hm hQ
def Qz(K:Frag){X:Cx}{st:List Stmt}{t:TS}{m:MS}(h:QSs K X st t m):QSs K X st t (Gb m):=⟨h.p,TK h.r⟩
def Sj{m:MS}{ls:Ls}{Q:Fl->Hd->Prop}(h:WS m ls hd λf x=>(x.take hd.length).all (clO hd.length)=true/\∃f',Fs hd.length f=some f'/\Q f' (x.take hd.length)):WS (Gb m) ls hd Q:=Vn (ig _) h
def da:ME:=λ_ hd=>some (.mu hd.length,hd++[.dic []])
def Vx{ls:Ls}{Q:D->Hd->Prop}(q:Q (.mu hd.length) (hd++[.dic []])):WE da ls hd Q:=⟨_,_,rfl,q⟩
end
mutual
theorem Ms{v w:Nat}(h:v<=w):∀{d:D},clD v d=true->clD w d=true
 |.im i,_=>by simp
 |.mu n,c=>by simp at c ⊢;omega
 |.tm ds,c=>by rw[clD]at c ⊢;exact FL h c
 |.ro ns,_=>by rw[clD]
 |.op _ _ ds,c=>by rw[clD]at c ⊢;exact FL h c
theorem FL{v w:Nat}(h:v<=w):∀{ds:List D},Au v ds=true->Au w ds=true
 |[],_=>by simp
 |d::ds,c=>by
  simp only[SM,Bool.and_eq_true]at c ⊢;exact⟨Ms h c.1,FL h c.2⟩
end
theorem Kc{v w:Nat}(h:v<=w):∀{ds:List (Key×D)},GF v ds=true->GF w ds=true
 |[],_=>by simp[GF]
 |d::ds,c=>by
  simp only[GF,Bool.and_eq_true]at c ⊢;exact⟨Ms h c.1,Kc h c.2⟩
def Ut{v w:Nat}(h:v<=w){o:MO}(c:clO v o=true):clO w o=true:=by
 cases o with
 |lst ds=>exact FL h c
 |dic ds=>exact Kc h c
section
variable{T:Nat->MO->MO->Prop}{P:List D->Hd->Option (D×Hd)}{a b:MO}{rest:Hd}{ls:Ls}{m:MA}{QE:D->Hd->Prop}
def Tap.callX(t:Tap T P){n c:Nat}(hT:T (n+c) a b)(ex:Hd){w:Nat}{F:List D->Hd->Option (D×Hd)}{as:List D}{hd:Hd}{R:I->Prop}(e:m ls hd=some (.mu 1::as,a::b::(ex++rest)))(hw:w=ex.length+2)(ha:Au w as=true)(hx:ex.all (clO w)=true)
 (hF:∀a b,T (n+c) a b->WF F (.mu 1::as) (a::b::ex) λd x=>∃i a' b' g,d=.im i/\R i/\T n a' b'/\x=a'::b'::(ex++g))
 (k:∀i a' b',T n a' b'->R i->QE (.im i) (a'::b'::(ex++rest))):WE (A6 w F m) ls hd QE:=by
 subst hw;have hcl:∀o,clO 2 o=true->clO (ex.length+2) o=true:=λo h=>Ut (by omega) h;obtain⟨d,x,e2,i,a',b',g,rfl,hR,hT',rfl⟩:=hF a b hT;refine⟨_,_,Mz (w:=ex.length+2) (ds:=.mu 1::as) (pre:=a::b::ex) (pre':=a'::b'::ex) (rest:=rest) (g:=g) rfl rfl e (by simp[ha]) ?_ ?_ e2,k i a' b' hT' hR⟩
 .simp[hcl _ (t.cl hT).1,hcl _ (t.cl hT).2];simpa using hx
 .simp[hcl _ (t.cl hT').1,hcl _ (t.cl hT').2];simpa using hx
def Tap.call(t:Tap T P){n c:Nat}(hT:T (n+c) a b){F:List D->Hd->Option (D×Hd)}{as:List D}{hd:Hd}{R:I->Prop}(e:m ls hd=some (.mu 1::as,a::b::rest))(ha:Au 2 as=true)
 (hF:∀a b,T (n+c) a b->WF F (.mu 1::as) [a,b] λd x=>∃i a' b' g,d=.im i/\R i/\T n a' b'/\x=a'::b'::g)
 (k:∀i a' b',T n a' b'->R i->QE (.im i) (a'::b'::rest)):WE (A6 2 F m) ls hd QE:=
 t.callX hT [] (w:=2) e rfl ha rfl hF k
end
end L2
namespace L2
open PySem PySem.Spec PyProof.Rows
section
variable{ls:Ls}{hd:Hd}{b:MS}{c:MT}{Q:Fl->Hd->Prop}{QE:D->Hd->Prop}
def cf(P:Ls->Hd->Prop)(Q:Fl->Hd->Prop):Fl->Hd->Prop
 |.nx l,h=>P l h
 |.ct l,h=>P l h
 |.bk l,h=>Q (.nx l) h
 |.rt d,h=>Q (.rt d) h
def Hv(P:Nat->Ls->Hd->Prop){n:Nat}(h:P n ls hd)
 (k:∀n ls hd,P n ls hd->WT c ls hd λt x=>if t=true then WS b ls x (cf (λl y=>∃m,m<n/\P m l y) Q)else Q (.nx ls) x):WS (CQ c b) ls hd Q:=by
 have go:∀n ls hd,P n ls hd->∃j r,B6 c b j ls hd=some r/\Q r.1 r.2:=by
  intro n
  induction n using Nat.strongRecOn with
  |ind n ih=>
   intro ls hd h;obtain⟨t,x,e1,q⟩:=k n ls hd h;cases t with
   |false=>
    rw[ic Bool.false_ne_true]at q;exact⟨1,(.nx ls,x),by unfold B6;rw[e1];rfl,q⟩
   |true=>
    rw[i9 rfl]at q;obtain⟨f,y,e2,q⟩:=q;cases f with
    |nx l=>
     obtain⟨m,hm,p⟩:=q;obtain⟨j,r,e3,q3⟩:=ih m hm l y p;exact⟨j+1,r,by unfold B6;rw[e1,bind_some,i9 rfl,e2];exact e3,q3⟩
    |ct l=>
     obtain⟨m,hm,p⟩:=q;obtain⟨j,r,e3,q3⟩:=ih m hm l y p;exact⟨j+1,r,by unfold B6;rw[e1,bind_some,i9 rfl,e2];exact e3,q3⟩
    |bk l=>exact⟨1,(.nx l,y),by unfold B6;rw[e1,bind_some,i9 rfl,e2];rfl,q⟩
    |rt d=>exact⟨1,(.rt d,y),by unfold B6;rw[e1,bind_some,i9 rfl,e2];rfl,q⟩
 obtain⟨j,⟨f,x⟩,e,q⟩:=go n ls hd h;exact⟨f,x,KO e,q⟩
def Sk{k j:Nat}{i:Int}{ds:List D}{z:D}(e1:hd[k]?=some (.lst ds))(hr:GV i)(e2:ixN ds.length i=some j)(e3:ds[j]?=some z)(q:QE z (hd.set k (.lst (ds.eraseIdx j)))):WP (Fh (.mu k) [.im (.int i)] hd) QE:=⟨_,_,by rw[Uh,e1];simp[hr,e2,e3],q⟩
end
end L2
namespace Bd
open PySem L2
structure Tp where
 cells:List Int
 nx:Int
 lf:Int
 tn:Int
def Kz(t:Tp):List (Key×D):=[(.inr "cells",.mu 0),(.inr "next",.im (.int t.nx)),(.inr "left",.im (.int t.lf)),(.inr "turn",.im (.int t.tn))]
def tp(t:Tp):Hd:=[.lst (t.cells.map λi=>.im (.int i)),.dic (Kz t)]
@[simp] theorem fh(t:Tp):(tp t).length=2:=rfl
@[simp] theorem gy(t:Tp)(r:Hd):(tp t++r)[0]?=some (.lst (t.cells.map λi=>.im (.int i))):=rfl
@[simp] theorem gw(t:Tp)(r:Hd):(tp t++r)[1]?=some (.dic (Kz t)):=rfl
@[simp] theorem tp0(t:Tp):(tp t)[0]?=some (.lst (t.cells.map λi=>.im (.int i))):=rfl
@[simp] theorem tp1(t:Tp):(tp t)[1]?=some (.dic (Kz t)):=rfl
section
variable(t:Tp)(v:Int)
@[simp] theorem fk:(Kz t).length=4:=rfl
end
theorem DD:∀ns:List Int,I.pys (ns.map I.int)=ns.map PyData.int
 |[]=>by simp[I.pys]
 |n::ns=>by simp[I.pys,I.py,DD ns]
def Cu(ns:List Int):Ba (ns.map λi=>D.im (.int i))=some (ns.map I.int):=by
 have:(ns.map λi=>D.im (.int i))=(ns.map I.int).map D.im:=by rw[iF];rfl
 rw[this];exact SW _
def YR(ns:List Int):PyData.eqv (.list (ns.map PyData.int)) (.list [])=decide (ns=[]):=by
 cases ns<;>simp[PyData.eqv,PyData.eqvAll]
def UQ(ns:List Int):(PyData.list (ns.map PyData.int)).canLay0=true:=by simp[PyData.canLay0,Hs]
def Fj(ns:List Int)(hd:Hd)(neg:Bool):Jv neg (.list (ns.map PyData.int)) (.list []) hd=some (.im (.bl (if neg then !decide (ns=[])else decide (ns=[]))),hd):=by
 unfold Jv;rw[i9,YR];refine⟨UQ ns,by simp[PyData.canLay0,PyData.canLayAll0],?_⟩;have:(PyData.list []).depth<=1:=by simp[PyData.depth,PyData.depthAll]
 omega
def EN{x:Int}(m:Int)(h:0<m):0<=x%m/\x%m<m:=⟨Int.emod_nonneg _ (by omega),Int.emod_lt_of_pos _ h⟩
def cI(hd:Hd)(neg:Bool):Jv neg (.list []) (.list []) hd=some (.im (.bl (if neg then false else true)),hd):=by
 have:=Fj [] hd neg;simpa using this
def du{xs:List Int}(h:xs≠[])(n:Int):∃c,atI (xs.map λi=>D.im (.int i)) (n%(xs.length:Int))=some (.im (.int c)):=by
 have hl:0<xs.length:=HN h;obtain⟨a,b⟩:=EN (x:=n) (xs.length:Int) (by omega);obtain⟨k,hk⟩:=Int.eq_ofNat_of_zero_le a;have hk':k<xs.length:=by omega
 exact⟨xs[k],Cr hk (by simp[hk'])⟩
def po1:P0 10 18:=by unfold P0;decide
inductive Cost where
 |late (d:Int)|tardy (d w:Int)|miss (d w:Int)|ends (w:Int)|steps (rows:List (Int×Int))
def eG(r:Int×Int):I:=.tup [.int r.1,.int r.2]
def Ve:Cost->I
 |.late d=>.tup [.str "late",.int d]
 |.tardy d w=>.tup [.str "tardy",.int d,.int w]
 |.miss d w=>.tup [.str "miss",.int d,.int w]
 |.ends w=>.tup [.str "ends",.int w]
 |.steps rows=>.tup [.str "steps",.tup (rows.map eG)]
def NS(t:Int):List (Int×Int)->Int->Int
 |[],told=>told
 |(b,a)::r,told=>if t<b then told else NS t r a
def Cost.at:Cost->Int->Int
 |.late d,t=>t-d
 |.tardy d w,t=>if t-d<=0 then 0 else w*(t-d)
 |.miss d w,t=>if t-d<=0 then 0 else w
 |.ends w,t=>w*t
 |.steps rows,t=>NS t rows 0
def n1:¬ (("late":Str)="steps"):=by decide +kernel
def n2:¬ (("tardy":Str)="steps"):=by decide +kernel
def n3:¬ (("miss":Str)="steps"):=by decide +kernel
def n4:¬ (("ends":Str)="steps"):=by decide +kernel
def n7:¬ (("miss":Str)="ends"):=by decide +kernel
def n8:¬ (("tardy":Str)="late"):=by decide +kernel
def n10:¬ (("miss":Str)="tardy"):=by decide +kernel
def n12:¬ (("steps":Str)="late"):=by decide +kernel
@[simp high] theorem gv(t:Tp)(x:MO)(r:Hd):(tp t++(x::r))[2]?=some x:=rfl
@[simp high] theorem gu(t:Tp)(x y:MO)(r:Hd):(tp t++(x::y::r))[3]?=some y:=rfl
@[simp high] theorem gq(t:Tp)(x y z:MO)(r:Hd):(tp t++(x::y::z::r))[4]?=some z:=rfl
@[simp high] theorem gM(t:Tp)(x y:MO)(r:Hd):(tp t++(x::r)).set 2 y=tp t++(y::r):=rfl
@[simp high] theorem gL(t:Tp)(x y z:MO)(r:Hd):(tp t++(x::y::r)).set 3 z=tp t++(x::z::r):=rfl
def SL(w:Nat)(ns:List Int):Au w (ns.map λi=>D.im (.int i))=true:=by induction ns<;>simp_all [Au,clD]
structure Wk where
 len:Int
 com:Int
 cost:Cost
def Gw(w:Wk):I:=.tup [.int w.len,.int w.com,Ve w.cost]
abbrev Yh(ws:List Wk):I:=.tup (ws.map Gw)
abbrev AZ(ks:List Nat):I:=.tup (ks.map λk:Nat=>.int k)
def Up(ns:List Int)(lo hi:Option Int):∃cs:List Int,Br (ns.map λn=>.im (.int n)) lo hi=cs.map λn=>.im (.int n):=⟨(ns.drop _).take _,by unfold Br;rw[map_take,map_drop]⟩
abbrev AS(ks:List Nat):List D:=ks.map λk:Nat=>D.im (.int (k:Int))
def YA{n:Nat}{i:Int}(a:0<=i)(b:i<n):ixN n i=some i.toNat:=by unfold ixN;rw[i9 a,i9 b]
theorem J3:∀{a:List Nat} {k x:Nat},a[k]?=some x->(x::a.eraseIdx k).Perm a
 |[],k,x,h=>by simp at h
 |y::r,0,x,h=>by simp at h;subst h;exact .refl _
 |y::r,k+1,x,h=>by
  have ih:=J3 (a:=r) (k:=k) (x:=x) (by simpa using h);exact(List.Perm.swap y x _).trans (ih.cons y)
theorem KW{α β:Type}(f:α->β):∀(l:List α) (k:Nat),(l.map f).eraseIdx k=(l.eraseIdx k).map f
 |[],k=>rfl
 |y::r,0=>rfl
 |y::r,k+1=>by simp[KW f r k]
def RX{a b:List Nat}{k x:Nat}(h:a[k]?=some x):(b++[x]++a.eraseIdx k).Perm (b++a):=by
 rw[List.append_assoc];exact List.Perm.append_left b (J3 h)
def Uo(xs:List D)(k:Nat):Br xs none (some (k:Int))=xs.take k:=by
 unfold Br;rw[HT.sIx_none,HT.sIx_nat,Nat.sub_zero,List.drop_zero];by_cases h:k<=xs.length
 .rw[Nat.min_eq_left h]
 .rw[Nat.min_eq_right (by omega),List.take_length,jg (by omega)]
def Ix(n:Nat):AG 0 n=AS (List.range n):=by
 refine jj λi=>?_;by_cases h:i<n
 .rw[Iz h];simp[h]
 .rw[List.getElem?_eq_none (by simp;omega),List.getElem?_eq_none (by simp;omega)]
abbrev intD(xs:List Int):List D:=xs.map λx=>D.im (.int x)
abbrev Ei:MS:=(Aj (CI (AH (mOp gEq (A0 5) (A0 4))) (AH (mOp (gIn true) (A0 6) (A0 2))))
 (A8 (Aw (mMt Ab (A0 2) (A1 (A0 6) A4)))
 (Aw (mMt Ab (A0 3) (A1 (A0 6) A4))))
  Aa)
abbrev Mc:MS:=(A8 (AE 4 (mMt Ex (A0 3) A4))
 (Ax (Es (A0 0)) (Bb 2 (AU (AC 5) (AU (AC 6) Bg))) Ei))
@[reducible] def HR:MS:=(A8 (AE 2 (Ao (BA A4)))
 (A8 (AE 3 (Ao (BA (A1 (A0 1) A4))))
 (A8 (CQ (B9 (A0 3)) Mc)
 (AM (BL BR (CW (BV (A0 2))))))))
def F_reached:List D->Hd->Option (D×Hd):=mkF 2 7 HR
def S5(xs:List Int):Bq (intD xs)=some (xs.map V.int):=by
 induction xs with
 |nil=>rfl
 |cons x r ih=>simp[Bq,Dw]at ih ⊢;exact ih
def UT(x:Int)(xs:List Int):inV (.int x) (xs.map V.int)=decide (x∈xs):=by
 unfold inV
 induction xs with
 |nil=>simp
 |cons y r ih=>
  simp only[iD,any_cons,ih,ip];have:eqV (V.int y) (V.int x)=decide (x=y):=by
   unfold eqV;by_cases h:x=y
   .subst h;simp
   .have h':¬ y=x:=λz=>h z.symm;simp[h,h']
  rw[this,Bool.decide_or]
def in_ints{hd:Hd}{d:D}{xs:List Int}(x:Int)(neg:Bool)(h:Ad hd d=some (intD xs)):gIn neg (.im (.int x)) d hd=some (.im (.bl (if neg then !decide (x∈xs)else decide (x∈xs))),hd):=by
 simp only[gIn,Dw,bind_some,h,S5,iI,UT]
def g0(hd:Hd)(x y:MO):(hd++[x,y])[hd.length]?=some x:=by simp
def g1(hd:Hd)(x y:MO):(hd++[x,y])[hd.length+1]?=some y:=by simp
def t0(hd:Hd)(x y z:MO):(hd++[x,y]).set hd.length z=hd++[z,y]:=by simp
def t1(hd:Hd)(x y z:MO):(hd++[x,y]).set (hd.length+1) z=hd++[x,z]:=by simp
theorem GR(P:D)(hd:Hd)(g:Gd)(G:GOk hd g)(a at_:Int):∀(qs:List (Int×Int)) (found fresh:List Int) (z5 z6:Option D),found.length+qs.length<=1000->fresh.length+qs.length<=10000->∃(new:List Int) (y5 y6:Option D),
 B1 (Bb 2 (AU (AC 5) (AU (AC 6) Bg))) Ei g (qs.map Ar) [some P,some (.im (.int a)),some (.mu hd.length),some (.mu (hd.length+1)),some (.im (.int at_)),z5,z6] (hd++[.lst (intD found),.lst (intD fresh)]) =
  some (.nx [some P,some (.im (.int a)),some (.mu hd.length),some (.mu (hd.length+1)),some (.im (.int at_)),y5,y6],hd++[.lst (intD (found++new)),.lst (intD (fresh++new))])/\
 new.length<=qs.length/\new.Nodup/\(∀y∈new,y∉found/\(at_,y)∈qs)/\∀y,(at_,y)∈qs->y∈found++new
 |[],found,fresh,z5,z6,_,_=>⟨[],z5,z6,by simp[UM],by simp,.nil,λy h=>by simp at h,λy h=>by simp at h⟩
 |(u,v)::qs,found,fresh,z5,z6,hf,hr=>by
   simp only[iM]at hf hr;have gg:∀r:Hd,GOk (hd++r) g:=λr=>O7 G r;have nm:∀z5 z6:Option D,∀h:Hd,Bb 2 (AU (AC 5) (AU (AC 6) Bg)) (Ar (u,v)) [some P,some (.im (.int a)),some (.mu hd.length),some (.mu (hd.length+1)),some (.im (.int at_)),z5,z6] h=some [some P,some (.im (.int a)),some (.mu hd.length),some (.mu (hd.length+1)),some (.im (.int at_)),some (.im (.int u)),some (.im (.int v))]:=λz5 z6 h=>by simp[Ar]
   have sv:Ad (hd++[.lst (intD found),.lst (intD fresh)]) (.mu hd.length)=some (intD found):=by rw[cn,LG,g0]
   have gi:=in_ints v true sv;by_cases c:u=at_/\v∉found
   .obtain⟨new,y5,y6,q,l,nd,fr,al⟩:=GR P hd g G a at_ qs (found++[v]) (fresh++[v]) (some (.im (.int u))) (some (.im (.int v))) (by simp;omega) (by simp;omega);refine⟨v::new,y5,y6,?_,by simp;omega,?_,λy hy=>?_,λy hy=>?_⟩
    .have e1:found++v::new=found++[v]++new:=by simp
     have e2:fresh++v::new=fresh++[v]++new:=by simp
     rw[e1,e2,<- q,iD];have f1:FK found.length:=Bi (by omega);have f2:FK fresh.length:=Bi (by omega);refine KP (nm _ _ _) ?_ (gg _);simp only[Ei,Mj,Ml,HU,PV,DX,List.getElem?_cons_zero,List.getElem?_cons_succ,bind_some,Ju,Mk,c.1,decide_true,iE,Bool.false_eq_true,j9,gi,c.2,decide_false,Bool.not_false,JG,YQ,PX,LG,g0,g1,OB,Mh,SA,iu,f1,f2,t0,t1,j6,iD,iU]
    .refine nodup_cons.mpr ⟨λh=>(fr v h).1 (by simp),nd⟩
    .rcases mem_cons.mp hy with rfl|hy
     .exact⟨c.2,by rw[c.1];exact iR⟩
     .have:=fr y hy;exact⟨λh=>this.1 (by simp[h]),iK _ this.2⟩
    .rcases mem_cons.mp hy with h|h
     .cases h;simp
     .have:=al y h;simp at this ⊢;rcases this with h|h|h
      .exact .inl h
      .exact .inr (.inl h)
      .exact .inr (.inr h)
   .obtain⟨new,y5,y6,q,l,nd,fr,al⟩:=GR P hd g G a at_ qs found fresh (some (.im (.int u))) (some (.im (.int v))) (by omega) (by omega);refine⟨new,y5,y6,?_,by simp;omega,nd,λy hy=>⟨(fr y hy).1,iK _ (fr y hy).2⟩,λy hy=>?_⟩
    .rw[<- q,iD];refine KP (nm _ _ _) ?_ (gg _);by_cases c1:u=at_
     .have c2:v∈found:=Classical.not_not.mp λh=>c ⟨c1,h⟩;simp only[Ei,Mj,Ml,HU,PV,DX,List.getElem?_cons_zero,List.getElem?_cons_succ,bind_some,Ju,Mk,c1,decide_true,iE,Bool.false_eq_true,j9,gi,c2,Bool.not_true,OA]
     .simp only[Ei,Mj,Ml,HU,PV,DX,List.getElem?_cons_zero,List.getElem?_cons_succ,bind_some,Ju,Mk,c1,decide_false,iE,Bool.false_eq_true,j9,OA]
    .rcases mem_cons.mp hy with h|h
     .cases h;have c2:v∈found:=Classical.not_not.mp λh=>c ⟨rfl,h⟩;simp[c2]
     .exact al y h
end Bd
namespace L2
open PySem PySem.Spec PyProof.Rows
section
variable{ls:Ls}{hd:Hd}{QE:D->Hd->Prop}{QI:List D×Gd->Hd->Prop}{ma:ME}{n:MG}{ta:MT}{mi:MI}{m:MA}
def GO{d:D}{xs:List Int}{x:Int}{neg:Bool}(e1:Ad hd d=some (Bd.intD xs))(q:QE (.im (.bl (if neg then !decide (x∈xs)else decide (x∈xs)))) hd):WP (gIn neg (.im (.int x)) d hd) QE:=WP.eq (Bd.in_ints x neg e1) q
def OR{g:Gd}{QA:List D->Hd->Prop}(P:List D->List D->Ls->Hd->Prop){ds:List D}{ls:Ls}{hd:Hd}(h:P ds [] ls hd)
 (k:∀d r es ls hd,P (d::r) es ls hd->∃ls1,n d ls hd=some ls1/\WT ta ls1 hd λc x=>if c=true then WE ma ls1 x λz y=>GOk y g/\P r (es++[z]) ls1 y else GOk x g/\P r es ls1 x)
 (z:∀es ls hd,P [] es ls hd->QA es hd):WP (BD n ta ma g ds ls hd) QA:=
 (LQ P h k).mono λzs x ⟨ls',q⟩=>z zs ls' x (by simpa using q)
def BQ{α:Type}{g:Gd}{QA:List D->Hd->Prop}(inj:α->D)(f:α->Option D)(L:D->Ls->Prop)(l0:Ls){xs:List α}{hd:Hd}(hg:GOk hd g)
 (k:∀x∈xs,∀ls,ls=l0∨(∃d,L d ls)->∃ls1,n (inj x) ls hd=some ls1/\L (inj x) ls1/\WT ta ls1 hd λc y=>y=hd/\if c=true then ∃z,f x=some z/\WE ma ls1 hd λe y=>y=hd/\e=z else f x=none)
 (q:QA (xs.filterMap f) hd):WP (BD n ta ma g (xs.map inj) l0 hd) QA:=by
 have go:∀(xs':List α) (ls:Ls),(∀x∈xs',x∈xs)->(ls=l0∨∃d,L d ls)->BD n ta ma g (xs'.map inj) ls hd=some (xs'.filterMap f,hd):=by
  intro xs'
  induction xs' with
  |nil=>intro ls _ _;unfold BD;rfl
  |cons x r ih=>
   intro ls hs hl;obtain⟨ls1,e1,L1,c,y,e2,rfl,q⟩:=k x (hs x iR) ls hl;have ih:=ih ls1 (λz hz=>hs z (iK _ hz)) (.inr ⟨_,L1⟩);rw[iD];unfold BD;rw[e1,bind_some,e2,bind_some];cases c with
   |true=>
    rw[i9 rfl]at q;obtain⟨z,ez,e,y,e3,rfl,rfl⟩:=q;rw[i9 rfl,e3,bind_some];dsimp only;rw[i9 hg,ih,jb,ez];rfl
   |false=>
    rw[ic Bool.false_ne_true]at q;rw[ic Bool.false_ne_true];dsimp only;rw[i9 hg,ih,jb,q]
 exact⟨_,_,go xs l0 (λ_ h=>h) (.inl rfl),q⟩
end
section
variable{K:Frag}{ρ ρ':List Addr}{H H':Hp}{hd hd':Hd}
def Jm(neg:Bool)(ma:ME)(ml:MA):ME:=λls hd=>(ma ls hd).bind λp=>(ml ls p.2).bind λq=>match p.1 with
 |.im i=>(Dw i).bind λx=>(Bq q.1).map λxs=>(.im (.bl (if neg then !inV x xs else inV x xs)),q.2)
 |_=>none
def ZT{neg:Bool}{ta tb:TE}{ma:ME}{ml:MA}(ha:RE K ta ma)(hb:RN K tb ml):RE K (tOp (rIn K neg) ta tb) (Jm neg ma ml):=by
 and_intros;obtain⟨⟨d1,h1⟩,e1,hm⟩:=i6 hm;obtain⟨⟨d2,h2⟩,e2,hm⟩:=i6 hm;dsimp only at hm;split at hm
 .obtain⟨x,e3,hm⟩:=i6 hm;obtain⟨xs,e4,e5⟩:=i7 hm;cases e5;refine ha ρ σ H hd ls _ _ h1 hR hL e1 λρ1 H1 v1 x1 R1 r1=>?_;refine hb ρ1 σ H1 h1 ls _ d2 _ R1 (hL.ext hR x1) e2 λρ2 H2 a ys x2 R2 na oa ea r2=>?_;have r1:=r1.ext R1 x2;simp only[RD]at r1;obtain⟨rfl,f1⟩:=IR e3 r1;obtain⟨rfl,f2⟩:=Gj e4 r2;exact⟨a,ys,rfl,.inl (SqL.of ea),f1,f2,hQ ρ2 H2 _ (x1.trans R1 x2) R2 (by simp[RD,RI])⟩
 .cases hm
def XG(K:Frag){X:Cx}{a b:Expr}{ta tb:TE}{ma:ME}{ml:MA}{pos:Pos}{op:CmpOp}{neg:Bool}(ho:OpR X (compareOp op) (rIn K neg))(ha:QE K X a ta ma)(hb:QN K X b tb ml)(hm:behindInMarks op b=false:=by first|exact J4 _|rfl):QE K X (.Compare a [op] [b] pos) (tOp (rIn K neg) ta tb) (Jm neg ma ml):=⟨Nu ho ha.p hb.p hm,ZT ha.r hb.r⟩
end
section
variable{ls:Ls}{hd:Hd}{ma mb:ME}{m ml:MA}{QE:D->Hd->Prop}{QA:List D->Hd->Prop}
def Yi{neg:Bool}(h:WE ma ls hd λd x=>WA ml ls x λds y=>∃i v vs,d=.im i/\Dw i=some v/\Bq ds=some vs/\QE (.im (.bl (if neg then !inV v vs else inV v vs))) y):WE (Jm neg ma ml) ls hd QE:=by
 obtain⟨d,x,e1,ds,y,e2,i,v,vs,rfl,e3,e4,q⟩:=h;exact⟨_,_,by simp only[Jm,e1,bind_some,e2,e3,e4,iI],q⟩
end
section
variable{ls:Ls}{hd:Hd}{ma:ME}{n n2:MG}{c c2:MT}{mi mi2:MI}{QE:D->Hd->Prop}
theorem Gy{k:Nat}{g:Gd}{Q:Ls->Hd->Prop}(P:List D->Ls->Hd->Prop):∀{ds:List D} {ls:Ls} {hd:Hd},P ds ls hd ->
 (∀d r ls hd,P (d::r) ls hd->∃ls1,n2 d ls hd=some ls1/\WT c2 ls1 hd λt x=>if t=true then WE ma ls1 x λz y=>WP (Ab (.mu k) [z] y) λ_ u=>GOk u g/\P r ls1 u else GOk x g/\P r ls1 x) ->
 (∀ls hd,P [] ls hd->Q ls hd)->∃l h,mIn k n2 c2 ma g ds ls hd=some (l,h)/\Q l h
 |[],ls,hd,h,_,z=>⟨_,_,by unfold mIn;rfl,z _ _ h⟩
 |d::r,ls,hd,h,s,z=>by
  obtain⟨ls1,e1,t,x,e2,q⟩:=s d r ls hd h;unfold mIn;rw[e1,bind_some,e2,bind_some];cases t with
  |true=>
   rw[i9 rfl]at q ⊢;obtain⟨z',y,e3,w,u,e4,g4,p4⟩:=q;rw[e3,bind_some,e4,bind_some];dsimp only;rw[i9 g4];exact Gy P p4 s z
  |false=>
   rw[ic Bool.false_ne_true]at q ⊢;dsimp only;rw[i9 q.1];exact Gy P q.2 s z
theorem Gx{k:Nat}{g:Gd}{Q:Hd->Prop}(P:List D->Ls->Hd->Prop):∀{ds:List D} {ls:Ls} {hd:Hd},P ds ls hd ->
 (∀d r ls hd,P (d::r) ls hd->∃ls1,n d ls hd=some ls1/\WT c ls1 hd λt x=>if t=true then WI mi2 ls1 x λp y=>∃l h,mIn k n2 c2 ma p.2 p.1 ls1 y=some (l,h)/\GOk h g/\P r l h else GOk x g/\P r ls1 x) ->
 (∀ls hd,P [] ls hd->Q hd)->∃h,EA k n c mi2 n2 c2 ma g ds ls hd=some h/\Q h
 |[],ls,hd,h,_,z=>⟨_,by unfold EA;rfl,z _ _ h⟩
 |d::r,ls,hd,h,s,z=>by
  obtain⟨ls1,e1,t,x,e2,q⟩:=s d r ls hd h;unfold EA;rw[e1,bind_some,e2,bind_some];cases t with
  |true=>
   rw[i9 rfl]at q ⊢;obtain⟨p,y,e3,l,h,e4,g4,p4⟩:=q;rw[e3,bind_some];dsimp only;rw[e4,bind_some];dsimp only;rw[i9 g4];exact Gx P p4 s z
  |false=>
   rw[ic Bool.false_ne_true]at q ⊢;dsimp only;rw[i9 q.1];exact Gx P q.2 s z
def LP{j:Nat}{ix:List Nat}(h:WI mi ls hd λp x=>∃y,EA x.length n c mi2 n2 c2 ma p.2 p.1 (EW j ix ls) (x++[.lst []])=some y/\QE (.mu x.length) y):WE (Cp j ix mi n c mi2 n2 c2 ma) ls hd QE:=by
 obtain⟨p,x,e,y,e2,q⟩:=h;exact⟨_,_,by rw[Ui,e,bind_some];dsimp only;rw[e2];rfl,q⟩
end
abbrev blD(bs:List Bool):List D:=bs.map λb=>D.im (.bl b)
inductive Ty where
 |int|bool|str|tuple|list
 deriving DecidableEq
def Ty.nm:Ty->String
 |.int=>"int" | .bool=>"bool" | .str=>"str" | .tuple=>"tuple" | .list=>"list"
def IsT(K:Frag)(T:Ty)(H:Hp)(v:V)(b:Bool):Prop:=
 (v=.non/\b=false)∨(∃x,v=.bl x/\b=decide (T=.int∨T=.bool))∨(∃i,v=.int i/\b=decide (T=.int))∨(∃x,v=.str x/\b=decide (T=.str)) ∨
 (∃a xs,v=.ref a/\SqL K H a xs/\b=decide (T=.list))∨∃a xs,v=.ref a/\SqT K H a xs/\b=decide (T=.tuple)
section
variable{X:Cx}{pins:List (Addr×Obj)}{σ:St}{H:Hp}{s:Shared}{A:Around}{E:Value->Shared->Prop}{Q:Value->Shared->Prop}
def bW{T:Ty}{v:V}{u:Value}{b:Bool}(I:Inv X pins σ H s)(r:RelV v u)(h:IsT X.K T H v b)(q:∀tk,Q (.bool b) { s with toks:=tk }):wpAny (model X.prog X.w) A (call (.builtin "isinstance") [u,.type T.nm]) Q E s:=by
 have q0:=q s.toks;have q1:=q (s.toks+1);rcases h with⟨rfl,rfl⟩|⟨x,rfl,rfl⟩|⟨i,rfl,rfl⟩|⟨x,rfl,rfl⟩|⟨a,xs,rfl,hl,rfl⟩|⟨a,xs,rfl,ht,rfl⟩
 .cases(show u=Value.none from r);cases T
  .exact IsiPair.NoneType_int q1
  .exact IsiPair.NoneType_bool q1
  .exact IsiPair.NoneType_str q1
  .exact IsiPair.NoneType_tuple q1
  .exact IsiPair.NoneType_list q1
 .cases(show u=Value.bool x from r);cases T
  .first|exact IsiPair.bool_int q0|exact IsiPair.bool_int q1
  .first|exact IsiPair.bool_bool q0|exact IsiPair.bool_bool q1
  .exact IsiPair.bool_str q1
  .exact IsiPair.bool_tuple q1
  .exact IsiPair.bool_list q1
 .obtain⟨t,rfl⟩:=(show ∃t,u=Value.int i t from r)
  cases T
  .exact IsiPair.int_int q0
  .exact IsiPair.int_bool q1
  .exact IsiPair.int_str q1
  .exact IsiPair.int_tuple q1
  .exact IsiPair.int_list q1
 .obtain⟨t,rfl⟩:=(show ∃t,u=Value.str x t from r)
  cases T
  .exact IsiPair.str_int q1
  .exact IsiPair.str_bool q1
  .exact IsiPair.str_str q0
  .exact IsiPair.str_tuple q1
  .exact IsiPair.str_list q1
 .cases(show u=Value.ref a from r);obtain⟨its,_,⟨o,n,e,c,_,_⟩,_⟩:=I.list hl;cases T
  .exact IsiPair.list_int e c q1
  .exact IsiPair.list_bool e c q1
  .exact IsiPair.list_str e c q1
  .exact IsiPair.list_tuple e c q1
  .exact IsiPair.list_list e c q0
 .cases(show u=Value.ref a from r);obtain⟨its,_,⟨o,e,c,_⟩,_⟩:=I.tuple ht;cases T
  .exact IsiPair.tuple_int e c q1
  .exact IsiPair.tuple_bool e c q1
  .exact IsiPair.tuple_str e c q1
  .exact IsiPair.tuple_tuple e c q0
  .exact IsiPair.tuple_list e c q1
end
def T1(K:Frag)(T:Ty)(te:TE):TE:=λσ H Q=>te σ H λv H1=>∃b,IsT K T H1 v b/\Q (.bl b) H1
def ad(K:Frag){X:Cx}(T:Ty){e:Expr}{te:TE}{x:Str}{p px pos:Pos}(hm:X.mg "isinstance"=none)(hmT:X.mg x=none)(hvT:bootBuiltins x=some (.type T.nm))(he:PE X e te)
 (hv:bootBuiltins "isinstance"=some (.builtin "isinstance")) (hK:X.K=K) (hg:Gl X "isinstance") (hgT:Gl X x) (hnT:x≠"__name__") (hdT:(x==("__debug__":Str))=false)
 (hs:starEach [e,.Name x px] X.env=[(false,eval e X.env),(false,eval (.Name x px) X.env)]) (hs2:starEach [.Name x px] X.env=[(false,eval (.Name x px) X.env)]):PE X (.Call (.Name "isinstance" p) [e,.Name x px] [] pos) (T1 K T te):=by
 subst hK;intro pins s σ H Q I h;refine jo (Et I hg hm hv ?_);have go:wpAny (model X.prog X.w) X.A (spliced (backTo pos (starEach [e,.Name x px] X.env))) (λvs s₁=>wpAny (model X.prog X.w) X.A (call (.builtin "isinstance") vs) (EP X pins σ Q) X.xe s₁) X.xe s:=by
  rw[hs];show wpAny _ _ (spliced ((false,eval e X.env)::backTo pos [(false,eval (.Name x px) X.env)])) _ _ s;refine Calls.spliced_cons (thn (he pins s σ H _ I h) λu s1 ⟨v,H1,I1,r1,b,ib,q1⟩=>?_);show wpAny _ _ (spliced ((false,eval (.Name x px) X.env)::backTo pos [])) _ _ s1;refine Calls.spliced_cons (Et I1 hgT hmT hvT ?_ hnT hdT);refine Calls.spliced_nil ?_;exact bW I1 r1 ib λtk=>⟨.bl b,H1,I1.tok _,rfl,q1⟩
 exact PyProof.Rows.callWith_builtin1 go (by rw[hs,hs2]) (by rw[hs2];rfl)
section
variable{K:Frag}{ρ ρ':List Addr}{H H':Hp}{hd hd':Hd}
def isD(T:Ty)(hd:Hd):D->Option Bool
 |.im .non=>some false
 |.im (.bl _)=>some (decide (T=.int∨T=.bool))
 |.im (.int _)=>some (decide (T=.int))
 |.im (.str _)=>some (decide (T=.str))
 |.im (.tup _)=>some (decide (T=.tuple))
 |.tm _=>some (decide (T=.tuple))
 |.ro _=>some (decide (T=.list))
 |.op _ _ _=>none
 |.mu n=>match hd[n]? with
  |some (.lst _)=>some (decide (T=.list))
  |_=>none
def bX{T:Ty}{d:D}{v:V}{b:Bool}(hR:RH K ρ H hd)(h:RD K ρ H d v)(e:isD T hd d=some b):IsT K T H v b:=by
 cases d with
 |im i=>
  cases i with
  |non=>simp only[RD,RI]at h;subst h;simp only[isD,Option.some.injEq]at e;exact .inl ⟨rfl,e.symm⟩
  |bl c=>simp only[RD,RI]at h;subst h;simp only[isD,Option.some.injEq]at e;exact .inr (.inl ⟨c,rfl,e.symm⟩)
  |int c=>simp only[RD,RI]at h;subst h;simp only[isD,Option.some.injEq]at e;exact .inr (.inr (.inl ⟨c,rfl,e.symm⟩))
  |str c=>simp only[RD,RI]at h;subst h;simp only[isD,Option.some.injEq]at e;exact .inr (.inr (.inr (.inl ⟨c,rfl,e.symm⟩)))
  |tup is=>
   obtain⟨a,xs,rfl,q,r⟩:=h.tup (ds:=is.map .im) rfl;simp only[isD,Option.some.injEq]at e;exact .inr (.inr (.inr (.inr (.inr ⟨a,xs,rfl,q,e.symm⟩))))
 |tm ds=>
  obtain⟨a,xs,rfl,q,r⟩:=h.tup (ds:=ds) rfl;simp only[isD,Option.some.injEq]at e;exact .inr (.inr (.inr (.inr (.inr ⟨a,xs,rfl,q,e.symm⟩))))
 |ro ns=>
  obtain⟨a,xs,rfl,q,r⟩:=h.lst hR (hd:=hd) (ds:=ns.map λn=>.im (.int n)) rfl;simp only[isD,Option.some.injEq]at e;exact .inr (.inr (.inr (.inr (.inl ⟨a,xs,rfl,q,e.symm⟩))))
 |op _ _ _=>simp[isD]at e
 |mu n=>
  simp only[isD]at e;split at e
  .next q=>
   cases e;simp only[RD]at h;obtain⟨a,hn,rfl⟩:=h;obtain⟨xs,e1,e2⟩:=hR.lst hn q;exact .inr (.inr (.inr (.inr (.inl ⟨a,xs,rfl,SqL.of e1,rfl⟩))))
  .cases e
def Cc(T:Ty)(ma:ME):ME:=λls hd=>(ma ls hd).bind λp=>(isD T p.2 p.1).map λb=>(.im (.bl b),p.2)
def ZR{T:Ty}{te:TE}{me:ME}(h:RE K te me):RE K (T1 K T te) (Cc T me):=by
 and_intros;obtain⟨⟨d1,h1⟩,e1,hm⟩:=i6 hm;obtain⟨b,e2,e3⟩:=i7 hm;cases e3;exact h ρ σ H hd ls _ d1 _ hR hL e1 λρ1 H1 v x1 R1 r1=>⟨b,bX R1 r1 e2,hQ ρ1 H1 _ x1 R1 (by simp[RD,RI])⟩
def JL:∀T:Ty,bootBuiltins T.nm=some (.type T.nm)
 |.int=>by decide +kernel
 |.bool=>by decide +kernel
 |.str=>by decide +kernel
 |.tuple=>by decide +kernel
 |.list=>by decide +kernel
def MC(K:Frag){X:Cx}(T:Ty){e:Expr}{te:TE}{me:ME}{x:Str}{p px pos:Pos}(hm:X.mg "isinstance"=none)(hmT:X.mg x=none)(he:QE K X e te me)(hx:bootBuiltins x=some (.type T.nm):=by first|exact JL .int|exact JL .bool|exact JL .str|exact JL .tuple|exact JL .list)(hK:X.K=K:=by rfl)(hg:Gl X "isinstance":=by rfl)(hgT:Gl X x:=by rfl)
 (hnT:x≠"__name__":=by decide) (hdT:(x==("__debug__":Str))=false:=by decide)
 (hs:starEach [e,.Name x px] X.env=[(false,eval e X.env),(false,eval (.Name x px) X.env)]:=by rfl) (hs2:starEach [.Name x px] X.env=[(false,eval (.Name x px) X.env)]:=by rfl):QE K X (.Call (.Name "isinstance" p) [e,.Name x px] [] pos) (T1 K T te) (Cc T me):=
 ⟨ad K T hm hmT hx he.p Ky hK hg hgT hnT hdT hs hs2,ZR he.r⟩
def G7(mo mi me:ME)(f:Int->Int->Int):MS:=λls hd=>(mo ls hd).bind λp=>(mi ls p.2).bind λq=>match p.1,q.1 with
 |.mu n,.im (.int i)=>match q.2[n]? with
  |some (.lst ds)=>(ixN ds.length i).bind λj=>match ds[j]? with
   |some (.im (.int x))=>(me ls q.2).bind λr=>match r.1,r.2[n]? with
    |.im (.int y),some (.lst ds')=>if ds'.length=ds.length then some (.nx ls,r.2.set n (.lst (ds'.set j (.im (.int (f x y))))))else none
    |_,_=>none
   |_=>none
  |_=>none
 |_,_=>none
theorem RDs.ints:∀{ns:List Int} {xs:List V},RDs K ρ H (ns.map λx=>D.im (.int x)) xs->xs=ns.map V.int
 |[],xs,h=>by simpa only[RDs,iU]using h
 |n::ns,xs,h=>by
  simp only[iD,RDs,RD,RI]at h;obtain⟨x,r,rfl,rfl,t⟩:=h;rw[RDs.ints t];rfl
def RW(K:Frag){X:Cx}(hK:X.K=K:=by rfl):cQ X (Jd K):=by
 subst hK;intro pins s σ H o i ov iv Q I ro ri h;obtain⟨p,xs,k,z,rfl,rfl,hq,he,q⟩:=h;cases ro;obtain⟨t,rfl⟩:=ri;obtain⟨its,r,pl,hz⟩:=I.list hq;obtain⟨j,h1,h2,h3,h4,h5⟩:=K5 he;obtain⟨w,ew,rw'⟩:=r.get h2;have hl:=r.length;have hn:=Fd;have fin:EP X pins σ Q w s:=⟨z,H,I,rw',q⟩
 by_cases h0:0<=k
 .have hj:k.toNat=j:=by
   rw[seqIndex_of h0 h5]at h1;exact Option.some.inj h1
  exact wpAny_getItem_list pl.isList h0 (by omega) (by rw[hj];simpa using ew) fin
 .have hj:(k+(its.toArray.size:Int)).toNat=j:=by
   rw[seqIndex_neg (by omega) h4]at h1;rw[ik,<- hl];exact Option.some.inj h1
  exact wpAny_getItem_list_neg pl.isList (by omega) (by rw[ik]<;>omega) (by omega) (by rw[hj];simpa using ew) fin
def YK(x:Ext ρ H ρ' H'){n:Nat}{a:Addr}(h:ρ[n]?=some a):ρ'[n]?=some a:=by
 obtain⟨r,rfl,_⟩:=x.pre;rw[List.getElem?_append_left (List.getElem?_eq_some_iff.mp h).1];exact h
def WR{to ti te:TE}{mo mi me:ME}{f:Int->Int->Int}(ho:RE K to mo)(hi:RE K ti mi)(he:RE K te me):RS K (Of to ti te (Jd K) (ipI f) J0) (G7 mo mi me f):=by
 intro ρ σ H hd0 ls E fl hd' hR hL hm hQ;obtain⟨⟨d1,h1⟩,e1,hm⟩:=i6 hm;obtain⟨⟨d2,h2⟩,e2,hm⟩:=i6 hm;dsimp only at hm;split at hm
 .split at hm
  .next ds q=>
   obtain⟨j,e4,hm⟩:=i6 hm;split at hm
   .next x ex=>
    obtain⟨⟨d3,h3⟩,e3,hm⟩:=i6 hm;dsimp only at hm;split at hm
    .next y ds' q'=>
     split at hm
     .next el=>
      cases hm;refine ho ρ σ H hd0 ls _ _ h1 hR hL e1 λρ1 H1 v1 x1 R1 r1=>?_;refine hi ρ1 σ H1 h1 ls _ _ _ R1 (hL.ext hR x1) e2 λρ2 H2 v2 x2 R2 r2=>?_;have r1':=r1.ext R1 x2;simp only[RD]at r1';obtain⟨a,hn,rfl⟩:=r1';simp only[RD,RI]at r2;subst r2;obtain⟨xs,l1,l2⟩:=R2.lst hn q;obtain⟨w,ew,rw'⟩:=l2.get ex;simp only[RD,RI]at rw';subst rw';refine⟨a,xs,_,.int x,rfl,rfl,SqL.of l1,?_,?_⟩
      .unfold atI;rw[l2.len];rw[e4];exact ew
      refine he ρ2 σ H2 h2 ls _ _ h3 R2 (hL.ext hR (x1.trans R1 x2)) e3 λρ3 H3 v3 x3 R3 r3=>?_;simp only[RD,RI]at r3;subst r3;refine⟨x,y,rfl,rfl,?_⟩;have hn3:=YK x3 hn;obtain⟨xs3,l3,l4⟩:=R3.lst hn3 q';obtain⟨R4,x4⟩:=R3.put hn3 (o:=.lst _) (ho:=.lst (xs3.set j (.int (f x y)))) ⟨_,rfl,l4.set j (d:=.im (.int (f x y))) (by simp[RD,RI])⟩;have x13:=(x1.trans R1 x2).trans R2 x3;exact⟨a,xs3,_,j,rfl,rfl,l3,by rw[l4.len,el];exact e4,hQ ρ3 _ (x13.trans R3 x4) R4 σ ((hL.ext hR x13).ext R3 x4)⟩
     .cases hm
    .cases hm
   .cases hm
  .cases hm
 .cases hm
def Nj(K:Frag){X:Cx}{o i e:Expr}{to ti te:TE}{mo mi me:ME}{op:Operator}{f:Int->Int->Int}{tpos pos:Pos}(ho:QE K X o to mo)(hi:QE K X i ti mi)(he:QE K X e te me)(hp:PIp X op (ipI f))(hK:X.K=K:=by rfl)
 (ha:∀ov iv new,augStore i ov iv new=(do holding [new,ov,iv] (setItem ov iv new);release [new,ov,iv] [];pure .next):=by intros;rfl):QS K X (.AugAssign (.Subscript o i tpos) op e pos) (Of to ti te (Jd K) (ipI f) J0) (G7 mo mi me f):=
 ⟨XW ho.p hi.p (RW K hK) he.p hp Lh ha,WR ho.r hi.r he.r⟩
end
section
variable{ls:Ls}{hd:Hd}{ma mo mi me:ME}{QE:D->Hd->Prop}{QS:Fl->Hd->Prop}
def B8{T:Ty}(h:WE ma ls hd λd x=>∃b,isD T x d=some b/\QE (.im (.bl b)) x):WE (Cc T ma) ls hd QE:=by
 obtain⟨d,x,e,b,e2,q⟩:=h;exact⟨_,_,by simp only[Cc,e,bind_some,e2,iI],q⟩
end
def K3:bootBuiltins "enumerate"=some (.type "enumerate"):=by decide +kernel
section
variable{K:Frag}
def G8(ma:MI):MI:=λls hd=>(ma ls hd).map λp=>((p.1.1.zipIdx.map λq=>AV [.im (.int (q.2:Int)),q.1],p.1.2),p.2)
def NL{ma:MI}{ls:Ls}{hd:Hd}{QI:List D×Gd->Hd->Prop}(h:WI ma ls hd λp x=>QI (p.1.zipIdx.map λq=>AV [.im (.int (q.2:Int)),q.1],p.2) x):WI (G8 ma) ls hd QI:=by
 obtain⟨p,x,e,q⟩:=h;exact⟨_,_,by simp only[G8,e,iI],q⟩
end
end L2
namespace HT
open PySem PySem.Spec PyProof.Rows
section
variable{prog:Program}{w:World}{A:Around}{E:Value->Shared->Prop}{s:Shared}
def getItem_tuple_whole{t sl:Addr}{items:Array Value}{vl vu:Value}{lo hi:Option Int}{Q:Value->Shared->Prop}(ht:IsTup s.heap t items)(hs:s.heap.IsSliceOf sl vl vu .none)(pl:IsPart vl lo)(pu:IsPart vu hi)
 (hw:sIx items.size 0 lo=0/\sIx items.size items.size hi=items.size) (h:Q (.ref t) s):wpAny (model prog w) A (getItem (.ref t) (.ref sl)) Q E s:=by
 obtain⟨os,hos,hcs,hds⟩:=id hs;have hTs:s.TypeIs (.ref sl) "slice":=⟨os,hos,hcs⟩
 unfold getItem
 try with_reducible refine j0 ?_
 first|refine i8 (ie ?_)|skip
 refine i8 (wpAny_sequenceKey ht.typeIs (by decide) ?_);refine i8 (jC (name:=Str.ofString "__getitem__") ht.typeIs PyProof.Rows.slot_tuple_getitem
  (jq PyProof.Rows.slot_tuple_getitem ht.typeIs entry_tuple_getitem ?_ (args_tuple_getitem _ _)))
 show wpAny _ _ (Builtin.Tuple.tupleItemsOf (.ref t) >>= _) _ _ s;refine i8 (tupleItemsOf_ ht ?_);refine i8 (wpAny_typeOf hTs ?_);rw[i9 (by decide)];refine i8 (Eh hs pl pu ?_);have hno:(((sIx items.size 0 lo:Nat):Int)==0&&(1:Int)==1&&(sIx items.size items.size hi-sIx items.size 0 lo)==items.size)=true:=by
  rw[hw.1,hw.2];simp
 show wpAny _ _ (if(((sIx items.size 0 lo:Nat):Int)==0&&(1:Int)==1&&(sIx items.size items.size hi-sIx items.size 0 lo)==items.size)=true then _ else _) _ _ s;rw[i9 hno];refine i8 ?_;unfold Builtin.Tuple.tupleIsExact;refine i8 (wpAny_typeOf ht.typeIs (ie ?_));rw[i9 (by decide)];exact i8 (jA (ie ⟨_,rfl,ie h⟩))
end
end HT
namespace L2
open PySem PySem.Spec PyProof.Rows
section
variable{X:Cx}
def Ta(K:Frag):V->Option Int->Option Int->Hp->VK->Prop:=λx lo hi H Q=>ZZ K x lo hi H Q∨∃a xs,x=.ref a/\SqT K H a xs/\(HT.sIx xs.length 0 lo=0/\HT.sIx xs.length xs.length hi=xs.length)/\Q (.ref a) H
def W5(K:Frag)(hK:X.K=K:=by rfl):SlR X (Ta K):=by
 subst hK;intro pins s σ H x v vl vu lo hi sl Q I rx hs pl pu h;rcases h with h|⟨a,xs,rfl,hx,hw,q⟩
 .exact Yv pins s σ H x v vl vu lo hi sl Q I rx hs pl pu h
 cases rx;obtain⟨its,r,ht,hz⟩:=I.tuple hx;have hlen:its.toArray.size=xs.length:=by rw[ik];exact r.length.symm
 refine⟨"tuple",_,PyProof.Rows.slot_tuple_getitem.lookup,ht.typeIs,?_⟩;exact HT.getItem_tuple_whole ht hs pl pu (by rw[hlen];exact hw) ⟨.ref a,H,I,rfl,q⟩
end
section
variable{K:Frag}{ρ ρ':List Addr}{H H':Hp}{hd hd':Hd}
def Bm(m:ME)(ml mh:MO1):ME:=λls hd=>(m ls hd).bind λp=>(ml ls p.2).bind λl=>(mh ls l.2).bind λh=>(AL p.1).map λds=>(AV (Br ds l.1 h.1),h.2)
def ZM{t:TE}{tl th:TO}{m:ME}{ml mh:MO1}(h:RE K t m)(hl:RO1 K tl ml)(hh:RO1 K th mh):RE K (tSl (Ta K) t tl th) (Bm m ml mh):=by
 and_intros;obtain⟨⟨d1,h1⟩,e1,hm⟩:=i6 hm;obtain⟨⟨d2,h2⟩,e2,hm⟩:=i6 hm;obtain⟨⟨d3,h3⟩,e3,hm⟩:=i6 hm;obtain⟨ds,e4,e5⟩:=i7 hm;cases e5;dsimp only at e2 e3 e4;refine h ρ σ H hd ls _ d1 h1 hR hL e1 λρ1 H1 v1 x1 R1 r1=>?_;refine hl ρ1 σ H1 h1 ls _ d2 h2 R1 (hL.ext hR x1) e2 λρ2 H2 x2 R2=>?_;refine hh ρ2 σ H2 h2 ls _ d3 _ R2 (hL.ext hR (x1.trans R1 x2)) e3 λρ3 H3 x3 R3=>?_;obtain⟨a,xs,rfl,q,r⟩:=((r1.ext R1 x2).ext R2 x3).tup e4;by_cases c:HT.sIx ds.length 0 d2=0/\HT.sIx ds.length ds.length d3=ds.length
 .refine .inr ⟨a,xs,rfl,q,by rw[r.len];exact c,?_⟩;have e6:Br ds d2 d3=ds:=by unfold Br;rw[c.1,c.2];simp
  rw[e6]at hQ;exact hQ ρ3 _ _ ((x1.trans R1 x2).trans R2 x3) R3 (Bp q r)
 .refine .inl ⟨a,xs,rfl,q,by rw[r.len];exact c,λp hp=>?_⟩;obtain⟨R4,x4⟩:=R3.hid (ho:=.tup (FQ xs d2 d3)) hp;exact hQ ρ3 _ _ (((x1.trans R1 x2).trans R2 x3).trans R3 x4) R4 (Bp (SqT.of AJ) ((OH r).ext R3 x4))
def a7(K:Frag){X:Cx}{e:Expr}{te:TE}{me:ME}{lo hi:Option Expr}{tl th:TO}{ml mh:MO1}{p2 pos:Pos}(h:QE K X e te me)(hl:QO K X lo tl ml)(hh:QO K X hi th mh)(hK:X.K=K:=by rfl):QE K X (.Subscript e (.Slice lo hi none p2) pos) (tSl (Ta K) te tl th) (Bm me ml mh):=⟨MJ (W5 K hK) h.p hl.p hh.p,ZM h.r hl.r hh.r⟩
def FU{ma:ME}{ls:Ls}{QE:D->Hd->Prop}{ml mh:MO1}(h:WE ma ls hd λd x=>WO ml ls x λl y=>WO mh ls y λu z=>∃ds,AL d=some ds/\QE (AV (Br ds l u)) z):WE (Bm ma ml mh) ls hd QE:=by
 obtain⟨d,x,e1,l,y,e2,u,z,e3,ds,e4,q⟩:=h;exact⟨_,_,by simp only[Bm,e1,bind_some,e2,e3,e4,iI],q⟩
end
section
variable{X:Cx}
def YU{prog:Program}{w:World}{A:Around}{E:Value->Shared->Prop}{s:Shared}{t b:Addr}{vs ws:List Value}{Q:Value->Shared->Prop}(ht:IsTup s.heap t vs.toArray)(hb:IsTup s.heap b ws.toArray)(hv:vs=[])
 (h1:Q (.ref b) s):wpAny (model prog w) A (binaryOp .Add (.ref t) (.ref b)) Q E s:=by
 obtain⟨⟨cls,dd,data,sl⟩,ho,hc,n,hd⟩:=id ht;obtain⟨⟨cls2,dd2,data2,sl2⟩,ho2,hc2,n2,hd2⟩:=id hb;simp only at hc hd hc2 hd2;subst hc hd hc2 hd2;exact concat_meets ⟨_,ho,rfl⟩ ⟨_,ho2,rfl⟩ noFill_tuple_add seq_tuple_add PySem.F.slot_tuple_add PySem.F.entry_tuple_add (PySem.F.args_tuple_add_2 _ _)
  (tuple_addW0 t b vs.toArray ws.toArray n n2 dd dd2 sl sl2 (by simp[hv])) ⟨ho,ho2,h1⟩
def VI(K:Frag):R2:=λx y H Q=>∃a b ys,x=.ref a/\y=.ref b/\SqT K H a []/\SqT K H b ys/\Q (.ref b) H
def Xm(K:Frag)(hK:X.K=K:=by rfl):OpR X (binaryOp .Add) (VI K):=by
 subst hK;intro pins s σ H x y v u Q I rx ry h;obtain⟨a,b,ys,rfl,rfl,ha,hb,q⟩:=h;cases rx;cases ry;obtain⟨its,r1,p1,_⟩:=I.tuple ha;obtain⟨its2,r2,p2,_⟩:=I.tuple hb;have:its=[]:=by cases r1;rfl
 exact YU p1 p2 this ⟨.ref b,H,I,rfl,q⟩
def GC:D->D->Hd->Option (D×Hd):=λd e hd=>(AL d).bind λa=>(AL e).bind λb=>if a=[]then some (AV b,hd)else none
def Wn{K:Frag}:RB K (VI K) GC:=by
 intro ρ H hd d e v u Q z hd' hR h1 h2 hf hQ;unfold GC at hf;obtain⟨a,e1,hf⟩:=i6 hf;obtain⟨b,e2,hf⟩:=i6 hf;split at hf
 .next c=>
  cases hf;subst c;obtain⟨p,xs,rfl,q1,r1⟩:=h1.tup e1;obtain⟨p2,ys,rfl,q2,r2⟩:=h2.tup e2;have:xs=[]:=by simpa [RDs]using r1
  subst this;exact⟨p,p2,ys,rfl,rfl,q1,q2,hQ ρ H _ .refl hR (Bp q2 r2)⟩
 .cases hf
end
section
variable{X:Cx}
def Tz{i:Nat}{y:Str}{elt tg iter tg2 iter2:Expr}{ifs ifs2:List Expr}{scope:Scope}{pos spos py:Pos}{loc fr:List Str}{ix:List Nat}{wi wi2:TI}{g g2:TG}{tf tf2:TT}{te:TE}(hN:X.N.Nodup)(hiN:X.N[i]?=some y)(hy:X.env.scope.names.lookup y=some .local)
 (hc:X.calm=true) (S:CSc X scope fr ix) (hi:PI X tg iter wi)
 (hg:∀s H ex,PG (cCx X (loc++fr) scope s H ex) tg g) (hf:∀s H ex,PF (cCx X (loc++fr) scope s H ex) ifs tf) (hi2:∀s H ex,PI (cCx X (loc++fr) scope s H ex) tg2 iter2 wi2) (hg2:∀s H ex,PG (cCx X (loc++fr) scope s H ex) tg2 g2) (hf2:∀s H ex,PF (cCx X (loc++fr) scope s H ex) ifs2 tf2) (he:∀s H ex,PE (cCx X (loc++fr) scope s H ex) elt te)
 (hsw:swapsWith (LC2 elt tg iter ifs tg2 iter2 ifs2 scope pos) (some (.Name y py)) spos.line X.env=pure true) (hs:∀x,foldedSetIterable iter X.env x=pure x) (hs2:∀s H ex x,foldedSetIterable iter2 (cCx X (loc++fr) scope s H ex).env x=pure x):
 PS X (.Assign [.Name y py] (LC2 elt tg iter ifs tg2 iter2 ifs2 scope pos) spos) (DK (Eg loc.length ix wi g tf wi2 g2 tf2 te) (Ct i)):=by
 intro pins s σ H D I h;have hnames:∀y∈scope.names,y.2=.local->scope.names.lookup y.1=some .local:=λy hy e=>by
  have:=all_eq_true.mp S.loc y hy;rw[e]at this;simpa using this
 rw[exec_Assign_Name_used _ _ _ _ hsw];refine i8 (j3 (i8 ?_));show wpAny _ _ (do let _ <- comprehension (LC2 elt tg iter ifs tg2 iter2 ifs2 scope pos) scope X.env _ (newList []) false (eval iter X.env) (some (assign (.Name y py) X.env))) _ _ s;refine i8 (iw (jP (use:=some (assign (.Name y py) X.env)) (Q:=λ_ s'=>SP X pins D .next s') rfl hs (D6 (S.clos I.ok)) S.kind hnames
  (thn (hi pins s σ H _ I h) λv s1 h1=>thn h1 λitv s2 h2=>?_)) (λ_ s' hq=>ie (ie hq)) λ_ _ e=>e)
 obtain⟨it,fp,tn,J,H2,rfl,I2,T,st2,f2,hW⟩:=h2;refine Hr (RR:=λacc C=>compPost (model X.prog X.w) X.A X.xe (some (assign (.Name y py) X.env)) (λ_ s'=>SP X pins D .next s') acc C) hc S hg hf hi2 hg2 hf2 he hs2 I2 T st2 f2 hW λs3 s6 H5 σ5 L I3 I6 f3 q=>?_;have J6:Inv X pins σ H5 s6:=FS (h'':=s6.heap) I3 I6 f3 (.refl ..);obtain⟨m,hm,_⟩:=I6.loc;have hm:s6.heap.Ns s3.heap.objs.size m:=hm;have hL:s3.heap.objs.size≠X.env.locals:=Ne.symm (iq I3.lt);show wpAny _ _ (assign (.Name y py) X.env (.ref L)) _ _ s6;refine wpAny_assign_Name (GP (v:=.ref L) J6 hN hiN (.inl hy) rfl (λs7 I7 ⟨a,sb,ha⟩=>?_) (.inr hy));have hca:s3.heap.objs.size≠a:=by
  rcases ha with rfl|ha
  .exact hL
  .obtain⟨v,z⟩:=I3.cell y a ha;exact Ne.symm (iq z.lt)
 refine⟨m,hm.sameBut sb hca,λh' hs'=>?_⟩;refine⟨_,H5,I7.turned (t':=s7.toks) (it:=s3.heap.objs.size) (λb o hb e=>(hs'.2 b hb).trans e) I6.free hL (.inr I3.sz) (λx c e z=>?_) (λp hp z=>?_),q⟩
 .obtain⟨v,w⟩:=I3.cell x c e;exact absurd w.lt (by rw[z];exact iN _)
 .exact absurd (Heap.lt_size (I3.pin p hp).1) (by rw[z];exact iN _)
end
def Ti(K:Frag){X:Cx}{i:Nat}{y:Str}{elt tg iter tg2 iter2:Expr}{ifs ifs2:List Expr}{scope:Scope}{pos spos py:Pos}{loc fr:List Str}{ix:List Nat}{wi wi2:TI}{g g2:TG}{tf tf2:TT}{te:TE}{mi mi2:MI}{n n2:MG}{mf mf2:MT}{mm:ME}(hN:X.N.Nodup)(hiN:X.N[i]?=some y)(hy:X.env.scope.names.lookup y=some .local)(hc:X.calm=true)(S:CSc X scope fr ix)(hi:QI K X tg iter wi mi)
 (hg:∀s H ex,QG K (cCx X (loc++fr) scope s H ex) tg g n) (hf:∀s H ex,QF K (cCx X (loc++fr) scope s H ex) ifs tf mf) (hi2:∀s H ex,QI K (cCx X (loc++fr) scope s H ex) tg2 iter2 wi2 mi2) (hg2:∀s H ex,QG K (cCx X (loc++fr) scope s H ex) tg2 g2 n2) (hf2:∀s H ex,QF K (cCx X (loc++fr) scope s H ex) ifs2 tf2 mf2) (he:∀s H ex,QE K (cCx X (loc++fr) scope s H ex) elt te mm)
 (hsw:swapsWith (.ListComp elt [⟨tg,iter,ifs,0⟩,⟨tg2,iter2,ifs2,0⟩] scope pos) (some (.Name y py)) spos.line X.env=pure true:=by rfl) (hs:∀x,foldedSetIterable iter X.env x=pure x:=by intro _;rfl) (hs2:∀s H ex x,foldedSetIterable iter2 (cCx X (loc++fr) scope s H ex).env x=pure x:=by intro _ _ _ _;rfl):
 QS K X (.Assign [.Name y py] (.ListComp elt [⟨tg,iter,ifs,0⟩,⟨tg2,iter2,ifs2,0⟩] scope pos) spos) (DK (Eg loc.length ix wi g tf wi2 g2 tf2 te) (Ct i)) (AE i (Cp loc.length ix mi n mf mi2 n2 mf2 mm)):=
 ⟨Tz hN hiN hy hc S hi.p (λs H ex=>(hg s H ex).p) (λs H ex=>(hf s H ex).p) (λs H ex=>(hi2 s H ex).p) (λs H ex=>(hg2 s H ex).p) (λs H ex=>(hf2 s H ex).p) (λs H ex=>(he s H ex).p) hsw hs hs2,Iu (MD K (pos:=pos) hc S hi hg hf hi2 hg2 hf2 he hs hs2).r HE⟩
end L2
namespace L2
abbrev DW:=CJ AX GC
end L2
namespace HT
open PySem PyProof.Rows
open PySem.AutoSeq1 (wpAny_loadPart')
section
variable{prog:Program}{w:World}{A:Around}{E:Value->Shared->Prop}{s:Shared}
def drawsT(hh:A.handled=none)(it t:Addr)(hne:t≠it)(items:Array Value):
 Draws prog w A it [it,t] items.size (λi v=>items[i]?=some v) (λi h=>h.IsTupleIter it t i/\h.IsTuple t items) where
 live:=λ_ _ st=>let ⟨o,ho,_⟩:=st.1;⟨o,ho⟩
 frame:=λ_ _ _ st hk=>⟨let ⟨o,ho,r⟩:=st.1;⟨o,hk it (by simp) o ho,r⟩,let ⟨o,ho,r⟩:=st.2;⟨o,hk t (by simp) o ho,r⟩⟩
 item:=λi s Q E hi st hQ=>by
  refine L2.tup_next st.1 st.2 (x:=items[i]) (by simp[hi]) λh' hit' hs'=>?_;exact hQ _ h' s.toks (by simp[hi]) ⟨hit',st.2.extBut hs'.extBut hne⟩ hs'
 done:=λs Q E st hE=>L2.tup_stop hh st.1 st.2 (by simp) hE
end
def SC(l:Addr)(items:Array Value)(n:Nat)(dct:Option Addr)(sl:Array (Option Value)):
 Meets (Builtin.«enumerate.__new__» ⟨[.type "enumerate",.ref l],[]⟩) (λ_ R s=>s.heap.get? l=some { cls:=.type "tuple",dict:=dct,data:=.seq items n,slots:=sl } /\
  R (.ok (.ret (.ref (s.heap.push { cls:=.type "tuple_iterator",data:=.fields #[.ref l,.int 0 0] }).objs.size)))
   { s with heap:=(s.heap.push { cls:=.type "tuple_iterator",data:=.fields #[.ref l,.int 0 0] }).push { cls:=.type "enumerate",data:=.fields #[.none,.bool false,.ref s.heap.objs.size,rawInt 0,.none,.none] } }):=
 .of_wp λprog w A R s h=>by
  obtain⟨hp,g,d,tk,os⟩:=s;obtain⟨hl,h⟩:=h;have hsub:=sub_enumerate;have hL:Heap.IsTuple (Shared.heap ⟨hp,g,d,tk,os⟩) l items:=⟨_,hl,rfl,n,rfl⟩
  wp_walk using wpAny_loadPart' hl
  refine wpAny_stack_any λst=>ie ?_;split
  .rename_i c _ _ _ _ _
   cases(c==Value.type "enumerate")
   .wp_walk using wpAny_loadPart' hl,wpAny_pyIter_tuple hL
    exact⟨_,rfl,h⟩
   .wp_walk using wpAny_loadPart' hl,wpAny_pyIter_tuple hL
    exact⟨_,rfl,h⟩
  .wp_walk using wpAny_loadPart' hl,wpAny_pyIter_tuple hL
   exact⟨_,rfl,h⟩
def call_enumT{prog:Program}{w:World}{A:Around}{E:Value->Shared->Prop}{s:Shared}{l:Addr}{items:Array Value}{Q:Value->Shared->Prop}(hL:IsTup s.heap l items)
 (h:∀h',IsEnum h' (s.heap.objs.size+1) s.heap.objs.size 0 .none->h'.IsTupleIter s.heap.objs.size l 0->h'.objs.size=s.heap.objs.size+2 ->
  (∀b o,s.heap.get? b=some o->h'.get? b=some o)->Q (.ref (s.heap.objs.size+1)) { s with heap:=h' }):
 wpAny (model prog w) A (call (.type "enumerate") [.ref l]) Q E s:=by
 obtain⟨⟨c,dct,dt,sl⟩,hl,hc,n,hd⟩:=hL
 replace hc:c=.type "tuple":=hc
 replace hd:dt=.seq items n:=hd
 subst hc hd;refine callType_new F.called_enumerate (by decide) (F.typeCall_enumerate_1 _) (F.newCall_enumerate_1 _) (λobj=>F.args_object_init_2 obj _) F.entry_enumerate_new
  (SC l items n dct sl) ⟨hl,?_⟩
 have hz:(s.heap.push { cls:=.type "tuple_iterator",data:=.fields #[.ref l,.int 0 0] }).objs.size=s.heap.objs.size+1:=Heap.size_push ..;show _/\_;rw[hz];have he:IsEnum ((s.heap.push { cls:=.type "tuple_iterator",data:=.fields #[.ref l,.int 0 0] }).push
  { cls:=.type "enumerate",data:=.fields #[.none,.bool false,.ref s.heap.objs.size,rawInt 0,.none,.none] }) (s.heap.objs.size+1) s.heap.objs.size 0 .none:=by
  have:=Heap.get?_push_size (s.heap.push { cls:=.type "tuple_iterator",data:=.fields #[.ref l,.int 0 0] })
   (o:={ cls:=.type "enumerate",data:=.fields #[.none,.bool false,.ref s.heap.objs.size,rawInt 0,.none,.none] }) rfl
  rw[hz]at this;exact this
 refine⟨⟨_,he,rfl⟩,h _ he ⟨_,Heap.get?_push_of_some _ (Heap.get?_push_size _ rfl),rfl,rfl⟩ (by rw[Heap.size_push,hz]) λb o x=>Heap.get?_push_of_some _ (Heap.get?_push_of_some _ x)⟩
end HT
namespace L2
open PySem PySem.Spec PyProof.Rows
structure ETt(h:Heap)(e it l:Addr)(i:Nat):Prop where
 e:∃old,IsEnum h e it i old
 r:h.IsTupleIter it l i
def ItT(K:Frag)(a:Addr):It:=
 ⟨λi H=>∃xs x,SqT K H a xs/\xs[i]?=some x,
  λi H x H'=>∃p v,H p=none/\H'=upd H p (.tup [.int (i:Int),v])/\x=.ref p/\∀xs,SqT K H a xs->xs[i]?=some v,
  λi H=>∃xs,SqT K H a xs/\xs.length=i⟩
def OW{P:Program}{w:World}{K:Frag}{elts:List Expr}{kk:Nat}{tpos:Pos}{e it l:Addr}(ne:e≠it)(nl:l≠it)(nle:e≠l):Turn P w K (.Tuple elts kk tpos) (ItT K l) [e,it] e (λi h=>ETt h e it l i) where
 mem:=by simp
 obj:=λi h st c hc=>by
  obtain⟨⟨old,he⟩,hr⟩:=st;simp only[ip,iV,j4]at hc;rcases hc with rfl|rfl
  .exact⟨_,he,λv z=>by cases(show Data.fields _=Data.cell v from z)⟩
  .obtain⟨o,q,_,d⟩:=hr;exact⟨o,q,λv z=>by rw[d]at z;cases z⟩
 keep:=λi h h' st k=>by
  obtain⟨⟨old,he⟩,o,q,r⟩:=st;exact⟨⟨old,k e (by simp) _ he⟩,o,k it (by simp) _ q,r⟩
 item:=by
  intro X hP hw hK hc i pins s σ H E I hf st hg;subst hP hw hK;obtain⟨xs,x,h1,hx⟩:=hg;obtain⟨its,r,pl,hz⟩:=I.tuple h1;obtain⟨u,hu,ru⟩:=r.get hx;obtain⟨⟨old,he⟩,hr⟩:=st;have hlt:i<its.toArray.size:=by
   have:=(List.getElem?_eq_some_iff.mp hu).1;simpa using this
  have hd:X.A.in1.handled=none:=I.ok.hd hc;refine wpAny_pyNext_enum_itemD (HT.drawsT hd it l nl its.toArray) he ⟨hr,pl⟩ hlt ne (by simp;exact⟨ne,nle⟩) λx' g tk hx' ho hr' ht hsz kp=>⟨_,rfl,?_⟩
  have ex:x'=u:=by
   have hx':its.toArray[i]?=some x':=hx';rw[List.getElem?_toArray,hu]at hx';exact(Option.some.inj hx').symm
  subst ex;refine wpAny_letOwnedTupleGo_enum ho λg' e' sb=>?_;have hle:e<s.heap.objs.size:=Heap.lt_size he;have kp2:∀c o,c∉[e,it]->s.heap.get? c=some o->g'.get? c=some o:=λc o nc q=>by
   simp only[ip,iV,j4,not_or]at nc;exact sb.extBut _ _ nc.1 (kp c o nc.1 nc.2 q)
  have hT:s.heap.objs.size≠e:=iZ hle;have hpair:g'.get? s.heap.objs.size=some { cls:=.type "tuple",data:=.seq #[.int i tk,x'] }:=sb.extBut _ _ hT ht;have fresh:H s.heap.objs.size=none:=I.hok.fresh (ig _);have I2:Inv X pins σ (upd H s.heap.objs.size (.tup [.int (i:Int),x])) { s with heap:=g',toks:=tk+1 }:=I.turnsL (tk:=tk+1) (o:=.tup [.int (i:Int),x]) kp2 hf (ig _)
   (show ObjOk X.prog X.w _ g' _ (.tup [.int (i:Int),x])from⟨by show 2<=sizeLine;decide,[.int i tk,x'],.cons ⟨_,rfl⟩ (.cons ru .nil),⟨_,hpair,rfl,⟨_,rfl⟩,rfl⟩⟩)
  refine⟨.ref s.heap.objs.size,_,I2,rfl,⟨s.heap.objs.size,x,fresh,rfl,rfl,λxs' q=>by rw[I.tuple_inj q h1];exact hx⟩,⟨⟨x',?_⟩,?_⟩,λc hc=>?_⟩
  .have:=e';rw[show((i:Int)+1)=((i+1:Nat):Int) by omega]at this;exact this
  .exact hr'.1.extBut sb.extBut (Ne.symm ne)
  .have lt:c<s.heap.objs.size:=by
    simp only[ip,iV,j4]at hc;rcases hc with rfl|rfl
    .exact hle
    .obtain⟨o,q,_⟩:=hr;exact Heap.lt_size q
   rw[AF (iq lt)];exact(hf c hc).1
 done:=by
  intro X hP hw hK hc i pins s σ H E I hf st hg;subst hP hw hK;obtain⟨xs,h1,hend⟩:=hg;obtain⟨its,r,pl,hz⟩:=I.tuple h1;have l1':=r.length;obtain⟨⟨old,he⟩,hr⟩:=st;have hd:X.A.in1.handled=none:=I.ok.hd hc;have en:i=its.toArray.size:=by simp;omega
  subst en;refine wpAny_pyNext_enum_endD (HT.drawsT hd it l nl its.toArray) he ⟨hr,pl⟩ λg x=>⟨rfl,?_⟩
  exact I.turns (tk:=s.toks) (λc o nc q=>by
   simp only[ip,iV,j4,not_or]at nc;exact x c o nc.2 q) hf
 self:=λ_ _ _ _ _ st h=>by
  obtain⟨⟨old,he⟩,hr⟩:=st;exact wpAny_pyIter_enum he h
def Mb(K:Frag)(ta:TA):TI:=λσ H R=>ta σ H λvs H1=>∃a xs,vs=[.ref a]/\SqT K H1 a xs/\R (ItT K a) H1
def U6(K:Frag){X:Cx}{a:Expr}{ta:TA}{elts:List Expr}{kk:Nat}{tpos p pos:Pos}(hg:Gl X "enumerate")(hm:X.mg "enumerate"=none)(ha:PA X [a] ta)(hK:X.K=K:=by rfl)(hs:starEach [a] X.env=[(false,eval a X.env)]:=by rfl):
 PI X (.Tuple elts kk tpos) (.Call (.Name "enumerate" p) [a] [] pos) (Mb K ta):=by
 subst hK;intro pins s σ H R I h;refine Call_ (Et I hg hm K3 (PyProof.Rows.callWith_type1 (thn (ha pos pins s σ H _ I h) λus s1 ⟨vs,H1,I1,r1,q1⟩=>?_) hs rfl));obtain⟨l,xs,e,c,q⟩:=q1;subst e;obtain⟨u,rfl,ru⟩:=r1.one;cases ru;obtain⟨its,r,pl,hz⟩:=I1.tuple c;have ll:l<s1.heap.objs.size:=by obtain⟨o,ho,_⟩:=pl;exact Heap.lt_size ho
 refine HT.call_enumT pl λg he hr hsz kp=>wpAny_pyIter_enum he ?_;refine⟨_,_,_,_,H1,rfl,I1.kept (t':=s1.toks) kp,OW (iZ (Nat.lt_succ_self _)) (iq ll) (iZ (jm ll)),⟨⟨_,he⟩,hr⟩,λc hc=>?_,q⟩;simp only[ip,iV,j4]at hc;have le:s1.heap.objs.size<=c:=by
  rcases hc with rfl|rfl
  .exact jG _ _
  .exact ig _
 exact I1.fpOk le (I1.hok.fresh le)
def TU{K:Frag}{ta:TE}{ma:MI}(ha:RRw K true ta ma):RIt K (Mb K (Bc ta CD)) (G8 ma):=by
 intro ρ σ H hd ls Q d g hd' hR hL hm hQ;obtain⟨⟨⟨d1,g1⟩,h1⟩,e1,e2⟩:=i7 hm;cases e2;refine ha ρ σ H hd ls _ d1 g1 h1 hR hL e1 λρ1 H1 a x1 R1 G1 S1=>?_;obtain⟨xs,c1,r1⟩:=S1 ρ1 H1 _ .refl R1 G1;refine⟨a,xs,rfl,c1,hQ ρ1 H1 _ x1 R1 G1 ?_⟩;intro ρ3 H3 hd3 x3 R3 G3 i;obtain⟨xs,c1,r1⟩:=S1 ρ3 H3 _ x3 R3 G3;have l1:=r1.len;refine⟨λhi=>?_,λhi=>⟨xs,c1,?_⟩⟩
 .have hi:i<d1.length:=by simpa using hi
  have i1:d1[i]?=some (d1[i]'hi):=List.getElem?_eq_getElem _;obtain⟨x,x4,x5⟩:=r1.get i1;refine⟨⟨xs,x,c1,x4⟩,λz H4 hz=>?_⟩;obtain⟨p,v,fp,rfl,rfl,hv⟩:=hz;have ev:=hv xs c1;rw[x4]at ev;cases ev;obtain⟨R4,x6⟩:=R3.hid (ho:=.tup [.int (i:Int),x]) fp;refine⟨ρ3,AV [.im (.int (i:Int)),d1[i]'hi],x6,rfl,R4,?_,Bp (SqT.of AJ) (.cons (by simp[RD,RI]) (.cons (x5.ext R3 x6) .nil))⟩;simp[i1]
 .have hi:i=d1.length:=by simpa using hi
  omega
def Tm(K:Frag){X:Cx}{a:Expr}{ta:TE}{ma:MI}{elts:List Expr}{kk:Nat}{tpos p pos:Pos}(hm:X.mg "enumerate"=none)(ha:QR K true X a ta ma)(hg:Gl X "enumerate":=by rfl)(hK:X.K=K:=by rfl)(hs:starEach [a] X.env=[(false,eval a X.env)]:=by rfl):
 QI K X (.Tuple elts kk tpos) (.Call (.Name "enumerate" p) [a] [] pos) (Mb K (Bc ta CD)) (G8 ma):=⟨U6 K hg hm (CV ha.p DP hs) hK hs,TU ha.r⟩
end L2
namespace HS
open PySem PyProof.Rows
open PySem.AutoSeq1 (wpAny_loadPart')
open Sem (wp)
abbrev st(t:Tok):List (Str×Value):=[(Str.ofString "start",.int 1 t)]
end HS
namespace L2
open PySem PySem.Spec PyProof.Rows
theorem pick_all:∀L:List Value,(List.range L.length).filterMap (λi=>L[i]?)=L
 |[]=>rfl
 |x::r=>by
  rw[iM,List.range_succ_eq_map,jb];simp only[List.getElem?_cons_zero,List.filterMap_map]
  congr 1
  have:=pick_all r;simpa [Function.comp_def]using this
theorem LR:∀{xs:List V} {us:List Value},Vals xs us->Vals xs.reverse us.reverse
 |_,_,.nil=>.nil
 |_,_,.cons r t=>by
  rw[reverse_cons,reverse_cons];exact Vals.append (LR t) (.cons r .nil)
section
variable{K:Frag}{ρ:List Addr}{H:Hp}
theorem RDs.rev:∀{ds:List D} {xs:List V},RDs K ρ H ds xs->RDs K ρ H ds.reverse xs.reverse
 |[],xs,h=>by simp only[RDs]at h;subst h;simp[RDs]
 |d::ds,xs,h=>by
  simp only[RDs]at h;obtain⟨x,r,rfl,rx,h⟩:=h;rw[reverse_cons,reverse_cons];exact(RDs.rev h).app (.cons rx .nil)
variable{X:Cx}{e stp:Expr}{te ts:TE}{m:MA}{ms:ME}{pos p2:Pos}
end
def S4{M:Model}{A:Around}{E:Value->Shared->Prop}{s:Shared}{β:Type}{n:Nat}{b:β}{f:Nat->β->Sem (ForInStep β)}{Q:β->Shared->Prop}(h:wpAny M A (forIn (List.range' 0 n) b f) Q E s):wpAny M A (forIn ([:n]:Std.Legacy.Range) b f) Q E s:=by
 rw[Std.Legacy.Range.forIn_eq_forIn_range'];simpa only[Std.Legacy.Range.size,Nat.sub_zero,Nat.add_sub_cancel,Nat.div_one]using h
def Q9(a:Addr)(its:Array Value)(k:Nat)(dd:Option Addr)(sl:Array (Option Value))(x:Value)(e:Value->Bool)(j:Nat)(hj:j<its.size)(yes:e its[j]=true)(no:∀m (hm:m<its.size),m<j->e its[m]=false):
 Meets (Builtin.«tuple.index» ⟨[.ref a,x],[]⟩) (λA R s=>s.heap.get? a=some { cls:=.type "tuple",dict:=dd,data:=.seq its k,slots:=sl }/\(∀y,y∈its->PySem.SeqAt.EqAt A.in1 s y x (e y))/\R (.ok (.ret (.int j s.toks))) { s with toks:=s.toks+1 }):=
 .of_wp λprog w A R s0 hh=>by
  obtain⟨hp,gs,dr,tk,os⟩:=s0;obtain⟨h1,h2,h3⟩:=hh
  wp_walk using AutoSeq1.wpAny_loadPart' h1,S4
  rw[Nat.min_self];refine wpAny_forIn_list _ (λrest b s'=>b.1=none/\s'=⟨hp,gs,dr,tk,os⟩/\∃i,i<=j/\rest=List.range' i (its.size-i)) _ ?_ ?_ _ _ ⟨rfl,rfl,0,iT _,rfl⟩
  .rintro z rest b s' ⟨hb,rfl,i,hi,hr⟩;have lt:i<its.size:=by omega
   obtain⟨rfl,hr⟩:z=i/\rest=List.range' (i+1) (its.size-(i+1)):=by
    rw[show its.size-i=(its.size-(i+1))+1 by omega,List.range'_succ]at hr;exact List.cons.inj hr
   rw[Array.getElem?_eq_getElem lt];refine i8 (h2 _ (Array.getElem_mem lt) prog w _ _ ?_);by_cases q:z=j
   .subst q;rw[yes]
    wp_walk
    exact⟨_,rfl,h3⟩
   .rw[no z lt (by omega)]
    wp_walk
    exact⟨rfl,rfl,z+1,by omega,hr⟩
  .rintro⟨b1,b2⟩ s' ⟨hb,rfl,i,hi,hr⟩;rw[show its.size-i=(its.size-(i+1))+1 by omega,List.range'_succ]at hr;cases hr
def Nh(K:Frag):V->List V->Hp->VK->Prop:=λx vs H Q=>∃(a:Addr) (ns:List Int) (i:Int),x=.ref a/\vs=[.int i]/\SqT K H a (ns.map V.int)/\i∈ns/\Q (.int (ns.idxOf i:Nat)) H
theorem KT{i:Int}:∀(L:List Int) (m:Nat),m<L.idxOf i->L[m]?≠some i
 |[],m,h=>by simp at h
 |y::r,m,h=>by
  rw[List.idxOf_cons]at h;by_cases hy:y=i
  .simp[hy]at h
  .have hy':(y==i)=false:=by simpa using hy
   rw[hy']at h;cases m with
   |zero=>simpa using hy
   |succ m=>simpa using KT r m (by simpa using h)
def Ri{X:Cx}:MtM X "tuple.index" (Nh X.K):=by
 intro pins s σ H x vs v us Q I rx rv h;obtain⟨a,ns,i,rfl,rfl,hT,hi,q⟩:=h;cases rx;obtain⟨u,rfl,ru⟩:=rv.one;obtain⟨t,rfl⟩:=ru;obtain⟨its,r,⟨⟨cl,dd,dt,sl⟩,e,c,k,hd⟩,z⟩:=I.tuple hT;simp only at c hd;subst c hd;have li:its.length=ns.length:=by rw[<- r.length];simp
 have hj:ns.idxOf i<ns.length:=List.idxOf_lt_length_iff.mpr hi;have itsI:∀(m:Nat) (hm:m<its.toArray.size),∃t,its.toArray[m]=.int (ns.getD m 0) t:=by
  intro m hm;have hm':m<ns.length:=by simpa [li]using hm
  have e1:(ns.map V.int)[m]?=some (.int (ns.getD m 0)):=by simp[hm']
  obtain⟨w,hw,rw'⟩:=r.get e1;obtain⟨t,rfl⟩:=rw';exact⟨t,(List.getElem?_eq_some_iff.mp hw).2⟩
 refine call_meets F.slot_tuple_index ⟨_,e,rfl⟩ F.entry_tuple_index (F.args_tuple_index_2 _ _)
  (Q9 a its.toArray k dd sl (.int i t) (λy=>match y with|.int n _=>n==i|_=>false) (ns.idxOf i) (by rw[ik,li];exact hj) ?_ ?_) ⟨e,?_,?_⟩
 .obtain⟨t',e'⟩:=itsI (ns.idxOf i) (by rw[ik,li];exact hj);rw[e'];have:ns.getD (ns.idxOf i) 0=i:=by simp[hj]
  rw[this];exact beq_self_eq_true i
 .intro m hm hmk;obtain⟨t',e'⟩:=itsI m hm;rw[e'];have hm':m<ns.length:=by simpa [li]using hm
  have:=KT ns m hmk;have:ns.getD m 0≠i:=λz=>this (by rw[<- z];simp[hm']);simpa using this
 .intro y hy;obtain⟨m,hm,rfl⟩:=Array.mem_iff_getElem.mp hy;obtain⟨t',e'⟩:=itsI m hm;rw[e'];exact(PySem.MeetsSeq.EqGives.int _ _ _ _).at _ _
 .exact⟨.int (ns.idxOf i:Nat),H,I.tok _,⟨_,rfl⟩,q⟩
section
variable{K:Frag}
def T3(K:Frag)(r:V->List V->Hp->VK->Prop)(to:TE)(t:TA):TE:=λσ H Q=>to σ H λx H1=>(∃a xs,x=.ref a/\SqT K H1 a xs)/\t σ H1 λxs H2=>r x xs H2 Q
def af{X:Cx}{o e:Expr}{es:List Expr}{to:TE}{t:TA}{name:Str}{apos cpos:Pos}{id:String}{r:V->List V->Hp->VK->Prop}(slot:Slot "tuple" name id)(hty:typeOf (.builtin id)=pure (.type "method_descriptor"))(hm:MtM X id r)(ho:PE X o to)(ha:PA X (e::es) t)
 (hbase:attributeBase o name X.env (eval o X.env)=eval o X.env)
 (hfew:((backTo cpos (starEach (e::es) X.env)).all (λx=>!x.1)&&(backToKw cpos (keywordEach [] X.env)).all (λx=>x.1.isSome)&&decide ((e::es).length+([]:List Keyword).length+(if([]:List Keyword).isEmpty then 0 else 1)<30))=true)
 (hline:(apos.endLine==cpos.line)=true) (hs:starEach (e::es) X.env=(false,eval e X.env)::starEach es X.env) (hplain:(backTo cpos (starEach es X.env)).any (·.1)=false):
 PE X (.Call (.Attribute o name apos) (e::es) [] cpos) (T3 X.K r to t):=by
 intro pins s σ H Q I h;refine wpAny_Call_method_late hbase hfew hline rfl (thn (ho pins s σ H _ I h) λv s1 ⟨x,H1,I1,r1,⟨a,xs,ex,hT⟩,q1⟩=>?_);subst ex;cases r1;obtain⟨ob,e1,e2,e3⟩:=I1.tupleD hT;refine⟨"tuple",id,PySem.F.plainAttrs_tuple,slot,hty,⟨ob,e1,e2⟩,λb eb=>by cases eb;exact⟨ob,e1,e3⟩,?_⟩;have hA:=ha cpos pins s1 σ H1 _ I1 q1;rw[hs]at hA ⊢;refine Calls.callWith_builtin (by show(false||(backTo cpos (starEach es X.env)).any (·.1))=false;rw[hplain]<;>rfl) (Calls.evalArgs_plain ?_);exact thn hA λus s2 ⟨vs,H2,I2,r2,q2⟩=>hm pins s2 σ H2 (.ref a) vs (.ref a) us Q I2 rfl r2 q2
def IN(f:D->List D->Hd->Option (D×Hd))(mo:ME)(ma:MA):ME:=λls hd=>(mo ls hd).bind λp=>match AL p.1 with
 |some _=>(ma ls p.2).bind λq=>f p.1 q.1 q.2
 |none=>none
def ZO{r:V->List V->Hp->VK->Prop}{f:D->List D->Hd->Option (D×Hd)}{to:TE}{t:TA}{mo:ME}{ma:MA}(hr:RM K r f)(ho:RE K to mo)(ha:RA K t ma):RE K (T3 K r to t) (IN f mo ma):=by
 and_intros;obtain⟨⟨d1,h1⟩,e1,hm⟩:=i6 hm;dsimp only at hm;split at hm
 .next ds e=>
  obtain⟨⟨d2,h2⟩,e2,hm⟩:=i6 hm;refine ho ρ σ H hd ls _ d1 h1 hR hL e1 λρ1 H1 v x1 R1 r1=>⟨?_,?_⟩
  .obtain⟨a,xs,rfl,q,_⟩:=r1.tup e;exact⟨a,xs,rfl,q⟩
  .exact ha ρ1 σ H1 h1 ls _ d2 h2 R1 (hL.ext hR x1) e2 λρ2 H2 vs x2 R2 r2=>hr ρ2 H2 h2 d1 v d2 vs Q d hd' R2 (r1.ext R1 x2) r2 hm λρ' H' w x3 R3 r3=>hQ ρ' H' w ((x1.trans R1 x2).trans R2 x3) R3 r3
 .cases hm
open Classical in
def Fi:D->List D->Hd->Option (D×Hd):=λd ds hd=>(AL d).bind λes=>(B3 es).bind λns=>match ds with
 |[.im (.int i)]=>if i∈ns then some (.im (.int (ns.idxOf i:Nat)),hd)else none
 |_=>none
def Qh:RM K (Nh K) Fi:=by
 intro ρ H hd d v ds vs Q z hd' hR h1 h2 hf hQ;obtain⟨es,e1,hf⟩:=i6 hf;obtain⟨ns,e2,hf⟩:=i6 hf;split at hf
 .split at hf
  .next c=>
   cases hf;obtain⟨a,xs,rfl,q,r⟩:=h1.tup e1;rw[Eu e2]at r;have ex:=r.ints;subst ex;simp only[RDs,RD,RI]at h2;obtain⟨x,r2,rfl,rfl,rfl⟩:=h2;exact⟨a,ns,_,rfl,rfl,q,c,hQ ρ H _ .refl hR (by simp[RD,RI])⟩
  .cases hf
 .cases hf
def aD(K:Frag){X:Cx}{e:Expr}{es:List Expr}{t:TA}{m:MA}{id:String}{r:V->List V->Hp->VK->Prop}{f:D->List D->Hd->Option (D×Hd)}{name:Str}{apos cpos:Pos}{o:Expr}{to:TE}{mo:ME}(slot:Slot "tuple" name id)(hty:typeOf (.builtin id)=pure (.type "method_descriptor"))(hm:MtM X id r)(hr:RM K r f)(ho:QE K X o to mo)(ha:QA K X (e::es) t m)
 (hbase:attributeBase o name X.env (eval o X.env)=eval o X.env:=by rfl)
 (hfew:((backTo cpos (starEach (e::es) X.env)).all (λx=>!x.1)&&(backToKw cpos (keywordEach [] X.env)).all (λx=>x.1.isSome)
  && decide ((e::es).length+([]:List Keyword).length+(if([]:List Keyword).isEmpty then 0 else 1)<30))=true:=by rfl)
 (hline:(apos.endLine==cpos.line)=true:=by rfl) (hs:starEach (e::es) X.env=(false,eval e X.env)::starEach es X.env:=by rfl) (hplain:(backTo cpos (starEach es X.env)).any (·.1)=false:=by rfl) (hK:X.K=K:=by rfl):
 QE K X (.Call (.Attribute o name apos) (e::es) [] cpos) (T3 K r to t) (IN f mo m):=by
 subst hK;exact⟨af slot hty hm ho.p ha.p hbase hfew hline hs hplain,ZO hr ho.r ha.r⟩
end
def Q0{f:D->List D->Hd->Option (D×Hd)}{ma:ME}{m:MA}{ls:Ls}{hd:Hd}{QE:D->Hd->Prop}(h:WE ma ls hd λd x=>(∃l,AL d=some l)/\WA m ls x λds y=>WP (f d ds y) QE):WE (IN f ma m) ls hd QE:=by
 obtain⟨d,x,e,⟨l,e1⟩,ds,y,e2,z,y2,e3,q⟩:=h;exact⟨z,y2,by simp only[IN,e,bind_some,e1,e2,e3],q⟩
def K9{d:D}{es:List D}{ns:List Int}{i:Int}{hd:Hd}{QE:D->Hd->Prop}(e1:AL d=some es)(e2:B3 es=some ns)(c:i∈ns)(q:QE (.im (.int (ns.idxOf i:Nat))) hd):WP (Fi d [.im (.int i)] hd) QE:=by
 refine⟨_,_,?_,q⟩;show(AL d).bind _=_;rw[e1];simp[e2,c]
end L2
namespace HT
open PySem PySem.Spec PyProof.Rows
section
variable{prog:Program}{w:World}{A:Around}{E:Value->Shared->Prop}{s:Shared}
def Pi(n:Nat):Builtin.Slice.sliceAdjust none none (-1) (n:Int)=((n:Int)-1,-1):=by
 unfold Builtin.Slice.sliceAdjust;simp
def P1(n:Nat):Builtin.Slice.slicePlaces ((n:Int)-1) (-1) (-1)=n:=by
 unfold Builtin.Slice.slicePlaces;simp
 try omega
def Hz{sl:Addr}{n:Nat}{t:Tok}{Q:Int×Int×Nat->Shared->Prop}(hs:s.heap.IsSliceOf sl .none .none (.int (-1) t))(h:Q ((n:Int)-1,-1,n) s):wpAny (model prog w) A (Builtin.Slice.sliceApplied (.ref sl) (pure (n:Int))) Q E s:=by
 obtain⟨os,hos,hcs,hds⟩:=id hs;unfold Builtin.Slice.sliceApplied Builtin.Slice.sliceFields;refine i8 (i8 (iG hos hds (x:=.none) rfl (i8 (iG hos hds (x:=.none) rfl (i8 (iG hos hds (x:=.int (-1) t) rfl (ie ?_)))))));refine i8 (slicePart_int ?_);show wpAny _ _ (if((-1:Int)==0)=true then _ else _) _ _ s;rw[ic (by decide)];refine i8 (slicePart_none (i8 (slicePart_none (i8 (ie ?_)))));show wpAny _ _ (match Builtin.Slice.sliceAdjust none none (-1) (n:Int)with|(lo,hi)=>pure (lo,(-1:Int),Builtin.Slice.slicePlaces lo hi (-1))) _ _ s;rw[Pi n];show wpAny _ _ (pure ((n:Int)-1,(-1:Int),Builtin.Slice.slicePlaces ((n:Int)-1) (-1) (-1))) _ _ s;rw[P1];exact ie h
theorem Me{α β:Type}{f g:α->Option β}:∀{l:List α},(∀x∈l,f x=g x)->l.filterMap f=l.filterMap g
 |[],_=>rfl
 |x::l,h=>by rw[jb,jb,h x iR,Me λy hy=>h y (iK _ hy)]
def RU(xs:Array Value):((List.range xs.size).filterMap λ(m:Nat)=>xs[((xs.size:Int)-1+(m:Int)*(-1)).toNat]?).toArray=xs.toList.reverse.toArray:=by
 congr 1
 have e:(List.range xs.size).filterMap (λ(m:Nat)=>xs[((xs.size:Int)-1+(m:Int)*(-1)).toNat]?)=(List.range xs.toList.reverse.length).filterMap λi=>xs.toList.reverse[i]? := by
  rw[List.length_reverse,Array.length_toList];refine Me λm hm=>?_;have hm:m<xs.size:=by simpa using hm
  rw[List.getElem?_reverse (by simpa using hm)];simp only[Array.length_toList,Array.getElem?_toList]
  congr 1
  omega
 rw[e];exact L2.pick_all _
def getItem_tuple_rev{t sl:Addr}{items:Array Value}{k:Tok}{Q:Value->Shared->Prop}(ht:IsTup s.heap t items)(hs:s.heap.IsSliceOf sl .none .none (.int (-1) k))(h:Q (.ref s.heap.objs.size) { s with heap:=s.heap.push { cls:=.type "tuple",data:=.seq items.toList.reverse.toArray } })(hsz:items.size<=sizeLine):wpAny (model prog w) A (getItem (.ref t) (.ref sl)) Q E s:=by
 have hsize:sizeOk (.seq items.toList.reverse.toArray):=by
  show items.toList.reverse.toArray.size<=sizeLine;simpa using hsz
 obtain⟨os,hos,hcs,hds⟩:=id hs;have hTs:s.TypeIs (.ref sl) "slice":=⟨os,hos,hcs⟩
 unfold getItem
 try with_reducible refine j0 ?_
 first|refine i8 (ie ?_)|skip
 refine i8 (wpAny_sequenceKey ht.typeIs (by decide) ?_);refine i8 (jC (name:=Str.ofString "__getitem__") ht.typeIs PyProof.Rows.slot_tuple_getitem
  (jq PyProof.Rows.slot_tuple_getitem ht.typeIs entry_tuple_getitem ?_ (args_tuple_getitem _ _)))
 show wpAny _ _ (Builtin.Tuple.tupleItemsOf (.ref t) >>= _) _ _ s;refine i8 (tupleItemsOf_ ht ?_);refine i8 (wpAny_typeOf hTs ?_);rw[i9 (by decide)];refine i8 (Hz hs ?_);show wpAny _ _ (if((((items.size:Int)-1)==0&&(-1:Int)==1&&items.size==items.size)=true)then _ else _) _ _ s;rw[ic (by simp),RU]
 first
  |exact i8 (m:=Builtin.Tuple.tupleExact _) (iQ (ie ⟨_,rfl,ie h⟩) hsize)
  |exact i8 (m:=Builtin.Tuple.tupleExact _) (iQ (i8 (ie (ie ⟨_,rfl,ie h⟩))) hsize)
  |exact i8 (i8 (m:=Builtin.Tuple.tupleExact _) (iQ (ie (ie ⟨_,rfl,ie h⟩)) hsize))
  |exact i8 (i8 (m:=Builtin.Tuple.tupleExact _) (iQ (ie ⟨_,rfl,ie h⟩) hsize))
end
end HT
namespace L2
open PySem PySem.Spec PyProof.Rows
section
variable{X:Cx}{e stp:Expr}{te ts:TE}{pos p2:Pos}
def OZ(K:Frag)(te ts:TE):TE:=λσ H Q=>te σ H λx H1=>ts σ H1 λy H2=>y=.int (-1)/\∃a xs,x=.ref a/\SqT K H2 a xs/\∀p,H2 p=none->Q (.ref p) (upd H2 p (.tup xs.reverse))
def Xf(he:PE X e te)(hs:PE X stp ts):PE X (.Subscript e (.Slice none none (some stp) p2) pos) (OZ X.K te ts):=by
 intro pins s σ H Q I h;refine Subscript_ (thn (he pins s σ H _ I h) λv s1 ⟨x,H1,I1,r1,q1⟩=>?_);refine wpAny_Slice ?_;rw[evalPart_none];refine ie (ie ?_);rw[evalPart_some];refine thn (hs pins s1 σ H1 _ I1 q1) λvs s3 ⟨y,H3,I3,r3,q3⟩=>?_;obtain⟨rfl,a,xs,rfl,hx,q⟩:=q3;obtain⟨t,rfl⟩:=r3;cases r1;have I4:Inv X pins σ H3 { s3 with heap:=s3.heap.push { cls:=.type "slice",data:=.fields #[.none,.none,.int (-1) t] } }:=I3.kept (t':=s3.toks) λb ob q=>Heap.get?_push_of_some _ q;obtain⟨its,r,ht,hz⟩:=I4.tuple hx;have hlen:=r.length;have hg:wpAny (model X.prog X.w) X.A (getItem (.ref a) (.ref s3.heap.objs.size)) (EP X pins σ Q) X.xe { s3 with heap:=s3.heap.push { cls:=.type "slice",data:=.fields #[.none,.none,.int (-1) t] } }:=by
  refine HT.getItem_tuple_rev ht (Heap.IsSliceOf.new ..) ?_ (by rw[ik]<;>omega);refine⟨.ref _,_,I4.laid (t':=s3.toks) (o:=.tup xs.reverse) (λb ob q=>Heap.get?_push_of_some _ q) (ig _) ?_,rfl,q _ (I4.hok.fresh (ig _))⟩;exact⟨by rw[List.length_reverse];exact hz,its.reverse,LR r,IsTupD.new _ _⟩
 show wpAny (model X.prog X.w) X.A (subscriptTail e (.Slice none none (some stp) p2) (.ref a) (.ref s3.heap.objs.size)) (EP X pins σ Q) X.xe { s3 with heap:=s3.heap.push { cls:=.type "slice",data:=.fields #[.none,.none,.int (-1) t] } };exact tail_any (ops:=[.ref a,.ref s3.heap.objs.size]) ht.typeIs PyProof.Rows.slot_tuple_getitem.lookup hg (by with_unfolding_all rfl)
end
section
variable{K:Frag}{X:Cx}{e stp:Expr}{te ts:TE}{m ms:ME}{pos p2:Pos}
def FG(m ms:ME):ME:=λls hd=>(m ls hd).bind λp=>(ms ls p.2).bind λq=>match q.1 with
 |.im (.int i)=>if i=-1 then(AL p.1).map λds=>(AV ds.reverse,q.2)else none
 |_=>none
def Wf(h:RE K te m)(hs:RE K ts ms):RE K (OZ K te ts) (FG m ms):=by
 and_intros;obtain⟨⟨d1,h1⟩,e1,hm⟩:=i6 hm;obtain⟨⟨d2,h2⟩,e2,hm⟩:=i6 hm;dsimp only at e2 hm;split at hm
 .split at hm
  .next hi=>
   obtain⟨ds,e3,e4⟩:=i7 hm;cases e4;subst hi;refine h ρ σ H hd ls _ d1 h1 hR hL e1 λρ1 H1 v1 x1 R1 r1=>?_;refine hs ρ1 σ H1 h1 ls _ _ _ R1 (hL.ext hR x1) e2 λρ2 H2 v x2 R2 r2=>?_;simp only[RD,RI]at r2;obtain⟨a,xs,rfl,q,r⟩:=(r1.ext R1 x2).tup e3;refine⟨r2,a,xs,rfl,q,λp hp=>?_⟩;obtain⟨R3,x3⟩:=R2.hid (ho:=.tup xs.reverse) hp;exact hQ ρ2 _ _ ((x1.trans R1 x2).trans R2 x3) R3 (Bp (SqT.of AJ) ((RDs.rev r).ext R2 x3))
  .cases hm
 .cases hm
def XF(h:QE K X e te m)(hs:QE K X stp ts ms)(hK:X.K=K:=by rfl):QE K X (.Subscript e (.Slice none none (some stp) p2) pos) (OZ K te ts) (FG m ms):=by
 subst hK;exact⟨Xf h.p hs.p,Wf h.r hs.r⟩
def Vv{ls:Ls}{hd:Hd}{Q:D->Hd->Prop}(h:WE m ls hd λd x=>WE ms ls x λi y=>i=.im (.int (-1))/\∃ds,AL d=some ds/\Q (AV ds.reverse) y):WE (FG m ms) ls hd Q:=by
 obtain⟨d,x,e1,i,y,e2,rfl,ds,e3,q⟩:=h;exact⟨_,_,by simp only[FG,e1,e2,bind_some,iE,e3,iI],q⟩
end
end L2
namespace L2
open PySem PySem.W
def tg1:Expr->List Str
 |.Name x _=>[x]
 |_=>[]
def tg2:Expr->List Str
 |.Tuple es _ _=>es.flatMap tg1
 |e=>tg1 e
def tgN:Expr->List Str
 |.Tuple es _ _=>es.flatMap tg2
 |e=>tg1 e
def frN(X:Cx)(ix:List Nat):List Str:=ix.filterMap λi=>X.N[i]?
def ndB:List Str->Bool
 |[]=>true
 |x::xs=>!xs.elem x&&ndB xs
theorem Cn:∀{l:List Str},ndB l=true->l.Nodup
 |[],_=>List.nodup_nil
 |x::xs,h=>by
  obtain⟨h1,h2⟩:=Bool.and_eq_true_iff.mp h;refine nodup_cons.mpr ⟨λhm=>?_,Cn h2⟩;rw[List.elem_eq_true_of_mem hm]at h1;cases h1
section
variable{K:Frag}{X:Cx}{elt tg iter tg' iter' e:Expr}{ifs ifs':List Expr}{scope:Scope}{pos spos py:Pos}{ix:List Nat}{wi wi':TI}{g g':TG}{tf tf':TT}{te tk tv:TE}{mi mi':MI}{n n':MG}{mf mf':MT}{me mk mv:ME}{k i:Nat}{x y:Str}
def qgA(hN:ndB X.N=true:=by kernel_rfl)(hi:X.N[i]?=some x:=by rfl)(hx:Loc X.env.scope x:=by first|exact Or.inl rfl|exact Or.inr rfl)(hf:X.fn x=true∨X.env.scope.names.lookup x=some .local:=by first|exact .inl rfl|exact .inr rfl):QG K X (.Name x pos) (Ct i) (AC i):=XD K (Cn hN) hi hx hf
def qnA(hi:QI K X tg iter wi mi)(hg:∀s H ex,QG K (cCx X (tgN tg++frN X ix) scope s H ex) tg g n)(hf:∀s H ex,QF K (cCx X (tgN tg++frN X ix) scope s H ex) ifs tf mf)(he:∀s H ex,QE K (cCx X (tgN tg++frN X ix) scope s H ex) elt te me)
 (hc:X.calm=true:=by rfl) (S:CSc X scope (frN X ix) ix:=by exact⟨rfl,by decide +kernel,rfl,rfl,rfl,by decide +kernel⟩) (hs:∀x,foldedSetIterable iter X.env x=pure x:=by intro _;rfl) (hk:(tgN tg).length=k:=by rfl):
 QN K X (.ListComp elt [⟨tg,iter,ifs,0⟩] scope pos) (Fv k ix wi g tf te) (Ai k ix mi n mf me):=by
 subst hk;exact X8 K hc S hi hg hf he hs
def eN(hi:QI K X tg iter wi mi)(hg:∀s H ex,QG K (cCx X (tgN tg++frN X ix) scope s H ex) tg g n)(hf:∀s H ex,QF K (cCx X (tgN tg++frN X ix) scope s H ex) ifs tf mf)(he:∀s H ex,QE K (cCx X (tgN tg++frN X ix) scope s H ex) elt te me)
 (hsw:swapsWith (.ListComp elt [⟨tg,iter,ifs,0⟩] scope pos) (some (.Name y py)) spos.line X.env=pure true:=by rfl) (hN:ndB X.N=true:=by kernel_rfl) (hiN:X.N[i]?=some y:=by rfl) (hy:X.env.scope.names.lookup y=some .local:=by rfl)
 (hc:X.calm=true:=by rfl) (S:CSc X scope (frN X ix) ix:=by exact⟨rfl,by decide +kernel,rfl,rfl,rfl,by decide +kernel⟩) (hs:∀x,foldedSetIterable iter X.env x=pure x:=by intro _;rfl) (hk:(tgN tg).length=k:=by rfl):
 QS K X (.Assign [.Name y py] (.ListComp elt [⟨tg,iter,ifs,0⟩] scope pos) spos) (DK (Fv k ix wi g tf te) (Ct i)) (AE i (Ao (Ai k ix mi n mf me))):=by
 subst hk;exact Wx K (Cn hN) hiN hy hc S hi hg hf he hsw hs
def eO(hi:QI K X tg iter wi mi)(hg:∀s H ex,QG K (cCx X ((tgN tg++tgN tg')++frN X ix) scope s H ex) tg g n)(hf:∀s H ex,QF K (cCx X ((tgN tg++tgN tg')++frN X ix) scope s H ex) ifs tf mf)(hi2:∀s H ex,QI K (cCx X ((tgN tg++tgN tg')++frN X ix) scope s H ex) tg' iter' wi' mi')(hg2:∀s H ex,QG K (cCx X ((tgN tg++tgN tg')++frN X ix) scope s H ex) tg' g' n')(hf2:∀s H ex,QF K (cCx X ((tgN tg++tgN tg')++frN X ix) scope s H ex) ifs' tf' mf')(he:∀s H ex,QE K (cCx X ((tgN tg++tgN tg')++frN X ix) scope s H ex) elt te me)
 (hc:X.calm=true:=by rfl) (S:CSc X scope (frN X ix) ix:=by exact⟨rfl,by decide +kernel,rfl,rfl,rfl,by decide +kernel⟩) (hs:∀x,foldedSetIterable iter X.env x=pure x:=by intro _;rfl) (hs2:∀s H ex x,foldedSetIterable iter' (cCx X ((tgN tg++tgN tg')++frN X ix) scope s H ex).env x=pure x:=by intro _ _ _ _;rfl) (hk:(tgN tg++tgN tg').length=k:=by rfl):
 QE K X (.ListComp elt [⟨tg,iter,ifs,0⟩,⟨tg',iter',ifs',0⟩] scope pos) (Eg k ix wi g tf wi' g' tf' te) (Cp k ix mi n mf mi' n' mf' me):=by
 subst hk;exact MD K hc S hi hg hf hi2 hg2 hf2 he hs hs2
def d9(hi:QI K X tg iter wi mi)(hg:∀s H ex,QG K (cCx X ((tgN tg++tgN tg')++frN X ix) scope s H ex) tg g n)(hf:∀s H ex,QF K (cCx X ((tgN tg++tgN tg')++frN X ix) scope s H ex) ifs tf mf)(hi2:∀s H ex,QI K (cCx X ((tgN tg++tgN tg')++frN X ix) scope s H ex) tg' iter' wi' mi')(hg2:∀s H ex,QG K (cCx X ((tgN tg++tgN tg')++frN X ix) scope s H ex) tg' g' n')(hf2:∀s H ex,QF K (cCx X ((tgN tg++tgN tg')++frN X ix) scope s H ex) ifs' tf' mf')(he:∀s H ex,QE K (cCx X ((tgN tg++tgN tg')++frN X ix) scope s H ex) elt te me)
 (hsw:swapsWith (.ListComp elt [⟨tg,iter,ifs,0⟩,⟨tg',iter',ifs',0⟩] scope pos) (some (.Name y py)) spos.line X.env=pure true:=by rfl) (hN:ndB X.N=true:=by kernel_rfl) (hiN:X.N[i]?=some y:=by rfl) (hy:X.env.scope.names.lookup y=some .local:=by rfl)
 (hc:X.calm=true:=by rfl) (S:CSc X scope (frN X ix) ix:=by exact⟨rfl,by decide +kernel,rfl,rfl,rfl,by decide +kernel⟩) (hs:∀x,foldedSetIterable iter X.env x=pure x:=by intro _;rfl) (hs2:∀s H ex x,foldedSetIterable iter' (cCx X ((tgN tg++tgN tg')++frN X ix) scope s H ex).env x=pure x:=by intro _ _ _ _;rfl) (hk:(tgN tg++tgN tg').length=k:=by rfl):
 QS K X (.Assign [.Name y py] (.ListComp elt [⟨tg,iter,ifs,0⟩,⟨tg',iter',ifs',0⟩] scope pos) spos) (DK (Eg k ix wi g tf wi' g' tf' te) (Ct i)) (AE i (Cp k ix mi n mf mi' n' mf' me)):=by
 subst hk;exact Ti K (Cn hN) hiN hy hc S hi hg hf hi2 hg2 hf2 he hsw hs hs2
def qsA{pos':Pos}(he:QE K X e te me)(hs:swapsWith e (some (.Name x pos')) pos.line X.env=pure false:=by rfl)(hN:ndB X.N=true:=by kernel_rfl)(hi:X.N[i]?=some x:=by rfl)(hx:Loc X.env.scope x:=by first|exact Or.inl rfl|exact Or.inr rfl)(hf:X.fn x=true∨X.env.scope.names.lookup x=some .local:=by first|exact .inl rfl|exact .inr rfl):
 QS K X (.Assign [.Name x pos'] e pos) (DK te (Ct i)) (AE i me):=Zj K (Cn hN) hi hx he hs hf
def dG{op:Operator}{f:Int->Int->Int}{pos':Pos}(ho:PIp X op (ipI f))(he:QE K X e te me)(hN:ndB X.N=true:=by kernel_rfl)(hi:X.N[i]?=some x:=by rfl)(hx:Loc X.env.scope x:=by first|exact Or.inl rfl|exact Or.inr rfl)(hf:X.fn x=true∨X.env.scope.names.lookup x=some .local:=by first|exact .inl rfl|exact .inr rfl):
 QS K X (.AugAssign (.Name x pos') op e pos) (JT i te (ipI f)) (Gf i f me):=Zn K (Cn hN) hi hx he ho hf
end
end L2
namespace L2
open PySem PySem.Spec PyProof.Rows PySem.W
abbrev Tb:=Addr×Str×Nat×Nat
def Xy(ts:List Tb):Obj:={ cls:=.str "tables" 0,data:=.fields (ts.flatMap λt=>[.ref t.1,.str t.2.1 0,.int t.2.2.1 0,.int t.2.2.2 0]).toArray }
def BK(K:Frag)(ts:List Tb):Frag:=(K.filter λp=>!(ts.map (·.1)).contains p.1)++[(mainGlobals,Xy ts)]
theorem QD:∀ts:List Tb,L8 (ts.flatMap λt=>[Value.ref t.1,.str t.2.1 0,.int t.2.2.1 0,.int t.2.2.2 0])=ts.map λt=>(t.1,t.2.1,⟨t.2.2.1,t.2.2.2,0,0⟩)
 |[]=>rfl
 |t::r=>by
  rw[List.flatMap_cons,iD,<- QD r];rfl
def QC(K:Frag)(ts:List Tb):Ii (BK K ts)=ts.map λt=>(t.1,t.2.1,⟨t.2.2.1,t.2.2.2,0,0⟩):=by
 unfold Ii BK;rw[List.getLast?_concat];show L8 _=_;rw[<- QD ts]
theorem FN{L:List Addr}{a:Addr}(ha:a∉L):∀K:Frag,(K.filter λp=>!L.contains p.1).lookup a=K.lookup a
 |[]=>rfl
 |(b,o)::r=>by
   have ih:=FN ha r;rw[filter_cons];by_cases hb:b∈L
   .have h1:(!L.contains (b,o).1)=false:=by simp[hb]
    have h2:(a==b)=false:=beq_eq_false_iff_ne.mpr λz=>ha (z ▸ hb);rw[ic (by rw[h1];decide),iA,h2,ih]
   .have h1:(!L.contains (b,o).1)=true:=by simp[hb]
    rw[i9 h1,iA,iA,ih]
theorem Gg{L:List Addr}{P:Addr}(hP:P∈L):∀K:Frag,(K.filter λp=>!L.contains p.1).lookup P=none
 |[]=>rfl
 |(b,o)::r=>by
   have ih:=Gg hP r;rw[filter_cons];by_cases hb:b∈L
   .rw[ic (by simp[hb])];exact ih
   .have h2:(P==b)=false:=beq_eq_false_iff_ne.mpr λz=>hb (z ▸ hP);rw[i9 (by simp[hb]),iA,h2];exact ih
section
variable{K:Frag}{ts:List Tb}
def FF{a:Addr}{o:Obj}(ha:a∉ts.map (·.1))(e:K.lookup a=some o):(BK K ts).lookup a=some o:=by
 unfold BK;rw[jc,FN ha,e];rfl
def Xx{h:Heap}(X:K.In h){g:Obj}(hg:K.lookup mainGlobals=some g)(hP:mainGlobals∉ts.map (·.1)):(BK K ts).In h:=λa o e=>by
 unfold BK at e;rw[jc]at e;by_cases ha:a∈ts.map (·.1)
 .rw[Gg ha,none_or]at e;have h2:(a==mainGlobals)=false:=beq_eq_false_iff_ne.mpr λz=>hP (z ▸ ha);rw[iA,h2]at e;cases e
 .rw[FN ha]at e;cases k:K.lookup a with
  |some o'=>rw[k]at e;cases e;exact X _ _ k
  |none=>
   rw[k,none_or,iA]at e;by_cases hm:a=mainGlobals
   .subst hm;rw[hg]at k;cases k
   .rw[beq_eq_false_iff_ne.mpr hm]at e;cases e
def Xw(hM:mainGlobals∉ts.map (·.1)){P:Addr}(hP:P∈ts.map (·.1)):(BK K ts).lookup P=none:=by
 unfold BK;have h2:(P==mainGlobals)=false:=beq_eq_false_iff_ne.mpr λz=>hM (z ▸ hP);rw[jc,Gg hP,none_or,iA,h2];rfl
def Fun.mark{x qual:Str}{st:Stmt}{f:Addr}{fd:FuncData}(D:Fun K x qual st f fd){h:Heap}(X:K.In h)(hP:∀P∈ts.map (·.1),h.get? P=some (tabObj #[])):Fun (BK K ts) x qual st f fd:=by
 have neP:∀a o,K.lookup a=some o->o≠tabObj #[]->a∉ts.map (·.1):=λa o e n z=>by
  have:=X _ _ e;rw[hP a z]at this;exact n (Option.some.inj this).symm
 obtain⟨⟨oc,od,kV,doc,pm,an,cdv,ct,osl,rfl,lk,hcd⟩,kp⟩:=D;have hf:f∉ts.map (·.1):=neP f _ lk (λz=>by cases z);refine⟨⟨oc,od,kV,doc,pm,an,cdv,ct,osl,rfl,FF hf lk,?_⟩,?_⟩
 .unfold codeIn at hcd ⊢;split at hcd
  .next c0=>
   split at hcd
   .next vs sl k=>
    have hc:c0∉ts.map (·.1):=neP c0 _ k (λz=>by
     have:vs=#[]:=by injection z with _ _ z _;injection z
     rw[this]at hcd;cases hcd)
    simp only[FF hc k];exact hcd
   .cases hcd
  .cases hcd
 .unfold keepIn;simp only[FF hf lk]
end
def cw{K:Frag}{H:Hp}{a:Addr}{xs:List V}(hS:SqL K H a xs)(hO:∀ys,H a≠some (.lst ys)):RoL K H a xs:=by
 rcases hS with(h|h)|h
 .exact absurd h (hO xs)
 .exact .inl h
 .exact .inr h
def Rp{Pg:Program}{w:World}{K:Frag}{mg mb:Str->Option Value}{k:Nat}{fa a:Addr}{fd:FuncData}{x:Str}{ts:List Tb}{s₁:Shared}{vs:List Value}{ns:List Int}{F:List D->Hd->Option (D×Hd)}
 (KX:K.In s₁.heap) (hns:s₁.heap.Ns mainGlobals mg) (hb:s₁.heap.Ns builtinsNs mb) (hbb:∀x:Str,x≠"__name__"->mb x=bootBuiltins x) (hlim:s₁.heap.NoLimit) (hg:s₁.gens=#[])
 (ha:s₁.heap.get? a=some { cls:=.type "list",data:=.seq vs.toArray }) (hi:IntsAre vs ns) (hl:ns.length<=sizeLine) (hr:Room k callerA)
 (hT:∀P∈ts.map (·.1),∃cc,s₁.heap.TableAt cc P #[]) (hPK:∀P∈ts.map (·.1),K.lookup P=none) (htab:Ii K=ts.map λt=>(t.1,t.2.1,⟨t.2.2.1,t.2.2.2,0,0⟩))
 (Fn:∀base:Heap,K.In base->base.Ns mainGlobals mg->(∀b o,b∉ts.map (·.1)->b≠a->s₁.heap.get? b=some o->base.get? b=some o)->FnOk Pg w K mg base CX0 k fa fd [x] (spF K 1 F)) (hbind:∀(s:Shared) (u:Value),BindsTo s fd ⟨[u],[]⟩ [(x,u)])
 (hF:∃hd',F [.ro ns] []=some (.im (.bl true),hd')):
 codeAny (model Pg w) callerA (.call (.ref fa) ⟨[.ref a],[]⟩) (λr s'=>r=.ok (.ret (.bool true))/\OldK s₁.heap s'.heap/\s'.os=s₁.os/\AllBare s'.gens) s₁:=by
 have rv:=KB hi;have lenV:=hi.length;have hP:∀P∈ts.map (·.1),s₁.heap.get? P=some (tabObj #[]):=λP h=>let ⟨cc,t⟩:=hT P h;t.2
 have haP:a∉ts.map (·.1):=λz=>by rw[hP a z]at ha;cases ha
 have core:∀H:Hp,(∀b,b∉ts.map (·.1)->H b=none∨∃o xs,H b=some (.frz o (.lst xs)))->(∀P∈ts.map (·.1),H P=some (.tbl #[]))->SqL K H a (ns.map V.int)->HOk Pg w H s₁.heap->(∀b,H b≠none->b=a∨b∈ts.map (·.1))->(H a≠none->K.lookup a=none) ->
  codeAny (model Pg w) callerA (.call (.ref fa) ⟨[.ref a],[]⟩) (λr s'=>r=.ok (.ret (.bool true))/\OldK s₁.heap s'.heap/\s'.os=s₁.os/\AllBare s'.gens) s₁:=by
  intro H hO hHP hS hok hA hK;have base_of:∀{b:Addr} {o:Obj},s₁.heap.get? b=some o->H b=none->(GB s₁.heap H).get? b=some o:=λe n=>UU e n;have noA:∀{b:Addr} {o:Obj} {es:Array DictEntry} {ep:Nat},s₁.heap.get? b=some o->o.data=.dict es ep->H b=none:=λ{b o es ep} e d=>by
   cases q:H b with
   |none=>rfl
   |some u=>
    rcases hA b (by rw[q];simp)with e'|e'
    .subst e';rw[ha]at e;cases e;have d':Data.seq vs.toArray _=Data.dict es ep:=d;cases d'
    .rw[hP b e']at e;cases e;cases d
  have nsK:∀{b:Addr} {m:Str->Option Value},s₁.heap.Ns b m->(GB s₁.heap H).Ns b m:=λ{b m} ⟨o,es,ep,e,d,r⟩=>⟨o,es,ep,base_of e (noA e d),d,r⟩
  have hKb:K.In (GB s₁.heap H):=λb o e=>base_of (KX b o e) (by
   cases q:H b with
   |none=>rfl
   |some u=>
    rcases hA b (by rw[q];simp)with e'|e'
    .subst e';rw[hK (by rw[q];simp)]at e;cases e
    .rw[hPK b e']at e;cases e)
  have hM:Mod K mg (GB s₁.heap H):=⟨hKb,nsK hns,⟨mb,nsK hb,hbb⟩,let ⟨mc,h1,h2⟩:=hlim;⟨mc,nsK h1,h2⟩⟩
  have e0:Env0 Pg w K mg (GB s₁.heap H) callerA [] s₁ H:=⟨rfl,hM,λb o e=>Xo e,Nat.le_of_eq (Rt _ _),trivial,λb hb=>absurd (show b∈([]:List Addr)from hb) (by simp),hok,.of_eq hg⟩
  have hsp:spF K 1 F [.ref a] H (λv _=>v=.bl true) λ_ _ _=>False:=by
   obtain⟨hd',e⟩:=hF;refine⟨rfl,[],[],[.ro ns],.im (.bl true),hd',⟨rfl,List.nodup_nil,λy hy=>?_,λn o a h=>by simp at h⟩,?_,e,λρ' H' v _ _ r=>?_⟩
   .rw[htab]at hy;obtain⟨t,ht,rfl⟩:=mem_map.mp hy;exact⟨#[],hHP t.1 (mem_map.mpr ⟨t,ht,rfl⟩),.inl rfl⟩
   .simp only[RDs,RD];refine⟨_,_,rfl,⟨a,rfl,cw hS λys z=>?_⟩,rfl⟩;rcases hO a haP with q|⟨o,ys,q⟩<;>(rw[q]at z;cases z)
   .simpa only[RD,RI]using r
  refine jf ((Fn _ hKb (nsK hns) λb o n1 n2 e=>base_of e (by
   cases q:H b with
   |none=>rfl
   |some u=>
    rcases hA b (by rw[q];simp)with e'|e'
    .exact absurd e' n2
    .exact absurd e' n1)).run callerA [] s₁ H ⟨[.ref a],[]⟩ [.ref a] [.ref a] _ _ hr e0 (hbind s₁ (.ref a)) (.cons rfl .nil) hsp) λr s' h=>?_
  cases r with
  |error e=>exact h.elim
  |ok fl=>
   cases fl with
   |next=>exact False.elim h
   |brk=>exact False.elim h
   |cont=>exact False.elim h
   |ret u=>
    obtain⟨v,H',os,bare,un,hok',r',q⟩:=h;have q':v=.bl true:=q;subst q';obtain rfl:u=Value.bool true:=r';have keep:∀b o,b∉ts.map (·.1)->s₁.heap.get? b=some o->s'.heap.get? b=some o:=λb o nb e=>by
     cases q:H b with
     |none=>exact un.keep b o e q (by intro z;exact absurd (show b∈([]:List Addr)from z) (by simp)) (by simp)
     |some u=>
      rcases hO b nb with z|⟨ob,xs,z⟩
      .rw[q]at z;cases z
      .have z2:=un.frzs b ob _ z;obtain⟨e1,_⟩:=hok b _ z;obtain⟨e2,_⟩:=hok' b _ z2;rw[e]at e1;cases e1;exact e2
    refine⟨rfl,⟨λb o e=>?_,λb o e=>?_⟩,os,bare⟩
    .by_cases nb:b∈ts.map (·.1)
     .obtain⟨cc,tb⟩:=hT b nb;obtain⟨more,hm⟩:=un.tbls b #[] (hHP b nb);have hb':s'.heap.get? b=some (tabObj (#[]++more)):=hok' b _ hm;rw[hP b nb]at e;cases e;exact .inr (.inl ⟨tb.isCodeTable,rfl,#[],more,rfl,hb'⟩)
     .exact .inl (keep b o nb e)
    .by_cases nb:b∈ts.map (·.1)
     .obtain⟨more,hm⟩:=un.tbls b #[] (hHP b nb);exact⟨_,hok' b _ hm⟩
     .exact⟨o,keep b o nb e⟩
 cases hk:K.lookup a with
 |some o=>
  have e:=KX a o hk;rw[ha]at e;cases e;refine core (λb=>if b∈ts.map (·.1)then some (.tbl #[])else none) (λb nb=>.inl (ic nb)) (λP hp=>i9 hp) (.inr ⟨_,vs.toArray,_,hk,rfl,rfl,rfl,by rw[ik,lenV];exact hl,by simpa using rv⟩) (λb u z=>?_) (λb z=>?_) λz=>absurd (ic haP) z
  .by_cases hb:b∈ts.map (·.1)
   .have z':=(i9 hb).symm.trans z;cases z';exact hP b hb
   .have z':=(ic hb).symm.trans z;cases z'
  .by_cases hb:b∈ts.map (·.1)
   .exact .inr hb
   .exact absurd (ic hb) z
 |none=>
  refine core (λb=>if b∈ts.map (·.1)then some (.tbl #[])else if b=a then some (.frz { cls:=.type "list",data:=.seq vs.toArray } (.lst (ns.map V.int)))else none) (λb nb=>?_) (λP hp=>i9 hp) (.inl (.inr ⟨{ cls:=.type "list",data:=.seq vs.toArray },(ic haP).trans (i9 rfl)⟩)) (λb u z=>?_) (λb z=>?_) λ_=>hk
  .rw[ic nb];by_cases hb:b=a
   .exact .inr ⟨_,_,i9 hb⟩
   .exact .inl (ic hb)
  .by_cases hp:b∈ts.map (·.1)
   .have z':=(i9 hp).symm.trans z;cases z';exact hP b hp
   .have z:=(ic hp).symm.trans z;by_cases hb:b=a
    .have z':=(i9 hb).symm.trans z;cases z';subst hb;exact⟨ha,by rw[iu];exact hl,vs,_,rv,ha⟩
    .have z':=(ic hb).symm.trans z;cases z'
  .by_cases hp:b∈ts.map (·.1)
   .exact .inr hp
   .by_cases hb:b=a
    .exact .inl hb
    .exact absurd ((ic hp).trans (ic hb)) z
def walkL{l:OpenLaw}{n k:Nat}{q:Program}{loose:List Str}{XP:(Str->Option Value)->Heap->Prop}{YP:World->Heap->Prop}{d:DefRec}{K:Params->Frag}{F:List D->Hd->Option (D×Hd)}(xs:List (Str×Str×Nat×Nat))
 (hn:l.most=some n) (hn2:n<=sizeLine) (hdf:d.params.defaults=[]) (hr:Room k callerA) (hdr:∀x∈xs,∃dr,(recsOf q).find? (λe=>e.name==x.1)=some dr)
 (hF:∀ns:List Int,∃hd',F [.ro ns] []=some (.im (.bl true),hd'))
 (hY:∀(w:World) (h:Heap),YP w h->(K w.params).In h)
 (G:∀(w:World) (mg:Str->Option Value) (fa:Addr) (h:Heap) (c P:Str->Addr),(K w.params).In h->h.Ns mainGlobals mg->mg d.name=some (.ref fa) ->
  (∀x∈xs,h.get? (P x.1)=some (tabObj #[])/\CodeHd h (c x.1) (P x.1)/\∃a o fd,mg x.1=some (.ref a)/\h.get? a=some o/\o.data=.func fd/\fd.code=.ref (c x.1)) ->
  (∃g,(K w.params).lookup mainGlobals=some g)/\∃fd:FuncData,(∀(s:Shared) (u:Value),BindsTo s fd ⟨[u],[]⟩ [("_law_script",u)])/\
   ∀base:Heap,(BK (K w.params) (xs.map λx=>(P x.1,x.2))).In base->base.Ns mainGlobals mg->(∀x∈xs,CodeHd base (c x.1) (P x.1))->(∀x∈xs,base.BuiltinsAt mg (P x.1))->FnOk l.prog w (BK (K w.params) (xs.map λx=>(P x.1,x.2))) mg base CX0 k fa fd ["_law_script"] (spF (BK (K w.params) (xs.map λx=>(P x.1,x.2))) 1 F)):
 PySem.W.WalkO q loose XP YP l.row.toRowW d [] (λf vs=>PySem.call f vs):=by
 refine Att.attach_call hn hdf λw s₀ s₁ mg mb fa o pm cd doc a vs ns Gr Y ho hd hcd hmg hobj hints hlen hg=>?_;have KX:=hY w _ Y;have each:∀x:Str,∃cp:Addr×Addr,(∃y∈xs,y.1=x)->(∃cc,s₁.heap.TableAt cc cp.2 #[])/\CodeHd s₁.heap cp.1 cp.2/\∃a o fd,mg x=some (.ref a)/\s₁.heap.get? a=some o/\o.data=.func fd/\fd.code=.ref cp.1:=by
  intro x;by_cases hx:∃y∈xs,y.1=x
  .obtain⟨y,hy,rfl⟩:=hx;obtain⟨dr,hdr⟩:=hdr y hy;have hnm:dr.name=y.1:=beq_iff_eq.mp (List.find?_some (p:=λe:DefRec=>e.name==y.1) hdr);obtain⟨a',o',fd',c,P,h1,h2,h3,h4,h5,h6⟩:=Gr.T.tab dr (List.mem_of_find?_eq_some hdr);rw[hnm]at h1;exact⟨(c,P),λ_=>⟨⟨_,h6⟩,CodeHd.of h5 h6,a',o',fd',h1,h2,h3,h4⟩⟩
  .exact⟨(0,0),λh=>absurd h hx⟩
 obtain⟨cp,hcp⟩:=Classical.skolem.mp each;have hcp:∀x∈xs,(∃cc,s₁.heap.TableAt cc (cp x.1).2 #[])/\CodeHd s₁.heap (cp x.1).1 (cp x.1).2/\∃a o fd,mg x.1=some (.ref a)/\s₁.heap.get? a=some o/\o.data=.func fd/\fd.code=.ref (cp x.1).1:=λx hx=>hcp x.1 ⟨x,hx,rfl⟩;have hts:∀P∈(xs.map λx=>((cp x.1).2,x.2)).map (·.1),∃x∈xs,P=(cp x.1).2:=λP hP=>by
  obtain⟨t,ht,rfl⟩:=mem_map.mp hP;obtain⟨x,hx,rfl⟩:=mem_map.mp ht;exact⟨x,hx,rfl⟩
 have hP:∀x∈xs,s₁.heap.get? (cp x.1).2=some (tabObj #[]):=λx hx=>by
  obtain⟨⟨cc,t⟩,_⟩:=hcp x hx;exact t.2
 have hmP:mainGlobals∉(xs.map λx=>((cp x.1).2,x.2)).map (·.1):=λz=>by
  obtain⟨x,hx,ez⟩:=hts _ z;obtain⟨o,es,ep,e,dd,_⟩:=Gr.T.g;rw[ez,hP x hx]at e;cases e;cases dd
 obtain⟨⟨g,hgl⟩,fd,hb,hFn⟩:=G w mg fa _ (λx=>(cp x).1) (λx=>(cp x).2) KX Gr.T.g hmg λx hx=>⟨hP x hx,(hcp x hx).2⟩
 refine Rp (ts:=xs.map λx=>((cp x.1).2,x.2)) (K:=BK (K w.params) (xs.map λx=>((cp x.1).2,x.2))) (Xx KX hgl hmP) Gr.T.g Gr.T.b Gr.T.builtins Gr.T.nolimit hg hobj hints (iJ hlen hn2) hr (λP hp=>by obtain⟨x,hx,rfl⟩:=hts P hp;exact(hcp x hx).1) (λP hp=>Xw hmP hp) (QC _ _) (λbase kb nb keep=>hFn base kb nb (λx hx=>?_) λx hx=>?_) hb (hF ns)
 .obtain⟨oc,vs',file,tf,flags,tg,inF,text,tt,e1,r1,r2,r3,r4,r5,r6,r7,r8,hne⟩:=(hcp x hx).2.1;have hn:(cp x.1).1∉(xs.map λx=>((cp x.1).2,x.2)).map (·.1):=λz=>by
   obtain⟨y,hy,ez⟩:=hts _ z;rw[ez,hP y hy]at e1;cases e1;cases r1
  exact⟨oc,vs',file,tf,flags,tg,inF,text,tt,keep (cp x.1).1 oc hn (λz=>by rw[z,hobj]at e1;cases e1;exact absurd (show Value.type "list"=Value.type "code" from r1) (by decide)) e1,r1,r2,r3,r4,r5,r6,r7,r8,hne⟩
 .obtain⟨bm,ob,b1,b2,b3,b4,b5,b6⟩:=Gr.T.bmain;have nP:∀y∈xs,bm≠(cp y.1).2:=λy hy z=>by rw[z,hP y hy]at b3;cases b3;cases b4
  have hn:bm∉(xs.map λx=>((cp x.1).2,x.2)).map (·.1):=λz=>by
   obtain⟨y,hy,ez⟩:=hts _ z;exact nP y hy ez
  refine⟨bm,ob,b1,b2,λz=>?_,nP x hx,keep bm ob hn (λz=>by rw[z,hobj]at b3;cases b3;exact absurd (show Value.type "list"=Value.type "module" from b4) (by decide)) b3,b4,b5,b6⟩;obtain⟨o,es,ep,e,dd,_⟩:=Gr.T.g;rw[<- z,b3]at e;cases e;rw[b6]at dd;cases dd
end L2
namespace L2
open PySem PySem.W PyProof.Rows
abbrev FD:=List D->Hd->Option (D×Hd)
structure EnK where
 P:Program
 w:World
 K:Frag
 mg:Str->Option Value
 base:Heap
structure Df where
 x:Str
 st:Stmt
 ps:List Str
 k:Nat
 F:FD
def Dn(E:EnK)(e:Df):Prop:=∃f fd,DefAt E.K E.mg e.x e.st f fd e.ps
def Kn(E:EnK)(e:Df):Prop:=∃f fd,DefAt E.K E.mg e.x e.st f fd e.ps/\FnOk E.P E.w E.K E.mg E.base CX0 e.k f fd e.ps (spF E.K e.ps.length e.F)/\∀ds hd z,e.F ds hd=some z->ds.length=e.ps.length
def okK{E:EnK}{x:Str}{st:Stmt}{ps N:List Str}{j k:Nat}{m:MS}{F:FD}(D:Dn E ⟨x,st,ps,k,F⟩)(S:FnScope N ps (AB st))(hF:F=mkF ps.length N.length m)(hk:k=j+1)
 (h:∀(f:Addr) (cdv:Value) (A:Around) (outer:List Env) (s:Shared) (H:Hp) (Ek:XK),Room j (A.deeper (envOfC x (AB st) s.heap.objs.size f cdv))->∃t,QSs E.K (Do CX0 E.P E.w E.K E.mg E.base N x (AB st) f cdv A outer s H Ek).nox (BW st) t m):Kn E ⟨x,st,ps,k,F⟩:=by
 obtain⟨f,fd,D⟩:=D;subst hF;subst hk;exact⟨f,fd,D,Xn D S (h f),Xu⟩
def ok0{E:EnK}{x:Str}{st:Stmt}{ps:List Str}{k k':Nat}{F:FD}(D:Dn E ⟨x,st,ps,k',F⟩):Kn E ⟨x,st,ps,k,λ_ _=>none⟩:=by
 obtain⟨f,fd,D⟩:=D;refine⟨f,fd,D,⟨λvs H Q E h=>h.1,λA outer s H args us vs Q E hr e0 hb hv h=>?_⟩,λ_ _ _ h=>nomatch h⟩;obtain⟨_,_,_,_,_,_,_,_,e,_⟩:=h;cases e
section
variable{K:Frag}{X:Cx}{e:Expr}{es:List Expr}{t:TA}{m:MA}{x:Str}{j k:Nat}{ps:List Str}{F:FD}{st:Stmt}{p pos:Pos}
def qcW(w:Nat)(G:Kn ⟨X.prog,X.w,X.K,X.mg,X.base⟩ ⟨x,st,ps,j,F⟩)(hr:Room k X.A)(ha:QA K X (e::es) t m)
 (hjk:j<=k:=by first|decide|omega) (hg:Gl X x:=by rfl) (hdb:(x==("__debug__":Str))=false:=by decide) (he:starEach (e::es) X.env=(false,eval e X.env)::starEach es X.env:=by rfl) (hpl:(backTo pos (starEach es X.env)).any (·.1)=false:=by rfl) (hK:X.K=K:=by rfl):
 QE K X (.Call (.Name x p) (e::es) [] pos) (Dt (spF K ps.length F) [] E0 t) (A6 w F m):=by
 subst hK;obtain⟨f,fd,D,G,l⟩:=G;exact Tq _ w G hr D ha l hjk hg hdb he hpl
def qcG(G:Kn ⟨X.prog,X.w,X.K,X.mg,X.base⟩ ⟨x,st,ps,j,F⟩)(hr:Room k X.A)(ha:QA K X (e::es) t m)
 (hjk:j<=k:=by first|decide|omega) (hg:Gl X x:=by rfl) (hdb:(x==("__debug__":Str))=false:=by decide) (he:starEach (e::es) X.env=(false,eval e X.env)::starEach es X.env:=by rfl) (hpl:(backTo pos (starEach es X.env)).any (·.1)=false:=by rfl) (hK:X.K=K:=by rfl):
 QE K X (.Call (.Name x p) (e::es) [] pos) (Dt (spF K ps.length F) [] E0 t) (DT F m):=by
 subst hK;obtain⟨f,fd,D,G,l⟩:=G;exact Tr _ G hr D ha l hjk hg hdb he hpl
variable{c P:Addr}{scope:Scope}{ix:List Nat}{params:Arguments}{body:Expr}{lpos kpos:Pos}{te tb:TE}{mi mb:ME}{fd:FuncData}{cdv:Value}{q:Str}
end
def FnAt(K:Frag)(n:Str)(s:Stmt)(f:Addr)(cd:Value):Prop:=∃oc kV dc pm ct od an sl,nsIn K mainGlobals n=some (some (.ref f))/\K.lookup f=some ⟨oc,od,.func (fnOf n n (CY s) (BW s) (AB s) .none kV dc pm an cd ct),sl⟩/\codeIn K cd n=true/\keepIn K (.ref f)=true
def Fe(K:Frag)(e:Df):Prop:=∃f cd,FnAt K e.x e.st f cd
abbrev Xs:=List (Str×Str×Nat×Nat)
def HX(xs:Xs)(mg:Str->Option Value)(h:Heap)(c P:Str->Addr):Prop:=∀x∈xs,h.get? (P x.1)=some (tabObj #[])/\CodeHd h (c x.1) (P x.1)/\∃a o fd,mg x.1=some (.ref a)/\h.get? a=some o/\o.data=.func fd/\fd.code=.ref (c x.1)
abbrev tbs(xs:Xs)(P:Str->Addr):List Tb:=xs.map λx=>(P x.1,x.2)
abbrev enM(l:OpenLaw)(w:World)(K:Frag)(xs:Xs)(P:Str->Addr)(mg:Str->Option Value)(base:Heap):EnK:=⟨l.prog,w,BK K (tbs xs P),mg,base⟩
def Bd(e:Df):Prop:=∀(kV doc pm:Value) (an:Option Addr) (cdv ct:Value) (us:List Value),us.length=e.ps.length->bindArgs (fnOf e.x e.x (CY e.st) (BW e.st) (AB e.st) .none kV doc pm an cdv ct) ⟨us,[]⟩=pure (e.ps.zip us)
section
variable{K:Frag}{h:Heap}{mg:Str->Option Value}{xs:Xs}{c P:Str->Addr}(X:K.In h)(G:h.Ns mainGlobals mg)(hx:HX xs mg h c P)
include hx in
theorem PM:∀P'∈(tbs xs P).map (·.1),h.get? P'=some (tabObj #[]):=λP' hp=>by
 obtain⟨t,ht,rfl⟩:=mem_map.mp hp;obtain⟨x,hxx,rfl⟩:=mem_map.mp ht;exact(hx x hxx).1
include X G hx in
theorem FnAt.def{e:Df}{f:Addr}{cd:Value}(H:FnAt K e.x e.st f cd)(b:Bd e):∃fd,DefAt (BK K (tbs xs P)) mg e.x e.st f fd e.ps/\fd.code=cd:=by
 obtain⟨oc,kV,dc,pm,ct,od,an,sl,a,l,cc,k⟩:=H;have F:=Fun.mark (ts:=tbs xs P) (Rz (st:=e.st) l cc k) X (PM hx);exact⟨_,⟨F,mg_of X G a,F.binds b⟩,rfl⟩
include X G hx in
theorem Fe.dn{e:Df}(H:Fe K e)(b:Bd e)(l:OpenLaw)(w:World)(base:Heap):Dn (enM l w K xs P mg base) e:=by
 obtain⟨f,cd,H⟩:=H;obtain⟨fd,D,_⟩:=H.def X G hx b;exact⟨f,fd,D⟩
include X G hx in
include X G hx in
end
def Zs(K:Frag):Prop:=∀n∈(["list","tuple","len","range","repr","sum","min","max","abs","all","any","sorted","zip","isinstance","int","bool","str","set","enumerate","reversed","dict"]:List Str),nsIn K mainGlobals n=some none
def Zs.blt{K:Frag}(Z:Zs K){h:Heap}{mg:Str->Option Value}(X:K.In h)(G:h.Ns mainGlobals mg):BltA mg:=by
 constructor<;>exact PySem.W.mg_none_of X G (Z _ (by simp))
def bd1{e:Df}(hl:e.ps.length=1:=by rfl)(h:∀(kV doc pm:Value) (an:Option Addr) (cdv ct:Value) a,bindArgs (fnOf e.x e.x (CY e.st) (BW e.st) (AB e.st) .none kV doc pm an cdv ct) ⟨[a],[]⟩=pure (e.ps.zip [a]):=by intros;rfl):Bd e:=λ_ _ _ _ _ _ us hu=>match us,hu.trans hl with|[_],_=>h ..
def bd2{e:Df}(hl:e.ps.length=2:=by rfl)(h:∀(kV doc pm:Value) (an:Option Addr) (cdv ct:Value) a b,bindArgs (fnOf e.x e.x (CY e.st) (BW e.st) (AB e.st) .none kV doc pm an cdv ct) ⟨[a,b],[]⟩=pure (e.ps.zip [a,b]):=by intros;rfl):Bd e:=λ_ _ _ _ _ _ us hu=>match us,hu.trans hl with|[_,_],_=>h ..
def bd3{e:Df}(hl:e.ps.length=3:=by rfl)(h:∀(kV doc pm:Value) (an:Option Addr) (cdv ct:Value) a b c,bindArgs (fnOf e.x e.x (CY e.st) (BW e.st) (AB e.st) .none kV doc pm an cdv ct) ⟨[a,b,c],[]⟩=pure (e.ps.zip [a,b,c]):=by intros;rfl):Bd e:=λ_ _ _ _ _ _ us hu=>match us,hu.trans hl with|[_,_,_],_=>h ..
def Av{N ps:List Str}{sc:Scope}(h:(decide (sc.kind=.function)&&!sc.isCoroutine&&!sc.isGenerator&&ndB N&&(N.take ps.length==ps)&&(ps.all λx=>sc.names.lookup x==some .local||sc.names.lookup x==some .cell)&&sc.names.all λy=>y.2 != .free)=true):FnScope N ps sc:=by
 simp only[Bool.and_eq_true,all_eq_true,Bool.or_eq_true,beq_iff_eq,jt,Bool.not_eq_true',bne_iff_ne]at h;obtain⟨⟨⟨⟨⟨⟨h1,h2⟩,h3⟩,h4⟩,h5⟩,h6⟩,h7⟩:=h;exact⟨h1,h2,h3,Cn h4,h5,h6,h7⟩
abbrev HG(l:OpenLaw)(w:World)(K:Frag)(xs:Xs)(mg:Str->Option Value)(c P:Str->Addr)(fa:Addr)(e:Df):Prop:=(∃g,K.lookup mainGlobals=some g)/\∃fd:FuncData,(∀(s:Shared) (v:Value),BindsTo s fd ⟨[v],[]⟩ [("_law_script",v)])/\∀base:Heap,(BK K (tbs xs P)).In base->base.Ns mainGlobals mg->(∀x∈xs,CodeHd base (c x.1) (P x.1))->(∀x∈xs,base.BuiltinsAt mg (P x.1))->FnOk l.prog w (BK K (tbs xs P)) mg base CX0 e.k fa fd ["_law_script"] (spF (BK K (tbs xs P)) 1 e.F)
def UV{l:OpenLaw}{w:World}{K:Frag}{h:Heap}{mg:Str->Option Value}{fa:Addr}{xs:Xs}{c P:Str->Addr}{e:Df}(X:K.In h)(G:h.Ns mainGlobals mg)(hfa:mg e.x=some (.ref fa))(hx:HX xs mg h c P)(H:Fe K e)(b:Bd e)(hps:e.ps=(["_law_script"]:List Str))
 (ok:∀base:Heap,(∀x∈xs,CodeHd base (c x.1) (P x.1))->(∀x∈xs,base.BuiltinsAt mg (P x.1))->Kn (enM l w K xs P mg base) e):
 HG l w K xs mg c P fa e:=by
 obtain⟨f,cd,H⟩:=H;obtain⟨fd,D,_⟩:=H.def X G hx b;obtain⟨oc,kV,dc,pm,ct,od,an,sl,a,lk,cc,k⟩:=H;have hg:∃g,K.lookup mainGlobals=some g:=by
  cases e:K.lookup mainGlobals with
  |some g=>exact⟨g,rfl⟩
  |none=>unfold nsIn at a;rw[e]at a;cases a
 have e1:=hfa.symm.trans D.mg;cases e1;refine⟨hg,fd,λs v=>?_,λbase _ _ hd bl=>?_⟩
 .obtain⟨⟨oc',od',kV',dc',pm',an',cd',ct',sl',rfl,_,_⟩,_⟩:=D.fn;have:=b kV' dc' pm' an' cd' ct' [v] (by rw[hps];rfl);rw[hps]at this;exact .of_eq this
 .obtain⟨f',fd',D',F',_⟩:=ok base hd bl;have e2:=D.mg.symm.trans D'.mg;cases e2;obtain⟨⟨oc',od',kV',dc',pm',an',cd',ct',sl',h1,h2,_⟩,_⟩:=D.fn;obtain⟨⟨oc2,od2,kV2,dc2,pm2,an2,cd2,ct2,sl2,h3,h4,_⟩,_⟩:=D'.fn;have e3:=h2.symm.trans h4;cases e3;rw[hps]at F';exact F'
end L2
namespace L2
open PySem PySem.Spec PyProof.Rows
def IZ{α:Type}:List (Option α)->Option (List α)
 |[]=>some []
 |some x::r=>(IZ r).map (x::·)
 |none::_=>none
def pyN:Nat->Hd->D->Option PyData
 |_,_,.im i=>some i.py
 |_,_,.ro ns=>some (.list (I.pys (ns.map I.int)))
 |0,_,_=>none
 |n+1,hd,.tm ds=>(IZ (ds.map (pyN n hd))).map .tuple
 |n+1,hd,.mu k=>match hd[k]? with
  |some (.lst ds)=>(IZ (ds.map (pyN n hd))).map .list
  |_=>none
 |_+1,_,.op _ _ _=>none
section
variable{K:Frag}{ρ:List Addr}{H:Hp}{hd:Hd}
theorem IY{f:D->Option PyData}(hf:∀d v p,RD K ρ H d v->f d=some p->Rep K H p v):∀{ds:List D} {xs:List V} {ps:List PyData},RDs K ρ H ds xs->IZ (ds.map f)=some ps->Bv K H ps xs
 |[],xs,ps,r,e=>by
  simp only[RDs]at r;subst r;simp[IZ]at e;subst e;simp only[Bv]
 |d::ds,xs,ps,r,e=>by
  simp only[RDs]at r;obtain⟨x,r',rfl,h1,h2⟩:=r;rw[iD]at e;cases q:f d with
  |none=>rw[q]at e;cases e
  |some p=>
   rw[q]at e;obtain⟨ps',e1,rfl⟩:=i7 (show(IZ (ds.map f)).map (p::·)=some ps from e);simp only[Bv];exact⟨x,r',rfl,hf d x p h1 q,IY hf h2 e1⟩
theorem HI(hR:RH K ρ H hd):∀(n:Nat) (d:D) (v:V) (p:PyData),RD K ρ H d v->pyN n hd d=some p->Rep K H p v
 |n,.im i,v,p,h,e=>Dg (hd:=hd) hR h (by cases n<;>exact e)
 |n,.ro ns,v,p,h,e=>Dg (hd:=hd) hR h (by cases n<;>exact e)
 |0,.tm ds,v,p,h,e=>by cases e
 |0,.mu k,v,p,h,e=>by cases e
 |0,.op _ _ _,v,p,h,e=>by cases e
 |n+1,.op _ _ _,v,p,h,e=>by cases e
 |n+1,.tm ds,v,p,h,e=>by
  simp only[RD]at h;obtain⟨a,xs,rfl,q,r⟩:=h;obtain⟨ps,e1,rfl⟩:=i7 (show(IZ (ds.map (pyN n hd))).map PyData.tuple=some p from e);simp only[Rep];exact⟨a,xs,rfl,q,IY (λd v p=>HI hR n d v p) r e1⟩
 |n+1,.mu k,v,p,h,e=>by
  simp only[pyN]at e;simp only[RD]at h;obtain⟨a,hn,rfl⟩:=h;split at e
  .next ds q=>
   obtain⟨ps,e1,rfl⟩:=i7 e;obtain⟨xs,e2,e3⟩:=hR.lst hn q;simp only[Rep];exact⟨a,xs,rfl,SqL.of e2,IY (λd v p=>HI hR n d v p) e3 e1⟩
  .cases e
end
def Js(neg:Bool):D->D->Hd->Option (D×Hd):=λd e hd=>match pyN 30 hd d,pyN 30 hd e with
 |some x,some y=>if x.canLay0=true/\y.canLay0=true/\min x.depth y.depth<=60 then some (.im (.bl (if neg then !PyData.eqv x y else PyData.eqv x y)),hd)else none
 |_,_=>none
def ZW{K:Frag}:RB K (Ow K) (Js true):=by
 intro ρ H hd d e v u Q z hd' hR h1 h2 hf hQ;unfold Js at hf;split at hf
 .next e1 e2=>
  split at hf
  .next c=>cases hf;exact⟨_,_,HI hR _ _ _ _ h1 e1,HI hR _ _ _ _ h2 e2,c.1,c.2.1,c.2.2,hQ ρ H _ .refl hR (by simp[RD,RI])⟩
  .cases hf
 .cases hf
section
variable{hd:Hd}{QE:D->Hd->Prop}{ls:Ls}{ma mb:ME}
def Yg{neg:Bool}{d e:D}{x y:PyData}(h1:pyN 30 hd d=some x)(h2:pyN 30 hd e=some y)(c:x.canLay0=true/\y.canLay0=true/\min x.depth y.depth<=60)(q:QE (.im (.bl (if neg then !PyData.eqv x y else PyData.eqv x y))) hd):WP (Js neg d e hd) QE:=⟨_,_,by unfold Js;rw[h1,h2];dsimp only;rw[i9 c],q⟩
end
def Pm(v:Option Addr)(h:Heap)(T:Addr):Prop:=∃oT ts,h.get? T=some oT/\oT.data=.fields ts/\ts[3]?=some (v.elim Value.none λf=>rawInt f)
def fB(h:Heap)(T:Addr):Prop:=∃oT ts,h.get? T=some oT/\oT.data=.fields ts/\3<ts.size
def TbL(L:Addr)(h:Heap)(a:Addr)(tb:Value):Prop:=tb=.none∨∃T v,tb=.ref T/\T≠a/\(v=none∨v=some L)/\Pm v h T
section
variable{M:Model}{A:Around}{E:Value->Shared->Prop}{s:Shared}{base:Heap}{env:Env}{outer:List Env}{L a C:Addr}{dx:Option Addr}{tb:Value}
def Nx{Q:Unit->Shared->Prop}(hfr:A.frames=some (env::outer))(hl:s.heap.FunFrames base (env::outer))(hf:env.frame=some L)(he:Exo s.heap a C dx tb)(ht:TbL L s.heap a tb)
 (h:∀h' T,(s.heap.objs.size<=T∨tb=.ref T)->T≠a->Exo h' a C dx (.ref T)->fB h' T->Note (frs (env::outer)) a tb s.heap h'->Q () { s with heap:=h' }):
 wpAny M A (noteFrame (.ref a) env) Q E s:=by
 have he0:=he;obtain⟨vs,sl,ha,h1⟩:=he;have sz:1<vs.size:=(Array.getElem?_eq_some_iff.mp h1).1;have frF:∀b∈frs (env::outer),∃o,s.heap.get? b=some o/\∀vs,o.data≠.fields vs:=λb hb=>(hl.mem hb).2;have naF:a∉frs (env::outer):=λhb=>by
  obtain⟨o,e,n⟩:=frF a hb;rw[ha]at e;cases e;exact n vs rfl
 have main:∀(h0:Heap) (hadNext:Bool),h0.objs.size=s.heap.objs.size->h0.get? a=some ⟨.ref C,dx,.fields vs,sl⟩->(∀b o,s.heap.get? b=some o->.ref b≠tb->h0.get? b=some o)->(∀b o,s.heap.get? b=some o->∃o',h0.get? b=some o')->h0.FunFrames base (env::outer) ->
  wpAny M A (do let f <- frameOf env;let pl <- entryPlaceOf L hadNext;let b <- EntryCells.newEntry tb f .none (rawInt L) .none pl;setField (.ref a) 1 b) Q E { s with heap:=h0 }:=by
  intro h0 hadNext hz ha0 k0 t0 hl0;refine i8 (wpAny_frameOf_fun (s:={ s with heap:=h0 }) hfr hl0 hf λh1' hs1=>?_);refine i8 (wpAny_entryPlaceOf λpl hpl=>?_);unfold EntryCells.newEntry newFields;refine i8 (iQ ?_ (hpl.sizeOk5 _ _ _ _ _));generalize hob:({ cls:=.type "traceback",dict:=none,data:=.fields ([tb,.ref L,.none,rawInt L,.none]++(if pl.isEmpty then List.replicate 6 Value.none else pl)).toArray }:Obj)=ob;have hobd:ob.data=.fields ([tb,.ref L,.none,rawInt L,.none]++(if pl.isEmpty then List.replicate 6 Value.none else pl)).toArray:=by rw[<- hob]
  have z1:h1'.objs.size=s.heap.objs.size:=hs1.1.trans hz;have ha1:h1'.get? a=some ⟨.ref C,dx,.fields vs,sl⟩:=(hs1.2.1 a naF).trans ha0;have ha2:=Heap.get?_push_of_some (h:=h1') ob ha1;have nT:h1'.objs.size≠a:=iZ (Heap.lt_size ha1);have ha3:=Heap.get?_update_self (Obj.mapFields (·.setIfInBounds 1 (Value.ref h1'.objs.size))) ha2 (Obj.isFreed_of_fields (Obj.data_mapFields rfl _));have hT3:=(Heap.get?_update_other (h1'.push ob) (Obj.mapFields (·.setIfInBounds 1 (Value.ref h1'.objs.size))) (Ne.symm nT)).trans (Heap.get?_push_size h1' (by rw[<- hob];rfl));have three:3<([tb,.ref L,.none,rawInt L,.none]++(if pl.isEmpty then List.replicate 6 Value.none else pl)).toArray.size:=by simp only[ik,iL,iM,jh];omega
  refine jK ha2 rfl sz (h _ h1'.objs.size (.inl (Nat.le_of_eq z1.symm)) nT ⟨_,sl,ha3,by simp[sz]⟩ ⟨_,_,hT3,hobd,three⟩ ?_);have up:∀b o,h1'.get? b=some o->b≠a->((h1'.push ob).update a (Obj.mapFields (·.setIfInBounds 1 (Value.ref h1'.objs.size)))).get? b=some o:=λb o e n=>by
   rw[Heap.get?_update_other _ _ (Ne.symm n)];exact Heap.get?_push_of_some _ e
  refine⟨λb o e n1 n2 n3=>up b o ((hs1.2.1 b n3).trans (k0 b o e n2)) n1,λb o e hb=>?_,λb o e=>?_⟩
  .obtain⟨o',e',n⟩:=frF b hb;rw[e]at e';cases e';have hbt:.ref b≠tb:=by
    rcases ht with rfl|⟨T,v,rfl,_,_,oT,ts,eT,dT,_⟩
    .exact λq=>by cases q
    .intro q;cases q;rw[e]at eT;cases eT;exact n ts dT
   obtain⟨sl',e1⟩:=hs1.2.2 b o (k0 b o e hbt);exact⟨sl',up b _ e1 λq=>naF (q ▸ hb)⟩
  .by_cases q:b=a
   .subst q;exact⟨_,ha3⟩
   .obtain⟨o0,e0⟩:=t0 b o e;obtain⟨sl',e1⟩:=hs1.2.2 b o0 e0;exact⟨_,up b _ e1 q⟩
 unfold noteFrame;simp only[hf];refine i8 (iG ha rfl h1 ?_);rcases ht with rfl|⟨T,v,rfl,nTa,hv,oT,ts,eT,dT,e3⟩
 .rw[ic (by decide)];exact main s.heap _ rfl ha (λb o e _=>e) (λb o e=>⟨o,e⟩) hl
 .rw[i9 (show(Value.ref T != Value.none)=true from by simp)];refine i8 (iG eT dT e3 ?_);rcases hv with rfl|rfl
  .rw[ic (by simp[rawInt])];refine i8 (jK eT dT (Array.getElem?_eq_some_iff.mp e3).1 ?_);have oth:∀b,b≠T->(s.heap.update T (Obj.mapFields (·.setIfInBounds 3 Value.none))).get? b=s.heap.get? b:=λb n=>Heap.get?_update_other _ _ (Ne.symm n);refine main _ _ (by simp) ((oth a (Ne.symm nTa)).trans ha) (λb o e n=>(oth b λq=>n (by rw[q])).trans e) (λb o e=>?_) (hl.of_keeps λb o e n=>⟨o,(oth b λq=>?_).trans e,rfl⟩)
   .by_cases q:b=T
    .subst q;exact⟨_,Heap.get?_update_self _ eT (Obj.isFreed_of_fields (Obj.data_mapFields dT _))⟩
    .exact⟨o,(oth b q).trans e⟩
   .subst q;rw[eT]at e;cases e;exact n ts dT
  .rw[i9 (by simp)];exact ie (h s.heap T (.inr rfl) nTa he0 ⟨oT,ts,eT,dT,(Array.getElem?_eq_some_iff.mp e3).1⟩ ⟨λb o e _ _ _=>e,λb o e _=>⟨o.slots,e⟩,λb o e=>⟨o,e⟩⟩)
def Jg(v:Option Addr){Q:Unit->Shared->Prop}(hfr:A.frames=some (env::outer))(hl:s.heap.FunFrames base (env::outer))(hf:env.frame=some L)(he:Exo s.heap a C dx tb)(ht:TbL L s.heap a tb)
 (h:∀h' T,(s.heap.objs.size<=T∨tb=.ref T)->T≠a->Exo h' a C dx (.ref T)->Pm v h' T->Note (frs (env::outer)) a tb s.heap h'->Q () { s with heap:=h' }):
 wpAny M A (noteFrame (.ref a) env) (λ_ s2=>wpAny M A (setFlight (.ref a) v) Q E s2) E s:=by
 refine Nx hfr hl hf he ht λh' T hT nT ex tr N=>?_;obtain⟨vs,sl,ha,h1⟩:=id ex;obtain⟨oT,ts,eT,dT,lt⟩:=tr;unfold setFlight;refine i8 (iG (s:={ s with heap:=h' }) ha rfl h1 ?_);rw[i9 (show(Value.ref T != Value.none)=true from by simp)];have oth:∀b,b≠T->(h'.update T (Obj.mapFields (·.setIfInBounds 3 (v.elim Value.none λf=>rawInt f)))).get? b=h'.get? b:=λb n=>Heap.get?_update_other _ _ (Ne.symm n);have nF:T∉frs (env::outer):=λhb=>by
  obtain⟨o,e,n⟩:=(hl.mem hb).2;rcases hT with z|z
  .exact absurd (Heap.lt_size e) (not_lt.mpr z)
  .rcases ht with y|⟨T',v',y,_,_,oT',ts',eT',dT',_⟩
   .rw[y]at z;cases z
   .rw[y]at z;cases z;rw[e]at eT';cases eT';exact n ts' dT'
 refine jK (s:={ s with heap:=h' }) eT dT lt (h _ T hT nT ⟨vs,sl,(oth a (Ne.symm nT)).trans ha,h1⟩ ⟨_,_,Heap.get?_update_self _ eT (Obj.isFreed_of_fields (Obj.data_mapFields dT _)),Obj.data_mapFields dT _,by simp[lt]⟩ ⟨λb o e n1 n2 n3=>?_,λb o e hb=>?_,λb o e=>?_⟩)
 .have:b≠T:=λz=>by
   subst z;rcases hT with z|z
   .exact absurd (Heap.lt_size e) (not_lt.mpr z)
   .exact n2 z.symm
  rw[oth b this];exact N.keep b o e n1 n2 n3
 .obtain⟨sl',e1⟩:=N.slot b o e hb;exact⟨sl',(oth b λz=>nF (z ▸ hb)).trans e1⟩
 .obtain⟨o',e1⟩:=N.there b o e;by_cases z:b=T
  .subst z;exact⟨_,Heap.get?_update_self _ eT (Obj.isFreed_of_fields (Obj.data_mapFields dT _))⟩
  .exact⟨o',(oth b z).trans e1⟩
def UO{Q:Unit->Shared->Prop}(hfr:A.frames=some (env::outer))(hl:s.heap.FunFrames base (env::outer))(hf:env.frame=some L)(he:Exo s.heap a C dx tb)(ht:TbL L s.heap a tb)
 (h:∀h' T,(s.heap.objs.size<=T∨tb=.ref T)->T≠a->Exo h' a C dx (.ref T)->Pm none h' T->Note (frs (env::outer)) a tb s.heap h'->Q () { s with heap:=h' }):wpAny M A (leaving env (.ref a)) Q E s:=by
 unfold leaving;exact i8 (Jg none hfr hl hf he ht h)
end
def XE(X:Cx)(pins:List (Addr×Obj))(Q:VK)(e:Value)(s':Shared):Prop:=∃a C dx tb fs σ' H',e=.ref a/\Inv X pins σ' H' s'/\Exo s'.heap a C dx tb/\TbL X.env.locals s'.heap a tb/\H' a=some (.ext (XO a C dx))/\
 (∀T,tb=.ref T->H' T=none/\New X pins T)/\XdAt H' dx fs/\Q (.ref a) H'
def CXG(P:Program)(w:World):CXT:=λouter H s E e s'=>∃a C dx T fs H',e=.ref a/\s'.os=s.os/\AllBare s'.gens/\Un (frs outer) [] H H' s.heap s'.heap/\HOk P w H' s'.heap/\Exo s'.heap a C dx (.ref T)/\T≠a/\Pm none s'.heap T /\
 H' T=none/\s.heap.objs.size<=T/\H' a=some (.ext (XO a C dx))/\XdAt H' dx fs/\E (.ref a) none H'
section
variable{X:Cx}{pins:List (Addr×Obj)}{σ:St}{H:Hp}{s s':Shared}{Q:VK}{e:Value}
def Sg{P:Program}{w:World}{K:Frag}{mg:Str->Option Value}{base:Heap}{N:List Str}{qual:Str}{scope:Scope}{fa:Addr}{cd:Value}{A:Around}{outer:List Env}{E:XK}{CX:CXT}{M:Model}{E':Value->Shared->Prop}
 (h:XE (Do CX P w K mg base N qual scope fa cd A outer s H E).nox pins Q e s') (hq:∀a H',Q (.ref a) H'->E (.ref a) none H'):
 wpAny M (A.deeper (envOfC qual scope s.heap.objs.size fa cd)) (leaving (envOfC qual scope s.heap.objs.size fa cd) e) (λ_ s''=>CXG P w outer H s E e s'') E' s':=by
 obtain⟨a,C,dx,tb,fs,σ',H',rfl,I,ex,ht,ha,hT,hd,q⟩:=h;have fr:=I.ok.frames;refine UO (base:=base) (L:=s.heap.objs.size) fr I.stack rfl ex ht λh' T z nT ex' tr Nt=>?_;have hfs:∀b∈frs (envOfC qual scope s.heap.objs.size fa cd::outer),H' b=none:=I.stkFree;have hok':=MM I.hok Nt ex' ha (λT e=>(hT T e).1) hfs;have nx:∀b,b∉(Do CX P w K mg base N qual scope fa cd A outer s H E).nox.ex:=λb z=>absurd (show b∈([]:List Addr)from z) (by simp);have u:=I.base;have out:∀b o,s.heap.get? b=some o->H b=none->b≠a/\.ref b≠tb/\b≠s.heap.objs.size:=λb o e n=>by
  have n':H' b=none:=u.free b o e n (nx b);refine⟨(λz=>by subst z;rw[ha]at n';cases n'),λz=>?_,iq (Heap.lt_size e)⟩;rcases(hT b z.symm).2.1 with y|y
  .exact absurd y (nx b)
  .exact absurd (iC (Heap.lt_size e) y) (iN _)
 have inF:∀b,b∈frs (envOfC qual scope s.heap.objs.size fa cd::outer)->b=s.heap.objs.size∨b∈frs outer:=λb hb=>by
  have:frs (envOfC qual scope s.heap.objs.size fa cd::outer)=s.heap.objs.size::frs outer:=rfl;rw[this]at hb;exact mem_cons.mp hb
 have tf:H' T=none/\s.heap.objs.size<=T:=by
  rcases z with z|z
  .exact⟨I.hok.fresh z,iJ I.sz z⟩
  .refine⟨(hT T z).1,?_⟩;rcases(hT T z).2.1 with y|y
   .exact absurd y (nx T)
   .exact y
 refine⟨a,C,dx,T,fs,H',rfl,I.os,I.bare,⟨λb o e n nf _=>?_,λb o e n hf _=>?_,λb o e n _=>u.free b o e n (nx b),λb o e _=>?_,u.tups,u.frzs,u.tbls⟩,hok',ex',nT,tr,tf.1,tf.2,ha,hd,hq a H' q⟩
 .obtain⟨n1,n2,n3⟩:=out b o e n;exact Nt.keep b o (u.keep b o e n nf (nx b)) n1 n2 λhb=>(inF b hb).elim n3 nf
 .obtain⟨sl,e1⟩:=u.slot b o e n hf (nx b);obtain⟨sl',e2⟩:=Nt.slot b _ e1 (by
   show b∈s.heap.objs.size::frs outer;exact iK _ hf)
  exact⟨sl',e2⟩
 .obtain⟨o',e1⟩:=u.there b o e (nx b);exact Nt.there b o' e1
def K8{E:XK}(I:Inv X pins σ H s)(h:CXG X.prog X.w X.stack H s E e s')(hq:∀a H',E (.ref a) none H'->Q (.ref a) H'):XE X pins Q e s':=by
 obtain⟨a,C,dx,T,fs,H',rfl,os,bare,un,hok,ex,nT,tr,hT,z,ha,hd,q⟩:=h;exact⟨a,C,dx,.ref T,fs,σ,H',rfl,I.call' (ch:=[]) os un hok bare (λb z=>absurd z (by simp)),ex,.inr ⟨T,none,rfl,nT,.inl rfl,tr⟩,ha,λT' e=>by cases e;exact⟨hT,I.new z⟩,hd,hq a H' q⟩
end
section
variable{X:Cx}{C fI:Addr}{f:Str}{pos pos':Pos}{value o e:Expr}{ta tv te:TE}
def cr(K:Frag)(ta tv:TE)(f:Str):TS:=λD σ H=>tv σ H λy H1=>ta σ H1 λx H2=>∃a C t fI,x=.ref a/\H2 a=some (.ext (X0 a C t))/\XC K C fI/\DY K C f /\
 ∀dx,H2 dx=none->dx≠a->D.nx σ (upd (upd H2 dx (.xd [(f,y)])) a (.ext (X1 a C dx t)))
def Mg{P:Program}{w:World}{H:Hp}{h:Heap}{a:Addr}{o:Obj}(e:h.get? a=some o):ObjOk P w H h a (.ext λh=>h.get? a=some o):=⟨e,⟨_,e⟩,λ_ _ x k=>k _ x⟩
def XM(ha:PE X o ta)(hv:PE X value tv)(hs:swapsWith value (some (.Attribute o f pos')) pos.line X.env=pure false):PS X (.Assign [.Attribute o f pos'] value pos) (cr X.K ta tv f):=by
 intro pins s σ H D I h;refine plainObj_wpAny_Assign_Attribute (thn (hv pins s σ H _ I h) λuv s1 ⟨y,H1,I1,ry,q⟩=>thn (ha pins s1 σ H1 _ I1 q) λov s2 ⟨x,H2,I2,rx,a,C,t,fI,ex,ea,c,n,q2⟩=>?_) hs;subst ex;obtain rfl:ov=Value.ref a:=rx;obtain⟨x0,_⟩:=(show ObjOk X.prog X.w H2 s2.heap a (.ext (X0 a C t))from I2.hok a _ ea)
 have hx:s2.heap.get? a=some ⟨.ref C,none,.fields #[.ref t,.none,.none,.none,.bool false,.none],#[]⟩:=x0;refine W7 I2.kIn c hx n λh' e1 e2 k=>⟨σ,_,?_,q2 s2.heap.objs.size (I2.hok.fresh (ig _)) (iZ (Heap.lt_size hx))⟩
 have nd:H2 s2.heap.objs.size=none:=I2.hok.fresh (ig _);have nda:s2.heap.objs.size≠a:=iZ (Heap.lt_size hx);have old:∀b u,H2 b=some u->b≠a->(upd (upd H2 s2.heap.objs.size (.xd [(f,y)])) a (.ext (X1 a C s2.heap.objs.size t))) b=some u:=λb u q n=>by
  rw[AF n,AF (Ac q nd)];exact q
 have non:∀b o,s2.heap.get? b=some o->H2 b=none->(upd (upd H2 s2.heap.objs.size (.xd [(f,y)])) a (.ext (X1 a C s2.heap.objs.size t))) b=none/\b≠a:=λb o q n=>by
  have n1:b≠a:=λz=>by rw[z,ea]at n;cases n
  exact⟨by rw[AF n1,AF (iq (Heap.lt_size q))];exact n,n1⟩
 refine I2.un ⟨λb o q n _ _=>k b o (non b o q n).2 q,λb o q n _ _=>⟨o.slots,k b o (non b o q n).2 q⟩,λb o q n _=>(non b o q n).1,λb o q _=>?_,λb xs q=>old b _ q (λz=>by rw[z,ea]at q;cases q),λb o u q=>old b _ q (λz=>by rw[z,ea]at q;cases q),
  λb ps q=>⟨#[],by rw[old b _ q (λz=>by rw[z,ea]at q;cases q)];simp⟩⟩ λb u q=>?_
 .by_cases z:b=a
  .subst z;exact⟨_,e1⟩
  .exact⟨o,k b o z q⟩
 .by_cases z:b=a
  .subst z;rw[AJ]at q;cases q;exact Mg e1
  .rw[AF z]at q;by_cases z':b=s2.heap.objs.size
   .subst z';rw[AJ]at q;cases q;refine⟨_,e2,λg=>?_⟩;show Uz (List.lookup g [(f,y)]) (if g=f then some uv else none);by_cases gz:g=f
    .subst gz;rw[i9 rfl,List.lookup_cons_self];exact ry
    .have g':(g==f)=false:=by simpa using gz
     rw[ic gz];unfold List.lookup;rw[g'];exact True.intro
   .rw[AF z']at q;refine(I2.hok b u q).stay (λc v hc r=>k c v ?_ r) (λc r=>old c _ r ?_) λc xs r=>old c _ r ?_
    .rcases hc with rfl|hc
     .exact z
     .intro zz;rw[zz,ea]at hc;cases hc
    .intro zz;rw[zz,ea]at r;cases r
    .intro zz;rw[zz,ea]at r;cases r
end
end L2
namespace L2
open PySem PySem.Spec PyProof.Rows
open Builtin Builtin.ObjectAttr
section
variable{prog:Program}{w:World}{A:Around}{E:Value->Shared->Prop}{s:Shared}{K:Frag}{C fI x dx:Addr}{name:Str}{v:Value}{mA:Str->Option Value}
def T9{sl:Array (Option Value)}{vs:Array Value}{ns:List Str}{Q:Unit->Shared->Prop}(X:K.In s.heap)(c:XC K C fI)(hx:s.heap.get? x=some ⟨.ref C,some dx,.fields vs,sl⟩)(hn:s.heap.Ns1 dx mA)(hw:Within mA ns)(hl:ns.length<=100)(na:findIn K (.ref C) name=some none)
 (h:∀h',h'.Ns1 dx (λy=>if y=name then some v else mA y)->(∀b o,b≠dx->s.heap.get? b=some o->h'.get? b=some o)->Q () { s with heap:=h',toks:=s.toks+2 }):
 wpAny (model prog w) A (setAttr (.ref x) name v) Q E s:=by
 have SF:=PySem.F.store_object;obtain⟨od,ho,_⟩:=Gh hn;have I:PySem.W.InstAt s.heap x ⟨.ref C,some dx,.fields vs,sl⟩ C (some od):=⟨hx,rfl,rfl,ho⟩
 obtain⟨cd,hc,ov,hd⟩:=c.cls;have ne:cd.mro.isEmpty=false:=by cases q:cd.mro with|nil=>rw[q]at ov;cases ov|cons _ _=>rfl
 have sub:Looks (model prog w) s.heap (isInstance (.ref x) (.type "object")) true:=
  I.type.andThen (PySem.W.looks_mroIn X (by unfold mroIn;rw[hc,bind_some,ic (by rw[ne];decide),ov.has (by decide +kernel)]))
 have hm:Looks (model prog w) s.heap (mroOf (.ref C)) cd.mro:=(PySem.W.looks_clsIn X hc).andThen .now;refine PySem.W.set_plain X I c.sa (codeAny_call_builtin SF.slot.plain SF.entry (@PySem.W.check_slot (model prog w) _ _ _ "object.__setattr__" "object" "__setattr__" (.ref x) [.str name s.toks,v] [] _ SF.kind SF.split sub (SF.args (.ref x) (.str name s.toks) v) ?_));rw[PySem.W.osa_eq,refuse_eq];refine i8 (i8 (I.type.here (s:={ s with toks:=s.toks+1 }) (i8 (hm.here (s:={ s with toks:=s.toks+1 }) ?_))));rw[ov.sa];refine ie (i8 (I.type.here (s:={ s with toks:=s.toks+1 }) (i8 ((PySem.W.looks_findIn X na).here (s:={ s with toks:=s.toks+1 }) (i8 (ie ?_))))));refine i8 (ie (i8 (i8 (wpAny_loadPart hx (i8 (PySem.W.Looks.here (s:={ s with toks:=s.toks+1 }) (PySem.W.looks_clsIn X hc) ?_))))));rw[hd];refine ie ?_;show wpAny _ _ (storeInDict dx (.str name s.toks) name v) _ _ _;unfold storeInDict newKeyGuard;refine i8 (ie (i8 (wpAny_nsSet1 hn λh' hn' hs=>?_)));obtain⟨oD,esD,epD,hoD,hdD,hcD⟩:=hn'.count (hw.cons name v);refine i8 (wpAny_lookBehind hoD (by rw[hdD];exact pastItsLine_dict (iJ hcD (by rw[iM,je];omega))) ?_);exact ie (h h' hn' λb o n e=>(hs.2 b n).trans e)
end
section
variable{X:Cx}{C fI:Addr}{f:Str}{pos pos':Pos}{value o e:Expr}{ta tv te:TE}
def Z0(K:Frag)(ta tv:TE)(f:Str):TS:=λD σ H=>tv σ H λy H1=>ta σ H1 λx H2=>∃a C dx t fI fs,x=.ref a/\H2 a=some (.ext (X1 a C dx t))/\H2 dx=some (.xd fs)/\fs.length<=99/\fs.lookup f=none/\XC K C fI/\DY K C f /\
 D.nx σ (upd H2 dx (.xd (fs++[(f,y)])))
theorem MV{f g:Str}{y:V}:∀{fs:List (Str×V)},(fs++[(f,y)]).lookup g=match fs.lookup g with|some v=>some v|none=>if g=f then some y else none
 |[]=>by
  rw[nil_append,iA,List.lookup_nil];by_cases h:g=f
  .subst h;simp
  .have:(g==f)=false:=beq_eq_false_iff_ne.mpr h;simp[this,h]
 |(a,b)::fs=>by
   rw[iY,iA,iA];cases(g==a)with
   |true=>rfl
   |false=>exact MV (fs:=fs)
def Tw(ha:PE X o ta)(hv:PE X value tv)(hs:swapsWith value (some (.Attribute o f pos')) pos.line X.env=pure false):PS X (.Assign [.Attribute o f pos'] value pos) (Z0 X.K ta tv f):=by
 intro pins s σ H D I h;refine plainObj_wpAny_Assign_Attribute (thn (hv pins s σ H _ I h) λuv s1 ⟨y,H1,I1,ry,q⟩=>thn (ha pins s1 σ H1 _ I1 q) λov s2 ⟨x,H2,I2,rx,a,C,dx,t,fI,fs,ex,ea,ed,hl,hf,c,n,q2⟩=>?_) hs;subst ex;obtain rfl:ov=Value.ref a:=rx;obtain⟨x0,_⟩:=(show ObjOk X.prog X.w H2 s2.heap a (.ext (X1 a C dx t))from I2.hok a _ ea)
 have hx:s2.heap.get? a=some ⟨.ref C,some dx,.fields #[.ref t,.none,.none,.none,.bool false,.none],#[]⟩:=x0;obtain⟨mA,hn,hr⟩:=(show ObjOk X.prog X.w H2 s2.heap dx (.xd fs)from I2.hok dx _ ed)
 have hw:Within mA (fs.map (·.1)):=λg z=>by
  have:=hr g;cases lk:fs.lookup g with
  |none=>rw[lk]at this;cases mg:mA g with
   |none=>exact absurd mg z
   |some u=>rw[mg]at this;exact this.elim
  |some u=>
   refine mem_map.mpr ⟨(g,u),?_,rfl⟩;exact PySem.mem_of_lookup lk
 refine T9 I2.kIn c hx hn hw (by rw[iu];omega) n λh' e2 k=>⟨σ,_,?_,q2⟩
 have old:∀b u,H2 b=some u->b≠dx->(upd H2 dx (.xd (fs++[(f,y)]))) b=some u:=λb u q n=>by
  rw[AF n];exact q
 have non:∀b o,s2.heap.get? b=some o->H2 b=none->(upd H2 dx (.xd (fs++[(f,y)]))) b=none/\b≠dx:=λb o q n=>by
  have n1:b≠dx:=λz=>by rw[z,ed]at n;cases n
  exact⟨by rw[AF n1];exact n,n1⟩
 obtain⟨od,hod,_⟩:=Gh e2;refine I2.un ⟨λb o q n _ _=>k b o (non b o q n).2 q,λb o q n _ _=>⟨o.slots,k b o (non b o q n).2 q⟩,λb o q n _=>(non b o q n).1,λb o q _=>?_,λb xs q=>old b _ q (λz=>by rw[z,ed]at q;cases q),λb o u q=>old b _ q (λz=>by rw[z,ed]at q;cases q),
  λb ps q=>⟨#[],by rw[old b _ q (λz=>by rw[z,ed]at q;cases q)];simp⟩⟩ λb u q=>?_
 .by_cases z:b=dx
  .subst z;exact⟨_,hod⟩
  .exact⟨o,k b o z q⟩
 .by_cases z':b=dx
  .subst z';rw[AJ]at q;cases q;refine⟨_,e2,λg=>?_⟩;rw[MV];have hg:=hr g;by_cases gz:g=f
   .subst gz;rw[i9 rfl,hf,i9 rfl];exact ry
   .rw[ic gz,ic gz];cases lk:fs.lookup g with
    |none=>rw[lk]at hg;exact hg
    |some u=>rw[lk]at hg;exact hg
  .rw[AF z']at q;refine(I2.hok b u q).stay (λc v hc r=>k c v ?_ r) (λc r=>old c _ r ?_) λc xs r=>old c _ r ?_
   .rcases hc with rfl|hc
    .exact z'
    .intro zz;rw[zz,ed]at hc;cases hc
   .intro zz;rw[zz,ed]at r;cases r
   .intro zz;rw[zz,ed]at r;cases r
def spJ(C:Addr)(fs:List Str):Sp:=λvs H Q _=>∃a xs t,vs=.ref a::xs/\xs.length=fs.length/\H a=some (.ext (X0 a C t))/\(fs=[]->Q .non H)/\(fs≠[]->∀dx,H dx=none->dx≠a->Q .non (upd (upd H dx (.xd (fs.zip xs))) a (.ext (X1 a C dx t))))
end
def UC{P:Program}{w:World}{K:Frag}{mg:Str->Option Value}{base:Heap}{qual:Str}{st:Stmt}{C fI fa:Addr}{fd:FuncData}{f1 f2:Str}{p1 p2 p3 p4 p5 p6 p7 p8:Pos}{w1 w2:Str}(F:Fun K "__init__" qual st fa fd)(S:FnScope ["self",w1,w2] ["self",w1,w2] (AB st))
 (hb:BW st=[.Assign [.Attribute (.Name "self" p1) f1 p2] (.Name w1 p3) p4,.Assign [.Attribute (.Name "self" p5) f2 p6] (.Name w2 p7) p8]) (c:XC K C fI) (n1:DY K C f1) (n2:DY K C f2) (ne:(f2==f1)=false)
 (hs1:∀cdv A outer s H E,swapsWith (.Name w1 p3) (some (.Attribute (.Name "self" p1) f1 p2)) p4.line (Do CX0 P w K mg base ["self",w1,w2] qual (AB st) fa cdv A outer s H E).env=pure false)
 (hs2:∀cdv A outer s H E,swapsWith (.Name w2 p7) (some (.Attribute (.Name "self" p5) f2 p6)) p8.line (Do CX0 P w K mg base ["self",w1,w2] qual (AB st) fa cdv A outer s H E).env=pure false)
 (v0:Vis (AB st) "self") (v1:Vis (AB st) w1) (v2:Vis (AB st) w2) (d1:(w1==("__debug__":Str))=false) (d2:(w1==("__classdict__":Str))=false) (d3:(w2==("__debug__":Str))=false) (d4:(w2==("__classdict__":Str))=false):FnOk P w K mg base CX0 1 fa fd ["self",w1,w2] (spJ C [f1,f2]):=by
 refine F.ok (N:=["self",w1,w2]) S (λvs H Q E h=>?_) λcdv A outer s H vs Q E hr hsp=>?_
 .obtain⟨a,xs,t,rfl,hl,_⟩:=h
  match xs,hl with
  |[x,y],_=>rfl
 .rw[hb];refine⟨_,MF (XM (GY (i:=0) rfl v0 (by decide) (by decide)) (GY (i:=1) rfl v1 d1 d2) (hs1 cdv A outer s H E)) (Nl (Tw (GY (i:=0) rfl v0 (by decide) (by decide)) (GY (i:=2) rfl v2 d3 d4) (hs2 cdv A outer s H E))),?_⟩;obtain⟨a,xs,t,rfl,hl,ha,q⟩:=hsp
  match xs,hl with
  |[x,y],_=>
  refine⟨x,rfl,.ref a,rfl,a,C,t,fI,rfl,ha,c,n1,λdx nd na=>?_⟩;refine⟨y,rfl,.ref a,rfl,a,C,dx,t,fI,[(f1,x)],rfl,AJ,by rw[AF na,AJ],by simp,by rw[iA,ne];rfl,c,n2,?_⟩;have e:upd (upd (upd H dx (.xd [(f1,x)])) a (.ext (X1 a C dx t))) dx (.xd ([(f1,x)]++[(f2,y)]))=upd (upd H dx (.xd ([f1,f2].zip [x,y]))) a (.ext (X1 a C dx t)):=by
   funext b;unfold upd
   by_cases z1:b=dx
   .have:b≠a:=λz=>na (z1 ▸ z);simp[z1,na]
   .by_cases z2:b=a
    .subst z2;simp[Ne.symm na]
    .simp[z1,z2]
  have:=q.2 (by simp) dx nd na;rw[<- e]at this;exact this
end L2
namespace L2
open PySem PySem.Spec PyProof.Rows
section
variable(C:Addr)(f:Str)
def Ends.non(D:Ends):Ends:={ D with rt:=λ_ _=>False }
end
section
variable{C fI:Addr}{f:Str}{X:Cx}{st:Stmt}{rest:List Stmt}{t u:TS}{e:Expr}{es:List Expr}{te tb:TE}{pos:Pos}
def thx{α:Type}{M:Model}{A:Around}{m:Sem α}{P Q:α->Shared->Prop}{E E':Value->Shared->Prop}{s:Shared}(h:wpAny M A m P E s)(k:∀v s,P v s->Q v s)(j:∀e s,E e s->E' e s):wpAny M A m Q E' s:=iw h k j
def LX(t:TS):TS:=λD σ H=>t D.non σ H
def OY(ta te:TE):TE:=λσ H Q=>ta σ H λ_ H1=>te σ H1 Q
end
section
variable{X:Cx}{pins:List (Addr×Obj)}{σ:St}{H:Hp}{s:Shared}{C fI a dx:Addr}{f:Str}
def Q6{M:Model}{A:Around}{E:Value->Shared->Prop}{i:Nat}{x:Str}{v:V}{Q:Unit->Shared->Prop}(I:Inv X pins σ H s)(hN:X.N.Nodup)(hi:X.N[i]?=some x)(hk:X.env.scope.names.lookup x=some .local)(hv:σ[i]?=some (some v))
 (h:∀s',Inv X pins (σ.set i none) H s'->Q () s'):wpAny M A (unbindName X.env x) Q E s:=by
 obtain⟨m,hn,hl⟩:=id I.loc;have hcls:(X.env.scope.kind==.class||(X.env.scope.kind==.module&&X.env.locals != X.env.globals))=false:=by rw[I.ok.kind];rfl
 have hiσ:i<σ.length:=by rw[I.len];exact(List.getElem?_eq_some_iff.mp hi).1
 obtain⟨u,_,lk⟩:=hl i x v hi hv (.inl hk);have mu:m x=some u:=by
  rcases lk with⟨_,e⟩|⟨k,_⟩
  .exact e
  .rcases k with k|k<;>(have k':X.env.scope.names.lookup x=_:=k;rw[hk]at k';cases k')
 refine wpAny_unbindName_local hk hn mu hcls λh' u' hn' hs=>?_;obtain⟨oL,_,_,hoL,_⟩:=id hn;have low:∀b o,X.s₀.heap.get? b=some o->b≠X.env.locals:=λb o e=>iq (iC (Heap.lt_size e) I.ok.above);refine h _ ⟨I.ok,I.os,I.bare,⟨λb o e n hb hx=>(hs.2 b (low b o e)).trans (I.base.keep b o e n hb hx),λb o e n hb hx=>?_,I.base.free,λb o e hx=>?_,I.base.tups,I.base.frzs,I.base.tbls⟩,⟨_,hn',λj y v' e1 e2 e3=>?_⟩,λy c e=>?_,I.free,I.freeC,λp hp=>?_,λb ob e=>?_,by simpa using I.len⟩
 .obtain⟨sl,e1⟩:=I.base.slot b o e n hb hx;exact⟨sl,(hs.2 b (low b o e)).trans e1⟩
 .obtain⟨o',e1⟩:=I.base.there b o e hx;exact⟨o',(hs.2 b (low b o e)).trans e1⟩
 .by_cases hj:j=i
  .subst hj;rw[List.getElem?_set_self hiσ]at e2;cases e2
  .rw[List.getElem?_set_ne (Ne.symm hj)]at e2;obtain⟨u',r',q⟩:=hl j y v' e1 e2 e3;refine⟨u',r',?_⟩;rcases q with⟨k,e⟩|⟨k,c,e,z⟩
   .refine .inl ⟨k,?_⟩;have:y≠x:=λe=>hj (II hN e1 (e ▸ hi));simp[this,e]
   .exact .inr ⟨k,c,e,z.sameBut hs (I.cne y c e)⟩
 .obtain⟨w',z⟩:=I.cell y c e;exact⟨w',z.sameBut hs (I.cne y c e)⟩
 .obtain⟨e,n,ne,nf,d⟩:=I.pin p hp;exact⟨(hs.2 p.1 ne).trans e,n,ne,nf,d⟩
 .refine(I.hok b ob e).stay (λc w' hc q=>(hs.2 c ?_).trans q) (λ_ q=>q) λ_ _ q=>q;rintro rfl;rcases hc with z|hc
  .rw[<- z,I.free]at e;cases e
  .rw[I.free]at hc;cases hc
def IH{dx:Option Addr}{tb:Value}{T:Addr}{h':Heap}(I:Inv X pins σ H s)(ha:H a=some (.ext (XO a C dx)))(hT:∀T,tb=.ref T->H T=none/\New X pins T)(N:Note (frs X.stack) a tb s.heap h')(ex:Exo h' a C dx (.ref T)):Inv X pins σ H { s with heap:=h' }:=by
 have na:∀b,H b=none->b≠a:=λb n z=>by rw[z,ha]at n;cases n
 have hok:=MM I.hok N ex ha (λT e=>(hT T e).1) I.stkFree;have all:∀ch:List Addr,(∀b,.ref b=tb->b∈ch)->Un (frs X.stack) ch H H s.heap h':=λch hc=>
  ⟨λb o e n nf nc=>N.keep b o e (na b n) (λz=>nc (hc b z)) nf,λb o e n hf nc=>N.slot b o e hf,λ_ _ _ n _=>n,λb o e _=>N.there b o e,λ_ _ e=>e,λ_ _ _ e=>e,λb ps e=>⟨#[],by rw[e];simp⟩⟩
 by_cases q:∃T,tb=.ref T
 .obtain⟨T0,e⟩:=q;exact I.call' (s':={ s with heap:=h' }) (ch:=[T0]) rfl (all [T0] λb z=>by rw[e]at z;cases z;simp) hok I.bare λb hb=>by
   have:b=T0:=by simpa using hb
   subst this;exact(hT b e).2
 .exact I.call' (s':={ s with heap:=h' }) (ch:=[]) rfl (all [] λb z=>absurd ⟨b,z.symm⟩ q) hok I.bare λb hb=>absurd hb (by simp)
abbrev Cx.hand(X:Cx)(e:Value):Cx:={ X with A:=X.A.mark (some e),calm:=false,xe:=λ_ _=>False }
theorem Inv.hand(I:Inv X pins σ H s)(e:Value):Inv (X.hand e) pins σ H s:=
 ⟨⟨I.ok.mod,I.ok.kind,I.ok.glob,I.ok.blt,I.ok.above,I.ok.inj,I.ok.has,I.ok.cab,(λh=>by cases h),I.ok.frames,I.ok.stk,I.ok.exf,I.ok.bs,I.ok.bsz,I.ok.noex,I.ok.exfs,I.ok.funs,I.ok.frf⟩,I.os,I.bare,I.base,I.loc,I.cell,I.free,I.freeC,I.pin,I.hok,I.len⟩
def Inv.unhand{e:Value}(I:Inv (X.hand e) pins σ H s)(hd:X.calm=true->X.A.handled=none):Inv X pins σ H s:=
 ⟨⟨I.ok.mod,I.ok.kind,I.ok.glob,I.ok.blt,I.ok.above,I.ok.inj,I.ok.has,I.ok.cab,hd,I.ok.frames,I.ok.stk,I.ok.exf,I.ok.bs,I.ok.bsz,I.ok.noex,I.ok.exfs,I.ok.funs,I.ok.frf⟩,I.os,I.bare,I.base,I.loc,I.cell,I.free,I.freeC,I.pin,I.hok,I.len⟩
end
def GX(X:Cx)(st:Stmt)(t:TS):Prop:=
 ∀(pins:List (Addr×Obj)) (s:Shared) (σ:St) (H:Hp) (D:Ends),Inv X pins σ H s->t D σ H->wpAny (model X.prog X.w) X.A (exec st X.env) (SP X pins D.non) (XE X pins D.rt) s
def GXs(X:Cx)(st:List Stmt)(t:TS):Prop:=
 ∀(pins:List (Addr×Obj)) (s:Shared) (σ:St) (H:Hp) (D:Ends),Inv X pins σ H s->t D σ H->wpAny (model X.prog X.w) X.A (execs st X.env) (SP X pins D.non) (XE X pins D.rt) s
def GXE(X:Cx)(e:Expr)(t:TE):Prop:=
 ∀(pins:List (Addr×Obj)) (s:Shared) (σ:St) (H:Hp) (Q:VK),Inv X pins σ H s->t σ H Q->wpAny (model X.prog X.w) X.A (eval e X.env) (λ_ _=>False) (XE X pins Q) s
def GXA(X:Cx)(es:List Expr)(t:TE):Prop:=
 ∀(pos:Pos) (pins:List (Addr×Obj)) (s:Shared) (σ:St) (H:Hp) (Q:VK),Inv X pins σ H s->t σ H Q->wpAny (model X.prog X.w) X.A (spliced (backTo pos (starEach es X.env))) (λ_ _=>False) (XE X pins Q) s
section
variable{C fI:Addr}{X:Cx}{st:Stmt}{rest:List Stmt}{t u:TS}{e:Expr}{es:List Expr}{te tb:TE}{pos:Pos}
def O6(h:PS X.nox st t):GX X st (LX t):=λpins s σ H D I q=>thx (h pins s σ H D.non (I.wish _) q) (λ_ _ z=>z.unwish) λ_ _ z=>z.elim
def UW(h:PSs X.nox rest t):GXs X rest (LX t):=λpins s σ H D I q=>thx (h pins s σ H D.non (I.wish _) q) (λ_ _ z=>z.unwish) λ_ _ z=>z.elim
def UX(h1:GX X st t)(h2:GXs X rest u):GXs X (st::rest) (LW t u):=by
 intro pins s σ H D I h;refine jN (thx (h1 pins s σ H { D with nx:=u D } I h) (λfl s1 q=>?_) λ_ _ z=>z);cases fl with
 |next=>
  obtain⟨σ',H',I',q⟩:=q;exact h2 pins s1 σ' H' D I' q
 |ret v=>exact q
 |brk=>exact q
 |cont=>exact q
def YD(h1:GX X st t):GXs X [st] t:=by
 intro pins s σ H D I h;refine jN (thx (h1 pins s σ H D I h) (λfl s1 q=>?_) λ_ _ z=>z);cases fl with
 |next=>exact jn q
 |ret v=>exact q
 |brk=>exact q
 |cont=>exact q
def dh{c:Expr}{a b:List Stmt}{tc:TT}(hc:PT X.nox c tc)(ha:GXs X a t)(hb:GXs X b u):GX X (.If c a b pos) (LY tc t u):=by
 intro pins s σ H D I h;refine wpAny_If (thx (hc pins s σ H _ (I.wish _) h) (λd s1 ⟨H1,I1,q1⟩=>?_) λ_ _ z=>z.elim);cases d with
 |true=>exact ha pins s1 σ H1 D I1.unwish q1
 |false=>exact hb pins s1 σ H1 D I1.unwish q1
def bc(he:GXE X e te):GX X (.Return (some e) pos) (Fu te):=λpins s σ H D I h=>
 wpAny_Return_some (thx (he pins s σ H _ I h) (λ_ _ z=>z.elim) λ_ _ z=>z)
def YG(he:GXE X e te)(hs:swapsWith e none pos.line X.env=pure false:=by rfl):GX X (.Expr e pos) (Fu te):=λpins s σ H D I h=>
 wpAny_Expr_any (thx (he pins s σ H _ I h) (λ_ _ z=>z.elim) λ_ _ z=>z) I.quiet hs
def ba{x:Str}{pos':Pos}(he:GXE X e te)(hs:swapsWith e (some (.Name x pos')) pos.line X.env=pure false:=by rfl):GX X (.Assign [.Name x pos'] e pos) (Fu te):=λpins s σ H D I h=>
 wpAny_Assign_Name (thx (he pins s σ H _ I h) (λ_ _ z=>z.elim) λ_ _ z=>z) hs
def YF{c a b:Expr}{tc:TT}(hc:PT X.nox c tc)(ha:GXE X a te)(hb:GXE X b tb):GXE X (.IfExp c a b pos) (tIf tc te tb):=by
 intro pins s σ H Q I h;refine wpAny_IfExp (thx (hc pins s σ H _ (I.wish _) h) (λd s1 ⟨H1,I1,q1⟩=>?_) λ_ _ z=>z.elim);cases d with
 |true=>exact ha pins s1 σ H1 Q I1.unwish q1
 |false=>exact hb pins s1 σ H1 Q I1.unwish q1
def UY(he:GXE X e te)(hs:starEach (e::es) X.env=(false,eval e X.env)::starEach es X.env:=by rfl):GXA X (e::es) te:=by
 intro pos pins s σ H Q I h;rw[hs];show wpAny _ _ (spliced ((false,eval e X.env)::backTo pos (starEach es X.env))) _ _ s;exact Calls.spliced_cons (thx (he pins s σ H _ I h) (λ_ _ z=>z.elim) λ_ _ z=>z)
def Ru(ha:PE X.nox e tb)(hr:GXA X es te)(hs:starEach (e::es) X.env=(false,eval e X.env)::starEach es X.env:=by rfl):GXA X (e::es) (OY tb te):=by
 intro pos pins s σ H Q I h;rw[hs];show wpAny _ _ (spliced ((false,eval e X.env)::backTo pos (starEach es X.env))) _ _ s;refine Calls.spliced_cons (thx (ha pins s σ H _ (I.wish _) h) (λu s1 ⟨x,H1,I1,r1,q1⟩=>?_) λ_ _ z=>z.elim);exact thx (hr pos pins s1 σ H1 Q I1.unwish q1) (λ_ _ z=>z.elim) λ_ _ z=>z
def YE{x1}(h:GXA X es te):GXE X (.Tuple es x1 pos) te:=λpins s σ H Q I hq=>
 wpAny_Tuple_spliced (thx (h pos pins s σ H Q I hq) (λ_ _ z=>z.elim) λ_ _ z=>z)
def NG{pins pl:List (Addr×Obj)}{Q:VK}(hst:X.stack=X.env::X.outer/\X.env.frame=some X.env.locals):∀e s',XE X (pins++pl) Q e s'->notedBy (model X.prog X.w) X.A X.env (cameBackBy (model X.prog X.w) X.A X.env (XE X pins Q)) e s':=by
 rintro e s1 ⟨a,C,dx,tb,fs,σ',H',rfl,I',ex,ht,ha,hT',hd,q⟩;have I1:=I'.unpinned;have hT:∀T,tb=.ref T->H' T=none/\New X pins T:=λT e=>⟨(hT' T e).1,(hT' T e).2.1,(hT' T e).2.2.1,(hT' T e).2.2.2.1,λp hp=>(hT' T e).2.2.2.2 p (by
  rcases mem_append.mp hp with z|z
  .exact j5 _ z
  .exact ir _ (j5 _ z))⟩
 have fr:X.A.frames=some (X.env::X.outer):=by rw[<- hst.1];exact I1.ok.frames
 have fl0:s1.heap.FunFrames X.base (X.env::X.outer):=by rw[<- hst.1];exact I1.stack
 unfold notedBy cameBackBy;refine Nx (base:=X.base) fr fl0 hst.2 ex ht λh' T z nT ex' tr N=>?_;obtain⟨vs,sl,ea,e1⟩:=id ex';refine i8 (iG (s:={ s1 with heap:=h' }) ea rfl e1 ?_);rw[ic (by simp)];obtain⟨oT,ts,eT,dT,lt⟩:=tr;unfold setFlight;refine i8 (iG (s:={ s1 with heap:=h' }) ea rfl e1 ?_);rw[i9 (show(Value.ref T != Value.none)=true from by simp)];have oth:∀b,b≠T->(h'.update T (Obj.mapFields (·.setIfInBounds 3 (X.env.frame.elim Value.none λf=>rawInt f)))).get? b=h'.get? b:=λb n=>Heap.get?_update_other _ _ (Ne.symm n);have I2:Inv X pins σ' H' { s1 with heap:=h' }:=IH I1 ha hT (by rw[hst.1];exact N) ex';have nw:H' T=none/\New X pins T:=by
  rcases z with z|z
  .exact⟨I1.hok.fresh z,I1.new z⟩
  .exact hT T z
 have I3:=I2.turned (it:=T) (t':=s1.toks) (h':=h'.update T (Obj.mapFields (·.setIfInBounds 3 (X.env.frame.elim Value.none λf=>rawInt f)))) (λb o n e=>(Heap.get?_update_other _ _ (Ne.symm n)).trans e) nw.1 nw.2.2.1 nw.2.1 nw.2.2.2.1 nw.2.2.2.2;refine jK (s:={ s1 with heap:=h' }) eT dT lt ⟨a,C,dx,.ref T,fs,σ',H',rfl,I3,⟨vs,sl,(oth a (Ne.symm nT)).trans ea,e1⟩,.inr ⟨T,some X.env.locals,rfl,nT,.inr rfl,⟨_,_,Heap.get?_update_self _ eT (Obj.isFreed_of_fields (Obj.data_mapFields dT _)),Obj.data_mapFields dT _,by rw[hst.2];simp[lt]⟩⟩,ha,λT' e=>by cases e;exact nw,hd,q⟩
def bf{tg iter:Expr}{body:List Stmt}{wi:TI}{g:TG}{tb:TS}(hst:X.stack=X.env::X.outer/\X.env.frame=some X.env.locals)(hc:X.calm=true)(hi:PI X.nox tg iter wi)(hg:PG X.nox tg g)(hb:GXs X body tb)
 (hs:∀x,foldedSetIterable iter X.env x=pure x:=by intro _;rfl):GX X (.For tg iter body [] pos) (LZ wi g tb):=by
 intro pins s σ H D I h;have hp:PassesOwn (model X.prog X.w) X.A X.env (XE X pins D.rt):=λe s' z=>NG (pl:=[]) hst e s' (by rw[iS];exact z);refine wpAny_For (thx (hi pins s σ H _ (I.wish _) h) (λv s1 h1=>thx h1 (λitv s2 h2=>?_) λ_ _ z=>z.elim) λ_ _ z=>z.elim) hs;obtain⟨it,fp,tn,J,H2,e,I2',T,st2,f2,W,⟨m0,w0⟩,turn⟩:=h2;have I2:=I2'.unwish;subst e;have stat:∀{H':Hp},(∀b∈fp,H' b=none)->∀b∈fp,Bw X pins H' b:=λhn b hb=>⟨hn b hb,(f2 b hb).2⟩
 refine codeAny_forLoop_any (λn s'=>∃i σ' H',Inv X pins σ' H' s'/\tn i s'.heap/\(∀b∈fp,H' b=none)/\W i n σ' H') ?_ m0 ⟨0,σ,H2,I2,st2,λb hb=>(f2 b hb).1,w0⟩;rintro n s3 ⟨i,σ3,H3,I3,st3,fr3,w3⟩;rcases turn i n σ3 H3 w3 with⟨stop,qn⟩|⟨go,N,hN,step⟩
 .refine j8 hp (thn (T.done X rfl rfl rfl hc i pins s3 σ3 H3 _ I3 (stat fr3) st3 stop) λr s4 ⟨hr,I4⟩=>?_);subst hr;exact jn ⟨σ3,H3,I4,qn⟩
 .refine j8 hp (thn (T.item X rfl rfl rfl hc i pins s3 σ3 H3 _ I3 (stat fr3) st3 go) λr s4 ⟨u,hr,h4⟩=>?_);subst hr;refine j8 hp (thn h4 λ_ s5 ⟨x,H5,I5,r5,y5,st5,fr5⟩=>?_);have I5':=I5.pinned (stat fr5) (T.obj _ _ st5);refine thx (hg _ s5 σ3 H5 x u _ (I5'.wish _) r5 (step x H5 y5)) (λ_ s6 ⟨σ6,H6,I6,q6⟩=>?_) λ_ _ z=>z.elim;refine thx (hb _ s6 σ6 H6 _ I6.unwish q6) (λf s7 q7=>?_) (NG hst);have again:∀{σ7:St} {H7:Hp},Inv X (pins++DM fp s5.heap) σ7 H7 s7->N σ7 H7->∃m,m<n/\∃i σ' H',Inv X pins σ' H' s7/\tn i s7.heap/\(∀b∈fp,H' b=none)/\W i m σ' H':=λ{σ7 H7} I7 n7=>by
   obtain⟨m',hm,w7⟩:=hN σ7 H7 n7;refine⟨m',hm,i+1,σ7,H7,I7.unpinned,T.keep _ _ _ st5 λb hb o e=>(I7.pin (b,o) (ir _ (ir _ (BH hb e)))).1,λb hb=>?_,w7⟩;obtain⟨o,e,d⟩:=T.obj _ _ st5 b hb;exact(I7.pin (b,o) (ir _ (ir _ (BH hb e)))).2.1
  cases f with
  |next=>obtain⟨σ7,H7,I7,n7⟩:=q7;exact again I7 n7
  |cont=>obtain⟨σ7,H7,I7,n7⟩:=q7;exact again I7 n7
  |brk=>obtain⟨σ7,H7,I7,q7⟩:=q7;exact⟨σ7,H7,I7.unpinned,q7⟩
  |ret v=>obtain⟨_,_,_,_,_,z⟩:=q7;exact z.elim
def JQ(mg:Str->Option Value)(x:Str)(fs:List Str)(ta:TA):TS:=λD σ H=>ta σ H λvs H1=>vs.length=fs.length/\∀C,mg x=some (.ref C)->∀a dx,H1 a=none->H1 dx=none->dx≠a->D.rt (.ref a) (upd (upd H1 dx (.xd (fs.zip vs))) a (.ext (XO a C (some dx))))
def UZ{x:Str}{ps fs:List Str}{p p1:Pos}{k:Nat}{fd:FuncData}{ta:TA}(c:XC X.K C fI)(F:FnOk X.prog X.w X.K X.mg X.base CX0 k fI fd ps (spJ C fs))(hr:Room (k+1) X.A)(hb:Binds X.K fd ps [])(hl:ps.length=fs.length+1)(hl2:fs.length<=1000)(hne:fs≠[])(hcalm:X.calm=true)(hg:Gl X x)(hm:X.mg x=some (.ref C))(pa:PA X.nox (e::es) ta)
 (hdb:(x==("__debug__":Str))=false:=by decide) (hst:starEach (e::es) X.env=(false,eval e X.env)::starEach es X.env:=by rfl) (hpl:(backTo p1 (starEach es X.env)).any (·.1)=false:=by rfl):
 GX X (.Raise (some (.Call (.Name x p) (e::es) [] p1)) none pos) (JQ X.mg x fs ta):=by
 intro pins s σ H D I h;refine KH (I.ok.hd hcalm) c (jo (Dl I hg hm ?_ hdb));refine PySem.W.callWith_K (h₀:=X.base) I.ok.mod.kin c.kp (thx (pa p1 pins s σ H _ (I.wish _) h) (λus s1 ⟨vs,H1,I1',r,q⟩=>⟨I1'.kIn,?_⟩) λ_ _ z=>z.elim) hst hpl;have I1:=I1'.unwish;obtain⟨hv,q⟩:=q;have q:=q C hm;have hu:us.length=fs.length:=by rw[<- r.length];exact hv
 obtain⟨nm,qn,N,bs,bm,sn,sub,ab,col,dd,k0,k1,k2,k3,k5,lk,ov⟩:=c.at_;obtain⟨hh,g,d,tk,os⟩:=s1;refine My I1.kIn (I1.kIn _ _ lk) (ov.has (by decide +kernel)) (ov.not (by decide +kernel)) (ov.not (by decide +kernel)) c.init (beq_iff_eq.mp c.fn) (by show us.length<=sizeLine;rw[hu];exact iJ hl2 (by decide)) ?_;have ke:∀b o,hh.get? b=some o->((hh.push { cls:=.type "tuple",data:=.seq us.toArray }).push (E8 C hh.objs.size)).get? b=some o:=λb o e=>Heap.get?_push_of_some _ (Heap.get?_push_of_some _ e);have ea:((hh.push { cls:=.type "tuple",data:=.seq us.toArray }).push (E8 C hh.objs.size)).get? (hh.objs.size+1)=some (E8 C hh.objs.size):=Heap.get?_push_at (by rw[Heap.size_push]) rfl;have na:H1 (hh.objs.size+1)=none:=I1.hok.fresh (j7 _);have I2:=I1.laid (a:=hh.objs.size+1) (o:=.ext (X0 (hh.objs.size+1) C hh.objs.size)) (t':=tk) ke (j7 _) (Mg ea);refine jB (jf (F.run _ X.stack _ _ ⟨.ref (hh.objs.size+1)::us,[]⟩ (.ref (hh.objs.size+1)::us) (.ref (hh.objs.size+1)::vs)
  (λz H2=>z=.non/\∃dx,H2=upd (upd (upd H1 (hh.objs.size+1) (.ext (X0 (hh.objs.size+1) C hh.objs.size))) dx (.xd (fs.zip vs))) (hh.objs.size+1) (.ext (X1 (hh.objs.size+1) C dx hh.objs.size))/\H1 dx=none/\dx≠hh.objs.size+1) (λ_ _ _=>False)
  (hr.make C us []) (I2.env0.make C us []) (by have:=hb ⟨_,g,d,tk,os⟩ (.ref (hh.objs.size+1)::us) I2.kIn (by simp[hu,hl]);simpa using this) (.cons rfl r) ?_) λres s' hq=>?_)
 .refine⟨_,vs,hh.objs.size,rfl,hv,AJ,(λz=>absurd z hne),λ_ dx n1 n2=>⟨rfl,dx,rfl,by rw[AF n2]at n1;exact n1,n2⟩⟩
 .cases res with
  |error x=>exact hq.elim
  |ok fl=>
   cases fl with
   |next=>exact hq.elim
   |brk=>exact hq.elim
   |cont=>exact hq.elim
   |ret rv'=>
    obtain⟨z,H3,I3,rz,ez,dx,eH,nd,ne⟩:=I2.after hq;subst ez;have hA:H3 (hh.objs.size+1)=some (.ext (X1 (hh.objs.size+1) C dx hh.objs.size)):=by rw[eH];exact AJ
    obtain⟨x1,_⟩:=(show ObjOk X.prog X.w H3 s'.heap (hh.objs.size+1) (.ext (X1 (hh.objs.size+1) C dx hh.objs.size))from I3.hok _ _ hA)
    have x1:s'.heap.get? (hh.objs.size+1)=some ⟨.ref C,some dx,.fields #[.ref hh.objs.size,.none,.none,.none,.bool false,.none],#[]⟩:=x1;refine⟨rz,hh.objs.size+1,hh.objs.size,some dx,#[],rfl,I3.kIn,x1,hh.objs.size+1,C,some dx,.none,fs.zip vs,σ,upd H3 (hh.objs.size+1) (.ext (XO (hh.objs.size+1) C (some dx))),rfl,?_,⟨_,_,x1,rfl⟩,.inl rfl,AJ,(λT e=>by cases e),?_,?_⟩
    .exact I3.write (x:=hh.objs.size+1) (e:=hh.objs.size+1) (t':=s'.toks) (by rw[hA];exact True.intro) (.inl rfl) (λ_ _ _ e=>e) ⟨_,x1⟩ ⟨⟨_,_,_,x1,rfl⟩,⟨_,x1⟩,λh1 h2 ⟨tb,vs,sl,e,z⟩ k=>⟨tb,vs,sl,k _ e,z⟩⟩
    .show upd H3 _ _ dx=_;rw[AF ne,eH,AF ne,AJ]
    .have e2:upd H3 (hh.objs.size+1) (.ext (XO (hh.objs.size+1) C (some dx)))=upd (upd H1 dx (.xd (fs.zip vs))) (hh.objs.size+1) (.ext (XO (hh.objs.size+1) C (some dx))):=by
      rw[eH];funext b;unfold upd;by_cases z1:b=hh.objs.size+1
      .simp only[i9 z1]
      .simp only[ic z1]
     rw[e2];exact q _ dx na nd ne
def JR(mg:Str->Option Value)(x:Str):TS:=λD σ H=>∀C,mg x=some (.ref C)->∀a,H a=none->D.rt (.ref a) (upd H a (.ext (XO a C none)))
def Rv{x:Str}{ps:List Str}{p p1:Pos}{k:Nat}{fd:FuncData}(c:XC X.K C fI)(F:FnOk X.prog X.w X.K X.mg X.base CX0 k fI fd ps (spJ C []))(hr:Room (k+1) X.A)(hb:Binds X.K fd ps [])(hl:ps.length=1)(hcalm:X.calm=true)(hg:Gl X x)(hm:X.mg x=some (.ref C))(hdb:(x==("__debug__":Str))=false:=by decide):
 GX X (.Raise (some (.Call (.Name x p) [] [] p1)) none pos) (JR X.mg x):=by
 intro pins s σ H D I h;refine KH (I.ok.hd hcalm) c (jo (Dl I hg hm ?_ hdb));refine PySem.W.callWith_K0 I.kIn c.kp ?_;have q:=h C hm;obtain⟨nm,qn,N,bs,bm,sn,sub,ab,col,dd,k0,k1,k2,k3,k5,lk,ov⟩:=c.at_;obtain⟨hh,g,d,tk,os⟩:=s;refine My I.kIn (I.kIn _ _ lk) (ov.has (by decide +kernel)) (ov.not (by decide +kernel)) (ov.not (by decide +kernel)) c.init (beq_iff_eq.mp c.fn) (by show 0<=sizeLine;omega) ?_;have ke:∀b o,hh.get? b=some o->((hh.push { cls:=.type "tuple",data:=.seq ([]:List Value).toArray }).push (E8 C hh.objs.size)).get? b=some o:=λb o e=>Heap.get?_push_of_some _ (Heap.get?_push_of_some _ e);have ea:((hh.push { cls:=.type "tuple",data:=.seq ([]:List Value).toArray }).push (E8 C hh.objs.size)).get? (hh.objs.size+1)=some (E8 C hh.objs.size):=Heap.get?_push_at (by rw[Heap.size_push]) rfl;have na:H (hh.objs.size+1)=none:=I.hok.fresh (j7 _);have I2:=I.laid (a:=hh.objs.size+1) (o:=.ext (X0 (hh.objs.size+1) C hh.objs.size)) (t':=tk) ke (j7 _) (Mg ea);refine jB (jf (F.run _ X.stack _ _ ⟨[.ref (hh.objs.size+1)],[]⟩ [.ref (hh.objs.size+1)] [.ref (hh.objs.size+1)]
  (λz H2=>z=.non/\H2=upd H (hh.objs.size+1) (.ext (X0 (hh.objs.size+1) C hh.objs.size))) (λ_ _ _=>False)
  (hr.make C [] []) (I2.env0.make C [] []) (by have:=hb ⟨_,g,d,tk,os⟩ [.ref (hh.objs.size+1)] I2.kIn (by simp[hl]);simpa using this) (.cons rfl .nil) ?_) λres s' hq=>?_)
 .refine⟨_,[],hh.objs.size,rfl,rfl,AJ,(λ_=>⟨rfl,rfl⟩),λz=>absurd rfl z⟩
 .cases res with
  |error x=>exact hq.elim
  |ok fl=>
   cases fl with
   |next=>exact hq.elim
   |brk=>exact hq.elim
   |cont=>exact hq.elim
   |ret rv'=>
    obtain⟨z,H3,I3,rz,ez,eH⟩:=I2.after hq;subst ez;have hA:H3 (hh.objs.size+1)=some (.ext (X0 (hh.objs.size+1) C hh.objs.size)):=by rw[eH];exact AJ
    obtain⟨x1,_⟩:=(show ObjOk X.prog X.w H3 s'.heap (hh.objs.size+1) (.ext (X0 (hh.objs.size+1) C hh.objs.size))from I3.hok _ _ hA)
    have x1:s'.heap.get? (hh.objs.size+1)=some ⟨.ref C,none,.fields #[.ref hh.objs.size,.none,.none,.none,.bool false,.none],#[]⟩:=x1;refine⟨rz,hh.objs.size+1,hh.objs.size,none,#[],rfl,I3.kIn,x1,hh.objs.size+1,C,none,.none,[],σ,upd H3 (hh.objs.size+1) (.ext (XO (hh.objs.size+1) C none)),rfl,?_,⟨_,_,x1,rfl⟩,.inl rfl,AJ,(λT e=>by cases e),rfl,?_⟩
    .exact I3.write (x:=hh.objs.size+1) (e:=hh.objs.size+1) (t':=s'.toks) (by rw[hA];exact True.intro) (.inl rfl) (λ_ _ _ e=>e) ⟨_,x1⟩ ⟨⟨_,_,_,x1,rfl⟩,⟨_,x1⟩,λh1 h2 ⟨tb,vs,sl,e,z⟩ k=>⟨tb,vs,sl,k _ e,z⟩⟩
    .have e2:upd H3 (hh.objs.size+1) (.ext (XO (hh.objs.size+1) C none))=upd H (hh.objs.size+1) (.ext (XO (hh.objs.size+1) C none)):=by
      rw[eH];funext b;unfold upd;by_cases z1:b=hh.objs.size+1
      .simp only[i9 z1]
      .simp only[ic z1]
     rw[e2];exact q _ na
end
section
variable{X:Cx}
def cZ(K:Frag)(B:Addr)(D:Ends)(th:TS)(g:Addr->St)(u:St->St):VK:=λv H'=>∃a C dx fs,v=.ref a/\H' a=some (.ext (XO a C dx))/\XdAt H' dx fs/\PySem.W.exmOne K (.ref C) (.ref B)=some true /\
 th ⟨λσ2 H2=>D.nx (u σ2) H2,λ_ _=>False,λ_ _=>False,λ_ _=>False⟩ (g a) H'
def Yl(K:Frag)(mg:Str->Option Value)(xB:Str)(D:Ends)(th:TS)(g:Addr->St)(u:St->St):VK:=λv H'=>∀B,mg xB=some (.ref B)->cZ K B D th g u v H'
def Ij(K:Frag)(mg:Str->Option Value)(xB:Str)(tb tx th:TS)(i:Option Nat):TS:=λD σ H=>tb D σ H∨tx ⟨λ_ _=>False,Yl K mg xB D th (λa=>match i with|some i=>(List.replicate σ.length none).set i (some (.ref a))|none=>List.replicate σ.length none) (λσ2=>match i with|some i=>σ2.set i none|none=>σ2),λ_ _=>False,λ_ _=>False⟩ σ H
def Pu{h:Heap}{a C C':Addr}{dx dx':Option Addr}{tb:Value}(ex:Exo h a C dx tb)(e:HO.ext (XO a C dx)=.ext (XO a C' dx')):C'=C:=by
 have e1:XO a C dx=XO a C' dx':=by injection e
 have x:XO a C' dx' h:=by rw[<- e1];exact⟨tb,ex⟩
 obtain⟨tb',vs',sl',q',_⟩:=x;obtain⟨vs,sl,q,_⟩:=ex;rw[q]at q';have:=iP Obj.cls (Option.some.inj q');exact(Value.ref.inj this).symm
def XQ{i:Nat}{B:Addr}{xB n:Str}{pB ph pos:Pos}{body suite:List Stmt}{b0:Stmt}{tb tx th:TS}(hst:X.stack=X.env::X.outer/\X.env.frame=some X.env.locals)(hb:PSs X.nox body tb)(hx:GXs X body tx)(hg:Gl X xB)(hm:X.mg xB=some (.ref B))
 (hN:X.N.Nodup) (hi:X.N[i]?=some n) (hl:X.env.scope.names.lookup n=some .local) (hh:∀a,PSs (X.hand (.ref a)) (b0::suite) th) (hdb:(xB==("__debug__":Str))=false:=by decide):
 PS X (.Try body [.ExceptHandler (some (.Name xB pB)) (some n) (b0::suite) ph] [] [] pos) (Ij X.K X.mg xB tb tx th (some i)):=by
 intro pins s σ H D I h;refine wpAny_Try_except ?_;rcases h with h|h
 .refine thx (hb pins s σ H D (I.wish _) h) (λfl s1 q=>?_) λ_ _ z=>z.elim;have q:=q.unwish;cases fl with
  |next=>exact jn q
  |ret v=>exact q
  |brk=>exact q
  |cont=>exact q
 .refine thx (hx pins s σ H _ I h) (λfl s1 q=>?_) λe s1 q=>?_
  .cases fl with
   |next=>obtain⟨_,_,_,z⟩:=q;exact z.elim
   |ret v=>obtain⟨_,_,_,_,_,z⟩:=q;exact z.elim
   |brk=>obtain⟨_,_,_,z⟩:=q;exact z.elim
   |cont=>obtain⟨_,_,_,z⟩:=q;exact z.elim
  .obtain⟨a,C,dx,tb',fs,σ',H',rfl,I1,ex,ht,ha,hT,hd,q⟩:=q;have fr:X.A.frames=some (X.env::X.outer):=by rw[<- hst.1];exact I1.ok.frames
   have fl0:s1.heap.FunFrames X.base (X.env::X.outer):=by rw[<- hst.1];exact I1.stack
   refine Jg none (base:=X.base) fr fl0 hst.2 ex ht λh' T z nT ex' tr N=>?_;have I2:Inv X pins σ' H' { s1 with heap:=h' }:=IH I1 ha hT (by rw[hst.1];exact N) ex';have LT:Looks (model X.prog X.w) h' (typeOf (.ref a)) (.ref C):=by
    obtain⟨vs,sl,e,_⟩:=ex';exact(PySem.W.Looks.ld e).andThen .now
   obtain⟨a',C',dx',fs',ea',ha',hd',hB,q⟩:=q B hm;cases ea';obtain rfl:=Pu ex (Option.some.inj (ha.symm.trans ha'));refine wpAny_handleBy_cons (codeAny_handlers_test (Dl (X:=X.hand (.ref a)) (I2.hand _) hg hm ?_ hdb)) (by intro q;cases q);refine PySem.W.Looks.here (s:={ s1 with heap:=h' }) (PySem.W.exm_one I2.kIn LT hB) ?_;refine codeAny_handlers_suite_as ?_;obtain⟨vs,sl,ea,e1⟩:=id ex';obtain⟨oT,ts,eT,dT,e3⟩:=tr;refine wpAny_setFlight_none (s:={ s1 with heap:=h' }) ea rfl e1 eT dT (Array.getElem?_eq_some_iff.mp e3).1 ?_;have nw:H' T=none/\New X pins T:=by
    rcases z with z|z
    .exact⟨I1.hok.fresh z,I1.new z⟩
    .exact hT T z
   have I3:=I2.turned (it:=T) (t':=s1.toks) (h':=h'.update T (Obj.mapFields (·.setIfInBounds 3 Value.none))) (λb o n e=>(Heap.get?_update_other _ _ (Ne.symm n)).trans e) nw.1 nw.2.2.1 nw.2.1 nw.2.2.2.1 nw.2.2.2.2;have I3':=I3.weak (σ':=List.replicate σ.length none) (by rw[jD,I.len,I3.len]) λi v e=>by
    rw[List.getElem?_replicate]at e;split at e<;>cases e
   refine C5 (v:=.ref a) I3' hN hi (.inl hl) rfl (λs4 I4=>?_) (.inr hl);refine thx (hh a pins s4 _ H' _ (I4.hand _) q) (λfl s5 q5=>?_) λ_ _ z=>z.elim;cases fl with
   |next=>
    obtain⟨σ2,H2,I5,q6⟩:=q5;have I5:=I5.unhand I.ok.hd;show wpAny _ _ (do bindName X.env n .none;unbindBehindTheSuite X.env n ph) _ _ _;refine i8 (jI (C5 (v:=.non) I5 hN hi (.inl hl) rfl (λs6 I6=>?_) (.inr hl)));unfold unbindBehindTheSuite;have li:i<σ2.length:=by rw[I5.len];exact(List.getElem?_eq_some_iff.mp hi).1
    refine jM (Q6 (v:=.non) I6 hN hi hl (List.getElem?_set_self li) λs7 I7=>?_);rw[List.set_set]at I7;exact⟨_,_,I7,q6⟩
   |ret v=>obtain⟨_,_,_,_,_,z⟩:=q5;exact z.elim
   |brk=>obtain⟨_,_,_,z⟩:=q5;exact z.elim
   |cont=>obtain⟨_,_,_,z⟩:=q5;exact z.elim
def XN{B:Addr}{xB:Str}{pB ph pos:Pos}{body suite:List Stmt}{b0:Stmt}{tb tx th:TS}(hst:X.stack=X.env::X.outer/\X.env.frame=some X.env.locals)(hb:PSs X.nox body tb)(hx:GXs X body tx)(hg:Gl X xB)(hm:X.mg xB=some (.ref B))
 (hh:∀a,PSs (X.hand (.ref a)) (b0::suite) th) (hdb:(xB==("__debug__":Str))=false:=by decide):
 PS X (.Try body [.ExceptHandler (some (.Name xB pB)) none (b0::suite) ph] [] [] pos) (Ij X.K X.mg xB tb tx th none):=by
 intro pins s σ H D I h;refine wpAny_Try_except ?_;rcases h with h|h
 .refine thx (hb pins s σ H D (I.wish _) h) (λfl s1 q=>?_) λ_ _ z=>z.elim;have q:=q.unwish;cases fl with
  |next=>exact jn q
  |ret v=>exact q
  |brk=>exact q
  |cont=>exact q
 .refine thx (hx pins s σ H _ I h) (λfl s1 q=>?_) λe s1 q=>?_
  .cases fl with
   |next=>obtain⟨_,_,_,z⟩:=q;exact z.elim
   |ret v=>obtain⟨_,_,_,_,_,z⟩:=q;exact z.elim
   |brk=>obtain⟨_,_,_,z⟩:=q;exact z.elim
   |cont=>obtain⟨_,_,_,z⟩:=q;exact z.elim
  .obtain⟨a,C,dx,tb',fs,σ',H',rfl,I1,ex,ht,ha,hT,hd,q⟩:=q;have fr:X.A.frames=some (X.env::X.outer):=by rw[<- hst.1];exact I1.ok.frames
   have fl0:s1.heap.FunFrames X.base (X.env::X.outer):=by rw[<- hst.1];exact I1.stack
   refine Jg none (base:=X.base) fr fl0 hst.2 ex ht λh' T z nT ex' tr N=>?_;have I2:Inv X pins σ' H' { s1 with heap:=h' }:=IH I1 ha hT (by rw[hst.1];exact N) ex';have LT:Looks (model X.prog X.w) h' (typeOf (.ref a)) (.ref C):=by
    obtain⟨vs,sl,e,_⟩:=ex';exact(PySem.W.Looks.ld e).andThen .now
   obtain⟨a',C',dx',fs',ea',ha',hd',hB,q⟩:=q B hm;cases ea';obtain rfl:=Pu ex (Option.some.inj (ha.symm.trans ha'));refine wpAny_handleBy_cons (codeAny_handlers_test (Dl (X:=X.hand (.ref a)) (I2.hand _) hg hm ?_ hdb)) (by intro q;cases q);refine PySem.W.Looks.here (s:={ s1 with heap:=h' }) (PySem.W.exm_one I2.kIn LT hB) ?_;refine codeAny_handlers_suite ?_;obtain⟨vs,sl,ea,e1⟩:=id ex';obtain⟨oT,ts,eT,dT,e3⟩:=tr;refine wpAny_setFlight_none (s:={ s1 with heap:=h' }) ea rfl e1 eT dT (Array.getElem?_eq_some_iff.mp e3).1 ?_;have nw:H' T=none/\New X pins T:=by
    rcases z with z|z
    .exact⟨I1.hok.fresh z,I1.new z⟩
    .exact hT T z
   have I3:=I2.turned (it:=T) (t':=s1.toks) (h':=h'.update T (Obj.mapFields (·.setIfInBounds 3 Value.none))) (λb o n e=>(Heap.get?_update_other _ _ (Ne.symm n)).trans e) nw.1 nw.2.2.1 nw.2.1 nw.2.2.2.1 nw.2.2.2.2;have I3':=I3.weak (σ':=List.replicate σ.length none) (by rw[jD,I.len,I3.len]) λi v e=>by
    rw[List.getElem?_replicate]at e;split at e<;>cases e
   refine thx (hh a pins _ _ H' _ (I3'.hand _) q) (λfl s5 q5=>?_) λ_ _ z=>z.elim;cases fl with
   |next=>
    obtain⟨σ2,H2,I5,q6⟩:=q5;exact⟨_,_,I5.unhand I.ok.hd,q6⟩
   |ret v=>obtain⟨_,_,_,_,_,z⟩:=q5;exact z.elim
   |brk=>obtain⟨_,_,_,z⟩:=q5;exact z.elim
   |cont=>obtain⟨_,_,_,z⟩:=q5;exact z.elim
end
def DR(m:MS):MS:=λls hd=>(m ls hd).bind λp=>match p.1 with
 |.rt _=>none
 |fl=>some (fl,p.2)
def HK(ma me:ME):ME:=λls hd=>(ma ls hd).bind λp=>me ls p.2
def mkX(k n:Nat)(m:MS):List D->Hd->Option (D×Hd):=λds hd=>if ds.length=k then(match m (ds.map some++List.replicate (n-k) none) hd with
 |some (.rt d,hd')=>some (d,hd')
 | _=>none)else none
def Xr{k n:Nat}{m:MS}:∀ds hd z,mkX k n m ds hd=some z->ds.length=k:=λds hd z h=>by
 unfold mkX at h;split at h
 .next e=>exact e
 .cases h
section
variable{K:Frag}{C:Addr}{f:Str}{ρ ρ':List Addr}{H H':Hp}{hd hd':Hd}
def We{ta te:TE}{ma me:ME}(ha:RE K ta ma)(he:RE K te me):RE K (OY ta te) (HK ma me):=by
 and_intros;obtain⟨⟨d1,h1⟩,e1,hm⟩:=i6 hm;refine ha ρ σ H hd ls _ d1 h1 hR hL e1 λρ1 H1 v1 x1 R1 _=>?_;exact he ρ1 σ H1 h1 ls Q d hd' R1 (RL.ext hR x1 hL) hm λρ2 H2 v2 x2 R2 r2=>hQ ρ2 H2 v2 (x1.trans R1 x2) R2 r2
def Ly{t:TS}{m:MS}(h:RS K t m):RS K (LX t) (DR m):=by
 intro ρ σ H hd ls E fl hd' hR hL hm hQ;obtain⟨⟨fl1,h1⟩,e1,hm⟩:=i6 hm;refine h ρ σ H hd ls E.non fl1 h1 hR hL e1 λρ' H' x R=>?_;cases fl1 with
 |rt d=>cases hm
 |nx l=>cases hm;exact hQ ρ' H' x R
 |bk l=>cases hm;exact hQ ρ' H' x R
 |ct l=>cases hm;exact hQ ρ' H' x R
def spF.mono{k:Nat}{F:List D->Hd->Option (D×Hd)}{vs:List V}{Q Q':VK}{E E':XK}(h:spF K k F vs H Q E)(k':∀v H',Q v H'->Q' v H'):spF K k F vs H Q' E':=
 let ⟨a,ρ,hd,ds,d,hd',b,c,e,q⟩:=h;⟨a,ρ,hd,ds,d,hd',b,c,e,λρ' H' v x R r=>k' _ _ (q ρ' H' v x R r)⟩
end
end L2
namespace L2
open PySem PySem.Spec PyProof.Rows PySem.W
def Le(K K':Frag):Prop:=∀a o,K.lookup a=some o->(∀vs,o.data≠.fields vs)->K'.lookup a=some o
def Nz{K:Frag}{ts:List Tb}{h:Heap}(X:K.In h)(hP:∀P∈ts.map (·.1),h.get? P=some (tabObj #[])):Le K (BK K ts):=λa o e n=>FF (λz=>by
 have:=X _ _ e;rw[hP a z]at this;cases this;exact n _ rfl) e
section
variable{K K':Frag}(L:Le K K')
include L
theorem Le.ns{a:Addr}{n:Str}{r:Option Value}(e:nsIn K a n=some r):nsIn K' a n=some r:=by
 unfold nsIn at e ⊢;split at e
 .next c d es k sl ho=>rw[L a _ ho (λvs q=>by cases q)];exact e
 .cases e
theorem Le.own{n:Str}{c:Value}{r:Option Value}(e:ownIn K n c=some r):ownIn K' n c=some r:=by
 cases c with
 |ref a=>
  simp only[ownIn]at e ⊢;split at e
  .next c d cd sl ho=>rw[L a _ ho (λvs q=>by cases q)];exact L.ns e
  .cases e
 |_=>exact e
theorem Le.along{n:Str}:∀{l:List Value} {r:Option Value},alongIn K n l=some r->alongIn K' n l=some r
 |[],_,e=>e
 |c::l,r,e=>by
  simp only[alongIn]at e ⊢;split at e
  .next v q=>rw[L.own q];exact e
  .next q=>rw[L.own q];exact Le.along e
  .cases e
theorem Le.find{t:Value}{n:Str}{r:Option Value}(e:findIn K t n=some r):findIn K' t n=some r:=by
 cases t with
 |ref a=>
  simp only[findIn]at e ⊢;split at e
  .next c d cd sl ho=>rw[L a _ ho (λvs q=>by cases q)];exact L.along e
  .cases e
 |_=>exact e
theorem Le.cls{C:Addr}{cd:ClassData}(e:clsIn K C=some cd):clsIn K' C=some cd:=by
 unfold clsIn at e ⊢;split at e
 .next c d cd sl ho=>rw[L C _ ho (λvs q=>by cases q)];exact e
 .cases e
theorem Le.mro{C:Addr}{b:Value}{r:Bool}(e:mroIn K C b=some r):mroIn K' C b=some r:=by
 obtain⟨cd,a,e⟩:=i6 e;unfold mroIn;rw[L.cls a];exact e
theorem Le.sub{t b:Value}{r:Bool}(e:subIn K t b=some r):subIn K' t b=some r:=by
 cases t with
 |ref a=>exact L.mro e
 |_=>exact e
theorem Le.typeC{C:Addr}{t:Value}(c:(clsIn K C).isSome=true)(e:typeIn K (.ref C)=some t):typeIn K' (.ref C)=some t:=by
 simp only[typeIn]at e ⊢;unfold clsIn at c;split at c
 .next x d cd sl ho=>rw[ho]at e;rw[L C _ ho (λvs q=>by cases q)];exact e
 .cases c
theorem Le.kitCls{t c:Value}{r:Bool}(e:kitCls K t c=some r):kitCls K' t c=some r:=by
 unfold PySem.W.kitCls at e ⊢;split at e
 .next C=>
  split at e
  .next q=>
   have q1:(clsIn K C).isSome=true:=by cases z:(clsIn K C).isSome<;>simp[z]at q ⊢
   have q2:typeIn K (.ref C)=some (.type "type"):=by rw[q1]at q;simpa using q
   obtain⟨cd,hc⟩:=isSome_iff_exists.mp q1;rw[i9 (by rw[L.cls hc,L.typeC q1 q2];rfl)];exact L.sub e
  .cases e
 .next T=>
  split at e
  .next q=>rw[i9 q];exact L.sub e
  .cases e
 .cases e
theorem Le.exm{t c:Value}{r:Bool}(e:exmOne K t c=some r):exmOne K' t c=some r:=by
 unfold PySem.W.exmOne at e ⊢;split at e
 .next q=>
  rw[i9 (by rw[L.sub (beq_iff_eq.mp q)];rfl)];exact L.kitCls e
 .cases e
theorem Le.noAttr{C:Addr}{f:Str}(e:DY K C f):DY K' C f:=L.find e
theorem Le.xi{C:Addr}(i:XI K C):XI K' C:=⟨L.find i.ca,i.gd,i.tk,L.mro i.mo⟩
theorem Le.xc{C fI:Addr}(hf:∃o fd,K.lookup fI=some o/\o.data=.func fd)(c:XC K C fI):XC K' C fI:=by
 obtain⟨nm,q,N,bs,bm,sn,sub,ab,col,dd,k0,k1,k2,k3,k5,lk,ov⟩:=c.at_;have lk':=L C _ lk (λvs q=>by cases q);obtain⟨o,fd,e,d⟩:=hf;have e':=L fI o e (λvs q=>by rw[d]at q;cases q);refine⟨⟨nm,q,N,bs,bm,sn,sub,ab,col,dd,k0,k1,k2,k3,k5,lk',ov⟩,L.find c.init,?_,?_,L.find c.sa,L.find c.ga,L.find c.gx⟩
 .have:=c.fn;unfold PySem.W.isFn PySem.W.typeIn at this ⊢;dsimp only at this ⊢;rw[e]at this;rw[e'];exact this
 .have:=c.kp;unfold keepIn at this ⊢;dsimp only at this ⊢;rw[lk]at this;rw[lk'];dsimp only at this ⊢;unfold PySem.W.specialIn PySem.W.typeIn at this ⊢;dsimp only at this ⊢;rw[lk]at this;rw[lk'];exact this
end
end L2
namespace L2
open PySem PySem.Spec PyProof.Rows
structure Dj(m mn:MS):Prop where
 rt:∀ls hd d x,m ls hd=some (.rt d,x)->mn ls hd=none
 nx:∀ls hd fl x,m ls hd=some (fl,x)->(∀d,fl≠.rt d)->mn ls hd=some (fl,x)
def DjE(m mn:ME):Prop:=∀ls hd z,m ls hd=some z->mn ls hd=none
def DjA(m:ME)(mn:MA):Prop:=∀ls hd z,m ls hd=some z->mn ls hd=none
def DjF(X F:List D->Hd->Option (D×Hd)):Prop:=∀ds hd z,X ds hd=some z->F ds hd=none
section
variable{m mn m1 n1 m2 n2:MS}{me mf:ME}{i:Nat}
def c5:Dj (DR m) m:=by
 constructor
 .intro ls hd d x e;obtain⟨⟨fl,y⟩,e1,e2⟩:=i6 e;cases fl<;>cases e2
 .intro ls hd fl x e n;obtain⟨⟨fl1,y⟩,e1,e2⟩:=i6 e;cases fl1<;>cases e2<;>exact e1
def JI(a:Dj m1 n1)(b:Dj m2 n2):Dj (A8 m1 m2) (A8 n1 n2):=by
 constructor
 .intro ls hd d x e;obtain⟨⟨fl,y⟩,e1,e2⟩:=i6 e;unfold A8;cases fl with
  |rt d1=>rw[a.rt _ _ _ _ e1];rfl
  |nx l=>rw[a.nx _ _ _ _ e1 (λd q=>by cases q)];exact b.rt _ _ _ _ e2
  |bk l=>cases e2
  |ct l=>cases e2
 .intro ls hd fl x e n;obtain⟨⟨fl1,y⟩,e1,e2⟩:=i6 e;unfold A8;cases fl1 with
  |rt d1=>cases e2;exact absurd rfl (n d1)
  |nx l=>rw[a.nx _ _ _ _ e1 (λd q=>by cases q)];exact b.nx _ _ _ _ e2 n
  |bk l=>cases e2;rw[a.nx _ _ _ _ e1 (λd q=>by cases q)];rfl
  |ct l=>cases e2;rw[a.nx _ _ _ _ e1 (λd q=>by cases q)];rfl
def Vc{c:MT}(a:Dj m1 n1)(b:Dj m2 n2):Dj (Aj c m1 m2) (Aj c n1 n2):=by
 constructor
 .intro ls hd d x e;obtain⟨⟨q,y⟩,e1,e2⟩:=i6 e;unfold Aj;rw[e1];dsimp only[bind_some]at e2 ⊢;cases q
  .exact b.rt _ _ _ _ e2
  .exact a.rt _ _ _ _ e2
 .intro ls hd fl x e n;obtain⟨⟨q,y⟩,e1,e2⟩:=i6 e;unfold Aj;rw[e1];dsimp only[bind_some]at e2 ⊢;cases q
  .exact b.nx _ _ _ _ e2 n
  .exact a.nx _ _ _ _ e2 n
def Qo{ls:Ls}{hd:Hd}{fl:Fl}{x:Hd}(e:AM me ls hd=some (fl,x))(n:∀d,fl≠.rt d):False:=by
 obtain⟨⟨d,y⟩,e1,e2⟩:=i6 e;cases e2;exact n d rfl
def M3{ls:Ls}{hd:Hd}{d:D}{x:Hd}(e:AM me ls hd=some (.rt d,x)):∃z,me ls hd=some z:=by
 obtain⟨z,e1,e2⟩:=i6 e;exact⟨z,e1⟩
def OD(h:DjE me mf):Dj (AM me) (Aw mf):=⟨λls hd d x e=>by obtain⟨z,q⟩:=M3 e;unfold Aw;rw[h _ _ _ q];rfl,λ_ _ _ _ e n=>(Qo e n).elim⟩
def SE(h:DjE me mf):Dj (AM me) (AE i mf):=⟨λls hd d x e=>by obtain⟨z,q⟩:=M3 e;simp only[Gm,h _ _ _ q,Option.bind_none],λ_ _ _ _ e n=>(Qo e n).elim⟩
def GD{w:Nat}{X F:List D->Hd->Option (D×Hd)}{ma:MA}(h:DjF X F):DjE (A6 w X ma) (A6 w F ma):=by
 intro ls hd z e;obtain⟨p,e1,e2⟩:=i6 e;unfold A6;rw[e1];dsimp only[bind_some]at e2 ⊢;split at e2
 .next c=>
  obtain⟨r,e3,_⟩:=i6 e2;rw[i9 c,h _ _ _ e3];rfl
 .cases e2
def Mr{mr:MA}(h:DjE me mf):DjA me (A1 mf mr):=λls hd z e=>by unfold A1;rw[h _ _ _ e];rfl
def KZ{ma:ME}{mr:MA}(h:DjA me mr):DjA (HK ma me) (A1 ma mr):=λls hd z e=>by
 obtain⟨p,e1,e2⟩:=i6 e;unfold A1;rw[e1];show(mr ls p.2).bind _=none;rw[h _ _ _ e2];rfl
def OC{mr:MA}(h:DjA me mr):DjE me (Ae mr):=λls hd z e=>by unfold Ae;rw[h _ _ _ e];rfl
def SD{k n:Nat}(h:Dj m mn):DjF (mkX k n m) (mkF k n mn):=by
 intro ds hd z e;unfold mkX at e;unfold mkF;split at e
 .next c=>
  rw[i9 c];split at e
  .next d x q=>rw[h.rt _ _ _ _ q]
  .cases e
 .cases e
def LJ{ls:Ls}{hd:Hd}{Q:Fl->Hd->Prop}(h:WS m ls hd λfl x=>(∀d,fl≠.rt d)/\Q fl x):WS (DR m) ls hd Q:=by
 obtain⟨fl,x,e,n,q⟩:=h;refine⟨fl,x,?_,q⟩;unfold DR;rw[e];cases fl with
 |rt d=>exact absurd rfl (n d)
 |_=>rfl
def Vu{ma:ME}{ls:Ls}{hd:Hd}{Q:D->Hd->Prop}(h:WE ma ls hd λ_ x=>WE me ls x Q):WE (HK ma me) ls hd Q:=WP.bind h
def Pz{k n:Nat}{ds:List D}{hd:Hd}{Q:D->Hd->Prop}(hl:ds.length=k)(h:WS m (ds.map some++List.replicate (n-k) none) hd λf x=>∃d,f=.rt d/\Q d x):WF (mkX k n m) ds hd Q:=by
 obtain⟨f,x,e,d,rfl,q⟩:=h;refine⟨d,x,?_,q⟩;unfold mkX;rw[i9 hl,e]
end
def eE(tn tx:TS):TS:=λD σ H=>tn D.non σ H∨tx D σ H
def FM(mn mx:MS):MS:=λls hd=>match DR mn ls hd with
 |some r=>some r
 |none=>mx ls hd
section
variable{C:Addr}{f:Str}{K:Frag}{X:Cx}{st:Stmt}{tn tx:TS}{mn mx:MS}
def SG(d:Dj mx mn):Dj (FM mn mx) mn:=by
 constructor
 .intro ls hd d' x e;unfold FM at e;split at e
  .next r q=>cases e;exact c5.rt _ _ _ _ q
  .exact d.rt _ _ _ _ e
 .intro ls hd fl x e n;unfold FM at e;split at e
  .next r q=>cases e;exact c5.nx _ _ _ _ q n
  .exact d.nx _ _ _ _ e n
def NI{ls:Ls}{hd:Hd}{Q:Fl->Hd->Prop}(d:Dj mx mn)(h:WS mx ls hd λfl x=>∃d,fl=.rt d/\Q fl x):WS (FM mn mx) ls hd Q:=by
 obtain⟨fl,x,e,d',rfl,q⟩:=h;have z:=d.rt _ _ _ _ e;refine⟨_,x,?_,q⟩;unfold FM DR;rw[z];exact e
def Ul:Dj CS mn:=⟨(λ_ _ _ _ e=>nomatch e),(λ_ _ _ _ e=>nomatch e)⟩
end
def tXg(tc:TE):TE:=λσ H Q=>tc σ H λv H'=>∀a,v=.ref a->Q v H'
def Co(nm:Str)(fs:List Str)(ma:MA):MS:=λls hd=>(ma ls hd).bind λp=>if p.1.length=fs.length then some (.rt (.op nm fs p.1),p.2)else none
def hLs(k:Nat)(i:Option Nat)(d:D):Ls:=match i with
 |some i=>(List.replicate k none).set i (some d)
 |none=>List.replicate k none
def uLs(i:Option Nat)(ls:Ls):Ls:=match i with
 |some i=>ls.set i none
 |none=>ls
def DQ(ns:List Str)(i:Option Nat)(mb mx mh:MS):MS:=λls hd=>match mb ls hd with
 |some r=>some r
 |none=>match mx ls hd with
  | some (.rt (.op nm fs ds),hd')=>if nm∈ns then(match mh (hLs ls.length i (.op nm fs ds)) hd' with
   |some (.nx l2,hd2)=>some (.nx (uLs i l2),hd2)
   | _=>none)else none
  |_=>none
section
variable{K:Frag}{ρ ρ':List Addr}{H H':Hp}{hd hd':Hd}{mg:Str->Option Value}{x:Str}
def V8{tc:TE}{m:ME}(h:RE K tc m):RE K (tXg tc) m:=λρ σ H hd ls Q d hd' hR hL hm hQ=>h ρ σ H hd ls _ d hd' hR hL hm λρ' H' v x R r a _=>hQ ρ' H' v x R r
def Qd{nm:Str}{fs:List Str}{ta:TA}{ma:MA}(hc:∀C,mg x=some (.ref C)->clsAt K nm=some C)(h:RA K ta ma):RS K (JQ mg x fs ta) (Co nm fs ma):=by
 intro ρ σ H hd ls E fl hd' hR hL hm hQ;obtain⟨⟨ds,h1⟩,e1,hm⟩:=i6 hm;dsimp only at hm;split at hm
 .next hl=>
  cases hm;refine h ρ σ H hd ls _ ds _ hR hL e1 λρ1 H1 vs x1 R1 r1=>⟨by rw[r1.len];exact hl,λC hC a dx na nd ne=>?_⟩
  obtain⟨R2,x2⟩:=R1.hid nd (ho:=.xd (fs.zip vs));obtain⟨R3,x3⟩:=R2.hid (a:=a) (by rw[AF (Ne.symm ne)];exact na) (ho:=.ext (XO a C (some dx)));refine hQ ρ1 _ ((x1.trans R1 x2).trans R2 x3) R3 (.ref a) ?_;simp only[RD];exact⟨a,vs,rfl,⟨C,some dx,hc C hC,AJ,by show upd _ _ _ dx=_;rw[AF ne,AJ],by rw[r1.len];exact hl⟩,(r1.ext R1 x2).ext R2 x3⟩
 .cases hm
def Qe{nm:Str}(hc:∀C,mg x=some (.ref C)->clsAt K nm=some C):RS K (JR mg x) (Co nm [] A4):=by
 intro ρ σ H hd ls E fl hd' hR hL hm hQ;obtain⟨⟨ds,h1⟩,e1,hm⟩:=i6 hm;cases e1;dsimp only at hm;simp only[jh,iE]at hm;cases hm;intro C hC a na;obtain⟨R2,x2⟩:=hR.hid (a:=a) na (ho:=.ext (XO a C none));refine hQ ρ _ x2 R2 (.ref a) ?_;simp only[RD];exact⟨a,[],rfl,⟨C,none,hc C hC,AJ,rfl,rfl⟩,rfl⟩
def eJ{i:Option Nat}{k:Nat}{d:D}{v:V}(r:RD K ρ H d v):RL K ρ H (hLs k i d) (match i with|some i=>(List.replicate k none).set i (some v)|none=>List.replicate k none):=by
 cases i with
 |none=>exact⟨by simp[hLs],λj d e=>by simp only[hLs]at e;rw[List.getElem?_replicate]at e;split at e<;>cases e⟩
 |some i=>
  refine⟨by simp[hLs],λj d' e=>?_⟩;simp only[hLs]at e;by_cases z:i=j
  .subst z;have li:i<k:=by have:=(List.getElem?_eq_some_iff.mp e).1;simpa using this
   rw[List.getElem?_set_self (by simpa using li)]at e;cases e;exact⟨v,List.getElem?_set_self (by simpa using li),r⟩
  .rw[List.getElem?_set_ne z,List.getElem?_replicate]at e;split at e<;>cases e
def eI{i:Option Nat}{ls:Ls}{σ:St}(h:RL K ρ H ls σ):RL K ρ H (uLs i ls) (match i with|some i=>σ.set i none|none=>σ):=by
 cases i with
 |none=>exact h
 |some i=>
  refine⟨by simp[uLs,h.len],λj d e=>?_⟩;simp only[uLs]at e;by_cases z:i=j
  .subst z;rw[List.getElem?_set,i9 rfl]at e;split at e<;>cases e
  .rw[List.getElem?_set_ne z]at e;obtain⟨v,e1,r⟩:=h.ob j d e;exact⟨v,by dsimp only;rw[List.getElem?_set_ne z];exact e1,r⟩
def NY{xB:Str}{ns:List Str}{i:Option Nat}{tb tx th:TS}{mb mx mh:MS}(hc:∀nm∈ns,∀B C,mg xB=some (.ref B)->clsAt K nm=some C->PySem.W.exmOne K (.ref C) (.ref B)=some true)(hb:RS K tb mb)(hx:RS K tx mx)(hh:RS K th mh):RS K (Ij K mg xB tb tx th i) (DQ ns i mb mx mh):=by
 intro ρ σ H hd ls E fl hd' hR hL hm hQ;unfold DQ at hm;split at hm
 .next r e=>
  cases hm;exact .inl (hb ρ σ H hd ls E fl hd' hR hL e hQ)
 .split at hm
  .next nm fs ds h1 e=>
   split at hm
   .next c=>
    split at hm
    .next l2 h2 e2=>
     cases hm;refine .inr (hx ρ σ H hd ls _ (.rt (.op nm fs ds)) h1 hR hL e λρ1 H1 x1 R1 v r1 B hB=>?_);have r1':=r1;simp only[RD]at r1;obtain⟨a,xs,rfl,⟨C,dx,c1,c2,c3,c4⟩,r2⟩:=r1;refine⟨a,C,dx,_,rfl,c2,c3,hc nm c B C hB c1,?_⟩;have hl:σ.length=ls.length:=hL.len.symm;refine hh ρ1 _ H1 h1 _ _ (.nx l2) hd' R1 ?_ e2 λρ2 H2 x2 R2 σ2 hL2=>hQ ρ2 H2 (x1.trans R1 x2) R2 _ (eI hL2);rw[hl];exact eJ r1'
    .cases hm
   .cases hm
  .cases hm
end
def Q2(Q:VK)(v:Value)(H:Hp):Prop:=∃a,v=.ref a/\Q (.ref a) H
def T7(K:Frag)(k:Nat)(F:FD):Sp:=λvs H _ E=>spF K k F vs H (λv H'=>∀a,v=.ref a->E (.ref a) none H') E0
section
variable(K:Frag)(X:Cx)
structure YX(e:Stmt)(t:TS)(m:MS):Prop where
 p:GX X e t
 r:RS K t m
structure YXs(e:List Stmt)(t:TS)(m:MS):Prop where
 p:GXs X e t
 r:RS K t m
structure YXE(e:Expr)(t:TE)(m:ME):Prop where
 p:GXE X e t
 r:RE K t m
structure YXA(e:List Expr)(t:TE)(m:ME):Prop where
 p:GXA X e t
 r:RE K t m
end
def Cl(E:EnK)(nm:Str)(fs:List Str):Prop:=∃C fI fd ps,E.mg nm=some (.ref C)/\clsAt E.K nm=some C/\XC E.K C fI/\XI E.K C/\(∀f∈fs,DY E.K C f)/\FnOk E.P E.w E.K E.mg E.base CX0 1 fI fd ps (spJ C fs)/\Binds E.K fd ps []/\ps.length=fs.length+1/\fs.length<=1000
def Ch(E:EnK)(xB nm:Str):Prop:=∃B C,E.mg xB=some (.ref B)/\clsAt E.K nm=some C/\PySem.W.exmOne E.K (.ref C) (.ref B)=some true
def KnX(E:EnK)(e:Df):Prop:=∃f fd,DefAt E.K E.mg e.x e.st f fd e.ps/\FnOk E.P E.w E.K E.mg E.base (CXG E.P E.w) e.k f fd e.ps (T7 E.K e.ps.length e.F)/\∀ds hd z,e.F ds hd=some z->ds.length=e.ps.length
section
variable{K:Frag}{X:Cx}{st:Stmt}{rest:List Stmt}{t u:TS}{m m1 m2:MS}{e:Expr}{es:List Expr}{te tb:TE}{me mb:ME}{pos p p1:Pos}{x:Str}
def Vl(h:QS K X.nox st t m):YX K X st (LX t) (DR m):=⟨O6 h.p,Ly h.r⟩
def LH(h1:YX K X st t m1)(h2:YXs K X rest u m2):YXs K X (st::rest) (LW t u) (A8 m1 m2):=⟨UX h1.p h2.p,Qc h1.r h2.r⟩
def Vh(h1:YX K X st t m1):YXs K X [st] t m1:=⟨YD h1.p,h1.r⟩
def Vi:YXs K X [] (LX HB) (DR Aa):=⟨UW Nm,Ly JY⟩
def K7{rest:List Stmt}:YXs K X rest Ik CS:=⟨λ_ _ _ _ _ _ h=>h.elim,M0⟩
def cU{c:Expr}{a b:List Stmt}{tc:TT}{mc:MT}(hc:QT K X.nox c tc mc)(ha:YXs K X a t m1)(hb:YXs K X b u m2):YX K X (.If c a b pos) (LY tc t u) (Aj mc m1 m2):=⟨dh hc.p ha.p hb.p,V6 hc.r ha.r hb.r⟩
def Yb(he:YXE K X e te me):YX K X (.Return (some e) pos) (Fu te) (AM me):=⟨bc he.p,Ir he.r⟩
def Vm(he:YXE K X e te me)(hs:swapsWith e none pos.line X.env=pure false:=by rfl):YX K X (.Expr e pos) (Fu te) (AM me):=⟨YG he.p hs,Ir he.r⟩
def YZ{pos':Pos}(he:YXE K X e te me)(hs:swapsWith e (some (.Name x pos')) pos.line X.env=pure false:=by rfl):YX K X (.Assign [.Name x pos'] e pos) (Fu te) (AM me):=⟨ba he.p hs,Ir he.r⟩
def Vk{c a b:Expr}{tc:TT}{mc:MT}(hc:QT K X.nox c tc mc)(ha:YXE K X a te me)(hb:YXE K X b tb mb):YXE K X (.IfExp c a b pos) (tIf tc te tb) (mIf mc me mb):=⟨YF hc.p ha.p hb.p,VA hc.r ha.r hb.r⟩
def Se(he:YXE K X e te me)(hs:starEach (e::es) X.env=(false,eval e X.env)::starEach es X.env:=by rfl):YXA K X (e::es) te me:=⟨UY he.p hs,he.r⟩
def Pq(ha:QE K X.nox e tb mb)(hr:YXA K X es te me)(hs:starEach (e::es) X.env=(false,eval e X.env)::starEach es X.env:=by rfl):YXA K X (e::es) (OY tb te) (HK mb me):=⟨Ru ha.p hr.p hs,We ha.r hr.r⟩
def Vj{x1}(h:YXA K X es te me):YXE K X (.Tuple es x1 pos) te me:=⟨YE h.p,h.r⟩
def Yc{tg iter:Expr}{body:List Stmt}{wi:TI}{g:TG}{tb:TS}{mi:MI}{n:MG}{mb:MS}(hi:QI K X.nox tg iter wi mi)(hg:QG K X.nox tg g n)(hb:YXs K X body tb mb)(hc:X.calm=true:=by rfl)(hst:X.stack=X.env::X.outer/\X.env.frame=some X.env.locals:=by exact⟨rfl,rfl⟩)
 (hs:∀x,foldedSetIterable iter X.env x=pure x:=by intro _;rfl):YX K X (.For tg iter body [] pos) (LZ wi g tb) (Ax mi n mb):=⟨bf hst hc hi.p hg.p hb.p hs,Qf hi.r hg.r hb.r⟩
def Pt{tn tx:TS}{mn mx:MS}(h:QS K X.nox st tn mn)(hx:YX K X st tx mx):YX K X st (eE tn tx) (FM mn mx):=by
 constructor
 .intro pins s σ H D I q;rcases q with q|q
  .exact O6 h.p pins s σ H D I q
  .exact hx.p pins s σ H D I q
 .intro ρ σ H hd ls E fl hd' hR hL hm hQ;unfold FM at hm;split at hm
  .next r e=>cases hm;exact .inl (Ly h.r ρ σ H hd ls E fl hd' hR hL e hQ)
  .exact .inr (hx.r ρ σ H hd ls E fl hd' hR hL hm hQ)
def Sd(w:Nat){j k:Nat}{ps:List Str}{F:FD}{st:Stmt}{ta:TA}{ma:MA}(G:KnX ⟨X.prog,X.w,X.K,X.mg,X.base⟩ ⟨x,st,ps,j,F⟩)(hr:Room k X.A)(ha:QA K X.nox (e::es) ta ma)
 (hjk:j<=k:=by first|decide|omega) (hg:Gl X x:=by rfl) (hdb:(x==("__debug__":Str))=false:=by decide) (he:starEach (e::es) X.env=(false,eval e X.env)::starEach es X.env:=by rfl) (hpl:(backTo pos (starEach es X.env)).any (·.1)=false:=by rfl) (hK:X.K=K:=by rfl):
 YXE K X (.Call (.Name x p) (e::es) [] pos) (tXg (Dt (spF K ps.length F) [] E0 ta)) (A6 w F ma):=by
 subst hK;obtain⟨fa,fd,DA,G,hF⟩:=G;refine⟨λpins s σ H Q I h=>?_,V8 (M4 ha.r hF)⟩;refine jo (Dl I hg DA.mg ?_ hdb);refine PySem.W.callWith_K (h₀:=X.base) I.ok.mod.kin DA.fn.kp (thx (ha.p pos pins s σ H _ (I.wish _) h) (λus s1 ⟨vs,H1,I1',r,q⟩=>⟨I1'.kIn,?_⟩) λ_ _ z=>z.elim) he hpl;have I1:=I1'.unwish;dsimp only at q;rw[iS]at q;have q2:T7 X.K ps.length F vs H1 (λ_ _=>False) (λv dx H'=>Q2 Q v H'):=q.mono λv H' z a ea=>by subst ea;exact⟨a,rfl,z a rfl⟩
 have hl:us.length=ps.length:=by rw[<- r.length];exact G.len _ _ _ _ q2
 refine jB (jf (G.run X.A X.stack s1 H1 ⟨us,[]⟩ us vs _ _ (hr.mono hjk) I1.env0 (by have:=DA.bd s1 us I1.kIn (by simpa using hl);simpa using this) r q2) λres s' hq=>?_);cases res with
 |error x=>exact K8 I1 (show CXG X.prog X.w X.stack H1 s1 (λv dx H'=>Q2 Q v H') x s' from hq) λa H' ⟨a',e1,e2⟩=>by cases e1;exact e2
 |ok fl=>
  cases fl with
  |ret u=>obtain⟨_,_,_,_,_,_,_,z⟩:=hq;exact z.elim
  |next=>exact hq.elim
  |brk=>exact hq.elim
  |cont=>exact hq.elim
def Pp{j k:Nat}{ps:List Str}{F:FD}{st:Stmt}{ta:TA}{ma:MA}(G:KnX ⟨X.prog,X.w,X.K,X.mg,X.base⟩ ⟨x,st,ps,j,F⟩)(hr:Room k X.A)(ha:QA K X.nox (e::es) ta ma)
 (hjk:j<=k:=by first|decide|omega) (hg:Gl X x:=by rfl) (hdb:(x==("__debug__":Str))=false:=by decide) (he:starEach (e::es) X.env=(false,eval e X.env)::starEach es X.env:=by rfl) (hpl:(backTo pos (starEach es X.env)).any (·.1)=false:=by rfl) (hK:X.K=K:=by rfl):
 YXE K X (.Call (.Name x p) (e::es) [] pos) (tXg (Dt (spF K ps.length F) [] E0 ta)) (DT F ma):=by
 subst hK;obtain⟨fa,fd,DA,G,hF⟩:=G;refine⟨λpins s σ H Q I h=>?_,V8 (M5 ha.r hF)⟩;refine jo (Dl I hg DA.mg ?_ hdb);refine PySem.W.callWith_K (h₀:=X.base) I.ok.mod.kin DA.fn.kp (thx (ha.p pos pins s σ H _ (I.wish _) h) (λus s1 ⟨vs,H1,I1',r,q⟩=>⟨I1'.kIn,?_⟩) λ_ _ z=>z.elim) he hpl;have I1:=I1'.unwish;dsimp only at q;rw[iS]at q;have q2:T7 X.K ps.length F vs H1 (λ_ _=>False) (λv dx H'=>Q2 Q v H'):=q.mono λv H' z a ea=>by subst ea;exact⟨a,rfl,z a rfl⟩
 have hl:us.length=ps.length:=by rw[<- r.length];exact G.len _ _ _ _ q2
 refine jB (jf (G.run X.A X.stack s1 H1 ⟨us,[]⟩ us vs _ _ (hr.mono hjk) I1.env0 (by have:=DA.bd s1 us I1.kIn (by simpa using hl);simpa using this) r q2) λres s' hq=>?_);cases res with
 |error x=>exact K8 I1 (show CXG X.prog X.w X.stack H1 s1 (λv dx H'=>Q2 Q v H') x s' from hq) λa H' ⟨a',e1,e2⟩=>by cases e1;exact e2
 |ok fl=>
  cases fl with
  |ret u=>obtain⟨_,_,_,_,_,_,_,z⟩:=hq;exact z.elim
  |next=>exact hq.elim
  |brk=>exact hq.elim
  |cont=>exact hq.elim
end
abbrev Cx.en(X:Cx):EnK:=⟨X.prog,X.w,X.K,X.mg,X.base⟩
def Iv{o:Option Value}{a b:Addr}(h:o=some (.ref a))(k:o=some (.ref b)):a=b:=by rw[h]at k;cases k;rfl
def QJ{o:Option Addr}{a b:Addr}(h:o=some a)(k:o=some b):a=b:=by rw[h]at k;cases k;rfl
def Hx(E:EnK)(xB:Str)(ns:List Str):Prop:=(∃B,E.mg xB=some (.ref B))/\∀nm∈ns,Ch E xB nm
section
variable{K:Frag}{X:Cx}{st:Stmt}{e:Expr}{es:List Expr}{te:TE}{me:ME}{pos p p1:Pos}{x:Str}
def Sf{fs:List Str}{j:Nat}{ta:TA}{ma:MA}(G:Cl X.en x fs)(hr:Room j X.A)(ha:QA K X.nox (e::es) ta ma)(hjk:2<=j:=by decide)(hne:fs≠[]:=by simp)(hcalm:X.calm=true:=by rfl)(hg:Gl X x:=by rfl)
 (hdb:(x==("__debug__":Str))=false:=by decide) (hst:starEach (e::es) X.env=(false,eval e X.env)::starEach es X.env:=by rfl) (hpl:(backTo p1 (starEach es X.env)).any (·.1)=false:=by rfl) (hK:X.K=K:=by rfl):
 YX K X (.Raise (some (.Call (.Name x p) (e::es) [] p1)) none pos) (JQ X.mg x fs ta) (Co x fs ma):=by
 subst hK;obtain⟨C,fI,fd,ps,mgC,cl,xc,xi,na,F,bd,l1,l2⟩:=G;exact⟨UZ xc F (hr.mono hjk) bd l1 l2 hne hcalm hg mgC ha.p hdb hst hpl,Qd (λC' e=>by obtain rfl:=Iv (o:=X.mg x) mgC e;exact cl) ha.r⟩
def Ps{j:Nat}(G:Cl X.en x [])(hr:Room j X.A)(hjk:2<=j:=by decide)(hcalm:X.calm=true:=by rfl)(hg:Gl X x:=by rfl)
 (hdb:(x==("__debug__":Str))=false:=by decide) (hK:X.K=K:=by rfl):YX K X (.Raise (some (.Call (.Name x p) [] [] p1)) none pos) (JR X.mg x) (Co x [] A4):=by
 subst hK;obtain⟨C,fI,fd,ps,mgC,cl,xc,xi,na,F,bd,l1,l2⟩:=G;exact⟨Rv xc F (hr.mono hjk) bd l1 hcalm hg mgC hdb,Qe (λC' e=>by obtain rfl:=Iv (o:=X.mg x) mgC e;exact cl)⟩
def b7{E:EnK}{x:Str}{st:Stmt}{ps N:List Str}{j k:Nat}{m:MS}{F:FD}(D:Dn E ⟨x,st,ps,k,F⟩)(S:FnScope N ps (AB st))(hF:F=mkX ps.length N.length m)(hk:k=j+1)
 (h:∀(f:Addr) (cdv:Value) (A:Around) (outer:List Env) (s:Shared) (H:Hp) (Ek:XK),Room j (A.deeper (envOfC x (AB st) s.heap.objs.size f cdv))->∃t,YXs E.K (Do (CXG E.P E.w) E.P E.w E.K E.mg E.base N x (AB st) f cdv A outer s H Ek) (BW st) t m):KnX E ⟨x,st,ps,k,F⟩:=by
 obtain⟨fa,fd,DA⟩:=D;subst hF;subst hk;refine⟨fa,fd,DA,?_,Xr⟩;have h:=h fa;obtain⟨F,hmg,bd⟩:=DA;obtain⟨⟨oc,od,kV,doc,pm,an,cdv,ct,osl,rfl,lk,hcd⟩,kp⟩:=F;refine Va lk hcd S (λvs H Q E h=>h.1) λA outer s H vs Q Ek hr hs=>?_;obtain⟨t,q⟩:=h cdv A outer s H Ek hr;refine⟨λ_ σ H'=>t ⟨λ_ _=>False,λv H'=>∀a,v=.ref a->Ek (.ref a) none H',λ_ _=>False,λ_ _=>False⟩ σ H',λpins s1 σ1 H1 D I h1=>?_,?_⟩
 .refine thx (q.p pins s1 σ1 H1 _ I h1) (λfl s2 z=>?_) λe s2 z=>?_
  .cases fl with
   |next=>obtain⟨_,_,_,z⟩:=z;exact z.elim
   |ret v=>obtain⟨_,_,_,_,_,z⟩:=z;exact z.elim
   |brk=>obtain⟨_,_,_,z⟩:=z;exact z.elim
   |cont=>obtain⟨_,_,_,z⟩:=z;exact z.elim
  .obtain⟨a,C,dx,tb,fs,σ',H',e0,I',r⟩:=z;exact Sg (pins:=pins) ⟨a,C,dx,tb,fs,σ',H',e0,I'.wish _,r⟩ λa H' z=>z a rfl
 .obtain⟨hk,ρ,hd,ds,d,hd',hR,hr',hF,hQ⟩:=hs;dsimp only at hF;unfold mkX at hF;split at hF
  .next hl=>
   split at hF
   .next d1 h2 e1=>
    cases hF;rw[<- hl]at e1;exact q.r ρ _ H hd _ _ (.rt d) hd' hR (IC hr') e1 λρ' H' x R v r=>hQ ρ' H' v x R r
   .cases hF
  .cases hF
def Ww{i:Nat}{ns:List Str}{xB n:Str}{pB ph:Pos}{body suite:List Stmt}{b0:Stmt}{tb tx th:TS}{mb mx mh:MS}(hc:Hx X.en xB ns)(hb:QSs K X.nox body tb mb)(hx:YXs K X body tx mx)(hh:∀a,QSs K (X.hand (.ref a)) (b0::suite) th mh)
 (hN:X.N.Nodup) (hi:X.N[i]?=some n) (hl:X.env.scope.names.lookup n=some .local:=by rfl) (hst:X.stack=X.env::X.outer/\X.env.frame=some X.env.locals:=by exact⟨rfl,rfl⟩) (hg:Gl X xB:=by rfl) (hdb:(xB==("__debug__":Str))=false:=by decide) (hK:X.K=K:=by rfl):
 QS K X (.Try body [.ExceptHandler (some (.Name xB pB)) (some n) (b0::suite) ph] [] [] pos) (Ij X.K X.mg xB tb tx th (some i)) (DQ ns (some i) mb mx mh):=by
 subst hK;obtain⟨⟨B,hm⟩,hc⟩:=hc;refine⟨XQ hst hb.p hx.p hg hm hN hi hl (λa=>(hh a).p) hdb,NY (λnm hn B' C h1 h2=>?_) hb.r hx.r (hh 0).r⟩;obtain⟨B2,C2,q1,q2,q3⟩:=hc nm hn;obtain rfl:=Iv (o:=X.mg xB) q1 h1;obtain rfl:=QJ q2 h2;exact q3
def Wv{ns:List Str}{xB:Str}{pB ph:Pos}{body suite:List Stmt}{b0:Stmt}{tb tx th:TS}{mb mx mh:MS}(hc:Hx X.en xB ns)(hb:QSs K X.nox body tb mb)(hx:YXs K X body tx mx)(hh:∀a,QSs K (X.hand (.ref a)) (b0::suite) th mh)
 (hst:X.stack=X.env::X.outer/\X.env.frame=some X.env.locals:=by exact⟨rfl,rfl⟩) (hg:Gl X xB:=by rfl) (hdb:(xB==("__debug__":Str))=false:=by decide) (hK:X.K=K:=by rfl):
 QS K X (.Try body [.ExceptHandler (some (.Name xB pB)) none (b0::suite) ph] [] [] pos) (Ij X.K X.mg xB tb tx th none) (DQ ns none mb mx mh):=by
 subst hK;obtain⟨⟨B,hm⟩,hc⟩:=hc;refine⟨XN hst hb.p hx.p hg hm (λa=>(hh a).p) hdb,NY (λnm hn B' C h1 h2=>?_) hb.r hx.r (hh 0).r⟩;obtain⟨B2,C2,q1,q2,q3⟩:=hc nm hn;obtain rfl:=Iv (o:=X.mg xB) q1 h1;obtain rfl:=QJ q2 h2;exact q3
end
section
variable{m mn m1 n1 m2 n2 mb mx mh:MS}{me mf:ME}
def Ka{nm:Str}{fs:List Str}{ma:MA}:Dj (Co nm fs ma) CS:=⟨λ_ _ _ _ _=>rfl,λls hd fl x e n=>by
 obtain⟨⟨ds,y⟩,e1,e2⟩:=i6 e;dsimp only at e2;split at e2
 .cases e2;exact absurd rfl (n _)
 .cases e2⟩
theorem Jo{n:MG}{g:Gd}(h:Dj m mn):∀(ds:List D) (ls:Ls) (hd:Hd),(∀d x,B1 n m g ds ls hd=some (.rt d,x)->B1 n mn g ds ls hd=none)/\∀fl x,B1 n m g ds ls hd=some (fl,x)->(∀d,fl≠.rt d)->B1 n mn g ds ls hd=some (fl,x)
 |[],ls,hd=>⟨(λd x e=>by unfold B1 at e;cases e),λfl x e _=>by unfold B1 at e ⊢;exact e⟩
 |d0::r,ls,hd=>by
  have ih:=Jo (n:=n) (g:=g) h r;constructor
  .intro d x e;unfold B1 at e ⊢;obtain⟨ls1,e1,e⟩:=i6 e;obtain⟨⟨fl,y⟩,e2,e⟩:=i6 e;rw[e1,bind_some];cases fl with
   |rt d1=>rw[h.rt _ _ _ _ e2];rfl
   |nx l=>
    rw[h.nx _ _ _ _ e2 (λd q=>by cases q),bind_some];dsimp only at e ⊢;split at e
    .next c=>rw[i9 c];exact(ih l y).1 d x e
    .cases e
   |ct l=>
    rw[h.nx _ _ _ _ e2 (λd q=>by cases q),bind_some];dsimp only at e ⊢;split at e
    .next c=>rw[i9 c];exact(ih l y).1 d x e
    .cases e
   |bk l=>cases e
  .intro fl x e nn;unfold B1 at e ⊢;obtain⟨ls1,e1,e⟩:=i6 e;obtain⟨⟨fl1,y⟩,e2,e⟩:=i6 e;rw[e1,bind_some];cases fl1 with
   |rt d1=>cases e;exact absurd rfl (nn d1)
   |nx l=>
    rw[h.nx _ _ _ _ e2 (λd q=>by cases q),bind_some];dsimp only at e ⊢;split at e
    .next c=>rw[i9 c];exact(ih l y).2 fl x e nn
    .cases e
   |ct l=>
    rw[h.nx _ _ _ _ e2 (λd q=>by cases q),bind_some];dsimp only at e ⊢;split at e
    .next c=>rw[i9 c];exact(ih l y).2 fl x e nn
    .cases e
   |bk l=>
    rw[h.nx _ _ _ _ e2 (λd q=>by cases q),bind_some];exact e
def cD{mi:MI}{n:MG}(h:Dj m mn):Dj (Ax mi n m) (Ax mi n mn):=by
 constructor
 .intro ls hd d x e;obtain⟨p,e1,e2⟩:=i6 e;unfold Ax;rw[e1];exact(Jo h _ _ _).1 d x e2
 .intro ls hd fl x e n;obtain⟨p,e1,e2⟩:=i6 e;unfold Ax;rw[e1];exact(Jo h _ _ _).2 fl x e2 n
section
variable{ls:Ls}{hd:Hd}{Q:Fl->Hd->Prop}{QE:D->Hd->Prop}{ns:List Str}{i:Option Nat}{nm:Str}{fs:List Str}
def LI{ma:MA}(h:WA ma ls hd λds x=>ds.length=fs.length/\Q (.rt (.op nm fs ds)) x):WS (Co nm fs ma) ls hd Q:=by
 obtain⟨ds,x,e,l,q⟩:=h;refine⟨_,x,?_,q⟩;unfold Co;rw[e];exact i9 l
def Si(h:WS mb ls hd Q):WS (DQ ns i mb mx mh) ls hd Q:=by
 obtain⟨fl,x,e,q⟩:=h;refine⟨fl,x,?_,q⟩;unfold DQ;rw[e]
def Sh(dj:Dj mx mb)(h:WS mx ls hd λfl x=>∃nm fs ds,fl=.rt (.op nm fs ds)/\nm∈ns/\WS mh (hLs ls.length i (.op nm fs ds)) x λf2 y=>∃l2,f2=.nx l2/\Q (.nx (uLs i l2)) y):WS (DQ ns i mb mx mh) ls hd Q:=by
 obtain⟨fl,x,e,nm,fs,ds,rfl,hn,f2,y,e2,l2,rfl,q⟩:=h;refine⟨_,y,?_,q⟩;unfold DQ;rw[dj.rt _ _ _ _ e,e];dsimp only;rw[i9 hn,e2]
end
end
def Fb(i j:Int):Prop:=i.natAbs.log2<100000/\j.natAbs.log2<100000
def ON{i:Int}(h:i.natAbs.log2<100000):Builtin.Int.intBits i<=2^20:=by
 have e:(2:Nat)^20=1048576:=by decide
 unfold Builtin.Int.intBits;split<;>omega
def Eb(j:Int):Prop:=0<j/\j.natAbs.log2<9000
def UB{X:Cx}:OpR X (binaryOp .FloorDiv) (rI (λ_ j=>Eb j) λi j=>.int (i/j)):=opI λi j _ _ _ _ _ hc q=>by
 have h1:(0:Int)<j:=hc.1;exact floordiv_int (by omega) (by rw[Int.fdiv_eq_ediv_of_nonneg i (by omega)];exact q) (.inl (PyProof.noPylong_of_log2 hc.2))
open Classical in
abbrev Ew:D->D->Hd->Option (D×Hd):=fI λi j=>if Eb j then some (.int (i/j))else none
def TY{K:Frag}:RB K (rI (λ_ j=>Eb j) λi j=>.int (i/j)) Ew:=M7 λi j z h=>by
 split at h
 .next q=>cases h;exact⟨q,λ_=>by simp[RI]⟩
 .cases h
def LM{i j:Int}{hd:Hd}{QE:D->Hd->Prop}(c:Eb j)(q:QE (.im (.int (i/j))) hd):WP (Ew (.im (.int i)) (.im (.int j)) hd) QE:=⟨_,_,by simp[c],q⟩
section
variable{X:Cx}
def ipC(c:Int->Int->Prop)(f:Int->Int->Int):TIp:=λx y H Q=>∃i j,x=.int i/\y=.int j/\c i j/\Q (.int (f i j)) H
def bZ:PIp X .Mult (ipC Fb λi j=>i*j):=by
 intro pins s σ H x y v u Q I r1 r2 h;obtain⟨i,j,e1,e2,c,q⟩:=h;subst e1;subst e2;obtain⟨t,rfl⟩:=r1;obtain⟨t',rfl⟩:=r2;exact imul_int ⟨.int _,H,I.tok _,⟨_,rfl⟩,q⟩ (IntMulOk.of_bits (ON c.1) (ON c.2))
end
section
variable{K:Frag}
open Classical in
def G9(i:Nat)(m:ME):MS:=λls hd=>match ls[i]? with
 |some (some (.im (.int x)))=>(m ls hd).bind λp=>match p.1 with
  |.im (.int y)=>if Fb x y then some (.nx (ls.set i (some (.im (.int (x*y))))),p.2)else none
  |_=>none
 |_=>none
def WV{i:Nat}{t:TE}{m:ME}(h:RE K t m):RS K (JT i t (ipC Fb λi j=>i*j)) (G9 i m):=by
 intro ρ σ H hd0 ls E f hd' hR hL hm hQ;unfold G9 at hm;split at hm
 .next x e0=>
  obtain⟨⟨d1,h1⟩,e1,hm⟩:=i6 hm;dsimp only at hm;split at hm
  .split at hm
   .next c=>
    cases hm;obtain⟨v,v1,v2⟩:=hL.ob i _ e0;simp only[RD,RI]at v2;subst v2;refine⟨_,v1,h ρ σ H hd0 ls _ _ _ hR hL e1 λρ1 H1 w x1 R1 r1=>?_⟩;simp only[RD,RI]at r1;subst r1;exact⟨_,_,rfl,rfl,c,hQ ρ1 H1 x1 R1 _ ((hL.ext hR x1).set i (by simp[RD,RI]))⟩
   .cases hm
  .cases hm
 .cases hm
def X4{X:Cx}{i:Nat}{x:Str}{e:Expr}{te:TE}{me:ME}{pos pos':Pos}(he:QE K X e te me)(hN:ndB X.N=true:=by kernel_rfl)(hi:X.N[i]?=some x:=by rfl)(hx:Loc X.env.scope x:=by first|exact Or.inl rfl|exact Or.inr rfl)(hf:X.fn x=true∨X.env.scope.names.lookup x=some .local:=by first|exact .inl rfl|exact .inr rfl|assumption):
 QS K X (.AugAssign (.Name x pos') .Mult e pos) (JT i te (ipC Fb λi j=>i*j)) (G9 i me):=⟨RJ (Cn hN) hi hx he.p bZ hf,WV he.r⟩
def Vq{i:Nat}{m:ME}{ls:Ls}{hd:Hd}{x:Int}{Q:Fl->Hd->Prop}(e:ls[i]?=some (some (.im (.int x))))(h:WE m ls hd λd y=>∃k,d=.im (.int k)/\Fb x k/\Q (.nx (ls.set i (some (.im (.int (x*k)))))) y):WS (G9 i m) ls hd Q:=by
 obtain⟨d,y,e1,k,rfl,c,q⟩:=h;exact⟨_,_,by simp only[G9,e,e1,bind_some];rw[i9 c],q⟩
end
end L2
namespace Bd
open PySem L2
inductive Rc(ps:List (Int×Int)):Int->Int->Prop
 |one {x y:Int}:(x,y)∈ps->Rc ps x y
 |step {x y z:Int}:Rc ps x y->(y,z)∈ps->Rc ps x z
theorem KL:∀{l m:List Int},l.Nodup->(∀x∈l,x∈m)->l.length<=m.length
 |[],m,_,_=>by simp
 |x::r,m,nd,h=>by
  obtain⟨n1,n2⟩:=nodup_cons.mp nd;have hx:=h x iR;have:=KL (l:=r) (m:=m.erase x) n2 λy hy=>(List.mem_erase_of_ne (λe=>n1 (by rw[<- e];exact hy))).mpr (h y (iK _ hy));rw[List.length_erase_of_mem hx]at this;have:=List.length_pos_of_mem hx;simp only[iM];omega
structure Found(ps:List (Int×Int))(a:Int)(found fresh:List Int):Prop where
 nd:found.Nodup
 rc:∀x∈found,Rc ps a x
 fr:∀x∈fresh,x=a∨x∈found
 cl:∀x,(x=a∨x∈found)->x∈fresh∨∀y,(x,y)∈ps->y∈found
def Rc.snd{ps:List (Int×Int)}{x y:Int}(h:Rc ps x y):y∈ps.map (·.2):=by
 cases h with
 |one h=>exact mem_map.mpr ⟨_,h,rfl⟩
 |step _ h=>exact mem_map.mpr ⟨_,h,rfl⟩
def Found.len{ps:List (Int×Int)}{a:Int}{found fresh:List Int}(h:Found ps a found fresh):found.length<=ps.length:=by
 have:=KL h.nd λx hx=>(h.rc x hx).snd;simpa using this
def Found.iff{ps:List (Int×Int)}{a:Int}{found:List Int}(h:Found ps a found [])(x:Int):x∈found↔Rc ps a x:=by
 refine⟨h.rc x,λr=>?_⟩
 induction r with
 |one e=>exact(h.cl a (.inl rfl)).elim (λz=>by cases z) λz=>z _ e
 |step _ e ih=>exact(h.cl _ (.inr ih)).elim (λz=>by cases z) λz=>z _ e
def Ua(P:D)(hd:Hd)(g:Gd)(G:GOk hd g)(ps:List (Int×Int))(hp:ps.length<=500)(a:Int)
 (hP:∀(z1 z2 z3 z4 z5 z6:Option D) (r:Hd),Es (A0 0) [some P,z1,z2,z3,z4,z5,z6] (hd++r)=some ((ps.map Ar,g),hd++r)):∀(N:Nat) (found fresh:List Int) (z4 z5 z6:Option D),fresh.length+(ps.length-found.length)<=N->fresh.length<=1+found.length->Found ps a found fresh->∃(k:Nat) (found':List Int) (y4 y5 y6:Option D),
 B6 (B9 (A0 3)) Mc k [some P,some (.im (.int a)),some (.mu hd.length),some (.mu (hd.length+1)),z4,z5,z6] (hd++[.lst (intD found),.lst (intD fresh)]) =
  some (.nx [some P,some (.im (.int a)),some (.mu hd.length),some (.mu (hd.length+1)),y4,y5,y6],hd++[.lst (intD found'),.lst []])/\Found ps a found' []:=by
 intro N
 induction N with
 |zero=>
  intro found fresh z4 z5 z6 hN _ F;have:fresh=[]:=List.length_eq_zero_iff.mp (by omega);subst this;refine⟨1,found,z4,z5,z6,?_,F⟩;simp only[B6,JF,DX,List.getElem?_cons_zero,List.getElem?_cons_succ,bind_some,Cv,g1,iU,List.isEmpty_nil,Bool.not_true,iI,Bool.false_eq_true,j9]
 |succ N ih=>
  intro found fresh z4 z5 z6 hN hfr F;rcases List.eq_nil_or_concat fresh with rfl|⟨fr,x,rfl⟩
  .refine⟨1,found,z4,z5,z6,?_,F⟩;simp only[B6,JF,DX,List.getElem?_cons_zero,List.getElem?_cons_succ,bind_some,Cv,g1,iU,List.isEmpty_nil,Bool.not_true,iI,Bool.false_eq_true,j9]
  .rw[List.concat_eq_append]at *;have fl:=F.len;simp only[iL,iM,jh]at hN hfr;obtain⟨new,y5,y6,q,l,nd,frh,al⟩:=GR P hd g G a x ps found fr z5 z6 (by omega) (by omega);have F2:Found ps a (found++new) (fr++new):=by
    have rx:∀y∈new,Rc ps a y:=λy hy=>by
     rcases F.fr x (by simp)with rfl|h
     .exact .one (frh y hy).2
     .exact .step (F.rc x h) (frh y hy).2
    refine⟨nodup_append.mpr ⟨F.nd,nd,λu hu w hw e=>(frh w hw).1 (e ▸ hu)⟩,λy hy=>?_,λy hy=>?_,λw hw=>?_⟩
    .rcases mem_append.mp hy with h|h
     .exact F.rc y h
     .exact rx y h
    .rcases mem_append.mp hy with h|h
     .rcases F.fr y (by simp[h])with h|h
      .exact .inl h
      .exact .inr (j5 _ h)
     .exact .inr (ir _ h)
    .by_cases hn:w∈new
     .exact .inl (ir _ hn)
     .have hw':w=a∨w∈found:=by
       rcases hw with h|h
       .exact .inl h
       .rcases mem_append.mp h with h|h
        .exact .inr h
        .exact absurd h hn
      rcases F.cl w hw' with h|h
      .rcases mem_append.mp h with h|h
       .exact .inl (j5 _ h)
       .have:w=x:=by simpa using h
        subst this;exact .inr al
      .exact .inr λy hy=>j5 _ (h y hy)
   have fl2:=F2.len;simp only[iL]at fl2;obtain⟨k,found',y4,w5,w6,e,F3⟩:=ih (found++new) (fr++new) (some (.im (.int x))) y5 y6 (by simp only[iL];omega) (by simp only[iL];omega) F2;refine⟨k+1,found',y4,w5,w6,?_,F3⟩;have pop:Ex (.mu (hd.length+1)) [] (hd++[.lst (intD found),.lst (intD (fr++[x]))])=some (.im (.int x),hd++[.lst (intD found),.lst (intD fr)]):=by
    simp only[Ex,g1,j6,iD,iU,iL,iM,jh,iu];simp
   have ne:(intD (fr++[x])).isEmpty=false:=by simp
   unfold B6;simp only[JF,DX,List.getElem?_cons_zero,List.getElem?_cons_succ,bind_some,Cv,g1,ne,Bool.not_false,iI,iE,Mc,JG,Gm,PX,LG,Mh,pop,Jt,set_cons_succ,set_cons_zero,cB,hP,q,e]
def Oq(P:D)(hd:Hd)(g:Gd)(G:GOk hd g)(ps:List (Int×Int))(hp:ps.length<64)(a:Int)
 (hP:∀(z1 z2 z3 z4 z5 z6:Option D) (r:Hd),Es (A0 0) [some P,z1,z2,z3,z4,z5,z6] (hd++r)=some ((ps.map Ar,g),hd++r)):∃(found:List Int) (r:Hd),F_reached [P,.im (.int a)] hd=some (.im (.tup ((BB found).map I.int)),hd++r)/\found.Nodup/\(∀x,x∈found↔Rc ps a x)/\found.length<=ps.length:=by
 obtain⟨k,found,y4,y5,y6,e,F⟩:=Ua P hd g G ps (by omega) a hP (1+ps.length) [] [a] none none none (by simp) (by simp) ⟨.nil,(λx h=>by cases h),(λx h=>Or.inl (by simpa using h)),(λx h=>Or.inl (by simpa using h))⟩;have e:=KO e;have fl:=F.len;refine⟨found,[.lst (intD found),.lst []],?_,F.nd,F.iff,fl⟩;have mk:AV ((BB found).map λi=>D.im (.int i))=.im (.tup ((BB found).map I.int)):=by
  have:((BB found).map λi=>D.im (.int i))=((BB found).map I.int).map D.im:=by rw[iF];rfl
  rw[this,BU]
 simp only[iU,iD]at e;have lt:found.length<64:=by omega
 simp only[F_reached,mkF,HR,JG,Gm,bt,bv,OB,Mh,DX,iD,iU,iM,jh,iY,nil_append,List.replicate,Nat.reduceAdd,Nat.reduceSub,iE,List.getElem?_cons_zero,List.getElem?_cons_succ,bind_some,CA,CT,Jt,iI,set_cons_succ,set_cons_zero,iL,List.append_assoc,e,S8,S9,S7,Mi,g0,KS,lt,BR,mk]
end Bd
namespace Rw
open PySem L2 Bd
@[reducible] def HR:MS:=(A8 (AE 2 (Ao (BA A4)))
 (A8 (AE 3 (Ao (BA (A1 (A0 1) A4))))
 (A8 (CQ (B9 (A0 3))
  (A8 (AE 4 (mMt Ex (A0 3) A4))
 (Ax (Es (A0 0)) (Bb 2 (AU (AC 5) (AU (AC 6) Bg)))
  (Aj (CI (AH (mOp gEq (A0 5) (A0 4))) (AH (mOp (gIn true) (A0 6) (A0 2))))
  (A8 (Aw (mMt Ab (A0 2) (A1 (A0 6) A4)))
 (Aw (mMt Ab (A0 3) (A1 (A0 6) A4))))
  Aa))))
 (AM (BL BR (CW (BV (A0 2))))))))
def F_reached:List D->Hd->Option (D×Hd):=mkF 2 7 HR
@[reducible] def c6:MS:=(AM (A6 0 F_reached (A1 (A0 1) (A1 (A0 2) A4))))
def F_behind:List D->Hd->Option (D×Hd):=mkF 3 3 c6
def pairs_im(ps:List (Int×Int)):(ps.map DO).map D.im=ps.map Ar:=by rw[iF];rfl
abbrev wI(ps:List (Int×Int)):I:=.tup (ps.map DO)
def S6:F_reached=Bd.F_reached:=rfl
def behind_eq{ps:List (Int×Int)}(hp:ps.length<64)(n a:Int):∃(found:List Int) (g:Hd),F_behind [.im (.int n),.im (wI ps),.im (.int a)] []=some (.im (.tup ((BB found).map I.int)),g)/\found.Nodup/\∀x,x∈found↔Rc ps a x:=by
 obtain⟨found,r,e,nd,mem,_⟩:=Oq (.im (wI ps)) [] [] (AK _) ps hp a λz1 z2 z3 z4 z5 z6 r=>by
  have:=YB (m:=A0 0) (ls:=[some (.im (wI ps)),z1,z2,z3,z4,z5,z6]) (hd:=[]++r) (hd':=[]++r) (is:=ps.map DO) rfl;rw[this,pairs_im]
 refine⟨found,[],?_,nd,mem⟩;have c:=Kh (m:=A1 (A0 1) (A1 (A0 2) A4)) (F:=Bd.F_reached) (ls:=[some (.im (.int n)),some (.im (wI ps)),some (.im (.int a))]) (hd:=[]) (ds:=[.im (wI ps),.im (.int a)]) (hd1:=[]) (by simp) (by simp) e;simp only[F_behind,mkF,c6,S6,S8,iD,iU,iM,jh,iY,nil_append,List.replicate,Nat.reduceAdd,Nat.reduceSub,iE,c,bind_some]
end Rw
namespace Bt
open PySem L2 Bd
def By(t:Tp):List D:=[.mu 0,.im (.int t.nx),.im (.int t.lf),.im (.int t.tn)]
def tl(t:Tp):Hd:=[.lst (t.cells.map λi=>.im (.int i)),.lst (By t)]
@[simp] theorem fj(t:Tp):(tl t).length=2:=rfl
@[simp] theorem hX(t:Tp)(r:Hd):(tl t++r)[0]?=some (.lst (t.cells.map λi=>.im (.int i))):=rfl
@[simp] theorem hV(t:Tp)(r:Hd):(tl t++r)[1]?=some (.lst (By t)):=rfl
@[simp] theorem tl0(t:Tp):(tl t)[0]?=some (.lst (t.cells.map λi=>.im (.int i))):=rfl
@[simp] theorem tl1(t:Tp):(tl t)[1]?=some (.lst (By t)):=rfl
@[simp] theorem tln(t:Tp):(By t).length=4:=rfl
section
variable(t:Tp)(v:Int)
@[simp] theorem i4:atI (By t) 0=some (.mu 0):=DJ (j:=0) rfl
@[simp] theorem i3:atI (By t) 1=some (.im (.int t.nx)):=DJ (j:=1) rfl
@[simp] theorem i0:atI (By t) 2=some (.im (.int t.lf)):=DJ (j:=2) rfl
@[simp] theorem hZ:atI (By t) 3=some (.im (.int t.tn)):=DJ (j:=3) rfl
@[simp] theorem gp:ixN 4 1=some 1:=rfl
@[simp] theorem gm:ixN 4 2=some 2:=rfl
@[simp] theorem gj:ixN 4 3=some 3:=rfl
@[simp] theorem fg:(By t).set 1 (.im (.int v))=By { t with nx:=v }:=rfl
@[simp] theorem ff:(By t).set 2 (.im (.int v))=By { t with lf:=v }:=rfl
@[simp] theorem fe:(By t).set 3 (.im (.int v))=By { t with tn:=v }:=rfl
end
@[simp] theorem gN(t t':Tp)(h:t'.cells=t.cells):(tl t).set 1 (.lst (By t'))=tl t':=by unfold tl;rw[h];rfl
@[simp high] theorem hU(t:Tp)(x:MO)(r:Hd):(tl t++(x::r))[2]?=some x:=rfl
@[simp high] theorem hJ(t:Tp)(x y:MO)(r:Hd):(tl t++(x::y::r))[3]?=some y:=rfl
@[simp high] theorem gP(t:Tp)(x y:MO)(r:Hd):(tl t++(x::r)).set 2 y=tl t++(y::r):=rfl
@[simp high] theorem gO(t:Tp)(x y z:MO)(r:Hd):(tl t++(x::y::r)).set 3 z=tl t++(x::z::r):=rfl
@[simp] theorem ck(t:Tp):(tl t).all (clO 2)=true:=by simp[tl,clO,SL,By,clD,Au]
structure DrawL(P:List D->Hd->Option (D×Hd))(τ:Tp)(many:Int)(r:Int)(τ':Tp):Prop where
 lo:0<=r
 hi:r<many
 eq:P [.mu 1,.im (.int many)] (tl τ)=some (.im (.int r),tl τ')
end Bt
namespace An
open PySem L2 Bd
inductive Tv where
 |non|bl (b:Bool)|int (i:Int)|str (x:Str)|tup (l:List Tv)|lst (l:List Tv)
mutual
def Is(n:Nat)(hd:Hd):Tv->D->Prop
 |.non,d=>d=.im .non
 |.bl b,d=>d=.im (.bl b)
 |.int i,d=>d=.im (.int i)
 |.str x,d=>d=.im (.str x)
 |.tup ts,d=>∃ds,d=AV ds/\Iss n hd ts ds
 |.lst ts,d=>∃k ds,d=.mu k/\2<=k/\k<n/\hd[k]?=some (.lst ds)/\Iss n hd ts ds
def Iss(n:Nat)(hd:Hd):List Tv->List D->Prop
 |[],ds=>ds=[]
 |t::ts,ds=>∃d r,ds=d::r/\Is n hd t d/\Iss n hd ts r
end
section
variable{n n':Nat}{hd hd':Hd}
mutual
theorem Is.mono(hn:n<=n')(hk:∀k,2<=k->k<n->hd'[k]?=hd[k]?):∀{t:Tv} {d:D},Is n hd t d->Is n' hd' t d
 |.non,d,h=>by simpa only[Is]using h
 |.bl b,d,h=>by simpa only[Is]using h
 |.int i,d,h=>by simpa only[Is]using h
 |.str x,d,h=>by simpa only[Is]using h
 |.tup ts,d,h=>by
  simp only[Is]at h ⊢;obtain⟨ds,e,q⟩:=h;exact⟨ds,e,Iss.mono hn hk q⟩
 |.lst ts,d,h=>by
  simp only[Is]at h ⊢;obtain⟨k,ds,e,k2,kn,e2,q⟩:=h;exact⟨k,ds,e,k2,iC kn hn,(hk k k2 kn).trans e2,Iss.mono hn hk q⟩
theorem Iss.mono(hn:n<=n')(hk:∀k,2<=k->k<n->hd'[k]?=hd[k]?):∀{ts:List Tv} {ds:List D},Iss n hd ts ds->Iss n' hd' ts ds
 |[],ds,h=>by simpa only[Iss]using h
 |t::ts,ds,h=>by
  simp only[Iss]at h ⊢;obtain⟨d,r,e,q,z⟩:=h;exact⟨d,r,e,Is.mono hn hk q,Iss.mono hn hk z⟩
end
def ty(T:Ty):Tv->Bool
 |.non=>false
 |.bl _=>decide (T=.int∨T=.bool)
 |.int _=>decide (T=.int)
 |.str _=>decide (T=.str)
 |.tup _=>decide (T=.tuple)
 |.lst _=>decide (T=.list)
mutual
def pyT:Tv->PyData
 |.non=>.none
 |.bl b=>.bool b
 |.int i=>.int i
 |.str x=>.str x
 |.tup ts=>.tuple (Ts ts)
 |.lst ts=>.list (Ts ts)
def Ts:List Tv->List PyData
 |[]=>[]
 |t::ts=>pyT t::Ts ts
end
mutual
def dep:Tv->Nat
 |.non=>0
 |.bl _=>0
 |.int _=>0
 |.str _=>0
 |.tup ts=>Um ts+1
 |.lst ts=>Um ts+1
def Um:List Tv->Nat
 |[]=>0
 |t::ts=>max (dep t) (Um ts)
end
def R8(m:Nat)(i:I):pyN m hd (.im i)=some i.py:=by cases m<;>rfl
mutual
def Gq(m:Nat):Tv->Prop
 |.non=>True
 |.bl _=>True
 |.int i=>i.natAbs<=m
 |.str x=>∀c∈x.cps.toList,c<128
 |.tup ts=>Gqs m ts
 |.lst ts=>Gqs m ts
def Gqs(m:Nat):List Tv->Prop
 |[]=>True
 |t::ts=>Gq m t/\Gqs m ts
end
mutual
def wt:Tv->Nat
 |.non=>1
 |.bl _=>1
 |.int i=>i.natAbs.log2+2
 |.str x=>x.length+1
 |.tup ts=>wts ts+1
 |.lst ts=>wts ts+1
def wts:List Tv->Nat
 |[]=>0
 |t::ts=>wt t+wts ts
end
mutual
theorem Gq.mono{m m':Nat}(h:m<=m'):∀{t:Tv},Gq m t->Gq m' t
 |.non,q=>trivial
 |.bl _,q=>trivial
 |.int i,q=>by simp only[Gq]at q ⊢;omega
 |.str x,q=>by simpa only[Gq]using q
 |.tup ts,q=>by simp only[Gq]at q ⊢;exact Gqs.mono h q
 |.lst ts,q=>by simp only[Gq]at q ⊢;exact Gqs.mono h q
theorem Gqs.mono{m m':Nat}(h:m<=m'):∀{ts:List Tv},Gqs m ts->Gqs m' ts
 |[],q=>trivial
 |t::ts,q=>by simp only[Gqs]at q ⊢;exact⟨Gq.mono h q.1,Gqs.mono h q.2⟩
end
end
end An
namespace An
open PySem L2 Bd
section
variable{n n':Nat}{hd hd':Hd}
def tl:Tv->Nat
 |.tup l=>l.length
 |.lst l=>l.length
 |_=>0
def sIx_nat(l d k:Nat):HT.sIx l d (some (k:Int))=min k l:=by
 unfold HT.sIx;have h:¬ ((k:Int)<0):=by omega
 simp[h]
def cF(xs:List D)(k:Nat):Br xs none (some (k:Int))=xs.take k:=by
 unfold Br;rw[sIx_nat,show HT.sIx xs.length 0 none=0 from rfl,List.drop_zero,Nat.sub_zero,<- List.take_eq_take_min]
def SI(xs:List D)(k:Nat):Br xs (some (k:Int)) none=xs.drop k:=by
 unfold Br;rw[sIx_nat,show HT.sIx xs.length xs.length none=xs.length from rfl,jg (by simp)];by_cases h:k<=xs.length
 .rw[Nat.min_eq_left h]
 .rw[Nat.min_eq_right (by omega),List.drop_of_length_le (ig _),List.drop_of_length_le (by omega)]
end
section
variable{hd:Hd}{QE:D->Hd->Prop}{d e:D}{xs ys:List D}
def SX(h:AL d=some xs):Md d e hd=none:=by
 cases d with
 |im i=>cases i with
  |tup is=>rfl
  |_=>cases h
 |tm _=>rfl
 |mu _=>cases h
 |ro _=>cases h
 |op _ _ _=>cases h
def NK(h1:AL d=some xs)(h2:AL e=some ys)(hn:xs≠[])(hl:xs.length+ys.length<=1000000)(q:QE (AV (xs++ys)) hd):WP (AX d e hd) QE:=by
 refine⟨_,_,?_,q⟩;show CJ Md ER d e hd=_;unfold CJ;rw[SX h1];show ER d e hd=_;unfold ER;rw[h1,bind_some,h2,bind_some,i9 ⟨hn,AY hl⟩]
def Vs(h1:AL d=some xs)(h2:AL e=some ys)(hl:xs.length+ys.length<=1000000)(q:QE (AV (xs++ys)) hd):WP (DW d e hd) QE:=by
 by_cases hn:xs=[]
 .subst hn;refine⟨_,_,?_,q⟩;show CJ AX GC d e hd=_;unfold CJ;have:AX d e hd=none:=by
   show CJ Md ER d e hd=_;unfold CJ;rw[SX h1];show ER d e hd=_;unfold ER;rw[h1,bind_some,h2,bind_some,ic (λc=>c.1 rfl)]
  rw[this];show GC d e hd=_;unfold GC;rw[h1,bind_some,h2,bind_some,i9 rfl];rfl
 .obtain⟨z,x,e1,q1⟩:=NK (hd:=hd) (QE:=QE) h1 h2 hn hl q;refine⟨z,x,?_,q1⟩;show CJ AX GC d e hd=_;unfold CJ;rw[e1]
end
section
variable{ls:Ls}{hd:Hd}{QE:D->Hd->Prop}{d:D}{ds:List D}{i j k:Nat}
def cq(h1:ls[i]?=some (some d))(hv:AL d=some ds)(h2:ls[j]?=some (some (.im (.int (k:Int)))))(q:QE (AV (ds.take k)) hd):WE (Bm (A0 i) Ap (BN (A0 j))) ls hd QE:=
 FU (A2 h1 (F8 (DG (A2 h2 ⟨_,rfl,ds,hv,by rw[cF];exact q⟩))))
def Yw{c:Nat}(h1:ls[i]?=some (some d))(hv:AL d=some ds)(h2:ls[j]?=some (some (.im (.int (k:Int)))))(q:QE (AV (ds.drop (k+c))) hd):WE (Bm (A0 i) (BN (mOp AX (A0 j) (mC (.int (c:Int))))) Ap) ls hd QE:=
 FU (A2 h1 (DG (A9 (A2 h2 (AD (C4 ⟨_,rfl,F8 ⟨ds,hv,by rw[show((k:Int)+(c:Int))=((k+c:Nat):Int) by omega,SI];exact q⟩⟩))))))
end
end An
namespace Sm
def sm(f:Nat->Int):List Nat->Int
 |[]=>0
 |k::r=>f k+sm f r
def ps(g:Nat->Nat->Int):List Nat->Int
 |[]=>0
 |k::r=>sm (g k) r+ps g r
def cst(l w:Nat->Int):List Nat->Int->Int->Int
 |[],_,f=>f
 |k::r,e,f=>cst l w r (e+l k) (f+w k*(e+l k))
theorem QK(f g:Nat->Int):∀ks,sm (λk=>f k+g k) ks=sm f ks+sm g ks
 |[]=>rfl
 |k::r=>by simp only[sm];rw[QK f g r];omega
theorem V3{f g:Nat->Int}:∀{ks:List Nat},(∀k∈ks,f k<=g k)->sm f ks<=sm g ks
 |[],_=>Int.le_refl _
 |k::r,h=>by
  have h1:=h k (by simp);have h2:=V3 (f:=f) (g:=g) (ks:=r) λx hx=>h x (by simp[hx]);simp only[sm];omega
theorem Oj{f g:Nat->Int}:∀{ks:List Nat},(∀k∈ks,f k=g k)->sm f ks=sm g ks
 |[],_=>rfl
 |k::r,h=>by
  have h1:=h k (by simp);have h2:=Oj (f:=f) (g:=g) (ks:=r) λx hx=>h x (by simp[hx]);simp only[sm];omega
def HD(f:Nat->Int){xs ys:List Nat}(p:xs.Perm ys):sm f xs=sm f ys:=by
 induction p with
 |nil=>rfl
 |cons x _ ih=>simp only[sm,ih]
 |swap x y l=>simp only[sm];omega
 |trans _ _ a b=>rw[a,b]
def XS{g:Nat->Nat->Int}(hg:∀x y,g x y=g y x){xs ys:List Nat}(p:xs.Perm ys):ps g xs=ps g ys:=by
 induction p with
 |nil=>rfl
 |cons x q ih=>simp only[ps,ih,HD _ q]
 |swap x y l=>simp only[ps,sm];rw[hg x y];omega
 |trans _ _ a b=>rw[a,b]
theorem LF{g h:Nat->Nat->Int}:∀{ks:List Nat},(∀x∈ks,∀y∈ks,g x y<=h x y)->ps g ks<=ps h ks
 |[],_=>Int.le_refl _
 |k::r,H=>by
  have h1:=V3 (f:=g k) (g:=h k) (ks:=r) λx hx=>H k (by simp) x (by simp[hx]);have h2:=LF (g:=g) (h:=h) (ks:=r) λx hx y hy=>H x (by simp[hx]) y (by simp[hy]);simp only[ps];omega
theorem Nn(g:Nat->Nat->Int)(x:Nat):∀ks,ps g (ks++[x])=ps g ks+sm (λk=>g k x) ks
 |[]=>by simp[ps,sm]
 |k::r=>by
  have e:∀f:Nat->Int,∀l:List Nat,sm f (l++[x])=sm f l+f x:=by
   intro f l
   induction l with
   |nil=>simp[sm]
   |cons y r ih=>simp only[iY,sm,ih];omega
  simp only[iY,ps,sm,e,Nn g x r];omega
theorem HC(f:Nat->Int)(x:Nat):∀l,sm f (l++[x])=sm f l+f x
 |[]=>by simp[sm]
 |y::r=>by simp only[iY,sm,HC f x r];omega
theorem SJ(l w:Nat->Int):∀(ks:List Nat) (e f:Int),cst l w ks e f=f+sm (λk=>w k*(e+l k)) ks+ps (λx y=>l x*w y) ks
 |[],e,f=>by simp[cst,sm,ps]
 |k::r,e,f=>by
  simp only[cst];rw[SJ l w r];have e1:sm (λy=>w y*(e+l k+l y)) r=sm (λy=>w y*(e+l y)) r+sm (λy=>l k*w y) r:=by
   rw[<- QK];refine Oj λy _=>?_;rw[show e+l k+l y=(e+l y)+l k by omega,mul_add (w y) (e+l y) (l k),jd (w y) (l k)]
  rw[e1];simp only[sm,ps];omega
def FH(l w:Nat->Int)(c:Int)(n:Nat):Int:=sm (λk=>w k*(c+l k)) (List.range n)+ps (λx y=>min (l x*w y) (l y*w x)) (List.range n)
def UP(l w:Nat->Int)(c:Int){n:Nat}{ks:List Nat}(p:ks.Perm (List.range n)):FH l w c n<=cst l w ks c 0:=by
 rw[SJ,FH,<- HD _ p,<- XS (λx y=>Int.min_comm _ _) p];have:=LF (g:=λx y=>min (l x*w y) (l y*w x)) (h:=λx y=>l x*w y) (ks:=ks) λx _ y _=>Int.min_le_left _ _;omega
def gn(l:Nat->Int):List Nat->Int
 |[]=>0
 |k::r=>l k*(l k+sm l r)+gn l r
def YH(l:Nat->Int){xs ys:List Nat}(p:xs.Perm ys):gn l xs=gn l ys:=by
 induction p with
 |nil=>rfl
 |cons x p ih=>rw[gn,gn,ih,HD l p]
 |swap x y r=>
  simp only[gn,sm];have h:l y*l x=l x*l y:=jd _ _;simp only[mul_add];omega
 |trans _ _ a b=>rw[a,b]
def pv(l:Nat->Int)(a:Nat)(S:List Nat)(k:Nat):Int:=if k=a then sm l S else if k∈S then-l k else 0
theorem Nq(l:Nat->Int)(hl:∀k,0<=l k)(a:Nat)(S:List Nat):∀(post:List Nat) (e f:Int),a∉post->cst l (pv l a S) post e f<=f-sm l (post.filter λk=>decide (k∈S))*e-gn l (post.filter λk=>decide (k∈S))
 |[],e,f,_=>by simp[cst,sm,gn]
 |k::post,e,f,h=>by
  have hk:k≠a:=λz=>h (by simp[z]);have ih:=Nq l hl a S post (e+l k) (f+pv l a S k*(e+l k)) (λz=>h (by simp[z]));have h0:0<=sm l (post.filter λk=>decide (k∈S)):=by
   have:∀xs:List Nat,0<=sm l xs:=λxs=>by
    induction xs with
    |nil=>simp[sm]
    |cons x r ih=>have:=hl x;simp only[sm];omega
   exact this _
  rw[cst];refine Int.le_trans ih ?_;by_cases q:k∈S
  .rw[List.filter_cons_of_pos (by simpa using q)];have e1:pv l a S k=- l k:=by unfold pv;rw[ic hk,i9 q]
   rw[e1];simp only[gn,sm];generalize sm l (post.filter λk=>decide (k∈S))=s at *;generalize gn l (post.filter λk=>decide (k∈S))=g at *;have x1:-l k*(e+l k)=-(l k*e+l k*l k):=by rw[Int.neg_mul,mul_add]
   have x2:s*(e+l k)=s*e+l k*s:=by rw[mul_add,jd s (l k)]
   have x3:(l k+s)*e=l k*e+s*e:=Int.add_mul _ _ _;have x4:l k*(l k+s)=l k*l k+l k*s:=mul_add _ _ _;rw[x1,x2,x3,x4];omega
  .rw[List.filter_cons_of_neg (by simpa using q)];have e1:pv l a S k=0:=by unfold pv;rw[ic hk,ic q]
   rw[e1];generalize sm l (post.filter λk=>decide (k∈S))=s at *;have x1:s*(e+l k)=s*e+s*l k:=mul_add _ _ _;have x2:0<=s*l k:=jw h0 (hl k);rw[x1,Int.zero_mul];omega
theorem RP(l w:Nat->Int):∀(pre r:List Nat) (e f:Int),(∀k∈pre,w k=0)->cst l w (pre++r) e f=cst l w r (e+sm l pre) f
 |[],r,e,f,_=>by simp[sm]
 |k::pre,r,e,f,h=>by
  rw[iY,cst,h k (by simp),Int.zero_mul,Int.add_zero,RP l w pre r _ _ λx hx=>h x (by simp[hx])];simp only[sm];rw[Int.add_assoc]
def U3(l:Nat->Int)(hl:∀k,0<=l k){a:Nat}{S:List Nat}(hS:S.Nodup){pre post:List Nat}(hn:(pre++a::post).Nodup)(hs:∀b∈S,b∈post)(c:Int):cst l (pv l a S) (pre++a::post) c 0 <= - gn l S:=by
 have n1:a∉post:=by
  have:=(nodup_append.mp hn).2.1;exact(nodup_cons.mp this).1
 have np:post.Nodup:=(nodup_cons.mp (nodup_append.mp hn).2.1).2;have hp:∀k∈pre,pv l a S k=0:=λk hk=>by
  have d:=(nodup_append.mp hn).2.2;unfold pv;have k1:k≠a:=d k hk a (by simp);have k2:k∉S:=λz=>d k hk k (by simp[hs k z]) rfl;rw[ic k1,ic k2]
 rw[RP l _ pre (a::post) c 0 hp,cst];have ea:pv l a S a=sm l S:=by unfold pv;rw[i9 rfl]
 rw[ea];refine Int.le_trans (Nq l hl a S post _ _ n1) ?_;have pm:(post.filter λk=>decide (k∈S)).Perm S:=by
  refine(List.perm_ext_iff_of_nodup (np.filter _) hS).mpr λx=>?_;simp only[mem_filter,jt];exact⟨λh=>h.2,λh=>⟨hs x h,h⟩⟩
 rw[HD l pm,YH l pm];omega
theorem K2(l w v:Nat->Int)(t:Int):∀(ks:List Nat) (e f g:Int),cst l (λk=>w k+t*v k) ks e (f+t*g)=cst l w ks e f+t*cst l v ks e g
 |[],e,f,g=>rfl
 |k::ks,e,f,g=>by
  rw[cst,cst,cst,<- K2 l w v t ks]
  congr 1
  rw[Int.add_mul,mul_add t,mul_assoc];omega
end Sm
namespace L2
open PySem PySem.W PyProof.Rows
def feE{K:Frag}{e:Df}{n:Str}{s:Stmt}(h:Ea.Fe K n s)(hn:e.x=n:=by rfl)(hs:e.st=s:=by rfl):Fe K e:=by subst hn;subst hs;exact h
def zsE{K:Frag}(h:Ea.Zs K):Zs K:=h
theorem VO:∀{l:List Value},Ea.ovB l=true->OverV l
 |[],h=>by simp[Ea.ovB]at h
 |v::l,h=>by
  unfold Ea.ovB at h;rcases Bool.or_eq_true_iff.mp h with h|h
  .rw[jO h];exact .base
  .cases v with
   |ref a=>exact .own (VO h)
   |_=>cases h
theorem Hn{α:Type}{p f:α->Bool}{q:α}:∀{l:List α},l.find? p=some q->f q=true->(l.filter f).find? p=some q
 |[],h,_=>by cases h
 |a::l,h,hf=>by
  rw[List.find?_cons]at h;cases pa:p a with
  |true=>
   rw[pa]at h;cases h;rw[filter_cons,i9 hf,List.find?_cons,pa]
  |false=>
   rw[pa]at h;have ih:=Hn h hf;rw[filter_cons];split
   .rw[List.find?_cons,pa];exact ih
   .exact ih
def Us{K:Frag}{ts:List Tb}{nm:Str}{C:Addr}(h:clsAt K nm=some C)(hC:C∉ts.map (·.1)):clsAt (BK K ts) nm=some C:=by
 obtain⟨⟨C',o⟩,e,e2⟩:=i7 h;cases e2;unfold clsAt BK;rw[List.find?_append,Hn e (by simpa using hC)];rfl
def Ini(s:Stmt)(ps fs:List Str):Prop:=(∀{P:Program} {w:World} {K:Frag} {mg:Str->Option Value} {base:Heap} {qual:Str} {C fI fa:Addr} {fd:FuncData},Fun K "__init__" qual s fa fd->XC K C fI->(∀f∈fs,DY K C f)->FnOk P w K mg base CX0 1 fa fd ps (spJ C fs))/\ps.length=fs.length+1/\fs.length<=1000 /\
 ∀(qual:Str) (kV doc pm:Value) (an:Option Addr) (cdv ct:Value) (us:List Value),us.length=ps.length->bindArgs (fnOf "__init__" qual (CY s) (BW s) (AB s) .none kV doc pm an cdv ct) ⟨us,[]⟩=pure (ps.zip us)
section
variable{K:Frag}{h:Heap}{mg:Str->Option Value}{xs:Xs}{c P:Str->Addr}(X:K.In h)(G:h.Ns mainGlobals mg)(hx:HX xs mg h c P){l:OpenLaw}{w:World}{base:Heap}{nm:Str}{s:Stmt}{fs ps:List Str}{C:Addr}
include X hx in
theorem Ec.ncls(H:Ea.Ec K nm s fs C):C∉(tbs xs P).map (·.1):=λz=>by
 obtain⟨fI,N,nm',q,bs,bm,sub,sn,ab,col,dd,od,an,k0,k1,k2,k3,k5,oc,kV,dc,pm,cd,ct,sl,a,b,c',_⟩:=H;have:=X _ _ c';rw[PM hx C z]at this;cases this
include X hx in
theorem Ec.at(H:Ea.Ec K nm s fs C):clsAt (BK K (tbs xs P)) nm=some C:=by
 have n:=Ec.ncls X hx H;obtain⟨fI,N,nm',q,bs,bm,sub,sn,ab,col,dd,od,an,k0,k1,k2,k3,k5,oc,kV,dc,pm,cd,ct,sl,a,b,_⟩:=H;exact Us b n
include X G hx in
theorem Ec.cl(H:Ea.Ec K nm s fs C)(I:Ini s ps fs):Cl (enM l w K xs P mg base) nm fs:=by
 have at':=Ec.at X hx H;have hP:=PM hx;obtain⟨fI,N,nm',q,bs,bm,sub,sn,ab,col,dd,od,an,k0,k1,k2,k3,k5,oc,kV,dc,pm,cd,ct,sl,a,b,lC,ov,fi,fn,kp,sa,ga,gx,ca,gd,tk,mo,na,li,ci,ki⟩:=H;have LE:=Nz (ts:=tbs xs P) X hP;have xc:XC (BK K (tbs xs P)) C fI:=LE.xc ⟨_,_,li,rfl⟩ ⟨⟨_,_,_,_,_,_,_,_,_,_,_,_,_,_,_,lC,VO ov⟩,fi,fn,kp,sa,ga,gx⟩;have FI:=Fun.mark (ts:=tbs xs P) (Rz (st:=s) li ci ki) X hP;have nA:∀f∈fs,DY (BK K (tbs xs P)) C f:=λf hf=>LE.noAttr (na f hf);exact⟨C,fI,_,ps,mg_of X G a,at',xc,LE.xi ⟨ca,gd,tk,mo⟩,nA,I.1 FI xc nA,FI.binds (I.2.2.2 _),I.2.1,I.2.2.1⟩
variable{B:Str}{CB:Addr}{b:Bool}
include X G hx in
theorem Ec.ch(H:Ea.Ec K nm s fs C)(hB:nsIn K mainGlobals B=some (some (.ref CB)))(k:PySem.W.exmOne K (.ref C) (.ref CB)=some true):Ch (enM l w K xs P mg base) B nm:=
 ⟨CB,C,mg_of X G hB,Ec.at X hx H,(Nz (ts:=tbs xs P) X (PM hx)).exm k⟩
include X G hx in
include X G hx in
include X G hx in
end
end L2
namespace T62
open PySem L2
abbrev Hm:Stmt:=top 5
def Lo:FnScope ["thing"] ["thing"] (AB Hm):=Av (by kernel_rfl)
@[reducible] def NE:MS:=(AM (DU (Cc .int (A0 0)) (HM (Cc .bool (A0 0)))))
def D4:FD:=mkF 1 1 NE
abbrev Dz:Df:=⟨"is_number",Hm,["thing"],1,D4⟩
abbrev Ej:Stmt:=top 6
def He:FnScope ["least","thing"] ["least","thing"] (AB Ej):=Av (by kernel_rfl)
@[reducible] def IK:MS:=(AM (DU (A6 0 D4 (A1 (A0 1) A4)) (mOp gGe (A0 1) (A0 0))))
def Bx:FD:=mkF 2 2 IK
abbrev CM:Df:=⟨"is_number_from",Ej,["least","thing"],2,Bx⟩
abbrev Dc:Stmt:=top 7
def Fw:FnScope ["many","thing"] ["many","thing"] (AB Dc):=Av (by kernel_rfl)
@[reducible] def GN:MS:=(AM (DU (A6 0 Bx (A1 (mC (.int 0)) (A1 (A0 1) A4))) (mOp gLt (A0 1) (A0 0))))
def BS:FD:=mkF 2 2 GN
abbrev Bz:Df:=⟨"is_number_of_work",Dc,["many","thing"],3,BS⟩
abbrev GK:Stmt:=top 8
def JW:FnScope ["many","thing"] ["many","thing"] (AB GK):=Av (by kernel_rfl)
@[reducible] def Ku:MS:=(AM (DU (Cc .tuple (A0 1)) (mOp gEq (mCB (f1 true Ag) (A1 (A0 1) A4)) (A0 0))))
def Bj:FD:=mkF 2 2 Ku
abbrev CU:Df:=⟨"is_tuple_of",GK,["many","thing"],1,Bj⟩
abbrev NV:Stmt:=top 9
def TC:FnScope ["things"] ["things"] (AB NV):=Av (by kernel_rfl)
@[reducible] def Y0:MS:=(AM (BL DE (Ai 2 [] (IM (BF (A0 0)) (BF (Bm (A0 0) (BN (mC (.int 1))) Ap))) (Bb 2 (AU (AC 0) (AU (AC 1) Bg))) BM (mOp gLt (A0 0) (A0 1)))))
def HZ:FD:=mkF 1 1 Y0
abbrev Jx:Df:=⟨"rises",NV,["things"],1,HZ⟩
abbrev EG:Stmt:=top 10
def GT:FnScope ["many","thing"] ["many","thing"] (AB EG):=Av (by kernel_rfl)
@[reducible] def Hh:MS:=(A8 (Aj (mOr (CH (B9 (Cc .tuple (A0 1)))) (CH (B9 (BL DE (Ai 1 [0] (BF (A0 1)) (AC 0) BM (A6 0 BS (A1 (A0 1) (A1 (A0 0) A4))))))))
 (AM (mC (.bl false)))
 Aa)
 (AM (A6 0 HZ (A1 (A0 1) A4))))
def C7:FD:=mkF 2 2 Hh
abbrev Cy:Df:=⟨"is_set_of_works",EG,["many","thing"],4,C7⟩
abbrev El:Stmt:=top 12
def Hf:FnScope ["one","other"] ["one","other"] (AB El):=Av (by kernel_rfl)
@[reducible] def IL:MS:=(A8 (AE 0 (mCB Gk (A1 (A0 0) A4)))
 (A8 (CQ (AH (mOp gNe (A0 1) (mC (.int 0))))
  (CG [0,1] (A1 (A0 1) (A1 (mOp DF (A0 0) (A0 1)) A4))))
 (AM (A0 0))))
def BY:FD:=mkF 2 2 IL
abbrev CN:Df:=⟨"common_divisor",El,["one","other"],1,BY⟩
abbrev GL:Stmt:=top 13
def JX:FnScope ["thing","top","bottom"] ["thing"] (AB GL):=Av (by kernel_rfl)
@[reducible] def Kv:MS:=(A8 (Aj (CH (B9 (A6 0 Bj (A1 (mC (.int 2)) (A1 (A0 0) A4)))))
 (AM (mC (.bl false)))
 Aa)
 (A8 (GA (A0 0) (Bb 2 (AU (AC 1) (AU (AC 2) Bg))))
 (A8 (Aj (mOr (CH (B9 (A6 0 D4 (A1 (A0 1) A4)))) (CH (B9 (A6 0 Bx (A1 (mC (.int 1)) (A1 (A0 2) A4))))))
  (AM (mC (.bl false)))
  Aa)
 (AM (mOp gEq (A6 0 BY (A1 (A0 1) (A1 (A0 2) A4))) (mC (.int 1)))))))
def D9:FD:=mkF 1 3 Kv
abbrev ED:Df:=⟨"is_fraction",GL,["thing"],3,D9⟩
abbrev Ip:Stmt:=top 14
def NA:FnScope ["top","bottom","shared"] ["top","bottom"] (AB Ip):=Av (by kernel_rfl)
@[reducible] def P8:MS:=(A8 (Aj (AH (mOp gLt (A0 1) (mC (.int 0))))
 (CG [0,1] (A1 (Cw (A0 0)) (A1 (Cw (A0 1)) A4)))
 Aa)
 (A8 (AE 2 (A6 0 BY (A1 (A0 0) (A1 (A0 1) A4))))
 (AM (Ae (A1 (mOp Ew (A0 0) (A0 2)) (A1 (mOp Ew (A0 1) (A0 2)) A4))))))
def EX:FD:=mkF 2 3 P8
abbrev ES:Df:=⟨"fraction",Ip,["top","bottom"],2,EX⟩
abbrev Hk:Stmt:=top 16
def Ln:FnScope ["works","some"] ["works","some"] (AB Hk):=Av (by kernel_rfl)
@[reducible] def ND:MS:=(AM (BL FO (Ai 1 [0] (BF (A0 1)) (AC 0) BM (mOp gIx (mOp gIx (A0 1) (A0 0)) (mC (.int 0))))))
def E2:FD:=mkF 2 2 ND
abbrev Dy:Df:=⟨"length_of",Hk,["works","some"],1,E2⟩
abbrev GI:Stmt:=top 17
def JU:FnScope ["works","coming"] ["works"] (AB GI):=Av (by kernel_rfl)
@[reducible] def Ks:MS:=(A8 (AE 1 (mOp gIx (mOp gIx (A0 0) (mC (.int 0))) (mC (.int 1))))
 (A8 (Aj (B9 (BL DE (Ai 1 [1] (BF (A0 0)) (AC 0) BM (mOp gEq (mOp gIx (A0 0) (mC (.int 1))) (A0 1)))))
  (AM (A0 1))
  Aa)
 (AM (mC .non))))
def D7:FD:=mkF 1 2 Ks
abbrev EC:Df:=⟨"same_coming",GI,["works"],1,D7⟩
abbrev GU:Stmt:=top 18
def Kr:FnScope ["works","coming"] ["works"] (AB GU):=Av (by kernel_rfl)
@[reducible] def MQ:MS:=(A8 (AE 1 (A6 0 D7 (A1 (A0 0) A4)))
 (A8 (Aj (AH (Dk false (A0 1)))
  CS
  Aa)
 (AM (A0 1))))
def DZ:FD:=mkF 1 2 MQ
abbrev Ey:Df:=⟨"one_coming",GU,["works"],2,DZ⟩
abbrev DL:Stmt:=top 19
def FW:FnScope ["works","word"] ["works","word"] (AB DL):=Av (by kernel_rfl)
@[reducible] def G5:MS:=(Aj (B9 (BL MX (Ai 1 [1] (BF (A0 0)) (AC 0) BM (mOp gNe (mOp gIx (mOp gIx (A0 0) (mC (.int 2))) (mC (.int 0))) (A0 1)))))
 CS
 Aa)
def Bn:FD:=mkF 2 2 G5
abbrev CK:Df:=⟨"refuse_other_costs",DL,["works","word"],1,Bn⟩
abbrev Hj:Stmt:=top 20
def Lm:FnScope ["work"] ["work"] (AB Hj):=Av (by kernel_rfl)
@[reducible] def NC:MS:=(AM (mOp gIx (mOp gIx (A0 0) (mC (.int 2))) (Cw (mC (.int 1)))))
def E1:FD:=mkF 1 1 NC
abbrev Dx:Df:=⟨"weight_of",Hj,["work"],1,E1⟩
abbrev EF:Stmt:=top 22
def GS:FnScope ["works","coming"] ["works"] (AB EF):=Av (by kernel_rfl)
@[reducible] def Hg:MS:=(A8 (AE 1 (A6 0 DZ (A1 (A0 0) A4)))
 (A8 (Aw (A6 0 Bn (A1 (A0 0) (A1 (mC (.str "ends")) A4))))
 (AM (A0 1))))
def Bk:FD:=mkF 1 2 Hg
abbrev C6:Df:=⟨"weighted_coming",EF,["works"],3,Bk⟩
abbrev GJ:Stmt:=top 23
def JV:FnScope ["coming","lengths","weights","alone","pairs"] ["coming","lengths","weights"] (AB GJ):=Av (by kernel_rfl)
@[reducible] def Kt:MS:=(A8 (AE 3 (BL FO (Ai 2 [0] (IM (BV (A0 1)) (BV (A0 2))) (Bb 2 (AU (AC 0) (AU (AC 1) Bg))) BM (mOp As (A0 1) (mOp AX (A0 2) (A0 0))))))
 (A8 (AE 4 (Cp 2 [] (Bh (A1 (mCB (f1 true Ag) (A1 (A0 1) A4)) A4)) (AC 0) BM (Bh (A1 (A0 0) A4)) (AC 1) BM (Ae (A1 (A0 1) (A1 (A0 0) A4)))))
 (AM (mOp AX (A0 3) (BL FO (Ai 2 [1,2] (BV (A0 4)) (Bb 2 (AU (AC 0) (AU (AC 1) Bg))) BM (mCB HQ (A1 (mOp As (mOp gIx (A0 2) (A0 0)) (mOp gIx (A0 3) (A0 1))) (A1 (mOp As (mOp gIx (A0 2) (A0 1)) (mOp gIx (A0 3) (A0 0))) A4)))))))))
def D8:FD:=mkF 3 5 Kt
abbrev D5:Df:=⟨"pair_sum_of",GJ,["coming","lengths","weights"],1,D8⟩
abbrev KF:Stmt:=top 25
def Om:FnScope ["pairs","a","found","fresh","at","one","other"] ["pairs","a"] (AB KF):=Av (by kernel_rfl)
@[reducible] def HR:MS:=(A8 (AE 2 (Ao (BA A4)))
 (A8 (AE 3 (Ao (BA (A1 (A0 1) A4))))
 (A8 (CQ (B9 (A0 3))
  (A8 (AE 4 (mMt Ex (A0 3) A4))
 (Ax (Es (A0 0)) (Bb 2 (AU (AC 5) (AU (AC 6) Bg)))
  (Aj (CI (AH (mOp gEq (A0 5) (A0 4))) (AH (mOp (gIn true) (A0 6) (A0 2))))
  (A8 (Aw (mMt Ab (A0 2) (A1 (A0 6) A4)))
 (Aw (mMt Ab (A0 3) (A1 (A0 6) A4))))
  Aa))))
 (AM (BL BR (CW (BV (A0 2))))))))
def F_reached:FD:=mkF 2 7 HR
abbrev Gn:Df:=⟨"reached",KF,["pairs","a"],1,F_reached⟩
abbrev Lx:Stmt:=top 26
def QV:FnScope ["many","wishes","a"] ["many","wishes","a"] (AB Lx):=Av (by kernel_rfl)
@[reducible] def c6:MS:=(AM (A6 0 F_reached (A1 (A0 1) (A1 (A0 2) A4))))
def F_behind:FD:=mkF 3 3 c6
abbrev IW:Df:=⟨"behind",Lx,["many","wishes","a"],2,F_behind⟩
abbrev Qa:Stmt:=top 28
def WG:FnScope ["works","some","lengths"] ["works","some"] (AB Qa):=Av (by kernel_rfl)
@[reducible] def bH:MS:=(A8 (AE 2 (Ao (Ai 1 [0] (BF (A0 1)) (AC 0) BM (mOp gIx (mOp gIx (A0 1) (A0 0)) (mC (.int 0))))))
 (AM (mCB (f1 true FO) (A1 (Cp 2 [2] (Bh (A1 (mCB (f1 true Ag) (A1 (A0 2) A4)) A4)) (AC 0) BM (Bh (A1 (mOp AX (A0 0) (mC (.int 1))) A4)) (AC 1) BM (mOp As (mOp gIx (A0 2) (A0 1)) (mOp gIx (A0 2) (A0 0)))) A4))))
def JO:FD:=mkF 2 3 bH
abbrev JH:Df:=⟨"gain",Qa,["works","some"],1,JO⟩
abbrev Iq:Stmt:=top 29
def NB:FnScope ["works","wishes","entry","a","some","price","later"] ["works","wishes","entry"] (AB Iq):=Av (by kernel_rfl)
@[reducible] def P9:MS:=(A8 (GA (A0 2) (Bb 3 (AU (AC 3) (AU (AC 4) (AU (AC 5) Bg)))))
 (A8 (Aj (CH (B9 (A6 0 BS (A1 (mCB (f1 true Ag) (A1 (A0 0) A4)) (A1 (A0 3) A4)))))
  (AM (mC (.str "work")))
  Aa)
 (A8 (Aj (CH (B9 (A6 0 C7 (A1 (mCB (f1 true Ag) (A1 (A0 0) A4)) (A1 (A0 4) A4)))))
  (AM (mC (.str "set")))
  Aa)
 (A8 (AE 6 (A6 0 F_behind (A1 (mCB (f1 true Ag) (A1 (A0 0) A4)) (A1 (A0 1) (A1 (A0 3) A4)))))
 (A8 (Aj (CH (B9 (BL DE (Ai 1 [6] (BF (A0 4)) (AC 0) BM (mOp (gIn false) (A0 0) (A0 1))))))
  (AM (mC (.str "behind")))
  Aa)
 (A8 (Aj (mOr (CH (B9 (A6 0 D9 (A1 (A0 5) A4)))) (AH (mOp gLt (mOp gIx (A0 5) (mC (.int 0))) (mC (.int 0)))))
  (AM (mC (.str "price")))
  Aa)
 (AM (mC .non))))))))
def Db:FD:=mkF 3 7 P9
abbrev ET:Df:=⟨"fault_of",Iq,["works","wishes","entry"],5,Db⟩
abbrev DC:Stmt:=top 30
def EE:FnScope ["works","wishes","thing","k","entry","word"] ["works","wishes","thing"] (AB DC):=Av (by kernel_rfl)
@[reducible] def IJ:MS:=(A8 (Aj (mOr (CH (B9 (Cc .tuple (A0 2)))) (CH (B9 (BL DE (Ai 1 [] (BF (A0 2)) (AC 0) BM (A6 0 Bj (A1 (mC (.int 3)) (A1 (A0 0) A4))))))))
 CS
 Aa)
 (Ax (G8 (BF (A0 2))) (Bb 2 (AU (AC 3) (AU (AC 4) Bg)))
  (A8 (AE 5 (A6 0 Db (A1 (A0 0) (A1 (A0 1) (A1 (A0 4) A4)))))
 (Aj (AH (Dk true (A0 5)))
  CS
  Aa))))
def BX:FD:=mkF 3 6 IJ
abbrev CL:Df:=⟨"look_at_prices",DC,["works","wishes","thing"],6,BX⟩
@[reducible] def Hi:MS:=(A8 (Aj (mOr (CH (B9 (Cc .tuple (A0 2)))) (CH (B9 (BL DE (Ai 1 [] (BF (A0 2)) (AC 0) BM (A6 0 Bj (A1 (mC (.int 3)) (A1 (A0 0) A4))))))))
 (Co "NoPaper" ["path","word"] (A1 (Ae A4) (A1 (mC (.str "shape")) A4)))
 (DR Aa))
 (Ax (G8 (BF (A0 2))) (Bb 2 (AU (AC 3) (AU (AC 4) Bg)))
  (A8 (DR (AE 5 (A6 0 Db (A1 (A0 0) (A1 (A0 1) (A1 (A0 4) A4))))))
 (Aj (AH (Dk true (A0 5)))
  (Co "NoPaper" ["path","word"] (A1 (Ae (A1 (A0 3) A4)) (A1 (A0 5) A4)))
  (DR Aa)))))
def Bu:FD:=mkX 3 6 Hi
abbrev DB:Df:=⟨"look_at_prices",DC,["works","wishes","thing"],6,Bu⟩
def EH:DjF Bu BX:=SD (JI (Vc Ka c5) (cD (JI c5 (Vc Ka c5))))
abbrev FC:Stmt:=top 31
def I0:FnScope ["prices","bottom","a","some","price"] ["prices"] (AB FC):=Av (by kernel_rfl)
@[reducible] def J7:MS:=(A8 (AE 1 (mC (.int 1)))
 (A8 (Ax (BF (A0 0)) (Bb 3 (AU (AC 2) (AU (AC 3) (AU (AC 4) Bg))))
  (G9 1 (mOp gIx (A0 4) (mC (.int 1)))))
 (AM (A0 1))))
def Ck:FD:=mkF 1 5 J7
abbrev Cj:Df:=⟨"common_bottom",FC,["prices"],1,Ck⟩
abbrev IA:Stmt:=top 32
def KD:FnScope ["works","wishes","thing","coming","bottom","weights","gains","a","some","price","top","b"] ["works","wishes","thing"] (AB IA):=Av (by kernel_rfl)
@[reducible] def UK:MS:=(A8 (AE 3 (A6 0 Bk (A1 (A0 0) A4)))
 (A8 (Aw (A6 0 BX (A1 (A0 0) (A1 (A0 1) (A1 (A0 2) A4)))))
 (A8 (AE 4 (A6 0 Ck (A1 (A0 2) A4)))
 (A8 (AE 5 (Ao (Ai 1 [4] (BF (A0 0)) (AC 0) BM (mOp As (A6 0 E1 (A1 (A0 0) A4)) (A0 1)))))
 (A8 (AE 6 (mC (.int 0)))
 (A8 (Ax (BF (A0 2)) (Bb 3 (AU (AC 7) (AU (AC 8) (AU (AC 9) Bg))))
  (A8 (AE 10 (mOp As (mOp gIx (A0 9) (mC (.int 0))) (mOp EQ (A0 4) (mOp gIx (A0 9) (mC (.int 1))))))
 (A8 (Gf 6 (λi j=>i+j) (mOp As (A0 10) (A6 0 JO (A1 (A0 0) (A1 (A0 8) A4)))))
 (A8 (G7 (A0 5) (A0 7) (mOp As (A0 10) (A6 0 E2 (A1 (A0 0) (A1 (A0 8) A4)))) (λi j=>i+j))
 (Ax (BF (A0 8)) (AC 11)
  (G7 (A0 5) (A0 11) (mOp As (A0 10) (mOp gIx (mOp gIx (A0 0) (A0 11)) (mC (.int 0)))) (λi j=>i-j)))))))
 (AM (A6 0 EX (A1 (mOp AX (A0 6) (DT D8 (A1 (A0 3) (A1 (Ao (Ai 1 [] (BF (A0 0)) (AC 0) BM (mOp gIx (A0 0) (mC (.int 0))))) (A1 (A0 5) A4))))) (A1 (A0 4) A4))))))))))
def Dr:FD:=mkF 3 12 UK
abbrev IU:Df:=⟨"priced",IA,["works","wishes","thing"],7,Dr⟩
@[reducible] def Rm:MS:=(A8 (DR (AE 3 (A6 0 Bk (A1 (A0 0) A4))))
 (A8 (FM (Aw (A6 0 BX (A1 (A0 0) (A1 (A0 1) (A1 (A0 2) A4))))) (AM (A6 0 Bu (A1 (A0 0) (A1 (A0 1) (A1 (A0 2) A4)))))) CS))
def F1:FD:=mkX 3 12 Rm
abbrev Hu:Df:=⟨"priced",IA,["works","wishes","thing"],7,F1⟩
def Kb:DjF F1 Dr:=SD (JI c5 (JI (SG (OD (GD EH))) Ul))
abbrev QY:Stmt:=top 34
def WC:FnScope ["_law_script"] ["_law_script"] (AB QY):=Av (by kernel_rfl)
@[reducible] def bF:MS:=(AM (Ao (BA (A1 (Ao (Ge (MU (A0 0) Ap (BN (mC (.int 63)))))) (A1 (mC (.int 0)) (A1 (mC (.int 0)) (A1 (mC (.int 0)) A4)))))))
def JN:FD:=mkF 1 1 bF
abbrev Mo:Df:=⟨"_law_tape",QY,["_law_script"],1,JN⟩
abbrev QZ:Stmt:=top 35
def WD:FnScope ["_law_tape_here","_law_many","_law_found","_law_at","_law_cell","_law_mixed"] ["_law_tape_here","_law_many"] (AB QZ):=Av (by kernel_rfl)
@[reducible] def bG:MS:=(A8 (EO (A0 0) (mC (.int 3)) (mOp AX (mOp gIx (A0 0) (mC (.int 3))) (mC (.int 1))))
 (A8 (Aj (AH (mOp gGt (mOp gIx (A0 0) (mC (.int 2))) (mC (.int 0))))
  (A8 (AE 2 (mOp DF (mOp gIx (A0 0) (mC (.int 2))) (A0 1)))
 (A8 (EO (A0 0) (mC (.int 2)) (mOp EQ (mOp gIx (A0 0) (mC (.int 2))) (A0 1)))
 (AM (A0 2))))
  Aa)
 (A8 (AE 3 (mOp gIx (A0 0) (mC (.int 1))))
 (A8 (EO (A0 0) (mC (.int 1)) (mOp AX (A0 3) (mC (.int 1))))
 (A8 (AE 4 (mIf (AH (DS true (mOp gIx (A0 0) (mC (.int 0))) (BA A4))) (mOp gIx (mOp gIx (A0 0) (mC (.int 0))) (mOp DF (A0 3) (mCB (f1 true Ag) (A1 (mOp gIx (A0 0) (mC (.int 0))) A4)))) (mC (.int 6))))
 (A8 (Aj (CI (AH (mOp gGe (A0 4) (mOp Uc (mC (.int 10)) (mC (.int 18))))) (AH (mOp gLt (A0 3) (mCB (f1 true Ag) (A1 (mOp gIx (A0 0) (mC (.int 0))) A4)))))
  (A8 (EO (A0 0) (mC (.int 2)) (mOp EQ (A0 4) (A0 1)))
 (AM (mOp DF (A0 4) (A0 1))))
  Aa)
 (A8 (AE 5 (mOp DF (mOp AX (mOp AX (mOp DF (A0 4) (mC (.int 2147483647))) (mOp As (mC (.int 40503)) (mOp gIx (A0 0) (mC (.int 3))))) (mC (.int 11))) (mC (.int 2147483629))))
 (A8 (AE 5 (mOp DF (mOp AX (mOp AX (mOp As (A0 5) (A0 5)) (mOp As (mC (.int 25717)) (mOp gIx (A0 0) (mC (.int 3))))) (mC (.int 3))) (mC (.int 2147483587))))
 (A8 (AE 5 (mOp DF (mOp AX (mOp AX (mOp As (A0 5) (A0 5)) (mOp As (mC (.int 16807)) (A0 5))) (mC (.int 1))) (mC (.int 2147483579))))
 (AM (mOp DF (mOp EQ (A0 5) (mC (.int 256))) (A0 1))))))))))))
def AN:FD:=mkF 2 6 bG
abbrev E6:Df:=⟨"_law_pick",QZ,["_law_tape_here","_law_many"],1,AN⟩
abbrev NU:Stmt:=top 36
def TB:FnScope ["_law_tape_here","_law_many","_law_long","_law_heavy","_law_low_here","_law_coming","_law_found","_law_j","_law_length","_law_weight","_law_one","_law_small","_law_by"] ["_law_tape_here","_law_many"] (AB NU):=Av (by kernel_rfl)
@[reducible] def Xz:MS:=(A8 (GA (EB (BA (A1 (Ae (A1 (mC (.int 20)) (A1 (mC (.int 10)) (A1 (mC (.int 0)) A4)))) (A1 (Ae (A1 (mC (.int 3)) (A1 (mC (.int 3)) (A1 (mC (.int 0)) A4)))) (A1 (Ae (A1 (mC (.int 20)) (A1 (mC (.int 2)) (A1 (mC (.int 0)) A4)))) (A1 (Ae (A1 (mC (.int 1000000)) (A1 (mC (.int 1000001)) (A1 (mC (.int 0)) A4)))) A4))))) (A6 2 AN (A1 (A0 0) (A1 (mC (.int 4)) A4)))) (Bb 3 (AU (AC 2) (AU (AC 3) (AU (AC 4) Bg)))))
 (A8 (Aj (CI (AH (mOp gEq (A0 2) (mC (.int 1000000)))) (AH (mOp gEq (A6 2 AN (A1 (A0 0) (A1 (mC (.int 2)) A4))) (mC (.int 0)))))
  (GA (Ae (A1 (mC (.int 8)) (A1 (mC (.int 9)) (A1 (mC (.int 999992)) A4)))) (Bb 3 (AU (AC 2) (AU (AC 3) (AU (AC 4) Bg)))))
  Aa)
 (A8 (AE 5 (EB (BA (A1 (mC (.int 0)) (A1 (A6 2 AN (A1 (A0 0) (A1 (mC (.int 61)) A4))) A4))) (A6 2 AN (A1 (A0 0) (A1 (mC (.int 2)) A4)))))
 (A8 (AE 6 (Ao (BA A4)))
 (A8 (Ax (Bh (A1 (A0 1) A4)) (AC 7)
  (A8 (CG [8,9] (A1 (mOp AX (mOp AX (mC (.int 1)) (A0 4)) (A6 2 AN (A1 (A0 0) (A1 (A0 2) A4)))) (A1 (mOp AX (A0 4) (A6 2 AN (A1 (A0 0) (A1 (A0 3) A4)))) A4)))
 (A8 (Aj (CI (AH (mOp gGt (A0 7) (mC (.int 0)))) (AH (mOp gEq (A6 2 AN (A1 (A0 0) (A1 (mC (.int 3)) A4))) (mC (.int 0)))))
  (A8 (AE 10 (mOp gIx (A0 6) (A6 2 AN (A1 (A0 0) (A1 (A0 7) A4)))))
 (A8 (AE 11 (DU (mOp gLe (mOp As (mOp gIx (A0 10) (mC (.int 0))) (mC (.int 3))) (A0 2)) (mOp gLt (mOp As (mOp gIx (mOp gIx (A0 10) (mC (.int 2))) (mC (.int 1))) (mC (.int 3))) (A0 3))))
 (A8 (AE 12 (mIf (B9 (A0 11)) (mOp AX (mC (.int 1)) (A6 2 AN (A1 (A0 0) (A1 (mC (.int 3)) A4)))) (mC (.int 1))))
 (CG [8,9] (A1 (mOp As (mOp gIx (A0 10) (mC (.int 0))) (A0 12)) (A1 (mOp As (mOp gIx (mOp gIx (A0 10) (mC (.int 2))) (mC (.int 1))) (A0 12)) A4))))))
  Aa)
 (Aw (mMt Ab (A0 6) (A1 (Ae (A1 (A0 8) (A1 (A0 5) (A1 (Ae (A1 (mC (.str "ends")) (A1 (A0 9) A4))) A4)))) A4))))))
 (AM (mCB (f1 true BR) (A1 (A0 6) A4))))))))
def HY:FD:=mkF 2 13 Xz
abbrev Jw:Df:=⟨"_law_works",NU,["_law_tape_here","_law_many"],2,HY⟩
abbrev Lp:Stmt:=top 37
def QM:FnScope ["_law_tape_here","_law_many","_law_left","_law_row","_law_found","_law_turn","_law_thin","_law_i","_law_j"] ["_law_tape_here","_law_many"] (AB Lp):=Av (by kernel_rfl)
@[reducible] def UI:MS:=(A8 (HL 2 3 4 (A1 (Ao (Gc (A1 (A0 1) A4))) (A1 (Ao (BA A4)) (A1 (Ao (BA A4)) A4))))
 (A8 (Ax (Bh (A1 (A0 1) A4)) (AC 5)
  (Aw (mMt Ab (A0 3) (A1 (mMt Fh (A0 2) (A1 (A6 2 AN (A1 (A0 0) (A1 (mCB (f1 true Ag) (A1 (A0 2) A4)) A4))) A4)) A4))))
 (A8 (AE 6 (mOp AX (mC (.int 2)) (A6 2 AN (A1 (A0 0) (A1 (mC (.int 3)) A4)))))
 (A8 (Ax (Bh (A1 (A0 1) A4)) (AC 7)
  (Ax (Bh (A1 (A0 7) A4)) (AC 8)
  (Aj (CI (AH (mOp gLt (mCB (f1 true Ag) (A1 (A0 4) A4)) (mC (.int 16)))) (AH (mOp gEq (A6 2 AN (A1 (A0 0) (A1 (A0 6) A4))) (mC (.int 0)))))
  (Aw (mMt Ab (A0 4) (A1 (Ae (A1 (mOp gIx (A0 3) (A0 8)) (A1 (mOp gIx (A0 3) (A0 7)) A4))) A4)))
  Aa)))
 (AM (BL BR (Er (BV (A0 4)))))))))
def F4:FD:=mkF 2 9 UI
abbrev IS:Df:=⟨"_law_wishes",Lp,["_law_tape_here","_law_many"],2,F4⟩
abbrev KG:Stmt:=top 38
def On:FnScope ["_law_wishes_here","_law_a","_law_found","_law_more","_law_here","_law_one","_law_other"] ["_law_wishes_here","_law_a"] (AB KG):=Av (by kernel_rfl)
@[reducible] def Rl:MS:=(A8 (CG [2,3] (A1 (Ao (BA A4)) (A1 (Ao (BA (A1 (A0 1) A4))) A4)))
 (A8 (CQ (AH (DS true (A0 3) (BA A4)))
  (A8 (AE 4 (mMt Ex (A0 3) A4))
 (Ax (BF (A0 0)) (Bb 2 (AU (AC 5) (AU (AC 6) Bg)))
  (Aj (CI (AH (mOp gEq (A0 5) (A0 4))) (AH (mOp (gIn true) (A0 6) (A0 2))))
  (A8 (Aw (mMt Ab (A0 2) (A1 (A0 6) A4)))
 (Aw (mMt Ab (A0 3) (A1 (A0 6) A4))))
  Aa))))
 (AM (Ao (CW (BV (A0 2)))))))
def E7:FD:=mkF 2 7 Rl
abbrev Go:Df:=⟨"_law_behind",KG,["_law_wishes_here","_law_a"],1,E7⟩
abbrev V4:Stmt:=top 39
def Yy:FnScope ["_law_top","_law_bottom","_law_one","_law_other"] ["_law_top","_law_bottom"] (AB V4):=Av (by kernel_rfl)
@[reducible] def dQ:MS:=(A8 (CG [2,3] (A1 (mCB Gk (A1 (A0 0) A4)) (A1 (A0 1) A4)))
 (A8 (CQ (AH (mOp gGt (A0 3) (mC (.int 0))))
  (CG [2,3] (A1 (A0 3) (A1 (mOp DF (A0 2) (A0 3)) A4))))
 (AM (Ae (A1 (mOp EQ (A0 0) (A0 2)) (A1 (mOp EQ (A0 1) (A0 2)) A4))))))
def Ha:FD:=mkF 2 4 dQ
abbrev PZ:Df:=⟨"_law_low",V4,["_law_top","_law_bottom"],1,Ha⟩
abbrev NW:Stmt:=top 40
def TD:FnScope ["_law_tape_here","_law_works_here","_law_wishes_here","_law_found","_law_k","_law_firsts","_law_a","_law_some","_law_one","_law_top"] ["_law_tape_here","_law_works_here","_law_wishes_here"] (AB NW):=Av (by kernel_rfl)
@[reducible] def Y3:MS:=(A8 (AE 3 (Ao (BA A4)))
 (A8 (Ax (Bh (A1 (A6 2 AN (A1 (A0 0) (A1 (mC (.int 6)) A4))) A4)) (AC 4)
  (A8 (AE 5 (Ao (Jn (Ao (Ai 2 [] (BF (A0 2)) (Bb 2 (AU (AC 0) (AU (AC 1) Bg))) BM (A0 0))) (Ao (BA (A1 (A6 2 AN (A1 (A0 0) (A1 (mCB (f1 true Ag) (A1 (A0 1) A4)) A4))) A4))))))
 (A8 (AE 6 (mOp gIx (A0 5) (A6 2 AN (A1 (A0 0) (A1 (mCB (f1 true Ag) (A1 (A0 5) A4)) A4)))))
 (A8 (AE 7 (BL BR (Ai 1 [0] (BV (A6 0 E7 (A1 (A0 2) (A1 (A0 6) A4)))) (AC 0) (AH (mOp gGt (A6 2 AN (A1 (A0 1) (A1 (mC (.int 3)) A4))) (mC (.int 0)))) (A0 0))))
 (A8 (AE 8 (mOp gIx (A0 1) (A6 2 AN (A1 (A0 0) (A1 (mCB (f1 true Ag) (A1 (A0 1) A4)) A4)))))
 (A8 (AE 9 (mOp As (mOp gIx (mOp gIx (A0 8) (mC (.int 2))) (mC (.int 1))) (A6 2 AN (A1 (A0 0) (A1 (mC (.int 4)) A4)))))
 (Aw (mMt Ab (A0 3) (A1 (Ae (A1 (A0 6) (A1 (A0 7) (A1 (A6 0 Ha (A1 (A0 9) (A1 (mOp As (mOp gIx (A0 8) (mC (.int 0))) (mOp AX (mC (.int 1)) (A6 2 AN (A1 (A0 0) (A1 (mC (.int 3)) A4))))) A4))) A4)))) A4)))))))))
 (AM (mCB (f1 true BR) (A1 (A0 3) A4)))))
def Fp:FD:=mkF 3 10 Y3
abbrev Jy:Df:=⟨"_law_paper",NW,["_law_tape_here","_law_works_here","_law_wishes_here"],2,Fp⟩
abbrev Lu:Stmt:=top 41
def WJ:FnScope ["_law_tape_here","_law_thing","_law_way","_law_at","_law_ways"] ["_law_tape_here","_law_thing"] (AB Lu):=Av (by kernel_rfl)
@[reducible] def MR(Gv:FD):MS:=(A8 (AE 2 (A6 2 AN (A1 (A0 0) (A1 (mC (.int 8)) A4))))
 (A8 (Aj (CI (B9 (Cc .tuple (A0 1))) (CI (AH (mOp (Js true) (A0 1) (Ae A4))) (AH (mOp gLt (A0 2) (mC (.int 7))))))
  (A8 (AE 3 (A6 2 AN (A1 (A0 0) (A1 (mCB (f1 true Ag) (A1 (A0 1) A4)) A4))))
 (AM (mOp AX (mOp DW (Bm (A0 1) Ap (BN (A0 3))) (Ae (A1 (A6 2 Gv (A1 (A0 0) (A1 (mOp gIx (A0 1) (A0 3)) A4))) A4))) (Bm (A0 1) (BN (mOp AX (A0 3) (mC (.int 1)))) Ap))))
  Aa)
 (A8 (Aj (B9 (Cc .tuple (A0 1)))
  (A8 (AE 4 (Ao (BA (A1 (Bm (A0 1) (BN (mC (.int 1))) Ap) (A1 (Bm (A0 1) Ap (BN (Cw (mC (.int 1))))) (A1 (FG (A0 1) (Cw (mC (.int 1)))) (A1 (mOp DW (A0 1) (Bm (A0 1) (BN (Cw (mC (.int 1)))) Ap)) (A1 (Ae (A1 (mC (.int 0)) A4)) (A1 (Ae A4) A4)))))))))
 (AM (mOp gIx (A0 4) (A6 2 AN (A1 (A0 0) (A1 (mC (.int 6)) A4))))))
  Aa)
 (AM (EB (BA (A1 (mOp AX (A0 1) (mC (.int 1))) (A1 (mOp HP (A0 1) (mC (.int 1))) (A1 (mOp AX (A0 1) (mC (.int 2))) (A1 (mOp As (mC (.int 2)) (A0 1)) (A1 (mC (.bl true)) (A1 (mC .non) A4))))))) (A6 2 AN (A1 (A0 0) (A1 (mC (.int 6)) A4))))))))
def Fo:Nat->FD
 |0=>λ_ _=>none
 |n+1=>mkF 2 5 (MR (Fo n))
abbrev Gv:FD:=Fo 4
abbrev Mq:Df:=⟨"_law_bent",Lu,["_law_tape_here","_law_thing"],5,Gv⟩
abbrev NX:Stmt:=top 42
def TF:FnScope ["_law_tape_here","_law_many","_law_wishes_here","_law_row","_law_turn","_law_held","_law_some"] ["_law_tape_here","_law_many","_law_wishes_here"] (AB NX):=Av (by kernel_rfl)
@[reducible] def Y4:MS:=(A8 (AE 3 (Ae A4))
 (A8 (Ax (Bh (A1 (A0 1) A4)) (AC 4)
  (A8 (AE 5 (Ao (Ai 2 [3] (BF (A0 2)) (Bb 2 (AU (AC 0) (AU (AC 1) Bg))) (AH (mOp (gIn true) (A0 0) (A0 2))) (A0 1))))
 (A8 (AE 6 (Ao (Ai 1 [3,5] (Bh (A1 (A0 1) A4)) (AC 0) (CI (AH (mOp (gIn true) (A0 0) (A0 1))) (AH (mOp (gIn true) (A0 0) (A0 2)))) (A0 0))))
 (AE 3 (mOp DW (A0 3) (Ae (A1 (mOp gIx (A0 6) (A6 2 AN (A1 (A0 0) (A1 (mCB (f1 true Ag) (A1 (A0 6) A4)) A4)))) A4)))))))
 (AM (A0 3))))
def Hc:FD:=mkF 3 7 Y4
abbrev Jz:Df:=⟨"_law_drawn",NX,["_law_tape_here","_law_many","_law_wishes_here"],2,Hc⟩
abbrev Lq:Stmt:=top 43
def QP:FnScope ["_law_row","_law_wishes_here"] ["_law_row","_law_wishes_here"] (AB Lq):=Av (by kernel_rfl)
@[reducible] def UJ:MS:=(AM (Jm true (mC (.bl false)) (Ai 2 [0] (BF (A0 1)) (Bb 2 (AU (AC 0) (AU (AC 1) Bg))) BM (mOp gLt (IN Fi (A0 2) (A1 (A0 0) A4)) (IN Fi (A0 2) (A1 (A0 1) A4))))))
def GH:FD:=mkF 2 2 UJ
abbrev IT:Df:=⟨"_law_wished",Lq,["_law_row","_law_wishes_here"],1,GH⟩
abbrev Lr:Stmt:=top 44
def QU:FnScope ["_law_tape_here","_law_many","_law_wishes_here","_law_found","_law_j","_law_wider","_law_row","_law_at"] ["_law_tape_here","_law_many","_law_wishes_here"] (AB Lr):=Av (by kernel_rfl)
@[reducible] def UL:MS:=(A8 (Aj (AH (mOp gGt (A0 1) (mC (.int 5))))
 (AM (Ao (Ai 1 [0,1,2] (Bh (A1 (mC (.int 24)) A4)) (AC 0) BM (A6 2 Hc (A1 (A0 1) (A1 (A0 2) (A1 (A0 3) A4)))))))
 Aa)
 (A8 (AE 3 (Ao (BA (A1 (Ae A4) A4))))
 (A8 (Ax (Bh (A1 (A0 1) A4)) (AC 4)
  (A8 (AE 5 (Ao (BA A4)))
 (A8 (Ax (BV (A0 3)) (AC 6)
  (Ax (Bh (A1 (mOp AX (mCB (f1 true Ag) (A1 (A0 6) A4)) (mC (.int 1))) A4)) (AC 7)
  (Aw (mMt Ab (A0 5) (A1 (mOp AX (mOp DW (Bm (A0 6) Ap (BN (A0 7))) (Ae (A1 (A0 4) A4))) (Bm (A0 6) (BN (A0 7)) Ap)) A4)))))
 (AE 3 (A0 5)))))
 (AM (Ao (Ai 1 [2] (BV (A0 3)) (AC 0) (B9 (A6 0 GH (A1 (A0 0) (A1 (A0 1) A4)))) (A0 0)))))))
def F6:FD:=mkF 3 8 UL
abbrev IV:Df:=⟨"_law_orders",Lr,["_law_tape_here","_law_many","_law_wishes_here"],3,F6⟩
abbrev Qb:Stmt:=top 45
def WH:FnScope ["_law_works_here","_law_order","_law_end","_law_found","_law_j"] ["_law_works_here","_law_order"] (AB Qb):=Av (by kernel_rfl)
@[reducible] def bI:MS:=(A8 (CG [2,3] (A1 (mOp gIx (mOp gIx (A0 0) (mC (.int 0))) (mC (.int 1))) (A1 (mC (.int 0)) A4)))
 (A8 (Ax (BF (A0 1)) (AC 4)
  (A8 (AE 2 (mOp AX (A0 2) (mOp gIx (mOp gIx (A0 0) (A0 4)) (mC (.int 0)))))
 (AE 3 (mOp AX (A0 3) (mOp As (mOp gIx (mOp gIx (mOp gIx (A0 0) (A0 4)) (mC (.int 2))) (mC (.int 1))) (A0 2))))))
 (AM (A0 3))))
def Gu:FD:=mkF 2 5 bI
abbrev Mp:Df:=⟨"_law_cost",Qb,["_law_works_here","_law_order"],1,Gu⟩
abbrev QX:Stmt:=top 46
def WB:FnScope ["_law_works_here","_law_wishes_here","_law_thing","_law_found"] ["_law_works_here","_law_wishes_here","_law_thing"] (AB QX):=Av (by kernel_rfl)
@[reducible] def bD:MS:=(A8 (AE 3 (Ae (A1 (mC (.str "no")) A4)))
 (A8 (DQ ["NoPaper"] none (AE 3 (Ae (A1 (mC (.str "told")) (A1 (A6 0 Dr (A1 (A0 0) (A1 (A0 1) (A1 (A0 2) A4)))) A4))))
  (FM (AE 3 (Ae (A1 (mC (.str "told")) (A1 (A6 0 Dr (A1 (A0 0) (A1 (A0 1) (A1 (A0 2) A4)))) A4)))) (AM (HK (mC (.str "told")) (A6 0 F1 (A1 (A0 0) (A1 (A0 1) (A1 (A0 2) A4)))))))
  (AE 3 (Ae (A1 (mC (.str "no")) A4))))
 (AM (A0 3))))
def F5:FD:=mkF 3 4 bD
abbrev Mn:Df:=⟨"_law_told",QX,["_law_works_here","_law_wishes_here","_law_thing"],8,F5⟩
abbrev V5:Stmt:=top 47
def Yz:FnScope ["_law_script","_law_tape_here","_law_turn","_law_works_here","_law_wishes_here","_law_papers","_law_orders_here","_law_least","_law_paper_here","_law_k","_law_found"] ["_law_script"] (AB V5):=Av (by kernel_rfl)
@[reducible] def dR:MS:=(A8 (AE 1 (DT JN (A1 (A0 0) A4)))
 (A8 (Ax (Bh (A1 (mC (.int 2)) A4)) (AC 2)
  (Gb (A8 (AE 3 (A6 2 HY (A1 (A0 1) (A1 (EB (BA (A1 (mC (.int 1)) (A1 (mC (.int 2)) (A1 (mC (.int 3)) (A1 (mC (.int 4)) (A1 (mC (.int 5)) (A1 (mC (.int 5)) (A1 (mC (.int 7)) (A1 (mC (.int 8)) A4))))))))) (A6 2 AN (A1 (A0 1) (A1 (mC (.int 8)) A4)))) A4))))
 (A8 (AE 4 (A6 2 F4 (A1 (A0 1) (A1 (mCB (f1 true Ag) (A1 (A0 3) A4)) A4))))
 (A8 (AE 5 (Ao (Ai 1 [1,3,4] (Bh (A1 (mC (.int 5)) A4)) (AC 0) BM (A6 2 Fp (A1 (A0 1) (A1 (A0 2) (A1 (A0 3) A4)))))))
 (A8 (AE 6 (A6 2 F6 (A1 (A0 1) (A1 (mCB (f1 true Ag) (A1 (A0 3) A4)) (A1 (A0 4) A4)))))
 (A8 (AE 7 (BL IP (Ai 1 [3] (BV (A0 6)) (AC 0) BM (A6 0 Gu (A1 (A0 1) (A1 (A0 0) A4))))))
 (A8 (Ax (BV (A0 5)) (AC 8)
  (Aj (AH (mOp gNe (mOp gIx (A6 0 F5 (A1 (A0 3) (A1 (A0 4) (A1 (A0 8) A4)))) (mC (.int 0))) (mC (.str "told"))))
  (AM (mC (.bl false)))
  Aa))
 (A8 (Ax (Bh (A1 (mC (.int 6)) A4)) (AC 9)
  (Aw (mMt Ab (A0 5) (A1 (A6 2 Gv (A1 (A0 1) (A1 (mOp gIx (A0 5) (mOp DF (A0 9) (mC (.int 5)))) A4))) A4))))
 (Ax (BV (A0 5)) (AC 8)
  (A8 (AE 10 (A6 0 F5 (A1 (A0 3) (A1 (A0 4) (A1 (A0 8) A4)))))
 (Aj (CI (AH (mOp gEq (mOp gIx (A0 10) (mC (.int 0))) (mC (.str "told")))) (AH (mOp gGt (mOp gIx (mOp gIx (A0 10) (mC (.int 1))) (mC (.int 0))) (mOp As (A0 7) (mOp gIx (mOp gIx (A0 10) (mC (.int 1))) (mC (.int 1)))))))
  (AM (mC (.bl false)))
  Aa))))))))))))
 (AM (mC (.bl true)))))
def gV:FD:=mkF 1 11 dR
abbrev Pa:Df:=⟨"law",V5,["_law_script"],9,gV⟩
set_option maxHeartbeats 0 in
def oks{E:EnK}(B:BltA E.mg)(c0:Cl E "NoPaper" ["path","word"])(c1:Hx E "NoPaper" ["NoPaper"]):(Dn E Dz->Kn E Dz)/\
 (Dn E CM->Kn E Dz->Kn E CM)/\
 (Dn E Bz->Kn E CM->Kn E Bz)/\
 (Dn E CU->Kn E CU)/\
 (Dn E Jx->Kn E Jx)/\
 (Dn E Cy->Kn E Bz->Kn E Jx->Kn E Cy)/\
 (Dn E CN->Kn E CN)/\
 (Dn E ED->Kn E Dz->Kn E CM->Kn E CU->Kn E CN->Kn E ED)/\
 (Dn E ES->Kn E CN->Kn E ES)/\
 (Dn E Dy->Kn E Dy)/\
 (Dn E EC->Kn E EC)/\
 (Dn E Ey->Kn E EC->Kn E Ey)/\
 (Dn E CK->Kn E CK)/\
 (Dn E Dx->Kn E Dx)/\
 (Dn E C6->Kn E Ey->Kn E CK->Kn E C6)/\
 (Dn E D5->Kn E D5)/\
 (Dn E Gn->Kn E Gn)/\
 (Dn E IW->Kn E Gn->Kn E IW)/\
 (Dn E JH->Kn E JH)/\
 (Dn E ET->Kn E Bz->Kn E Cy->Kn E ED->Kn E IW->Kn E ET)/\
 (Dn E DB->Kn E CU->Kn E ET->KnX E DB)/\
 (Dn E CL->Kn E CU->Kn E ET->Kn E CL)/\
 (Dn E Cj->Kn E Cj)/\
 (Dn E Hu->Kn E ES->Kn E Dy->Kn E Dx->Kn E C6->Kn E D5->Kn E JH->Kn E CL->Kn E Cj->KnX E DB->KnX E Hu)/\
 (Dn E IU->Kn E ES->Kn E Dy->Kn E Dx->Kn E C6->Kn E D5->Kn E JH->Kn E CL->Kn E Cj->Kn E IU)/\
 (Dn E Mo->Kn E Mo)/\
 (Dn E E6->Kn E E6)/\
 (Dn E Jw->Kn E E6->Kn E Jw)/\
 (Dn E IS->Kn E E6->Kn E IS)/\
 (Dn E Go->Kn E Go)/\
 (Dn E PZ->Kn E PZ)/\
 (Dn E Jy->Kn E E6->Kn E Go->Kn E PZ->Kn E Jy)/\
 (Dn E Mq->Kn E E6->Kn E Mq)/\
 (Dn E Jz->Kn E E6->Kn E Jz)/\
 (Dn E IT->Kn E IT)/\
 (Dn E IV->Kn E Jz->Kn E IT->Kn E IV)/\
 (Dn E Mp->Kn E Mp)/\
 (Dn E Mn->Kn E IU->KnX E Hu->Kn E Mn)/\
 (Dn E Pa->Kn E Mo->Kn E E6->Kn E Jw->Kn E IS->Kn E Jy->Kn E Mq->Kn E IV->Kn E Mp->Kn E Mn->Kn E Pa):=by
 refine⟨λD=>okK D Lo rfl rfl λ_ _ _ _ _ _ _ hr=>?_,
  λD _=>okK D He rfl rfl λ_ _ _ _ _ _ _ hr=>?_,
  λD _=>okK D Fw rfl rfl λ_ _ _ _ _ _ _ hr=>?_,
  λD=>okK D JW rfl rfl λ_ _ _ _ _ _ _ hr=>?_,
  λD=>okK D TC rfl rfl λ_ _ _ _ _ _ _ hr=>?_,
  λD _ _=>okK D GT rfl rfl λ_ _ _ _ _ _ _ hr=>?_,
  λD=>okK D Hf rfl rfl λ_ _ _ _ _ _ _ hr=>?_,
  λD _ _ _ _=>okK D JX rfl rfl λ_ _ _ _ _ _ _ hr=>?_,
  λD _=>okK D NA rfl rfl λ_ _ _ _ _ _ _ hr=>?_,
  λD=>okK D Ln rfl rfl λ_ _ _ _ _ _ _ hr=>?_,
  λD=>okK D JU rfl rfl λ_ _ _ _ _ _ _ hr=>?_,
  λD _=>okK D Kr rfl rfl λ_ _ _ _ _ _ _ hr=>?_,
  λD=>okK D FW rfl rfl λ_ _ _ _ _ _ _ hr=>?_,
  λD=>okK D Lm rfl rfl λ_ _ _ _ _ _ _ hr=>?_,
  λD _ _=>okK D GS rfl rfl λ_ _ _ _ _ _ _ hr=>?_,
  λD=>okK D JV rfl rfl λ_ _ _ _ _ _ _ hr=>?_,
  λD=>okK D Om rfl rfl λ_ _ _ _ _ _ _ hr=>?_,
  λD _=>okK D QV rfl rfl λ_ _ _ _ _ _ _ hr=>?_,
  λD=>okK D WG rfl rfl λ_ _ _ _ _ _ _ hr=>?_,
  λD _ _ _ _=>okK D NB rfl rfl λ_ _ _ _ _ _ _ hr=>?_,
  λD _ _=>b7 D EE rfl rfl λ_ _ _ _ _ _ _ hr=>?_,
  λD _ _=>okK D EE rfl rfl λ_ _ _ _ _ _ _ hr=>?_,
  λD=>okK D I0 rfl rfl λ_ _ _ _ _ _ _ hr=>?_,
  λD _ _ _ _ _ _ _ _ _=>b7 D KD rfl rfl λ_ _ _ _ _ _ _ hr=>?_,
  λD _ _ _ _ _ _ _ _=>okK D KD rfl rfl λ_ _ _ _ _ _ _ hr=>?_,
  λD=>okK D WC rfl rfl λ_ _ _ _ _ _ _ hr=>?_,
  λD=>okK D WD rfl rfl λ_ _ _ _ _ _ _ hr=>?_,
  λD _=>okK D TB rfl rfl λ_ _ _ _ _ _ _ hr=>?_,
  λD _=>okK D QM rfl rfl λ_ _ _ _ _ _ _ hr=>?_,
  λD=>okK D On rfl rfl λ_ _ _ _ _ _ _ hr=>?_,
  λD=>okK D Yy rfl rfl λ_ _ _ _ _ _ _ hr=>?_,
  λD _ _ _=>okK D TD rfl rfl λ_ _ _ _ _ _ _ hr=>?_,
  λD _=>Nat.rec (motive:=λn=>Kn E ⟨"_law_bent",Lu,["_law_tape_here","_law_thing"],n+1,Fo n⟩) (ok0 D) (λn ih=>okK (j:=n+1) D WJ rfl (by omega) λ_ _ _ _ _ _ _ hr=>?_) 4,
  λD _=>okK D TF rfl rfl λ_ _ _ _ _ _ _ hr=>?_,
  λD=>okK D QP rfl rfl λ_ _ _ _ _ _ _ hr=>?_,
  λD _ _=>okK D QU rfl rfl λ_ _ _ _ _ _ _ hr=>?_,
  λD=>okK D WH rfl rfl λ_ _ _ _ _ _ _ hr=>?_,
  λD _ _=>okK D WB rfl rfl λ_ _ _ _ _ _ _ hr=>?_,
  λD _ _ _ _ _ _ _ _ _=>okK D Yz rfl rfl λ_ _ _ _ _ _ _ hr=>?_⟩
 all_goals (refine' ⟨_,_⟩;rotate_left;repeat' (first
  |((with_reducible show QE _ _ _ _ _);first|exact qv _ _|(first|exact aG _|exact a0 _|exact dF _|exact aA _)|((with_reducible show QE _ _ _ _ (mOp _ _ _));first|((with_reducible show QE _ _ _ _ (mOp gIx _ _));refine' dC _ _ _)|((with_reducible show QE _ _ _ _ (mOp AX _ _));refine' FE _ ((Re).or (ML _)) (De Qv Nd) _ _)|((with_reducible show QE _ _ _ _ (mOp HP _ _));refine' FE _ am ZU _ _)|((with_reducible show QE _ _ _ _ (mOp As _ _));refine' FE _ ar ZX _ _)|((with_reducible show QE _ _ _ _ (mOp DF _ _));refine' FE _ au ZY _ _)|((with_reducible show QE _ _ _ _ (mOp EQ _ _));refine' FE _ Xk Wm _ _)|((with_reducible show QE _ _ _ _ (mOp Ew _ _));refine' FE _ UB TY _ _)|((with_reducible show QE _ _ _ _ (mOp Uc _ _));refine' FE _ ao ZV _ _)|((with_reducible show QE _ _ _ _ (mOp DW _ _));refine' FE _ (((Re).or (ML _)).or (Xm _)) (De (De Qv Nd) Wn) _ _)|((with_reducible show QE _ _ _ _ (mOp gLt _ _));refine' FZ _ VQ VC _ _)|((with_reducible show QE _ _ _ _ (mOp gLe _ _));refine' FZ _ dO cx _ _)|((with_reducible show QE _ _ _ _ (mOp gGe _ _));refine' FZ _ VR VE _ _)|((with_reducible show QE _ _ _ _ (mOp gEq _ _));refine' FZ _ ((VS).or (Nv _ hr.units)) (De Qt Qu) _ _)|((with_reducible show QE _ _ _ _ (mOp gNe _ _));refine' FZ _ ((VP).or (HJ _ hr.units)) (De Qr Qs) _ _)|((with_reducible show QE _ _ _ _ (mOp (gIn false) _ _));refine' FZ _ (av _) VD _ _))|refine' Zz _ _|((with_reducible show QE _ _ _ _ (Ao _));refine' aB _ _)|refine' aC _ _|((with_reducible show QE _ _ _ _ (A6 _ _ _));first|refine' qcW _ (by assumption) hr _|refine' qcW _ (by assumption) (hr.in1.deeper _) _)|((with_reducible show QE _ _ _ _ (DT _ _));refine' qcG (by assumption) hr _)|((with_reducible show QE _ _ _ _ (BL _ _));first|((with_reducible show QE _ _ _ _ (BL DE _));refine' LD _ (Kg _ rfl) Qn B.all L2.bt_all _)|((with_reducible show QE _ _ _ _ (BL MX _));refine' LD _ (Kf _ rfl) Qm B.any L2.bt_any _)|((with_reducible show QE _ _ _ _ (BL FO _));refine' LD _ ((Kd _ rfl).or (JK _ rfl)) Qk B.sum L2.bt_sum _)|((with_reducible show QE _ _ _ _ (BL IP _));refine' LD _ (Ke _ rfl) Ql B.min L2.bt_min _)|((with_reducible show QE _ _ _ _ (BL BR _));refine' dD _ (Ht _) M2 B.tuple L2.bt_tuple _))|((with_reducible show QE _ _ _ _ (mCB _ _));first|((with_reducible show QE _ _ _ _ (mCB (f1 _ DE) _));refine' Fy _ (Kg _ rfl) (JZ Qn) B.all L2.bt_all _)|((with_reducible show QE _ _ _ _ (mCB (f1 _ MX) _));refine' Fy _ (Kf _ rfl) (JZ Qm) B.any L2.bt_any _)|((with_reducible show QE _ _ _ _ (mCB (f1 _ FO) _));refine' Fy _ ((Kd _ rfl).or (JK _ rfl)) (JZ Qk) B.sum L2.bt_sum _)|((with_reducible show QE _ _ _ _ (mCB (f1 _ Ag) _));refine' Fy _ (SS _) (JZ ZH) B.len L2.bt_len _)|((with_reducible show QE _ _ _ _ (mCB (f1 _ IP) _));refine' Fy _ (Ke _ rfl) (JZ Ql) B.min L2.bt_min _)|((with_reducible show QE _ _ _ _ (mCB HQ _));refine' Fy _ (SR rfl) Wc B.min L2.bt_min _)|((with_reducible show QE _ _ _ _ (mCB Gk _));refine' Fy _ Uv ZI B.abs L2.bt_abs _)|((with_reducible show QE _ _ _ _ (mCB (f1 _ BR) _));refine' dE _ (Ht _) (JZ M2) B.tuple L2.bt_tuple _))|((with_reducible show QE _ _ _ _ (EB _ _));refine' aF _ _ _)|((with_reducible show QE _ _ _ _ (Bm _ _ _));refine' a7 _ _ _ _)|((with_reducible show QE _ _ _ _ (FG _ _));refine' XF _ _)|refine' To _ _ _ _|((with_reducible show QE _ _ _ _ (mMt _ _ _));first|((with_reducible show QE _ _ _ _ (mMt Ab _ _));refine' VJ _ PySem.F.slot_list_append PySem.F.type_list_append KN Qi _ _)|((with_reducible show QE _ _ _ _ (mMt Ex _ _));refine' aE _ PySem.F.slot_list_pop PySem.F.type_list_pop bA ZD _)|((with_reducible show QE _ _ _ _ (mMt Fh _ _));refine' VJ _ PySem.F.slot_list_pop PySem.F.type_list_pop UG TR _ _))|((with_reducible show QE _ _ _ _ (IN Fi _ _));refine' aD _ PySem.F.slot_tuple_index PySem.F.type_tuple_index Ri Qh _ _)|((with_reducible show QE _ _ _ _ (Cp _ _ _ _ _ _ _ _ _));refine' eO _ (λ_ _ _=>_) (λ_ _ _=>_) (λ_ _ _=>_) (λ_ _ _=>_) (λ_ _ _=>_) (λ_ _ _=>_))|((with_reducible show QE _ _ _ _ (Cc _ _));first|((with_reducible show QE _ _ _ _ (Cc .int _));refine' MC _ .int B.isinstance B.int _)|((with_reducible show QE _ _ _ _ (Cc .bool _));refine' MC _ .bool B.isinstance B.bool _)|((with_reducible show QE _ _ _ _ (Cc .tuple _));refine' MC _ .tuple B.isinstance B.tuple _))|((with_reducible show QE _ _ _ _ (Jm _ _ _));refine' XG _ (KK _) _ _)|((with_reducible show QE _ _ _ _ (DU _ _));refine' aH _ _ _)|((with_reducible show QE _ _ _ _ (HM _));refine' a9 _ _)|refine' a8 _ _)
  |refine' XH _ _ _|exact aI _
  |((with_reducible show QT _ _ _ _ _);first|((with_reducible show QT _ _ _ _ (AH (mOp _ _ _)));first|((with_reducible show QT _ _ _ _ (AH (mOp gLt _ _)));refine' En _ VQ VC _ _)|((with_reducible show QT _ _ _ _ (AH (mOp gGt _ _)));refine' En _ dP cz _ _)|((with_reducible show QT _ _ _ _ (AH (mOp gGe _ _)));refine' En _ VR VE _ _)|((with_reducible show QT _ _ _ _ (AH (mOp gEq _ _)));refine' En _ ((VS).or (Nv _ hr.units)) (De Qt Qu) _ _)|((with_reducible show QT _ _ _ _ (AH (mOp gNe _ _)));refine' En _ ((VP).or (HJ _ hr.units)) (De Qr Qs) _ _)|((with_reducible show QT _ _ _ _ (AH (mOp (gIn true) _ _)));refine' En _ (KK _) VD _ _)|((with_reducible show QT _ _ _ _ (AH (mOp (Js true) _ _)));refine' En _ (HJ _ hr.units) ZW _ _))|refine' Zh _ _|((with_reducible show QT _ _ _ _ (B9 _));refine' Tf _ _)|((with_reducible show QT _ _ _ _ (CI _ _));refine' QW.toT _)|((with_reducible show QT _ _ _ _ (mOr _ _));refine' QW.toT _)|((with_reducible show QT _ _ _ _ (AH (Dk _ _)));first|refine' Zi _ _|refine' Wr _ _)|((with_reducible show QT _ _ _ _ (AH (DS _ _ _)));refine' Ws _ (ap _ hr.units) _ _))
  |refine' Wq _ _|refine' Ze _ _|refine' Zf _ _ _|refine' d7 _ _ _
  |((with_reducible show QN _ _ _ _ _);first|refine' Zq _ _|((with_reducible show QN _ _ _ _ (Ai _ _ _ _ _ _));refine' qnA _ (λ_ _ _=>_) (λ_ _ _=>_) (λ_ _ _=>_))|((with_reducible show QN _ _ _ _ (Jn _ _));refine' Zr _ _ _)|((with_reducible show QN _ _ _ _ (MU _ _ _));refine' Zp _ _ _ _)|((with_reducible show QN _ _ _ _ (Er _));refine' Oy _ B.sorted _)|((with_reducible show QN _ _ _ _ (CW _));refine' Oz _ B.sorted _)|((with_reducible show QN _ _ _ _ (Gc _));refine' Tk _ B.list B.range _)|((with_reducible show QN _ _ _ _ (Ge _));refine' Tl _ B.list _))
  |((with_reducible show QI _ _ _ _ _ _);first|((with_reducible show QI _ _ _ _ _ (Bh _));refine' X9 _ B.range _)|((with_reducible show QI _ _ _ _ _ (BF _));refine' Zu _ _)|((with_reducible show QI _ _ _ _ _ (BV _));refine' XA _ _)|((with_reducible show QI _ _ _ _ _ (Es _));refine' Zv _ _)|((with_reducible show QI _ _ _ _ _ (G8 _));refine' Tm _ B.enumerate (R0 _ _))|((with_reducible show QI _ _ _ _ _ (IM _ _));refine' Zt _ B.zip _ _))
  |((with_reducible show QR _ _ _ _ _ _);first|((with_reducible show QR _ _ _ _ _ (BV _));refine' X5 _ _)|((with_reducible show QR _ _ _ _ _ (BF _));refine' R0 _ _))
  |exact qgA
  |refine' Zw _ rfl _
  |exact XB _|refine' Tn _ _ _
  |exact Zy _|refine' Zx _ _
  |exact X7 _|refine' X6 _ _
  |((with_reducible show QSs _ _ _ _ _);first|((with_reducible show QSs _ _ _ _ (A8 _ _));refine' Tg _ _ _)|((with_reducible show QSs _ _ _ _ (Gb _));refine' Qz _ _)|(first|exact Wu _|refine' Wt _ _))
  |((with_reducible show QS _ _ _ _ _);first|((with_reducible show QS _ _ _ _ (AE _ (Ao (Ai _ _ _ _ _ _))));first|refine' eN _ (λ_ _ _=>_) (λ_ _ _=>_) (λ_ _ _=>_)|refine' qsA _)|((with_reducible show QS _ _ _ _ (AE _ (Cp _ _ _ _ _ _ _ _ _)));first|refine' d9 _ (λ_ _ _=>_) (λ_ _ _=>_) (λ_ _ _=>_) (λ_ _ _=>_) (λ_ _ _=>_) (λ_ _ _=>_)|refine' qsA _)|((with_reducible show QS _ _ _ _ (AE _ _));refine' qsA _)|refine' d8 _ _ _ _|refine' Zk _ _|refine' Zm _ rfl _ _ _|refine' X3 _ _|((with_reducible show QS _ _ _ _ (EO _ _ _));refine' X2 _ _ _ _)|((with_reducible show QS _ _ _ _ (G9 _ _));refine' X4 _)|((with_reducible show QS _ _ _ _ (Gf _ _ _));refine' dG Rr _)|refine' Zl _ rfl (Cn (by kernel_rfl)) rfl rfl (by decide) rfl rfl _|refine' Wz _ rfl (Cn (by kernel_rfl)) rfl rfl rfl rfl rfl rfl _|refine' Zo _ _ _|refine' Th _ _ _|exact Wy _|((with_reducible show QS _ _ _ _ CS);exact Tj _)|((with_reducible show QS _ _ _ _ (G7 _ _ _ _));first|refine' Nj _ _ _ _ Rr|refine' Nj _ _ _ _ bY)|((with_reducible show QS _ _ _ _ (DQ _ (some _) _ _ _));refine' Ww (by assumption) _ _ (λ_=>_) (Cn (by kernel_rfl)) rfl)|((with_reducible show QS _ _ _ _ (DQ _ none _ _ _));refine' Wv (by assumption) _ _ (λ_=>_)))
  |((with_reducible show YXs _ _ _ _ _);first|((with_reducible show YXs _ _ _ _ (A8 _ CS));refine' LH _ K7)|((with_reducible show YXs _ _ _ _ (A8 _ _));refine' LH _ _)|(first|exact Vi|refine' Vh _|exact K7))
  |((with_reducible show YX _ _ _ _ _);first|((with_reducible show YX _ _ _ _ (DR _));refine' Vl _)|refine' cU _ _ _|((with_reducible show YX _ _ _ _ (Co _ _ _));first|exact Ps (by assumption) hr|refine' Sf (by assumption) hr _)|((with_reducible show YX _ _ _ _ (FM _ _));first|refine' Pt _ (Vm _)|refine' Pt _ (YZ _))|refine' Yb _|refine' Yc _ _ _)
  |((with_reducible show YXE _ _ _ _ _);first|refine' Vj _|refine' Sd _ (by assumption) hr _|refine' Pp (by assumption) hr _|refine' Vk _ _ _)
  | ((with_reducible show YXA _ _ _ _ _);first|((with_reducible show YXA _ _ _ _ (HK _ _));refine' Pq _ _)|refine' Se _)))
open Bd Bt
local macro_rules | `(tactic| sizeOf_list_dec) => `(tactic| first | (with_reducible refine A5 ?_; try dsimp only [set_cons_zero, set_cons_succ, iD, iU, iY, nil_append, List.replicate, Nat.reduceSub, Int.reduceToNat]) | with_reducible refine Ft ?_ | with_reducible refine AA ?_ | with_reducible refine AO ?_ | with_reducible refine AI ?_ | with_reducible refine Cs ?_ | with_reducible refine AW ?_ | with_reducible refine Af ?_ | with_reducible refine Ee ?_ | with_reducible refine Vp ?_ | with_reducible refine BI ?_ | with_reducible refine A2 (d := _) rfl ?_ | with_reducible refine AD ?_ | with_reducible refine A9 ?_ | with_reducible refine BJ ?_ | with_reducible refine B7 ?_ | with_reducible refine C8 ?_ | with_reducible refine LO ?_ | with_reducible refine Ce ?_ | with_reducible refine F9 ?_ | with_reducible refine Hy ?_ | with_reducible refine Vx ?_ | with_reducible refine AQ ?_ | with_reducible refine C3 ?_ | with_reducible refine D0 ?_ | with_reducible refine Fq ?_ | with_reducible refine B4 ?_ | with_reducible refine A7 ?_ | with_reducible refine A3 ?_ | with_reducible refine C9 ?_ | with_reducible refine Aq ?_ | with_reducible refine Cm ?_ | with_reducible refine cX ?_ | with_reducible refine C0 ?_ | with_reducible refine eD ?_ | with_reducible refine Ef ?_ | with_reducible refine C4 ?_ | with_reducible refine Pw ?_ | with_reducible refine EI ?_ | with_reducible refine cW ?_ | with_reducible refine Ic ?_ | with_reducible refine V1 ?_ | with_reducible refine FT ?_ | with_reducible refine Px ?_ | with_reducible refine LN ?_ | with_reducible refine LK ?_ | with_reducible refine Vr ?_ | with_reducible refine NJ ?_ | with_reducible refine ⟨_, rfl, ?_⟩ | refine AR rfl (Cz _ _) ?_ | refine AR rfl (Dq _ _ _) ?_ | refine AR rfl (GG _ _ _ _) ?_ | refine ⟨_, _, _, _, rfl, rfl, rfl, rfl, ?_⟩ | refine ⟨⟨_, rfl⟩, ?_⟩ | refine ⟨Fg, ?_⟩ | refine ⟨Mf, ?_⟩ | refine ⟨bn, ?_⟩ | refine ⟨bh, ?_⟩ | refine ⟨CA, ?_⟩ | refine ⟨CT, ?_⟩ | with_reducible refine we_nilEN ?_)
def G0(cell turn:Int):Int:=(cell%2147483647+40503*turn+11)%2147483629
def Jk(x turn:Int):Int:=(x*x+25717*turn+3)%2147483587
def bC(x:Int):Int:=(x*x+16807*x+1)%2147483579
def mk1(j:Int):Cg 40503 j:=BO (by decide) (by decide)
def mk2(j:Int):Cg 25717 j:=BO (by decide) (by decide)
def mk3(j:Int):Cg 16807 j:=BO (by decide) (by decide)
def mo1:Bf 2147483587:=by unfold Bf;decide
def mo2:Bf 2147483629:=by unfold Bf;decide
def mo3:Bf 2147483647:=by unfold Bf;decide
def mo4:Bf 2147483579:=by unfold Bf;decide
def di1:GE 256:=by unfold GE;decide
def XZ(τ:Tp)(many:Int)(h0:0<many)(h1:many<1073741824):∃r τ',DrawL AN τ many r τ':=by
 have hm:Bf many:=h0;have hv:GE many:=⟨h0,h1⟩
 by_cases hl:τ.lf>0
 .refine⟨τ.lf%many,{ τ with tn:=τ.tn+1,lf:=τ.lf/many },(EN many h0).1,(EN many h0).2,?_⟩;simp[AN,mkF,hl,hm,hv]
 .have key:∀cell:Int,(if τ.cells=[]then cell=6 else atI (τ.cells.map λi=>D.im (.int i)) (τ.nx%(τ.cells.length:Int))=some (.im (.int cell))) ->
   ∃r τ',DrawL AN τ many r τ':=by
   intro cell hcell;have b1:=EN (x:=cell%2147483647+40503*(τ.tn+1)+11) 2147483629 (by decide);have b2:=EN (x:=G0 cell (τ.tn+1)*G0 cell (τ.tn+1)+25717*(τ.tn+1)+3) 2147483587 (by decide);have c1:∀j,Cg (G0 cell (τ.tn+1)) j:=λj=>BO (by unfold G0;omega) (by unfold G0;omega);have c2:∀j,Cg (Jk (G0 cell (τ.tn+1)) (τ.tn+1)) j:=λj=>BO (by unfold Jk;omega) (by unfold Jk;omega);by_cases hb:cell>=1000000000000000000/\τ.nx<(τ.cells.length:Int)
   .refine⟨cell%many,{ τ with tn:=τ.tn+1,nx:=τ.nx+1,lf:=cell/many },(EN many h0).1,(EN many h0).2,?_⟩;by_cases hc:τ.cells=[]
    .rw[i9 hc]at hcell;subst hcell;omega
    .rw[ic hc]at hcell;have hl0:0<τ.cells.length:=HN hc;have hl0':Bf (τ.cells.length:Int):=by unfold Bf;omega
     simp[AN,mkF,hl,hm,hv,mk1,mk2,mk3,mo1,mo2,mo3,mo4,di1,po1,DS,pyD,Cu,DD,I.pys,Fj,hc,hcell,hl0',hb.1,hb.2,Ag]
   .refine⟨bC (Jk (G0 cell (τ.tn+1)) (τ.tn+1))/256%many,{ τ with tn:=τ.tn+1,nx:=τ.nx+1 },(EN many h0).1,(EN many h0).2,?_⟩;have hb':1000000000000000000<=cell->¬ τ.nx<(τ.cells.length:Int):=λa b=>hb ⟨a,b⟩;unfold G0 at c1 c2;unfold Jk at c2;unfold bC Jk G0;by_cases hc:τ.cells=[]
    .rw[i9 hc]at hcell;subst hcell;simp only[Int.reduceMod]at c1 c2;simp[AN,mkF,hl,hm,hv,mk1,mk2,mk3,mo1,mo2,mo3,mo4,di1,po1,DS,pyD,Cu,DD,I.pys,Fj,cI,hc,Ag,c1,c2]
    .rw[ic hc]at hcell;have hl0:0<τ.cells.length:=HN hc;have hl0':Bf (τ.cells.length:Int):=by unfold Bf;omega
     by_cases hd:1000000000000000000<=cell
     .simp[AN,mkF,hl,hm,hv,mk1,mk2,mk3,mo1,mo2,mo3,mo4,di1,po1,DS,pyD,Cu,DD,I.pys,Fj,hc,hcell,hl0',Ag,c1,c2,hd,hb' hd]
     .simp[AN,mkF,hl,hm,hv,mk1,mk2,mk3,mo1,mo2,mo3,mo4,di1,po1,DS,pyD,Cu,DD,I.pys,Fj,hc,hcell,hl0',Ag,c1,c2,hd]
  by_cases hc:τ.cells=[]
  .exact key 6 (by rw[i9 hc])
  .obtain⟨c,e⟩:=du hc τ.nx;exact key c (by rw[ic hc];exact e)
def W2(ns:List Int):∃τ,JN [.ro ns] []=some (.mu 1,tl τ):=by
 obtain⟨cs,e⟩:=Up ns none (some 63);refine⟨⟨cs,0,0,0⟩,?_⟩;simp[JN,mkF,e,tl,By]
def T(_:Nat)(a b:MO):Prop:=∃τ:Tp,tl τ=[a,b]
def tap:Tap T AN where
 cl:=by
  rintro k a b ⟨τ,e⟩;have:=ck τ;rw[e]at this;simpa using this
 le:=λh _=>h
 pick:=by
  rintro k a b many ⟨τ,e⟩ h0 h1;obtain⟨r,τ',d⟩:=XZ τ many h0 h1;refine⟨r,.lst (τ'.cells.map λi=>.im (.int i)),.lst (By τ'),d.lo,d.hi,?_,τ',rfl⟩;rw[<- e];exact d.eq
abbrev wk(c:Int)(p:Int×Int):Wk:=⟨p.1,c,.ends p.2⟩
abbrev Am(c:Int)(ws:List (Int×Int)):I:=Yh (ws.map (wk c))
structure WOk(c:Int)(ws:List (Int×Int)):Prop where
 c0:0<=c
 c1:c<=60
 n1:1<=ws.length
 n8:ws.length<=8
 each:∀p∈ws,1<=p.1/\p.1<=1000000/\0<=p.2/\p.2<=1000000
abbrev wkD(c:Int)(p:Int×Int):D:=.im (Gw (wk c p))
def bB(c:Int)(ws:List (Int×Int)):AV (ws.map (wkD c))=.im (Am c ws):=by
 have:ws.map (wkD c)=((ws.map (wk c)).map Gw).map D.im:=by simp
 rw[this,BU]
set_option maxHeartbeats 2000000 in
def Vt{n:Nat}(h1:1<=n)(hn:n<=8):∀a b,T 0 a b->WF HY [.mu 1,.im (.int (n:Int))] [a,b] λd x=>∃i a' b' g,d=.im i/\(∃c ws,i=Am c ws/\ws.length=n/\WOk c ws)/\T 0 a' b'/\x=a'::b'::g:=by
 intro a b hT;unfold HY;refine Ak rfl ?_;refine AA (Ia ?_)
 repeat sizeOf_list_dec
 refine tap.draw (n:=0) (rest:=[]) hT rfl (by decide) (by decide) λr1 a b hT pr1 qr1=>?_;have key:∀(Q:Fl->Hd->Prop),(∀c ws a' b' g,ws.length=n->WOk c ws->T 0 a' b'->Q (.rt (.im (Am c ws))) (a'::b'::g))->∀(lg hv lw:Int),0<lg->lg<=1000000->0<hv->hv<=1000001->0<=lw->lw+lg<=1000000->lw+hv<=1000001->∀a b,T 0 a b->WS (A8 (AE 5 (EB (BA (A1 (mC (.int 0)) (A1 (A6 2 AN (A1 (A0 0) (A1 (mC (.int 61)) A4))) A4))) (A6 2 AN (A1 (A0 0) (A1 (mC (.int 2)) A4)))))
  (A8 (AE 6 (Ao (BA A4)))
  (A8 (Ax (Bh (A1 (A0 1) A4)) (AC 7)
   (A8 (CG [8,9] (A1 (mOp AX (mOp AX (mC (.int 1)) (A0 4)) (A6 2 AN (A1 (A0 0) (A1 (A0 2) A4)))) (A1 (mOp AX (A0 4) (A6 2 AN (A1 (A0 0) (A1 (A0 3) A4)))) A4)))
  (A8 (Aj (CI (AH (mOp gGt (A0 7) (mC (.int 0)))) (AH (mOp gEq (A6 2 AN (A1 (A0 0) (A1 (mC (.int 3)) A4))) (mC (.int 0)))))
   (A8 (AE 10 (mOp gIx (A0 6) (A6 2 AN (A1 (A0 0) (A1 (A0 7) A4)))))
  (A8 (AE 11 (DU (mOp gLe (mOp As (mOp gIx (A0 10) (mC (.int 0))) (mC (.int 3))) (A0 2)) (mOp gLt (mOp As (mOp gIx (mOp gIx (A0 10) (mC (.int 2))) (mC (.int 1))) (mC (.int 3))) (A0 3))))
  (A8 (AE 12 (mIf (B9 (A0 11)) (mOp AX (mC (.int 1)) (A6 2 AN (A1 (A0 0) (A1 (mC (.int 3)) A4)))) (mC (.int 1))))
  (CG [8,9] (A1 (mOp As (mOp gIx (A0 10) (mC (.int 0))) (A0 12)) (A1 (mOp As (mOp gIx (mOp gIx (A0 10) (mC (.int 2))) (mC (.int 1))) (A0 12)) A4))))))
   Aa)
  (Aw (mMt Ab (A0 6) (A1 (Ae (A1 (A0 8) (A1 (A0 5) (A1 (Ae (A1 (mC (.str "ends")) (A1 (A0 9) A4))) A4)))) A4))))))
  (AM (mCB (f1 true BR) (A1 (A0 6) A4)))))) [some (.mu 1),some (.im (.int (n:Int))),some (.im (.int lg)),some (.im (.int hv)),some (.im (.int lw)),none,none,none,none,none,none,none,none] [a,b] Q:=by
  intro Q hQ lg hv lw g1 g2 g3 g4 g5 g6 g7 a b hT
  repeat sizeOf_list_dec
  refine tap.draw (n:=0) hT rfl (by first|decide|omega) (by first|decide|omega) λr2 a b hT pr2 qr2=>?_
  repeat sizeOf_list_dec
  refine tap.draw (n:=0) hT rfl (by first|decide|omega) (by first|decide|omega) λr3 a b hT pr3 qr3=>?_;obtain⟨c,hc,hc0,hc1⟩:∃c:Int,atI [D.im (.int 0),D.im (.int r2)] r3=some (D.im (.int c))/\0<=c/\c<=60:=by
   rcases(show r3=0∨r3=1 by omega)with rfl|rfl
   .exact⟨0,Cz _ _,by omega,by omega⟩
   .exact⟨r2,Dq _ _ _,by omega,by omega⟩
  refine⟨_,_,rfl,hc,?_⟩
  repeat sizeOf_list_dec
  refine⟨BC (by omega) (by omega),?_⟩;rw[iO];refine B5 (λr ls hd=>∃(ws:List (Int×Int)) (j:Nat) (a b:MO) (z7 z8 z9 z10 z11 z12:Option D),r=AG (j:Int) (n-j)/\j<=n/\ws.length=j/\(∀p∈ws,1<=p.1/\p.1<=1000000/\0<=p.2/\p.2<=1000000)/\ls=[some (.mu 1),some (.im (.int (n:Int))),some (.im (.int lg)),some (.im (.int hv)),some (.im (.int lw)),some (.im (.int c)),some (.mu 2),z7,z8,z9,z10,z11,z12]/\hd=[a,b,.lst (ws.map (wkD c))]/\T 0 a b) ?_ ?_ ?_
  .exact⟨[],0,a,b,none,none,none,none,none,none,rfl,by omega,rfl,by simp,rfl,rfl,hT⟩
  .rintro d r ls hd ⟨ws,j,a,b,z7,z8,z9,z10,z11,z12,er,hj,lw',hw,rfl,rfl,hT⟩;obtain⟨m,hm⟩:∃m,n-j=m+1:=by
    cases q:n-j with
    |zero=>rw[q]at er;cases er
    |succ m=>exact⟨m,rfl⟩
   rw[hm,AG]at er;obtain⟨rfl,rfl⟩:=List.cons.inj er;have ej:((j:Int)+1)=((j+1:Nat):Int):=by omega
   have em:m=n-(j+1):=by omega
   refine⟨_,rfl,?_⟩;dsimp only[set_cons_zero,set_cons_succ]
   repeat sizeOf_list_dec
   refine tap.draw (n:=0) hT rfl (by first|decide|omega) (by first|decide|omega) λr4 a b hT pr4 qr4=>?_
   repeat sizeOf_list_dec
   refine tap.draw (n:=0) hT rfl (by first|decide|omega) (by first|decide|omega) λr5 a b hT pr5 qr5=>?_
   repeat sizeOf_list_dec
   have fin:∀(x y:Int) a b (z10 z11 z12:Option D),1<=x->x<=1000000->0<=y->y<=1000000->T 0 a b->WS (Aw (mMt Ab (A0 6) (A1 (Ae (A1 (A0 8) (A1 (A0 5) (A1 (Ae (A1 (mC (.str "ends")) (A1 (A0 9) A4))) A4)))) A4))) [some (.mu 1),some (.im (.int (n:Int))),some (.im (.int lg)),some (.im (.int hv)),some (.im (.int lw)),some (.im (.int c)),some (.mu 2),some (.im (.int (j:Int))),some (.im (.int x)),some (.im (.int y)),z10,z11,z12] [a,b,.lst (ws.map (wkD c))] (Gz [] (λls hd=>∃(ws:List (Int×Int)) (j':Nat) (a b:MO) (z7 z8 z9 z10 z11 z12:Option D),AG ((j:Int)+1) m=AG (j':Int) (n-j')/\j'<=n/\ws.length=j'/\(∀p∈ws,1<=p.1/\p.1<=1000000/\0<=p.2/\p.2<=1000000)/\ls=[some (.mu 1),some (.im (.int (n:Int))),some (.im (.int lg)),some (.im (.int hv)),some (.im (.int lw)),some (.im (.int c)),some (.mu 2),z7,z8,z9,z10,z11,z12]/\hd=[a,b,.lst (ws.map (wkD c))]/\T 0 a b) (FA (AM (mCB (f1 true BR) (A1 (A0 6) A4))) Q)):=by
    intro x y a b z10 z11 z12 k1 k2 k3 k4 hT
    repeat sizeOf_list_dec
    refine D1 rfl (Bi (by simp;omega)) ?_;refine⟨AK _,ws++[(x,y)],j+1,a,b,_,_,_,_,_,_,by rw[ej,em],by omega,by simp[lw'],?_,rfl,?_,hT⟩
    .intro p hp;rcases mem_append.mp hp with h|h
     .exact hw p h
     .simp at h;subst h;exact⟨k1,k2,k3,k4⟩
    .simp[wkD,Gw,Ve,AV,Ba]
   refine⟨rfl,A5 ?_⟩;change WS _ [some (.mu 1),some (.im (.int (n:Int))),some (.im (.int lg)),some (.im (.int hv)),some (.im (.int lw)),some (.im (.int c)),some (.mu 2),some (.im (.int (j:Int))),some (.im (.int (1+lw+r4))),some (.im (.int (lw+r5))),z10,z11,z12] _ _
   repeat sizeOf_list_dec
   by_cases hj0:(0:Int)<(j:Int)
   .rw[i9 (by simpa using hj0)]
    repeat sizeOf_list_dec
    refine tap.draw (n:=0) hT rfl (by first|decide|omega) (by first|decide|omega) λr6 a b hT pr6 qr6=>?_
    repeat sizeOf_list_dec
    refine⟨λ_=>?_,λ_=>AW (A5 (fin _ _ a b _ _ _ (by omega) (by omega) (by omega) (by omega) hT))⟩
    repeat sizeOf_list_dec
    refine tap.draw (n:=0) (many:=(j:Int)) (rest:=[.lst (ws.map (wkD c))]) hT rfl (by omega) (by omega) λr7 a b hT pr7 qr7=>?_;obtain⟨u,rfl⟩:∃u:Nat,r7=(u:Int):=⟨r7.toNat,by omega⟩
    have hu:u<ws.length:=by omega
    have hp:=hw ws[u] (List.getElem_mem hu);generalize hpu:ws[u]=p at hp;obtain⟨x,y⟩:=p;dsimp only at hp;refine AR (ds:=ws.map (wkD c)) (e:=wkD c (x,y)) rfl (Cr rfl (by simp[hu,hpu])) ?_
    repeat sizeOf_list_dec
    have mx:∀i,Cg x i:=λi=>BO (by omega) (by omega);have my:∀i,Cg y i:=λi=>BO (by omega) (by omega);refine Bo (AQ ?_)
    repeat sizeOf_list_dec
    refine BP (mx _) ?_
    repeat sizeOf_list_dec
    have tail:∀(sm:Bool) a b,T 0 a b->(sm=true->x*3<=lg/\y*3<hv)->WS (A8 (AE 12 (mIf (B9 (A0 11)) (mOp AX (mC (.int 1)) (A6 2 AN (A1 (A0 0) (A1 (mC (.int 3)) A4)))) (mC (.int 1))))
     (CG [8,9] (A1 (mOp As (mOp gIx (A0 10) (mC (.int 0))) (A0 12)) (A1 (mOp As (mOp gIx (mOp gIx (A0 10) (mC (.int 2))) (mC (.int 1))) (A0 12)) A4)))) [some (.mu 1),some (.im (.int (n:Int))),some (.im (.int lg)),some (.im (.int hv)),some (.im (.int lw)),some (.im (.int c)),some (.mu 2),some (.im (.int (j:Int))),some (.im (.int (1+lw+r4))),some (.im (.int (lw+r5))),some (wkD c (x,y)),some (.im (.bl sm)),z12] [a,b,.lst (ws.map (wkD c))] (λf hd=>FA (Aw (mMt Ab (A0 6) (A1 (Ae (A1 (A0 8) (A1 (A0 5) (A1 (Ae (A1 (mC (.str "ends")) (A1 (A0 9) A4))) A4)))) A4))) (Gz [] (λls hd=>∃(ws:List (Int×Int)) (j':Nat) (a b:MO) (z7 z8 z9 z10 z11 z12:Option D),AG ((j:Int)+1) m=AG (j':Int) (n-j')/\j'<=n/\ws.length=j'/\(∀p∈ws,1<=p.1/\p.1<=1000000/\0<=p.2/\p.2<=1000000)/\ls=[some (.mu 1),some (.im (.int (n:Int))),some (.im (.int lg)),some (.im (.int hv)),some (.im (.int lw)),some (.im (.int c)),some (.mu 2),z7,z8,z9,z10,z11,z12]/\hd=[a,b,.lst (ws.map (wkD c))]/\T 0 a b) (FA (AM (mCB (f1 true BR) (A1 (A0 6) A4))) Q)) f hd):=by
     intro sm a b hT hsm;have step:∀(v:Int) a b,T 0 a b->1<=v->v<=3->(v=1∨(x*3<=lg/\y*3<hv))->WS (CG [8,9] (A1 (mOp As (mOp gIx (A0 10) (mC (.int 0))) (A0 12)) (A1 (mOp As (mOp gIx (mOp gIx (A0 10) (mC (.int 2))) (mC (.int 1))) (A0 12)) A4))) [some (.mu 1),some (.im (.int (n:Int))),some (.im (.int lg)),some (.im (.int hv)),some (.im (.int lw)),some (.im (.int c)),some (.mu 2),some (.im (.int (j:Int))),some (.im (.int (1+lw+r4))),some (.im (.int (lw+r5))),some (wkD c (x,y)),some (.im (.bl sm)),some (.im (.int v))] [a,b,.lst (ws.map (wkD c))] (λf hd=>FA (Aw (mMt Ab (A0 6) (A1 (Ae (A1 (A0 8) (A1 (A0 5) (A1 (Ae (A1 (mC (.str "ends")) (A1 (A0 9) A4))) A4)))) A4))) (Gz [] (λls hd=>∃(ws:List (Int×Int)) (j':Nat) (a b:MO) (z7 z8 z9 z10 z11 z12:Option D),AG ((j:Int)+1) m=AG (j':Int) (n-j')/\j'<=n/\ws.length=j'/\(∀p∈ws,1<=p.1/\p.1<=1000000/\0<=p.2/\p.2<=1000000)/\ls=[some (.mu 1),some (.im (.int (n:Int))),some (.im (.int lg)),some (.im (.int hv)),some (.im (.int lw)),some (.im (.int c)),some (.mu 2),z7,z8,z9,z10,z11,z12]/\hd=[a,b,.lst (ws.map (wkD c))]/\T 0 a b) (FA (AM (mCB (f1 true BR) (A1 (A0 6) A4))) Q)) f hd):=by
      intro v a b hT v1 v3 hv'
      repeat sizeOf_list_dec
      refine BP (mx _) ?_
      repeat sizeOf_list_dec
      refine BP (my _) ?_
      repeat sizeOf_list_dec
      refine⟨rfl,A5 ?_⟩;have bx:1<=x*v/\x*v<=1000000/\0<=y*v/\y*v<=1000000:=by
       rcases(show v=1∨v=2∨v=3 by omega)with rfl|rfl|rfl
       .omega
       .rcases hv' with h|h
        .omega
        .omega
       .rcases hv' with h|h
        .omega
        .omega
      exact fin (x*v) (y*v) a b _ _ _ bx.1 bx.2.1 bx.2.2.1 bx.2.2.2 hT
     refine AA (AO (Yj (Az (A2 rfl ⟨_,rfl,?_⟩))));refine⟨λh=>?_,λh=>AD (A5 (step 1 a b hT (by omega) (by omega) (.inl rfl)))⟩
     repeat sizeOf_list_dec
     refine tap.draw (n:=0) hT rfl (by decide) (by decide) λr8 a b hT pr8 qr8=>?_;exact C4 (A5 (step (1+r8) a b hT (by omega) (by omega) (.inr (hsm h))))
    by_cases hs1:x*3<=lg
    .rw[i9 (by simpa using hs1)];refine A9 (A9 (A9 (A9 (A2 rfl (AD (AR rfl (GG _ _ _ _) ?_))))));refine AD (AR rfl (Dq _ _ _) (AD (BP (my _) (A2 rfl (EI (A5 (tail _ a b hT λh=>⟨hs1,by simpa using h⟩)))))))
    .rw[ic (by simpa using hs1)];exact A5 (tail false a b hT λh=>by cases h)
   .rw[ic (by simpa using hj0)];exact⟨(λh=>by cases h),λ_=>AW (A5 (fin _ _ a b _ _ _ (by omega) (by omega) (by omega) (by omega) hT))⟩
  .rintro ls hd ⟨ws,j,a,b,z7,z8,z9,z10,z11,z12,er,hj,lw',hw,rfl,rfl,hT⟩;have hj':j=n:=by
    cases q:n-j with
    |zero=>omega
    |succ m=>rw[q]at er;cases er
   repeat sizeOf_list_dec
   refine F7 rfl rfl ?_;rw[bB];exact hQ c ws a b _ (by omega) ⟨hc0,hc1,by omega,by omega,hw⟩ hT
 have start:∀(lg hv lw:Int),0<lg->lg<=1000000->0<hv->hv<=1000001->0<=lw->lw+lg<=1000000->lw+hv<=1000001->True:=λ_ _ _ _ _ _ _ _ _ _=>trivial;rcases(show r1=0∨r1=1∨r1=2∨r1=3 by omega)with rfl|rfl|rfl|rfl
 .refine⟨_,_,rfl,Cz _ _,⟨[some (.mu 1),some (.im (.int (n:Int))),some (.im (.int 20)),some (.im (.int 10)),some (.im (.int 0)),none,none,none,none,none,none,none,none],rfl,A5 ?_⟩⟩
  repeat sizeOf_list_dec
  rw[ic (by decide)];refine⟨(λh=>by cases h),λ_=>AW (A5 (key _ ?_ 20 10 0 (by omega) (by omega) (by omega) (by omega) (by omega) (by omega) (by omega) a b hT))⟩;exact λc ws a' b' g e1 e2 e3=>⟨_,a',b',g,rfl,⟨c,ws,rfl,e1,e2⟩,e3,rfl⟩
 .refine⟨_,_,rfl,Dq _ _ _,⟨[some (.mu 1),some (.im (.int (n:Int))),some (.im (.int 3)),some (.im (.int 3)),some (.im (.int 0)),none,none,none,none,none,none,none,none],rfl,A5 ?_⟩⟩
  repeat sizeOf_list_dec
  rw[ic (by decide)];refine⟨(λh=>by cases h),λ_=>AW (A5 (key _ ?_ 3 3 0 (by omega) (by omega) (by omega) (by omega) (by omega) (by omega) (by omega) a b hT))⟩;exact λc ws a' b' g e1 e2 e3=>⟨_,a',b',g,rfl,⟨c,ws,rfl,e1,e2⟩,e3,rfl⟩
 .refine⟨_,_,rfl,GG _ _ _ _,⟨[some (.mu 1),some (.im (.int (n:Int))),some (.im (.int 20)),some (.im (.int 2)),some (.im (.int 0)),none,none,none,none,none,none,none,none],rfl,A5 ?_⟩⟩
  repeat sizeOf_list_dec
  rw[ic (by decide)];refine⟨(λh=>by cases h),λ_=>AW (A5 (key _ ?_ 20 2 0 (by omega) (by omega) (by omega) (by omega) (by omega) (by omega) (by omega) a b hT))⟩;exact λc ws a' b' g e1 e2 e3=>⟨_,a',b',g,rfl,⟨c,ws,rfl,e1,e2⟩,e3,rfl⟩
 .refine⟨_,_,rfl,Cr (k:=3) rfl rfl,⟨[some (.mu 1),some (.im (.int (n:Int))),some (.im (.int 1000000)),some (.im (.int 1000001)),some (.im (.int 0)),none,none,none,none,none,none,none,none],rfl,A5 ?_⟩⟩
  repeat sizeOf_list_dec
  rw[i9 (by decide)]
  repeat sizeOf_list_dec
  refine tap.draw (n:=0) hT rfl (by decide) (by decide) λr8 a b hT pr8 qr8=>?_
  repeat sizeOf_list_dec
  refine⟨λh=>?_,λ_=>AW (A5 (key _ ?_ 1000000 1000001 0 (by omega) (by omega) (by omega) (by omega) (by omega) (by omega) (by omega) a b hT))⟩
  .refine Ia (BJ (A3 (AD (A3 (AD (A3 (AD (A7 ⟨Mf,?_⟩))))))));refine⟨[some (.mu 1),some (.im (.int (n:Int))),some (.im (.int 8)),some (.im (.int 9)),some (.im (.int 999992)),none,none,none,none,none,none,none,none],rfl,A5 (key _ ?_ 8 9 999992 (by omega) (by omega) (by omega) (by omega) (by omega) (by omega) (by omega) a b hT)⟩;exact λc ws a' b' g e1 e2 e3=>⟨_,a',b',g,rfl,⟨c,ws,rfl,e1,e2⟩,e3,rfl⟩
  .exact λc ws a' b' g e1 e2 e3=>⟨_,a',b',g,rfl,⟨c,ws,rfl,e1,e2⟩,e3,rfl⟩
open Sm An
abbrev Sz(k:Nat)(i:Int):Prop:=i.natAbs<2^k
def PD{i k:Nat}(h:i<2^k)(hk:0<k):i.log2<k:=by
 by_cases z:i=0
 .rw[z,show Nat.log2 0=0 from by decide];exact hk
 .exact(Nat.log2_lt z).mpr h
def Sz.mono{k k':Nat}{i:Int}(h:Sz k i)(hk:k<=k'):Sz k' i:=iC h (Nat.pow_le_pow_right (by decide) hk)
def Sz.mul{k l:Nat}{i j:Int}(h:Sz k i)(h':Sz l j):Sz (k+l) (i*j):=by
 unfold Sz;rw[Int.natAbs_mul,Nat.pow_add];exact Nat.mul_lt_mul'' h h'
def b9{k l:Nat}{i j:Int}(h:Sz k i)(h':Sz l j)(hk:0<k:=by decide)(hl:0<l:=by decide)(bk:k<=100000:=by decide)(bl:l<=100000:=by decide):Fb i j:=⟨iC (PD h hk) bk,iC (PD h' hl) bl⟩
def cE{k:Nat}{j:Int}(h0:0<j)(h:Sz k j)(hk:0<k)(bk:k<=9000):Eb j:=⟨h0,iC (PD h hk) bk⟩
def VZ(a:Int){b:Nat}:WF BY [.im (.int a),.im (.int (b:Int))] [] λd x=>d=.im (.int (Nat.gcd a.natAbs b:Nat)):=by
 unfold BY;refine Ak rfl ?_;refine AA (AO (Ce (A3 (A2 rfl (A7 (WP.eq (z:=.im (.int (a.natAbs:Int))) (h:=[]) (by simp[Gk];split<;>omega) (A5 ?_)))))));refine AA (Hv (λm ls hd=>∃x y:Nat,m=y/\Nat.gcd x y=Nat.gcd a.natAbs b/\ls=[some (.im (.int (x:Int))),some (.im (.int (y:Int)))]/\hd=[]) (n:=b) ⟨a.natAbs,b,rfl,rfl,rfl,rfl⟩ ?_);rintro m ls hd ⟨x,y,rfl,hg,rfl,rfl⟩;refine AQ (A9 (A2 rfl (AD (Px ⟨_,rfl,?_⟩))));by_cases hy:m=0
 .subst hy;rw[ic (by simp)];refine A5 (AI (A2 rfl ?_));show D.im (.int (x:Int))=_;rw[<- hg,Nat.gcd_zero_right]
 .rw[i9 (by simp;omega)];refine Ee (A3 (A2 rfl (A3 (A9 (A2 rfl (A2 rfl (LL (show Bf (m:Int) by unfold Bf;omega) (A7 ⟨rfl,?_⟩))))))));exact⟨x%m,Nat.mod_lt _ (by omega),m,x%m,rfl,by rw[<- hg,gcd_comm x m,Nat.gcd_rec m x,gcd_comm],by simp,rfl⟩
structure Rd(p q:Int):Prop where
 q0:0<q
 g1:Nat.gcd p.natAbs q.natAbs=1
def red{a b:Int}(hb:0<b):∃p q:Int,a/(Nat.gcd a.natAbs b.natAbs:Nat)=p/\b/(Nat.gcd a.natAbs b.natAbs:Nat)=q/\Rd p q/\p*b=a*q/\p.natAbs<=a.natAbs/\q.natAbs<=b.natAbs:=by
 have hs:0<Nat.gcd a.natAbs b.natAbs:=Nat.gcd_pos_of_pos_right _ (by omega);obtain⟨p,hp⟩:((Nat.gcd a.natAbs b.natAbs:Nat):Int) ∣ a:=Int.ofNat_dvd_left.mpr (Nat.gcd_dvd_left _ _);obtain⟨q,hq⟩:((Nat.gcd a.natAbs b.natAbs:Nat):Int) ∣ b:=Int.ofNat_dvd_left.mpr (Nat.gcd_dvd_right _ _);have e1:a/(Nat.gcd a.natAbs b.natAbs:Nat)=p:=Int.ediv_eq_of_eq_mul_right (by omega) hp;have e2:b/(Nat.gcd a.natAbs b.natAbs:Nat)=q:=Int.ediv_eq_of_eq_mul_right (by omega) hq;have na:a.natAbs=Nat.gcd a.natAbs b.natAbs*p.natAbs:=by
  have:=iP Int.natAbs hp;rw[Int.natAbs_mul,jx]at this;exact this
 have nb:b.natAbs=Nat.gcd a.natAbs b.natAbs*q.natAbs:=by
  have:=iP Int.natAbs hq;rw[Int.natAbs_mul,jx]at this;exact this
 refine⟨p,q,e1,e2,⟨?_,?_⟩,?_,?_,?_⟩
 .have s0:0<((Nat.gcd a.natAbs b.natAbs:Nat):Int):=by omega
  rw[hq]at hb;exact Int.pos_of_mul_pos_right hb s0
 .have:=Nat.gcd_div_gcd_div_gcd_of_pos_right (n:=a.natAbs) (m:=b.natAbs) (by omega);rw[Nat.div_eq_of_eq_mul_right hs na,Nat.div_eq_of_eq_mul_right hs nb]at this;exact this
 .generalize ((Nat.gcd a.natAbs b.natAbs:Nat):Int)=s at hp hq;rw[hp,hq]
  ac_rfl
 .rw[na];exact Nat.le_mul_of_pos_left _ hs
 .rw[nb];exact Nat.le_mul_of_pos_left _ hs
def PR{k:Nat}(hk:0<k)(bk:k<=9000){t u:Int}(hu:u≠0)(su:Sz k u):WF EX [.im (.int t),.im (.int u)] [] λd x=>∃p q,d=.im (.tup [.int p,.int q])/\Rd p q/\p*u=t*q/\p.natAbs<=t.natAbs/\q.natAbs<=u.natAbs:=by
 unfold EX;refine Ak rfl ?_;have go:∀t' u':Int,0<u'->u'.natAbs=u.natAbs->t'.natAbs=t.natAbs->(∀p q:Int,p*u'=t'*q->p*u=t*q)->WS (A8 (AE 2 (A6 0 BY (A1 (A0 0) (A1 (A0 1) A4)))) (AM (Ae (A1 (mOp Ew (A0 0) (A0 2)) (A1 (mOp Ew (A0 1) (A0 2)) A4))))) [some (.im (.int t')),some (.im (.int u')),none] [] λf x=>∃d,f=.rt d/\∃p q,d=.im (.tup [.int p,.int q])/\Rd p q/\p*u=t*q/\p.natAbs<=t.natAbs/\q.natAbs<=u.natAbs:=by
  intro t' u' h0 eu et back;obtain⟨b,rfl⟩:∃b:Nat,u'=(b:Int):=⟨u'.toNat,by omega⟩
  obtain⟨p,q,e1,e2,rd,pe,lp,lq⟩:=red (a:=t') h0;rw[jx]at e1 e2 lq eu;have hs:0<Nat.gcd t'.natAbs b:=Nat.gcd_pos_of_pos_right _ (by omega);have hs2:Nat.gcd t'.natAbs b<=b:=Nat.gcd_le_right _ (by omega);have dv:Eb ((Nat.gcd t'.natAbs b:Nat):Int):=cE (by omega) (k:=k) (by unfold Sz;rw[jx];unfold Sz at su;omega) hk bk;refine AA (AO (AT (A3 (A2 rfl (A3 (A2 rfl (A7 ⟨by simp,(VZ t' (b:=b)).mono ?_⟩)))))));rintro d x rfl;refine⟨_,rfl,A5 (AI (BJ (A3 (A9 (A2 rfl (A2 rfl (LM dv (A3 (A9 (A2 rfl (A2 rfl (LM dv (A7 ⟨Fg,_,rfl,p,q,?_,rd,back p q pe,by omega,by omega⟩)))))))))))))⟩;rw[e1,e2];rfl
 have out:∀{f:Fl} {x:Hd},(∃d,f=.rt d/\∃p q,d=.im (.tup [.int p,.int q])/\Rd p q/\p*u=t*q/\p.natAbs<=t.natAbs/\q.natAbs<=u.natAbs)->(match f with|.rt d=>∃p q,d=.im (.tup [.int p,.int q])/\Rd p q/\p*u=t*q/\p.natAbs<=t.natAbs/\q.natAbs<=u.natAbs|_=>False):=by
  rintro f x ⟨d,rfl,h⟩;exact h
 refine AA (Af (AQ (A9 (A2 rfl (AD (EI ⟨_,rfl,λh=>?_,λh=>?_⟩))))))
 .have h:u<0:=by simpa using h
  refine Ee (A3 (FV (A2 rfl ⟨_,rfl,A3 (FV (A2 rfl ⟨_,rfl,A7 ⟨rfl,A5 ?_⟩⟩))⟩)));refine(go (-t) (-u) (by omega) (by omega) (by omega) (λp q e=>?_)).mono ?_
  .rw[Int.mul_neg,Int.neg_mul]at e;omega
  .rintro f x ⟨d,rfl,h⟩;exact h
 .have h:¬ u<0:=by simpa using h
  refine AW (A5 ((go t u (by omega) rfl rfl (λp q e=>e)).mono ?_));rintro f x ⟨d,rfl,h⟩;exact h
abbrev frI(p q:Int):I:=.tup [.int p,.int q]
def Uf{p q:Int}{hd:Hd}{QE:D->Hd->Prop}(h:QE (.im (.int p)) hd):WP (gIx (.im (frI p q)) (.im (.int 0)) hd) QE:=AR (ds:=[.im (.int p),.im (.int q)]) rfl (Cz _ _) h
def Ue{p q:Int}{hd:Hd}{QE:D->Hd->Prop}(h:QE (.im (.int q)) hd):WP (gIx (.im (frI p q)) (.im (.int 1)) hd) QE:=AR (ds:=[.im (.int p),.im (.int q)]) rfl (Cr (k:=1) rfl rfl) h
def Eo:I->Bool
 |.int _=>true
 |_=>false
def Bl:I->Int
 |.int i=>i
 |_=>0
def DH{i:I}(h:Eo i=true):i=.int (Bl i):=by
 cases i<;>simp[Eo,Bl]at h ⊢
def VU(i:I):WF D4 [.im i] [] λd x=>d=.im (.bl (Eo i)):=by
 unfold D4;refine Ak rfl ?_;cases i with
 |int i=>exact AI (Bo (AQ (B8 (A2 rfl ⟨true,rfl,_,rfl,NM (AQ (B8 (A2 rfl ⟨false,rfl,_,rfl,rfl⟩)))⟩))))
 |bl b=>exact AI (Bo (AQ (B8 (A2 rfl ⟨true,rfl,_,rfl,NM (AQ (B8 (A2 rfl ⟨true,rfl,_,rfl,rfl⟩)))⟩))))
 |non=>exact AI (Bo (AQ (B8 (A2 rfl ⟨false,rfl,_,rfl,rfl⟩))))
 |str x=>exact AI (Bo (AQ (B8 (A2 rfl ⟨false,rfl,_,rfl,rfl⟩))))
 |tup x=>exact AI (Bo (AQ (B8 (A2 rfl ⟨false,rfl,_,rfl,rfl⟩))))
def Ci(k:Int)(i:I):Bool:=Eo i&&decide (k<=Bl i)
def S3(k:Int)(i:I):WF Bx [.im (.int k),.im i] [] λd x=>d=.im (.bl (Ci k i)):=by
 unfold Bx;refine Ak rfl ?_;refine AI (Bo (AQ (AT (A3 (A2 rfl (A7 ⟨by simp,(VU i).mono ?_⟩))))));rintro d x rfl;refine⟨_,rfl,_,rfl,?_⟩;by_cases h:Eo i=true
 .obtain⟨j,rfl⟩:∃j,i=.int j:=⟨_,DH h⟩
  rw[i9 h];exact A9 (A2 rfl (A2 rfl (V1 rfl)))
 .rw[ic h];simp[Ci,h]
def Cb(n:Int)(i:I):Bool:=Ci 0 i&&decide (Bl i<n)
def Rg(n:Int)(i:I):WF BS [.im (.int n),.im i] [] λd x=>d=.im (.bl (Cb n i)):=by
 unfold BS;refine Ak rfl ?_;refine AI (Bo (AQ (AT (A3 (AD (A3 (A2 rfl (A7 ⟨by simp,(S3 0 i).mono ?_⟩))))))));rintro d x rfl;refine⟨_,rfl,_,rfl,?_⟩;by_cases h:Ci 0 i=true
 .have hn:Eo i=true:=by unfold Ci at h;rw[Bool.and_eq_true]at h;exact h.1
  obtain⟨j,rfl⟩:∃j,i=.int j:=⟨_,DH hn⟩
  rw[i9 h];refine A9 (A2 rfl (A2 rfl (EI ?_)));show D.im _=_;unfold Cb;rw[h];rfl
 .rw[ic h];simp[Cb,h]
def CZ(n:Nat):I->Bool
 |.tup l=>decide (l.length=n)
 |_=>false
def NP(n:Nat)(i:I):WF Bj [.im (.int (n:Int)),.im i] [] λd x=>d=.im (.bl (CZ n i)):=by
 unfold Bj;refine Ak rfl ?_;cases i with
 |tup l=>
  refine AI (Bo (AQ (B8 (A2 rfl ⟨true,rfl,_,rfl,?_⟩))));refine A9 (Ce (A3 (A2 rfl (A7 (F7 (ds:=l.map D.im) rfl rfl (A2 rfl (FT ?_)))))));show D.im _=_;simp only[CZ,iu]
  congr 2
  simp;omega
 |int i=>exact AI (Bo (AQ (B8 (A2 rfl ⟨false,rfl,_,rfl,rfl⟩))))
 |bl b=>exact AI (Bo (AQ (B8 (A2 rfl ⟨false,rfl,_,rfl,rfl⟩))))
 |non=>exact AI (Bo (AQ (B8 (A2 rfl ⟨false,rfl,_,rfl,rfl⟩))))
 |str x=>exact AI (Bo (AQ (B8 (A2 rfl ⟨false,rfl,_,rfl,rfl⟩))))
def Yp{i:I}(h:CZ 2 i=true):∃a b,i=.tup [a,b]:=by
 cases i with
 |tup l=>
  simp[CZ]at h
  match l,h with
  |[a,b],_=>exact⟨a,b,rfl⟩
 |_=>simp[CZ]at h
def Sr{i:I}(h:CZ 3 i=true):∃a b c,i=.tup [a,b,c]:=by
 cases i with
 |tup l=>
  simp[CZ]at h
  match l,h with
  |[a,b,c],_=>exact⟨a,b,c,rfl⟩
 |_=>simp[CZ]at h
def Dm:I->Bool
 |.tup [a,b]=>Eo a&&(Ci 1 b&&decide (Nat.gcd (Bl a).natAbs (Bl b).natAbs=1))
 |_=>false
def bV(i:I):WF D9 [.im i] [] λd x=>d=.im (.bl (Dm i)):=by
 unfold D9;refine Ak rfl ?_;refine AA (Af (C3 (Az (AT (A3 (AD (A3 (A2 rfl (A7 ⟨by simp,(NP 2 i).mono ?_⟩)))))))));rintro d x rfl;refine⟨_,rfl,_,rfl,?_⟩;by_cases ht:CZ 2 i=true
 .rw[ht];refine⟨(λh=>by cases h),λ_=>AW (A5 ?_)⟩;obtain⟨a,b,rfl⟩:=Yp ht;refine AA (Ia (A2 rfl ⟨[some (.im (.tup [a,b])),some (.im a),some (.im b)],rfl,A5 ?_⟩));refine AA (Af (Fq (C3 (Az (AT (A3 (A2 rfl (A7 ⟨by simp,(VU a).mono ?_⟩))))))));rintro d x rfl;refine⟨_,rfl,_,rfl,?_⟩;by_cases ha:Eo a=true
  .rw[ha,ic (by simp)];refine C3 (Az (AT (A3 (AD (A3 (A2 rfl (A7 ⟨by simp,(S3 1 b).mono ?_⟩)))))));rintro d x rfl;refine⟨_,rfl,_,rfl,?_⟩;by_cases hb:Ci 1 b=true
   .rw[hb];refine⟨(λh=>by cases h),λ_=>AW (A5 ?_)⟩;have hnb:Eo b=true:=by unfold Ci at hb;rw[Bool.and_eq_true]at hb;exact hb.1
    have b1:1<=Bl b:=by unfold Ci at hb;rw[Bool.and_eq_true]at hb;exact jO hb.2
    have e:Dm (.tup [a,b])=decide (Nat.gcd (Bl a).natAbs (Bl b).natAbs=1):=by simp only[Dm,ha,hb,Bool.true_and]
    rw[e];obtain⟨x,rfl⟩:∃j,a=.int j:=⟨_,DH ha⟩
    obtain⟨y,rfl⟩:∃j,b=.int j:=⟨_,DH hnb⟩
    simp only[Bl]at b1 ⊢;obtain⟨k,rfl⟩:∃k:Nat,y=(k:Int):=⟨y.toNat,by omega⟩
    refine AI (A9 (AT (A3 (A2 rfl (A3 (A2 rfl (A7 ⟨by simp,(VZ x (b:=k)).mono ?_⟩)))))));rintro d' x' rfl;refine⟨_,rfl,AD (FT ?_)⟩;show D.im (.bl (decide (((Nat.gcd x.natAbs k:Nat):Int)=1)))=D.im (.bl (decide (Nat.gcd x.natAbs (k:Int).natAbs=1)));have:(((Nat.gcd x.natAbs k:Nat):Int)=1)↔Nat.gcd x.natAbs (k:Int).natAbs=1:=by rw[jx];omega
    rw[decide_eq_decide.mpr this]
   .rw[Bool.eq_false_iff.mpr hb];refine⟨λ_=>AI (AD ?_),λh=>by cases h⟩;show D.im _=_;simp only[Dm,Bool.eq_false_iff.mpr hb,Bool.false_and,Bool.and_false]
  .rw[Bool.eq_false_iff.mpr ha,i9 (by simp)];refine⟨λ_=>AI (AD ?_),λh=>by cases h⟩;show D.im _=_;simp only[Dm,Bool.eq_false_iff.mpr ha,Bool.false_and]
 .rw[Bool.eq_false_iff.mpr ht];refine⟨λ_=>AI (AD ?_),λh=>by cases h⟩;show D.im _=_;have:Dm i=false:=by
   unfold Dm;split
   .simp[CZ]at ht
   .rfl
  rw[this]
def Py{ma mb:MI}{ls:Ls}{hd:Hd}{QI:List D×Gd->Hd->Prop}(h:WI ma ls hd λp x=>WI mb ls x λq y=>GOk y p.2/\QI (List.zipWith (λx y=>AV [x,y]) p.1 q.1,p.2++q.2) y):WI (IM ma mb) ls hd QI:=by
 obtain⟨p,x,e1,q,y,e2,g,k⟩:=h;exact⟨_,_,by simp only[IM,e1,bind_some,e2,g,iE],k⟩
def up:List Int->Bool
 |a::b::r=>decide (a<b)&&up (b::r)
 |_=>true
theorem Q5:∀ns:List Int,((ns.zip (ns.drop 1)).map λp=>decide (p.1<p.2)).all id=up ns
 |[]=>rfl
 |[a]=>rfl
 |a::b::r=>by
  have:=Q5 (b::r);simp only[List.drop_succ_cons,List.drop_zero,List.zip_cons_cons,iD,all_cons,id,up]at this ⊢;rw[<- this]
theorem OT:∀ns:List Int,up ns=true↔ns.Pairwise (·<·)
 |[]=>by simp[up]
 |[a]=>by simp[up]
 |a::b::r=>by
  rw[up,Bool.and_eq_true,jt,OT (b::r),List.pairwise_cons (a:=a)];constructor
  .rintro⟨h1,h2⟩;refine⟨λx hx=>?_,h2⟩;rcases mem_cons.mp hx with rfl|hx
   .exact h1
   .exact Int.lt_trans h1 ((List.pairwise_cons.mp h2).1 x hx)
  .rintro⟨h1,h2⟩;exact⟨h1 b (by simp),h2⟩
def Jq(ns:List Int):(ns.map I.int).map D.im=intD ns:=by simp[intD]
def WZ{ns:List Int}(hl:ns.length<=20):WF HZ [.im (.tup (ns.map .int))] [] λd x=>d=.im (.bl (up ns)):=by
 unfold HZ;refine Ak rfl ?_;refine AI (C8 (Aq (Py (C0 (A2 rfl ⟨_,rfl,C0 (FU (A2 rfl (DG (AD ⟨_,rfl,F8 ⟨_,rfl,?_⟩⟩))))⟩)))));rw[Jq,show((1:Int))=((1:Nat):Int)from rfl,SI];have e1:(intD ns).drop 1=intD (ns.drop 1):=by simp[intD]
 rw[e1,<- Jq (ns.drop 1),BU];refine⟨_,rfl,AK _,?_⟩;dsimp only;have ez:List.zipWith (λx y=>AV [x,y]) (intD ns) (((ns.drop 1).map I.int).map D.im)=(ns.zip (ns.drop 1)).map λp=>D.im (DO p):=by
  rw[Jq,intD,intD,List.zipWith_map,List.zip,List.map_zipWith];rfl
 rw[ez];refine⟨AY (by simp;omega),?_⟩;refine BQ (λp=>D.im (DO p)) (λp:Int×Int=>some (.im (.bl (decide (p.1<p.2))))) (λ_ ls=>∃x y,ls=[some x,some y]) _ (AK _) ?_ ?_
 .rintro p hp ls hls;refine⟨[some (.im (.int p.1)),some (.im (.int p.2))],by rcases hls with rfl|⟨_,x,y,rfl⟩<;>rfl,⟨_,_,rfl⟩,B4 ⟨rfl,?_⟩⟩;rw[i9 rfl];exact⟨_,rfl,A9 (A2 rfl (A2 rfl (EI ⟨rfl,rfl⟩)))⟩
 .rw[List.filterMap_eq_map',show((ns.zip (ns.drop 1)).map λp:Int×Int=>D.im (.bl (decide (p.1<p.2))))=blD ((ns.zip (ns.drop 1)).map λp=>decide (p.1<p.2)) by simp[blD]];refine⟨_,by rw[DE,Dp];rfl,?_⟩;rw[<- Q5]
def E9(n:Int):I->Bool
 |.tup l=>l.all (Cb n)&&up (l.map Bl)
 |_=>false
def YV{n:Int}{l:List I}(h:l.all (Cb n)=true):l=(l.map Bl).map I.int:=by
 rw[iF];refine(map_id l).symm.trans (jk λi hi=>?_);have:=all_eq_true.mp h i hi;unfold Cb Ci at this;simp only[Bool.and_eq_true]at this;exact DH this.1.1
def YC(n:Int)(i:I)(hl:∀l,i=.tup l->l.length<=20):WF C7 [.im (.int n),.im i] [] λd x=>d=.im (.bl (E9 n i)):=by
 unfold C7;refine Ak rfl ?_;have other:(∀l,i≠.tup l)->E9 n i=false:=λh=>by
  unfold E9;split
  .exact absurd rfl (h _)
  .rfl
 have no:∀{Q:Bool->Hd->Prop},(∀l,i≠.tup l)->isD .tuple [] (.im i)=some false:=by
  intro _ h;cases i with
  |tup l=>exact absurd rfl (h l)
  |_=>rfl
 by_cases ht:∃l,i=.tup l
 .obtain⟨l,rfl⟩:=ht;have hl:=hl l rfl;refine AA (Af (Fq (C3 (Az (B8 (A2 rfl ⟨true,rfl,true,rfl,?_⟩))))));rw[ic (by simp)];refine C3 (Az (C8 (Aq (C0 (A2 rfl ⟨_,rfl,AY (by simp;omega),?_⟩)))));refine BQ D.im (λe:I=>some (.im (.bl (Cb n e)))) (λ_ ls=>∃x,ls=[some x,some (.im (.int n))]) _ (AK _) ?_ ?_
  .rintro e he ls hls;refine⟨[some (.im e),some (.im (.int n))],by rcases hls with rfl|⟨_,x,rfl⟩<;>rfl,⟨_,rfl⟩,B4 ⟨rfl,?_⟩⟩;rw[i9 rfl];refine⟨_,rfl,AT (A3 (A2 rfl (A3 (A2 rfl (A7 ⟨by simp,(Rg n e).mono ?_⟩)))))⟩;rintro d x rfl;exact⟨_,rfl,rfl,rfl⟩
  rw[List.filterMap_eq_map',show(l.map λe=>D.im (.bl (Cb n e)))=blD (l.map (Cb n)) by simp[blD]];refine⟨_,by rw[DE,Dp];rfl,_,rfl,?_⟩;have ea:(l.map (Cb n)).all id=l.all (Cb n):=by simp[all_map]
  rw[ea];by_cases h:l.all (Cb n)=true
  .rw[h];refine⟨(λh=>by cases h),λ_=>AW (A5 ?_)⟩;have el:=YV h;have ev:E9 n (.tup l)=up (l.map Bl):=by simp only[E9,h,Bool.true_and]
   rw[ev];generalize l.map Bl=ns at *;subst el;refine AI (AT (A3 (A2 rfl (A7 ⟨by simp,(WZ (by simpa using hl)).mono ?_⟩))));rintro d x rfl;exact⟨_,rfl,rfl⟩
  .rw[Bool.eq_false_iff.mpr h];refine⟨λ_=>AI (AD ?_),λh=>by cases h⟩;show D.im _=_;simp only[E9,Bool.eq_false_iff.mpr h,Bool.false_and]
 .have hn:∀l,i≠.tup l:=λl e=>ht ⟨l,e⟩;refine AA (Af (Fq (C3 (Az (B8 (A2 rfl ⟨false,no (Q:=λ_ _=>True) hn,false,rfl,?_⟩))))));rw[i9 (by simp)];refine⟨λ_=>AI (AD ?_),λh=>by cases h⟩;show D.im _=_;rw[other hn]
def Fa{n:Nat}{i:I}(h:Cb (n:Int) i=true):∃a:Nat,i=.int (a:Int)/\a<n:=by
 unfold Cb Ci at h;simp only[Bool.and_eq_true,jt]at h;exact⟨(Bl i).toNat,by rw[Int.toNat_of_nonneg h.1.2];exact DH h.1.1,by omega⟩
def Nw{n a:Nat}(h:a<n):Cb (n:Int) (.int (a:Int))=true:=by
 simp[Cb,Ci,Eo,Bl];omega
def W9{n:Nat}{i:I}(h:E9 (n:Int) i=true):∃S:List Nat,i=AZ S/\S.Pairwise (·<·)/\∀b∈S,b<n:=by
 unfold E9 at h;split at h
 .next l=>
  rw[Bool.and_eq_true]at h;have h1:=all_eq_true.mp h.1;refine⟨l.map λi=>(Bl i).toNat,?_,?_,?_⟩
  .congr 1
   rw[iF];refine(map_id l).symm.trans (jk λi hi=>?_);obtain⟨a,rfl,_⟩:=Fa (h1 i hi);simp[Bl]
  .have:=(OT _).mp h.2;rw[pairwise_map]at this ⊢;refine this.imp_of_mem λ{x y} hx hy q=>?_
   obtain⟨a,rfl,_⟩:=Fa (h1 x hx);obtain⟨b,rfl,_⟩:=Fa (h1 y hy);simp[Bl]at q ⊢;omega
  .intro b hb;obtain⟨i,hi,rfl⟩:=mem_map.mp hb;obtain⟨a,rfl,ha⟩:=Fa (h1 i hi);simpa [Bl]using ha
 .cases h
def W8{n:Nat}{S:List Nat}(h1:S.Pairwise (·<·))(h2:∀b∈S,b<n):E9 (n:Int) (AZ S)=true:=by
 unfold E9 AZ;rw[Bool.and_eq_true];refine⟨all_eq_true.mpr λi hi=>?_,(OT _).mpr ?_⟩
 .obtain⟨k,hk,rfl⟩:=mem_map.mp hi;exact Nw (h2 k hk)
 .rw[iF,pairwise_map];exact h1.imp λq=>by simp[Bl];omega
def YJ{i:I}(h:Dm i=true):∃p q:Int,i=frI p q/\Rd p q:=by
 unfold Dm at h;split at h
 .next a b=>
  simp only[Bool.and_eq_true,jt]at h;obtain⟨h1,h2,h3⟩:=h;unfold Ci at h2;simp only[Bool.and_eq_true,jt]at h2;refine⟨Bl a,Bl b,?_,⟨by omega,h3⟩⟩;rw[frI,<- DH h1,<- DH h2.1]
 .cases h
def YI{p q:Int}(h:Rd p q):Dm (frI p q)=true:=by
 simp only[Dm,frI,Eo,Bl,Ci,Bool.true_and,h.g1,decide_true,Bool.and_true];have:=h.q0;exact ja (by omega)
def lf(ws:List (Int×Int))(k:Nat):Int:=((ws[k]?).map (·.1)).getD 1
def wf(ws:List (Int×Int))(k:Nat):Int:=((ws[k]?).map (·.2)).getD 0
def E3{c:Int}{ws:List (Int×Int)}{k:Nat}(hk:k<ws.length):atI (((ws.map (wk c)).map Gw).map D.im) (k:Int)=some (wkD c (lf ws k,wf ws k)):=Cr rfl (by simp[hk,lf,wf])
def DV{c:Int}{ws:List (Int×Int)}(W:WOk c ws){k:Nat}(hk:k<ws.length):1<=lf ws k/\lf ws k<=1000000/\0<=wf ws k/\wf ws k<=1000000:=by
 have:=W.each ws[k] (List.getElem_mem hk);simp[lf,wf,hk];omega
def eV{c:Int}{ws:List (Int×Int)}(W:WOk c ws)(k:Nat):0<lf ws k:=by
 rcases Nat.lt_or_ge k ws.length with h|h
 .have:=(DV W h).1;omega
 .simp[lf,h]
structure UOk(ws:List (Int×Int)):Prop where
 n8:ws.length<=8
 each:∀p∈ws,1<=p.1/\p.1<=1000000
def bO{ws:List (Int×Int)}(W:UOk ws){k:Nat}(hk:k<ws.length):1<=lf ws k/\lf ws k<=1000000:=by
 have:=W.each ws[k] (List.getElem_mem hk);simp[lf,hk];omega
theorem Il(f:Nat->Int):∀ks:List Nat,(ks.map f).sum=sm f ks
 |[]=>rfl
 |k::r=>by simp[Sm.sm,Il f r]
def prs:Nat->List (Nat×Nat)
 |0=>[]
 |n+1=>prs n++(List.range n).map λi=>(i,n)
theorem RO:∀n,∀p∈prs n,p.1<n/\p.2<n
 |0,p,h=>by simp[prs]at h
 |n+1,p,h=>by
  rw[prs]at h;rcases mem_append.mp h with h|h
  .have:=RO n p h;omega
  .obtain⟨i,hi,rfl⟩:=mem_map.mp h;simp at hi;dsimp only;omega
theorem Je:∀n,(prs n).length<=n*n
 |0=>by simp[prs]
 |n+1=>by
  have:=Je n;simp only[prs,iL,iu,List.length_range];rw[Nat.succ_mul,Nat.mul_succ];omega
theorem No(g:Nat->Nat->Int):∀n,((prs n).map λp=>g p.1 p.2).sum=ps g (List.range n)
 |0=>rfl
 |n+1=>by
  rw[prs,j6,List.sum_append,No g n,jl,Nn,iF]
  congr 1
  exact Il (λi=>g i n) (List.range n)
abbrev prD(p:Nat×Nat):D:=.im (.tup [.int (p.1:Int),.int (p.2:Int)])
def FJ(ns:List Int):FO (intD ns)=some (.im (.int ns.sum)):=by
 have:B3 (intD ns)=some ns:=by
  induction ns with
  |nil=>rfl
  |cons n r ih=>simp[intD]at ih ⊢
 unfold FO;rw[this];rfl
def Ra{c:Int}{ws:List (Int×Int)}(c0:0<=c)(c1:c<=60)(W:UOk ws):WF D8 [.im (.int c),.mu 1,.mu 0] [.lst (intD (ws.map (·.2))),.lst (intD (ws.map (·.1)))] λd x=>d=.im (.int (FH (lf ws) (wf ws) c ws.length)):=by
 have n8:=W.n8;have la:∀k,k<ws.length->atI (intD (ws.map (·.1))) (k:Int)=some (.im (.int (lf ws k))):=λk hk=>Cr rfl (by simp[intD,lf,hk]);have wa:∀k,k<ws.length->atI (intD (ws.map (·.2))) (k:Int)=some (.im (.int (wf ws k))):=λk hk=>Cr rfl (by simp[intD,wf,hk]);unfold D8;refine Ak rfl ?_;refine AA (AO (C8 (Aq (Py (Ef (A2 rfl ⟨1,_,rfl,rfl,Ef (A2 rfl ⟨0,_,rfl,rfl,?_⟩)⟩))))));refine⟨by intro p hp;rw[iB]at hp;subst hp;rfl,?_⟩;dsimp only;have ez:List.zipWith (λx y=>AV [x,y]) (intD (ws.map (·.1))) (intD (ws.map (·.2)))=ws.map Ar:=by
  simp only[intD,iF];rw[List.zipWith_map];have:∀l:List (Int×Int),List.zipWith (λa b:Int×Int=>AV [((λi=>D.im (.int i)) ∘ λx=>x.1) a,((λi=>D.im (.int i)) ∘ λx=>x.2) b]) l l=l.map Ar:=by
   intro l
   induction l with
   |nil=>rfl
   |cons p r ih=>rw[List.zipWith_cons_cons,iD,ih];rfl
  exact this ws
 rw[ez];refine⟨AY (by simp;omega),?_⟩;have gk:GOk [.lst (intD (ws.map (·.2))),.lst (intD (ws.map (·.1)))] ([(1,intD (ws.map (·.1)))]++[(0,intD (ws.map (·.2)))]):=by
  intro p hp;simp only[mem_append,iB]at hp;rcases hp with rfl|rfl<;>rfl
 refine BQ Ar (λp=>some (.im (.int (p.2*(c+p.1))))) (λ_ ls=>∃x y,ls=[some x,some y,some (.im (.int c))]) _ gk ?_ ?_
 .rintro p hp ls hls;have b:=W.each p hp;refine⟨[some (.im (.int p.1)),some (.im (.int p.2)),some (.im (.int c))],by rcases hls with rfl|⟨_,x,y,rfl⟩<;>rfl,⟨_,_,rfl⟩,B4 ⟨rfl,?_⟩⟩;rw[i9 rfl];exact⟨_,rfl,A9 (A2 rfl (A9 (A2 rfl (A2 rfl (C4 (BP (.inr ⟨by omega,by omega⟩) ⟨rfl,rfl⟩))))))⟩
 have e1:(ws.filterMap λp=>some (D.im (.int (p.2*(c+p.1)))))=intD (ws.map λp=>p.2*(c+p.1)):=by simp[intD]
 rw[e1];refine⟨_,FJ _,A5 ?_⟩;have es:(ws.map λp=>p.2*(c+p.1)).sum=sm (λk=>wf ws k*(c+lf ws k)) (List.range ws.length):=by
  rw[<- Il]
  congr 1
  refine jj λi=>?_;by_cases hi:i<ws.length
  .simp[hi,lf,wf]
  .rw[List.getElem?_eq_none (by simp;omega),List.getElem?_eq_none (by simp;omega)]
 rw[es];change WS _ [some (.im (.int c)),some (.mu 1),some (.mu 0),some (.im (.int (sm (λk=>wf ws k*(c+lf ws k)) (List.range ws.length)))),none] _ _;generalize hal:Sm.sm (λk=>wf ws k*(c+lf ws k)) (List.range ws.length)=alone;refine AA (AO (LP (Cm (A3 (Ce (A3 (A2 rfl (A7 (F7 (ds:=intD (ws.map (·.1))) (z:=.im (.int (ws.length:Int))) rfl (by simp[Ag]) ?_)))))))));refine A7 ⟨_,rfl,BC (by omega) (by omega),?_⟩;rw[iO];refine Gx (λr ls hd=>∃(j:Nat) (z0 z1:Option D),r=AG (j:Int) (ws.length-j)/\j<=ws.length/\ls=[z0,z1]/\hd=[.lst (intD (ws.map (·.2))),.lst (intD (ws.map (·.1))),.lst ((prs j).map prD)]) ⟨0,none,none,rfl,by omega,rfl,rfl⟩ ?_ ?_
 .rintro d r ls hd ⟨j,z0,z1,er,hj,rfl,rfl⟩;obtain⟨m,hm⟩:∃m,ws.length-j=m+1:=by
   cases q:ws.length-j with
   |zero=>rw[q]at er;cases er
   |succ m=>exact⟨m,rfl⟩
  rw[hm,AG]at er;obtain⟨rfl,rfl⟩:=List.cons.inj er;refine⟨[some (.im (.int (j:Int))),z1],rfl,B4 ?_⟩;rw[i9 rfl];refine Cm (A3 (A2 rfl (A7 ⟨_,rfl,BC (by omega) (by omega),?_⟩)));rw[iO];refine Gy (λr ls hd=>∃(i:Nat) (z1:Option D),r=AG (i:Int) (j-i)/\i<=j/\ls=[some (.im (.int (j:Int))),z1]/\hd=[.lst (intD (ws.map (·.2))),.lst (intD (ws.map (·.1))),.lst ((prs j++(List.range i).map λi=>(i,j)).map prD)]) ⟨0,_,rfl,by omega,rfl,by simp⟩ ?_ ?_
  .rintro d r ls hd ⟨i,z1,er,hi,rfl,rfl⟩;obtain⟨m',hm'⟩:∃m,j-i=m+1:=by
    cases q:j-i with
    |zero=>rw[q]at er;cases er
    |succ m=>exact⟨m,rfl⟩
   rw[hm',AG]at er;obtain⟨rfl,rfl⟩:=List.cons.inj er;refine⟨[some (.im (.int (j:Int))),some (.im (.int (i:Int)))],rfl,B4 ?_⟩;rw[i9 rfl];refine BJ (A3 (A2 rfl (A3 (A2 rfl (A7 ⟨Fg,?_⟩)))));have pl:=Je j;have pl2:j*j<=8*8:=Nat.mul_le_mul (by omega) (by omega);refine D1 rfl (Bi (by simp;omega)) ?_;refine⟨AK _,i+1,_,by rw[show((i:Int)+1)=((i+1:Nat):Int) by omega,show m'=j-(i+1) by omega],by omega,rfl,?_⟩;rw[jl];simp[prD,AV,Ba]
  .rintro ls hd ⟨i,z1,er,hi,rfl,rfl⟩;have hi':i=j:=by
    cases q:j-i with
    |zero=>omega
    |succ m=>rw[q]at er;cases er
   subst hi';exact⟨AK _,i+1,_,_,by rw[show((i:Int)+1)=((i+1:Nat):Int) by omega,show m=ws.length-(i+1) by omega],by omega,rfl,rfl⟩
 .rintro ls hd ⟨j,z0,z1,er,hj,rfl,rfl⟩;have hj':j=ws.length:=by
   cases q:ws.length-j with
   |zero=>omega
   |succ m=>rw[q]at er;cases er
  subst hj';refine A5 ?_;refine AI (A9 (A2 rfl (C8 (Aq (Ef (A2 rfl ⟨2,_,rfl,rfl,?_⟩))))));have pl:=Je ws.length;have pl2:ws.length*ws.length<=8*8:=Nat.mul_le_mul (by omega) (by omega);refine⟨AY (by simp;omega),?_⟩;refine BQ prD (λp=>some (.im (.int (min (lf ws p.1*wf ws p.2) (lf ws p.2*wf ws p.1))))) (λ_ ls=>∃x y,ls=[some x,some y,some (.mu 1),some (.mu 0)]) _ (by intro p hp;simp at hp;subst hp;rfl) ?_ ?_
  .rintro p hp ls hls;obtain⟨h1,h2⟩:=RO _ p hp;have b1:=bO W h1;have b2:=bO W h2;refine⟨[some (.im (.int (p.1:Int))),some (.im (.int (p.2:Int))),some (.mu 1),some (.mu 0)],by rcases hls with rfl|⟨_,x,y,rfl⟩<;>rfl,⟨_,_,rfl⟩,B4 ⟨rfl,?_⟩⟩;rw[i9 rfl];refine⟨_,rfl,Ce (A3 (A9 (A9 (A2 rfl (A2 rfl (AR rfl (la _ h1) ?_))))))⟩;refine A9 (A2 rfl (A2 rfl (AR rfl (wa _ h2) (BP (BO (by omega) (by omega)) ?_))));refine A3 (A9 (A9 (A2 rfl (A2 rfl (AR rfl (la _ h2) ?_)))));refine A9 (A2 rfl (A2 rfl (AR rfl (wa _ h1) (BP (BO (by omega) (by omega)) (A7 (NJ ⟨rfl,rfl⟩))))))
  have e2:((prs ws.length).filterMap λp=>some (D.im (.int (min (lf ws p.1*wf ws p.2) (lf ws p.2*wf ws p.1)))))=intD ((prs ws.length).map λp=>min (lf ws p.1*wf ws p.2) (lf ws p.2*wf ws p.1)):=by simp[intD]
  rw[e2];refine⟨_,FJ _,C4 ?_⟩;rw[No (λx y=>min (lf ws x*wf ws y) (lf ws y*wf ws x)),<- hal];rfl
def Ie(c:Int)(ws:List (Int×Int)):((ws.map (wk c)).map Gw).map D.im=ws.map (wkD c):=by simp
def Ur{c:Int}{ws:List (Int×Int)}(W:WOk c ws):WF DZ [.im (Am c ws)] [] λd x=>d=.im (.int c):=by
 have n1:=W.n1;have n8:=W.n8;unfold DZ;refine Ak rfl ?_;refine AA (AO (AT (A3 (A2 rfl (A7 ⟨by simp,?_⟩)))));have S:WF D7 [.im (Am c ws)] [] λd x=>d=.im (.int c):=by
  unfold D7;refine Ak rfl ?_;refine AA (AO (A9 (A9 (A2 rfl (AD (AR rfl (E3 (k:=0) (by omega)) ?_))))));refine AD (AR rfl (Dq _ _ _) (A5 ?_));refine AA (Af (Az (C8 (Aq (C0 (A2 rfl ⟨_,rfl,?_⟩))))));rw[Ie];refine⟨AY (by simp;omega),?_⟩;refine BQ (wkD c) (λ_=>some (.im (.bl true))) (λ_ ls=>∃x,ls=[some x,some (.im (.int c))]) _ (AK _) ?_ ?_
  .rintro p hp ls hls;refine⟨[some (wkD c p),some (.im (.int c))],by rcases hls with rfl|⟨_,x,rfl⟩<;>rfl,⟨_,rfl⟩,B4 ⟨rfl,?_⟩⟩;rw[i9 rfl];refine⟨_,rfl,A9 (A9 (A2 rfl (AD (AR rfl (Dq _ _ _) (A2 rfl (FT ⟨rfl,?_⟩))))))⟩;simp
  have e:(ws.filterMap λ_=>some (D.im (.bl true)))=blD (ws.map λ_=>true):=by simp[blD]
  rw[e];refine⟨_,by rw[DE,Dp];rfl,_,rfl,?_⟩;refine⟨λ_=>?_,(λh=>by simp at h)⟩;exact AI (A2 rfl rfl)
 refine S.mono ?_;rintro d x rfl;refine⟨_,rfl,A5 ?_⟩;refine AA (Af (AQ ?_));refine WP.eq (z:=.im (.bl false)) (h:=[]) (by simp[Dk]) ⟨_,rfl,(λh=>by cases h),λ_=>AW (A5 ?_)⟩;exact AI (A2 rfl rfl)
def TW{c:Int}{ws:List (Int×Int)}(W:WOk c ws):WF Bn [.im (Am c ws),.im (.str "ends")] [] λd x=>d=.im .non:=by
 have n8:=W.n8;unfold Bn;refine Ak rfl ?_;refine Af (Az (C8 (Aq (C0 (A2 rfl ⟨_,rfl,?_⟩)))));rw[Ie];refine⟨AY (by simp;omega),?_⟩;refine BQ (wkD c) (λ_=>some (.im (.bl false))) (λ_ ls=>∃x,ls=[some x,some (.im (.str "ends"))]) _ (AK _) ?_ ?_
 .rintro p hp ls hls;refine⟨[some (wkD c p),some (.im (.str "ends"))],by rcases hls with rfl|⟨_,x,rfl⟩<;>rfl,⟨_,rfl⟩,B4 ⟨rfl,?_⟩⟩;rw[i9 rfl];refine⟨_,rfl,A9 (A9 (A9 (A2 rfl (AD (AR rfl (GG _ _ _ _) (AD (AR rfl (Cz _ _) (A2 rfl (LK ⟨rfl,?_⟩)))))))))⟩;simp
 have e:(ws.filterMap λ_=>some (D.im (.bl false)))=blD (ws.map λ_=>false):=by simp[blD]
 rw[e];refine⟨_,by rw[MX,Dp];rfl,_,rfl,?_⟩;exact⟨(λh=>by simp at h),λ_=>AW rfl⟩
def Ig{c:Int}{ws:List (Int×Int)}(W:WOk c ws):WF Bk [.im (Am c ws)] [] λd x=>d=.im (.int c):=by
 unfold Bk;refine Ak rfl ?_;refine AA (AO (AT (A3 (A2 rfl (A7 ⟨by simp,(Ur W).mono ?_⟩)))));rintro d x rfl;refine⟨_,rfl,A5 ?_⟩;refine AA (Cs (AT (A3 (A2 rfl (A3 (AD (A7 ⟨by simp,(TW W).mono ?_⟩)))))));rintro d x rfl;exact⟨_,rfl,A5 (AI (A2 rfl rfl))⟩
def So(c:Int)(p:Int×Int):WF E1 [wkD c p] [] λd x=>d=.im (.int p.2):=by
 unfold E1;refine Ak rfl ?_;refine AI (A9 (A9 (A2 rfl (AD (AR rfl (GG _ _ _ _) ?_)))));refine FV (AD ⟨_,rfl,?_⟩);refine AR (ds:=[.im (.str "ends"),.im (.int p.2)]) (e:=.im (.int p.2)) rfl ?_ rfl;rfl
def KA{F:FD}{m:MA}{ls:Ls}{hd:Hd}{QE:D->Hd->Prop}(h:WA m ls hd λds x=>Au 0 ds=true/\WF F ds [] λd _=>∃nm fs es,d=.op nm fs es/\Au 0 es=true/\QE d x):WE (A6 0 F m) ls hd QE:=by
 obtain⟨ds,x,e,c,d,y,e2,nm,fs,es,rfl,ce,q⟩:=h;refine⟨_,x,?_,q⟩;unfold A6;rw[e,bind_some];dsimp only;rw[i9 ⟨iT _,c,by simp⟩,List.take_zero,e2,bind_some];unfold fin;dsimp only;rw[i9 (by simp)];simp[clD,ce]
def VT{ls:Ls}{hd:Hd}{Q:Fl->Hd->Prop}(h:Q (.nx ls) hd):WS (DR Aa) ls hd Q:=LJ (AW ⟨(λd=>nofun),h⟩)
abbrev enD(q:D×Nat):D:=AV [.im (.int (q.2:Int)),q.1]
def KY{ds:List D}{j:Nat}{d:D}{r:List D}(h:d::r=((ds.drop j).zipIdx j).map enD):∃e,ds[j]?=some e/\d=enD (e,j)/\r=((ds.drop (j+1)).zipIdx (j+1)).map enD:=by
 cases q:ds[j]? with
 |none=>
  have:ds.length<=j:=List.getElem?_eq_none_iff.mp q;rw[List.drop_of_length_le this]at h;cases h
 |some e=>
  obtain⟨lt,rfl⟩:=List.getElem?_eq_some_iff.mp q;rw[ji lt,zipIdx_cons,iD]at h;obtain⟨rfl,rfl⟩:=List.cons.inj h;exact⟨_,rfl,rfl,rfl⟩
def Uk{ds:List D}{j:Nat}(h:[]=((ds.drop j).zipIdx j).map enD):ds.length<=j:=by
 by_cases lt:j<ds.length
 .rw[ji lt,zipIdx_cons,iD]at h;cases h
 .omega
def cP{a b j:Nat}{e:D}{ls:Ls}{hd:Hd}:Bb 2 (AU (AC a) (AU (AC b) Bg)) (enD (e,j)) ls hd=some ((ls.set a (some (.im (.int (j:Int))))).set b (some e)):=by
 unfold Bb enD;rw[Ko];rfl
def Ug:F_behind=Rw.F_behind:=rfl
inductive Good(n:Nat)(ps:List (Int×Int)):I->Prop
 |mk (a:Nat) (S:List Nat) (p q:Int):a<n->S.Pairwise (·<·)->(∀b∈S,b<n)->(∀b∈S,Rc ps (a:Int) (b:Int))->Rd p q->0<=p->Good n ps (.tup [.int (a:Int),AZ S,frI p q])
def Ev{n:Nat}{ps:List (Int×Int)}{x y z:I}(g:Good n ps (.tup [x,y,z])):Cb (n:Int) x=true/\E9 (n:Int) y=true/\Dm z=true/\∃a S p q,x=.int ((a:Nat):Int)/\y=AZ S/\z=frI p q/\0<=p/\∀b∈S,Rc ps (a:Int) ((b:Nat):Int):=by
 generalize ei:I.tup [x,y,z]=i at g;cases g with
 |mk a S p q h1 h2 h3 h4 h5 h6=>
  simp only[I.tup.injEq,List.cons.injEq,and_true]at ei;obtain⟨rfl,rfl,rfl⟩:=ei;exact⟨Nw h1,W8 h2 h3,YI h5,a,S,p,q,rfl,rfl,rfl,h6,h4⟩
def DI(ks:List Nat):(ks.map λk:Nat=>I.int (k:Int)).map D.im=AS ks:=by simp[AS]
def Xq{S S':List Nat}(h:AZ S=AZ S'):S=S':=by
 simp only[AZ,I.tup.injEq]at h;refine(List.map_inj_right (λa b e=>?_)).mp h;simp only[I.int.injEq]at e;omega
def O9{c:Int}{ws:List (Int×Int)}{ps:List (Int×Int)}(hp:ps.length<64){x y z:I}(hl:∀l,y=.tup l->l.length<=20):WF Db [.im (Am c ws),.im (Rw.wI ps),.im (.tup [x,y,z])] [] λd _=>(d=.im .non/\Good ws.length ps (.tup [x,y,z]))∨((∃w,d=.im (.str w))/\¬ Good ws.length ps (.tup [x,y,z])):=by
 unfold Db;refine Ak rfl ?_;have ln:∀hd,f1 true Ag [.im (Am c ws)] hd=some (.im (.int (ws.length:Int)),hd):=λhd=>by simp[f1,Ag]
 refine AA (Ia (A2 rfl ⟨[some (.im (Am c ws)),some (.im (Rw.wI ps)),some (.im (.tup [x,y,z])),some (.im x),some (.im y),some (.im z),none],rfl,A5 ?_⟩));refine AA (Af (C3 (Az (AT (A3 (Ce (A3 (A2 rfl (A7 (WP.eq (ln _) (A3 (A2 rfl (A7 ⟨by simp,(Rg _ x).mono ?_⟩)))))))))))));rintro d _ rfl;refine⟨_,rfl,_,rfl,?_⟩;by_cases hx:Cb (ws.length:Int) x=true
 case neg=>
  rw[Bool.eq_false_iff.mpr hx];exact⟨λ_=>AI (AD (Or.inr ⟨⟨_,rfl⟩,λg=>hx (Ev g).1⟩)),λh=>by cases h⟩
 rw[hx];refine⟨(λh=>by cases h),λ_=>AW (A5 ?_)⟩;refine AA (Af (C3 (Az (AT (A3 (Ce (A3 (A2 rfl (A7 (WP.eq (ln _) (A3 (A2 rfl (A7 ⟨by simp,(YC _ y hl).mono ?_⟩)))))))))))));rintro d _ rfl;refine⟨_,rfl,_,rfl,?_⟩;by_cases hy:E9 (ws.length:Int) y=true
 case neg=>
  rw[Bool.eq_false_iff.mpr hy];exact⟨λ_=>AI (AD (Or.inr ⟨⟨_,rfl⟩,λg=>hy (Ev g).2.1⟩)),λh=>by cases h⟩
 rw[hy];refine⟨(λh=>by cases h),λ_=>AW (A5 ?_)⟩;obtain⟨a,rfl,ha⟩:=Fa hx;obtain⟨S,rfl,pw,lt⟩:=W9 hy;have hS:S.length<=20:=by simpa using hl _ rfl
 obtain⟨found,g,eb,nd,mem⟩:=Rw.behind_eq hp (ws.length:Int) (a:Int);rw[<- Ug]at eb;refine AA (AO (AT (A3 (Ce (A3 (A2 rfl (A7 (WP.eq (ln _) (A3 (A2 rfl (A3 (A2 rfl (A7 ⟨by simp,WP.eq eb ⟨_,rfl,A5 ?_⟩⟩)))))))))))));refine AA (Af (C3 (Az (C8 (Aq (C0 (A2 rfl ⟨_,rfl,?_⟩)))))));rw[DI];refine⟨AY (by simp;omega),?_⟩;refine BQ (xs:=S) (λk:Nat=>D.im (.int (k:Int))) (λk=>some (.im (.bl (decide ((k:Int)∈BB found))))) (λ_ ls=>∃x,ls=[some x,some (.im (.tup ((BB found).map I.int)))]) _ (AK _) ?_ ?_
 .rintro k hk ls hls;refine⟨[some (.im (.int (k:Int))),some (.im (.tup ((BB found).map I.int)))],by rcases hls with rfl|⟨_,x,rfl⟩<;>rfl,⟨_,rfl⟩,B4 ⟨rfl,?_⟩⟩;rw[i9 rfl];exact⟨_,rfl,A9 (A2 rfl (A2 rfl (GO (xs:=BB found) (by simp[intD]) ⟨rfl,rfl⟩)))⟩
 rw[List.filterMap_eq_map',show(S.map λk:Nat=>D.im (.bl (decide ((k:Int)∈BB found))))=blD (S.map λk:Nat=>decide ((k:Int)∈BB found)) by simp[blD]];refine⟨_,by rw[DE,Dp];rfl,_,rfl,?_⟩;have iff:(S.map λk:Nat=>decide ((k:Int)∈BB found)).all id=true↔∀b∈S,Rc ps (a:Int) (b:Int):=by
  simp only[all_map,all_eq_true,Function.comp_apply,id,jt];exact⟨λh b hb=>(mem _).mp ((EL found).mem_iff.mp (h b hb)),λh b hb=>(EL found).mem_iff.mpr ((mem _).mpr (h b hb))⟩
 by_cases hb:(S.map λk:Nat=>decide ((k:Int)∈BB found)).all id=true
 case neg=>
  rw[Bool.eq_false_iff.mpr hb];refine⟨λ_=>AI (AD (Or.inr ⟨⟨_,rfl⟩,λg=>hb ?_⟩)),λh=>by cases h⟩;obtain⟨_,_,_,a',S',p,q,e1,e2,e3,_,h⟩:=Ev g;have e1:a=a':=by simp only[I.int.injEq]at e1;omega
  have e2:=Xq e2;subst e1;subst e2;exact iff.mpr h
 rw[hb];have hr:=iff.mp hb;refine⟨(λh=>by cases h),λ_=>AW (A5 ?_)⟩;refine AA (Af (Fq (C3 (Az (AT (A3 (A2 rfl (A7 ⟨by simp,(bV z).mono ?_⟩))))))));rintro d _ rfl;refine⟨_,rfl,_,rfl,?_⟩;by_cases hz:Dm z=true
 case neg=>
  rw[Bool.eq_false_iff.mpr hz,i9 (by simp)];exact⟨λ_=>AI (AD (Or.inr ⟨⟨_,rfl⟩,λg=>hz (Ev g).2.2.1⟩)),λh=>by cases h⟩
 rw[hz,ic (by simp)];obtain⟨p,q,rfl,rd⟩:=YJ hz;refine AQ (A9 (A9 (A2 rfl (AD (Uf (AD (EI ⟨_,rfl,?_⟩)))))));by_cases h0:p<0
 .rw[ja h0];refine⟨λ_=>AI (AD (Or.inr ⟨⟨_,rfl⟩,λg=>?_⟩)),λh=>by cases h⟩;obtain⟨_,_,_,a',S',p',q',e1,e2,e3,h,_⟩:=Ev g;have:p=p':=by simp at e3;exact e3.1
  omega
 .rw[iW h0];exact⟨(λh=>by cases h),λ_=>AW (A5 (AI (AD (Or.inl ⟨rfl,.mk a S p q ha pw lt hr rd (by omega)⟩))))⟩
def UR(f:Nat->Int)(B:List Nat):FO (B.map λk=>D.im (.int (f k)))=some (.im (.int (sm f B))):=by
 have:(B.map λk=>D.im (.int (f k)))=intD (B.map f):=by simp[intD]
 rw[this,FJ,Il]
def UN{c:Int}{ws:List (Int×Int)}{B:List Nat}(lt:∀k∈B,k<ws.length)(le:B.length<=8):WF E2 [.im (Am c ws),.im (AZ B)] [] λd x=>d=.im (.int (sm (lf ws) B)):=by
 unfold E2;refine Ak rfl ?_;refine AI (C8 (Aq (C0 (A2 rfl ⟨_,rfl,?_⟩))));rw[DI];refine⟨AY (by simp;omega),?_⟩;refine BQ (xs:=B) (λk:Nat=>D.im (.int (k:Int))) (λk=>some (.im (.int (lf ws k)))) (λ_ ls=>∃x,ls=[some x,some (.im (Am c ws))]) _ (AK _) ?_ ?_
 .rintro x hx ls hls;refine⟨[some (.im (.int (x:Int))),some (.im (Am c ws))],by rcases hls with rfl|⟨_,x,rfl⟩<;>rfl,⟨_,rfl⟩,B4 ⟨rfl,?_⟩⟩;rw[i9 rfl];exact⟨_,rfl,A9 (A9 (A2 rfl (A2 rfl (AR rfl (E3 (lt x hx)) (AD (AR rfl (Cz _ _) ⟨rfl,rfl⟩))))))⟩
 .rw[List.filterMap_eq_map'];exact⟨_,UR _ _,rfl⟩
theorem O8(l:Nat->Int)(x:Nat):∀S:List Nat,gn l (S++[x])=gn l S+l x*(sm l S+l x)
 |[]=>by simp[gn,Sm.sm]
 |k::r=>by
  rw[iY,gn,O8 l x r,HC,gn];simp only[Sm.sm,mul_add,jd (l x) (l k)];omega
def gl(l:Nat->Int)(S:List Nat):Nat->List Int
 |0=>[]
 |j+1=>gl l S j++(List.range (j+1)).map λi=>l (S.getD i 0)*l (S.getD j 0)
theorem NT(l:Nat->Int)(S:List Nat):∀j,j<=S.length->((List.range j).map λi=>l (S.getD i 0)).sum=sm l (S.take j)
 |0,_=>rfl
 |j+1,h=>by
  rw[jl,j6,List.sum_append,NT l S j (by omega),List.take_succ_eq_append_getElem (by omega),HC];simp[List.getD_eq_getElem?_getD,show j<S.length from by omega]
theorem NR(l:Nat->Int)(S:List Nat)(t:Int):∀L:List Nat,(L.map λi=>l (S.getD i 0)*t).sum=(L.map λi=>l (S.getD i 0)).sum*t
 |[]=>by simp
 |x::r=>by simp only[iD,List.sum_cons,NR l S t r,Int.add_mul]
theorem Rx(l:Nat->Int)(S:List Nat):∀j,j<=S.length->(gl l S j).sum=gn l (S.take j)
 |0,_=>rfl
 |j+1,h=>by
  have e:S.getD j 0=S[j]:=by simp[List.getD_eq_getElem?_getD,show j<S.length from by omega]
  rw[gl,List.sum_append,Rx l S j (by omega),NR,NT l S (j+1) h,List.take_succ_eq_append_getElem (by omega),O8,HC,e,jd]
theorem Ry(l:Nat->Int)(S:List Nat):∀j,(gl l S j).length<=j*10∨9<j
 |0=>.inl (by simp[gl])
 |j+1=>by
  rcases Ry l S j with h|h
  .by_cases q:j+1<=9
   .left;simp only[gl,iL,iu,List.length_range];omega
   .right;omega
  .right;omega
def bg{c:Int}{ws:List (Int×Int)}(W:WOk c ws){S:List Nat}(lt:∀k∈S,k<ws.length)(le:S.length<=8):WF JO [.im (Am c ws),.im (AZ S)] [] λd x=>d=.im (.int (gn (lf ws) S)):=by
 unfold JO;refine Ak rfl ?_;refine AA (AO (B7 (Aq (C0 (A2 rfl ⟨_,rfl,?_⟩)))));rw[DI];refine⟨AY (by simp;omega),?_⟩;refine BQ (xs:=S) (λk:Nat=>D.im (.int (k:Int))) (λk=>some (.im (.int (lf ws k)))) (λ_ ls=>∃x,ls=[some x,some (.im (Am c ws))]) _ (AK _) ?_ ?_
 .rintro x hx ls hls;refine⟨[some (.im (.int (x:Int))),some (.im (Am c ws))],by rcases hls with rfl|⟨_,x,rfl⟩<;>rfl,⟨_,rfl⟩,B4 ⟨rfl,?_⟩⟩;rw[i9 rfl];exact⟨_,rfl,A9 (A9 (A2 rfl (A2 rfl (AR rfl (E3 (lt x hx)) (AD (AR rfl (Cz _ _) ⟨rfl,rfl⟩))))))⟩
 rw[List.filterMap_eq_map',show(S.map λk=>D.im (.int (lf ws k)))=intD (S.map (lf ws)) by simp[intD]];have la:∀k,k<S.length->atI (intD (S.map (lf ws))) (k:Int)=some (.im (.int (lf ws (S.getD k 0)))):=λk hk=>Cr rfl (by simp[intD,hk,List.getD_eq_getElem?_getD]);have lb:∀k,k<S.length->1<=lf ws (S.getD k 0)/\lf ws (S.getD k 0)<=1000000:=λk hk=>by
  have e:S.getD k 0=S[k]:=by simp[List.getD_eq_getElem?_getD,hk]
  rw[e];have:=DV W (lt _ (List.getElem_mem hk));omega
 refine A5 ?_;change WS _ [some (.im (Am c ws)),some (.im (AZ S)),some (.mu 0)] [.lst (intD (S.map (lf ws)))] _;refine AI (Ce (A3 (LP (Cm (A3 (Ce (A3 (A2 rfl (A7 (F7 (ds:=intD (S.map (lf ws))) (z:=.im (.int (S.length:Int))) rfl (by simp[Ag]) ?_))))))))));refine A7 ⟨_,rfl,BC (by omega) (by omega),?_⟩;rw[iO];refine Gx (λr ls hd=>∃(j:Nat) (z0 z1:Option D),r=AG (j:Int) (S.length-j)/\j<=S.length/\ls=[z0,z1,some (.mu 0)]/\hd=[.lst (intD (S.map (lf ws))),.lst (intD (gl (lf ws) S j))]) ⟨0,none,none,rfl,by omega,rfl,rfl⟩ ?_ ?_
 .rintro d r ls hd ⟨j,z0,z1,er,hj,rfl,rfl⟩;obtain⟨m,hm⟩:∃m,S.length-j=m+1:=by
   cases q:S.length-j with
   |zero=>rw[q]at er;cases er
   |succ m=>exact⟨m,rfl⟩
  rw[hm,AG]at er;obtain⟨rfl,rfl⟩:=List.cons.inj er;refine⟨[some (.im (.int (j:Int))),z1,some (.mu 0)],rfl,B4 ?_⟩;rw[i9 rfl];refine Cm (A3 (A9 (A2 rfl (AD (C4 (A7 ⟨_,rfl,BC (by omega) (by omega),?_⟩))))));rw[show((j:Int)+1).toNat=j+1 by omega];have ll:=Ry (lf ws) S j;refine Gy (λr ls hd=>∃(i:Nat) (z1:Option D),r=AG (i:Int) (j+1-i)/\i<=j+1/\ls=[some (.im (.int (j:Int))),z1,some (.mu 0)]/\hd=[.lst (intD (S.map (lf ws))),.lst (intD (gl (lf ws) S j++(List.range i).map λi=>lf ws (S.getD i 0)*lf ws (S.getD j 0)))]) ⟨0,_,rfl,by omega,rfl,by simp⟩ ?_ ?_
  .rintro d r ls hd ⟨i,z1,er,hi,rfl,rfl⟩;obtain⟨m',hm'⟩:∃m,j+1-i=m+1:=by
    cases q:j+1-i with
    |zero=>rw[q]at er;cases er
    |succ m=>exact⟨m,rfl⟩
   rw[hm',AG]at er;obtain⟨rfl,rfl⟩:=List.cons.inj er;have b1:=lb i (by omega);refine⟨[some (.im (.int (j:Int))),some (.im (.int (i:Int))),some (.mu 0)],rfl,B4 ?_⟩;rw[i9 rfl];refine A9 (A9 (A2 rfl (A2 rfl (AR rfl (la i (by omega)) (A9 (A2 rfl (A2 rfl (AR rfl (la j (by omega)) (BP (BO (by omega) (by omega)) ?_)))))))));refine D1 rfl (Bi (by simp;omega)) ?_;refine⟨AK _,i+1,_,by rw[show((i:Int)+1)=((i+1:Nat):Int) by omega,show m'=j+1-(i+1) by omega],by omega,rfl,?_⟩;rw[jl];simp[intD]
  .rintro ls hd ⟨i,z1,er,hi,rfl,rfl⟩;have hi':i=j+1:=by
    cases q:j+1-i with
    |zero=>omega
    |succ m=>rw[q]at er;cases er
   subst hi';exact⟨AK _,j+1,_,_,by rw[show((j:Int)+1)=((j+1:Nat):Int) by omega,show m=S.length-(j+1) by omega],by omega,rfl,rfl⟩
 .rintro ls hd ⟨j,z0,z1,er,hj,rfl,rfl⟩;have hj':j=S.length:=by
   cases q:S.length-j with
   |zero=>omega
   |succ m=>rw[q]at er;cases er
  subst hj';refine A7 (F7 (ds:=intD (gl (lf ws) S S.length)) rfl (FJ _) ?_);show D.im _=_;rw[Rx _ _ _ (ig _),List.take_length]
open PySem L2 Bd Bt Sm An
structure Vd(n:Nat)(ps:List (Int×Int))(ks:List Nat):Prop where
 pm:ks.Perm (List.range n)
 kp:∀p∈ps,∃a b:Nat,p=((a:Int),(b:Int))/\a<n/\b<n/\ks.idxOf a<ks.idxOf b
def Vd.rc{n:Nat}{ps:List (Int×Int)}{ks:List Nat}(v:Vd n ps ks){x y:Int}(r:Rc ps x y):∃a b:Nat,x=(a:Int)/\y=(b:Int)/\a<n/\b<n/\ks.idxOf a<ks.idxOf b:=by
 induction r with
 |one e=>
  obtain⟨a,b,q,ha,hb,h⟩:=v.kp _ e;cases q;exact⟨a,b,rfl,rfl,ha,hb,h⟩
 |step _ e ih=>
  obtain⟨a,b,rfl,e2,ha,hb,h⟩:=ih;obtain⟨a',b',q,ha',hb',h'⟩:=v.kp _ e;cases q;have:b=a':=by omega
  subst this;exact⟨a,b',rfl,rfl,ha,hb',by omega⟩
def Vd.split{n:Nat}{ps:List (Int×Int)}{ks:List Nat}(v:Vd n ps ks){a:Nat}(ha:a<n){S:List Nat}(h:∀b∈S,Rc ps (a:Int) (b:Int)):∃pre post,ks=pre++a::post/\∀b∈S,b∈post:=by
 have ma:a∈ks:=v.pm.mem_iff.mpr (by simpa using ha);have nd:ks.Nodup:=v.pm.nodup_iff.mpr jv;have ia:ks.idxOf a<ks.length:=List.idxOf_lt_length_iff.mpr ma;refine⟨ks.take (ks.idxOf a),ks.drop (ks.idxOf a+1),?_,λb hb=>?_⟩
 .have e:ks[ks.idxOf a]=a:=List.getElem_idxOf ia
  conv=>lhs;rw[<- jF (ks.idxOf a) ks,ji ia,e]
 .obtain⟨a',b',e1,e2,_,hb',q⟩:=v.rc (h b hb);have e1:a=a':=by omega
  have e2:b=b':=by omega
  subst e1;subst e2;have mb:b∈ks:=v.pm.mem_iff.mpr (by simpa using hb');have ib:ks.idxOf b<ks.length:=List.idxOf_lt_length_iff.mpr mb;refine List.mem_iff_getElem.mpr ⟨ks.idxOf b-(ks.idxOf a+1),by rw[ju];omega,?_⟩;rw[List.getElem_drop];have:ks.idxOf a+1+(ks.idxOf b-(ks.idxOf a+1))=ks.idxOf b:=by omega
  simp only[this];exact List.getElem_idxOf ib
def Ph(l w:Nat->Int)(c:Int)(n:Nat)(ps:List (Int×Int))(B g:Int)(v:Nat->Int):Prop:=∀ks,Vd n ps ks->g+cst l v ks c 0<=B*cst l w ks c 0
theorem K1(l:Nat->Int){v v':Nat->Int}:∀(ks:List Nat) (e f:Int),(∀k∈ks,v k=v' k)->cst l v ks e f=cst l v' ks e f
 |[],_,_,_=>rfl
 |k::r,e,f,h=>by
  rw[cst,cst,h k (by simp),K1 l r _ _ λx hx=>h x (by simp[hx])]
def Ph.start(l w:Nat->Int)(c:Int)(n:Nat)(ps:List (Int×Int))(B:Int):Ph l w c n ps B 0 λk=>w k*B:=by
 intro ks _;have h:=K2 l (λ_=>0) w B ks c 0 0;have z:∀(ks:List Nat) (e:Int),cst l (λ_=>0) ks e 0=0:=by
  intro ks
  induction ks with
  |nil=>intro e;rfl
  |cons k r ih=>intro e;rw[cst,Int.zero_mul,Int.add_zero];exact ih _
 rw[z,Int.zero_add,Int.mul_zero]at h;have e:cst l (λk=>w k*B) ks c 0=cst l (λk=>0+B*w k) ks c 0:=K1 l ks _ _ λk _=>by rw[Int.zero_add,jd]
 rw[e,h];omega
def Ph.step{l w:Nat->Int}{c:Int}{n:Nat}{ps:List (Int×Int)}{B g:Int}{v v':Nat->Int}(P:Ph l w c n ps B g v)(hl:∀k,0<=l k){a:Nat}{S:List Nat}{t:Int}(t0:0<=t)(ha:a<n)(pw:S.Pairwise (·<·))(hr:∀b∈S,Rc ps (a:Int) (b:Int))(hv:∀k,k<n->a∉S->v' k=v k+t*pv l a S k):Ph l w c n ps B (g+t*gn l S) v':=by
 intro ks V;obtain⟨pre,post,rfl,hs⟩:=V.split ha hr;have nd:(pre++a::post).Nodup:=V.pm.nodup_iff.mpr jv;have nS:S.Nodup:=pw.imp λh=>by omega
 have na:a∉S:=λz=>(nodup_cons.mp (nodup_append.mp nd).2.1).1 (hs a z);have h1:=U3 l hl nS nd hs c;have h2:=P _ V;have h3:=K2 l v (pv l a S) t (pre++a::post) c 0 0;rw[Int.mul_zero,Int.add_zero]at h3;have e:cst l v' (pre++a::post) c 0=cst l (λk=>v k+t*pv l a S k) (pre++a::post) c 0:=K1 l _ _ _ λk hk=>hv k (by have:=V.pm.mem_iff.mp hk;simpa using this) na;rw[e,h3];have h4:t*cst l (pv l a S) (pre++a::post) c 0<=t*(- gn l S):=Int.mul_le_mul_of_nonneg_left h1 t0;rw[Int.mul_neg]at h4;omega
def Ph.fin{l w:Nat->Int}{c:Int}{n:Nat}{ps:List (Int×Int)}{B g:Int}{v:Nat->Int}(P:Ph l w c n ps B g v)(hB:0<B){p q:Int}(hq:0<q)(e:p*B=(g+FH l v c n)*q){ks:List Nat}(V:Vd n ps ks):p<=cst l w ks c 0*q:=by
 have h1:=UP l v c V.pm;have h2:=P ks V;have h3:(g+FH l v c n)*q<=(B*cst l w ks c 0)*q:=Int.mul_le_mul_of_nonneg_right (by omega) (by omega);rw[<- e]at h3;have h4:B*cst l w ks c 0*q=(cst l w ks c 0*q)*B:=by rw[jd B,mul_assoc,jd B q,mul_assoc]
 rw[h4]at h3;exact Int.le_of_mul_le_mul_right h3 hB
structure Ent where
 a:Nat
 S:List Nat
 p:Int
 q:Int
abbrev Cd(e:Ent):I:=.tup [.int (e.a:Int),AZ e.S,frI e.p e.q]
abbrev Dh(E:List Ent):I:=.tup (E.map Cd)
structure EOk(n:Nat)(ps:List (Int×Int))(e:Ent):Prop where
 a:e.a<n
 pw:e.S.Pairwise (·<·)
 lt:∀b∈e.S,b<n
 rc:∀b∈e.S,Rc ps (e.a:Int) (b:Int)
 rd:Rd e.p e.q
 p0:0<=e.p
def EOk.good{n:Nat}{ps:List (Int×Int)}{e:Ent}(h:EOk n ps e):Good n ps (Cd e):=.mk _ _ _ _ h.a h.pw h.lt h.rc h.rd h.p0
def J9{n:Nat}{o:List Nat}(h:o.Nodup)(h2:∀k∈o,k<n):o.length<=n:=by
 have:=List.Nodup.length_le_of_subset h (l₂:=List.range n) λk hk=>by simpa using h2 k hk
 simpa using this
def Ih{n:Nat}{S:List Nat}(pw:S.Pairwise (·<·))(lt:∀b∈S,b<n):S.length<=n:=by
 have nd:S.Nodup:=pw.imp λh=>by omega
 exact J9 nd lt
abbrev Lk(c:Int)(ws ps:List (Int×Int))(i:I)(z3 z4 z5:Option D):Ls:=[some (.im (Am c ws)),some (.im (Rw.wI ps)),some (.im i),z3,z4,z5]
def Yx{l:List I}(hl:l.length<=20){ls:Ls}(e:ls[2]?=some (some (.im (.tup l)))){QT:Bool->Hd->Prop}(q:QT (!l.all (CZ 3)) []):WT (mOr (CH (B9 (Cc .tuple (A0 2)))) (CH (B9 (BL DE (Ai 1 [] (BF (A0 2)) (AC 0) BM (A6 0 Bj (A1 (mC (.int 3)) (A1 (A0 0) A4)))))))) ls [] QT:=by
 refine Fq (C3 (Az (B8 (A2 e ⟨true,rfl,true,rfl,?_⟩))));rw[ic (by simp)];refine C3 (Az (C8 (Aq (C0 (A2 e ⟨_,rfl,AY (by simp;omega),?_⟩)))));refine BQ D.im (λe:I=>some (.im (.bl (CZ 3 e)))) (λ_ ls=>∃x,ls=[some x]) _ (AK _) ?_ ?_
 .rintro e he ls hls;refine⟨[some (.im e)],by rcases hls with rfl|⟨_,x,rfl⟩<;>rfl,⟨_,rfl⟩,B4 ⟨rfl,?_⟩⟩;rw[i9 rfl];refine⟨_,rfl,AT (A3 (AD (A3 (A2 rfl (A7 ⟨by simp,(NP 3 e).mono ?_⟩)))))⟩;rintro d x rfl;exact⟨_,rfl,rfl,rfl⟩
 rw[List.filterMap_eq_map',show(l.map λe=>D.im (.bl (CZ 3 e)))=blD (l.map (CZ 3)) by simp[blD]];refine⟨_,by rw[DE,Dp];rfl,_,rfl,?_⟩;have ea:(l.map (CZ 3)).all id=l.all (CZ 3):=by simp[all_map]
 rw[ea];exact q
def bM{c:Int}{ws ps:List (Int×Int)}(hp:ps.length<64)(n8:ws.length<=8){E:List Ent}(hE:E.length<=20)(gd:∀e∈E,EOk ws.length ps e):WF BX [.im (Am c ws),.im (Rw.wI ps),.im (Dh E)] [] λd x=>d=.im .non:=by
 unfold BX;refine Ak rfl ?_;change WS _ (Lk c ws ps (Dh E) none none none) [] _;refine AA (Af (Yx (l:=E.map Cd) (by simpa using hE) rfl ?_));have al:(E.map Cd).all (CZ 3)=true:=all_eq_true.mpr λi hi=>by
  obtain⟨e,_,rfl⟩:=mem_map.mp hi;rfl
 rw[al];refine⟨(λh=>by cases h),λ_=>AW (A5 ?_)⟩;refine BI (NL (C0 (A2 rfl ⟨(E.map Cd).map D.im,rfl,?_⟩)));change WP (B1 _ _ _ (((((E.map Cd).map D.im).drop 0).zipIdx 0).map enD) (Lk c ws ps (Dh E) none none none) []) _;refine B5 (λr ls x=>∃(j:Nat) (z3 z4 z5:Option D),r=((((E.map Cd).map D.im).drop j).zipIdx j).map enD/\ls=Lk c ws ps (Dh E) z3 z4 z5/\x=[]) ⟨0,none,none,none,rfl,rfl,rfl⟩ ?_ ?_
 .rintro d r ls x ⟨j,z3,z4,z5,er,rfl,rfl⟩;obtain⟨dj,ej,rfl,rfl⟩:=KY er;obtain⟨e,he,rfl⟩:∃e∈E,dj=.im (Cd e):=by
   have:=iH ej;rw[iF]at this;obtain⟨e,he,rfl⟩:=mem_map.mp this;exact⟨e,he,rfl⟩
  have g:=gd e he;have sl:=Ih g.pw g.lt;refine⟨Lk c ws ps (Dh E) (some (.im (.int (j:Int)))) (some (.im (Cd e))) z5,cP,?_⟩;refine AA (AO (AT (A3 (A2 rfl (A3 (A2 rfl (A3 (A2 rfl (A7 ⟨by simp,(O9 hp (λl q=>?_)).mono ?_⟩)))))))))
  .cases q;simp;omega
  rintro d x (⟨rfl,_⟩|⟨_,no⟩)
  .refine⟨_,rfl,A5 ?_⟩;refine Af (AQ (WP.eq (z:=.im (.bl false)) (h:=[]) (by simp[Dk]) ⟨_,rfl,(λh=>by cases h),λ_=>AW ⟨AK _,j+1,_,_,_,rfl,rfl,rfl⟩⟩))
  .exact absurd g.good no
 rintro ls x ⟨j,z3,z4,z5,er,rfl,rfl⟩;rfl
abbrev NoP(d:D):Prop:=∃p w,d=.op "NoPaper" ["path","word"] [.im (.tup p),.im (.str w)]
def bL{c:Int}{ws ps:List (Int×Int)}(hp:ps.length<64){i:I}(hl:∀l,i=.tup l->l.length<=20/\∀e∈l,∀m,e=.tup m->∀y∈m,∀k,y=.tup k->k.length<=20)(no:¬ ∃l,i=.tup l/\∀e∈l,Good ws.length ps e):WF Bu [.im (Am c ws),.im (Rw.wI ps),.im i] [] λd x=>NoP d:=by
 unfold Bu;refine Pz rfl ?_;change WS _ (Lk c ws ps i none none none) [] _;have rs:∀{Q:Fl->Hd->Prop},(∀d,NoP d->Q (.rt d) [])->WS (Co "NoPaper" ["path","word"] (A1 (Ae A4) (A1 (mC (.str "shape")) A4))) (Lk c ws ps i none none none) [] Q:=λq=>LI (A3 (BJ (A7 ⟨CA,A3 (AD (A7 ⟨rfl,q _ ⟨_,_,rfl⟩⟩))⟩)));by_cases ht:∃l,i=.tup l
 case neg=>
  have hn:isD .tuple [] (.im i)=some false:=by
   cases i with
   |tup l=>exact absurd ⟨l,rfl⟩ ht
   |_=>rfl
  refine AA (Af (Fq (C3 (Az (B8 (A2 rfl ⟨false,hn,false,rfl,?_⟩))))));rw[i9 (by simp)];exact⟨λ_=>rs λd h=>Ft ⟨d,rfl,h⟩,λh=>by cases h⟩
 obtain⟨l,rfl⟩:=ht;obtain⟨l20,lS⟩:=hl l rfl;refine AA (Af (Yx l20 rfl ?_));by_cases al:l.all (CZ 3)=true
 case neg=>
  rw[Bool.eq_false_iff.mpr al];exact⟨λ_=>rs λd h=>Ft ⟨d,rfl,h⟩,λh=>by cases h⟩
 rw[al];refine⟨(λh=>by cases h),λ_=>VT (A5 ?_)⟩;refine BI (NL (C0 (A2 rfl ⟨l.map D.im,rfl,?_⟩)));change WP (B1 _ _ _ ((((l.map D.im).drop 0).zipIdx 0).map enD) (Lk c ws ps (.tup l) none none none) []) _;refine B5 (λr ls x=>∃(j:Nat) (z3 z4 z5:Option D),r=(((l.map D.im).drop j).zipIdx j).map enD/\(∀e∈l.take j,Good ws.length ps e)/\ls=Lk c ws ps (.tup l) z3 z4 z5/\x=[]) ⟨0,none,none,none,rfl,by simp,rfl,rfl⟩ ?_ ?_
 .rintro d r ls x ⟨j,z3,z4,z5,er,gd,rfl,rfl⟩;obtain⟨dj,ej,rfl,rfl⟩:=KY er;obtain⟨e,ee,rfl⟩:∃e,l[j]?=some e/\dj=.im e:=by
   rw[List.getElem?_map]at ej;cases q:l[j]? with
   |none=>rw[q]at ej;cases ej
   |some e=>rw[q]at ej;cases ej;exact⟨e,rfl,rfl⟩
  have he:=iH ee;obtain⟨x,y,z,rfl⟩:=Sr (all_eq_true.mp al e he);refine⟨Lk c ws ps (.tup l) (some (.im (.int (j:Int)))) (some (.im (.tup [x,y,z]))) z5,cP,?_⟩;refine AA (LJ (AO (AT (A3 (A2 rfl (A3 (A2 rfl (A3 (A2 rfl (A7 ⟨by simp,(O9 hp (λk q=>lS _ he _ rfl y (by simp) k q)).mono ?_⟩))))))))));rintro d x (⟨rfl,g⟩|⟨⟨w,rfl⟩,no⟩)
  .refine⟨_,rfl,(λd=>nofun),A5 ?_⟩;refine Af (AQ (WP.eq (z:=.im (.bl false)) (h:=[]) (by simp[Dk]) ⟨_,rfl,(λh=>by cases h),λ_=>VT ⟨AK _,j+1,_,_,_,rfl,?_,rfl,rfl⟩⟩));intro e he;obtain⟨hj,ej'⟩:=List.getElem?_eq_some_iff.mp ee;rw[List.take_succ_eq_append_getElem hj,ej']at he;rcases mem_append.mp he with h|h
   .exact gd e h
   .rw[iB]at h;subst h;exact g
  .refine⟨_,rfl,(λd=>nofun),A5 ?_⟩;refine Af (AQ (WP.eq (z:=.im (.bl true)) (h:=[]) (by simp[Dk]) ⟨_,rfl,(λ_=>?_),λh=>by cases h⟩));exact LI (A3 (BJ (A3 (A2 rfl (A7 ⟨CT,A3 (A2 rfl (A7 ⟨rfl,_,rfl,_,_,rfl⟩))⟩)))))
 rintro ls x ⟨j,z3,z4,z5,er,gd,rfl,rfl⟩;have:=Uk er;rw[iu]at this;rw[jg this]at gd;exact absurd ⟨l,rfl,gd⟩ no
def bot:List Ent->Int
 |[]=>1
 |e::r=>e.q*bot r
theorem N1(e:Ent):∀E:List Ent,bot (E++[e])=bot E*e.q
 |[]=>by simp[bot]
 |x::r=>by rw[iY,bot,N1 e r,bot,mul_assoc]
theorem N0:∀{E:List Ent},(∀e∈E,Sz 24 e.q)->Sz (1+24*E.length) (bot E)
 |[],_=>by simp[bot,Sz]
 |e::r,h=>by
  have:=Sz.mul (h e (by simp)) (N0 (E:=r) λx hx=>h x (by simp[hx]));rw[bot];refine this.mono ?_;simp only[iM];omega
theorem OM:∀{E:List Ent},(∀e∈E,0<e.q)->0<bot E
 |[],_=>by decide
 |e::r,h=>by
  rw[bot];exact Int.mul_pos (h e (by simp)) (OM λx hx=>h x (by simp[hx]))
def cO{a b c:Nat}{e:Ent}{ls:Ls}{hd:Hd}:Bb 3 (AU (AC a) (AU (AC b) (AU (AC c) Bg))) (.im (Cd e)) ls hd=some (((ls.set a (some (.im (.int (e.a:Int))))).set b (some (.im (AZ e.S)))).set c (some (.im (frI e.p e.q)))):=rfl
def Uw{E:List Ent}(hE:E.length<=20)(hq:∀e∈E,Sz 24 e.q):WF Ck [.im (Dh E)] [] λd x=>d=.im (.int (bot E)):=by
 unfold Ck;refine Ak rfl ?_;refine AA (AO (AD (A5 ?_)));refine AA (BI (C0 (A2 rfl ⟨(E.map Cd).map D.im,rfl,?_⟩)));refine B5 (λr ls x=>∃(dn rest:List Ent) (z2 z3 z4:Option D),E=dn++rest/\r=(rest.map Cd).map D.im/\ls=[some (.im (Dh E)),some (.im (.int (bot dn))),z2,z3,z4]/\x=[]) ⟨[],E,none,none,none,rfl,rfl,rfl,rfl⟩ ?_ ?_
 .rintro d r ls x ⟨dn,rest,z2,z3,z4,e1,er,rfl,rfl⟩;cases rest with
  |nil=>cases er
  |cons e rest=>
   obtain⟨rfl,rfl⟩:=List.cons.inj er;refine⟨_,cO,?_⟩;have le:dn.length<=20:=by rw[e1]at hE;simp at hE;omega
   have s1:=(N0 (E:=dn) λx hx=>hq x (by rw[e1];simp[hx])).mono (k':=481) (by omega);refine Vq rfl (A9 (A2 rfl (AD (Ue ⟨_,rfl,b9 s1 (hq e (by rw[e1];simp)),AK _,dn++[e],rest,some (.im (.int (e.a:Int))),some (.im (AZ e.S)),some (.im (frI e.p e.q)),by simp[e1],rfl,?_,rfl⟩))));rw[N1];rfl
 rintro ls x ⟨dn,rest,z2,z3,z4,e1,er,rfl,rfl⟩;cases rest with
 |cons=>cases er
 |nil=>
  rw[iS]at e1;subst e1;exact A5 (AI (A2 rfl rfl))
def NH{mo mi me:ME}{f:Int->Int->Int}{ls:Ls}{hd:Hd}{QS:Fl->Hd->Prop}(h:WE mo ls hd λd x=>WE mi ls x λi y=>∃n k ds j v,d=.mu n/\i=.im (.int k)/\y[n]?=some (.lst ds)/\ixN ds.length k=some j/\ds[j]?=some (.im (.int v))/\WE me ls y λr z=>∃u ds',r=.im (.int u)/\z[n]?=some (.lst ds')/\ds'.length=ds.length/\QS (.nx ls) (z.set n (.lst (ds'.set j (.im (.int (f v u))))))):WS (G7 mo mi me f) ls hd QS:=by
 obtain⟨d,x,e1,i,y,e2,n,k,ds,j,v,rfl,rfl,e3,e4,e5,r,z,e6,u,ds',rfl,e7,e8,q⟩:=h;refine⟨_,_,?_,q⟩;unfold G7;simp only[e1,bind_some,e2,e3,e4,e5,e6,e7,e8,iE]
def Yd{i:Nat}{g:Int->Int->Int}{m:ME}{ls:Ls}{hd:Hd}{x:Int}{Q:Fl->Hd->Prop}(e:ls[i]?=some (some (.im (.int x))))(h:WE m ls hd λd y=>∃k,d=.im (.int k)/\Q (.nx (ls.set i (some (.im (.int (g x k)))))) y):WS (Gf i g m) ls hd Q:=by
 obtain⟨d,y,e1,k,rfl,q⟩:=h;exact⟨_,_,by unfold Gf;rw[e];simp only[e1,bind_some],q⟩
abbrev Dd(n:Nat)(v:Nat->Int):List D:=intD ((List.range n).map v)
def FY{n:Nat}{v:Nat->Int}{k:Nat}(hk:k<n):(Dd n v)[k]?=some (.im (.int (v k))):=by simp[intD,hk]
def EY(n:Nat)(v:Nat->Int):(Dd n v).length=n:=by simp[intD]
def NZ{n:Nat}{v:Nat->Int}{k:Nat}(hk:k<n)(x:Int):(Dd n v).set k (.im (.int x))=Dd n λi=>if i=k then x else v i:=by
 refine jj λi=>?_;by_cases hi:i<n
 .rw[List.getElem?_set,EY];by_cases q:k=i
  .subst q;rw[i9 rfl,i9 hk,FY hk,i9 rfl]
  .rw[ic q,FY hi,FY hi,ic λz=>q z.symm]
 .rw[List.getElem?_eq_none (by rw[List.length_set,EY];omega),List.getElem?_eq_none (by rw[EY];omega)]
def WW{n:Nat}{v v':Nat->Int}(h:∀k,k<n->v k=v' k):Dd n v=Dd n v':=by
 unfold Dd
 congr 1
 exact jk λk hk=>h k (by simpa using hk)
def Rq{n:Nat}{k:Nat}(hk:k<n):ixN n (k:Int)=some k:=by unfold ixN;rw[i9 (by omega),i9 (by omega)];simp
theorem Ol{c:Int}{ws:List (Int×Int)}(W:WOk c ws):∀(B:List Nat),(∀k∈B,k<ws.length)->0<=sm (lf ws) B/\sm (lf ws) B<=1000000*B.length
 |[],_=>by simp[Sm.sm]
 |x::r,h=>by
  have ih:=Ol W r λk hk=>h k (by simp[hk]);have:=DV W (h x (by simp));simp only[Sm.sm,iM];omega
theorem VY{c:Int}{ws:List (Int×Int)}(W:WOk c ws):∀(B:List Nat),(∀k∈B,k<ws.length)->B.length<=8->0<=gn (lf ws) B/\gn (lf ws) B<=1000000*9000000*B.length
 |[],_,_=>by simp[gn]
 |x::r,h,hl=>by
  have hl':r.length<=7:=by simp at hl;omega
  have ih:=VY W r (λk hk=>h k (by simp[hk])) (by omega);have s:=Ol W r λk hk=>h k (by simp[hk]);have b:=DV W (h x (by simp));have h1:0<=lf ws x*(lf ws x+sm (lf ws) r):=jw (by omega) (by omega);have h2:lf ws x*(lf ws x+sm (lf ws) r)<=1000000*9000000:=Int.mul_le_mul (by omega) (by omega) (by omega) (by omega);simp only[gn,iM];omega
def Rn{l l' w w':Nat->Int}(c:Int){n:Nat}(hl:∀k,k<n->l k=l' k)(hw:∀k,k<n->w k=w' k):FH l w c n=FH l' w' c n:=by
 unfold FH;have a:=Oj (f:=λk=>w k*(c+l k)) (g:=λk=>w' k*(c+l' k)) (ks:=List.range n) λk hk=>by
  have hk:k<n:=by simpa using hk
  simp only[hl k hk,hw k hk]
 have g:∀x∈List.range n,∀y∈List.range n,min (l x*w y) (l y*w x)=min (l' x*w' y) (l' y*w' x):=λx hx y hy=>by
  have hx:x<n:=by simpa using hx
  have hy:y<n:=by simpa using hy
  rw[hl x hx,hl y hy,hw x hx,hw y hy]
 have b:=LF (g:=λx y=>min (l x*w y) (l y*w x)) (h:=λx y=>min (l' x*w' y) (l' y*w' x)) (ks:=List.range n) λx hx y hy=>by rw[g x hx y hy];exact Int.le_refl _
 have b':=LF (h:=λx y=>min (l x*w y) (l y*w x)) (g:=λx y=>min (l' x*w' y) (l' y*w' x)) (ks:=List.range n) λx hx y hy=>by rw[g x hx y hy];exact Int.le_refl _
 omega
abbrev Pl(c:Int)(ws ps:List (Int×Int))(E:List Ent)(g:Int)(z7 z8 z9 z10 z11:Option D):Ls:=[some (.im (Am c ws)),some (.im (Rw.wI ps)),some (.im (Dh E)),some (.im (.int c)),some (.im (.int (bot E))),some (.mu 0),some (.im (.int g)),z7,z8,z9,z10,z11]
structure BE(e:Ent):Prop where
 p:e.p<=10000000
 q:e.q<=10000000
set_option maxHeartbeats 1000000 in
def U2{c:Int}{ws ps:List (Int×Int)}(W:WOk c ws)(hp:ps.length<64){E:List Ent}(hE:E.length<=20)(gd:∀e∈E,EOk ws.length ps e)(be:∀e∈E,BE e):WF Dr [.im (Am c ws),.im (Rw.wI ps),.im (Dh E)] [] λd x=>∃p q,d=.im (frI p q)/\0<q/\∀ks,Vd ws.length ps ks->p<=cst (lf ws) (wf ws) ks c 0*q:=by
 have n8:=W.n8;have l0:∀k,0<=lf ws k:=λk=>by have:=eV W k;omega
 have sq:∀e∈E,Sz 24 e.q:=λe he=>by
  have:=(be e he).q;have:=(gd e he).rd.q0;unfold Sz;omega
 have B0:=OM (E:=E) λe he=>(gd e he).rd.q0;have Bs:=(N0 sq).mono (k':=481) (by omega);unfold Dr;refine Ak rfl ?_;refine AA (AO (AT (A3 (A2 rfl (A7 ⟨by simp,(Ig W).mono ?_⟩)))));rintro d x rfl;refine⟨_,rfl,A5 ?_⟩;refine AA (Cs (AT (A3 (A2 rfl (A3 (A2 rfl (A3 (A2 rfl (A7 ⟨by simp,(bM hp n8 hE gd).mono ?_⟩)))))))));rintro d x rfl;refine⟨_,rfl,A5 ?_⟩;refine AA (AO (AT (A3 (A2 rfl (A7 ⟨by simp,(Uw hE sq).mono ?_⟩)))));rintro d x rfl;refine⟨_,rfl,A5 ?_⟩;refine AA (AO (B7 (Aq (C0 (A2 rfl ⟨_,rfl,?_⟩)))));rw[Ie];refine⟨AY (by simp;omega),?_⟩;refine BQ (wkD c) (λp=>some (.im (.int (p.2*bot E)))) (λ_ ls=>∃x,ls=[some x,some (.im (.int (bot E)))]) _ (AK _) ?_ ?_
 .rintro p hp ls hls;have b:=W.each p hp;refine⟨[some (wkD c p),some (.im (.int (bot E)))],by rcases hls with rfl|⟨_,x,rfl⟩<;>rfl,⟨_,rfl⟩,B4 ⟨rfl,?_⟩⟩;rw[i9 rfl];refine⟨_,rfl,A9 (AT (A3 (A2 rfl (A7 ⟨by simp,(So c p).mono ?_⟩))))⟩;rintro d x rfl;exact⟨_,rfl,A2 rfl (BP (BO (by omega) (by omega)) ⟨rfl,rfl⟩)⟩
 have e0:(ws.filterMap λp=>some (D.im (.int (p.2*bot E))))=Dd ws.length λk=>wf ws k*bot E:=by
  refine jj λi=>?_;by_cases hi:i<ws.length
  .rw[FY hi];simp[hi,wf]
  .rw[List.getElem?_eq_none (by simp;omega),List.getElem?_eq_none (by rw[EY];omega)]
 rw[e0];refine A5 (AA (AO (AD (A5 ?_))));change WS _ (Pl c ws ps E 0 none none none none none) [.lst (Dd ws.length λk=>wf ws k*bot E)] _;refine AA (BI (C0 (A2 rfl ⟨(E.map Cd).map D.im,rfl,?_⟩)));refine B5 (λr ls x=>∃(dn rest:List Ent) (g:Int) (v:Nat->Int) (z7 z8 z9 z10 z11:Option D),E=dn++rest/\r=(rest.map Cd).map D.im/\Ph (lf ws) (wf ws) c ws.length ps (bot E) g v/\ls=Pl c ws ps E g z7 z8 z9 z10 z11/\x=[.lst (Dd ws.length v)]) ⟨[],E,0,_,none,none,none,none,none,rfl,rfl,Ph.start _ _ _ _ _ _,rfl,rfl⟩ ?_ ?_
 .rintro d r ls x ⟨dn,rest,g,v,z7,z8,z9,z10,z11,e1,er,ph,rfl,rfl⟩;cases rest with
  |nil=>cases er
  |cons e rest=>
   obtain⟨rfl,rfl⟩:=List.cons.inj er;have he:e∈E:=by rw[e1];simp
   have G:=gd e he;have bE:=be e he;have q0:=G.rd.q0;have p0:=G.p0;have sl:=Ih G.pw G.lt;have bp:=bE.p;have bq:=bE.q;have sb:=Ol W e.S G.lt;have gb:=VY W e.S G.lt (by omega);obtain⟨t,ht⟩:∃t,t=e.p*(bot E/e.q):=⟨_,rfl⟩
   have t0:0<=t:=by rw[ht];exact jw p0 (Int.ediv_nonneg (by omega) (by omega))
   refine⟨Pl c ws ps E g (some (.im (.int (e.a:Int)))) (some (.im (AZ e.S))) (some (.im (frI e.p e.q))) z10 z11,cO,?_⟩;refine AA (AO (A9 (A9 (A2 rfl (AD (Uf (A9 (A2 rfl (A9 (A2 rfl (AD (Ue (JP (show GE e.q from⟨q0,by omega⟩) (BP (BO (by omega) (by omega)) (A5 ?_)))))))))))))));rw[<- ht];change WS _ (Pl c ws ps E g (some (.im (.int (e.a:Int)))) (some (.im (AZ e.S))) (some (.im (frI e.p e.q))) (some (.im (.int t))) z11) _ _;refine AA (Yd rfl (A9 (A2 rfl (AT (A3 (A2 rfl (A3 (A2 rfl (A7 ⟨by simp,(bg W G.lt (by omega)).mono ?_⟩)))))))));rintro d x rfl;refine⟨_,rfl,BP (.inr ⟨by omega,by omega⟩) ⟨_,rfl,A5 ?_⟩⟩;change WS _ (Pl c ws ps E (g+t*gn (lf ws) e.S) (some (.im (.int (e.a:Int)))) (some (.im (AZ e.S))) (some (.im (frI e.p e.q))) (some (.im (.int t))) z11) _ _;refine AA (NH (A2 rfl (A2 rfl ⟨0,_,_,e.a,_,rfl,rfl,rfl,by rw[EY];exact Rq G.a,FY G.a,A9 (A2 rfl (AT (A3 (A2 rfl (A3 (A2 rfl (A7 ⟨by simp,(UN G.lt (by omega)).mono ?_⟩)))))))⟩)));rintro d x rfl;refine⟨_,rfl,BP (Ny (by omega) (by omega)) ⟨_,_,rfl,rfl,rfl,A5 ?_⟩⟩;rw[NZ G.a];generalize hv1:(λi=>if i=e.a then v e.a+t*sm (lf ws) e.S else v i)=v1;refine BI (C0 (A2 rfl ⟨_,rfl,?_⟩));rw[DI];refine B5 (λr ls x=>∃(d1 r1:List Nat) (z11:Option D),e.S=d1++r1/\r=AS r1/\ls=Pl c ws ps E (g+t*gn (lf ws) e.S) (some (.im (.int (e.a:Int)))) (some (.im (AZ e.S))) (some (.im (frI e.p e.q))) (some (.im (.int t))) z11/\x=[.lst (Dd ws.length λk=>if k∈d1 then v1 k-t*lf ws k else v1 k)]) ⟨[],e.S,z11,rfl,rfl,rfl,by simp⟩ ?_ ?_
   .rintro d r ls x ⟨d1,r1,z11,es,er,rfl,rfl⟩;cases r1 with
    |nil=>cases er
    |cons b r1=>
     obtain⟨rfl,rfl⟩:=List.cons.inj er;have hb:b<ws.length:=G.lt b (by rw[es];simp);have lb:=DV W hb;have mb:∀i,Cg i (lf ws b):=λi=>Ny (by omega) (by omega);have nb:b∉d1:=λz=>by
      have:=G.pw;rw[es,List.pairwise_append]at this;have:=this.2.2 b z b (by simp);omega
     refine⟨Pl c ws ps E (g+t*gn (lf ws) e.S) (some (.im (.int (e.a:Int)))) (some (.im (AZ e.S))) (some (.im (frI e.p e.q))) (some (.im (.int t))) (some (.im (.int (b:Int)))),rfl,?_⟩;refine NH (A2 rfl (A2 rfl ⟨0,_,_,b,_,rfl,rfl,rfl,by rw[EY];exact Rq hb,FY hb,A9 (A2 rfl (A9 (A9 (A2 rfl (A2 rfl (AR rfl (E3 hb) (AD (AR rfl (Cz _ _) (BP (mb _) ⟨_,_,rfl,rfl,rfl,AK _,d1++[b],r1,_,by simp[es],rfl,rfl,?_⟩)))))))))⟩));rw[NZ hb];show [MO.lst _]=_
     congr 2
     refine WW λk hk=>?_;by_cases q:k=b
     .subst q;rw[i9 rfl,ic nb,i9 (by simp)]
     .rw[ic q];by_cases q2:k∈d1
      .rw[i9 q2,i9 (by simp[q2])]
      .rw[ic q2,ic (by simp[q2,q])]
   rintro ls x ⟨d1,r1,z11,es,er,rfl,rfl⟩;cases r1 with
   |cons=>cases er
   |nil=>
    rw[iS]at es;subst es;refine⟨AK _,dn++[e],rest,_,_,_,_,_,_,_,by simp[e1],rfl,ph.step l0 t0 G.a G.pw G.rc (λk hk na=>?_),rfl,rfl⟩;rw[<- hv1];unfold Sm.pv;dsimp only;by_cases ka:k=e.a
    .subst ka;rw[ic na,i9 rfl,i9 rfl]
    .rw[ic ka,ic ka];by_cases kS:k∈e.S
     .rw[i9 kS,i9 kS,Int.mul_neg];omega
     .rw[ic kS,ic kS];omega
 rintro ls x ⟨dn,rest,g,v,z7,z8,z9,z10,z11,e1,er,ph,rfl,rfl⟩;refine A5 ?_;refine AI (AT (A3 (A9 (A2 rfl (Hy (A3 (A2 rfl (A3 (B7 (Aq (C0 (A2 rfl ⟨_,rfl,?_⟩))))))))))));rw[Ie];refine⟨AY (by simp;omega),?_⟩;refine BQ (wkD c) (λp=>some (.im (.int p.1))) (λ_ ls=>∃x,ls=[some x]) _ (AK _) ?_ ?_
 .rintro p hp ls hls;refine⟨[some (wkD c p)],by rcases hls with rfl|⟨_,x,rfl⟩<;>rfl,⟨_,rfl⟩,B4 ⟨rfl,?_⟩⟩;rw[i9 rfl];exact⟨_,rfl,A9 (A2 rfl (AD (AR rfl (Cz _ _) ⟨rfl,rfl⟩)))⟩
 obtain⟨us,hus⟩:∃us:List (Int×Int),us=(List.range ws.length).map λk=>(lf ws k,v k):=⟨_,rfl⟩
 have ul:us.length=ws.length:=by rw[hus];simp
 have ua:∀k,k<ws.length->us[k]?=some (lf ws k,v k):=λk hk=>by rw[hus];simp[hk]
 have e2:(ws.filterMap λp=>some (D.im (.int p.1)))=intD (us.map (·.1)):=by
  refine jj λi=>?_;by_cases hi:i<ws.length
  .simp[intD,ua i hi,hi,lf]
  .rw[List.getElem?_eq_none (by simp;omega),List.getElem?_eq_none (by simp;omega)]
 have e3:Dd ws.length v=intD (us.map (·.2)):=by
  rw[hus];simp[Dd,intD]
 rw[e2,e3];refine A3 (A2 rfl (A7 ?_));have U:UOk us:=⟨by omega,λp hp=>by
  rw[hus]at hp;obtain⟨k,hk,rfl⟩:=mem_map.mp hp;have:=DV W (show k<ws.length by simpa using hk);exact⟨this.1,this.2.1⟩⟩
 refine(Ra W.c0 W.c1 U).mono ?_;rintro d x rfl;refine C4 (A3 (A2 rfl (A7 ⟨by simp,(PR (k:=481) (by decide) (by decide) (by omega) Bs).mono ?_⟩)));rintro d x ⟨p,q,rfl,rd,pe,_,_⟩;refine⟨_,rfl,p,q,rfl,rd.q0,λks V=>ph.fin B0 rd.q0 ?_ V⟩;rw[pe,ul,Rn (l':=lf ws) (w':=v) c (λk hk=>by simp[lf,ua k hk]) (λk hk=>by simp[wf,ua k hk])]
def leaf(B:Nat):I->Prop
 |.int i=>i.natAbs<=B
 |.bl _=>True
 |.non=>True
 |_=>False
def Lv(B L:Nat):Nat->I->Prop
 |0,i=>leaf B i
 |n+1,i=>leaf B i∨∃l,i=.tup l/\l.length<=L/\∀x∈l,Lv B L n x
def leaf.mono{B B':Nat}(h:B<=B'):∀{i:I},leaf B i->leaf B' i:=by
 intro i q;cases i<;>simp[leaf]at q ⊢;omega
theorem Lv.mono{B B' L L':Nat}(hB:B<=B')(hL:L<=L'):∀{n:Nat} {i:I},Lv B L n i->Lv B' L' n i
 |0,i,h=>leaf.mono hB h
 |n+1,i,h=>by
  rcases h with h|⟨l,rfl,h1,h2⟩
  .exact .inl (h.mono hB)
  .exact .inr ⟨l,rfl,by omega,λx hx=>Lv.mono hB hL (h2 x hx)⟩
theorem Lv.tup{B L n:Nat}{l:List I}(h:Lv B L n (.tup l)):l.length<=L/\∃m,n=m+1/\∀x∈l,Lv B L m x:=by
 cases n with
 |zero=>exact absurd h (by simp[Lv,leaf])
 |succ m=>
  rcases h with h|⟨l',e,h1,h2⟩
  .exact absurd h (by simp[leaf])
  .cases e;exact⟨h1,m,rfl,h2⟩
theorem Lv.int{B L:Nat}{i:Int}:∀{n:Nat},Lv B L n (.int i)->i.natAbs<=B
 |0,h=>h
 |n+1,h=>by
  rcases h with h|⟨l',e,h1,h2⟩
  .exact h
  .cases e
def O2{B L n:Nat}{i:I}(h:leaf B i):Lv B L n i:=by
 cases n with
 |zero=>exact h
 |succ n=>exact .inl h
theorem RY{n:Nat}{ps:List (Int×Int)}:∀{l:List I},(∀e∈l,Good n ps e)->∃E:List Ent,l=E.map Cd/\∀e∈E,EOk n ps e
 |[],_=>⟨[],rfl,by simp⟩
 |i::r,h=>by
  obtain⟨E,rfl,hE⟩:=RY (l:=r) λe he=>h e (by simp[he]);have g:=h i (by simp);cases g with
  |mk a S p q h1 h2 h3 h4 h5 h6=>
   refine⟨⟨a,S,p,q⟩::E,rfl,λe he=>?_⟩;rcases mem_cons.mp he with rfl|he
   .exact⟨h1,h2,h3,h4,h5,h6⟩
   .exact hE e he
def U1{c:Int}{ws ps:List (Int×Int)}(W:WOk c ws)(hp:ps.length<64){i:I}{k:Nat}(lv:Lv 10000000 20 k i)(no:¬ ∃l,i=.tup l/\∀e∈l,Good ws.length ps e):WF F1 [.im (Am c ws),.im (Rw.wI ps),.im i] [] λd x=>NoP d:=by
 unfold F1;refine Pz rfl ?_;refine AA (LJ (AO (AT (A3 (A2 rfl (A7 ⟨by simp,(Ig W).mono ?_⟩))))));rintro d x rfl;refine⟨_,rfl,(λd=>nofun),A5 ?_⟩;refine AA (NI (OD (GD EH)) (AI (KA (A3 (A2 rfl (A3 (A2 rfl (A3 (A2 rfl (A7 ⟨by simp,(bL hp (λl e=>?_) no).mono ?_⟩))))))))))
 .subst e;obtain⟨h1,m,rfl,h2⟩:=lv.tup;refine⟨h1,λe he l e2 y hy l' e3=>?_⟩;subst e2;obtain⟨_,m',rfl,h4⟩:=(h2 _ he).tup;subst e3;exact(h4 _ hy).tup.1
 rintro d x ⟨p,w,rfl⟩;exact⟨_,_,_,rfl,by simp,_,rfl,Ft ⟨_,rfl,p,w,rfl⟩⟩
def fC(c:Int)(ws ps:List (Int×Int))(i:I)(d:D):Prop:=(d=.im (.tup [.str "no"])/\¬ ∃l,i=.tup l/\∀e∈l,Good ws.length ps e)∨∃p q,d=.im (.tup [.str "told",frI p q])/\0<q/\∀ks,Vd ws.length ps ks->p<=cst (lf ws) (wf ws) ks c 0*q
def QB{c:Int}{ws ps:List (Int×Int)}(W:WOk c ws)(hp:ps.length<64){i:I}{k:Nat}(lv:Lv 10000000 20 k i):WF F5 [.im (Am c ws),.im (Rw.wI ps),.im i] [] λd x=>fC c ws ps i d:=by
 unfold F5;refine Ak rfl ?_;refine AA (AO (BJ (A3 (AD (A7 ⟨CT,A5 ?_⟩)))));by_cases g:∃l,i=.tup l/\∀e∈l,Good ws.length ps e
 .obtain⟨l,rfl,h⟩:=g;obtain⟨E,rfl,hE⟩:=RY h;obtain⟨h1,m,rfl,h2⟩:=lv.tup;have bE:∀e∈E,BE e:=λe he=>by
   obtain⟨_,m',rfl,h4⟩:=(h2 (Cd e) (mem_map.mpr ⟨e,he,rfl⟩)).tup;obtain⟨_,m'',rfl,h5⟩:=(h4 (frI e.p e.q) (by simp)).tup;have a:=(h5 (.int e.p) (by simp)).int;have b:=(h5 (.int e.q) (by simp)).int;exact⟨by omega,by omega⟩
  refine AA (Si (AO (BJ (A3 (AD (A3 (AT (A3 (A2 rfl (A3 (A2 rfl (A3 (A2 rfl (A7 ⟨by simp,(U2 W hp (by simpa using h1) hE bE).mono ?_⟩))))))))))))));rintro d x ⟨p,q,rfl,q0,h⟩;exact⟨_,rfl,A7 ⟨Fg,A5 (AI (A2 rfl (Or.inr ⟨p,q,rfl,q0,h⟩)))⟩⟩
 .refine AA (Sh (SG (SE (OC (KZ (Mr (GD Kb)))))) (NI (SE (OC (KZ (Mr (GD Kb))))) (AI (Vu (AD (KA (A3 (A2 rfl (A3 (A2 rfl (A3 (A2 rfl (A7 ⟨by simp,(U1 W hp lv g).mono ?_⟩)))))))))))));rintro d x ⟨p,w,rfl⟩;refine⟨_,_,_,rfl,by simp,_,rfl,_,_,_,rfl,by simp,?_⟩;exact AO (BJ (A3 (AD (A7 ⟨CT,_,rfl,A5 (AI (A2 rfl (Or.inl ⟨rfl,g⟩)))⟩))))
def Vo{i j k:Nat}{m:MA}{ls:Ls}{hd:Hd}{QS:Fl->Hd->Prop}(h:WA m ls hd λds x=>∃d1 d2 d3,ds=[d1,d2,d3]/\QS (.nx (((ls.set k (some d3)).set j (some d2)).set i (some d1))) x):WS (HL i j k m) ls hd QS:=by
 obtain⟨ds,x,e,d1,d2,d3,rfl,q⟩:=h;exact⟨_,_,by simp[HL,CG,e],q⟩
abbrev cs(q:Nat×Nat):Int×Int:=((q.1:Int),(q.2:Int))
def Al(seq:List Nat)(P:List (Nat×Nat)):Prop:=∀q∈P,∃i j:Nat,i<j/\seq[i]?=some q.1/\seq[j]?=some q.2
def JD{seq:List Nat}(nd:seq.Nodup){j v:Nat}(e:seq[j]?=some v):seq.idxOf v=j:=by
 obtain⟨hj,rfl⟩:=List.getElem?_eq_some_iff.mp e;exact nd.idxOf_getElem j hj
def Yt(P:List (Nat×Nat)):∃P':List (Nat×Nat),P'.Perm P/\EK (P.map cs)=P'.map cs:=by
 refine⟨(EK (P.map cs)).map λp=>(p.1.toNat,p.2.toNat),?_,?_⟩
 .have:=(EJ (P.map cs)).map λp:Int×Int=>(p.1.toNat,p.2.toNat)
  refine this.trans ?_;rw[iF];have e:P.map ((λp:Int×Int=>(p.1.toNat,p.2.toNat)) ∘ cs)=P:=by
   conv=>rhs;rw[<- map_id P]
   exact jk λq _=>by simp[cs]
  rw[e]
 .rw[iF]
  conv=>lhs;rw[<- map_id (EK (P.map cs))]
  refine jk λp hp=>?_;obtain⟨q,_,rfl⟩:=mem_map.mp ((EJ _).mem_iff.mp hp);simp[cs]
inductive I_d1(n:Nat)(r:List D)(ls:Ls)(hd:Hd):Prop
 |mk (left seq:List Nat) (k:Nat) (a b:MO) (z:Option D) (er:r=AG (k:Int) (n-k)) (hk:k<=n) (el:ls=[some (.mu 1),some (.im (.int (n:Int))),some (.mu 2),some (.mu 3),some (.mu 4),z,none,none,none]) (eh:hd=[a,b,.lst (AS left),.lst (AS seq),.lst []]) (hT:T 0 a b) (ll:left.length=n-k) (pm:(seq++left).Perm (List.range n)):I_d1 n r ls hd
abbrev Lw(n:Nat)(w:Int)(z5 z7 z8:Option D):Ls:=[some (.mu 1),some (.im (.int (n:Int))),some (.mu 2),some (.mu 3),some (.mu 4),z5,some (.im (.int w)),z7,z8]
abbrev Hw(a b:MO)(seq:List Nat)(P:List (Nat×Nat)):Hd:=[a,b,.lst [],.lst (AS seq),.lst ((P.map cs).map Ar)]
inductive I_d2(n:Nat)(seq:List Nat)(w:Int)(z5:Option D)(r:List D)(ls:Ls)(hd:Hd):Prop
 |mk (P:List (Nat×Nat)) (k:Nat) (a b:MO) (z7 z8:Option D) (er:r=AG (k:Int) (n-k)) (hk:k<=n) (el:ls=Lw n w z5 z7 z8) (eh:hd=Hw a b seq P) (hT:T 0 a b) (pl:P.length<=16) (al:Al seq P):I_d2 n seq w z5 r ls hd
inductive I_d3(n i:Nat)(seq:List Nat)(w:Int)(z5:Option D)(r:List D)(ls:Ls)(hd:Hd):Prop
 |mk (P:List (Nat×Nat)) (k:Nat) (a b:MO) (z8:Option D) (er:r=AG (k:Int) (i-k)) (hk:k<=i) (el:ls=Lw n w z5 (some (.im (.int (i:Int)))) z8) (eh:hd=Hw a b seq P) (hT:T 0 a b) (pl:P.length<=16) (al:Al seq P):I_d3 n i seq w z5 r ls hd
def J5{L:List Nat}{k v:Nat}(e:L[k]?=some v):atI (AS L) (k:Int)=some (.im (.int (v:Int))):=Cr rfl (by simp[AS,e])
structure Wsh(n:Nat)(seq:List Nat)(P:List (Nat×Nat)):Prop where
 pm:seq.Perm (List.range n)
 al:Al seq P
 le:P.length<=16
set_option maxHeartbeats 1000000 in
def Sl{n:Nat}(n1:1<=n)(n8:n<=8)(a b:MO)(hT:T 0 a b):WF F4 [.mu 1,.im (.int (n:Int))] [a,b] λd x=>∃i a' b' g,d=.im i/\(∃seq P,i=Rw.wI (P.map cs)/\Wsh n seq P)/\T 0 a' b'/\x=a'::b'::g:=by
 unfold F4;refine Ak rfl ?_;refine AA (Vo (A3 (B7 (Vy rfl (TL (by omega) (by omega)) (A3 (B7 (C9 (A7 ⟨CA,A3 (B7 (C9 (A7 ⟨CA,A7 ⟨_,_,_,rfl,?_⟩⟩)))⟩))))))));refine A5 ?_;rw[iO,Ix];refine AA (BI (Cm (A3 (A2 rfl (A7 ⟨_,rfl,BC (by omega) (by omega),?_⟩)))));rw[iO];refine B5 (I_d1 n) (.mk (List.range n) [] 0 a b none (by simp) (by omega) rfl rfl hT (by simp) (by simp)) ?_ ?_
 .intro d r ls hd hI;obtain⟨left,seq,j,a,b,z,er,hj,rfl,rfl,hT,ll,pm⟩:=hI;obtain⟨m,hm⟩:∃m,n-j=m+1:=by
   cases q:n-j with
   |zero=>rw[q]at er;cases er
   |succ m=>exact⟨m,rfl⟩
  rw[hm,AG]at er;obtain⟨rfl,rfl⟩:=List.cons.inj er;have ej:((j:Int)+1)=((j+1:Nat):Int):=by omega
  have em:m=n-(j+1):=by omega
  have sl:seq.length+left.length=n:=by simpa using pm.length_eq
  refine⟨_,rfl,?_⟩;dsimp only[set_cons_zero,set_cons_succ]
  repeat sizeOf_list_dec
  refine tap.draw (many:=(left.length:Int)) (rest:=[.lst (AS left),.lst (AS seq),.lst []]) (n:=0) hT (by simp[Ag]) (by omega) (by omega) λr a b hT pr qr=>?_
  repeat sizeOf_list_dec
  have hr:r.toNat<left.length:=by omega
  have e1:left[r.toNat]?=some left[r.toNat]:=by simp[hr]
  refine Sk rfl (BC (by omega) (by omega)) (YA (n:=(AS left).length) pr (by simp;omega)) (by simp[e1];rfl) ?_
  repeat sizeOf_list_dec
  refine D1 rfl (Bi (by simp;omega)) ?_;have er2:(AS left).eraseIdx r.toNat=AS (left.eraseIdx r.toNat):=KW _ _ _;have es:AS seq++[D.im (.int ((left[r.toNat]:Nat):Int))]=AS (seq++[left[r.toNat]]):=by simp[AS]
  refine⟨AK _,.mk (left.eraseIdx r.toNat) (seq++[left[r.toNat]]) (j+1) a b _ (by rw[ej,em]) (by omega) rfl ?_ hT (by rw[List.length_eraseIdx,i9 hr];omega) ((RX e1).trans pm)⟩;rw[<- er2,<- es];rfl
 .intro ls hd hI;obtain⟨left,seq,j,a,b,z,er,hj,rfl,rfl,hT,ll,pm⟩:=hI;have hj':j=n:=by
   cases q:n-j with
   |zero=>omega
   |succ m=>rw[q]at er;cases er
  have l0:left=[]:=List.length_eq_zero_iff.mp (by omega);subst l0;rw[iS]at pm;have sl:seq.length=n:=by simpa using pm.length_eq
  have sin:∀{i:Nat} (hi:i<seq.length),seq[i]<n:=λhi=>by simpa using pm.mem_iff.mp (List.getElem_mem hi)
  repeat sizeOf_list_dec
  refine tap.draw (n:=0) (rest:=[.lst [],.lst (AS seq),.lst []]) hT rfl (by decide) (by decide) λw a b hT pw qw=>?_;refine C4 (A5 (AA (BI (Cm (A3 (A2 rfl (A7 ⟨_,rfl,BC (by omega) (by omega),?_⟩)))))));rw[iO];refine B5 (I_d2 n seq (2+w) z) (.mk [] 0 a b none none rfl (by omega) rfl rfl hT (by simp) (by intro q hq;cases hq)) ?_ ?_
  .intro d r ls hd hI;obtain⟨P,j,a,b,z7,z8,er,hj,rfl,rfl,hT,pl,al⟩:=hI;obtain⟨m,hm⟩:∃m,n-j=m+1:=by
    cases q:n-j with
    |zero=>rw[q]at er;cases er
    |succ m=>exact⟨m,rfl⟩
   rw[hm,AG]at er;obtain⟨rfl,rfl⟩:=List.cons.inj er;refine⟨Lw n (2+w) z (some (.im (.int (j:Int)))) z8,rfl,?_⟩;refine BI (Cm (A3 (A2 rfl (A7 ⟨_,rfl,BC (by omega) (by omega),?_⟩))));rw[iO];refine B5 (I_d3 n j seq (2+w) z) (.mk P 0 a b _ rfl (by omega) rfl rfl hT pl al) ?_ ?_
   .intro d r ls hd hI;obtain⟨P,k,a,b,z8,er,hk,rfl,rfl,hT,pl,al⟩:=hI;obtain⟨m',hm'⟩:∃m,j-k=m+1:=by
     cases q:j-k with
     |zero=>rw[q]at er;cases er
     |succ m=>exact⟨m,rfl⟩
    rw[hm',AG]at er;obtain⟨rfl,rfl⟩:=List.cons.inj er;have ek:((k:Int)+1)=((k+1:Nat):Int):=by omega
    have em':m'=j-(k+1):=by omega
    have hjs:j<seq.length:=by omega
    have hks:k<seq.length:=by omega
    refine⟨Lw n (2+w) z (some (.im (.int (j:Int)))) (some (.im (.int (k:Int)))),rfl,?_⟩;have go:∀{QQ:Fl->Hd->Prop} a b,T 0 a b->(Gz [] (I_d3 n j seq (2+w) z (AG ((k:Int)+1) m')) QQ) (.nx (Lw n (2+w) z (some (.im (.int (j:Int)))) (some (.im (.int (k:Int)))))) (Hw a b seq P):=λa b hT=>⟨AK _,.mk P (k+1) a b _ (by rw[ek,em']) (by omega) rfl rfl hT pl al⟩
    refine Af (D0 (AQ (A9 (Ce (A3 (A2 rfl (A7 (F7 (ds:=(P.map cs).map Ar) (z:=.im (.int (P.length:Int))) rfl (by simp[Ag]) (AD (EI ⟨_,rfl,?_⟩))))))))));by_cases h16:(P.length:Int)<16
    .rw[i9 (by simpa using h16)];refine AQ (A9 ?_);refine tap.draw (n:=0) (many:=2+w) (rest:=[.lst [],.lst (AS seq),.lst ((P.map cs).map Ar)]) hT rfl (by omega) (by omega) λr1 a b hT pr1 qr1=>?_;refine AD (FT ⟨_,rfl,λ_=>?_,λ_=>AW (go a b hT)⟩);refine Cs (F9 (A2 rfl ⟨⟨_,rfl⟩,A3 (BJ (A3 (A9 (A2 rfl (A2 rfl (AR rfl (J5 (List.getElem?_eq_getElem hks)) (A3 (A9 (A2 rfl (A2 rfl (AR rfl (J5 (List.getElem?_eq_getElem hjs)) (A7 ⟨Fg,A7 ?_⟩))))))))))))⟩));refine D1 rfl (Bi (by simp;omega)) ⟨AK _,.mk (P++[(seq[k],seq[j])]) (k+1) a b _ (by rw[ek,em']) (by omega) rfl ?_ hT (by simp;omega) ?_⟩
     .simp[AV,Ba,Ar]
     .intro q hq;rcases mem_append.mp hq with h|h
      .exact al q h
      .rw[iB]at h;subst h;exact⟨k,j,by omega,by simp,by simp⟩
    .rw[ic (by simpa using h16)];exact⟨(λh=>by cases h),λ_=>AW (go a b hT)⟩
   .intro ls hd hI;obtain⟨P,k,a,b,z8,er,hk,rfl,rfl,hT,pl,al⟩:=hI;exact⟨AK _,.mk P (j+1) a b _ _ (by rw[show((j:Int)+1)=((j+1:Nat):Int) by omega,show m=n-(j+1) by omega]) (by omega) rfl rfl hT pl al⟩
  .intro ls hd hI;obtain⟨P,j,a,b,z7,z8,er,hj,rfl,rfl,hT,pl,al⟩:=hI;obtain⟨P',pp,eP⟩:=Yt P;have c64:(P.map cs).length<64/\∀q∈P.map cs,pok q:=by
    refine⟨by simp;omega,λq hq=>?_⟩;obtain⟨q,hq',rfl⟩:=mem_map.mp hq;obtain⟨i,k,_,e1,e2⟩:=al q hq';have h1:q.1<n:=by simpa using pm.mem_iff.mp (iH e1)
    have h2:q.2<n:=by simpa using pm.mem_iff.mp (iH e2)
    exact⟨by show -1000000000<=(q.1:Int);omega,by show(q.1:Int)<=1000000000;omega,by show -1000000000<=(q.2:Int);omega,by show(q.2:Int)<=1000000000;omega⟩
   refine A5 (AI (C8 ?_));refine WP.eq (z:=(EK (P.map cs)).map Ar) (h:=Hw a b seq P) ?_ ?_
   .simp only[PU,Mi,DX,List.getElem?_cons_succ,List.getElem?_cons_zero,bind_some,P3];rw[i9 c64]
   .refine⟨_,rfl,Rw.wI (P'.map cs),a,b,_,?_,⟨seq,P',rfl,pm,(λq hq=>al q (pp.mem_iff.mp hq)),by rw[pp.length_eq];exact pl⟩,hT,rfl⟩;rw[eP,<- Rw.pairs_im,BU]
theorem JJ:∀ns:List Int,PyData.depthAll (ns.map PyData.int)=0
 |[]=>by simp[PyData.depthAll]
 |n::r=>by simp[PyData.depthAll,PyData.depth,JJ r]
def MW(ns:List Int):(PyData.list (ns.map PyData.int)).canLay0=true:=by
 rw[PyData.canLay0]
 induction ns with
 |nil=>rfl
 |cons x r ih=>simp[PyData.canLayAll0,PyData.canLay0]at ih ⊢;try exact ih
theorem Mm:∀as bs:List Int,PyData.eqvAll (as.map PyData.int) (bs.map PyData.int)=decide (as=bs)
 |[],[]=>by simp[PyData.eqvAll]
 |[],b::r=>by simp[PyData.eqvAll]
 |a::r,[]=>by simp[PyData.eqvAll]
 |a::r,b::s=>by
  have ih:=Mm r s;simp only[iD,PyData.eqvAll,PyData.eqv,ih];by_cases h:a=b
  .subst h;simp
  .simp[h]
def Vw{ma:ME}{ml:MA}{ls:Ls}{hd:Hd}{QE:D->Hd->Prop}(h:WE ma ls hd λd x=>WA ml ls x λds y=>∃as bs:List Int,pyD y d=some (.list (as.map PyData.int))/\ds=intD bs/\QE (.im (.bl (!decide (as=bs)))) y):WE (DS true ma ml) ls hd QE:=by
 obtain⟨d,x,e1,ds,y,e2,as,bs,e3,rfl,q⟩:=h;refine⟨_,y,?_,q⟩;unfold DS;rw[e1];simp only[bind_some,e2,e3];simp only[intD,Cu,bind_some,DD];unfold Jv;rw[i9 ⟨MW as,MW bs,by simp[PyData.depth,JJ]⟩];simp[PyData.eqv,Mm]
def Q1{F:List D->Hd->Option (D×Hd)}{m:MA}{ls:Ls}{hd:Hd}{QE:D->Hd->Prop}(h:WA m ls hd λds rest=>Au 0 ds=true/\WF F ds [] λd x=>∃k es,d=.mu k/\x[k]?=some (.lst es)/\Au 0 es=true/\QE (.mu rest.length) (rest++[.lst es])):WE (A6 0 F m) ls hd QE:=by
 obtain⟨ds,rest,e,hc,d,x,e2,k,es,rfl,e3,c3,q⟩:=h;refine⟨_,_,?_,q⟩;have t3:¬ k<0:=by omega
 simp only[A6,e,bind_some,List.take_zero,hc,e2,fin,ic t3,e3,c3,iE];simp
def Yk{ma mb:ME}{ls:Ls}{hd:Hd}{QA:List D->Hd->Prop}(h:WE ma ls hd λd x=>WE mb ls x λe y=>∃i j xs ys,d=.mu i/\e=.mu j/\y[i]?=some (.lst xs)/\y[j]?=some (.lst ys)/\CC (xs.length+ys.length)/\QA (xs++ys) y):WA (Jn ma mb) ls hd QA:=by
 obtain⟨d,x,e1,e,y,e2,i,j,xs,ys,rfl,rfl,e3,e4,c,q⟩:=h;exact⟨_,_,by simp only[Jn,e1,bind_some,e2,e3,e4,c,iE],q⟩
def Q3{mi:MI}{ls:Ls}{hd:Hd}{QA:List D->Hd->Prop}(h:WI mi ls hd λp x=>∃ns:List Int,p.1=intD ns/\ns.length<64/\QA (intD (BB ns)) x):WA (CW mi) ls hd QA:=by
 obtain⟨p,x,e,ns,e1,hl,q⟩:=h;have:B3 (intD ns)=some ns:=by
  clear hl q e1
  induction ns with
  |nil=>rfl
  |cons n r ih=>simp[intD]at ih ⊢
 refine⟨_,_,?_,q⟩;simp only[CW,e,bind_some,e1,this,hl,iE]
def Ye{hd:Hd}{k:Nat}{ds:List D}{z:D}{QE:D->Hd->Prop}(e:hd[k]?=some (.lst (ds++[z])))(q:QE z (hd.set k (.lst ds))):WP (Ex (.mu k) [] hd) QE:=by
 refine⟨z,_,?_,q⟩;simp only[Ex,e];simp
inductive I_b(n:Nat)(ps:List (Int×Int))(a:Int)(m:Nat)(ls:Ls)(hd:Hd):Prop
 |mk (fd:List Nat) (mr:List Int) (z4 z5 z6:Option D) (m17:m<=17) (em:m=2*(n-fd.length)+mr.length) (el:ls=[some (.im (Rw.wI ps)),some (.im (.int a)),some (.mu 0),some (.mu 1),z4,z5,z6]) (eh:hd=[.lst (AS fd),.lst (intD mr)]) (nd:fd.Nodup) (lt:∀x∈fd,x<n) (rc:∀x∈fd,Rc ps a (x:Int)) (rm:∀x∈mr,x=a∨Rc ps a x):I_b n ps a m ls hd
inductive I_f(n:Nat)(ps:List (Int×Int))(a here:Int)(m:Nat)(r:List D)(ls:Ls)(hd:Hd):Prop
 |mk (fd:List Nat) (mr:List Int) (rest:List (Int×Int)) (z5 z6:Option D) (er:r=rest.map Ar) (sub:∀p∈rest,p∈ps) (em:2*(n-fd.length)+mr.length<=m) (el:ls=[some (.im (Rw.wI ps)),some (.im (.int a)),some (.mu 0),some (.mu 1),some (.im (.int here)),z5,z6]) (eh:hd=[.lst (AS fd),.lst (intD mr)]) (nd:fd.Nodup) (lt:∀x∈fd,x<n) (rc:∀x∈fd,Rc ps a (x:Int)) (rm:∀x∈mr,x=a∨Rc ps a x):I_f n ps a here m r ls hd
def Ji(L:List Nat):AS L=intD (L.map λk:Nat=>(k:Int)):=by simp[AS,intD]
def UF(L:List Nat)(x:Nat):((x:Int)∈L.map λk:Nat=>(k:Int))↔x∈L:=by
 constructor
 .intro h;obtain⟨k,hk,e⟩:=mem_map.mp h;have:k=x:=by omega
  rw[<- this];exact hk
 .intro h;exact mem_map.mpr ⟨x,h,rfl⟩
set_option maxHeartbeats 1000000 in
def Ro{n:Nat}(n8:n<=8){ps:List (Int×Int)}(hp:∀p∈ps,∃a b:Nat,p=((a:Int),(b:Int))/\a<n/\b<n)(a:Int):WF E7 [.im (Rw.wI ps),.im (.int a)] [] λd x=>∃k L,d=.mu k/\x[k]?=some (.lst (AS L))/\L.Pairwise (·<·)/\(∀b∈L,b<n)/\∀b∈L,Rc ps a (b:Int):=by
 unfold E7;refine Ak rfl ?_;refine AA (Ee (A3 (B7 (C9 (A7 ⟨CA,A3 (B7 (C9 (A3 (A2 rfl (A7 ⟨CT,A7 ⟨rfl,A5 ?_⟩⟩)))))⟩)))));refine AA (Hv (I_b n ps a) (n:=2*n+1) (.mk [] [a] none none none (by omega) (by simp) rfl rfl (by simp) (by simp) (by simp) (by simp)) ?_);intro m ls hd hI;obtain⟨fd,mr,z4,z5,z6,m17,em,rfl,rfl,nd,lt,rc,rm⟩:=hI;have fl:fd.length<=n:=J9 nd lt;refine AQ (Vw (A2 rfl (C9 (A7 ⟨CA,mr,[],?_,rfl,_,rfl,?_⟩))))
 .simp[pyD,intD,Cu,DD,I.pys]
 by_cases h0:mr=[]
 .subst h0;rw[ic (by simp)];refine A5 (AI (B7 (Q3 (Ef (A2 rfl ⟨0,_,rfl,rfl,fd.map (λk:Nat=>(k:Int)),Ji fd,by simp;omega,?_⟩)))));have pm:=EL (fd.map λk:Nat=>(k:Int));have ex:BB (fd.map λk:Nat=>(k:Int))=((BB (fd.map λk:Nat=>(k:Int))).map Int.toNat).map λk:Nat=>(k:Int):=by
   rw[iF];refine(map_id _).symm.trans (jk λx hx=>?_);obtain⟨k,_,rfl⟩:=mem_map.mp (pm.mem_iff.mp hx);simp
  have mem:∀b∈(BB (fd.map λk:Nat=>(k:Int))).map Int.toNat,b∈fd:=λb hb=>by
   obtain⟨x,hx,rfl⟩:=mem_map.mp hb;obtain⟨k,hk,rfl⟩:=mem_map.mp (pm.mem_iff.mp hx);simpa using hk
  refine⟨_,(BB (fd.map λk:Nat=>(k:Int))).map Int.toNat,rfl,?_,?_,λb hb=>lt b (mem b hb),λb hb=>rc b (mem b hb)⟩
  .rw[Ji (List.map Int.toNat _),<- ex];simp
  .have s:=GQ (fd.map λk:Nat=>(k:Int));have nd2:(BB (fd.map λk:Nat=>(k:Int))).Nodup:=pm.nodup_iff.mpr ((pairwise_map.mpr (nd.imp λh e=>h (by omega))));rw[ex]at s nd2;have s':=pairwise_map.mp s;have n':=pairwise_map.mp nd2;refine(s'.and n').imp λ{x y} h=>?_
   have h1:=h.1;have h2:=h.2;omega
 .rw[i9 (by simpa using h0)];obtain⟨mr',here,rfl⟩:∃mr' here,mr=mr'++[here]:=⟨mr.dropLast,mr.getLast h0,(List.dropLast_concat_getLast h0).symm⟩
  refine AA (AO (F9 (A2 rfl ⟨⟨_,rfl⟩,A7 (Ye (ds:=intD mr') (z:=.im (.int here)) (by simp[intD]) (A5 ?_))⟩)));refine BI (C0 (A2 rfl ⟨(ps.map DO).map D.im,rfl,?_⟩));rw[Rw.pairs_im];have hh:here=a∨Rc ps a here:=rm here (by simp);refine B5 (I_f n ps a here (m-1)) (.mk fd mr' ps z5 z6 rfl (λp h=>h) (by simp at em;omega) rfl rfl nd lt rc λx hx=>rm x (by simp[hx])) ?_ ?_
  .intro d r ls hd hI;obtain⟨fd,mr,rest,z5,z6,er,sub,em',rfl,rfl,nd,lt,rc,rm⟩:=hI;cases rest with
   |nil=>cases er
   |cons p rest=>
    obtain⟨rfl,rfl⟩:=List.cons.inj er;obtain⟨x,y,rfl,hx,hy⟩:=hp p (sub p (by simp));have fl:fd.length<=n:=J9 nd lt;refine⟨[some (.im (Rw.wI ps)),some (.im (.int a)),some (.mu 0),some (.mu 1),some (.im (.int here)),some (.im (.int (x:Int))),some (.im (.int (y:Int)))],rfl,?_⟩;have no:∀{Q:Fl->Hd->Prop},Gz [] (I_f n ps a here (m-1) (rest.map Ar)) Q (.nx [some (.im (Rw.wI ps)),some (.im (.int a)),some (.mu 0),some (.mu 1),some (.im (.int here)),some (.im (.int (x:Int))),some (.im (.int (y:Int)))]) [.lst (AS fd),.lst (intD mr)]:=⟨AK _,.mk fd mr rest _ _ rfl (λp h=>sub p (by simp[h])) em' rfl rfl nd lt rc rm⟩
    refine Af (D0 (AQ (A9 (A2 rfl (A2 rfl (FT ⟨_,rfl,?_⟩))))));by_cases h1:(x:Int)=here
    .rw[i9 (by simpa using h1)];refine AQ (A9 (A2 rfl (A2 rfl (GO (xs:=fd.map λk:Nat=>(k:Int)) (by rw[<- Ji];rfl) ⟨_,rfl,λh2=>?_,λ_=>AW no⟩))));have h2:y∉fd:=λz=>by
      rw[i9 rfl,ja ((UF fd y).mpr z)]at h2;cases h2
     have ry:Rc ps a (y:Int):=by
      have e:((x:Int),(y:Int))∈ps:=sub _ (by simp);rw[h1]at e;rcases hh with rfl|hh
      .exact .one e
      .exact .step hh e
     have fl2:(fd++[y]).length<=n:=J9 (nodup_append.mpr ⟨nd,by simp,λu hu v hv=>by rw[iB]at hv;subst hv;exact λe=>h2 (e ▸ hu)⟩) (λu hu=>by rcases mem_append.mp hu with h|h;exact lt u h;rw[iB]at h;subst h;exact hy);refine AA (Cs (F9 (A2 rfl ⟨⟨_,rfl⟩,A3 (A2 rfl (A7 (D1 rfl (Bi (by simp;omega)) (A5 ?_))))⟩)));have ml:mr.length<=20:=by omega
     refine Cs (F9 (A2 rfl ⟨⟨_,rfl⟩,A3 (A2 rfl (A7 (D1 rfl (Bi (by simp[intD];omega)) ?_)))⟩));refine⟨AK _,.mk (fd++[y]) (mr++[(y:Int)]) rest _ _ rfl (λp h=>sub p (by simp[h])) ?_ rfl ?_ ?_ ?_ ?_ ?_⟩
     .simp at fl2 ⊢;omega
     .simp[AS,intD]
     .exact nodup_append.mpr ⟨nd,by simp,λu hu v hv=>by rw[iB]at hv;subst hv;exact λe=>h2 (e ▸ hu)⟩
     .intro u hu;rcases mem_append.mp hu with h|h
      .exact lt u h
      .rw[iB]at h;subst h;exact hy
     .intro u hu;rcases mem_append.mp hu with h|h
      .exact rc u h
      .rw[iB]at h;subst h;exact ry
     .intro u hu;rcases mem_append.mp hu with h|h
      .exact rm u h
      .rw[iB]at h;subst h;exact .inr ry
    .rw[ic (by simpa using h1)];exact⟨(λh=>by cases h),λ_=>AW no⟩
  .intro ls hd hI;obtain⟨fd',mr2,rest,z5,z6,er,sub,em',rfl,rfl,nd,lt,rc,rm⟩:=hI;exact⟨2*(n-fd'.length)+mr2.length,by simp at em;omega,.mk fd' mr2 _ _ _ (by omega) rfl rfl rfl nd lt rc rm⟩
def de(t:Int){b:Nat}(b0:0<b)(b1:b<=10000000):WF Ha [.im (.int t),.im (.int (b:Int))] [] λd x=>∃p q,d=.im (frI p q)/\Rd p q/\p*(b:Int)=t*q/\p.natAbs<=t.natAbs/\q.natAbs<=b:=by
 unfold Ha;refine Ak rfl ?_;refine AA (Ee (A3 (Ce (A3 (A2 rfl (A7 (WP.eq (z:=.im (.int (t.natAbs:Int))) (h:=[]) (by simp[Gk];split<;>omega) (A3 (A2 rfl (A7 ⟨rfl,A5 ?_⟩))))))))));refine AA (Hv (λm ls hd=>∃x y:Nat,m=y/\Nat.gcd x y=Nat.gcd t.natAbs b/\ls=[some (.im (.int t)),some (.im (.int (b:Int))),some (.im (.int (x:Int))),some (.im (.int (y:Int)))]/\hd=[]) (n:=b) ⟨t.natAbs,b,rfl,rfl,rfl,rfl⟩ ?_);rintro m ls hd ⟨x,y,rfl,hg,rfl,rfl⟩;refine AQ (A9 (A2 rfl (AD (Ic ⟨_,rfl,?_⟩))));by_cases hy:m=0
 .subst hy;rw[ic (by simp)];rw[Nat.gcd_zero_right]at hg;subst hg;obtain⟨p,q,e1,e2,rd,pe,lp,lq⟩:=red (a:=t) (b:=(b:Int)) (by omega);rw[jx]at e1 e2 lq;have hs:0<Nat.gcd t.natAbs b:=Nat.gcd_pos_of_pos_right _ b0;have hs2:Nat.gcd t.natAbs b<=b:=Nat.gcd_le_right _ b0;have dv:GE ((Nat.gcd t.natAbs b:Nat):Int):=⟨by omega,by omega⟩
  refine A5 (AI (BJ (A3 (A9 (A2 rfl (A2 rfl (JP dv (A3 (A9 (A2 rfl (A2 rfl (JP dv (A7 ⟨Fg,p,q,?_,rd,pe,lp,lq⟩)))))))))))));rw[e1,e2];rfl
 .rw[i9 (by simp;omega)];refine Ee (A3 (A2 rfl (A3 (A9 (A2 rfl (A2 rfl (LL (show Bf (m:Int) by unfold Bf;omega) (A7 ⟨rfl,?_⟩))))))));exact⟨x%m,Nat.mod_lt _ (by omega),m,x%m,rfl,by rw[<- hg,gcd_comm x m,Nat.gcd_rec m x,gcd_comm],by simp,rfl⟩
abbrev ps(P:List (Nat×Nat)):List (Int×Int):=P.map cs
def Wsh.ps{n:Nat}{seq:List Nat}{P:List (Nat×Nat)}(h:Wsh n seq P):∀p∈P.map cs,∃a b:Nat,p=((a:Int),(b:Int))/\a<n/\b<n:=λp hp=>by
 obtain⟨q,hq,rfl⟩:=mem_map.mp hp;obtain⟨i,j,_,e1,e2⟩:=h.al q hq;have h1:q.1<n:=by simpa using h.pm.mem_iff.mp (iH e1)
 have h2:q.2<n:=by simpa using h.pm.mem_iff.mp (iH e2)
 exact⟨q.1,q.2,rfl,h1,h2⟩
structure PE(n:Nat)(P:List (Nat×Nat))(e:Ent):Prop where
 ok:EOk n (P.map cs) e
 p:e.p<=3000000
 q:e.q<=3000000
abbrev Cq(e:Ent):D:=.im (Cd e)
abbrev La(c:Int)(ws:List (Int×Int))(P:List (Nat×Nat))(z4 z5 z6 z7 z8 z9:Option D):Ls:=[some (.mu 1),some (.im (Am c ws)),some (.im (Rw.wI (P.map cs))),some (.mu 2),z4,z5,z6,z7,z8,z9]
inductive I_p(c:Int)(ws:List (Int×Int))(P:List (Nat×Nat))(m:Nat)(r:List D)(ls:Ls)(hd:Hd):Prop
 |mk (E:List Ent) (k:Nat) (a b:MO) (g:Hd) (z4 z5 z6 z7 z8 z9:Option D) (er:r=AG (k:Int) (m-k)) (hk:k<=m) (el:ls=La c ws P z4 z5 z6 z7 z8 z9) (eh:hd=a::b::.lst (E.map Cq)::g) (hT:T 0 a b) (le:E.length=k) (ok:∀e∈E,PE ws.length P e):I_p c ws P m r ls hd
inductive I_s(P:List (Nat×Nat))(L:List Nat)(g:Hd)(r es:List D)(ls:Ls)(hd:Hd):Prop
 |mk (dn rest S:List Nat) (a b:MO) (z:Option D) (eL:L=dn++rest) (er:r=AS rest) (ee:es=AS S) (sub:S.Sublist dn) (el:ls=[z,some (.mu 1)]) (eh:hd=a::b::g) (hT:T 0 a b):I_s P L g r es ls hd
def cJ(w:Nat)(L:List Nat):Au w (AS L)=true:=by
 induction L with
 |nil=>rfl
 |cons k r ih=>simp[AS,Au,clD]at ih ⊢;exact ih
abbrev VV:MS:=(A8 (AE 6 (mOp gIx (A0 5) (A6 2 AN (A1 (A0 0) (A1 (mCB (f1 true Ag) (A1 (A0 5) A4)) A4)))))
 (A8 (AE 7 (BL BR (Ai 1 [0] (BV (A6 0 E7 (A1 (A0 2) (A1 (A0 6) A4)))) (AC 0) (AH (mOp gGt (A6 2 AN (A1 (A0 1) (A1 (mC (.int 3)) A4))) (mC (.int 0)))) (A0 0))))
 (A8 (AE 8 (mOp gIx (A0 1) (A6 2 AN (A1 (A0 0) (A1 (mCB (f1 true Ag) (A1 (A0 1) A4)) A4)))))
 (A8 (AE 9 (mOp As (mOp gIx (mOp gIx (A0 8) (mC (.int 2))) (mC (.int 1))) (A6 2 AN (A1 (A0 0) (A1 (mC (.int 4)) A4)))))
 (Aw (mMt Ab (A0 3) (A1 (Ae (A1 (A0 6) (A1 (A0 7) (A1 (A6 0 Ha (A1 (A0 9) (A1 (mOp As (mOp gIx (A0 8) (mC (.int 0))) (mOp AX (mC (.int 1)) (A6 2 AN (A1 (A0 0) (A1 (mC (.int 3)) A4))))) A4))) A4)))) A4)))))))
set_option maxHeartbeats 2000000 in
def ZJ{c:Int}{ws:List (Int×Int)}(W:WOk c ws){seq:List Nat}{P:List (Nat×Nat)}(H:Wsh ws.length seq P){a b:MO}(hT:T 0 a b){E:List Ent}{g:Hd}{fa:Nat}{fs:List Nat}(h3:3<=fa)(ef:(a::b::.lst (E.map Cq)::g)[fa]?=some (.lst (AS fs)))(fin:∀x∈fs,x<ws.length)(fl:fs.length<=17)(fp:0<fs.length)(el:E.length<=5){z4 z6 z7 z8 z9:Option D}{Q:Fl->Hd->Prop}(hQ:∀e a b g z6 z7 z8 z9,PE ws.length P e->T 0 a b->Q (.nx (La c ws P z4 (some (.mu fa)) z6 z7 z8 z9)) (a::b::.lst ((E++[e]).map Cq)::g)):WS VV (La c ws P z4 (some (.mu fa)) z6 z7 z8 z9) (a::b::.lst (E.map Cq)::g) Q:=by
 have n1:=W.n1;have n8:=W.n8;have ln:∀hd,f1 true Ag [.im (Am c ws)] hd=some (.im (.int (ws.length:Int)),hd):=λhd=>by simp[f1,Ag]
 have sv:∀{hd:Hd},hd[fa]?=some (.lst (AS fs))->Ad hd (.mu fa)=some (AS fs):=λe=>by simp[Ad,AL,Ay,e]
 have f3:∀(a' b':MO) (g':Hd),(a'::b'::.lst (E.map Cq)::(g++g'))[fa]?=some (.lst (AS fs)):=λa' b' g'=>by
  obtain⟨k,rfl⟩:∃k,fa=k+3:=⟨fa-3,by omega⟩
  have e:g[k]?=some (.lst (AS fs)):=by simpa using ef
  have:=(List.getElem?_eq_some_iff.mp e).1;simp[List.getElem?_append_left this,e]
 refine AA (AO (A9 (A2 rfl ?_)));refine tap.draw (n:=0) (many:=(fs.length:Int)) (rest:=.lst (E.map Cq)::g) hT (by simp[Ag,ef]) (by omega) (by omega) λr1 a b hT p1 q1=>?_;obtain⟨i,rfl⟩:∃i:Nat,r1=(i:Int):=⟨r1.toNat,by omega⟩
 have hi:i<fs.length:=by omega
 have ef2:=f3 a b [];rw[iS]at ef2;refine AR (ds:=AS fs) (sv ef2) (J5 (List.getElem?_eq_getElem hi)) (A5 ?_);have hx:fs[i]<ws.length:=fin _ (List.getElem_mem hi);generalize fs[i]=x at hx;change WS _ (La c ws P z4 (some (.mu fa)) (some (.im (.int (x:Int)))) z7 z8 z9) _ _;refine AA (AO (C8 (Aq (Ef (Q1 (A3 (A2 rfl (A3 (A2 rfl (A7 ⟨by simp,(Ro n8 H.ps (x:Int)).mono ?_⟩))))))))));rintro d y ⟨k,L,rfl,eL,pw,lt,rc⟩;have Ll:=Ih pw lt;refine⟨k,AS L,rfl,eL,cJ 0 L,_,AS L,rfl,by simp,AY (by simp;omega),?_⟩;refine OR (I_s P L (.lst (E.map Cq)::(g++[.lst (AS L)]))) (.mk [] L [] a b none rfl rfl rfl (by simp) rfl rfl hT) ?_ ?_
 .intro d r es ls hd hI;obtain⟨dn,rest,S,a',b',z,eL',er,rfl,sub,rfl,rfl,hT⟩:=hI;cases rest with
  |nil=>cases er
  |cons v rest=>
   obtain⟨rfl,rfl⟩:=List.cons.inj er;have gk:∀(a' b':MO),GOk (a'::b'::.lst (E.map Cq)::(g++[.lst (AS L)])) [((a::b::MO.lst (E.map Cq)::g).length,AS L)]:=λa' b' p hp=>by rw[iB]at hp;subst hp;simp
   refine⟨[some (.im (.int (v:Int))),some (.mu 1)],rfl,AQ (A9 ?_)⟩;refine tap.draw (n:=0) (many:=3) (rest:=.lst (E.map Cq)::(g++[.lst (AS L)])) hT rfl (by decide) (by decide) λr2 a' b' hT p2 q2=>?_;refine AD (Ic ⟨_,rfl,?_⟩);by_cases h0:r2>0
   .rw[i9 (by simpa using h0)];exact A2 rfl ⟨gk _ _,.mk (dn++[v]) rest (S++[v]) a' b' _ (by simp[eL']) rfl (by simp[AS]) (sub.append (List.Sublist.refl _)) rfl rfl hT⟩
   .rw[ic (by simpa using h0)];exact⟨gk _ _,.mk (dn++[v]) rest S a' b' _ (by simp[eL']) rfl rfl (sub.trans (List.sublist_append_left _ _)) rfl rfl hT⟩
 intro es ls hd hI;obtain⟨dn,rest,S,a,b,z,eL',er,rfl,sub,rfl,rfl,hT⟩:=hI;have:rest=[]:=by cases rest with
  |nil=>rfl
  |cons _ _=>cases er
 subst this;rw[iS]at eL';subst eL';have pwS:=pw.sublist sub;have ltS:∀b∈S,b<ws.length:=λb hb=>lt b (sub.subset hb);have rcS:∀b∈S,Rc (P.map cs) (x:Int) (b:Int):=λb hb=>rc b (sub.subset hb);refine⟨.im (AZ S),by rw[BR,<- DI,BU],A5 ?_⟩;change WS _ (La c ws P z4 (some (.mu fa)) (some (.im (.int (x:Int)))) (some (.im (AZ S))) z8 z9) _ _;generalize g++[MO.lst (AS L)]=g2;refine AA (AO (A9 (A2 rfl ?_)));refine tap.draw (n:=0) (many:=(ws.length:Int)) (rest:=.lst (E.map Cq)::g2) hT (by simp[Ag]) (by omega) (by omega) λr3 a b hT p3 q3=>?_;obtain⟨w,rfl⟩:∃w:Nat,r3=(w:Int):=⟨r3.toNat,by omega⟩
 have hw:w<ws.length:=by omega
 have wb:=DV W hw;refine AR rfl (E3 hw) (A5 ?_);change WS _ (La c ws P z4 (some (.mu fa)) (some (.im (.int (x:Int)))) (some (.im (AZ S))) (some (wkD c (lf ws w,wf ws w))) z9) _ _;generalize lf ws w=lw at wb;generalize wf ws w=ww at wb;refine AA (AO (A9 (A9 (A9 (A2 rfl (AD (AR rfl (GG _ _ _ _) (AD (AR (ds:=[.im (.str "ends"),.im (.int ww)]) rfl (Dq _ _ _) ?_)))))))));refine tap.draw (n:=0) (many:=4) (rest:=.lst (E.map Cq)::g2) hT rfl (by decide) (by decide) λr4 a b hT p4 q4=>?_;refine BP (BO (by omega) (by omega)) (A5 ?_);obtain⟨t,ht⟩:∃t,t=ww*r4:=⟨_,rfl⟩
 have t0:0<=t:=by rw[ht];exact jw (by omega) (by omega)
 have t1:t<=1000000*3:=by rw[ht];exact Int.mul_le_mul (by omega) (by omega) (by omega) (by omega)
 rw[<- ht];change WS _ (La c ws P z4 (some (.mu fa)) (some (.im (.int (x:Int)))) (some (.im (AZ S))) (some (wkD c (lw,ww))) (some (.im (.int t)))) _ _;refine Cs (F9 (A2 rfl ⟨⟨_,rfl⟩,A3 (BJ (A3 (A2 rfl (A3 (A2 rfl (A3 (AT (A3 (A2 rfl (A3 (A9 (A9 (A2 rfl (AD (AR rfl (Cz _ _) (A9 (AD ?_)))))))))))))))))⟩));refine tap.draw (n:=0) (many:=3) (rest:=.lst (E.map Cq)::g2) hT rfl (by decide) (by decide) λr5 a b hT p5 q5=>?_;have b1:1<=lw*(1+r5):=by
  have:=Int.mul_pos (a:=lw) (b:=1+r5) (by omega) (by omega);omega
 have b2:lw*(1+r5)<=1000000*3:=Int.mul_le_mul (by omega) (by omega) (by omega) (by omega);refine C4 (BP (show Cg lw (1+r5)from BO (by omega) (by omega)) (A7 ?_));show Au 0 _=true/\WF Ha [.im (.int t),.im (.int (lw*(1+r5)))] [] _;obtain⟨bb,eb⟩:∃bb:Nat,lw*(1+r5)=(bb:Int):=⟨(lw*(1+r5)).toNat,by omega⟩
 rw[eb];refine⟨by simp,(de t (b:=bb) (by omega) (by omega)).mono ?_⟩;rintro d y ⟨p,q,rfl,rd,pe,lp,lq⟩;have q0:=rd.q0;refine⟨_,rfl,A7 ⟨Mf,A7 (D1 rfl (Bi (by simp;omega)) ?_)⟩⟩;have pp:0<=p:=by
  have h:0<=p*(bb:Int):=by rw[pe];exact jw t0 (by omega)
  exact Int.nonneg_of_mul_nonneg_left h (by omega)
 have:=hQ ⟨x,S,p,q⟩ a b g2 (some (.im (.int (x:Int)))) (some (.im (AZ S))) (some (wkD c (lw,ww))) (some (.im (.int t))) ⟨⟨hx,pwS,ltS,rcS,rd,pp⟩,by show p<=3000000;omega,by show q<=3000000;omega⟩ hT;rw[j6]at this;exact this
set_option maxHeartbeats 2000000 in
def Xj{c:Int}{ws:List (Int×Int)}(W:WOk c ws){seq:List Nat}{P:List (Nat×Nat)}(H:Wsh ws.length seq P)(a b:MO)(hT:T 0 a b):WF Fp [.mu 1,.im (Am c ws),.im (Rw.wI (P.map cs))] [a,b] λd x=>∃i a' b' g,d=.im i/\(∃E,i=Dh E/\E.length<=5/\∀e∈E,PE ws.length P e)/\T 0 a' b'/\x=a'::b'::g:=by
 have n1:=W.n1;have n8:=W.n8;have Pl:=H.le;have pn:=H.ps;unfold Fp;refine Ak rfl ?_;refine AA (AO (B7 (C9 (A7 ⟨CA,A5 ?_⟩))));refine AA (BI (Cm (A3 ?_)));refine tap.draw (n:=0) (many:=6) (rest:=[.lst []]) hT rfl (by decide) (by decide) λr0 a b hT p0 q0=>?_;obtain⟨m,rfl⟩:∃m:Nat,r0=(m:Int):=⟨r0.toNat,by omega⟩
 refine A7 ⟨_,rfl,BC (by omega) (by omega),?_⟩;rw[iO];have ln:∀hd,f1 true Ag [.im (Am c ws)] hd=some (.im (.int (ws.length:Int)),hd):=λhd=>by simp[f1,Ag]
 refine B5 (I_p c ws P m) (.mk [] 0 a b [] none none none none none none rfl (by omega) rfl rfl hT rfl (by simp)) ?_ ?_
 .intro d r ls hd hI;obtain⟨E,k,a,b,g,z4,z5,z6,z7,z8,z9,er,hk,rfl,rfl,hT,le,ok⟩:=hI;obtain⟨m',hm⟩:∃m',m-k=m'+1:=by
   cases q:m-k with
   |zero=>rw[q]at er;cases er
   |succ m'=>exact⟨m',rfl⟩
  rw[hm,AG]at er;obtain⟨rfl,rfl⟩:=List.cons.inj er;refine⟨La c ws P (some (.im (.int (k:Int)))) z5 z6 z7 z8 z9,rfl,?_⟩;refine AA (AO (B7 (Yk (B7 (Aq (C0 (A2 rfl ⟨((P.map cs).map DO).map D.im,rfl,?_⟩)))))));rw[Rw.pairs_im];refine⟨AY (by simp;omega),?_⟩;refine BQ Ar (λp=>some (.im (.int p.1))) (λ_ ls=>∃x y,ls=[some x,some y]) _ (AK _) ?_ ?_
  .rintro p hp ls hls;refine⟨[some (.im (.int p.1)),some (.im (.int p.2))],by rcases hls with rfl|⟨_,x,y,rfl⟩<;>rfl,⟨_,_,rfl⟩,B4 ⟨rfl,?_⟩⟩;rw[i9 rfl];exact⟨_,rfl,A2 rfl ⟨rfl,rfl⟩⟩
  have ef:((P.map cs).filterMap λp=>some (D.im (.int p.1)))=AS (P.map (·.1)):=by rw[List.filterMap_eq_map',iF,AS,iF];rfl
  rw[ef];refine B7 (C9 (A3 ?_));refine tap.draw (n:=0) (many:=(ws.length:Int)) (rest:=.lst (E.map Cq)::(g++[.lst (AS (P.map (·.1)))])) hT (by simp[Ag]) (by omega) (by omega) λr1 a b hT p1 q1=>?_;obtain⟨u,rfl⟩:∃u:Nat,r1=(u:Int):=⟨r1.toNat,by omega⟩
  refine A7 ⟨CT,?_⟩;refine⟨_,_,AS (P.map (·.1)),AS [u],rfl,rfl,by simp,by simp,AY (by simp;omega),A5 ?_⟩;have ec:AS (P.map (·.1))++AS [u]=AS (P.map (·.1)++[u]):=by simp[AS]
  rw[ec];have fin:∀x∈P.map (·.1)++[u],x<ws.length:=λx hx=>by
   rcases mem_append.mp hx with h|h
   .obtain⟨q,hq,rfl⟩:=mem_map.mp h;obtain⟨a,b,e,h1,_⟩:=pn (cs q) (mem_map.mpr ⟨q,hq,rfl⟩);have e:=iP Prod.fst e;simp only[cs]at e;omega
   .rw[iB]at h;subst h;omega
  have fl:(P.map (·.1)++[u]).length<=17:=by simp;omega
  have fp:0<(P.map (·.1)++[u]).length:=by simp
  generalize P.map (·.1)++[u]=fs at fin fl fp;change WS VV (La c ws P (some (.im (.int (k:Int)))) (some (.mu _)) z6 z7 z8 z9) (a::b::.lst (E.map Cq)::_) _;refine ZJ W H hT (by simp) (by simp) fin fl fp (by omega) λe a b g z6 z7 z8 z9 pe hT=>⟨AK _,.mk (E++[e]) (k+1) a b g _ _ _ _ _ _ (by rw[show((k:Int)+1)=((k+1:Nat):Int) by omega,show m'=m-(k+1) by omega]) (by omega) rfl rfl hT (by simp[le]) λx hx=>?_⟩
  rcases mem_append.mp hx with h|h
  .exact ok x h
  .rw[iB]at h;subst h;exact pe
 intro ls hd hI;obtain⟨E,k,a,b,g,z4,z5,z6,z7,z8,z9,er,hk,rfl,rfl,hT,le,ok⟩:=hI;refine A5 (AI (Ce (A3 (A2 rfl (A7 (F7 (ds:=E.map Cq) (z:=.im (Dh E)) rfl (by simp only[BR];exact iP some (by rw[show E.map Cq=(E.map Cd).map D.im by simp,BU])) ?_))))));exact⟨_,a,b,_,rfl,⟨E,rfl,by omega,ok⟩,hT,rfl⟩
def cH{c:Int}{ws:List (Int×Int)}(W:WOk c ws){ks:List Nat}(lt:∀k∈ks,k<ws.length):WF Gu [.im (Am c ws),.im (AZ ks)] [] λd x=>d=.im (.int (cst (lf ws) (wf ws) ks c 0)):=by
 have n1:=W.n1;unfold Gu;refine Ak rfl ?_;refine AA (Ee (A3 (A9 (A9 (A2 rfl (AD (AR rfl (E3 (k:=0) (by omega)) (AD (AR rfl (Dq _ _ _) (A3 (AD (A7 ⟨rfl,A5 ?_⟩))))))))))));refine AA (BI (C0 (A2 rfl ⟨_,rfl,?_⟩)));rw[DI];refine B5 (λr ls x=>∃(dn rest:List Nat) (e f:Int) (z:Option D),ks=dn++rest/\r=AS rest/\cst (lf ws) (wf ws) ks c 0=cst (lf ws) (wf ws) rest e f/\ls=[some (.im (Am c ws)),some (.im (AZ ks)),some (.im (.int e)),some (.im (.int f)),z]/\x=[]) ⟨[],ks,c,0,none,rfl,rfl,rfl,rfl,rfl⟩ ?_ ?_
 .rintro d r ls x ⟨dn,rest,e,f,z,e1,er,ec,rfl,rfl⟩;cases rest with
  |nil=>cases er
  |cons k rest=>
   obtain⟨rfl,rfl⟩:=List.cons.inj er;have hk:k<ws.length:=lt k (by rw[e1];simp);have b:=DV W hk;have mw:∀i,Cg (wf ws k) i:=λi=>BO (by omega) (by omega);refine⟨[some (.im (Am c ws)),some (.im (AZ ks)),some (.im (.int e)),some (.im (.int f)),some (.im (.int (k:Int)))],rfl,?_⟩;refine AA (AO (A9 (A2 rfl (A9 (A9 (A2 rfl (A2 rfl (AR rfl (E3 hk) (AD (AR rfl (Cz _ _) (C4 (A5 ?_))))))))))));refine AO (A9 (A2 rfl (A9 (A9 (A9 (A9 (A2 rfl (A2 rfl (AR rfl (E3 hk) (AD (AR rfl (GG _ _ _ _) (AD (AR (ds:=[.im (.str "ends"),.im (.int (wf ws k))]) rfl (Dq _ _ _) (A2 rfl (BP (mw _) (C4 ?_))))))))))))))));exact⟨AK _,dn++[k],rest,e+lf ws k,f+wf ws k*(e+lf ws k),_,by simp[e1],rfl,by rw[ec,cst],rfl,rfl⟩
 rintro ls x ⟨dn,rest,e,f,z,e1,er,ec,rfl,rfl⟩;cases rest with
 |cons=>cases er
 |nil=>
  refine A5 (AI (A2 rfl ?_));show D.im _=_;rw[ec,cst]
def Ym{n:Nat}{seq:List Nat}{P:List (Nat×Nat)}(H:Wsh n seq P):Vd n (P.map cs) seq:=by
 refine⟨H.pm,λp hp=>?_⟩;obtain⟨q,hq,rfl⟩:=mem_map.mp hp;obtain⟨i,j,hij,e1,e2⟩:=H.al q hq;have nd:seq.Nodup:=H.pm.nodup_iff.mpr jv;have h1:q.1<n:=by simpa using H.pm.mem_iff.mp (iH e1)
 have h2:q.2<n:=by simpa using H.pm.mem_iff.mp (iH e2)
 exact⟨q.1,q.2,rfl,h1,h2,by rw[JD nd e1,JD nd e2];exact hij⟩
def Q4{n:Nat}{P:List (Nat×Nat)}(hP:∀q∈P,q.1<n/\q.2<n){ks:List Nat}(pm:ks.Perm (List.range n))(h:∀q∈P,ks.idxOf q.1<ks.idxOf q.2):Vd n (P.map cs) ks:=by
 refine⟨pm,λp hp=>?_⟩;obtain⟨q,hq,rfl⟩:=mem_map.mp hp;exact⟨q.1,q.2,rfl,(hP q hq).1,(hP q hq).2,h q hq⟩
def Pr(B L:Nat):Nat->I->Prop
 |0,i=>∃v:Int,i=.int v/\v.natAbs<=B
 |n+1,i=>(∃v:Int,i=.int v/\v.natAbs<=B)∨∃l,i=.tup l/\l.length<=L/\∀x∈l,Pr B L n x
def J1{B L n:Nat}{v:Int}(h:v.natAbs<=B):Pr B L n (.int v):=by
 cases n with
 |zero=>exact⟨v,rfl,h⟩
 |succ n=>exact .inl ⟨v,rfl,h⟩
theorem Pr.lv{B L:Nat}:∀{n:Nat} {i:I},Pr B L n i->Lv B L n i
 |0,i,⟨v,e,h⟩=>by subst e;exact h
 |n+1,i,h=>by
  rcases h with⟨v,rfl,h⟩|⟨l,rfl,h1,h2⟩
  .exact .inl h
  .exact .inr ⟨l,rfl,h1,λx hx=>(h2 x hx).lv⟩
theorem Np{B L:Nat}{n:Nat}(ih:∀{i:I},Pr B L n i->i.py.canLay0=true):∀{l:List I},(∀x∈l,Pr B L n x)->PyData.canLayAll0 (I.pys l)=true
 |[],_=>by simp[I.pys,PyData.canLayAll0]
 |x::r,h=>by
  simp only[I.pys,PyData.canLayAll0,Bool.and_eq_true];exact⟨ih (h x (by simp)),Np ih λy hy=>h y (by simp[hy])⟩
theorem Pr.lay{B L:Nat}:∀{n:Nat} {i:I},Pr B L n i->i.py.canLay0=true
 |0,i,⟨v,e,h⟩=>by subst e;simp[I.py,PyData.canLay0]
 |n+1,i,h=>by
  rcases h with⟨v,rfl,h⟩|⟨l,rfl,h1,h2⟩
  .simp[I.py,PyData.canLay0]
  .rw[I.py,PyData.canLay0];exact Np (λh=>h.lay) h2
def Uj(l:List I):PyData.eqv (I.py (.tup l)) (I.py (.tup []))=l.isEmpty:=by
 cases l with
 |nil=>rfl
 |cons t r=>rw[I.py,I.pys,I.py,I.pys];rfl
def cG(l:List I)(lo hi:Option Int):∃l':List I,Br (l.map D.im) lo hi=l'.map D.im/\l'.length<=l.length/\∀x∈l',x∈l:=by
 refine⟨(l.drop (HT.sIx l.length 0 lo)).take (HT.sIx l.length l.length hi-HT.sIx l.length 0 lo),?_,?_,λx hx=>List.mem_of_mem_drop (List.mem_of_mem_take hx)⟩
 .unfold Br;rw[iu,map_take,map_drop]
 .rw[iX,ju];omega
def Lg{l:List I}{i:Nat}{ml mh:MO1}{ls:Ls}{hd:Hd}{QE:D->Hd->Prop}(e:ls[i]?=some (some (.im (.tup l))))(h:WO ml ls hd λlo y=>WO mh ls y λhi z=>∀l':List I,l'.length<=l.length->(∀x∈l',x∈l)->QE (.im (.tup l')) z):WE (Bm (A0 i) ml mh) ls hd QE:=by
 obtain⟨lo,y,e1,hi,z,e2,q⟩:=h;refine FU (A2 e ⟨lo,y,e1,hi,z,e2,_,rfl,?_⟩);obtain⟨l',e3,h1,h2⟩:=cG l lo hi;rw[e3,BU];exact q l' h1 h2
def HW{l l':List I}{hd:Hd}{QE:D->Hd->Prop}(h:l.length+l'.length<=1000000)(q:QE (.im (.tup (l++l'))) hd):WP (DW (.im (.tup l)) (.im (.tup l')) hd) QE:=by
 refine Vs (xs:=l.map D.im) (ys:=l'.map D.im) rfl rfl (by simpa using h) ?_;rw[<- j6,BU];exact q
def OJ{l l':List I}{hd:Hd}{QE:D->Hd->Prop}(hn:l≠[])(h:l.length+l'.length<=1000000)(q:QE (.im (.tup (l++l'))) hd):WP (AX (.im (.tup l)) (.im (.tup l')) hd) QE:=by
 refine NK (xs:=l.map D.im) (ys:=l'.map D.im) rfl rfl (by simpa using hn) (by simpa using h) ?_;rw[<- j6,BU];exact q
abbrev PB(B L n:Nat)(d:D)(x:Hd):Prop:=∃j a' b' g,d=.im j/\Lv (2*B+2) (2*L+1) n j/\T 0 a' b'/\x=a'::b'::g
def N2{B L n:Nat}{v:Int}(hv:v.natAbs<=B)(hB:B<=3000000){a b:MO}{g:Hd}(hT:T 0 a b){z2 z3 z4:Option D}:WS (AM (EB (BA (A1 (mOp AX (A0 1) (mC (.int 1))) (A1 (mOp HP (A0 1) (mC (.int 1))) (A1 (mOp AX (A0 1) (mC (.int 2))) (A1 (mOp As (mC (.int 2)) (A0 1)) (A1 (mC (.bl true)) (A1 (mC .non) A4))))))) (A6 2 AN (A1 (A0 0) (A1 (mC (.int 6)) A4))))) [some (.mu 1),some (.im (.int v)),z2,z3,z4] (a::b::g) λf x=>∃d,f=.rt d/\PB B L n d x:=by
 refine AI (LO (C9 (A3 (A9 (A2 rfl (AD (C4 (A3 (A9 (A2 rfl (AD (Pw (A3 (A9 (A2 rfl (AD (C4 (A3 (A9 (AD (A2 rfl (BP (BO (by decide) (by decide)) (A3 (AD (A3 (AD (A7 ⟨AY (by simp),?_⟩)))))))))))))))))))))))))));refine tap.draw (n:=0) (many:=6) (rest:=g) hT rfl (by decide) (by decide) λr a b hT p q=>?_;have lf:∀i:I,leaf (2*B+2) i->PB B L n (.im i) (a::b::g):=λi hi=>⟨i,a,b,g,rfl,O2 hi,hT,rfl⟩
 rcases(show r=0∨r=1∨r=2∨r=3∨r=4∨r=5 by omega)with rfl|rfl|rfl|rfl|rfl|rfl
 .exact⟨_,_,rfl,Cz _ _,_,rfl,lf _ (by simp only[leaf];omega)⟩
 .exact⟨_,_,rfl,Dq _ _ _,_,rfl,lf _ (by simp only[leaf];omega)⟩
 .exact⟨_,_,rfl,GG _ _ _ _,_,rfl,lf _ (by simp only[leaf];omega)⟩
 .exact⟨_,_,rfl,Cr (k:=3) rfl rfl,_,rfl,lf _ (by simp only[leaf];omega)⟩
 .exact⟨_,_,rfl,Cr (k:=4) rfl rfl,_,rfl,lf _ (by simp[leaf])⟩
 .exact⟨_,_,rfl,Cr (k:=5) rfl rfl,_,rfl,lf _ (by simp[leaf])⟩
def Uy{B L n:Nat}(hL:L<=100){l:List I}(le:l.length<=L)(hl:∀x∈l,Pr B L n x){a b:MO}{g:Hd}(hT:T 0 a b){z2 z3 z4:Option D}:WS (A8 (AE 4 (Ao (BA (A1 (Bm (A0 1) (BN (mC (.int 1))) Ap) (A1 (Bm (A0 1) Ap (BN (Cw (mC (.int 1))))) (A1 (FG (A0 1) (Cw (mC (.int 1)))) (A1 (mOp DW (A0 1) (Bm (A0 1) (BN (Cw (mC (.int 1)))) Ap)) (A1 (Ae (A1 (mC (.int 0)) A4)) (A1 (Ae A4) A4)))))))))
 (AM (mOp gIx (A0 4) (A6 2 AN (A1 (A0 0) (A1 (mC (.int 6)) A4)))))) [some (.mu 1),some (.im (.tup l)),z2,z3,z4] (a::b::g) λf x=>∃d,f=.rt d/\PB B L (n+1) d x:=by
 have up:∀x,Pr B L n x->Lv (2*B+2) (2*L+1) n x:=λx h=>h.lv.mono (by omega) (by omega);have row:∀l':List I,l'.length<=2*L+1->(∀x∈l',x∈l)->Lv (2*B+2) (2*L+1) (n+1) (.tup l'):=λl' h1 h2=>.inr ⟨l',rfl,h1,λx hx=>up x (hl x (h2 x hx))⟩;refine AA (AO (B7 (C9 (A3 (Lg rfl (DG (AD ⟨_,rfl,F8 λl1 b1 m1=>?_⟩)))))));refine A3 (Lg rfl (F8 (DG (FV (AD ⟨_,rfl,_,rfl,λl2 b2 m2=>?_⟩)))));refine A3 (Vv (A2 rfl (FV (AD ⟨_,rfl,rfl,_,rfl,?_⟩))));rw[<- List.map_reverse,BU];refine A3 (A9 (A2 rfl (Lg rfl (DG (FV (AD ⟨_,rfl,_,rfl,F8 λl3 b3 m3=>HW (by omega) ?_⟩))))));refine A3 (BJ (A3 (AD (A7 ⟨CT,A3 (BJ (A7 ⟨CA,A7 ⟨AY (by simp),A5 ?_⟩⟩))⟩))));rw[GZ,show AV [D.im (.int 0)]=.im (.tup [.int 0])from rfl];refine AI (A9 (A2 rfl ?_));have e0:∀(a' b':MO) (X:List D),Ad (a'::b'::(g++[MO.lst X])) (.mu (a::b::g).length)=some X:=λa' b' X=>by simp[Ad,AL,Ay]
 refine tap.draw (n:=0) (many:=6) (rest:=g++[MO.lst _]) hT rfl (by decide) (by decide) λr a b hT p q=>?_;have ok:∀(i:I) (y:Hd),Lv (2*B+2) (2*L+1) (n+1) i->PB B L (n+1) (.im i) (a::b::y):=λi y hi=>⟨i,a,b,y,rfl,hi,hT,rfl⟩
 rcases(show r=0∨r=1∨r=2∨r=3∨r=4∨r=5 by omega)with rfl|rfl|rfl|rfl|rfl|rfl
 .exact AR (e0 _ _ _) (Cz _ _) ⟨_,rfl,ok _ _ (row _ (by omega) m1)⟩
 .exact AR (e0 _ _ _) (Dq _ _ _) ⟨_,rfl,ok _ _ (row _ (by omega) m2)⟩
 .exact AR (e0 _ _ _) (GG _ _ _ _) ⟨_,rfl,ok _ _ (row _ (by simp;omega) (by simp))⟩
 .exact AR (e0 _ _ _) (Cr (k:=3) rfl rfl) ⟨_,rfl,ok _ _ (row _ (by simp;omega) (by intro x hx;exact(mem_append.mp hx).elim id (m3 x)))⟩
 .exact AR (e0 _ _ _) (Cr (k:=4) rfl rfl) ⟨_,rfl,ok _ _ (.inr ⟨_,rfl,by simp,λx hx=>by rw[iB]at hx;subst hx;exact O2 (by simp[leaf])⟩)⟩
 .exact AR (e0 _ _ _) (Cr (k:=5) rfl rfl) ⟨_,rfl,ok _ _ (.inr ⟨_,rfl,by simp,by simp⟩)⟩
abbrev mB2:MS:=(A8 (Aj (B9 (Cc .tuple (A0 1)))
 (A8 (AE 4 (Ao (BA (A1 (Bm (A0 1) (BN (mC (.int 1))) Ap) (A1 (Bm (A0 1) Ap (BN (Cw (mC (.int 1))))) (A1 (FG (A0 1) (Cw (mC (.int 1)))) (A1 (mOp DW (A0 1) (Bm (A0 1) (BN (Cw (mC (.int 1)))) Ap)) (A1 (Ae (A1 (mC (.int 0)) A4)) (A1 (Ae A4) A4)))))))))
 (AM (mOp gIx (A0 4) (A6 2 AN (A1 (A0 0) (A1 (mC (.int 6)) A4))))))
  Aa)
 (AM (EB (BA (A1 (mOp AX (A0 1) (mC (.int 1))) (A1 (mOp HP (A0 1) (mC (.int 1))) (A1 (mOp AX (A0 1) (mC (.int 2))) (A1 (mOp As (mC (.int 2)) (A0 1)) (A1 (mC (.bl true)) (A1 (mC .non) A4))))))) (A6 2 AN (A1 (A0 0) (A1 (mC (.int 6)) A4))))))
def cL{B L:Nat}(hB:B<=3000000)(hL:L<=100):∀(n:Nat) {i:I},n<=20->Pr B L n i->∀{a b:MO},T 0 a b->WF (Fo (n+1)) [.mu 1,.im i] [a,b] (PB B L n):=by
 intro n
 induction n with
 |zero=>
  intro i _ h a b hT;obtain⟨v,rfl,hv⟩:=h;show WF (mkF 2 5 (MR (Fo 0))) _ _ _;refine Ak rfl ?_;change WS _ [some (.mu 1),some (.im (.int v)),none,none,none] _ _;refine AA (AO ?_);refine tap.draw (n:=0) (many:=8) (rest:=[]) hT rfl (by decide) (by decide) λw a b hT p q=>A5 ?_;refine AA (Af (D0 (Az (B8 (A2 rfl ⟨false,rfl,_,rfl,?_⟩)))));rw[ic (by simp)];refine⟨(λh=>by cases h),λ_=>AW (A5 ?_)⟩;refine AA (Af (Az (B8 (A2 rfl ⟨false,rfl,_,rfl,(λh=>by cases h),λ_=>AW (A5 ?_)⟩))));exact WP.mono (N2 (L:=L) (n:=0) hv hB hT) (by rintro f x ⟨d,rfl,h⟩;exact h)
 |succ n ih=>
  intro i hn h a b hT;show WF (mkF 2 5 (MR (Fo (n+1)))) _ _ _;refine Ak rfl ?_;change WS _ [some (.mu 1),some (.im i),none,none,none] _ _;refine AA (AO ?_);refine tap.draw (n:=0) (many:=8) (rest:=[]) hT rfl (by decide) (by decide) λw a b hT p q=>A5 ?_;have lay:=h.lay;rcases h with⟨v,rfl,hv⟩|⟨l,rfl,h1,h2⟩
  .refine AA (Af (D0 (Az (B8 (A2 rfl ⟨false,rfl,_,rfl,?_⟩)))));rw[ic (by simp)];refine⟨(λh=>by cases h),λ_=>AW (A5 ?_)⟩;refine AA (Af (Az (B8 (A2 rfl ⟨false,rfl,_,rfl,(λh=>by cases h),λ_=>AW (A5 ?_)⟩))));exact WP.mono (N2 (L:=L) (n:=n+1) hv hB hT) (by rintro f x ⟨d,rfl,h⟩;exact h)
  .have rest:WS mB2 [some (.mu 1),some (.im (.tup l)),some (.im (.int w)),none,none] [a,b] (λf x=>match f with|.rt d=>PB B L (n+1) d x|.nx _=>PB B L (n+1) (.im .non) x|_=>False):=by
    refine AA (Af (Az (B8 (A2 rfl ⟨true,rfl,_,rfl,λ_=>?_,λh=>by cases h⟩))));exact WP.mono (Uy hL h1 h2 hT) (by rintro f x ⟨d,rfl,h⟩;exact h)
   refine AA (Af (D0 (Az (B8 (A2 rfl ⟨true,rfl,_,rfl,?_⟩)))));rw[i9 (by simp)];refine D0 (AQ (A9 (A2 rfl (BJ (A7 ⟨CA,?_⟩)))));rw[GZ];refine Yg (R8 30 _) (R8 30 (.tup [])) ⟨lay,by simp[I.py,I.pys,PyData.canLay0,PyData.canLayAll0],iJ (Nat.min_le_right _ _) (by simp[I.py,I.pys,PyData.depth,PyData.depthAll])⟩ ⟨_,rfl,?_⟩;rw[Uj];cases l with
   |nil=>
    rw[ic (by simp)];exact⟨(λh=>by cases h),λ_=>AW (A5 rest)⟩
   |cons t0 tr=>
    rw[i9 (by simp)];refine AQ (A9 (A2 rfl (AD (EI ⟨_,rfl,λ_=>?_,λ_=>AW (A5 rest)⟩))));clear rest;refine AA (AO ?_);refine tap.draw (n:=0) (many:=((t0::tr).length:Int)) (rest:=[]) hT (by simp[Ag]) (by simp) (by omega) λr a b hT p q=>A5 ?_;obtain⟨j,rfl⟩:∃j:Nat,r=(j:Int):=⟨r.toNat,by omega⟩
    have hj:j<(t0::tr).length:=by omega
    change WS _ [some (.mu 1),some (.im (.tup (t0::tr))),some (.im (.int w)),some (.im (.int (j:Int))),none] _ _;generalize t0::tr=l at *;refine AI (A9 (A9 (cq (j:=3) (ds:=l.map D.im) rfl rfl rfl (BJ (A3 ?_)))));rw[<- map_take,BU];refine tap.call (n:=0) (c:=0) (R:=Lv (2*B+2) (2*L+1) n) (as:=[.im l[j]]) (rest:=[]) hT ?_ (by simp) (λa b hT=>ih (by omega) (h2 _ (List.getElem_mem hj)) hT) ?_
    .have e:atI (l.map D.im) (j:Int)=some (.im l[j]):=Cr rfl (by simp[hj]);simp[e]
    intro i' a b hT lv;refine A7 ⟨CT,?_⟩;rw[show AV [D.im i']=.im (.tup [i'])from rfl];refine HW (by simp;omega) (Yw (c:=1) (j:=3) (ds:=l.map D.im) rfl rfl rfl ?_);rw[<- map_drop,BU];refine OJ (by simp) (by simp;omega) ?_;refine⟨_,a,b,_,rfl,.inr ⟨_,rfl,by simp;omega,λx hx=>?_⟩,hT,rfl⟩;simp only[mem_append,iB]at hx;have up:∀x,x∈l->Lv (2*B+2) (2*L+1) n x:=λx hx=>(h2 x hx).lv.mono (by omega) (by omega);rcases hx with(hx|rfl)|hx
    .exact up x (List.mem_of_mem_take hx)
    .exact lv
    .exact up x (List.mem_of_mem_drop hx)
def Xp{A:List Nat}{n:Nat}(nd:A.Nodup)(h:∀v,v∈A↔v<n):A.Perm (List.range n):=by
 rw[List.perm_ext_iff_of_nodup nd jv];intro v;rw[h];simp
theorem MN:∀{l L:List Nat},l.Nodup->(∀x∈l,x∈L)->l.length<=L.length
 |[],_,_,_=>by simp
 |x::r,L,nd,h=>by
  have hx:=h x (by simp);obtain⟨n1,n2⟩:=nodup_cons.mp nd;have ih:=MN (L:=L.erase x) n2 λy hy=>(List.mem_erase_of_ne λe=>by subst e;exact n1 hy).mpr (h y (by simp[hy]));have e:=List.length_erase_of_mem hx;have:0<L.length:=List.length_pos_of_mem hx;simp only[iM];omega
def S0{R:List Nat}{n:Nat}(nd:R.Nodup)(lt:∀x∈R,x<n)(ln:R.length=n):R.Perm (List.range n):=by
 refine Xp nd λv=>⟨lt v,λhv=>Classical.byContradiction λhn=>?_⟩
 have:=MN (l:=v::R) (L:=List.range n) (nodup_cons.mpr ⟨hn,nd⟩) λx hx=>by
  rcases mem_cons.mp hx with rfl|h
  .simpa using hv
  .simpa using lt x h
 simp at this;omega
theorem KU{R:List Nat}:∀l:List Nat,(∃x∈l,x∉R)->∃(i x:Nat),l[i]?=some x/\x∉R/\∀(i' y:Nat),i'<i->l[i']?=some y->y∈R
 |[],h=>by obtain⟨x,h,_⟩:=h;cases h
 |v::r,h=>by
  by_cases hv:v∈R
  .obtain⟨x,hx,hn⟩:=h;obtain⟨i,x,e,h1,h2⟩:=KU r ⟨x,by
    rcases mem_cons.mp hx with rfl|h
    .exact absurd hv hn
    .exact h,hn⟩
   refine⟨i+1,x,by simpa using e,h1,λi' y hi e'=>?_⟩;cases i' with
   |zero=>simp at e';subst e';exact hv
   |succ i'=>exact h2 i' y (by omega) (by simpa using e')
  .exact⟨0,v,rfl,hv,λi' y hi=>by omega⟩
def Li{hd:Hd}(R:List Nat):Ad hd (.im (AZ R))=some (intD (R.map λk:Nat=>(k:Int))):=by
 show some ((R.map λk:Nat=>I.int (k:Int)).map D.im)=_;rw[DI];simp[AS,intD]
def MP(R:List Nat):AS R=intD (R.map λk:Nat=>(k:Int)):=by simp[AS,intD]
def Di(R:List Nat)(k:Nat):((k:Int)∈R.map λk:Nat=>(k:Int))↔k∈R:=by
 rw[mem_map];constructor
 .rintro⟨a,h,e⟩;obtain rfl:a=k:=by omega
  exact h
 .exact λh=>⟨k,h,rfl⟩
def Wsh.lt{n:Nat}{seq:List Nat}{P:List (Nat×Nat)}(H:Wsh n seq P):∀q∈P,q.1<n/\q.2<n:=λq hq=>by
 obtain⟨a,b,e,h1,h2⟩:=H.ps (cs q) (mem_map.mpr ⟨q,hq,rfl⟩);simp only[cs,Prod.mk.injEq]at e;omega
def hld(P:List (Nat×Nat))(R:List Nat):List Nat:=P.filterMap λq=>if q.1∈R then none else some q.2
def sme(n:Nat)(P:List (Nat×Nat))(R:List Nat):List Nat:=(List.range n).filter λk=>decide (k∉R)&&decide (k∉hld P R)
structure Kp(n:Nat)(P:List (Nat×Nat))(R:List Nat):Prop where
 nd:R.Nodup
 lt:∀x∈R,x<n
 ok:∀q∈P,q.2∈R->q.1∈R/\R.idxOf q.1<R.idxOf q.2
def Yu{n:Nat}{seq:List Nat}{P:List (Nat×Nat)}(H:Wsh n seq P){R:List Nat}(K:Kp n P R)(lR:R.length<n):sme n P R≠[]:=by
 have ex:∃x∈seq,x∉R:=by
  refine Classical.byContradiction λhn=>?_;have nd:seq.Nodup:=H.pm.nodup_iff.mpr jv;have:=MN nd λx hx=>Classical.byContradiction λh=>hn ⟨x,hx,h⟩;have l2:=H.pm.length_eq;simp at l2;omega
 obtain⟨i,x,e,h1,h2⟩:=KU seq ex;have nd:seq.Nodup:=H.pm.nodup_iff.mpr jv;have xn:x<n:=by simpa using H.pm.mem_iff.mp (iH e)
 have nh:x∉hld P R:=λh=>by
  obtain⟨q,hq,e2⟩:=mem_filterMap.mp h;by_cases hR:q.1∈R
  .rw[i9 hR]at e2;cases e2
  .rw[ic hR]at e2
   injection e2 with e2
   subst e2;obtain⟨i1,j1,hlt,f1,f2⟩:=H.al q hq;have:j1=i:=by have:=JD nd f2;have:=JD nd e;omega
   subst this;exact hR (h2 i1 q.1 hlt f1)
 intro hs;have:x∈sme n P R:=by simp[sme,xn,h1,nh]
 rw[hs]at this;cases this
def Kp.add{n:Nat}{P:List (Nat×Nat)}{R:List Nat}(K:Kp n P R){x:Nat}(hx:x∈sme n P R):Kp n P (R++[x]):=by
 simp only[sme,mem_filter,List.mem_range,Bool.and_eq_true,jt]at hx;obtain⟨xn,h1,h2⟩:=hx;refine⟨?_,?_,λq hq hm=>?_⟩
 .rw[nodup_append];exact⟨K.nd,by simp,λa ha b hb=>by rw[iB]at hb;subst hb;intro e;subst e;exact h1 ha⟩
 .intro y hy;rcases mem_append.mp hy with h|h
  .exact K.lt y h
  .rw[iB]at h;subst h;exact xn
 .rcases mem_append.mp hm with h|h
  .obtain⟨k1,k2⟩:=K.ok q hq h;exact⟨by simp[k1],by rw[idxOf_append,idxOf_append,i9 k1,i9 h];exact k2⟩
  .rw[iB]at h;have k1:q.1∈R:=Classical.byContradiction λhn=>h2 (mem_filterMap.mpr ⟨q,hq,by rw[ic hn,h]⟩);refine⟨by simp[k1],?_⟩;rw[idxOf_append,idxOf_append,i9 k1,ic (by rw[h];exact h1)];have:=List.idxOf_lt_length_of_mem k1;omega
def Kp.vd{n:Nat}{seq:List Nat}{P:List (Nat×Nat)}(H:Wsh n seq P){R:List Nat}(K:Kp n P R)(lR:R.length=n):Vd n (P.map cs) R:=by
 have pm:=S0 K.nd K.lt lR;have hP:=H.lt;exact Q4 hP pm λq hq=>(K.ok q hq (pm.mem_iff.mpr (by simpa using (hP q hq).2))).2
inductive I_r(n:Nat)(P:List (Nat×Nat))(r:List D)(ls:Ls)(hd:Hd):Prop
 |mk (R:List Nat) (k:Nat) (a b:MO) (g:Hd) (z4 z5 z6:Option D) (er:r=AG (k:Int) (n-k)) (hk:k<=n) (el:ls=[some (.mu 1),some (.im (.int (n:Int))),some (.im (Rw.wI (P.map cs))),some (.im (AZ R)),z4,z5,z6]) (eh:hd=a::b::g) (hT:T 0 a b) (lR:R.length=k) (K:Kp n P R):I_r n P r ls hd
set_option maxHeartbeats 1000000 in
def YS{n:Nat}(n8:n<=8){seq:List Nat}{P:List (Nat×Nat)}(H:Wsh n seq P)(a b:MO)(hT:T 0 a b):WF Hc [.mu 1,.im (.int (n:Int)),.im (Rw.wI (P.map cs))] [a,b] λd x=>∃i a' b' g,d=.im i/\(∃R,i=AZ R/\Vd n (P.map cs) R)/\T 0 a' b'/\x=a'::b'::g:=by
 have Pl:=H.le;unfold Hc;refine Ak rfl ?_;refine AA (AO (BJ (A7 ⟨CA,A5 ?_⟩)));rw[GZ];change WS _ [some (.mu 1),some (.im (.int (n:Int))),some (.im (Rw.wI (P.map cs))),some (.im (AZ [])),none,none,none] _ _;refine AA (BI (Cm (A3 (A2 rfl (A7 ⟨_,rfl,BC (by omega) (by omega),?_⟩)))));rw[iO];refine B5 (I_r n P) (.mk [] 0 a b [] none none none rfl (by omega) rfl rfl hT rfl ⟨by simp,by simp,by simp⟩) ?_ ?_
 .intro d r ls hd hI;obtain⟨R,k,a,b,g,z4,z5,z6,er,hk,rfl,rfl,hT,lR,K⟩:=hI;obtain⟨m,hm⟩:∃m,n-k=m+1:=by
   cases q:n-k with
   |zero=>rw[q]at er;cases er
   |succ m=>exact⟨m,rfl⟩
  rw[hm,AG]at er;obtain⟨rfl,rfl⟩:=List.cons.inj er;refine⟨[some (.mu 1),some (.im (.int (n:Int))),some (.im (Rw.wI (P.map cs))),some (.im (AZ R)),some (.im (.int (k:Int))),z5,z6],rfl,?_⟩;refine AA (AO (B7 (Aq (C0 (A2 rfl ⟨((P.map cs).map DO).map D.im,rfl,?_⟩)))));rw[Rw.pairs_im,iF];refine⟨AY (by simp;omega),?_⟩;refine BQ (xs:=P) (Ar ∘ cs) (λq=>if q.1∈R then none else some (.im (.int (q.2:Int)))) (λ_ ls=>∃x y,ls=[some x,some y,some (.im (AZ R))]) _ (AK _) ?_ ?_
  .rintro q hq ls hls;refine⟨[some (.im (.int (q.1:Int))),some (.im (.int (q.2:Int))),some (.im (AZ R))],by rcases hls with rfl|⟨_,x,y,rfl⟩<;>rfl,⟨_,_,rfl⟩,?_⟩;refine AQ (A9 (A2 rfl (A2 rfl (GO (Li R) ⟨_,rfl,rfl,?_⟩))));rw[i9 rfl];by_cases h:q.1∈R
   .rw[ic (by simp[Di,h]),i9 h]
   .rw[i9 (by simp[Di,h]),ic h];exact⟨_,rfl,A2 rfl ⟨rfl,rfl⟩⟩
  have e1:(P.filterMap λq=>if q.1∈R then none else some (D.im (.int (q.2:Int))))=AS (hld P R):=by
   unfold hld AS;rw[List.map_filterMap]
   congr 1
   funext q
   by_cases h:q.1∈R<;>simp[h]
  rw[e1];refine A5 ?_;change WS _ [some (.mu 1),some (.im (.int (n:Int))),some (.im (Rw.wI (P.map cs))),some (.im (AZ R)),some (.im (.int (k:Int))),some (.mu (a::b::g).length),z6] (a::b::(g++[.lst (AS (hld P R))])) _;refine AA (AO (B7 (Aq (Cm (A3 (A2 rfl (A7 ⟨_,rfl,BC (by omega) (by omega),?_⟩)))))));rw[iO,Ix];refine⟨AY (by simp;omega),?_⟩;have sv:∀(a' b':MO) (g':Hd),Ad (a'::b'::(g++.lst (AS (hld P R))::g')) (.mu (a::b::g).length)=some (intD ((hld P R).map λk:Nat=>(k:Int))):=λa' b' g'=>by
   rw[<- MP];simp[Ad,AL,Ay]
  refine BQ (xs:=List.range n) (λk:Nat=>D.im (.int (k:Int))) (λk=>if k∉R/\k∉hld P R then some (.im (.int (k:Int)))else none) (λ_ ls=>∃x,ls=[some x,some (.im (AZ R)),some (.mu (a::b::g).length)]) _ (AK _) ?_ ?_
  .rintro q hq ls hls;refine⟨[some (.im (.int (q:Int))),some (.im (AZ R)),some (.mu (a::b::g).length)],by rcases hls with rfl|⟨_,x,rfl⟩<;>rfl,⟨_,rfl⟩,?_⟩;refine D0 (AQ (A9 (A2 rfl (A2 rfl (GO (Li R) ⟨_,rfl,?_⟩)))));rw[i9 rfl];by_cases h:q∈R
   .rw[ic (by simp[Di,h])];exact⟨rfl,by rw[ic (by simp),ic (by simp[h])]⟩
   .rw[i9 (by simp[Di,h])];refine AQ (A9 (A2 rfl (A2 rfl (GO (sv a b []) ⟨_,rfl,rfl,?_⟩))));rw[i9 rfl];by_cases h2:q∈hld P R
    .rw[ic (by simp[Di,h2]),ic (by simp[h2])]
    .rw[i9 (by simp[Di,h2]),i9 ⟨h,h2⟩];exact⟨_,rfl,A2 rfl ⟨rfl,rfl⟩⟩
  have e2:((List.range n).filterMap λk=>if k∉R/\k∉hld P R then some (D.im (.int (k:Int)))else none)=AS (sme n P R):=by
   unfold sme AS;rw[<- List.filterMap_eq_filter,List.map_filterMap]
   congr 1
   funext k
   by_cases h:k∈R<;>by_cases h2:k∈hld P R<;>simp[h,h2,Option.guard]
  rw[e2];refine A5 ?_;have ne:=Yu H K (by omega);have sl:(sme n P R).length<=8:=by
   have:(sme n P R).length<=(List.range n).length:=List.length_filter_le _ _;simp at this;omega
  have s0:0<(sme n P R).length:=List.length_pos_iff.mpr ne;have all:∀x∈sme n P R,Kp n P (R++[x]):=λx hx=>K.add hx;generalize sme n P R=S at sl s0 all;obtain⟨g2,eg2⟩:∃g2,g2=g++[.lst (AS (hld P R))]:=⟨_,rfl⟩
  rw[<- eg2];change WS _ [some (.mu 1),some (.im (.int (n:Int))),some (.im (Rw.wI (P.map cs))),some (.im (AZ R)),some (.im (.int (k:Int))),some (.mu (a::b::g).length),some (.mu (a::b::g2).length)] (a::b::(g2++[.lst (AS S)])) _;have sS:∀(a' b':MO),Ad (a'::b'::(g2++[.lst (AS S)])) (.mu (a::b::g2).length)=some (AS S):=λa' b'=>by simp[Ad,AL,Ay]
  refine AO (A9 (A2 rfl (BJ (A3 (A9 (A2 rfl ?_))))));refine tap.draw (n:=0) (many:=(S.length:Int)) (rest:=g2++[.lst (AS S)]) hT (by simp[Ag]) (by omega) (by omega) λr1 a' b' hT p1 q1=>?_;obtain⟨j,rfl⟩:∃j:Nat,r1=(j:Int):=⟨r1.toNat,by omega⟩
  have hj:j<S.length:=by omega
  refine AR (sS a' b') (J5 (List.getElem?_eq_getElem hj)) (A7 ⟨CT,?_⟩);have kp:=all S[j] (List.getElem_mem hj);generalize S[j]=x at kp;refine HW (l:=R.map λk:Nat=>I.int (k:Int)) (l':=[I.int (x:Int)]) (by simp;omega) ?_;rw[show(R.map λk:Nat=>I.int (k:Int))++[I.int (x:Int)]=(R++[x]).map λk:Nat=>I.int (k:Int) by simp];exact⟨AK _,.mk (R++[x]) (k+1) a' b' _ _ _ _ (by rw[show((k:Int)+1)=((k+1:Nat):Int) by omega,show m=n-(k+1) by omega]) (by omega) rfl rfl hT (by simp[lR]) kp⟩
 intro ls hd hI;obtain⟨R,k,a,b,g,z4,z5,z6,er,hk,rfl,rfl,hT,lR,K⟩:=hI;have hk':k=n:=by
  cases q:n-k with
  |zero=>omega
  |succ m=>rw[q]at er;cases er
 exact A5 (AI (A2 rfl ⟨_,a,b,g,rfl,⟨R,rfl,K.vd H (by omega)⟩,hT,rfl⟩))
def MZ(o:List Nat)(a:Nat):(o.map λk:Nat=>(k:Int)).idxOf (a:Int)=o.idxOf a:=by
 induction o with
 |nil=>rfl
 |cons x r ih=>
  rw[iD,List.idxOf_cons,List.idxOf_cons,ih];by_cases h:x=a
  .subst h;simp
  .have h1:((x:Int)==(a:Int))=false:=by simp;omega
   have h2:(x==a)=false:=by simpa using h
   rw[h1,h2]
def US(bs:List Bool):∃vs,Bq (blD bs)=some vs/\inV (.bl false) vs=bs.any (!·):=by
 induction bs with
 |nil=>exact⟨[],rfl,rfl⟩
 |cons b r ih=>
  obtain⟨vs,e,h⟩:=ih;refine⟨.bl b::vs,?_,?_⟩
  .show((Dw (.bl b)).bind λv=>(Bq (blD r)).map (v::·))=_;rw[e];rfl
  .unfold inV at h ⊢;rw[any_cons,h,any_cons]
   congr 1
   cases b<;>rfl
def wsd(P:List (Nat×Nat))(R:List Nat):Bool:=P.all λq=>decide (R.idxOf q.1<R.idxOf q.2)
def Pv{n:Nat}{seq:List Nat}{P:List (Nat×Nat)}(H:Wsh n seq P){R:List Nat}(pm:R.Perm (List.range n)):wsd P R=true↔Vd n (P.map cs) R:=by
 unfold wsd;rw[all_eq_true];constructor
 .intro hb;exact Q4 H.lt pm λq hq=>by simpa using hb q hq
 .intro v x hx;obtain⟨a,b,e,_,_,hl⟩:=v.kp (cs x) (mem_map.mpr ⟨x,hx,rfl⟩);simp only[cs,Prod.mk.injEq]at e;have e1:x.1=a:=by omega
  have e2:x.2=b:=by omega
  rw[e1,e2];exact ja hl
def Sn{n:Nat}{seq:List Nat}{P:List (Nat×Nat)}(H:Wsh n seq P){R:List Nat}(pm:R.Perm (List.range n)):WF GH [.im (AZ R),.im (Rw.wI (P.map cs))] [] λd x=>d=.im (.bl (wsd P R))/\x=[]:=by
 have Pl:=H.le;have hP:=H.lt;have mem:∀k,k<n->k∈R:=λk hk=>pm.mem_iff.mpr (by simpa using hk);unfold GH;refine Ak rfl ?_;refine AI (Yi (AD (Aq (C0 (A2 rfl ⟨((P.map cs).map DO).map D.im,rfl,?_⟩)))));rw[Rw.pairs_im,iF];refine⟨AY (by simp;omega),?_⟩;refine BQ (xs:=P) (Ar ∘ cs) (λq=>some (.im (.bl (decide (R.idxOf q.1<R.idxOf q.2))))) (λ_ ls=>∃x y,ls=[some x,some y,some (.im (AZ R))]) _ (AK _) ?_ ?_
 .rintro q hq ls hls;have vi:B3 ((R.map λk:Nat=>I.int (k:Int)).map D.im)=some (R.map λk:Nat=>(k:Int)):=by
   rw[DI,MP];exact KS _
  have ia:(q.1:Int)∈R.map λk:Nat=>(k:Int):=mem_map.mpr ⟨q.1,mem _ (hP q hq).1,rfl⟩;have ib:(q.2:Int)∈R.map λk:Nat=>(k:Int):=mem_map.mpr ⟨q.2,mem _ (hP q hq).2,rfl⟩;refine⟨[some (.im (.int (q.1:Int))),some (.im (.int (q.2:Int))),some (.im (AZ R))],by rcases hls with rfl|⟨_,x,y,rfl⟩<;>rfl,⟨_,_,rfl⟩,B4 ⟨rfl,?_⟩⟩;rw[i9 rfl];refine⟨_,rfl,A9 (Q0 (A2 rfl ⟨⟨_,rfl⟩,A3 (A2 rfl (A7 (K9 rfl vi ia (Q0 (A2 rfl ⟨⟨_,rfl⟩,A3 (A2 rfl (A7 (K9 rfl vi ib (EI ⟨rfl,?_⟩))))⟩)))))⟩))⟩;rw[MZ,MZ];simp
 have e:(P.filterMap λq=>some (D.im (.bl (decide (R.idxOf q.1<R.idxOf q.2)))))=blD (P.map λq=>decide (R.idxOf q.1<R.idxOf q.2)):=by simp[blD]
 rw[e];obtain⟨vs,ev,h⟩:=US (P.map λq=>decide (R.idxOf q.1<R.idxOf q.2));refine⟨_,_,vs,rfl,rfl,ev,?_,rfl⟩;rw[i9 rfl,h,List.not_any_eq_all_not,all_map];unfold wsd
 congr 3
 funext q
 simp
abbrev rwD(r:List Nat):D:=.im (AZ r)
def Qg(r:List Nat):AV ((r.map λk:Nat=>I.int (k:Int)).map D.im)=rwD r:=BU _
def Uu{x y:List Nat}(hl:x.length+y.length<=1000){hd:Hd}{QE:D->Hd->Prop}(q:QE (rwD (x++y)) hd):WP (DW (rwD x) (rwD y) hd) QE:=by
 refine HW (l:=x.map λk:Nat=>I.int (k:Int)) (l':=y.map λk:Nat=>I.int (k:Int)) (by simp;omega) ?_;rw[<- j6];exact q
def YT{x y:List Nat}(hx:x≠[])(hl:x.length+y.length<=1000){hd:Hd}{QE:D->Hd->Prop}(q:QE (rwD (x++y)) hd):WP (AX (rwD x) (rwD y) hd) QE:=by
 refine OJ (l:=x.map λk:Nat=>I.int (k:Int)) (l':=y.map λk:Nat=>I.int (k:Int)) (by simpa using hx) (by simp;omega) ?_;rw[<- j6];exact q
def ins(j:Nat)(row:List Nat):List (List Nat):=(List.range (row.length+1)).map λi=>row.take i++j::row.drop i
def Be:Nat->List (List Nat)
 |0=>[[]]
 |j+1=>(Be j).flatMap (ins j)
theorem EM:∀n,∀r∈Be n,r.Perm (List.range n)
 |0,r,h=>by simp[Be]at h;subst h;simp
 |n+1,r,h=>by
  simp only[Be,List.mem_flatMap,ins,mem_map]at h;obtain⟨row,hr,i,hi,rfl⟩:=h;have h1:(row.take i++n::row.drop i).Perm (n::row):=by
   have:=List.perm_middle (a:=n) (l₁:=row.take i) (l₂:=row.drop i)
   rwa [jF]at this
  refine h1.trans ?_;rw[jl];exact((List.Perm.cons n (EM n row hr)).trans (List.perm_append_singleton n _).symm)
theorem KJ:∀n,∀r:List Nat,r.Perm (List.range n)->r∈Be n
 |0,r,h=>by
  have:r=[]:=by simpa using h
  subst this;simp[Be]
 |n+1,r,h=>by
  have hn:n∈r:=h.mem_iff.mpr (by simp);obtain⟨s,t,rfl⟩:=List.append_of_mem hn;have h2:(s++t).Perm (List.range n):=by
   have a1:(n::(s++t)).Perm (n::List.range n):=(List.perm_middle (a:=n) (l₁:=s) (l₂:=t)).symm.trans (h.trans (by rw[jl];exact List.perm_append_singleton n _));exact a1.cons_inv
  simp only[Be,List.mem_flatMap,ins,mem_map];exact⟨s++t,KJ n _ h2,s.length,by simp;omega,by simp⟩
def KI:∀n,n<=5->(Be n).length<=120:=by
 intro n hn;rcases(show n=0∨n=1∨n=2∨n=3∨n=4∨n=5 by omega)with rfl|rfl|rfl|rfl|rfl|rfl<;>decide
def cK{F:List D->Hd->Option (D×Hd)}{m:MA}{ls:Ls}{hd rest:Hd}{a b:MO}{as:List D}{QE:D->Hd->Prop}(e:m ls hd=some (.mu 1::as,a::b::rest))(hT:T 0 a b)(hc:Au 2 as=true)
 (hF:WF F (.mu 1::as) [a,b] λd x=>∃k es a' b' g,d=.mu k/\2<=k/\x=a'::b'::g/\x[k]?=some (.lst es)/\Au 2 es=true/\T 0 a' b'/\QE (.mu (2+rest.length)) (a'::b'::(rest++[.lst es]))):WE (A6 2 F m) ls hd QE:=by
 obtain⟨d,x,e2,k,es,a',b',g,rfl,hk,rfl,e3,c3,hT',q⟩:=hF;refine⟨_,_,?_,q⟩;have t3:¬ k<2:=by omega
 have ca:=tap.cl hT;have ca':=tap.cl hT';have c0:Au 2 (D.mu 1::as)=true:=by simp[Au,clD,hc]
 simp only[A6,e,bind_some,List.take_succ_cons,List.take_zero,c0,all_cons,List.all_nil,ca.1,ca.2,Bool.and_self,iE,e2,fin,ca'.1,ca'.2,ic t3,e3,c3];simp[Nat.add_comm]
 try omega
def dg{r:List Nat}{i j:Nat}(hi:i<=r.length)(hl:r.length<=100){ls:Ls}{hd:Hd}{QE:D->Hd->Prop}(eR:ls[6]?=some (some (rwD r)))(e6:ls[7]?=some (some (.im (.int (i:Int)))))(e3:ls[4]?=some (some (.im (.int (j:Int)))))(q:QE (rwD (r.take i++j::r.drop i)) hd):
 WE (mOp AX (mOp DW (Bm (A0 6) Ap (BN (A0 7))) (Ae (A1 (A0 4) A4))) (Bm (A0 6) (BN (A0 7)) Ap)) ls hd QE:=by
 have c1:Br ((r.map λk:Nat=>I.int (k:Int)).map D.im) none (some (i:Int))=((r.take i).map λk:Nat=>I.int (k:Int)).map D.im:=by
  rw[Uo,map_take,map_take]
 have c2:Br ((r.map λk:Nat=>I.int (k:Int)).map D.im) (some (i:Int)) none=((r.drop i).map λk:Nat=>I.int (k:Int)).map D.im:=by
  unfold Br;rw[HT.sIx_nat,HT.sIx_none,map_drop,map_drop,iu,iu,Nat.min_eq_left hi];exact jg (by simp)
 refine A9 (A9 (FU (A2 eR (F8 (DG (A2 e6 ⟨_,rfl,?_⟩))))));refine⟨_,rfl,?_⟩;rw[c1,Qg];refine BJ (A3 (A2 e3 (A7 ⟨CT,?_⟩)));rw[show AV [D.im (.int (j:Int))]=rwD [j]from rfl];refine Uu (by simp;omega) ?_;refine FU (A2 eR (DG (A2 e6 ⟨_,rfl,F8 ⟨_,rfl,?_⟩⟩)));rw[c2,Qg];refine YT (by simp) (by simp;omega) ?_;simpa using q
def geq(h:Hd)(x:MO):(h++[x])[h.length]?=some x:=by simp
def eF(h:Hd)(x y:MO):(h++[x]).set h.length y=h++[y]:=by simp
def glt{h:Hd}{p:Nat}{x y:MO}(e:h[p]?=some x):(h++[y])[p]?=some x:=by
 rw[List.getElem?_append_left (List.getElem?_eq_some_iff.mp e).1];exact e
def tv(x:List Nat):AL (rwD x)=some ((x.map λk:Nat=>I.int (k:Int)).map D.im):=rfl
def fD(n:Nat)(P:List (Nat×Nat))(S:List (List Nat)):Prop:=S≠[]/\S.length<=1000/\∀r∈S,Vd n (P.map cs) r
inductive I_c(n:Nat)(P:List (Nat×Nat))(r es:List D)(ls:Ls)(hd:Hd):Prop
 |mk (S:List (List Nat)) (k:Nat) (a b:MO) (z:Option D) (er:r=AG (k:Int) (24-k)) (hk:k<=24) (ee:es=S.map rwD) (lS:S.length=k) (ok:∀R∈S,Vd n (P.map cs) R) (el:ls=[z,some (.mu 1),some (.im (.int (n:Int))),some (.im (Rw.wI (P.map cs)))]) (eh:hd=[a,b]) (hT:T 0 a b):I_c n P r es ls hd
set_option maxHeartbeats 1000000 in
def UA{n:Nat}(n8:n<=8){seq:List Nat}{P:List (Nat×Nat)}(H:Wsh n seq P)(a b:MO)(hT:T 0 a b):WF F6 [.mu 1,.im (.int (n:Int)),.im (Rw.wI (P.map cs))] [a,b] λd x=>∃k S a' b' g,d=.mu k/\2<=k/\x=a'::b'::g/\x[k]?=some (.lst (S.map rwD))/\T 0 a' b'/\fD n P S:=by
 unfold F6;refine Ak rfl ?_;refine AA (Af (AQ (A9 (A2 rfl (AD (Ic ⟨_,rfl,λh5=>?_,λh5=>AW (A5 ?_)⟩))))))
 .refine AI (B7 (Aq (Cm (A3 (AD (A7 ⟨_,rfl,BC (by decide) (by decide),AY (by decide),?_⟩))))));refine OR (I_c n P) (.mk [] 0 a b none rfl (by omega) rfl rfl (by simp) rfl rfl hT) ?_ ?_
  .intro d r es ls hd hI;obtain⟨S,k,a,b,z,er,hk,rfl,lS,ok,rfl,rfl,hT⟩:=hI;obtain⟨m,hm⟩:∃m,24-k=m+1:=by
    cases q:24-k with
    |zero=>rw[q]at er;cases er
    |succ m=>exact⟨m,rfl⟩
   rw[hm,AG]at er;obtain⟨rfl,rfl⟩:=List.cons.inj er;refine⟨[some (.im (.int (k:Int))),some (.mu 1),some (.im (.int (n:Int))),some (.im (Rw.wI (P.map cs)))],rfl,B4 ?_⟩;rw[i9 rfl];refine tap.call (n:=0) (c:=0) (R:=λi=>∃R,i=AZ R/\Vd n (P.map cs) R) (as:=[.im (.int (n:Int)),.im (Rw.wI (P.map cs))]) (rest:=[]) hT rfl (by simp) (λa b hT=>YS n8 H a b hT) ?_;rintro i a b hT ⟨R,rfl,v⟩;refine⟨AK _,.mk (S++[R]) (k+1) a b _ (by rw[show((k:Int)+1)=((k+1:Nat):Int) by omega,show m=24-(k+1) by omega]) (by omega) (by simp) (by simp[lS]) (λx hx=>?_) rfl rfl hT⟩;rcases mem_append.mp hx with h|h
   .exact ok x h
   .rw[iB]at h;subst h;exact v
  intro es ls hd hI;obtain⟨S,k,a,b,z,er,hk,rfl,lS,ok,rfl,rfl,hT⟩:=hI;have hk':k=24:=by
   cases q:24-k with
   |zero=>omega
   |succ m=>rw[q]at er;cases er
  exact⟨2,S,a,b,[.lst (S.map rwD)],rfl,by omega,rfl,rfl,hT,by intro h;subst h;simp at lS;omega,by omega,ok⟩
 have h6:n<6:=by have:=of_decide_eq_false h5;omega
 refine AA (AO (B7 (C9 (A3 (BJ (A7 ⟨CA,A7 ⟨CT,A5 ?_⟩⟩))))));change WS _ [some (.mu 1),some (.im (.int (n:Int))),some (.im (Rw.wI (P.map cs))),some (.mu 2),none,none,none,none] [a,b,.lst [rwD []]] _;refine AA (BI (Cm (A3 (A2 rfl (A7 ⟨_,rfl,BC (by omega) (by omega),?_⟩)))));rw[iO];refine B5 (λr ls hd=>∃(j p:Nat) (a b:MO) (g:Hd) (z4 z5 z6 z7:Option D),r=AG (j:Int) (n-j)/\j<=n/\2<=p/\hd[p]?=some (.lst ((Be j).map rwD))/\ls=[some (.mu 1),some (.im (.int (n:Int))),some (.im (Rw.wI (P.map cs))),some (.mu p),z4,z5,z6,z7]/\hd=a::b::g/\T 0 a b) ⟨0,2,a,b,_,none,none,none,none,rfl,by omega,by omega,rfl,rfl,rfl,hT⟩ ?_ ?_
 .rintro d r ls hd ⟨j,p,a,b,g,z4,z5,z6,z7,er,hj,hp,ep,rfl,rfl,hT⟩;obtain⟨m,hm⟩:∃m,n-j=m+1:=by
   cases q:n-j with
   |zero=>rw[q]at er;cases er
   |succ m=>exact⟨m,rfl⟩
  rw[hm,AG]at er;obtain⟨rfl,rfl⟩:=List.cons.inj er;refine⟨_,rfl,?_⟩;dsimp only[set_cons_zero,set_cons_succ];generalize hh:(a::b::g)=h0 at ep ⊢;refine AA (AO (B7 (C9 (A7 ⟨CA,A5 ?_⟩))));change WS _ [some (.mu 1),some (.im (.int (n:Int))),some (.im (Rw.wI (P.map cs))),some (.mu p),some (.im (.int (j:Int))),some (.mu h0.length),z6,z7] (h0++[.lst []]) _;have tot:(Be (j+1)).length<=120:=KI (j+1) (by omega);refine AA (BI (Ef (A2 rfl ⟨p,_,rfl,glt ep,?_⟩)));refine B5 (λr ls hd=>∃(dn rest:List (List Nat)) (z6 z7:Option D),Be j=dn++rest/\r=rest.map rwD/\ls=[some (.mu 1),some (.im (.int (n:Int))),some (.im (Rw.wI (P.map cs))),some (.mu p),some (.im (.int (j:Int))),some (.mu h0.length),z6,z7]/\hd=h0++[.lst ((dn.flatMap (ins j)).map rwD)]) ⟨[],Be j,_,_,rfl,rfl,rfl,rfl⟩ ?_ ?_
  .rintro d r ls hd ⟨dn,rest,z6,z7,eS,er',rfl,rfl⟩;cases rest with
   |nil=>cases er'
   |cons u rest=>
    obtain⟨rfl,rfl⟩:=List.cons.inj er';have hu:=EM j u (by rw[eS];simp);have ul:u.length=j:=by simpa using hu.length_eq
    have lt:(dn.flatMap (ins j)).length+(ins j u).length<=120:=by
     have e:Be (j+1)=dn.flatMap (ins j)++(ins j u++rest.flatMap (ins j)):=by rw[Be,eS,List.flatMap_append,List.flatMap_cons]
     rw[e]at tot;simp only[iL]at tot;omega
    refine⟨_,rfl,?_⟩;dsimp only[set_cons_zero,set_cons_succ];refine BI (Cm (A3 (A9 (Ce (A3 (A2 rfl (A7 ?_)))))));refine F7 (z:=.im (.int (u.length:Int))) (tv u) (by simp[Ag]) ?_;refine AD (C4 (A7 ⟨_,rfl,BC (by omega) (by omega),?_⟩));rw[show((u.length:Int)+1).toNat=u.length+1 by omega];refine B5 (λr ls hd=>∃(i:Nat) (z7:Option D),r=AG (i:Int) (u.length+1-i)/\i<=u.length+1/\ls=[some (.mu 1),some (.im (.int (n:Int))),some (.im (Rw.wI (P.map cs))),some (.mu p),some (.im (.int (j:Int))),some (.mu h0.length),some (rwD u),z7]/\hd=h0++[.lst ((dn.flatMap (ins j)++(List.range i).map λi=>u.take i++j::u.drop i).map rwD)]) ⟨0,_,rfl,by omega,rfl,by simp⟩ ?_ ?_
    .rintro d r ls hd ⟨i,z7,er',hi,rfl,rfl⟩;obtain⟨m',hm'⟩:∃m,u.length+1-i=m+1:=by
      cases q:u.length+1-i with
      |zero=>rw[q]at er';cases er'
      |succ m=>exact⟨m,rfl⟩
     rw[hm',AG]at er';obtain⟨rfl,rfl⟩:=List.cons.inj er';refine⟨_,rfl,?_⟩;dsimp only[set_cons_zero,set_cons_succ];refine Cs (F9 (A2 rfl ⟨⟨_,by rw[LG,geq]⟩,A3 (dg (r:=u) (i:=i) (j:=j) (by omega) (by omega) rfl rfl rfl (A7 ?_))⟩));have il:(ins j u).length=u.length+1:=by simp[ins]
     refine D1 (geq _ _) (Bi (by simp at lt ⊢;omega)) ?_;rw[eF];refine⟨AK _,i+1,_,by rw[show((i:Int)+1)=((i+1:Nat):Int) by omega,show m'=u.length+1-(i+1) by omega],by omega,rfl,?_⟩;rw[jl];simp
    .rintro ls hd ⟨i,z7,er',hi,rfl,rfl⟩;have hi':i=u.length+1:=by
      cases q:u.length+1-i with
      |zero=>omega
      |succ m=>rw[q]at er';cases er'
     subst hi';refine⟨by intro q hq;rw[iB]at hq;subst hq;exact glt ep,dn++[u],rest,_,_,by rw[eS];simp,rfl,rfl,?_⟩;rw[List.flatMap_append];simp[ins]
  .rintro ls hd ⟨dn,rest,z6,z7,eS,er',rfl,rfl⟩;have:rest=[]:=by cases rest with
    |nil=>rfl
    |cons _ _=>cases er'
   subst this;rw[iS]at eS;refine A5 (AO (A2 rfl ?_));dsimp only[set_cons_zero,set_cons_succ];subst hh;refine⟨AK _,j+1,(a::b::g).length,a,b,g++[_],_,_,_,_,by rw[show((j:Int)+1)=((j+1:Nat):Int) by omega,show m=n-(j+1) by omega],by omega,by simp,?_,rfl,rfl,hT⟩;rw[geq,<- eS];rfl
 .rintro ls hd ⟨j,p,a,b,g,z4,z5,z6,z7,er,hj,hp,ep,rfl,rfl,hT⟩;have hj':j=n:=by
   cases q:n-j with
   |zero=>omega
   |succ m=>rw[q]at er;cases er
  subst hj';have pl:=KI j (by omega);refine A5 (AI (B7 (Aq (Ef (A2 rfl ⟨p,_,rfl,ep,AY (by simp;omega),?_⟩)))));refine BQ rwD (λR=>if wsd P R=true then some (rwD R)else none) (λ_ ls=>∃x,ls=[some x,some (.im (Rw.wI (P.map cs)))]) _ (by intro q hq;rw[iB]at hq;subst hq;exact ep) ?_ ?_
  .rintro R hR ls hls;refine⟨[some (rwD R),some (.im (Rw.wI (P.map cs)))],by rcases hls with rfl|⟨_,x,rfl⟩<;>rfl,⟨_,rfl⟩,?_⟩;refine Az (AT (A3 (A2 rfl (A3 (A2 rfl (A7 ⟨by simp,(Sn H (EM j R hR)).mono ?_⟩))))));rintro d x ⟨rfl,rfl⟩;refine⟨_,rfl,_,rfl,rfl,?_⟩;by_cases h:wsd P R=true
   .rw[i9 h,i9 h];exact⟨_,rfl,A2 rfl ⟨rfl,rfl⟩⟩
   .rw[ic h,ic h]
  have e1:((Be j).filterMap λR=>if wsd P R=true then some (rwD R)else none)=((Be j).filter (wsd P)).map rwD:=by
   rw[<- List.filterMap_eq_filter,List.map_filterMap]
   congr 1
   funext R
   by_cases h:wsd P R<;>simp[h,Option.guard]
  rw[e1];have fl:((Be j).filter (wsd P)).length<=(Be j).length:=List.length_filter_le _ _;refine⟨_,(Be j).filter (wsd P),a,b,g++[_],rfl,by simp,rfl,by simp,hT,λh=>?_,by omega,λR hR=>?_⟩
  .have:seq∈(Be j).filter (wsd P):=mem_filter.mpr ⟨KJ j seq H.pm,(Pv H H.pm).mpr (Ym H)⟩;rw[h]at this;cases this
  .obtain⟨h1,h2⟩:=mem_filter.mp hR;exact(Pv H (EM j R h1)).mp h2
def Xv{ns:List Int}(hne:ns≠[]):∃m,IP (intD ns)=some (.im (.int m))/\m∈ns/\∀x∈ns,m<=x:=by
 have e:B3 (intD ns)=some ns:=by
  clear hne
  induction ns with
  |nil=>rfl
  |cons n r ih=>simp[intD]at ih ⊢
 obtain⟨m1,m2⟩:=Ga hne;exact⟨G4 ns,by unfold IP;rw[e];simp[hne],m1,m2⟩
def SU{F:List D->Hd->Option (D×Hd)}{m:MA}{ls:Ls}{hd:Hd}{QE:D->Hd->Prop}(h:WA m ls hd λds x=>∃(a b:MO) (rest:Hd) (as:List D) (R:I->Prop),x=a::b::rest/\ds=.mu 1::as/\T 0 a b/\Au 2 as=true/\(∀a b,T 0 a b->WF F (.mu 1::as) [a,b] λd x=>∃i a' b' g,d=.im i/\R i/\T 0 a' b'/\x=a'::b'::g)/\∀i a' b',T 0 a' b'->R i->QE (.im i) (a'::b'::rest)):WE (A6 2 F m) ls hd QE:=by
 obtain⟨ds,x,e,a,b,rest,as,R,rfl,rfl,hT,hc,hF,k⟩:=h;exact tap.call (n:=0) (c:=0) hT e hc hF k
structure Pap(n:Nat)(P:List (Nat×Nat))(i:I):Prop where
 is:∃E:List Ent,i=Dh E/\E.length<=5/\∀e∈E,PE n P e
def Pap.pr{n:Nat}{P:List (Nat×Nat)}(n8:n<=8){i:I}(h:Pap n P i):Pr 3000000 8 3 i:=by
 obtain⟨E,rfl,hl,hE⟩:=h;refine .inr ⟨_,rfl,by simp;omega,λx hx=>?_⟩;obtain⟨e,he,rfl⟩:=mem_map.mp hx;have h:=hE e he;have sl:=Ih h.ok.pw h.ok.lt;have q0:=h.ok.rd.q0;have p0:=h.ok.p0;have hp:=h.p;have hq:=h.q;have ha:=h.ok.a;refine .inr ⟨_,rfl,by simp,λx hx=>?_⟩;simp only[ip,iV,j4]at hx;rcases hx with rfl|rfl|rfl
 .exact J1 (by omega)
 .refine .inr ⟨_,rfl,by simp;omega,λx hx=>?_⟩;obtain⟨k,hk,rfl⟩:=mem_map.mp hx;have:=h.ok.lt k hk;exact J1 (by omega)
 .refine .inr ⟨_,rfl,by simp,λx hx=>?_⟩;simp only[ip,iV,j4]at hx;rcases hx with rfl|rfl
  .exact J1 (by omega)
  .exact J1 (by omega)
def Pap.good{n:Nat}{P:List (Nat×Nat)}{i:I}(h:Pap n P i):∃l,i=.tup l/\∀e∈l,Good n (P.map cs) e:=by
 obtain⟨E,rfl,hl,hE⟩:=h;refine⟨_,rfl,λx hx=>?_⟩;obtain⟨e,he,rfl⟩:=mem_map.mp hx;have h:=(hE e he).ok;exact .mk e.a e.S e.p e.q h.a h.pw h.lt h.rc h.rd h.p0
inductive I_q(c:Int)(ws:List (Int×Int))(P:List (Nat×Nat))(r es:List D)(ls:Ls)(hd:Hd):Prop
 |mk (S:List I) (k:Nat) (a b:MO) (z:Option D) (er:r=AG (k:Int) (5-k)) (hk:k<=5) (ee:es=S.map D.im) (lS:S.length=k) (ok:∀i∈S,Pap ws.length P i) (el:ls=[z,some (.mu 1),some (.im (Am c ws)),some (.im (Rw.wI (P.map cs)))]) (eh:hd=[a,b]) (hT:T 0 a b):I_q c ws P r es ls hd
abbrev Lz(ns:List Int)(c:Int)(ws:List (Int×Int))(P:List (Nat×Nat))(m:Int)(z2 z8 z9 z10:Option D):Ls:=[some (.ro ns),some (.mu 1),z2,some (.im (Am c ws)),some (.im (Rw.wI (P.map cs))),some (.mu 2),some (.mu 3),some (.im (.int m)),z8,z9,z10]
inductive I_1(ns:List Int)(c:Int)(ws:List (Int×Int))(P:List (Nat×Nat))(m:Int)(z2 z9 z10:Option D)(Z h:Hd)(S:List I)(r:List D)(ls:Ls)(hd:Hd):Prop
 |mk (rest:List I) (z8:Option D) (er:r=rest.map D.im) (sub:∀i∈rest,i∈S) (el:ls=Lz ns c ws P m z2 z8 z9 z10) (eh:hd=h):I_1 ns c ws P m z2 z9 z10 Z h S r ls hd
inductive I_2(ns:List Int)(c:Int)(ws:List (Int×Int))(P:List (Nat×Nat))(m:Int)(z2 z8 z10:Option D)(O:MO)(S:List I)(r:List D)(ls:Ls)(hd:Hd):Prop
 |mk (B:List I) (k:Nat) (a b:MO) (z9:Option D) (er:r=AG (k:Int) (6-k)) (hk:k<=6) (lB:B.length=k) (ok:∀i∈B,Lv 10000000 20 3 i) (el:ls=Lz ns c ws P m z2 z8 z9 z10) (eh:hd=[a,b,.lst ((S++B).map D.im),O]) (hT:T 0 a b):I_2 ns c ws P m z2 z8 z10 O S r ls hd
inductive I_3(ns:List Int)(c:Int)(ws:List (Int×Int))(P:List (Nat×Nat))(m:Int)(z2 z9:Option D)(h:Hd)(S:List I)(r:List D)(ls:Ls)(hd:Hd):Prop
 |mk (rest:List I) (z8 z10:Option D) (er:r=rest.map D.im) (sub:∀i∈rest,i∈S) (el:ls=Lz ns c ws P m z2 z8 z9 z10) (eh:hd=h):I_3 ns c ws P m z2 z9 h S r ls hd
theorem SK{c:Int}{ws:List (Int×Int)}(W:WOk c ws):∀(ks:List Nat),(∀k∈ks,k<ws.length)->∀(t f:Int),0<=t->0<=f->t+1000000*ks.length<=9000000->0<=cst (lf ws) (wf ws) ks t f/\cst (lf ws) (wf ws) ks t f<=f+9000000000000*ks.length
 |[],_,t,f,_,h,_=>by simp[cst,h]
 |k::r,h,t,f,ht,hf,hb=>by
  have b:=DV W (h k (by simp));simp only[iM]at hb;have m0:0<=wf ws k*(t+lf ws k):=jw (by omega) (by omega);have m1:wf ws k*(t+lf ws k)<=1000000*9000000:=Int.mul_le_mul (by omega) (by omega) (by omega) (by omega);have ih:=SK W r (λk hk=>h k (by simp[hk])) (t+lf ws k) (f+wf ws k*(t+lf ws k)) (by omega) (by omega) (by omega);simp only[cst,iM];omega
abbrev m3:MS:=(A8 (AE 10 (A6 0 F5 (A1 (A0 3) (A1 (A0 4) (A1 (A0 8) A4)))))
 (Aj (CI (AH (mOp gEq (mOp gIx (A0 10) (mC (.int 0))) (mC (.str "told")))) (AH (mOp gGt (mOp gIx (mOp gIx (A0 10) (mC (.int 1))) (mC (.int 0))) (mOp As (A0 7) (mOp gIx (mOp gIx (A0 10) (mC (.int 1))) (mC (.int 1)))))))
  (AM (mC (.bl false)))
  Aa))
def cg{ns:List Int}{c:Int}{ws:List (Int×Int)}(W:WOk c ws){seq:List Nat}{P:List (Nat×Nat)}(H:Wsh ws.length seq P){m:Int}(hm:∃ks,Vd ws.length (P.map cs) ks/\m=cst (lf ws) (wf ws) ks c 0)(mb:0<=m/\m<=100000000000000){z2 z9 z10:Option D}{i:I}{hd:Hd}(lv:Lv 10000000 20 3 i){Q:Fl->Hd->Prop}(hQ:∀z10,Q (.nx (Lz ns c ws P m z2 (some (.im i)) z9 z10)) hd):WS m3 (Lz ns c ws P m z2 (some (.im i)) z9 z10) hd Q:=by
 have Pl:=H.le;have hp:(P.map cs).length<64:=by rw[iu];omega
 refine AA (AO (AT (A3 (A2 rfl (A3 (A2 rfl (A3 (A2 rfl (A7 ⟨by simp,(QB W hp lv).mono ?_⟩)))))))));intro d x h;rcases h with⟨rfl,_⟩|⟨p,q,rfl,q0,hall⟩
 .refine⟨_,rfl,A5 ?_⟩;change WS _ (Lz ns c ws P m z2 (some (.im i)) z9 (some (.im (.tup [.str "no"])))) _ _;refine Af (D0 (AQ (A9 (A9 (A2 rfl (AD (AR rfl (Cz _ _) (AD (LN ⟨_,rfl,?_⟩)))))))));rw[ic (by decide)];exact⟨(λh=>by cases h),λ_=>AW (hQ _)⟩
 .refine⟨_,rfl,A5 ?_⟩;change WS _ (Lz ns c ws P m z2 (some (.im i)) z9 (some (.im (.tup [.str "told",frI p q])))) _ _;refine Af (D0 (AQ (A9 (A9 (A2 rfl (AD (AR rfl (Cz _ _) (AD (LN ⟨_,rfl,?_⟩)))))))));rw[i9 (by decide)];obtain⟨ks,v,rfl⟩:=hm;have hp:=hall ks v;refine AQ (A9 (A9 (A9 (A2 rfl (AD (AR rfl (Dq _ _ _) (AD (Uf (A9 (A2 rfl (A9 (A9 (A2 rfl (AD (AR rfl (Dq _ _ _) (AD (Ue (BP (.inl ⟨by omega,by omega⟩) (Ic ⟨_,rfl,?_⟩)))))))))))))))))));exact⟨(λh=>by have:=jO h;omega),λ_=>AW (hQ _)⟩
abbrev m1:MS:=(Aj (AH (mOp gNe (mOp gIx (A6 0 F5 (A1 (A0 3) (A1 (A0 4) (A1 (A0 8) A4)))) (mC (.int 0))) (mC (.str "told"))))
 (AM (mC (.bl false)))
 Aa)
def cj{ns:List Int}{c:Int}{ws:List (Int×Int)}(W:WOk c ws){seq:List Nat}{P:List (Nat×Nat)}(H:Wsh ws.length seq P){m:Int}{z2 z9 z10:Option D}{i:I}{hd:Hd}(pp:Pap ws.length P i){Q:Fl->Hd->Prop}(hQ:Q (.nx (Lz ns c ws P m z2 (some (.im i)) z9 z10)) hd):WS m1 (Lz ns c ws P m z2 (some (.im i)) z9 z10) hd Q:=by
 have Pl:=H.le;have lv:Lv 10000000 20 3 i:=(pp.pr W.n8).lv.mono (by omega) (by omega);have hp:(P.map cs).length<64:=by rw[iu];omega
 refine Af (AQ (A9 (A9 (AT (A3 (A2 rfl (A3 (A2 rfl (A3 (A2 rfl (A7 ⟨by simp,(QB W hp lv).mono ?_⟩)))))))))));intro d x h;rcases h with⟨rfl,h⟩|⟨p,q,rfl,q0,hall⟩
 .exact absurd pp.good h
 .exact⟨_,rfl,AD (AR rfl (Cz _ _) (AD (LK ⟨_,rfl,(λh=>absurd h (by decide)),λ_=>AW hQ⟩)))⟩
set_option maxHeartbeats 2000000 in
def Yq(ns:List Int){c:Int}{ws:List (Int×Int)}(W:WOk c ws){a b:MO}(hT:T 0 a b){z2 z4 z5 z6 z7 z8 z9 z10:Option D}{Q:Fl->Hd->Prop}(hQ:∀a b g z4 z5 z6 z7 z8 z9 z10,T 0 a b->Q (.nx [some (.ro ns),some (.mu 1),z2,some (.im (Am c ws)),z4,z5,z6,z7,z8,z9,z10]) (a::b::g)):WS (A8 (AE 4 (A6 2 F4 (A1 (A0 1) (A1 (mCB (f1 true Ag) (A1 (A0 3) A4)) A4))))
 (A8 (AE 5 (Ao (Ai 1 [1,3,4] (Bh (A1 (mC (.int 5)) A4)) (AC 0) BM (A6 2 Fp (A1 (A0 1) (A1 (A0 2) (A1 (A0 3) A4)))))))
 (A8 (AE 6 (A6 2 F6 (A1 (A0 1) (A1 (mCB (f1 true Ag) (A1 (A0 3) A4)) (A1 (A0 4) A4)))))
 (A8 (AE 7 (BL IP (Ai 1 [3] (BV (A0 6)) (AC 0) BM (A6 0 Gu (A1 (A0 1) (A1 (A0 0) A4))))))
 (A8 (Ax (BV (A0 5)) (AC 8) m1)
 (A8 (Ax (Bh (A1 (mC (.int 6)) A4)) (AC 9)
  (Aw (mMt Ab (A0 5) (A1 (A6 2 Gv (A1 (A0 1) (A1 (mOp gIx (A0 5) (mOp DF (A0 9) (mC (.int 5)))) A4))) A4))))
 (Ax (BV (A0 5)) (AC 8) m3))))))) [some (.ro ns),some (.mu 1),z2,some (.im (Am c ws)),z4,z5,z6,z7,z8,z9,z10] [a,b] Q:=by
 have n1:=W.n1;have n8:=W.n8;refine AA (AO ?_);refine tap.call (n:=0) (c:=0) (R:=λi=>∃seq P,i=Rw.wI (P.map cs)/\Wsh ws.length seq P) (as:=[.im (.int (ws.length:Int))]) (rest:=[]) hT (by simp[Ag]) (by simp) (λa b hT=>Sl n1 n8 a b hT) ?_;rintro i a b hT ⟨seq,P,rfl,H⟩;refine A5 ?_;change WS _ [some (.ro ns),some (.mu 1),z2,some (.im (Am c ws)),some (.im (Rw.wI (P.map cs))),z5,z6,z7,z8,z9,z10] _ _;refine AA (AO (B7 (Aq (Cm (A3 (AD (A7 ⟨_,rfl,BC (by decide) (by decide),AY (by decide),?_⟩)))))));refine OR (I_q c ws P) (.mk [] 0 a b none rfl (by omega) rfl rfl (by simp) rfl rfl hT) ?_ ?_
 .intro d r es ls hd hI;obtain⟨S,k,a,b,z,er,hk,rfl,lS,ok,rfl,rfl,hT⟩:=hI;obtain⟨m,hm⟩:∃m,5-k=m+1:=by
   cases q:5-k with
   |zero=>rw[q]at er;cases er
   |succ m=>exact⟨m,rfl⟩
  rw[hm,AG]at er;obtain⟨rfl,rfl⟩:=List.cons.inj er;refine⟨[some (.im (.int (k:Int))),some (.mu 1),some (.im (Am c ws)),some (.im (Rw.wI (P.map cs)))],rfl,B4 ?_⟩;rw[i9 rfl];refine tap.call (n:=0) (c:=0) (R:=λi=>∃E,i=Dh E/\E.length<=5/\∀e∈E,PE ws.length P e) (as:=[.im (Am c ws),.im (Rw.wI (P.map cs))]) (rest:=[]) hT rfl (by simp) (λa b hT=>Xj W H a b hT) ?_;intro i a b hT hi;refine⟨AK _,.mk (S++[i]) (k+1) a b _ (by rw[show((k:Int)+1)=((k+1:Nat):Int) by omega,show m=5-(k+1) by omega]) (by omega) (by simp) (by simp[lS]) (λx hx=>?_) rfl rfl hT⟩;rcases mem_append.mp hx with h|h
  .exact ok x h
  .rw[iB]at h;subst h;exact⟨hi⟩
 intro es ls hd hI;obtain⟨S,k,a,b,z,er,hk,rfl,lS,ok,rfl,rfl,hT⟩:=hI;have hk':k=5:=by
  cases q:5-k with
  |zero=>omega
  |succ m=>rw[q]at er;cases er
 subst hk';clear er;refine A5 ?_;change WS _ [some (.ro ns),some (.mu 1),z2,some (.im (Am c ws)),some (.im (Rw.wI (P.map cs))),some (.mu 2),z6,z7,z8,z9,z10] [a,b,.lst (S.map D.im)] _;refine AA (AO (cK (rest:=[.lst (S.map D.im)]) (as:=[.im (.int (ws.length:Int)),.im (Rw.wI (P.map cs))]) (by simp[Ag]) hT (by simp) ((UA n8 H a b hT).mono ?_)));rintro d x ⟨k,O,a',b',g,rfl,hk,rfl,ek,hT,O0,O1,Ov⟩;have cS:∀l:List (List Nat),Au 2 (l.map rwD)=true:=by
  intro l
  induction l with
  |nil=>rfl
  |cons x r ih=>simp only[iD,Au,clD,ih,Bool.and_self]
 refine⟨k,O.map rwD,a',b',g,rfl,hk,rfl,ek,cS O,hT,A5 ?_⟩;change WS _ [some (.ro ns),some (.mu 1),z2,some (.im (Am c ws)),some (.im (Rw.wI (P.map cs))),some (.mu 2),some (.mu 3),z7,z8,z9,z10] [a',b',.lst (S.map D.im),.lst (O.map rwD)] _;refine AA (AO (C8 (Aq (Ef (A2 rfl ⟨3,_,rfl,rfl,AY (by simp;omega),?_⟩)))));refine BQ rwD (λr=>some (.im (.int (cst (lf ws) (wf ws) r c 0)))) (λ_ ls=>∃x,ls=[some x,some (.im (Am c ws))]) _ (by intro p hp;rw[iB]at hp;subst hp;rfl) ?_ ?_
 .rintro r hr ls hls;refine⟨[some (rwD r),some (.im (Am c ws))],by rcases hls with rfl|⟨_,x,rfl⟩<;>rfl,⟨_,rfl⟩,B4 ⟨rfl,?_⟩⟩;rw[i9 rfl];refine⟨_,rfl,AT (A3 (A2 rfl (A3 (A2 rfl (A7 ⟨by simp,(cH W (λk hk=>by simpa using (Ov r hr).pm.mem_iff.mp hk)).mono ?_⟩)))))⟩;rintro d y rfl;exact⟨_,rfl,rfl,rfl⟩
 have e1:(O.filterMap λr=>some (D.im (.int (cst (lf ws) (wf ws) r c 0))))=intD (O.map λr=>cst (lf ws) (wf ws) r c 0):=by simp[intD]
 rw[e1];obtain⟨m,hm,m1,-⟩:=Xv (ns:=O.map λr=>cst (lf ws) (wf ws) r c 0) (by simpa using O0);refine⟨_,hm,A5 ?_⟩;have mv:∃ks,Vd ws.length (P.map cs) ks/\m=cst (lf ws) (wf ws) ks c 0:=by
  obtain⟨r,hr,rfl⟩:=mem_map.mp m1;exact⟨r,Ov r hr,rfl⟩
 have mb:0<=m/\m<=100000000000000:=by
  obtain⟨ks,v,rfl⟩:=mv;have kl:=v.pm.length_eq;simp at kl;have c0:=W.c0;have c1:=W.c1;have:=SK W ks (λk hk=>by simpa using v.pm.mem_iff.mp hk) c 0 c0 (by omega) (by omega);omega
 change WS _ (Lz ns c ws P m z2 z8 z9 z10) [a',b',.lst (S.map D.im),.lst (O.map rwD)] _;generalize MO.lst (O.map rwD)=Oh;refine AA (BI (Ef (A2 rfl ⟨2,_,rfl,rfl,?_⟩)));refine B5 (I_1 ns c ws P m z2 z9 z10 [] [a',b',.lst (S.map D.im),Oh] S) (.mk S _ rfl (λ_ h=>h) rfl rfl) ?_ ?_
 .intro d r ls hd hI;obtain⟨rest,z8,er,sub,rfl,rfl⟩:=hI;cases rest with
  |nil=>cases er
  |cons i rest=>
   obtain⟨rfl,rfl⟩:=List.cons.inj er;refine⟨Lz ns c ws P m z2 (some (.im i)) z9 z10,rfl,cj W H (ok i (sub i (by simp))) ?_⟩;exact⟨by intro p hp;rw[iB]at hp;subst hp;rfl,.mk rest _ rfl (λx hx=>sub x (by simp[hx])) rfl rfl⟩
 intro ls hd hI;obtain⟨rest,z8',er,sub,rfl,rfl⟩:=hI;clear er sub rest;refine A5 (AA (BI (Cm (A3 (AD (A7 ⟨_,rfl,BC (by decide) (by decide),?_⟩))))));refine B5 (I_2 ns c ws P m z2 z8' z10 Oh S) (.mk [] 0 a' b' _ rfl (by omega) rfl (by simp) rfl (by simp) hT) ?_ ?_
 .intro d r ls hd hI;obtain⟨B,k,a,b,z9,er,hk,lB,okB,rfl,rfl,hT⟩:=hI;obtain⟨m',hm'⟩:∃m,6-k=m+1:=by
   cases q:6-k with
   |zero=>rw[q]at er;cases er
   |succ m=>exact⟨m,rfl⟩
  rw[hm',AG]at er;obtain⟨rfl,rfl⟩:=List.cons.inj er;refine⟨Lz ns c ws P m z2 z8' (some (.im (.int (k:Int)))) z10,rfl,?_⟩;have hk5:k%5<S.length:=by rw[lS];exact Nat.mod_lt _ (by omega)
  have ei:atI ((S++B).map D.im) ((k:Int)%5)=some (.im S[k%5]):=by
   rw[show((k:Int)%5)=((k%5:Nat):Int) by omega];exact Cr rfl (by rw[j6,List.getElem?_append_left (by simpa using hk5)];simp[hk5])
  refine Cs (F9 (A2 rfl ⟨⟨_,rfl⟩,A3 (SU (A3 (A2 rfl (A3 (A9 (A2 rfl (A9 (A2 rfl (AD (LL (by unfold Bf;decide) (AR (ds:=(S++B).map D.im) rfl ei (A7 ?_))))))))))))⟩));refine⟨a,b,[.lst ((S++B).map D.im),Oh],[.im S[k%5]],_,rfl,rfl,hT,by simp,(λa b hT=>cL (by decide) (by decide) 3 (by decide) ((ok _ (List.getElem_mem hk5)).pr n8) hT),?_⟩;intro i a b hT lv;refine A7 (D1 rfl (Bi (by simp;omega)) ⟨AK _,.mk (B++[i]) (k+1) a b _ (by rw[show((k:Int)+1)=((k+1:Nat):Int) by omega,show m'=6-(k+1) by omega]) (by omega) (by simp[lB]) (λx hx=>?_) rfl (by simp) hT⟩);rcases mem_append.mp hx with h|h
  .exact okB x h
  .rw[iB]at h;subst h;exact Lv.mono (by omega) (by omega) lv
 intro ls hd hI;obtain⟨B,k,a,b,z9',er,hk,lB,okB,rfl,rfl,hT⟩:=hI;clear er;have all:∀i∈S++B,Lv 10000000 20 3 i:=λi hi=>by
  rcases mem_append.mp hi with h|h
  .exact((ok i h).pr n8).lv.mono (by omega) (by omega)
  .exact okB i h
 generalize S++B=A at all;refine A5 (BI (Ef (A2 rfl ⟨2,_,rfl,rfl,?_⟩)));refine B5 (I_3 ns c ws P m z2 z9' [a,b,.lst (A.map D.im),Oh] A) (.mk A _ _ rfl (λ_ h=>h) rfl rfl) ?_ ?_
 .intro d r ls hd hI;obtain⟨rest,z8,z10,er,sub,rfl,rfl⟩:=hI;cases rest with
  |nil=>cases er
  |cons i rest=>
   obtain⟨rfl,rfl⟩:=List.cons.inj er;refine⟨Lz ns c ws P m z2 (some (.im i)) z9' z10,rfl,cg W H mv mb (all i (sub i (by simp))) λz10=>?_⟩;exact⟨by intro p hp;rw[iB]at hp;subst hp;rfl,.mk rest _ _ rfl (λx hx=>sub x (by simp[hx])) rfl rfl⟩
 intro ls hd hI;obtain⟨rest,z8,z10,er,sub,rfl,rfl⟩:=hI;exact hQ _ _ _ _ _ _ _ _ _ _ hT
inductive I_law(ns:List Int)(r:List D)(ls:Ls)(hd:Hd):Prop
 |mk (a b:MO) (z2 z3 z4 z5 z6 z7 z8 z9 z10:Option D) (el:ls=[some (.ro ns),some (.mu 1),z2,z3,z4,z5,z6,z7,z8,z9,z10]) (eh:hd=[a,b]) (hT:T 0 a b):I_law ns r ls hd
def df(ns:List Int):WF gV [.ro ns] [] λd x=>d=.im (.bl true):=by
 unfold gV;refine Ak rfl ?_;obtain⟨τ,q⟩:=W2 ns;refine AA (AO (Hy (A3 (A2 rfl (A7 (WP.eq q (A5 ?_)))))));refine AA (BI (Cm (A3 (AD (A7 ⟨_,rfl,BC (by decide) (by decide),?_⟩)))));refine B5 (I_law ns) (.mk _ _ none none none none none none none none none rfl rfl ⟨τ,rfl⟩) ?_ ?_
 .intro d r ls hd hI;obtain⟨a,b,z2,z3,z4,z5,z6,z7,z8,z9,z10,rfl,rfl,hT⟩:=hI;refine⟨[some (.ro ns),some (.mu 1),some d,z3,z4,z5,z6,z7,z8,z9,z10],rfl,?_⟩;generalize some d=z2;refine Sj (AA (AO (SU (A3 (A2 rfl (A3 (LO (C9 (A3 (AD (A3 (AD (A3 (AD (A3 (AD (A3 (AD (A3 (AD (A3 (AD (A3 (AD (A7 ⟨AY (by simp),?_⟩)))))))))))))))))))))))));refine tap.draw (n:=0) hT rfl (by decide) (by decide) λr1 a b hT p1 q1=>?_;obtain⟨n,en,hn1,hn8⟩:∃n:Nat,atI [D.im (.int 1),.im (.int 2),.im (.int 3),.im (.int 4),.im (.int 5),.im (.int 5),.im (.int 7),.im (.int 8)] r1=some (.im (.int (n:Int)))/\1<=n/\n<=8:=by
   rcases(show r1=0∨r1=1∨r1=2∨r1=3∨r1=4∨r1=5∨r1=6∨r1=7 by omega)with rfl|rfl|rfl|rfl|rfl|rfl|rfl|rfl
   .exact⟨1,rfl,by omega,by omega⟩
   .exact⟨2,rfl,by omega,by omega⟩
   .exact⟨3,rfl,by omega,by omega⟩
   .exact⟨4,rfl,by omega,by omega⟩
   .exact⟨5,rfl,by omega,by omega⟩
   .exact⟨5,rfl,by omega,by omega⟩
   .exact⟨7,rfl,by omega,by omega⟩
   .exact⟨8,rfl,by omega,by omega⟩
  refine⟨_,_,rfl,en,A7 ?_⟩;refine⟨a,b,[],_,_,rfl,rfl,hT,by simp,Vt hn1 hn8,?_⟩;rintro i a b hT ⟨c,ws,rfl,rfl,W⟩;refine A5 (Yq ns W hT λa b g z4 z5 z6 z7 z8 z9 z10 hT=>?_);have ca:=tap.cl hT;exact⟨by simp[ca.1,ca.2],_,rfl,AK _,.mk a b _ _ _ _ _ _ _ _ _ rfl rfl hT⟩
 .intro ls hd hI;obtain⟨a,b,z2,z3,z4,z5,z6,z7,z8,z9,z10,rfl,rfl,hT⟩:=hI;exact A5 (AI (AD rfl))
def law_eq(ns:List Int):∃hd,gV [.ro ns] []=some (.im (.bl true),hd):=by
 obtain⟨d,x,e,rfl⟩:=df ns;exact⟨x,e⟩
open PySem L2 PySem.W PyProof.Rows
abbrev xS:Xs:=[]
def N9:FnScope ["self","path","word"] ["self","path","word"] (AB (Ea.inC (top 2))):=Av (by kernel_rfl)
def NF:Ini (Ea.inC (top 2)) ["self","path","word"] ["path","word"]:=⟨λF c nA=>UC F N9 rfl c (nA _ (by simp)) (nA _ (by simp)) (by decide) (λ_ _ _ _ _ _=>rfl) (λ_ _ _ _ _ _=>rfl) (Or.inl rfl) (Or.inl rfl) (Or.inl rfl) (by decide) (by decide) (by decide) (by decide),rfl,by decide,λ_ _ _ _ _ _ _ us hl=>match us,hl with|[_,_,_],_=>rfl⟩
def all_mk{l:OpenLaw}{w:World}{K:Frag}{h:Heap}{mg:Str->Option Value}{fa:Addr}{c P:Str->Addr}(X:K.In h)(G:h.Ns mainGlobals mg)(hfa:mg "law"=some (.ref fa))(hx:HX xS mg h c P)(F:Pn K):HG l w K xS mg c P fa Pa:=by
 obtain⟨Z,h0,h1,h2,h3,h4,h5,h6,h7,h8,h9,h10,h11,h12,h13,h14,h15,h16,h17,h18,h19,h20,h21,h22,h23,h24,h25,h26,h27,h28,h29,h30,h31,h32,h33,h34,h35,h36,cc0,ec_NoPaper,ns_NoPaper,kt0⟩:=F;have B:=(zsE Z).blt X G;refine UV X G hfa hx (feE h0) bd1 rfl λbase hd bl=>?_;obtain⟨o_is_number,o_is_number_from,o_is_number_of_work,o_is_tuple_of,o_rises,o_is_set_of_works,o_common_divisor,o_is_fraction,o_fraction,o_length_of,o_same_coming,o_one_coming,o_refuse_other_costs,o_weight_of,o_weighted_coming,o_pair_sum_of,o_reached,o_behind,o_gain,o_fault_of,ox_look_at_prices,o_look_at_prices,o_common_bottom,ox_priced,o_priced,o_tape,o_pick,o_works,o_wishes,o_lbehind,o_low,o_paper,o_bent,o_drawn,o_wished,o_orders,o_cost,o_told,o_law⟩:=oks (E:=enM l w K xS P mg base) B
  (Ec.cl X G hx ec_NoPaper NF)
  (⟨⟨_,mg_of X G ns_NoPaper⟩,λnm hh=>(by rcases mem_cons.mp hh with rfl|hh;(· exact Ec.ch X G hx ec_NoPaper ns_NoPaper kt0);cases hh)⟩)
 have g1:=o_tape ((feE h1).dn X G hx bd1 l w base);have g2:=o_pick ((feE h2).dn X G hx bd2 l w base);have g3:=o_works ((feE h3).dn X G hx bd2 l w base) g2;have g4:=o_wishes ((feE h4).dn X G hx bd2 l w base) g2;have g5:=o_lbehind ((feE h5).dn X G hx bd2 l w base);have g6:=o_low ((feE h6).dn X G hx bd2 l w base);have g7:=o_paper ((feE h7).dn X G hx bd3 l w base) g2 g5 g6;have g8:=o_bent ((feE h8).dn X G hx bd2 l w base) g2;have g9:=o_drawn ((feE h9).dn X G hx bd3 l w base) g2;have g10:=o_wished ((feE h10).dn X G hx bd2 l w base);have g11:=o_orders ((feE h11).dn X G hx bd3 l w base) g9 g10;have g12:=o_cost ((feE h12).dn X G hx bd2 l w base);have g13:=o_common_divisor ((feE h13).dn X G hx bd2 l w base);have g14:=o_fraction ((feE h14).dn X G hx bd2 l w base) g13;have g15:=o_length_of ((feE h15).dn X G hx bd2 l w base);have g16:=o_weight_of ((feE h16).dn X G hx bd1 l w base);have g17:=o_same_coming ((feE h17).dn X G hx bd1 l w base);have g18:=o_one_coming ((feE h18).dn X G hx bd1 l w base) g17;have g19:=o_refuse_other_costs ((feE h19).dn X G hx bd2 l w base);have g20:=o_weighted_coming ((feE h20).dn X G hx bd1 l w base) g18 g19;have g21:=o_pair_sum_of ((feE h21).dn X G hx bd3 l w base);have g22:=o_gain ((feE h22).dn X G hx bd2 l w base);have g23:=o_is_tuple_of ((feE h23).dn X G hx bd2 l w base);have g24:=o_is_number ((feE h24).dn X G hx bd1 l w base);have g25:=o_is_number_from ((feE h25).dn X G hx bd2 l w base) g24;have g26:=o_is_number_of_work ((feE h26).dn X G hx bd2 l w base) g25;have g27:=o_rises ((feE h27).dn X G hx bd1 l w base);have g28:=o_is_set_of_works ((feE h28).dn X G hx bd2 l w base) g26 g27;have g29:=o_is_fraction ((feE h29).dn X G hx bd1 l w base) g24 g25 g23 g13;have g30:=o_reached ((feE h30).dn X G hx bd2 l w base);have g31:=o_behind ((feE h31).dn X G hx bd3 l w base) g30;have g32:=o_fault_of ((feE h32).dn X G hx bd3 l w base) g26 g28 g29 g31;have gx33:=ox_look_at_prices ((feE h33).dn X G hx bd3 l w base) g23 g32;have g33:=o_look_at_prices ((feE h33).dn X G hx bd3 l w base) g23 g32;have g34:=o_common_bottom ((feE h34).dn X G hx bd1 l w base);have gx35:=ox_priced ((feE h35).dn X G hx bd3 l w base) g14 g15 g16 g20 g21 g22 g33 g34 gx33;have g35:=o_priced ((feE h35).dn X G hx bd3 l w base) g14 g15 g16 g20 g21 g22 g33 g34;have g36:=o_told ((feE h36).dn X G hx bd3 l w base) g35 gx35;exact o_law ((feE h0).dn X G hx bd1 l w base) g1 g2 g3 g4 g7 g8 g11 g12 g36
end T62
theorem PySem.Challenge.cw_benchdays_k62_whole_prices_bound_holds : PySem.Challenge.rw_benchdays_k62_whole_prices_bound.Holds := by
 refine T62.early λK F d hd hdf=>L2.walkL T62.xS (l:=PySem.Challenge.rw_benchdays_k62_whole_prices_bound) (n:=63) (k:=9) (F:=T62.gV) rfl (by decide) hdf ⟨rfl,by decide,by decide,rfl⟩ (by intro x hx;cases hx) T62.law_eq (λw h Y=>Y) λw mg fa h c P X G hmg hx=>?_;rw[hd]at hmg;exact T62.all_mk X G hmg hx (F w)
