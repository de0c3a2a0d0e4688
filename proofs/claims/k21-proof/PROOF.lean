import PyProof.Rows.All
import Wide.All
import OpenK.AllK
import Wide.FinOn
import Lean
import PyProof.EqAt
import PyProof.EqKinds
import PyProof.TupleCall
import KE.KSortKey
import PyProof.ListMulRoad
import PyProof.Draws
import PyProof.EnumMake
import PyProof.ListNew
import KE.KRevIter
import KE.KMinKey
import PySem.Challenge.RW_benchdays_k21_sets_judged
set_option Elab.async false
set_option linter.all false
set_option maxRecDepth 100000
noncomputable section
open PySem.W(Frag mg_of Looks fnOf findIn keepIn nsIn mroIn OpenLaw codeIn)
set_option hygiene false in
local macro_rules | `(tactic| and_intros) => `(tactic| intro ρ σ H hd ls Q d hd' hR hL hm hQ)
open List(mem_cons mem_filter mem_append nodup_cons length_drop all_cons flatten_cons mem_map all_eq_true mem_singleton nodup_append map_take set_cons_succ set_cons_zero)
open Option(bind_some isSome_iff_exists isSome_map none_or)
open Nat(le_of_lt le_succ lt_trans not_lt log2_lt zero_add)
def j6{α β:Type _}{o:Option α}{f:α->Option β}{b:β}(h:o.bind f=some b):∃a,o=some a/\f a=some b:=Option.bind_eq_some_iff.mp h
def j7{α β:Type _}{o:Option α}{f:α->β}{b:β}(h:o.map f=some b):∃a,o=some a/\f a=b:=Option.map_eq_some_iff.mp h
def j8:=@PySem.wpAny_bind
def j9:=@if_pos
def ja:=@if_neg
def jb:=@PySem.wpAny_pure
def jc:=@Nat.le_refl
def jd:=@List.mem_cons
def je:=@List.map_cons
def jf:=@List.size_toArray
def jg:=@Nat.ne_of_lt
def jh:=@Nat.le_trans
def ji:=@List.length_map
def jj:=@if_true
def jk:=@List.lookup_cons
def jl:=@List.mem_append_right
def jm:=@List.length_cons
def jn:=@Nat.lt_of_lt_of_le
def jo:=@PySem.wpAny_mono
def jq:=@List.mem_cons_of_mem
def jr:=@Option.map_some
def jt:=@List.mem_of_getElem?
def ju:=@List.append_nil
def jv:=@List.length_append
def jw:=@List.mem_cons_self
def jx:=@List.map_map
def jy:=@List.map_nil
def jA:=@congrArg
def jB:=@if_false
def jC:=@List.append_assoc
def jD:=@List.cons_append
def jE:=@PySem.wpAny_holding
def jF:=@PySem.sizeLine_eq
def jG:=@PySem.wpAny_newObj_type
def jH:=@decide_eq_true
def jI:=@List.filterMap_cons
def jJ:=@List.find?_cons
def jK:=@PySem.wpAny_field
def jL:=@List.length_nil
def jM:=@Nat.lt_irrefl
def jN:=@Int.toNat_natCast
def jO:=@decide_eq_false
def jP:=@List.length_take
def jQ:=@List.mem_append_left
def jR:=@List.filter_cons
def jS:=@List.mem_singleton
def jT:=@List.nil_append
def jU:=@Nat.zero_le
def jV:=@of_decide_eq_true
def jW:=@PySem.wpAny_passesOwn
def jX:=@List.any_cons
def jY:=@List.lookup_append
def jZ:=@List.take_of_length_le
def k4:=@List.not_mem_nil
def k6:=@Nat.ne_of_gt
def k8:=@PySem.wpAny_standAt
def k9:=@List.replicate_succ
def kc:=@List.drop_eq_getElem_cons
def kd:=@List.length_filter_le
def kf:=@Nat.lt_succ_of_lt
def kg:=@PySem.wpAny_truthy_bool
def kh:=@PySem.call_meets
def kj:=@or_false
def kl:=@List.reverse_cons
def km:=@List.drop_of_length_le
def ko:=@PySem.wpAny_execs_nil
def kq:=@PySem.wpAny_call
def kr:=@PySem.wpAny_Call_Name_kw
def ku:=@List.contains_cons
def kx:=@PySem.codeAny_mono
def ky:=@PySem.wpAny_call_entry
def kz:=@PySem.wpAny_loadPart_at
def kA:=@PySem.wpAny_setField
def kB:=@decide_eq_true_eq
def kC:=@PySem.wpAny_callSpecial?_slot
def kD:=@PySem.nums_intItems
def kE:=@PySem.wpAny_execs_cons
def kF:=@PySem.tupleKind_room_in1
def kG:=@PySem.codeAny_call_builtin
def kH:=@PySem.wpAny_comprehension_free
set_option compiler.extract_closed false
local macro_rules | `(tactic| omega) => `(tactic| first | lia | omega (config := {}))
namespace Ea
open PySem PySem.W
noncomputable def dA(s:Stmt):Arguments:=match s with
 |.FunctionDef _ a _ _ _ _ _ _ _ _=>a
 |_=>{ posonlyargs:=[],args:=[],vararg:=none,kwonlyargs:=[],kw_defaults:=[],kwarg:=none,defaults:=[] }
noncomputable def dB(s:Stmt):List Stmt:=match s with
 |.FunctionDef _ _ b _ _ _ _ _ _ _=>b
 |_=>[]
noncomputable def dS(s:Stmt):Scope:=match s with
 |.FunctionDef _ _ _ _ _ _ sc _ _ _=>sc
 |_=>{ kind:=.function,names:=[],isGenerator:=false,isCoroutine:=false }
noncomputable def tO(o:Obj):Option Addr:=match o.data with
 | .fields vs=>(match (vs[11]?:Option Value)with
  |some (Value.ref P)=>some P
  | _=>none)
 |_=>none
def At(K:Frag)(n:Str)(s:Stmt)(f:Addr)(cd:Value):Prop:=∃oc kV dc pm ct od an sl,nsIn K mainGlobals n=some (some (.ref f))/\K.lookup f=some ⟨oc,od,.func (fnOf n n (dA s) (dB s) (dS s) .none kV dc pm an cd ct),sl⟩/\codeIn K cd n=true/\keepIn K (.ref f)=true
def Fe(K:Frag)(n:Str)(s:Stmt):Prop:=∃f cd,At K n s f cd
def Fl(K:Frag)(n:Str)(s:Stmt)(p:Addr):Prop:=∃f ca ob,At K n s f (.ref ca)/\K.lookup ca=some ob/\tO ob=some p
section
variable{K:Frag}{n:Str}{s:Stmt}{f ca p:Addr}{oc kV dc pm cd ct:Value}{od an:Option Addr}{sl:Array (Option Value)}{ob:Obj}
def feI(a:nsIn K mainGlobals n=some (some (.ref f)))(l:K.lookup f=some ⟨oc,od,.func (fnOf n n (dA s) (dB s) (dS s) .none kV dc pm an cd ct),sl⟩)(c:codeIn K cd n=true)(k:keepIn K (.ref f)=true):Fe K n s:=⟨f,cd,_,_,_,_,_,_,_,_,a,l,c,k⟩
end
noncomputable abbrev dv:List Str:=["list","tuple","len","range","repr","sum","min","max","abs","all","any","sorted","zip","isinstance","int","bool","str","set","enumerate","reversed","dict"]
def Zs(K:Frag):Prop:=∀n∈dv,nsIn K mainGlobals n=some none
def Zg(K:Frag)(l:List Str):Prop:=∀n∈l,nsIn K mainGlobals n=some none
def zs0{K:Frag}:Zg K []:=λ_ h=>nomatch h
def zs1{K:Frag}{n:Str}{l:List Str}(h:nsIn K mainGlobals n=some none)(r:Zg K l):Zg K (n::l):=λm hm=>by
 rcases mem_cons.mp hm with rfl|hm
 .exact h
 .exact r m hm
end Ea
namespace L2
open PySem
noncomputable def fb(nm:Str)(p:Addr×Obj):Bool:=match p.2.data with
 |.cls cd=>cd.name==nm
 |_=>false
noncomputable def clsAt(K:Frag)(nm:Str):Option Addr:=(K.find? (fb nm)).map (·.1)
end L2
namespace Ea
open PySem PySem.W
noncomputable def inC(s:Stmt):Stmt:=match s with
 |.ClassDef _ _ _ b _ _ _ _ _ _ _=>b.getD 0 (.Pass ⟨0,0,0,0⟩)
 |_=>.Pass ⟨0,0,0,0⟩
noncomputable def ovB:List Value->Bool
 |[]=>false
 | v::l=>decide (v::l=[.type "ValueError",.type "Exception",.type "BaseException",.type "object"])||(match v with
  |.ref _=>ovB l
  | _=>false)
def Ec(K:Frag)(nm:Str)(s:Stmt)(fs:List Str)(C:Addr):Prop:=∃(fI N:Addr) (nm' q:Str) (bs bm sub:List Value) (sn:List Str) (ab:Bool) (col:Option Bool) (dd od an:Option Addr) (k0 k1 k2 k3 k5:Option Value) (oc kV dc pm cd ct:Value) (sl:Array (Option Value)),
 nsIn K mainGlobals nm=some (some (.ref C))/\L2.clsAt K nm=some C/\K.lookup C=some (excClassObj nm' q C N bs bm true sn sub ab col dd k0 k1 k2 k3 k5 "ValueError.__new__")/\ovB bm=true/\findIn K (.ref C) "__init__"=some (some (.ref fI))/\isFn K (.ref fI)=true/\keepIn K (.ref C)=true /\
 findIn K (.ref C) "__setattr__"=some (some (.builtin "object.__setattr__"))/\findIn K (.ref C) "__getattribute__"=some (some (.builtin "BaseException.__getattribute__"))/\findIn K (.ref C) "__getattr__"=some none/\findIn K (.ref C) "__class__"=some (some (.builtin "object.__class__"))/\
 specialIn K (.builtin "object.__class__") "__get__"=some (some (.builtin "getset_descriptor.__get__"))/\takesIn K (.builtin "object.__class__")=some true/\mroIn K C (.type "object")=some true/\(∀f∈fs,findIn K (.ref C) f=some none)/\
 K.lookup fI=some ⟨oc,od,.func (fnOf "__init__" (nm++".__init__") (dA s) (dB s) (dS s) .none kV dc pm an cd ct),sl⟩/\codeIn K cd (nm++".__init__")=true/\keepIn K (.ref fI)=true
section
variable{K:Frag}{nm:Str}{fI:Addr}{sub:List Value}{ab:Bool}{kV:Value}
def na0:∀f∈([]:List Str),findIn K (.ref C) f=some none:=λ_ h=>nomatch h
def na1(h:findIn K (.ref C) f=some none)(r:∀f∈fs,findIn K (.ref C) f=some none):∀g∈f::fs,findIn K (.ref C) g=some none:=λg hg=>by
 rcases mem_cons.mp hg with rfl|hg
 .exact h
 .exact r g hg
def ecI(a:nsIn K mainGlobals nm=some (some (.ref C)))(b:L2.clsAt K nm=some C)(c:K.lookup C=some (excClassObj nm' q C N bs bm true sn sub ab col dd k0 k1 k2 k3 k5 "ValueError.__new__"))(d:ovB bm=true)(e:findIn K (.ref C) "__init__"=some (some (.ref fI)))(f:isFn K (.ref fI)=true)(g:keepIn K (.ref C)=true)
 (h:findIn K (.ref C) "__setattr__"=some (some (.builtin "object.__setattr__"))) (i:findIn K (.ref C) "__getattribute__"=some (some (.builtin "BaseException.__getattribute__"))) (j:findIn K (.ref C) "__getattr__"=some none) (k:findIn K (.ref C) "__class__"=some (some (.builtin "object.__class__")))
 (l:specialIn K (.builtin "object.__class__") "__get__"=some (some (.builtin "getset_descriptor.__get__"))) (m:takesIn K (.builtin "object.__class__")=some true) (n:mroIn K C (.type "object")=some true) (o:∀f∈fs,findIn K (.ref C) f=some none)
 (p:K.lookup fI=some ⟨oc,od,.func (fnOf "__init__" (nm++".__init__") (dA s) (dB s) (dS s) .none kV dc pm an cd ct),sl⟩) (r:codeIn K cd (nm++".__init__")=true) (t:keepIn K (.ref fI)=true):Ec K nm s fs C:=
 ⟨fI,N,nm',q,bs,bm,sub,sn,ab,col,dd,od,an,k0,k1,k2,k3,k5,oc,kV,dc,pm,cd,ct,sl,a,b,c,d,e,f,g,h,i,j,k,l,m,n,o,p,r,t⟩
end
end Ea
namespace Hl
open PySem PySem.W PyProof.Rows
noncomputable def Oq(p:Program)(w:World)(m:Nat)(ann:Option Value):Nat->SharedT->Thread->Option SharedT
 |0,_,_=>none
 |n+1,s,t=>match through t with
  |true=>some s
  |false=>match stepOk m ann t with
   |false=>none
   |true=>match stepT (denote treeTable) p w s t with
    |some (s',t')=>Oq p w m ann n s' t'
    |none=>none
theorem Nq{p:Program}{w:World}{m:Nat}{ann:Option Value}:∀{n:Nat} {s s':SharedT} {t:Thread},Oq p w m ann n s t=some s'->topRun treeTable p w m ann n s.abs t=some s'.abs
 |0,_,_,_,h=>by cases h
 |n+1,s,s',t,h=>by
  rw[Oq]at h;rw[topRun];cases h1:through t with
  |true=>rw[h1]at h;cases h;rfl
  |false=>
   rw[h1]at h;cases h2:stepOk m ann t with
   |false=>rw[h2]at h;cases h
   |true=>
    rw[h2]at h;cases h3:stepT (denote treeTable) p w s t with
    |none=>rw[h3]at h;cases h
    |some r=>obtain⟨s2,t2⟩:=r;rw[h3]at h;rw[stepT_spec h3];exact Nq h
noncomputable def Vl:Nat->List Obj->BT->BT
 |_,[],t=>t
 |n,o::r,t=>Vl (n+1) r (t.ins n o)
noncomputable def bT(P:Params):BT:=Vl 0 (boot_heap P).objs.toList .nil
def du(P:Params):absHeap (bT P) 11 (boot_heap P).life=boot_heap P:=by kernel_rfl
def gZ(P:Params):((boot_heap P).isNs mainGlobals,(boot_heap P).nsMap mainGlobals "__annotations__")=(true,some (.ref 6)):=by kernel_rfl
variable{p q:Program}{loose:List Str}{Xt:Shared->Bool}{α:Type}{Yf:Shared->α}{Ya:World->α}{N M:Nat}
noncomputable def cr(p q:Program)(loose:List Str)(Xt:Shared->Bool)(Yf:Shared->α)(M:Nat)(w:World)(os:OsState):=
 match Oq p w 11 (some (.ref 6)) M ⟨bT w.params,11,(boot_heap w.params).life,Array.mk [],boot_drawn,boot_toks,os⟩ (topStub p)with
 | some s=>(match staticsOk (importedModules p.main.body) (boot_heap w.params) s.abs.heap&&namesBound p s.abs.heap&&gensDone s.abs&&laidKept (boot_heap w.params) s.abs.heap with
  |true=>some (openSeen q loose (importedModules p.main.body) Xt true s.abs,Yf s.abs)
  | false=>none)
 |none=>none
def left(e:opening p=plainProg p.main.scope.names)(f:∀s,fenceModules? p s=some s)(hN:Nat.ble 600 N=true)(hM:Nat.ble M N=true)(h:∀w os,cr p q loose Xt Yf M w os=some (openGood q loose,Ya w)):LeftO p q loose Xt Yf Ya N:=λw=>by
 obtain⟨⟨hp,gs,d,k,os⟩,e1,e2⟩:=j7 (boot_open e hN f w);simp only[Prod.mk.injEq]at e2;obtain⟨rfl,rfl,rfl,rfl⟩:=e2;have hl:=h w os;unfold cr at hl;split at hl
 .next s hs=>
  have r:=topRun_mono (N-M) _ _ _ _ (Nq hs);rw[show M+(N-M)=N by have:=Nat.le_of_ble_eq_true hM;omega]at r;have ea:(SharedT.mk (bT w.params) 11 (boot_heap w.params).life (Array.mk []) boot_drawn boot_toks os).abs=⟨boot_heap w.params,Array.mk [],boot_drawn,boot_toks,os⟩:=by
   show Shared.mk (absHeap (bT w.params) 11 (boot_heap w.params).life) _ _ _ _=_;rw[du]
  rw[ea]at r;obtain⟨z1,z2⟩:=Prod.mk.inj (gZ w.params);have z3:(boot_heap w.params).objs.size=11:=rfl;split at hl
  .next c=>
   show((fencedOpening treeTable p w N).bind (topFrom treeTable p w N)).map _=_;rw[e1,bind_some];have t:topFrom treeTable p w N ⟨boot_heap w.params,Array.mk [],boot_drawn,boot_toks,os⟩=some s.abs:=by
    unfold topFrom;dsimp only;rw[z1,z2,z3,r];show(match staticsOk (importedModules p.main.body) (boot_heap w.params) s.abs.heap&&namesBound p s.abs.heap&&gensDone s.abs&&laidKept (boot_heap w.params) s.abs.heap with|true=>some s.abs|false=>none)=_;rw[c]
   rw[t];exact hl
  .cases hl
 .cases hl
end Hl
namespace T21
open PySem PySem.W PyProof.Rows Ea
noncomputable def top(i:Nat):Stmt:=PySem.Challenge.pw_benchdays_k21_sets_judged.main.body.getD i (.Pass ⟨0,0,0,0⟩)
noncomputable def vw:PySem.Program:={ PySem.Challenge.pw_benchdays_k21_sets_judged with main:={ PySem.Challenge.pw_benchdays_k21_sets_judged.main with body:=[1,2,3,4,5,6,7,8,9,11,12,13,15,16,18,19,21,22,23,25,27,28,30,31,32,33,34,35,36,37,38,39,40,41,42,43,44].map top } }
def QB(K:Frag):Prop:=Zs K/\Fe K "law" (top 44)/\Fe K "_law_feed" (top 30)/\Fe K "_law_next" (top 31)/\Fe K "_law_words" (top 32)/\Fe K "_law_cost" (top 33)/\Fe K "_law_works" (top 34)/\Fe K "_law_wishes" (top 35)/\Fe K "_law_heads" (top 37)/\Fe K "_law_reach" (top 38)/\Fe K "_law_costs" (top 36)/\Fe K "_law_bound" (top 39)/\Fe K "_law_judged" (top 40)/\Fe K "is_number" (top 11)/\Fe K "is_number_from" (top 12)/\Fe K "is_number_of_work" (top 13)/\Fe K "steps_at" (top 15)/\Fe K "cost_at" (top 16)/\Fe K "raised" (top 18)/\Fe K "heads" (top 19)/\Fe K "reached" (top 21)/\Fe K "behind" (top 22)/\Fe K "last_ones" (top 23)/\Fe K "length_of" (top 25)/\Fe K "bound_of" (top 27)/\Fe K "lets_set" (top 28)/\Fe K "_law_told" (top 41)/\Fe K "_law_great" (top 42)/\Fe K "_law_bent" (top 43)/\∃cc0 cc1 cc2 cc3 cc4 cc5 cc6 cc7 cc8,Ec K "NoPaper" (inC (top 2)) ["path","word"] cc0/\nsIn K mainGlobals "NoPaper"=some (some (.ref cc0))/\nsIn K mainGlobals "BenchError"=some (some (.ref cc1))/\nsIn K mainGlobals "NoBack"=some (some (.ref cc2))/\nsIn K mainGlobals "NoRow"=some (some (.ref cc3))/\nsIn K mainGlobals "NoRule"=some (some (.ref cc4))/\nsIn K mainGlobals "NoText"=some (some (.ref cc5))/\nsIn K mainGlobals "NoWish"=some (some (.ref cc6))/\nsIn K mainGlobals "NoWork"=some (some (.ref cc7))/\nsIn K mainGlobals "TooMany"=some (some (.ref cc8))/\exmOne K (.ref cc0) (.ref cc1)=some true/\kitAny K (.ref cc0) ([cc2,cc3,cc4,cc5,cc6,cc7,cc8].map Value.ref)=some false/\nsIn K mainGlobals "ValueError"=some none/\kitOne K (.ref cc0) (.type "ValueError")=some true/\kitOne K (.ref cc0) (.ref cc0)=some true
def gO{K:Frag}{cc0 cc1 cc2 cc3 cc4 cc5 cc6 cc7 cc8:Addr}(z:Zs K)(h0:Fe K "law" (top 44))(h1:Fe K "_law_feed" (top 30))(h2:Fe K "_law_next" (top 31))(h3:Fe K "_law_words" (top 32))(h4:Fe K "_law_cost" (top 33))(h5:Fe K "_law_works" (top 34))(h6:Fe K "_law_wishes" (top 35))(h7:Fe K "_law_heads" (top 37))(h8:Fe K "_law_reach" (top 38))(h9:Fe K "_law_costs" (top 36))(h10:Fe K "_law_bound" (top 39))(h11:Fe K "_law_judged" (top 40))(h12:Fe K "is_number" (top 11))(h13:Fe K "is_number_from" (top 12))(h14:Fe K "is_number_of_work" (top 13))(h15:Fe K "steps_at" (top 15))(h16:Fe K "cost_at" (top 16))(h17:Fe K "raised" (top 18))(h18:Fe K "heads" (top 19))(h19:Fe K "reached" (top 21))(h20:Fe K "behind" (top 22))(h21:Fe K "last_ones" (top 23))(h22:Fe K "length_of" (top 25))(h23:Fe K "bound_of" (top 27))(h24:Fe K "lets_set" (top 28))(h25:Fe K "_law_told" (top 41))(h26:Fe K "_law_great" (top 42))(h27:Fe K "_law_bent" (top 43))(ec_NoPaper:Ec K "NoPaper" (inC (top 2)) ["path","word"] cc0)(ns_NoPaper:nsIn K mainGlobals "NoPaper"=some (some (.ref cc0)))(ns_BenchError:nsIn K mainGlobals "BenchError"=some (some (.ref cc1)))(ns_NoBack:nsIn K mainGlobals "NoBack"=some (some (.ref cc2)))(ns_NoRow:nsIn K mainGlobals "NoRow"=some (some (.ref cc3)))(ns_NoRule:nsIn K mainGlobals "NoRule"=some (some (.ref cc4)))(ns_NoText:nsIn K mainGlobals "NoText"=some (some (.ref cc5)))(ns_NoWish:nsIn K mainGlobals "NoWish"=some (some (.ref cc6)))(ns_NoWork:nsIn K mainGlobals "NoWork"=some (some (.ref cc7)))(ns_TooMany:nsIn K mainGlobals "TooMany"=some (some (.ref cc8)))(kt0:exmOne K (.ref cc0) (.ref cc1)=some true)(kt1:kitAny K (.ref cc0) ([cc2,cc3,cc4,cc5,cc6,cc7,cc8].map Value.ref)=some false)(kt2:nsIn K mainGlobals "ValueError"=some none)(kt3:kitOne K (.ref cc0) (.type "ValueError")=some true)(kt4:kitOne K (.ref cc0) (.ref cc0)=some true):QB K:=⟨z,h0,h1,h2,h3,h4,h5,h6,h7,h8,h9,h10,h11,h12,h13,h14,h15,h16,h17,h18,h19,h20,h21,h22,h23,h24,h25,h26,h27,_,_,_,_,_,_,_,_,_,ec_NoPaper,ns_NoPaper,ns_BenchError,ns_NoBack,ns_NoRow,ns_NoRule,ns_NoText,ns_NoWish,ns_NoWork,ns_TooMany,kt0,kt1,kt2,kt3,kt4⟩
local macro_rules | `(tactic| o_head $H) => `(tactic| (refine holds_open (r := PySem.Challenge.rw_benchdays_k21_sets_judged.row) (q := T21.vw) (loose := []) (Xt := λ s => xlAt T21.vw [] s && recOk (RowW.records (OpenRow.toRowW PySem.Challenge.rw_benchdays_k21_sets_judged.row)) s) (XP := XL T21.vw []) (Yf := Hook.obs $H) (Ya := Hook.val $H) (YP := Hook.says $H) (N := 100000) ?hl (Hook.of $H) (Hook.keeps $H) (λ s e => xl_of s (Bool.and_eq_true_iff.mp e).1) XL.keeps (by rfl) (by rfl) (by rfl) (λ s e => recFacts_of (Bool.and_eq_true_iff.mp e).2) (by rfl) (by first | assumption | decide +kernel) (by decide +kernel) ⟨rfl, rfl, rfl, rfl, rfl, by decide +kernel⟩ ?hw ?hc; (case hl => exact Hl.left (M := 10000) (by rfl) (λ s => by rfl) (by decide) (by decide) λ w os => by kernel_rfl)))
set_option maxRecDepth 100000 in
set_option maxHeartbeats 0 in
def early(hG:∀(K:Params->Frag),(∀w:World,QB (K w.params))->∀d:DefRec,d.name="law"->d.params.defaults=[]->WalkO T21.vw [] (XL T21.vw []) (λw h=>(K w.params).In h) PySem.Challenge.rw_benchdays_k21_sets_judged.row.toRowW d [] (λf vs=>PySem.call f vs)):PySem.Challenge.rw_benchdays_k21_sets_judged.Holds:=by
 w_on;o_law;k_head;(case hw=>w_witness2)
 k_fill
 refine λw s₀ s₁ mg mb G Y=>hG _ ?F _ rfl rfl w s₀ s₁ mg mb G (kIn_of Y)
 case F=>
  intro w;refine' gO ?z ?h0 ?h1 ?h2 ?h3 ?h4 ?h5 ?h6 ?h7 ?h8 ?h9 ?h10 ?h11 ?h12 ?h13 ?h14 ?h15 ?h16 ?h17 ?h18 ?h19 ?h20 ?h21 ?h22 ?h23 ?h24 ?h25 ?h26 ?h27 ?ec_NoPaper ?ns_NoPaper ?ns_BenchError ?ns_NoBack ?ns_NoRow ?ns_NoRule ?ns_NoText ?ns_NoWish ?ns_NoWork ?ns_TooMany ?kt0 ?kt1 ?kt2 ?kt3 ?kt4
  case z=>(refine' zs1 _ (zs1 _ (zs1 _ (zs1 _ (zs1 _ (zs1 _ (zs1 _ (zs1 _ (zs1 _ (zs1 _ (zs1 _ (zs1 _ (zs1 _ (zs1 _ (zs1 _ (zs1 _ (zs1 _ (zs1 _ (zs1 _ (zs1 _ (zs1 _ (zs0)))))))))))))))))))))<;>k_is)
  case h0|h1|h2|h3|h4|h5|h6|h7|h8|h9|h10|h11|h12|h13|h14|h15|h16|h17|h18|h19|h20|h21|h22|h23|h24|h25|h26|h27=>(refine' feI ?a ?l ?c ?k;case a|l|c|k=>k_is)
  case ec_NoPaper=>(refine' ecI ?a ?b ?c ?d ?e ?f ?g ?h ?i ?j ?k ?l ?m ?n (na1 ?o1 (na1 ?o0 (na0))) ?p ?r ?t;(case a=>k_is);(case c=>k_is);(case d=>decide);(case e=>k_is);(case p=>k_is);(case b=>kernel_rfl);(case f|g|h|i|j|k|l|m|n|o0|o1|r|t=>k_is))
  case ns_NoPaper|ns_BenchError|ns_NoBack|ns_NoRow|ns_NoRule|ns_NoText|ns_NoWish|ns_NoWork|ns_TooMany|kt0|kt1|kt2|kt3|kt4=>first|k_is|kernel_rfl
end T21
namespace L2
open PySem PySem.Spec PyProof.Rows
noncomputable abbrev Key:=Sum Int Str
noncomputable def HY:Key->Value->Bool
 |.inl k,v=>Value.isInt k v
 |.inr x,v=>Value.isStrOf x v
noncomputable def gN(w:World):Key->Int
 |.inl k=>hashInt k
 |.inr x=>hashStr w x
def BO:∀{k:Key} {v:Value},HY k v=true->(∃i t,k=Sum.inl i/\v=Value.int i t)∨(∃x t,k=Sum.inr x/\v=Value.str x t)
 |.inl i,v,h=>by
  obtain⟨t,e⟩:=Value.isInt_shape (k:=i) (v:=v) h;exact .inl ⟨i,t,rfl,e⟩
 |.inr x,v,h=>by
  obtain⟨t,e⟩:=Value.isStrOf_shape (x:=x) (v:=v) h;exact .inr ⟨x,t,rfl,e⟩
def S4(i:Int)(t:Tok):HY (.inl i) (.int i t)=true:=by simp[HY,Value.isInt]
def S3(x:Str)(t:Tok):HY (.inr x) (.str x t)=true:=by simp[HY,Value.isStrOf]
def dC(a b:Int):decide ((Sum.inl a:Key)=Sum.inl b)=(a==b):=by
 by_cases e:a=b
 .subst e;simp
 .have h:¬ (Sum.inl a:Key)=Sum.inl b:=λq=>e (Sum.inl.inj q);rw[jO h];exact(beq_eq_false_iff_ne.mpr e).symm
def cz(a b:Str):decide ((Sum.inr a:Key)=Sum.inr b)=decide (a=b):=by
 by_cases e:a=b
 .subst e;simp
 .have h:¬ (Sum.inr a:Key)=Sum.inr b:=λq=>e (Sum.inr.inj q);rw[jO h,jO e]
def d9(a:Int)(b:Str):decide ((Sum.inl a:Key)=Sum.inr b)=false:=jO (λq=>nomatch q)
def d8(a:Str)(b:Int):decide ((Sum.inr a:Key)=Sum.inl b)=false:=jO (λq=>nomatch q)
noncomputable def BR(prog:Program)(w:World):PySem.KeyKind prog w Key where
 is:=HY
 hash:=gN w
 inj:=λv a b ha hb=>by
  rcases BO ha with⟨i,t,rfl,rfl⟩|⟨x,t,rfl,rfl⟩
  .rcases BO hb with⟨j,u,rfl,e⟩|⟨y,u,rfl,e⟩
   .injection e with e1 _;rw[e1]
   .exact nomatch e
  .rcases BO hb with⟨j,u,rfl,e⟩|⟨y,u,rfl,e⟩
   .exact nomatch e
   .injection e with e1 _;rw[e1]
 byValue:=λk v h=>by
  rcases BO h with⟨i,t,rfl,rfl⟩|⟨x,t,rfl,rfl⟩<;>rfl
 pyHash:=λhv h=>by
  rcases BO hv with⟨i,t,rfl,rfl⟩|⟨x,t,rfl,rfl⟩
  .exact wpAny_pyHash_int h
  .exact wpAny_pyHash_str h
 eqBool:=λhu hv h=>by
  rcases BO hu with⟨i,t,rfl,rfl⟩|⟨x,t,rfl,rfl⟩
  .rcases BO hv with⟨j,u,rfl,rfl⟩|⟨y,u,rfl,rfl⟩
   .rw[dC]at h;exact wpAny_eqBool_int h
   .rw[d9]at h;exact SeqAt.EqAt.int_str i t y u _ _ _ _ h
  .rcases BO hv with⟨j,u,rfl,rfl⟩|⟨y,u,rfl,rfl⟩
   .rw[d8]at h;exact SeqAt.EqAt.str_int x t j u _ _ _ _ h
   .rw[cz]at h;exact wpAny_eqBool_str h
 «strs»:=λk x t v h=>by
  rcases BO h with⟨i,u,rfl,e⟩|⟨y,u,rfl,e⟩
  .exact nomatch e
  .injection e with e1 _
   subst e1;cases v<;>rfl
def NY(prog:Program)(w:World)(i:Int)(t:Tok):(BR prog w).is (.inl i) (.int i t)=true:=S4 i t
def NX(prog:Program)(w:World)(x:Str)(t:Tok):(BR prog w).is (.inr x) (.str x t)=true:=S3 x t
inductive V where
 |non|bl (b:Bool)|int (i:Int)|str (x:Str)|byt (b:Array UInt8)|flt (b:UInt64)|ref (a:Addr)|ty (n:String)
 deriving DecidableEq
noncomputable def RelV:V->Value->Prop
 |.non,u=>u=Value.none
 |.bl b,u=>u=Value.bool b
 |.int i,u=>∃t,u=Value.int i t
 |.str x,u=>∃t,u=Value.str x t
 |.byt b,u=>∃t,u=Value.bytes b t
 |.flt b,u=>∃t,u=Value.float b t
 |.ref a,u=>u=Value.ref a
 |.ty n,u=>u=Value.type n
abbrev Vals:List V->List Value->Prop:=Paired RelV
theorem Vals.length{xs:List V}{us:List Value}(r:Vals xs us):xs.length=us.length:=Paired.length r
theorem Vals.get:∀{xs:List V} {us:List Value} {i:Nat} {x:V},Vals xs us->xs[i]?=some x->∃u,us[i]?=some u/\RelV x u
 |_,_,_,_,.nil,e=>by simp at e
 |_,_,0,_,.cons r _,e=>by simp at e;subst e;exact⟨_,rfl,r⟩
 |_,_,i+1,x,.cons _ t,e=>by
  obtain⟨u,h1,h2⟩:=Vals.get (i:=i) (x:=x) t (by simpa using e);exact⟨u,by simpa using h1,h2⟩
theorem Vals.set{x:V}{u:Value}(r:RelV x u):∀{xs:List V} {us:List Value} (i:Nat),Vals xs us->Vals (xs.set i x) (us.set i u)
 |_,_,_,.nil=>.nil
 |_,_,0,.cons _ t=>.cons r t
 |_,_,i+1,.cons q t=>.cons q (Vals.set r i t)
theorem Vals.append:∀{xs ys:List V} {us ws:List Value},Vals xs us->Vals ys ws->Vals (xs++ys) (us++ws)
 |_,_,_,_,.nil,s=>s
 |_,_,_,_,.cons r t,s=>.cons r (Vals.append t s)
theorem Vals.take:∀{xs:List V} {us:List Value} (n:Nat),Vals xs us->Vals (xs.take n) (us.take n)
 |_,_,0,_=>.nil
 |_,_,_+1,.nil=>.nil
 |_,_,n+1,.cons r t=>.cons r (Vals.take n t)
theorem Vals.drop:∀{xs:List V} {us:List Value} (n:Nat),Vals xs us->Vals (xs.drop n) (us.drop n)
 |_,_,0,r=>r
 |_,_,_+1,.nil=>.nil
 |_,_,n+1,.cons _ t=>Vals.drop n t
noncomputable def RelO:Option V->Option Value->Prop
 |some v,some u=>RelV v u
 |none,none=>True
 |_,_=>False
def KV{κ:Type}:List (κ×V)->List (κ×Value)->Prop:=Paired λ(p:κ×V) (q:κ×Value)=>p.1=q.1/\RelV p.2 q.2
noncomputable def kV:Key->V
 |.inl i=>.int i
 |.inr x=>.str x
inductive HO where
 /-- a list -/
 |lst (xs:List V)
 /-- a tuple (never changes) -/
 |tup (xs:List V)
 /-- a dict whose keys are ints and texts;one whose keys are tuples of ints and texts (the empty one is both) -/
 |dK (kvs:List (Key×V))|dT (kvs:List (List Key×V))
 /-- a set of ints: its members,its size -/
 |set (S:Int->Bool) (n:Nat)
 /-- an instance of the class at C,its dict at dx,its attributes -/
 |ins (C dx:Addr) (fs:List (Str×V))
 /-- the dict of the instance at x -/
 |own (x:Addr)
 /-- the dict of an exception -/
 |xd (fs:List (Str×V))
 /-- a bound method,f of x -/
 |met (f x:Addr)
 /-- a range object lo,lo+1,.. below hi -/
 |rng (lo hi:Int)
 /-- a thing that is known to the object (the script;a dict while a loop walks it): read,never written while it is so -/
 |frz (o:Obj) (u:HO)
 /-- a code object's table -/
 |tbl (ps:Array Value)
 /-- any other thing,by what is true of its one object (a def of one's own: SetO a S n:=HO.ext λh=>..) -/
 |ext (φ:Heap->Prop)
noncomputable abbrev Hp:=Addr->Option HO
noncomputable def upd(H:Hp)(a:Addr)(o:HO):Hp:=λb=>if b=a then some o else H b
def AE{H:Hp}{a:Addr}{o:HO}:upd H a o a=some o:=by unfold upd;rw[j9 rfl]
def AD{H:Hp}{a b:Addr}{o:HO}(h:b≠a):upd H a o b=H b:=by unfold upd;rw[ja h]
def fM{H:Hp}{a b:Addr}{o u:HO}(h:H a=some o)(h':H b=some u)(d:o≠u):a≠b:=by
 intro e;subst e;rw[h]at h';exact d (Option.some.inj h')
def AV{H:Hp}{a b:Addr}{o:HO}(h:H a=some o)(h':H b=none):a≠b:=by
 intro e;subst e;rw[h]at h';cases h'
def IsTupD(h:Heap)(a:Addr)(items:Array Value):Prop:=∃o,h.get? a=some o/\o.cls=.type "tuple"/\(∃n,o.data=.seq items n)/\o.dict=none
def IsTupD.t{h:Heap}{a:Addr}{items:Array Value}(x:IsTupD h a items):IsTup h a items:=let ⟨o,e,c,d,_⟩:=x;⟨o,e,c,d⟩
def IsTupD.new(h:Heap)(items:Array Value):IsTupD (h.push { cls:=.type "tuple",data:=.seq items }) h.objs.size items:=⟨_,Heap.get?_push_size _ rfl,rfl,⟨_,rfl⟩,rfl⟩
section
variable(P:Program)(w:World)
noncomputable def ObjOk(H:Hp)(h:Heap)(a:Addr):HO->Prop
 |.lst xs=>xs.length<=sizeLine/\∃(its:List Value) (n:Nat),Vals xs its/\h.get? a=some { cls:=.type "list",data:=.seq its.toArray n }
 |.tup xs=>xs.length<=sizeLine/\∃its:List Value,Vals xs its/\IsTupD h a its.toArray
 |.dK kvs=>kvs.length<=sizeLine/\(a==sysModules)=false/\∃vs,KV kvs vs/\h.DictOf (BR P w) a vs
 |.dT kvs=>kvs.length<=sizeLine/\(a==sysModules)=false/\∃xs:List (List Key×Addr×Value),
  Paired (λ(p:List Key×V) (q:List Key×Addr×Value)=>p.1=q.1/\H q.2.1=some (.tup (p.1.map kV))/\RelV p.2 q.2.2) kvs xs /\
  ∃o es ep,h.get? a=some o/\o.ExactDict/\o.data=.dict es ep/\es.toList=xs.map (entryOfKey (tupleKind (BR P w)))/\(xs.map (·.1)).Nodup
 |.set S n=>h.SetOf (intKind P w) a S n
 |.ins C dx fs=>H dx=some (.own a)/\fs.length<=1000/\dx≠a/\h.get? a=some (PySem.W.instObj C dx)/\
  ∃mA,h.Ns1 dx mA/\(∀f,RelO (fs.lookup f) (mA f))/\PySem.Within mA (fs.map (·.1))
 |.own _=>∃o,h.get? a=some o
 |.xd fs=>∃mA,h.Ns1 a mA/\∀f,RelO (fs.lookup f) (mA f)
 |.rng lo hi=>∃t u v,h.get? a=some { cls:=.type "range",data:=.fields #[.int lo t,.int hi u,.int 1 v] }
 |.frz o u=>h.get? a=some o/\ObjOk H h a u
 |.tbl ps=>h.get? a=some { cls:=.none,data:=.fields ps }
 |.met f x=>h.get? a=some (PySem.W.methodObj (.ref f) (.ref x))
 |.ext φ=>φ h/\(∃o,h.get? a=some o)/\∀h1 h2:Heap,φ h1->(∀o,h1.get? a=some o->h2.get? a=some o)->φ h2
def HOk(H:Hp)(h:Heap):Prop:=∀a o,H a=some o->ObjOk P w H h a o
end
section
variable{P:Program}{w:World}{H H':Hp}{h h':Heap}{a:Addr}{o:HO}
def ObjOk.lt(x:ObjOk P w H h a o):a<h.objs.size:=by
 cases o with
 |lst xs=>obtain⟨_,_,_,_,e⟩:=x;exact Heap.lt_size e
 |tup xs=>obtain⟨_,_,_,o,e,_⟩:=x;exact Heap.lt_size e
 |dK kvs=>obtain⟨_,_,_,_,o,_,_,e,_⟩:=x;exact Heap.lt_size e
 |dT kvs=>obtain⟨_,_,_,_,o,_,_,e,_⟩:=x;exact Heap.lt_size e
 |set S n=>obtain⟨o,_,_,_,e,_⟩:=x;exact Heap.lt_size e
 |ins C dx fs=>obtain⟨_,_,_,e,_⟩:=x;exact Heap.lt_size e
 |own y=>obtain⟨_,e⟩:=x;exact Heap.lt_size e
 |xd fs=>obtain⟨_,⟨_,_,_,e,_⟩,_⟩:=x;exact Heap.lt_size e
 |rng lo hi=>obtain⟨_,_,_,e⟩:=x;exact Heap.lt_size e
 |frz ob u=>obtain⟨e,_⟩:=x;exact Heap.lt_size e
 |tbl ps=>exact Heap.lt_size (show h.get? a=some _ from x)
 |met f y=>exact Heap.lt_size (show h.get? a=some _ from x)
 |ext φ=>obtain⟨_,⟨_,e⟩,_⟩:=x;exact Heap.lt_size e
theorem Paired.mapP{α β:Type}{F G:α->β->Prop}:∀{l₁:List α} {l₂:List β},Paired F l₁ l₂->(∀a b,F a b->G a b)->Paired G l₁ l₂
 |_,_,.nil,_=>.nil
 |_,_,.cons r t,f=>.cons (f _ _ r) (Paired.mapP t f)
def ObjOk.stay(x:ObjOk P w H h a o)(k:∀b u,(b=a∨H b=some (.own a))->h.get? b=some u->h'.get? b=some u)
 (ho:∀b,H b=some (.own a)->H' b=some (.own a)) (ht:∀b xs,H b=some (.tup xs)->H' b=some (.tup xs)):ObjOk P w H' h' a o:=by
 induction o with
 |lst xs=>obtain⟨z,its,n,r,e⟩:=x;exact⟨z,its,n,r,k _ _ (.inl rfl) e⟩
 |tup xs=>obtain⟨z,its,r,ob,e,c⟩:=x;exact⟨z,its,r,ob,k _ _ (.inl rfl) e,c⟩
 |dK kvs=>obtain⟨z,y,vs,r,ob,es,ep,e,c⟩:=x;exact⟨z,y,vs,r,ob,es,ep,k _ _ (.inl rfl) e,c⟩
 |dT kvs=>
  obtain⟨z,y,xs,r,ob,es,ep,e,c⟩:=x;exact⟨z,y,xs,Paired.mapP r λp q z=>⟨z.1,ht _ _ z.2.1,z.2.2⟩,ob,es,ep,k _ _ (.inl rfl) e,c⟩
 |set S n=>obtain⟨ob,es,ep,t,e,c⟩:=x;exact⟨ob,es,ep,t,k _ _ (.inl rfl) e,c⟩
 |ins C dx fs=>
  obtain⟨d,z,ne,e,mA,⟨od,es,ep,e2,c⟩,r⟩:=x;exact⟨ho _ d,z,ne,k _ _ (.inl rfl) e,mA,⟨od,es,ep,k _ _ (.inr d) e2,c⟩,r⟩
 |own y=>obtain⟨ob,e⟩:=x;exact⟨ob,k _ _ (.inl rfl) e⟩
 |xd fs=>obtain⟨mA,⟨od,es,ep,e,c⟩,r⟩:=x;exact⟨mA,⟨od,es,ep,k _ _ (.inl rfl) e,c⟩,r⟩
 |rng lo hi=>obtain⟨t,u,v,e⟩:=x;exact⟨t,u,v,k _ _ (.inl rfl) e⟩
 |frz ob u ih=>obtain⟨e,q⟩:=x;exact⟨k _ _ (.inl rfl) e,ih q⟩
 |tbl ps=>
  have e:h.get? a=some { cls:=.none,data:=.fields ps }:=x;show h'.get? a=some { cls:=.none,data:=.fields ps };exact k a _ (.inl rfl) e
 |met f y=>
  have e:h.get? a=some (PySem.W.methodObj (.ref f) (.ref y)):=x;show h'.get? a=some (PySem.W.methodObj (.ref f) (.ref y));exact k a _ (.inl rfl) e
 |ext φ=>obtain⟨p,⟨o,e⟩,st⟩:=x;exact⟨st _ _ p λo q=>k _ _ (.inl rfl) q,⟨o,k _ _ (.inl rfl) e⟩,st⟩
theorem HOk.lt(x:HOk P w H h)(e:H a=some o):a<h.objs.size:=(x a o e).lt
def HOk.fresh(x:HOk P w H h)(e:h.objs.size<=a):H a=none:=by
 cases q:H a with
 |none=>rfl
 |some u=>exact absurd (jn (x.lt q) e) (jM _)
def HOk.kept(x:HOk P w H h)(k:∀b u,h.get? b=some u->h'.get? b=some u):HOk P w H h':=λa o e=>
 (x a o e).stay (λb u _ q=>k b u q) (λ_ q=>q) λ_ _ q=>q
def HOk.laid(x:HOk P w H h)(k:∀b u,h.get? b=some u->h'.get? b=some u)(hp:h.objs.size<=a)(new:ObjOk P w (upd H a o) h' a o):HOk P w (upd H a o) h':=λb u e=>by
 have hn:=x.fresh hp;by_cases hb:b=a
 .subst hb;rw[AE]at e;cases e;exact new
 .rw[AD hb]at e;exact(x b u e).stay (λc v _ q=>k c v q) (λc q=>by rw[AD (AV q hn)];exact q) λc xs q=>by rw[AD (AV q hn)];exact q
end
def Rd(H:Hp)(a:Addr)(u:HO):Prop:=H a=some u∨∃o,H a=some (.frz o u)
def Rd.ok{P:Program}{w:World}{H:Hp}{h:Heap}{a:Addr}{u:HO}(r:Rd H a u)(x:HOk P w H h):ObjOk P w H h a u:=by
 rcases r with r|⟨o,r⟩
 .exact x a u r
 .obtain⟨_,q⟩:=x a _ r;exact q
noncomputable def Mut:Option HO->Prop
 |some (.lst _)=>True
 |some (.dK _)=>True
 |some (.dT _)=>True
 |some (.set _ _)=>True
 |some (.ins _ _ _)=>True
 |some (.ext _)=>True
 |_=>False
section
variable{P:Program}{w:World}{H:Hp}{h h':Heap}{x e:Addr}{o':HO}
def HOk.write(ok:HOk P w H h)(mu:Mut (H x))(he:e=x∨H e=some (.own x))(k:∀b u,b≠e->h.get? b=some u->h'.get? b=some u)(heo:∃u,h'.get? e=some u)
 (new:ObjOk P w (upd H x o') h' x o'):HOk P w (upd H x o') h':=λb u q=>by
 have nown:∀c y,H c=some (.own y)->c≠x:=λc y r z=>by subst z;rw[r]at mu;exact mu
 have ntup:∀c xs,H c=some (.tup xs)->c≠x:=λc xs r z=>by subst z;rw[r]at mu;exact mu
 by_cases hb:b=x
 .subst hb;rw[AE]at q;cases q;exact new
 .rw[AD hb]at q;by_cases hbe:b=e
  .have q':H b=some (.own x):=by
    rcases he with z|z
    .exact absurd (hbe.trans z) hb
    .rw[hbe];exact z
   rw[q]at q';cases q';obtain⟨v,hv⟩:=heo;exact⟨v,by rw[hbe];exact hv⟩
  .refine(ok b u q).stay (λc v hc r=>k c v ?_ r) (λc r=>by rw[AD (nown c b r)];exact r) λc xs r=>by rw[AD (ntup c xs r)];exact r
   rcases hc with rfl|hc
   .exact hbe
   .rintro rfl;rcases he with z|z
    .exact nown c b hc z
    .rw[hc]at z;cases z;exact hb rfl
end
structure Un(fs ex:List Addr)(H H':Hp)(h h':Heap):Prop where
 keep:∀b o,h.get? b=some o->H b=none->b∉fs->b∉ex->h'.get? b=some o
 slot:∀b o,h.get? b=some o->H b=none->b∈fs->b∉ex->∃sl,h'.get? b=some { o with slots:=sl }
 free:∀b o,h.get? b=some o->H b=none->b∉ex->H' b=none
 there:∀b o,h.get? b=some o->b∉ex->∃o',h'.get? b=some o'
 tups:∀b xs,H b=some (.tup xs)->H' b=some (.tup xs)
 frzs:∀b o u,H b=some (.frz o u)->H' b=some (.frz o u)
 tbls:∀b ps,H b=some (.tbl ps)->∃more,H' b=some (.tbl (ps++more))
section
variable{fs fs' ex ex':List Addr}{H H1 H2:Hp}{h h1 h2 h':Heap}{a x e:Addr}{o:HO}
def Un.any(u:Un fs ex H H1 h h1){b:Addr}{ob:Obj}(q:h.get? b=some ob)(n:H b=none)(hx:b∉ex):∃sl,h1.get? b=some { ob with slots:=sl }:=by
 by_cases hb:b∈fs
 .exact u.slot b ob q n hb hx
 .exact⟨ob.slots,u.keep b ob q n hb hx⟩
def Un.kept(k:∀b u,h.get? b=some u->h'.get? b=some u):Un fs ex H H h h':=
 ⟨λb ob q _ _ _=>k b ob q,λb ob q _ _ _=>⟨ob.slots,k b ob q⟩,λ_ _ _ n _=>n,λb ob q _=>⟨ob,k b ob q⟩,λ_ _ q=>q,λ_ _ _ q=>q,λ_ ps q=>⟨#[],by rw[q];simp⟩⟩
def Un.refl:Un fs ex H H h h:=Un.kept λ_ _ q=>q
def Un.laid(k:∀b u,h.get? b=some u->h'.get? b=some u)(hp:h.objs.size<=a)(hn:H a=none):Un fs ex H (upd H a o) h h' where
 keep:=λb u q _ _ _=>k b u q
 slot:=λb u q _ _ _=>⟨u.slots,k b u q⟩
 free:=λb u q n _=>by rw[AD (jg (jn (Heap.lt_size q) hp))];exact n
 there:=λb u q _=>⟨u,k b u q⟩
 tups:=λb xs q=>by rw[AD (AV q hn)];exact q
 frzs:=λb u xs q=>by rw[AD (AV q hn)];exact q
 tbls:=λb ps q=>⟨#[],by rw[AD (AV q hn),q];simp⟩
def Un.write(mu:Mut (H x))(he:e=x∨H e=some (.own x))(k:∀b u,b≠e->h.get? b=some u->h'.get? b=some u)(heo:∃u,h'.get? e=some u):Un fs ex H (upd H x o) h h':=by
 have hx:∀b,H b=none->b≠x:=λb n z=>by subst z;rw[n]at mu;exact mu
 have hb:∀b,H b=none->b≠e:=λb n z=>by
  subst z;rcases he with r|r
  .exact hx b n r
  .rw[n]at r;cases r
 have hm:∀b u,H b=some u->¬ Mut (some u)->b≠x:=λb u q nm z=>by subst z;rw[q]at mu;exact nm mu
 refine⟨λb u q n _ _=>k b u (hb b n) q,λb u q n _ _=>⟨u.slots,k b u (hb b n) q⟩,λb u q n _=>by rw[AD (hx b n)];exact n,λb u q _=>?_,
  λb xs q=>by rw[AD (hm b _ q λz=>z)];exact q,λb u xs q=>by rw[AD (hm b _ q λz=>z)];exact q,λb ps q=>⟨#[],by rw[AD (hm b _ q λz=>z),q];simp⟩⟩
 by_cases hbe:b=e
 .subst hbe;exact heo
 .exact⟨u,k b u hbe q⟩
end
noncomputable def trk(h:Heap)(H:Hp):List Addr:=(List.range h.objs.size).filter λa=>(H a).isSome
noncomputable def G9(h:Heap)(H:Hp):Heap:=PySem.W.hideAll h (trk h H)
def SA(h:Heap)(H:Hp):(G9 h H).objs.size=h.objs.size:=PySem.W.hideAll_size _ _
def VA{h:Heap}{H:Hp}{b:Addr}{o:Obj}(e:h.get? b=some o)(n:H b=none):(G9 h H).get? b=some o:=
 PySem.W.hideAll_get _ e λhm=>by
  have q:(H b).isSome=true:=(mem_filter.mp hm).2;rw[n]at q;simp at q
def Yj{h:Heap}{H:Hp}{b:Addr}{o:Obj}(e:(G9 h H).get? b=some o):h.get? b=some o/\H b=none:=by
 have e':h.get? b=some o:=PySem.W.of_hideAll (trk h H) e;refine⟨e',?_⟩;cases q:H b with
 |none=>rfl
 |some x=>
  have hm:b∈trk h H:=mem_filter.mpr ⟨List.mem_range.mpr (Heap.lt_size e'),by simp[q]⟩;have z:(G9 h H).get? b=none:=PySem.W.hideAll_none (trk h H) hm;rw[z]at e;cases e
noncomputable def ZP(g h:Heap)(L:Addr):List (Addr×Obj):=(List.range h.objs.size).filterMap λa=>if a=L∨(g.get? a).isSome=true then none else(h.get? a).map λo=>(a,o)
noncomputable def rest(g h:Heap)(L d:Addr):List (Addr×Obj):=(ZP g h L).filter λp=>decide (p.1≠d)
structure Mod(K:Frag)(mg:Str->Option Value)(base:Heap):Prop where
 kin:K.In base
 glob:base.Ns mainGlobals mg
 blt:∃mb,base.Ns builtinsNs mb/\∀x:Str,x≠"__name__"->mb x=bootBuiltins x
 nolimit:base.NoLimit
structure Cx where
 prog:Program
 w:World
 K:Frag
 mg:Str->Option Value
 base:Heap
 A:Around
 N:List Str
 s₀:Shared
 H₀:Hp
 env:Env
 outer:List Env
 stack:List Env
 ex:List Addr
 fn:Str->Bool
 calm:Bool
 pn:List (Addr×Obj)
 xe:Value->Shared->Prop
noncomputable def frs(l:List Env):List Addr:=l.filterMap (·.frame)
noncomputable abbrev Cx.fs(X:Cx):List Addr:=frs X.outer
def Vis(sc:Scope)(x:Str):Prop:=sc.names.lookup x=some .local∨sc.names.lookup x=some .cell∨sc.names.lookup x=some .free
def Loc(sc:Scope)(x:Str):Prop:=sc.names.lookup x=some .local∨sc.names.lookup x=some .cell
def gh(env:Env)(h:Heap)(m:Str->Option Value)(x:Str)(u:Value):Prop:=
 (env.kindOf x=some .local/\m x=some u)∨((env.kindOf x=some .cell∨env.kindOf x=some .free)/\∃c,env.cells.lookup x=some c/\h.IsCell c (some u))
structure Cx.Ok(X:Cx):Prop where
 mod:Mod X.K X.mg X.base
 kind:X.env.scope.kind=.function
 glob:X.env.globals=mainGlobals
 blt:X.env.builtins=builtinsNs
 above:X.s₀.heap.objs.size<=X.env.locals
 inj:∀x y c,X.env.cells.lookup x=some c->X.env.cells.lookup y=some c->x=y
 has:∀x,(X.env.kindOf x=some .cell∨X.env.kindOf x=some .free)->∃c,X.env.cells.lookup x=some c
 cab:∀x c,X.fn x=true->X.env.cells.lookup x=some c->X.s₀.heap.objs.size<=c
 hd:X.calm=true->X.A.handled=none
 frames:X.A.frames=some X.stack
 stk:X.stack=X.outer∨(X.stack=X.env::X.outer/\X.env.frame=some X.env.locals)
 exf:∀b∈X.ex,b≠X.env.locals/\∀x c,X.env.cells.lookup x=some c->c≠b
 bs:∀b o,X.base.get? b=some o->X.s₀.heap.get? b=some o/\X.H₀ b=none
 bsz:X.base.objs.size<=X.s₀.heap.objs.size
 noex:∀b o,X.base.get? b=some o->b∉X.ex
 exfs:∀b∈X.ex,b∉X.fs
 funs:X.s₀.heap.FunFrames X.base X.outer
 frf:∀b∈X.fs,X.H₀ b=none
structure Inv(X:Cx)(O:List (Addr×Obj))(σ:List (Option V))(H:Hp)(s:Shared):Prop where
 ok:X.Ok
 os:s.os=X.s₀.os
 bare:AllBare s.gens
 base:Un X.fs X.ex X.H₀ H X.s₀.heap s.heap
 loc:∃m,s.heap.Ns X.env.locals m/\∀(i:Nat) (x:Str) (v:V),X.N[i]?=some x->σ[i]?=some (some v)->Vis X.env.scope x->∃u,RelV v u/\gh X.env s.heap m x u
 cell:∀x c,X.env.cells.lookup x=some c->∃v,s.heap.IsCell c v
 free:H X.env.locals=none
 freeC:∀x c,X.env.cells.lookup x=some c->H c=none
 pin:∀p∈X.pn++O,s.heap.get? p.1=some p.2/\H p.1=none/\p.1≠X.env.locals/\p.1∉X.fs/\∀v,p.2.data≠.cell v
 hok:HOk X.prog X.w H s.heap
 len:σ.length=X.N.length
section
variable{X:Cx}{O:List (Addr×Obj)}{σ:List (Option V)}{H H':Hp}{s:Shared}{h':Heap}
def Cx.Ok.nofr(ok:X.Ok){b:Addr}{o:Obj}(e:X.base.get? b=some o):b∉X.fs:=λhb=>by
 have:=(ok.funs.mem hb).1;rw[e]at this;cases this
theorem Inv.bs(I:Inv X O σ H s):∀b o,X.base.get? b=some o->s.heap.get? b=some o/\H b=none:=λb o e=>
 ⟨I.base.keep b o (I.ok.bs b o e).1 (I.ok.bs b o e).2 (I.ok.nofr e) (I.ok.noex b o e),I.base.free b o (I.ok.bs b o e).1 (I.ok.bs b o e).2 (I.ok.noex b o e)⟩
def Inv.bk(I:Inv X O σ H s):∀b o,X.base.get? b=some o->s.heap.get? b=some o:=λb o e=>(I.bs b o e).1
theorem Inv.mod(I:Inv X O σ H s):Mod X.K X.mg X.base:=I.ok.mod
def Inv.kIn(I:Inv X O σ H s):X.K.In s.heap:=I.ok.mod.kin.keeps I.bk
def Inv.fr(I:Inv X O σ H s):∃m,Fr X.base X.env.locals s.heap m:=
 let ⟨m,hn,_⟩:=I.loc
 ⟨m,hn,I.bk,jh I.ok.bsz I.ok.above⟩
theorem Inv.lt(I:Inv X O σ H s):X.env.locals<s.heap.objs.size:=let ⟨_,hn,_⟩:=I.loc;hn.lt
def Inv.sz(I:Inv X O σ H s):X.s₀.heap.objs.size<=s.heap.objs.size:=jh I.ok.above (le_of_lt I.lt)
def Inv.nofs(I:Inv X O σ H s){a:Addr}(h:s.heap.objs.size<=a):a∉X.fs:=λhb=>by
 obtain⟨_,o,ho,_⟩:=I.ok.funs.mem hb;exact absurd (jn (Heap.lt_size ho) (jh I.sz h)) (jM _)
def Inv.cne(I:Inv X O σ H s):∀x c,X.env.cells.lookup x=some c->c≠X.env.locals:=λx c e z=>by
 obtain⟨v,o,ho,hd⟩:=I.cell x c e;obtain⟨m,⟨o',es,ep,ho',hd',_⟩,_⟩:=I.loc;rw[z,ho']at ho;cases ho;rw[hd']at hd;cases hd
theorem Inv.funs(I:Inv X O σ H s):s.heap.FunFrames X.base X.outer:=by
 have all:∀(l:List Env),(∀b∈frs l,b∈X.fs)->X.s₀.heap.FunFrames X.base l->s.heap.FunFrames X.base l:=by
  intro l
  induction l with
  |nil=>intro _ _;trivial
  |cons env r ih=>
   intro hs hl;obtain⟨hk,⟨L,o,hf,hn,ho,hd⟩,hr⟩:=hl;have hL:L∈X.fs:=hs L (by unfold frs;rw[jI,hf];exact jw);obtain⟨sl,e⟩:=I.base.slot L o ho (I.ok.frf L hL) hL λz=>I.ok.exfs L z hL;exact⟨hk,⟨L,_,hf,hn,e,hd⟩,ih (λb hb=>hs b (by unfold frs;rw[jI,hf];exact jq _ hb)) hr⟩
 exact all X.outer (λ_ hb=>hb) I.ok.funs
theorem Inv.stack(I:Inv X O σ H s):s.heap.FunFrames X.base X.stack:=by
 rcases I.ok.stk with e|⟨e,hf⟩
 .rw[e];exact I.funs
 .rw[e];obtain⟨m,hn,_⟩:=I.loc;refine .cons (by rw[I.ok.kind];decide) hf hn ?_ I.funs;exact Heap.get?_none_of_le (jh I.ok.bsz I.ok.above)
def Inv.stkSub(I:Inv X O σ H s):∀b∈frs X.stack,b∈X.env.locals::X.fs:=λb hb=>by
 rcases I.ok.stk with e|⟨e,hf⟩
 .rw[e]at hb;exact jq _ hb
 .rw[e]at hb;unfold frs at hb;rw[jI,hf]at hb;exact hb
def Inv.stkFree(I:Inv X O σ H s):∀b∈frs X.stack,H b=none:=λb hb=>by
 rcases mem_cons.mp (I.stkSub b hb)with e|hb
 .rw[e];exact I.free
 .obtain⟨_,o,ho,_⟩:=I.ok.funs.mem hb;exact I.base.free b o ho (I.ok.frf b hb) λz=>I.ok.exfs b z hb
def Inv.step{g':Array GenState}{t':Nat}{d':Drawn}{ch:List Addr}(I:Inv X O σ H s)
 (hch:∀b∈ch,(b∈X.ex∨X.s₀.heap.objs.size<=b)/\b≠X.env.locals/\(∀x c,X.env.cells.lookup x=some c->c≠b)/\∀p∈X.pn++O,p.1≠b)
 (keep:∀b o,b≠X.env.locals->b∉X.fs->b∉ch->s.heap.get? b=some o->H b=none->h'.get? b=some o)
 (slot:∀b o,b≠X.env.locals->b∈X.fs->b∉ch->s.heap.get? b=some o->H b=none->∃sl,h'.get? b=some { o with slots:=sl }) (free:∀b o,b∉ch->s.heap.get? b=some o->H b=none->H' b=none)
 (there:∀b o,b∉ch->s.heap.get? b=some o->∃o',h'.get? b=some o')
 (tups:∀b xs,H b=some (.tup xs)->H' b=some (.tup xs)) (frzs:∀b o u,H b=some (.frz o u)->H' b=some (.frz o u)) (tbls:∀b ps,H b=some (.tbl ps)->∃more,H' b=some (.tbl (ps++more)))
 (ns:∀m,s.heap.Ns X.env.locals m->h'.Ns X.env.locals m) (hok:HOk X.prog X.w H' h') (hg:AllBare g'):
 Inv X O σ H' { s with heap:=h',gens:=g',drawn:=d',toks:=t' }:=by
 have neL:∀b o,X.s₀.heap.get? b=some o->b≠X.env.locals:=λb o e=>jg (jn (Heap.lt_size e) I.ok.above);have neC:∀b o,X.s₀.heap.get? b=some o->b∉X.ex->b∉ch:=λb o e hx hb=>by
  rcases(hch b hb).1 with z|z
  .exact hx z
  .exact absurd (jn (Heap.lt_size e) z) (jM _)
 have cellK:∀x c,X.env.cells.lookup x=some c->∀v,s.heap.IsCell c v->h'.IsCell c v:=λx c e v ⟨o,ho,hd⟩=>by
  have nch:c∉ch:=λz=>(hch c z).2.2.1 x c e rfl;by_cases hc:c∈X.fs
  .obtain⟨sl,q⟩:=slot c o (I.cne x c e) hc nch ho (I.freeC x c e);exact⟨_,q,hd⟩
  .exact⟨o,keep c o (I.cne x c e) hc nch ho (I.freeC x c e),hd⟩
 refine⟨I.ok,I.os,hg,⟨λb o e n hb hx=>?_,λb o e n hb hx=>?_,λb o e n hx=>?_,λb o e hx=>?_,λb xs e=>tups b xs (I.base.tups b xs e),λb o xs e=>frzs b o xs (I.base.frzs b o xs e),λb ps e=>?_⟩,?_,λx c e=>?_,?_,λx c e=>?_,λp hp=>?_,hok,I.len⟩
 .exact keep b o (neL b o e) hb (neC b o e hx) (I.base.keep b o e n hb hx) (I.base.free b o e n hx)
 .obtain⟨sl,e1⟩:=I.base.slot b o e n hb hx;obtain⟨sl',e2⟩:=slot b _ (neL b o e) hb (neC b o e hx) e1 (I.base.free b o e n hx);exact⟨sl',e2⟩
 .obtain⟨o',e1⟩:=I.base.there b o e hx;exact free b o' (neC b o e hx) e1 (I.base.free b o e n hx)
 .obtain⟨o',e1⟩:=I.base.there b o e hx;exact there b o' (neC b o e hx) e1
 .obtain⟨m1,e1⟩:=I.base.tbls b ps e;obtain⟨m2,e2⟩:=tbls b _ e1;exact⟨m1++m2,by rw[e2,Array.append_assoc]⟩
 .obtain⟨m,hn,hl⟩:=I.loc;refine⟨m,ns m hn,λi x v e1 e2 e3=>?_⟩;obtain⟨u,r,l⟩:=hl i x v e1 e2 e3;refine⟨u,r,?_⟩;rcases l with l|⟨k,c,e,z⟩
  .exact .inl l
  .exact .inr ⟨k,c,e,cellK x c e _ z⟩
 .obtain⟨v,z⟩:=I.cell x c e;exact⟨v,cellK x c e v z⟩
 .obtain⟨m,⟨o,_,_,ho,_⟩,_⟩:=I.loc;exact free _ o (λz=>(hch _ z).2.1 rfl) ho I.free
 .obtain⟨v,o,ho,hd⟩:=I.cell x c e;exact free c o (λz=>(hch c z).2.2.1 x c e rfl) ho (I.freeC x c e)
 .obtain⟨e,n,ne,nf,d⟩:=I.pin p hp;have nch:p.1∉ch:=λz=>(hch p.1 z).2.2.2 p hp rfl;exact⟨keep p.1 p.2 ne nf nch e n,free p.1 p.2 nch e n,ne,nf,d⟩
def Inv.un{t':Nat}(I:Inv X O σ H s)(u:Un X.fs [] H H' s.heap h')(hok:HOk X.prog X.w H' h'):Inv X O σ H' { s with heap:=h',toks:=t' }:=by
 obtain⟨m,⟨o,es,ep,ho,r⟩,_⟩:=id I.loc;obtain⟨sl,hL⟩:=u.any ho I.free (by simp);exact I.step (g':=s.gens) (d':=s.drawn) (ch:=[]) (λ_ z=>nomatch z) (λb o _ hb _ e n=>u.keep b o e n hb (by simp)) (λb o _ hb _ e n=>u.slot b o e n hb (by simp)) (λb o _ e n=>u.free b o e n (by simp)) (λb o _ e=>u.there b o e (by simp)) u.tups u.frzs u.tbls (λm' hm=>by
  obtain⟨o',es',ep',ho',r'⟩:=hm;rw[ho]at ho';cases ho';exact⟨_,es',ep',hL,r'⟩) hok I.bare
def Inv.call{g':Array GenState}{t':Nat}{d':Drawn}{ch:List Addr}(I:Inv X O σ H s)(u:Un (frs X.stack) ch H H' s.heap h')(hok:HOk X.prog X.w H' h')(hg:AllBare g')
 (hch:∀b∈ch,(b∈X.ex∨X.s₀.heap.objs.size<=b)/\b≠X.env.locals/\(∀x c,X.env.cells.lookup x=some c->c≠b)/\∀p∈X.pn++O,p.1≠b):
 Inv X O σ H' { s with heap:=h',gens:=g',drawn:=d',toks:=t' }:=by
 obtain⟨m,⟨o,es,ep,ho,r⟩,_⟩:=id I.loc;obtain⟨sl,hL⟩:=u.any ho I.free λz=>(hch _ z).2.1 rfl;exact I.step (ch:=ch) hch (λb o hL hb hc e n=>u.keep b o e n (λz=>(mem_cons.mp (I.stkSub b z)).elim hL hb) hc) (λb o _ _ hc e n=>u.any e n hc) (λb o hc e n=>u.free b o e n hc) (λb o hc e=>u.there b o e hc) u.tups u.frzs u.tbls (λm' hm=>by
  obtain⟨o',es',ep',ho',r'⟩:=hm;rw[ho]at ho';cases ho';exact⟨_,es',ep',hL,r'⟩) hok hg
def Inv.turned{t':Nat}{it:Addr}(I:Inv X O σ H s)(k:∀b o,b≠it->s.heap.get? b=some o->h'.get? b=some o)(hn:H it=none)(hL:it≠X.env.locals)
 (h1:it∈X.ex∨X.s₀.heap.objs.size<=it) (h2:∀x c,X.env.cells.lookup x=some c->c≠it) (h3:∀p∈X.pn++O,p.1≠it):Inv X O σ H { s with heap:=h',toks:=t' }:=by
 have nit:∀b u,H b=some u->b≠it:=λb u e z=>by rw[z,hn]at e;cases e
 refine I.step (g':=s.gens) (d':=s.drawn) (ch:=[it]) (λb hb=>?_) (λb o _ _ hc e _=>k b o (λz=>hc (by simp[z])) e) (λb o _ _ hc e _=>⟨o.slots,k b o (λz=>hc (by simp[z])) e⟩) (λ_ _ _ _ n=>n)
  (λb o hc e=>⟨o,k b o (λz=>hc (by simp[z])) e⟩) (λ_ _ e=>e) (λ_ _ _ e=>e) (λb ps e=>⟨#[],by rw[e];simp⟩) (λm hm=>?_) (λb u e=>?_) I.bare
 .have e:b=it:=by simpa using hb
  subst e;exact⟨h1,hL,h2,h3⟩
 .obtain⟨o,es,ep,ho,r⟩:=hm;exact⟨o,es,ep,k _ o (Ne.symm hL) ho,r⟩
 .refine(I.hok b u e).stay (λc v hc q=>k c v ?_ q) (λ_ q=>q) λ_ _ q=>q;rcases hc with z|z
  .rw[z];exact nit b u e
  .exact nit c _ z
def Inv.tok(I:Inv X O σ H s)(t:Nat):Inv X O σ H { s with toks:=t }:=I.un (h':=s.heap) (t':=t) Un.refl I.hok
theorem Inv.kept{t':Nat}(I:Inv X O σ H s)(k:∀b u,s.heap.get? b=some u->h'.get? b=some u):Inv X O σ H { s with heap:=h',toks:=t' }:=I.un (Un.kept k) (I.hok.kept k)
theorem Inv.laid{a:Addr}{o:HO}{t':Nat}(I:Inv X O σ H s)(k:∀b u,s.heap.get? b=some u->h'.get? b=some u)(hp:s.heap.objs.size<=a)(new:ObjOk X.prog X.w (upd H a o) h' a o):
 Inv X O σ (upd H a o) { s with heap:=h',toks:=t' }:=I.un (Un.laid k hp (I.hok.fresh hp)) (I.hok.laid k hp new)
theorem Inv.write{x e:Addr}{o:HO}{t':Nat}(I:Inv X O σ H s)(mu:Mut (H x))(he:e=x∨H e=some (.own x))(k:∀b u,b≠e->s.heap.get? b=some u->h'.get? b=some u)(heo:∃u,h'.get? e=some u)
 (new:ObjOk X.prog X.w (upd H x o) h' x o):Inv X O σ (upd H x o) { s with heap:=h',toks:=t' }:=I.un (Un.write mu he k heo) (I.hok.write mu he k heo new)
def Inv.weak{σ':List (Option V)}(I:Inv X O σ H s)(hl:σ'.length=σ.length)(w:∀(i:Nat) v,σ'[i]?=some (some v)->σ[i]?=some (some v)):Inv X O σ' H s:=
 ⟨I.ok,I.os,I.bare,I.base,let ⟨m,hn,hl'⟩:=I.loc;⟨m,hn,λi x v e1 e2 e3=>hl' i x v e1 (w i v e2) e3⟩,I.cell,I.free,I.freeC,I.pin,I.hok,hl.trans I.len⟩
def Inv.pins_of{pins':List (Addr×Obj)}(I:Inv X O σ H s)(h:∀p∈pins',s.heap.get? p.1=some p.2/\H p.1=none/\p.1≠X.env.locals/\p.1∉X.fs/\∀v,p.2.data≠.cell v):Inv X pins' σ H s:=
 ⟨I.ok,I.os,I.bare,I.base,I.loc,I.cell,I.free,I.freeC,λp hp=>(mem_append.mp hp).elim (λz=>I.pin p (jQ _ z)) (h p),I.hok,I.len⟩
def IP{N:List Str}(hN:N.Nodup){i j:Nat}{x:Str}(a:N[i]?=some x)(b:N[j]?=some x):i=j:=by
 obtain⟨h1,e1⟩:=List.getElem?_eq_some_iff.mp a;obtain⟨h2,e2⟩:=List.getElem?_eq_some_iff.mp b;exact(List.getElem_inj hN).mp (e1.trans e2.symm)
def KC{M:Model}{A:Around}{E:Value->Shared->Prop}{i:Nat}{x:Str}{v:V}{u:Value}{Q:Unit->Shared->Prop}(I:Inv X O σ H s)(hN:X.N.Nodup)(hi:X.N[i]?=some x)(hx:Loc X.env.scope x)(r:RelV v u)
 (h:∀s',Inv X O (σ.set i (some v)) H s'->(∃a,Heap.SameBut a s.heap s'.heap/\(a=X.env.locals∨X.env.cells.lookup x=some a))->Q () s') (hf:X.fn x=true∨X.env.scope.names.lookup x=some .local:=by first|exact .inl rfl|exact .inr rfl|assumption):wpAny M A (storeName X.env x u) Q E s:=by
 obtain⟨m,hn,hl⟩:=id I.loc;have hcls:(X.env.scope.kind==.class||(X.env.scope.kind==.module&&X.env.locals != X.env.globals))=false:=by rw[I.ok.kind];rfl
 have hiσ:i<σ.length:=by rw[I.len];exact(List.getElem?_eq_some_iff.mp hi).1
 have cne:=I.cne;have tracked:∀{a:Addr} {h':Heap},(∃o,s.heap.get? a=some o/\H a=none)->Heap.SameBut a s.heap h'->HOk X.prog X.w H h':=λ{a h'} ha hs b ob e=>by
  obtain⟨_,_,hfree⟩:=ha;refine(I.hok b ob e).stay (λc w' hc q=>(hs.2 c ?_).trans q) (λ_ q=>q) λ_ _ q=>q;rintro rfl;rcases hc with rfl|hc
  .rw[hfree]at e;cases e
  .rw[hfree]at hc;cases hc
 rcases hx with hk|hk
 .refine wpAny_storeName_local hk hn (λh' hn' hs=>?_) hcls;obtain⟨oL,_,_,hoL,_⟩:=id hn;refine h _ ⟨I.ok,I.os,I.bare,⟨λb o e n hb hx=>?_,λb o e n hb hx=>?_,I.base.free,λb o e hx=>?_,I.base.tups,I.base.frzs,I.base.tbls⟩,⟨_,hn',λj y v' e1 e2 e3=>?_⟩,λy c e=>?_,I.free,I.freeC,λp hp=>?_,tracked ⟨oL,hoL,I.free⟩ hs,by simpa using I.len⟩ ⟨_,hs,.inl rfl⟩
  .exact(hs.2 b (jg (jn (Heap.lt_size e) I.ok.above))).trans (I.base.keep b o e n hb hx)
  .obtain⟨sl,e1⟩:=I.base.slot b o e n hb hx;exact⟨sl,(hs.2 b (jg (jn (Heap.lt_size e) I.ok.above))).trans e1⟩
  .obtain⟨o',e1⟩:=I.base.there b o e hx;exact⟨o',(hs.2 b (jg (jn (Heap.lt_size e) I.ok.above))).trans e1⟩
  .by_cases hj:j=i
   .subst hj;rw[hi]at e1;cases e1;rw[List.getElem?_set_self hiσ]at e2;cases e2;exact⟨u,r,.inl ⟨hk,by simp⟩⟩
   .rw[List.getElem?_set_ne (Ne.symm hj)]at e2;obtain⟨u',r',q⟩:=hl j y v' e1 e2 e3;refine⟨u',r',?_⟩;rcases q with⟨k,e⟩|⟨k,c,e,z⟩
    .refine .inl ⟨k,?_⟩;have:y≠x:=λe=>hj (IP hN e1 (e ▸ hi));simp[this,e]
    .exact .inr ⟨k,c,e,z.sameBut hs (cne y c e)⟩
  .obtain⟨w',z⟩:=I.cell y c e;exact⟨w',z.sameBut hs (cne y c e)⟩
  .obtain⟨e,n,ne,nf,d⟩:=I.pin p hp;exact⟨(hs.2 p.1 ne).trans e,n,ne,nf,d⟩
 .have hfn:X.fn x=true:=by
   rcases hf with z|z
   .exact z
   .rw[z]at hk;cases hk
  obtain⟨c,hc⟩:=I.ok.has x (.inl hk);obtain⟨w',z⟩:=I.cell x c hc;refine wpAny_storeName_cell I.ok.kind hk hc z (λh' hc' hs=>?_);obtain⟨oc,hoc,hocd⟩:=id z;refine h { s with heap:=h' } ⟨I.ok,I.os,I.bare,⟨λb o e n hb hx=>?_,λb o e n hb hx=>?_,I.base.free,λb o e hx=>?_,I.base.tups,I.base.frzs,I.base.tbls⟩,⟨m,hn.sameBut hs (Ne.symm (cne x c hc)),λj y v' e1 e2 e3=>?_⟩,λy c' e=>?_,I.free,I.freeC,λp hp=>?_,tracked ⟨oc,hoc,I.freeC x c hc⟩ hs,by simpa using I.len⟩ ⟨c,hs,.inr hc⟩
  .exact(hs.2 b (jg (jn (Heap.lt_size e) (I.ok.cab x c hfn hc)))).trans (I.base.keep b o e n hb hx)
  .obtain⟨sl,e1⟩:=I.base.slot b o e n hb hx;exact⟨sl,(hs.2 b (jg (jn (Heap.lt_size e) (I.ok.cab x c hfn hc)))).trans e1⟩
  .obtain⟨o',e1⟩:=I.base.there b o e hx;exact⟨o',(hs.2 b (jg (jn (Heap.lt_size e) (I.ok.cab x c hfn hc)))).trans e1⟩
  .by_cases hj:j=i
   .subst hj;rw[hi]at e1;cases e1;rw[List.getElem?_set_self hiσ]at e2;cases e2;exact⟨u,r,.inr ⟨.inl hk,c,hc,hc'⟩⟩
   .rw[List.getElem?_set_ne (Ne.symm hj)]at e2;obtain⟨u',r',q⟩:=hl j y v' e1 e2 e3;refine⟨u',r',?_⟩;rcases q with q|⟨k,c',e,z'⟩
    .exact .inl q
    .refine .inr ⟨k,c',e,z'.sameBut hs ?_⟩;rintro rfl;exact hj (IP hN e1 (I.ok.inj _ _ _ e hc ▸ hi))
  .by_cases hcc:c'=c
   .subst hcc;exact⟨_,hc'⟩
   .obtain⟨w2,z2⟩:=I.cell y c' e;exact⟨w2,z2.sameBut hs hcc⟩
  .obtain⟨e,n,ne,nf,d⟩:=I.pin p hp;refine⟨(hs.2 p.1 ?_).trans e,n,ne,nf,d⟩;intro q;rw[q,hoc]at e;have q':oc=p.2:=Option.some.inj e;exact d w' (by rw[<- q'];exact hocd)
def Fh{M:Model}{A:Around}{E:Value->Shared->Prop}{i:Nat}{x:Str}{v:V}{u:Value}{Q:Unit->Shared->Prop}(I:Inv X O σ H s)(hN:X.N.Nodup)(hi:X.N[i]?=some x)(hx:Loc X.env.scope x)(r:RelV v u)
 (h:∀s',Inv X O (σ.set i (some v)) H s'->Q () s') (hf:X.fn x=true∨X.env.scope.names.lookup x=some .local:=by first|exact .inl rfl|exact .inr rfl|assumption):wpAny M A (storeName X.env x u) Q E s:=
 KC I hN hi hx r (λs' I' _=>h s' I') hf
def Inv.call'{s':Shared}{ch:List Addr}(I:Inv X O σ H s)(ho:s'.os=s.os)(u:Un (frs X.stack) ch H H' s.heap s'.heap)(hok:HOk X.prog X.w H' s'.heap)(hg:AllBare s'.gens)
 (hch:∀b∈ch,(b∈X.ex∨X.s₀.heap.objs.size<=b)/\b≠X.env.locals/\(∀x c,X.env.cells.lookup x=some c->c≠b)/\∀p∈X.pn++O,p.1≠b):Inv X O σ H' s':=by
 obtain⟨h',g',d',t',o'⟩:=s';have e:o'=s.os:=ho;subst e;exact I.call (g':=g') (t':=t') (d':=d') u hok hg hch
end
noncomputable abbrev XK:=Value->Option Addr->Hp->Prop
noncomputable abbrev St:=List (Option V)
noncomputable abbrev VK:=V->Hp->Prop
noncomputable abbrev TE:=St->Hp->VK->Prop
noncomputable abbrev TT:=St->Hp->(Bool->Hp->Prop)->Prop
noncomputable abbrev TA:=St->Hp->(List V->Hp->Prop)->Prop
structure Ends where
 nx:St->Hp->Prop
 rt:VK
 bk:St->Hp->Prop:=λ_ _=>False
 ct:St->Hp->Prop:=λ_ _=>False
noncomputable abbrev TS:=Ends->St->Hp->Prop
def EP(X:Cx)(O:List (Addr×Obj))(σ:St)(Q:VK)(u:Value)(s':Shared):Prop:=∃v H',Inv X O σ H' s'/\RelV v u/\Q v H'
def TP(X:Cx)(O:List (Addr×Obj))(σ:St)(Q:Bool->Hp->Prop)(b:Bool)(s':Shared):Prop:=∃H',Inv X O σ H' s'/\Q b H'
def AP(X:Cx)(O:List (Addr×Obj))(σ:St)(Q:List V->Hp->Prop)(us:List Value)(s':Shared):Prop:=∃vs H',Inv X O σ H' s'/\Vals vs us/\Q vs H'
def SP(X:Cx)(O:List (Addr×Obj))(D:Ends)(f:Flow)(s':Shared):Prop:=
 match f with
 |.next=>∃σ' H',Inv X O σ' H' s'/\D.nx σ' H'
 |.brk=>∃σ' H',Inv X O σ' H' s'/\D.bk σ' H'
 |.cont=>∃σ' H',Inv X O σ' H' s'/\D.ct σ' H'
 |.ret u=>∃v σ' H',Inv X O σ' H' s'/\RelV v u/\D.rt v H'
def PE(X:Cx)(e:Expr)(t:TE):Prop:=
 ∀(O:List (Addr×Obj)) (s:Shared) (σ:St) (H:Hp) (Q:VK),Inv X O σ H s->t σ H Q->wpAny (model X.prog X.w) X.A (eval e X.env) (EP X O σ Q) X.xe s
def PT(X:Cx)(e:Expr)(t:TT):Prop:=
 ∀(O:List (Addr×Obj)) (s:Shared) (σ:St) (H:Hp) (Q:Bool->Hp->Prop),Inv X O σ H s->t σ H Q->wpAny (model X.prog X.w) X.A (isTrue e X.env (eval e X.env)) (TP X O σ Q) X.xe s
def PW(X:Cx)(e:Expr)(t:TT):Prop:=
 ∀(whole:Sem Value) (O:List (Addr×Obj)) (s:Shared) (σ:St) (H:Hp) (Q:Bool->Hp->Prop),Inv X O σ H s->t σ H Q->wpAny (model X.prog X.w) X.A (isTrue e X.env whole) (TP X O σ Q) X.xe s
def PW.pt{X:Cx}{e:Expr}{t:TT}(h:PW X e t):PT X e t:=h _
def PA(X:Cx)(es:List Expr)(t:TA):Prop:=
 ∀(pos:Pos) (O:List (Addr×Obj)) (s:Shared) (σ:St) (H:Hp) (Q:List V->Hp->Prop),Inv X O σ H s->t σ H Q->wpAny (model X.prog X.w) X.A (spliced (backTo pos (starEach es X.env))) (AP X O σ Q) X.xe s
def PS(X:Cx)(st:Stmt)(t:TS):Prop:=
 ∀(O:List (Addr×Obj)) (s:Shared) (σ:St) (H:Hp) (D:Ends),Inv X O σ H s->t D σ H->wpAny (model X.prog X.w) X.A (exec st X.env) (SP X O D) X.xe s
def PSs(X:Cx)(st:List Stmt)(t:TS):Prop:=
 ∀(O:List (Addr×Obj)) (s:Shared) (σ:St) (H:Hp) (D:Ends),Inv X O σ H s->t D σ H->wpAny (model X.prog X.w) X.A (execs st X.env) (SP X O D) X.xe s
def thn{α:Type}{t:Sem α}{Q Q':α->Shared->Prop}{M:Model}{A:Around}{E:Value->Shared->Prop}{s:Shared}(h:wpAny M A t Q E s)(hQ:∀a s,Q a s->Q' a s):wpAny M A t Q' E s:=jo h hQ λ_ _ x=>x
section
variable{X:Cx}
def bin{a b:Expr}{ta tb:TE}(ha:PE X a ta)(hb:PE X b tb){O:List (Addr×Obj)}{s:Shared}{σ:St}{H:Hp}{R:V->V->Hp->Prop}(I:Inv X O σ H s)(h:ta σ H λx H1=>tb σ H1 λy H2=>R x y H2)
 {α:Type} {Q:α->Shared->Prop} {f:Value->Value->Sem α}
 (hf:∀v u s2 x y H2,Inv X O σ H2 s2->RelV x v->RelV y u->R x y H2->wpAny (model X.prog X.w) X.A (f v u) Q X.xe s2):
 wpAny (model X.prog X.w) X.A (eval a X.env) (λv s₁=>wpAny (model X.prog X.w) X.A (eval b X.env) (λu s₂=>wpAny (model X.prog X.w) X.A (f v u) Q X.xe s₂) X.xe s₁) X.xe s:=by
 refine thn (ha O s σ H _ I h) λv s1 ⟨x,H1,I1,r1,q1⟩=>?_;refine thn (hb O s1 σ H1 _ I1 q1) λu s2 ⟨y,H2,I2,r2,q2⟩=>?_;exact hf v u s2 x y H2 I2 r1 r2 q2
noncomputable def TU(i:Nat):TE:=λσ H Q=>∃v,σ[i]?=some (some v)/\Q v H
noncomputable def tC(v:V):TE:=λ_ H Q=>Q v H
def Gg{i:Nat}{x:Str}{pos:Pos}(hN:X.N[i]?=some x)(hv:Vis X.env.scope x)(hd:(x==("__debug__":Str))=false:=by decide)(hcd:(x==("__classdict__":Str))=false:=by decide):PE X (.Name x pos) (TU i):=by
 intro O s σ H Q I h;obtain⟨v,e,h⟩:=h;obtain⟨m,hn,hl⟩:=I.loc;obtain⟨u,r,l⟩:=hl i x v hN e hv;have fin:EP X O σ Q u s:=⟨v,H,I,r,h⟩
 rcases l with⟨hk,hm⟩|⟨hk,c,hc,hcell⟩
 .exact wpAny_Name (wpAny_loadName_local I.ok.kind hk hn hm fin) hd
 .rcases hk with hk|hk
  .exact wpAny_Name (wpAny_loadName_cell I.ok.kind hk hc hcell fin) hd
  .exact wpAny_Name (wpAny_loadName_free I.ok.kind hk hc hcell fin hcd) hd
def cD{i j pos}:PE X (.Constant (.int i) j pos) (tC (.int i)):=λ_ _ _ H _ I h=>wpAny_Constant_int ⟨.int i,H,I.tok _,⟨_,rfl⟩,h⟩
def fD{b j pos}:PE X (.Constant (.bool b) j pos) (tC (.bl b)):=λ_ _ _ H _ I h=>Constant_bool ⟨.bl b,H,I,rfl,h⟩
def cA{j pos}:PE X (.Constant .none j pos) (tC .non):=λ_ _ _ H _ I h=>Constant_none ⟨.non,H,I,rfl,h⟩
def c7{x j pos}:PE X (.Constant (.str x) j pos) (tC (.str x)):=λ_ _ _ H _ I h=>Calls.Constant_str ⟨.str x,H,I.tok _,⟨_,rfl⟩,h⟩
def Gl(X:Cx)(x:Str):Prop:=X.env.kindOf x=some .globalImplicit
def EE{E:Value->Shared->Prop}{O:List (Addr×Obj)}{s:Shared}{σ:St}{H:Hp}{x:Str}{u:Value}{pos:Pos}{Q:Value->Shared->Prop}(I:Inv X O σ H s)(hg:Gl X x)(hm:X.mg x=some u)(h:Q u s)
 (hd:(x==("__debug__":Str))=false:=by decide):wpAny (model X.prog X.w) X.A (eval (.Name x pos) X.env) Q E s:=
 Calls.Name_function_global I.ok.kind hg (Calls.loadGlobal_global (by rw[I.ok.glob];exact I.mod.glob.keeps I.bk) hm h) hd
def EV{E:Value->Shared->Prop}{O:List (Addr×Obj)}{s:Shared}{σ:St}{H:Hp}{x:Str}{u:Value}{pos:Pos}{Q:Value->Shared->Prop}(I:Inv X O σ H s)(hg:Gl X x)(hm:X.mg x=none)(hv:bootBuiltins x=some u)(h:Q u s)
 (hn:x≠"__name__":=by decide) (hd:(x==("__debug__":Str))=false:=by decide):wpAny (model X.prog X.w) X.A (eval (.Name x pos) X.env) Q E s:=by
 obtain⟨mb,h1,h2⟩:=I.mod.blt;exact Calls.Name_function_global I.ok.kind hg (Calls.loadGlobal_builtin (by rw[I.ok.glob];exact I.mod.glob.keeps I.bk) hm (by rw[I.ok.blt];exact h1.keeps I.bk) ((h2 x hn).trans hv) h) hd
variable{a b:Expr}{ta tb:TE}{pos:Pos}
def PC(X:Cx)(op:CmpOp)(a b:Expr)(t:TE):Prop:=
 ∀(O:List (Addr×Obj)) (s:Shared) (σ:St) (H:Hp) (Q:VK),Inv X O σ H s->t σ H Q ->
   wpAny (model X.prog X.w) X.A (eval a X.env) (λv s₁=>wpAny (model X.prog X.w) X.A (eval b X.env) (λu s₂=>wpAny (model X.prog X.w) X.A (compareOp op v u) (EP X O σ Q) X.xe s₂) X.xe s₁) X.xe s
noncomputable def tB(t:TE):TT:=λσ H Q=>t σ H λx H1=>∃c,x=.bl c/\Q c H1
def Rf{op:CmpOp}{t:TE}(h:PC X op a b t)(h1:behindInMarks op b=false:=by first|exact nobehind _ (by decide) (by decide)|rfl):PT X (.Compare a [op] [b] pos) (tB t):=by
 intro O s σ H Q I hw;refine wpAny_isTrue_Compare1 (thn (h O s σ H _ I hw) λv s1 h1=>thn h1 λu s2 h2=>thn h2 λc s3 ⟨x,H1,I1,r1,q1⟩=>?_) h1;obtain⟨d,rfl,q⟩:=q1;cases r1;exact kg ⟨H1,I1,q⟩
variable{tA tB':TT}{rest:List Expr}
noncomputable def Ta(t u:TT):TT:=λσ H Q=>t σ H λc H1=>if c=true then u σ H1 Q else Q false H1
noncomputable def tOr(t u:TT):TT:=λσ H Q=>t σ H λc H1=>if c=true then Q true H1 else u σ H1 Q
noncomputable def TV(t:TT):TT:=λσ H Q=>t σ H λc H1=>Q (!c) H1
def YE(ha:PT X a tA):PW X (.BoolOp .And [a] pos) tA:=by
 intro wh O s σ H Q I h;refine isTrue_and (thn (ha O s σ H Q I h) λc s1 e=>?_);cases c with
 |true=>exact isTrue_and_nil e
 |false=>exact e
def bc(ha:PT X a tA):PW X (.BoolOp .Or [a] pos) tA:=by
 intro wh O s σ H Q I h;refine isTrue_or (thn (ha O s σ H Q I h) λc s1 e=>?_);cases c with
 |false=>exact isTrue_or_nil e
 |true=>exact e
def bf(ha:PT X a tA)(hb:PW X (.BoolOp .And (b::rest) pos) tB'):PW X (.BoolOp .And (a::b::rest) pos) (Ta tA tB'):=by
 intro wh O s σ H Q I h;refine isTrue_and (thn (ha O s σ H _ I h) λc s1 ⟨H1,I1,q1⟩=>?_);cases c with
 |true=>exact hb wh O s1 σ H1 Q I1 q1
 |false=>exact⟨H1,I1,q1⟩
def f8(ha:PT X a tA)(hb:PW X (.BoolOp .Or (b::rest) pos) tB'):PW X (.BoolOp .Or (a::b::rest) pos) (tOr tA tB'):=by
 intro wh O s σ H Q I h;refine isTrue_or (thn (ha O s σ H _ I h) λc s1 ⟨H1,I1,q1⟩=>?_);cases c with
 |true=>exact⟨H1,I1,q1⟩
 |false=>exact hb wh O s1 σ H1 Q I1 q1
def bg(ha:PT X a tA):PT X (.UnaryOp .Not a pos) (TV tA):=by
 intro O s σ H Q I h;exact isTrue_not (ha O s σ H (λc H1=>Q (!c) H1) I h)
noncomputable def P1(ta tb:TE):TE:=λσ H Q=>ta σ H λx H1=>∃c,x=.bl c/\if c=true then tb σ H1 Q else Q (.bl false) H1
noncomputable def Oy(ta:TE):TE:=λσ H Q=>ta σ H λx H1=>∃c,x=.bl c/\Q (.bl (!c)) H1
def c8{op}{t:TE}(h:PE X a t):PE X (.BoolOp op [a] pos) t:=λO s σ H Q I hw=>BoolOp_one (h O s σ H Q I hw)
def cF(ha:PE X a ta)(hb:PE X (.BoolOp .And (b::rest) pos) tb):PE X (.BoolOp .And (a::b::rest) pos) (P1 ta tb):=by
 intro O s σ H Q I h;refine BoolOp_and (thn (ha O s σ H _ I h) λv s1 ⟨x,H1,I1,r1,q1⟩=>?_);obtain⟨c,rfl,q1⟩:=q1;cases r1;refine kg ?_;cases c with
 |true=>exact hb O s1 σ H1 Q I1 q1
 |false=>exact⟨.bl false,H1,I1,rfl,q1⟩
def c9(ha:PE X a ta):PE X (.UnaryOp .Not a pos) (Oy ta):=by
 intro O s σ H Q I h;refine UnaryOp_ (thn (ha O s σ H _ I h) λv s1 ⟨x,H1,I1,r1,q1⟩=>?_);obtain⟨c,rfl,q1⟩:=q1;cases r1;exact not_of (kg ⟨.bl (!c),H1,I1,rfl,q1⟩)
noncomputable def tIf(t:TT)(ta tb:TE):TE:=λσ H Q=>t σ H λc H1=>if c=true then ta σ H1 Q else tb σ H1 Q
def Ue{c:Expr}(hc:PT X c tA)(ha:PE X a ta)(hb:PE X b tb):PE X (.IfExp c a b pos) (tIf tA ta tb):=by
 intro O s σ H Q I h;refine wpAny_IfExp (thn (hc O s σ H _ I h) λd s1 ⟨H1,I1,q1⟩=>?_);cases d with
 |true=>exact ha O s1 σ H1 Q I1 q1
 |false=>exact hb O s1 σ H1 Q I1 q1
end
def SqL(K:Frag)(H:Hp)(a:Addr)(xs:List V):Prop:=
 Rd H a (.lst xs) ∨
  ∃(o:Obj) (its:Array Value) (n:Nat),K.lookup a=some o/\o.cls=.type "list"/\o.dict=none/\o.data=.seq its n/\its.size<=sizeLine/\Vals xs its.toList
def SqT(K:Frag)(H:Hp)(a:Addr)(xs:List V):Prop:=
 Rd H a (.tup xs) ∨
  ∃(o:Obj) (its:Array Value) (n:Nat),K.lookup a=some o/\o.cls=.type "tuple"/\o.dict=none/\o.data=.seq its n/\its.size<=sizeLine/\Vals xs its.toList
noncomputable def gb:Value->Option V
 |.none=>some .non
 |.bool b=>some (.bl b)
 |.int i _=>some (.int i)
 |.str x _=>some (.str x)
 |.bytes b _=>some (.byt b)
 |.float b _=>some (.flt b)
 |.ref a=>some (.ref a)
 |.type n=>some (.ty n)
 |_=>none
def RelV.abs{x:V}{u:Value}(r:RelV x u):gb u=some x:=by
 cases x with
 |non=>cases r;rfl
 |bl _=>cases r;rfl
 |int _=>obtain⟨t,rfl⟩:=r;rfl
 |str _=>obtain⟨t,rfl⟩:=r;rfl
 |byt _=>obtain⟨t,rfl⟩:=r;rfl
 |flt _=>obtain⟨t,rfl⟩:=r;rfl
 |ref _=>cases r;rfl
 |ty _=>cases r;rfl
theorem RelV.inj{x y:V}{u:Value}(r:RelV x u)(q:RelV y u):x=y:=Option.some.inj (r.abs.symm.trans q.abs)
theorem Vals.inj:∀{xs ys:List V} {us:List Value},Vals xs us->Vals ys us->xs=ys
 |_,_,_,.nil,.nil=>rfl
 |_,_,_,.cons r t,.cons r' t'=>by rw[r.inj r',Vals.inj t t']
section
variable{X:Cx}{O:List (Addr×Obj)}{σ:St}{H:Hp}{s:Shared}{a:Addr}{xs ys:List V}
def SqL.of{K:Frag}(h:H a=some (.lst xs)):SqL K H a xs:=.inl (.inl h)
def SqT.of{K:Frag}(h:H a=some (.tup xs)):SqT K H a xs:=.inl (.inl h)
def Inv.list(I:Inv X O σ H s)(h:SqL X.K H a xs):∃its:List Value,Vals xs its/\PlainL s.heap a its.toArray/\xs.length<=sizeLine:=by
 rcases h with h|⟨o,its,n,hk,hc,hd,hs,hz,r⟩
 .obtain⟨z,its,n,r,e⟩:=h.ok I.hok;exact⟨its,r,⟨_,n,e,rfl,rfl,rfl⟩,z⟩
 .refine⟨its.toList,r,⟨o,n,I.kIn a o hk,hc,hd,by simpa using hs⟩,?_⟩;have e:=r.length;simp only[Array.length_toList]at e;omega
def Inv.tuple(I:Inv X O σ H s)(h:SqT X.K H a xs):∃its:List Value,Vals xs its/\IsTup s.heap a its.toArray/\xs.length<=sizeLine:=by
 rcases h with h|⟨o,its,n,hk,hc,_,hs,hz,r⟩
 .obtain⟨z,its,r,p⟩:=h.ok I.hok;exact⟨its,r,p.t,z⟩
 .refine⟨its.toList,r,⟨o,I.kIn a o hk,hc,n,by simpa using hs⟩,?_⟩;have e:=r.length;simp only[Array.length_toList]at e;omega
def Inv.list_inj(I:Inv X O σ H s)(h:SqL X.K H a xs)(h':SqL X.K H a ys):xs=ys:=by
 obtain⟨its,r,⟨o,n,e,_,_,d⟩,_⟩:=I.list h;obtain⟨its',r',⟨o',n',e',_,_,d'⟩,_⟩:=I.list h';rw[e]at e';cases e';rw[d]at d'
 injection d' with d1 _
 have:its=its':=by simpa using jA Array.toList d1
 subst this;exact r.inj r'
def Inv.tuple_inj(I:Inv X O σ H s)(h:SqT X.K H a xs)(h':SqT X.K H a ys):xs=ys:=by
 obtain⟨its,r,⟨o,e,_,n,d⟩,_⟩:=I.tuple h;obtain⟨its',r',⟨o',e',_,n',d'⟩,_⟩:=I.tuple h';rw[e]at e';cases e';rw[d]at d'
 injection d' with d1 _
 have:its=its':=by simpa using jA Array.toList d1
 subst this;exact r.inj r'
end
noncomputable abbrev Cx.wish(X:Cx)(E:Value->Shared->Prop):Cx:={ X with xe:=E }
noncomputable abbrev Cx.nox(X:Cx):Cx:=X.wish λ_ _=>False
theorem Cx.Ok.wish{X:Cx}(ok:X.Ok)(E:Value->Shared->Prop):(X.wish E).Ok:=
 ⟨ok.mod,ok.kind,ok.glob,ok.blt,ok.above,ok.inj,ok.has,ok.cab,ok.hd,ok.frames,ok.stk,ok.exf,ok.bs,ok.bsz,ok.noex,ok.exfs,ok.funs,ok.frf⟩
def Cx.Ok.unwish{X:Cx}{E:Value->Shared->Prop}(ok:(X.wish E).Ok):X.Ok:=
 ⟨ok.mod,ok.kind,ok.glob,ok.blt,ok.above,ok.inj,ok.has,ok.cab,ok.hd,ok.frames,ok.stk,ok.exf,ok.bs,ok.bsz,ok.noex,ok.exfs,ok.funs,ok.frf⟩
section
variable{X:Cx}{O:List (Addr×Obj)}{σ:St}{H:Hp}{s:Shared}{E:Value->Shared->Prop}
theorem Inv.wish(I:Inv X O σ H s)(E:Value->Shared->Prop):Inv (X.wish E) O σ H s:=⟨I.ok.wish E,I.os,I.bare,I.base,I.loc,I.cell,I.free,I.freeC,I.pin,I.hok,I.len⟩
theorem Inv.unwish(I:Inv (X.wish E) O σ H s):Inv X O σ H s:=⟨I.ok.unwish,I.os,I.bare,I.base,I.loc,I.cell,I.free,I.freeC,I.pin,I.hok,I.len⟩
theorem SP.unwish{D:Ends}{f:Flow}{s':Shared}(h:SP (X.wish E) O D f s'):SP X O D f s':=by
 cases f with
 |next=>obtain⟨σ',H',I,q⟩:=h;exact⟨σ',H',I.unwish,q⟩
 |brk=>obtain⟨σ',H',I,q⟩:=h;exact⟨σ',H',I.unwish,q⟩
 |cont=>obtain⟨σ',H',I,q⟩:=h;exact⟨σ',H',I.unwish,q⟩
 |ret u=>obtain⟨v,σ',H',I,r,q⟩:=h;exact⟨v,σ',H',I.unwish,r,q⟩
theorem PSs.nox{st:List Stmt}{t:TS}(h:PSs X.nox st t):PSs X st t:=λO s σ H D I hw=>
 jo (h O s σ H D (I.wish _) hw) (λ_ _ q=>q.unwish) λ_ _ z=>False.elim z
end
section
variable{X:Cx}{st:Stmt}{rest:List Stmt}{t u:TS}{e:Expr}{te:TE}{pos:Pos}
noncomputable def HL:TS:=λD σ H=>D.nx σ H
noncomputable def Lc(t u:TS):TS:=λD σ H=>t { D with nx:=u D } σ H
def OB:PSs X [] HL:=λ_ _ σ H _ I h=>ko ⟨σ,H,I,h⟩
def MV(h1:PS X st t)(h2:PSs X rest u):PSs X (st::rest) (Lc t u):=by
 intro O s σ H D I h;refine kE (thn (h1 O s σ H { D with nx:=u D } I h) λf s1 q=>?_);cases f with
 |next=>
  obtain⟨σ',H',I',q⟩:=q;exact h2 O s1 σ' H' D I' q
 |ret v=>exact q
 |brk=>exact q
 |cont=>exact q
def OA(h1:PS X st t):PSs X [st] t:=by
 intro O s σ H D I h;refine kE (thn (h1 O s σ H D I h) λf s1 q=>?_);cases f with
 |next=>exact ko q
 |ret v=>exact q
 |brk=>exact q
 |cont=>exact q
def YI:PS X (.Pass pos) HL:=λ_ _ σ H _ I h=>wpAny_Pass ⟨σ,H,I,h⟩
def Inv.quiet{O:List (Addr×Obj)}{σ:St}{H:Hp}{s:Shared}(I:Inv X O σ H s):interactive X.env=false:=by simp[interactive,I.ok.kind]
noncomputable def Oz(te:TE):TS:=λD σ H=>te σ H λ_ H1=>D.nx σ H1
def YJ(he:PE X e te)(hs:swapsWith e none pos.line X.env=pure false:=by rfl):PS X (.Expr e pos) (Oz te):=by
 intro O s σ H D I h;exact wpAny_Expr_any (thn (he O s σ H _ I h) λv s1 ⟨x,H1,I1,r1,q1⟩=>⟨σ,H1,I1,q1⟩) I.quiet hs
noncomputable def IE(te:TE):TS:=λD σ H=>te σ H D.rt
def bi(he:PE X e te):PS X (.Return (some e) pos) (IE te):=by
 intro O s σ H D I h;exact wpAny_Return_some (thn (he O s σ H _ I h) λv s1 ⟨x,H1,I1,r1,q1⟩=>⟨x,σ,H1,I1,r1,q1⟩)
noncomputable def Lg(c:TT)(t u:TS):TS:=λD σ H=>c σ H λb H1=>if b=true then t D σ H1 else u D σ H1
def f9{c:Expr}{a b:List Stmt}{tc:TT}(hc:PT X c tc)(ha:PSs X a t)(hb:PSs X b u):PS X (.If c a b pos) (Lg tc t u):=by
 intro O s σ H D I h;refine wpAny_If (thn (hc O s σ H _ I h) λd s1 ⟨H1,I1,q1⟩=>?_);cases d with
 |true=>exact ha O s1 σ H1 D I1 q1
 |false=>exact hb O s1 σ H1 D I1 q1
noncomputable def Ie:TS:=λ_ _ _=>False
def UZ:PS X st Ie:=λ_ _ _ _ _ _ h=>h.elim
end
noncomputable abbrev TG:=V->St->Hp->(St->Hp->Prop)->Prop
noncomputable abbrev TGs:=List V->St->Hp->(St->Hp->Prop)->Prop
def PG(X:Cx)(target:Expr)(t:TG):Prop:=
 ∀(O:List (Addr×Obj)) (s:Shared) (σ:St) (H:Hp) (v:V) (u:Value) (Q:St->Hp->Prop),Inv X O σ H s->RelV v u->t v σ H Q ->
   wpAny (model X.prog X.w) X.A (assign target X.env u) (λ_ s'=>∃σ' H',Inv X O σ' H' s'/\Q σ' H') X.xe s
def PGs(X:Cx)(ts:List Expr)(t:TGs):Prop:=
 ∀(O:List (Addr×Obj)) (s:Shared) (σ:St) (H:Hp) (vs:List V) (us:List Value) (Q:St->Hp->Prop),Inv X O σ H s->Vals vs us->t vs σ H Q ->
   wpAny (model X.prog X.w) X.A (assignInOrder ((assignEach ts X.env).map (·.2)) us) (λ_ s'=>∃σ' H',Inv X O σ' H' s'/\Q σ' H') X.xe s
noncomputable abbrev Vd:=V->V->V->Hp->(Hp->Prop)->Prop
def e9(X:Cx)(t:Vd):Prop:=
 ∀(O:List (Addr×Obj)) (s:Shared) (σ:St) (H:Hp) (o i v:V) (ov iv u:Value) (Q:Hp->Prop),Inv X O σ H s->RelV o ov->RelV i iv->RelV v u->t o i v H Q ->
   wpAny (model X.prog X.w) X.A (setItem ov iv u) (λ_ s'=>∃H',Inv X O σ H' s'/\Q H') X.xe s
section
variable{X:Cx}{pos:Pos}
noncomputable def Dk(i:Nat):TG:=λv σ H Q=>Q (σ.set i (some v)) H
def YS{i:Nat}{x:Str}(hN:X.N.Nodup)(hi:X.N[i]?=some x)(hx:Loc X.env.scope x)(hf:X.fn x=true∨X.env.scope.names.lookup x=some .local:=by first|exact .inl rfl|exact .inr rfl|assumption):PG X (.Name x pos) (Dk i):=by
 intro O s σ H v u Q I r h;exact wpAny_assign_Name (Fh I hN hi hx r (λs' I'=>⟨_,H,I',h⟩) hf)
noncomputable def VL:TGs:=λvs σ H Q=>vs=[]/\Q σ H
noncomputable def Pn(t:TG)(u:TGs):TGs:=λvs σ H Q=>∃v r,vs=v::r/\t v σ H λσ' H'=>u r σ' H' Q
def YQ:PGs X [] VL:=by
 intro O s σ H vs us Q I r h;obtain⟨e,h⟩:=h;subst e;cases r;exact assignInOrder_nil ⟨σ,H,I,h⟩
def Ud{e:Expr}{es:List Expr}{t:TG}{u:TGs}(h1:PG X e t)(h2:PGs X es u)
 (hs:(assignEach (e::es) X.env).map (·.2)=assign e X.env::(assignEach es X.env).map (·.2):=by rfl):PGs X (e::es) (Pn t u):=by
 intro O s σ H vs us Q I r h;obtain⟨v,vr,e1,h⟩:=h;subst e1;cases r with
 |cons r rr=>
  rw[hs];refine assignInOrder_cons (thn (h1 O s σ H _ _ _ I r h) λ_ s1 ⟨σ1,H1,I1,q1⟩=>?_);exact h2 O s1 σ1 H1 _ _ Q I1 rr q1
noncomputable def Pm(K:Frag)(n:Nat)(t:TGs):TG:=λv σ H Q=>∃a xs,v=.ref a/\SqT K H a xs/\xs.length=n/\t xs σ H Q
def br{es:List Expr}{k:Nat}{t:TGs}{n:Nat}(hc:X.calm=true)(h:PGs X es t)
 (hn:(assignEach es X.env).length=n:=by rfl) (hst:(assignEach es X.env).findIdx? (·.1)=none:=by rfl):PG X (.Tuple es k pos) (Pm X.K n t):=by
 intro O s σ H v u Q I r hw;obtain⟨a,xs,e1,hq,hl,hw⟩:=hw;subst e1;cases r;obtain⟨its,rv,ht,hz⟩:=I.tuple hq;refine assign_Tuple_tuple (I.ok.hd hc) ht (by simp[hn,<- hl,rv.length]) hst λh' hx=>?_;have I1:Inv X O σ H { s with heap:=h' }:=I.kept (t':=s.toks) λb o e=>hx b o (jg (Heap.lt_size e)) e;exact h O _ σ H xs _ Q I1 (by simpa using rv) hw
noncomputable def VJ(to ti:TE)(t:Vd):TG:=λv σ H Q=>to σ H λo H1=>ti σ H1 λi H2=>t o i v H2 λH3=>Q σ H3
def bu{o i:Expr}{to ti:TE}{t:Vd}(ho:PE X o to)(hi:PE X i ti)(hs:e9 X t)
 (ha:∀v,assign (.Subscript o i pos) X.env v=(do
  let ov <- holding [v] (eval o X.env)
  let iv <- holding [v,ov] (eval i X.env)
  standAt pos
  holding [v,ov,iv] (setItem ov iv v)
  release [v,ov,iv] []):=by intro _;rfl):PG X (.Subscript o i pos) (VJ to ti t):=by
 intro O s σ H v u Q I r h;rw[ha];refine j8 (jE (thn (ho O s σ H _ I h) λov s1 ⟨x,H1,I1,r1,q1⟩=>?_));refine j8 (jE (thn (hi O s1 σ H1 _ I1 q1) λiv s2 ⟨y,H2,I2,r2,q2⟩=>?_));refine j8 (k8 (j8 (jE (thn (hs O s2 σ H2 x y v ov iv u _ I2 r1 r2 r q2) λ_ s3 ⟨H3,I3,q3⟩=>?_))));exact wpAny_release ⟨σ,H3,I3,q3⟩
noncomputable def Eu(te:TE)(g:TG):TS:=λD σ H=>te σ H λx H1=>g x σ H1 D.nx
def bn{tg e:Expr}{te:TE}{g:TG}(he:PE X e te)(hg:PG X tg g)(hs:swapsWithSole [tg] e pos.line X.env=pure false:=by rfl)(hw:swappedStores [tg] e X.env=pure none:=by rfl)
 (h1:(assignEach [tg] X.env).map (·.2)=[assign tg X.env]:=by rfl):PS X (.Assign [tg] e pos) (Eu te g):=by
 intro O s σ H D I h;refine wpAny_Assign_stores (thn (he O s σ H _ I h) λv s1 ⟨x,H1,I1,r1,q1⟩=>?_) hs hw;rw[h1];exact thn (hg O s1 σ H1 x v _ I1 r1 q1) λ_ s2 q=>q
def bh{i:Nat}{x:Str}{e:Expr}{te:TE}{pos':Pos}(hN:X.N.Nodup)(hi:X.N[i]?=some x)(hx:Loc X.env.scope x)(he:PE X e te)(hs:swapsWith e (some (.Name x pos')) pos.line X.env=pure false:=by rfl)(hf:X.fn x=true∨X.env.scope.names.lookup x=some .local:=by first|exact .inl rfl|exact .inr rfl|assumption):
 PS X (.Assign [.Name x pos'] e pos) (Eu te (Dk i)):=by
 intro O s σ H D I h;refine wpAny_Assign_Name (thn (he O s σ H _ I h) λv s1 ⟨y,H1,I1,r1,q1⟩=>?_) hs;exact Fh I1 hN hi hx r1 (λs2 I2=>⟨_,H1,I2,q1⟩) hf
end
section
variable{X:Cx}{pos:Pos}
noncomputable def Lb(c:TT)(tb:TS):TS:=λD σ H=>∃W:Nat->St->Hp->Prop,(∃m,W m σ H)/\∀m σ H,W m σ H ->
 c σ H λb H1=>if b=true then ∃N:St->Hp->Prop,(∀σ' H',N σ' H'->∃m',m'<m/\W m' σ' H')/\tb { D with nx:=N,ct:=N,bk:=D.nx } σ H1 else D.nx σ H1
def UY{c:Expr}{body:List Stmt}{tc:TT}{tb:TS}(hp:PassesOwn (model X.prog X.w) X.A X.env X.xe)(hc:PT X c tc)(hb:PSs X body tb):PS X (.While c body [] pos) (Lb tc tb):=by
 intro O s σ H D I h;obtain⟨W,⟨m0,w0⟩,turn⟩:=h;refine wpAny_While (codeAny_whileLoop (λn s'=>∃σ' H',Inv X O σ' H' s'/\W n σ' H') ?_ m0 ⟨σ,H,I,w0⟩);rintro n s1 ⟨σ1,H1,I1,w1⟩;refine jW hp (thn (hc O s1 σ1 H1 _ I1 (turn n σ1 H1 w1)) λb s2 ⟨H2,I2,q2⟩=>?_);cases b with
 |true=>
  obtain⟨N,hN,q2⟩:=q2;rw[j9 rfl];refine jW hp (thn (hb O s2 σ1 H2 _ I2 q2) λf s3 q3=>?_);cases f with
  |next=>
   obtain⟨σ3,H3,I3,n3⟩:=q3;obtain⟨m',hm,w3⟩:=hN σ3 H3 n3;exact⟨m',hm,σ3,H3,I3,w3⟩
  |cont=>
   obtain⟨σ3,H3,I3,n3⟩:=q3;obtain⟨m',hm,w3⟩:=hN σ3 H3 n3;exact⟨m',hm,σ3,H3,I3,w3⟩
  |brk=>exact q3
  |ret v=>exact q3
 |false=>
  rw[ja Bool.false_ne_true];exact ko ⟨σ1,H2,I2,q2⟩
end
structure It where
 go:Nat->Hp->Prop
 yld:Nat->Hp->V->Hp->Prop
 stop:Nat->Hp->Prop
def CD(X:Cx)(O:List (Addr×Obj))(H:Hp)(b:Addr):Prop:=
 H b=none/\b≠X.env.locals/\b∉X.fs/\(b∈X.ex∨X.s₀.heap.objs.size<=b)/\(∀x c,X.env.cells.lookup x=some c->c≠b)/\∀p∈X.pn++O,p.1≠b
def Inv.fpOk{X:Cx}{O:List (Addr×Obj)}{σ:St}{H H':Hp}{s:Shared}{b:Addr}(I:Inv X O σ H s)(hb:s.heap.objs.size<=b)(hn:H' b=none):CD X O H' b:=by
 refine⟨hn,k6 (jn I.lt hb),I.nofs hb,.inr (jh I.sz hb),λx c e z=>?_,λp hp z=>?_⟩
 .obtain⟨v,q⟩:=I.cell x c e;exact absurd (jn q.lt (by rw[z];exact hb)) (jM _)
 .exact absurd (jn (Heap.lt_size (I.pin p hp).1) (by rw[z];exact hb)) (jM _)
structure Turn(P:Program)(w:World)(K:Frag)(tg:Expr)(J:It)(fp:List Addr)(it:Addr)(tn:Nat->Heap->Prop):Prop where
 mem:it∈fp
 obj:∀i h,tn i h->∀b∈fp,∃o,h.get? b=some o/\∀v,o.data≠.cell v
 keep:∀i h h',tn i h->(∀b∈fp,∀o,h.get? b=some o->h'.get? b=some o)->tn i h'
 item:∀(X:Cx),X.prog=P->X.w=w->X.K=K->X.calm=true->∀(i:Nat) (O:List (Addr×Obj)) (s:Shared) (σ:St) (H:Hp) (E:Value->Shared->Prop),Inv X O σ H s->(∀b∈fp,CD X O H b)->tn i s.heap->J.go i H ->
  wpAny (model P w) X.A (pyNext (.ref it)) (λr s1=>∃u,r=some u /\
   wpAny (model P w) X.A (letOwnedTupleGo tg (.ref it) u) (λ_ s2=>∃x H',Inv X O σ H' s2/\RelV x u/\J.yld i H x H'/\tn (i+1) s2.heap/\∀b∈fp,H' b=none) E s1) E s
 done:∀(X:Cx),X.prog=P->X.w=w->X.K=K->X.calm=true->∀(i:Nat) (O:List (Addr×Obj)) (s:Shared) (σ:St) (H:Hp) (E:Value->Shared->Prop),Inv X O σ H s->(∀b∈fp,CD X O H b)->tn i s.heap->J.stop i H ->
  wpAny (model P w) X.A (pyNext (.ref it)) (λr s1=>r=none/\Inv X O σ H s1) E s
 self:∀(A:Around) (i:Nat) (s:Shared) (Q:Value->Shared->Prop) (E:Value->Shared->Prop),tn i s.heap->Q (.ref it) s->wpAny (model P w) A (pyIter (.ref it)) Q E s
noncomputable abbrev TI:=St->Hp->(It->Hp->Prop)->Prop
def PIE(X:Cx)(O:List (Addr×Obj))(σ:St)(tg:Expr)(R:It->Hp->Prop)(itv:Value)(s2:Shared):Prop:=
 ∃(it:Addr) (fp:List Addr) (tn:Nat->Heap->Prop) (J:It) (H':Hp),itv=.ref it/\Inv X O σ H' s2/\Turn X.prog X.w X.K tg J fp it tn/\tn 0 s2.heap/\(∀b∈fp,CD X O H' b)/\R J H'
def PI(X:Cx)(tg iter:Expr)(wi:TI):Prop:=
 ∀(O:List (Addr×Obj)) (s:Shared) (σ:St) (H:Hp) (R:It->Hp->Prop),Inv X O σ H s->wi σ H R ->
   wpAny (model X.prog X.w) X.A (eval iter X.env) (λv s1=>wpAny (model X.prog X.w) X.A (pyIter v) (PIE X O σ tg R) X.xe s1) X.xe s
def Pl{M:Model}{A:Around}{E:Value->Shared->Prop}{s:Shared}{tg:Expr}{it:Addr}{u:Value}{o:Obj}{n:String}{vs:Array Value}{Q:Unit->Shared->Prop}(ho:s.heap.get? it=some o)(hc:o.cls=.type n)(hd:o.data=.fields vs)
 (hn:["enumerate","zip","dict_itemiterator","dict_reverseitemiterator","odict_iterator","itertools.zip_longest","itertools.pairwise"].contains n=false) (hQ:Q () s):wpAny M A (letOwnedTupleGo tg (.ref it) u) Q E s:=by
 unfold letOwnedTupleGo;cases tg<;>first
  |exact jb hQ
  | (cases u<;>first
   |exact jb hQ
   | (refine j8 (wpAny_load ho ?_)
      rw[hc,hd];show wpAny M A (if(["enumerate","zip","dict_itemiterator","dict_reverseitemiterator","odict_iterator","itertools.zip_longest","itertools.pairwise"].contains n&&vs[0]?==some (rawInt _))=true then _ else _) Q E s;rw[ja (by intro h;rw[hn,Bool.false_and]at h;cases h)];exact jb hQ))
noncomputable def Itl(K:Frag)(a:Addr):It:=
 ⟨λi H=>∃xs x,SqL K H a xs/\xs[i]?=some x,λi H x H'=>H'=H/\∀xs,SqL K H a xs->xs[i]?=some x,λi H=>∃xs,SqL K H a xs/\xs.length<=i⟩
noncomputable def Itt(K:Frag)(a:Addr):It:=
 ⟨λi H=>∃xs x,SqT K H a xs/\xs[i]?=some x,λi H x H'=>H'=H/\∀xs,SqT K H a xs->xs[i]?=some x,λi H=>∃xs,SqT K H a xs/\xs.length<=i⟩
noncomputable def Itr(lo:Int)(n:Nat):It:=⟨λi _=>i<n,λi H x H'=>H'=H/\x=.int (lo+i),λi _=>n<=i⟩
def QZ{P:Program}{w:World}{K:Frag}{tg:Expr}(a it:Addr):Turn P w K tg (Itl K a) [it] it (λi h=>h.IsListIter it a i) where
 mem:=by simp
 obj:=λi h st b hb=>by
  have e:b=it:=by simpa using hb
  subst e;obtain⟨o,e,c,d⟩:=st;exact⟨o,e,λv z=>by rw[d]at z;cases z⟩
 keep:=λi h h' st k=>st.at λo e=>k it (by simp) o e
 item:=by
  intro X hP hw hK hc i O s σ H E I hf st hg;subst hP hw hK;obtain⟨xs,x,hq,hx⟩:=hg;obtain⟨its,rv,p,hz⟩:=I.list hq;obtain⟨u,hu,ru⟩:=rv.get hx;obtain⟨f0,f1,f2,f3,f4,f5⟩:=hf it (by simp);refine wpAny_pyNext_list_item st p.isList (x:=u) (by simpa using hu) λh' st' sb=>?_;have I1:Inv X O σ H { s with heap:=h' }:=I.turned (t':=s.toks) (λb o hb e=>(sb.2 b hb).trans e) f0 f1 f3 f4 f5;obtain⟨o,e,c,d⟩:=id st';exact⟨u,rfl,Pl (s:={ s with heap:=h' }) e c d (by decide) ⟨x,H,I1,ru,⟨rfl,λys hy=>by rw[I.list_inj hy hq];exact hx⟩,st',λb hb=>(hf b hb).1⟩⟩
 done:=by
  intro X hP hw hK hc i O s σ H E I hf st hg;subst hP hw hK;obtain⟨xs,hq,hx⟩:=hg;obtain⟨its,rv,p,hz⟩:=I.list hq;obtain⟨f0,f1,f2,f3,f4,f5⟩:=hf it (by simp);have hl:=rv.length;exact wpAny_pyNext_list_end (I.ok.hd hc) st p.isList (by simp;omega) λh' eb=>⟨rfl,I.turned (t':=s.toks) (λb o hb e=>eb b o hb e) f0 f1 f3 f4 f5⟩
 self:=λ_ _ _ _ _ st h=>wpAny_pyIter_listiter st h
def On{P:Program}{w:World}{K:Frag}{tg:Expr}(a it:Addr):Turn P w K tg (Itt K a) [it] it (λi h=>h.IsTupleIter it a i) where
 mem:=by simp
 obj:=λi h st b hb=>by
  have e:b=it:=by simpa using hb
  subst e;obtain⟨o,e,c,d⟩:=st;exact⟨o,e,λv z=>by rw[d]at z;cases z⟩
 keep:=λi h h' st k=>st.at λo e=>k it (by simp) o e
 item:=by
  intro X hP hw hK hc i O s σ H E I hf st hg;subst hP hw hK;obtain⟨xs,x,hq,hx⟩:=hg;obtain⟨its,rv,p,hz⟩:=I.tuple hq;obtain⟨u,hu,ru⟩:=rv.get hx;obtain⟨f0,f1,f2,f3,f4,f5⟩:=hf it (by simp);refine wpAny_pyNext_tuple_item st (show s.heap.IsTuple a its.toArray from p) (x:=u) (by simpa using hu) λh' st' sb=>?_;have I1:Inv X O σ H { s with heap:=h' }:=I.turned (t':=s.toks) (λb o hb e=>(sb.2 b hb).trans e) f0 f1 f3 f4 f5;obtain⟨o,e,c,d⟩:=id st';exact⟨u,rfl,Pl (s:={ s with heap:=h' }) e c d (by decide) ⟨x,H,I1,ru,⟨rfl,λys hy=>by rw[I.tuple_inj hy hq];exact hx⟩,st',λb hb=>(hf b hb).1⟩⟩
 done:=by
  intro X hP hw hK hc i O s σ H E I hf st hg;subst hP hw hK;obtain⟨xs,hq,hx⟩:=hg;obtain⟨its,rv,p,hz⟩:=I.tuple hq;obtain⟨f0,f1,f2,f3,f4,f5⟩:=hf it (by simp);have hl:=rv.length;exact wpAny_pyNext_tuple_end (I.ok.hd hc) st (show s.heap.IsTuple a its.toArray from p) (by simp;omega) λh' eb=>⟨rfl,I.turned (t':=s.toks) (λb o hb e=>eb b o hb e) f0 f1 f3 f4 f5⟩
 self:=λ_ _ _ _ _ st h=>wpAny_pyIter_tupleiter st h
def Oo{P:Program}{w:World}{K:Frag}{tg:Expr}(it:Addr)(lo:Int)(n:Nat):Turn P w K tg (Itr lo n) [it] it (λi h=>IsRangeIter h it (lo+(i:Nat)*1) ((n:Int)-(i:Nat)) 1) where
 mem:=by simp
 obj:=λi h st b hb=>by
  have e:b=it:=by simpa using hb
  subst e;exact⟨_,st,λv z=>by
   have z':Data.fields _=Data.cell v:=z;cases z'⟩
 keep:=λi h h' st k=>k it (by simp) _ st
 item:=by
  intro X hP hw hK hc i O s σ H E I hf st hg;subst hP hw hK;obtain⟨f0,f1,f2,f3,f4,f5⟩:=hf it (by simp);have W:=Walks.range (prog:=X.prog) (w:=X.w) (I.ok.hd hc) it lo 1 n;refine W.item i s _ _ hg st λv h' tk hv st' kk=>?_;obtain⟨t,rfl⟩:=hv;have I1:Inv X O σ H { s with heap:=h',toks:=tk }:=I.turned (λb o hb e=>kk b o (by simpa using hb) e) f0 f1 f3 f4 f5;refine⟨_,rfl,Pl (s:={ s with heap:=h',toks:=tk }) (n:="range_iterator") st' rfl rfl (by decide) ⟨.int (lo+i),H,I1,⟨t,?_⟩,⟨rfl,rfl⟩,st',λb hb=>(hf b hb).1⟩⟩;rw[Int.mul_one]
 done:=by
  intro X hP hw hK hc i O s σ H E I hf st hg;subst hP hw hK;obtain⟨f0,f1,f2,f3,f4,f5⟩:=hf it (by simp);exact wpAny_pyNext_range_end (I.ok.hd hc) st (by have:n<=i:=hg;omega) λh' eb=>⟨rfl,I.turned (t':=s.toks) (λb o hb e=>eb b o hb e) f0 f1 f3 f4 f5⟩
 self:=λ_ _ _ _ _ st h=>wpAny_pyIter_rangeiter st h
section
variable{X:Cx}{tg:Expr}
noncomputable def G8(K:Frag)(tl:TE):TI:=λσ H R=>tl σ H λx H1=>∃a,x=.ref a/\(∃xs,SqL K H1 a xs)/\R (Itl K a) H1
noncomputable def Mn(K:Frag)(tl:TE):TI:=λσ H R=>tl σ H λx H1=>∃a,x=.ref a/\(∃xs,SqT K H1 a xs)/\R (Itt K a) H1
def YO{l:Expr}{tl:TE}(hl:PE X l tl):PI X tg l (G8 X.K tl):=by
 intro O s σ H R I h;refine thn (hl O s σ H _ I h) λv s1 ⟨x,H1,I1,r1,q1⟩=>?_;obtain⟨a,e,⟨xs,hq⟩,q⟩:=q1;subst e;cases r1;obtain⟨its,rv,p,hz⟩:=I1.list hq;refine wpAny_pyIter_list p.isList ?_;refine⟨s1.heap.objs.size,[s1.heap.objs.size],_,_,H1,rfl,I1.kept (t':=s1.toks) λb o e=>Heap.get?_push_of_some _ e,QZ a _,⟨_,Heap.get?_push_size _ rfl,rfl,rfl⟩,λb hb=>?_,q⟩;have e:b=s1.heap.objs.size:=by simpa using hb
 subst e;exact I1.fpOk (jc _) (I1.hok.fresh (jc _))
def bq{l:Expr}{tl:TE}(hl:PE X l tl):PI X tg l (Mn X.K tl):=by
 intro O s σ H R I h;refine thn (hl O s σ H _ I h) λv s1 ⟨x,H1,I1,r1,q1⟩=>?_;obtain⟨a,e,⟨xs,hq⟩,q⟩:=q1;subst e;cases r1;obtain⟨its,rv,p,hz⟩:=I1.tuple hq;refine wpAny_pyIter_tuple (show s1.heap.IsTuple a its.toArray from p) ?_;refine⟨s1.heap.objs.size,[s1.heap.objs.size],_,_,H1,rfl,I1.kept (t':=s1.toks) λb o e=>Heap.get?_push_of_some _ e,On a _,⟨_,Heap.get?_push_size _ rfl,rfl,rfl⟩,λb hb=>?_,q⟩;have e:b=s1.heap.objs.size:=by simpa using hb
 subst e;exact I1.fpOk (jc _) (I1.hok.fresh (jc _))
def U9{O:List (Addr×Obj)}{σ:St}{H:Hp}{s:Shared}{R:It->Hp->Prop}{E:Value->Shared->Prop}{lo hi:Int}{t u v:Tok}{tk:Nat}(I:Inv X O σ H s)(h1:-(2^62)<=lo)(h2:lo<2^62)(h3:-(2^62)<=hi)(h4:hi<2^62)
 (q:R (Itr lo (hi-lo).toNat) H):wpAny (model X.prog X.w) X.A (pyIter (.ref s.heap.objs.size)) (PIE X O σ tg R) E { s with heap:=s.heap.push { cls:=.type "range",data:=.fields #[.int lo t,.int hi u,.int 1 v] },toks:=tk }:=by
 refine wpAny_pyIter_range (IsRange.new ..) (small_one h1 h2 h3 h4) ?_;have I1:Inv X O σ H { s with heap:=s.heap.push { cls:=.type "range",data:=.fields #[.int lo t,.int hi u,.int 1 v] },toks:=tk }:=I.kept λb o e=>Heap.get?_push_of_some _ e;refine⟨(s.heap.push { cls:=.type "range",data:=.fields #[.int lo t,.int hi u,.int 1 v] }).objs.size,[(s.heap.push { cls:=.type "range",data:=.fields #[.int lo t,.int hi u,.int 1 v] }).objs.size],_,_,H,rfl,
  I1.kept (t':=tk) λb o e=>Heap.get?_push_of_some _ e,Oo _ lo (hi-lo).toNat,?_,λb hb=>?_,q⟩
 .have e1:lo+((0:Nat):Int)*1=lo:=by simp
  have e2:(((hi-lo).toNat:Nat):Int)-((0:Nat):Int)=Builtin.Range.rangeSize lo hi 1:=by rw[rangeSize_one];split<;>omega
  show IsRangeIter _ _ (lo+((0:Nat):Int)*1) ((((hi-lo).toNat:Nat):Int)-((0:Nat):Int)) 1;rw[e1,e2];exact Heap.get?_push_size _ rfl
 .have e:b=(s.heap.push { cls:=.type "range",data:=.fields #[.int lo t,.int hi u,.int 1 v] }).objs.size:=by simpa using hb
  subst e;exact I1.fpOk (jc _) (I1.hok.fresh (jc _))
noncomputable def Pk(ta:TA):TI:=λσ H R=>ta σ H λvs H1=>∃j:Int,vs=[.int j]/\-(2^62)<=j/\j<2^62/\R (Itr 0 j.toNat) H1
def Ri{a:Expr}{ta:TA}{p pos:Pos}(hg:Gl X "range")(hm:X.mg "range"=none)(ha:PA X [a] ta)(hs:starEach [a] X.env=[(false,eval a X.env)]:=by rfl):PI X tg (.Call (.Name "range" p) [a] [] pos) (Pk ta):=by
 intro O s σ H R I h;refine Call_ (EV I hg hm boot_range (PyProof.Rows.callWith_type1 (thn (ha pos O s σ H _ I h) λus s1 ⟨vs,H1,I1,r1,q1⟩=>?_) hs rfl));obtain⟨j,e,q1,q2,q⟩:=q1;subst e;cases r1 with
 |cons r rr=>
  cases rr;obtain⟨t,rfl⟩:=r;exact call_range_1 (U9 I1 (by omega) (by omega) q1 q2 (by simpa using q))
noncomputable def Lh(wi:TI)(g:TG)(tb:TS):TS:=λD σ H=>wi σ H λJ H1=>∃W:Nat->Nat->St->Hp->Prop,(∃m,W 0 m σ H1)/\∀i m σ H,W i m σ H ->
 (J.stop i H/\D.nx σ H)∨(J.go i H/\∃N:St->Hp->Prop,(∀σ' H',N σ' H'->∃m',m'<m/\W (i+1) m' σ' H')/\∀x H',J.yld i H x H'->g x σ H' λσ2 H2=>tb { D with nx:=N,ct:=N,bk:=D.nx } σ2 H2)
noncomputable def Du(fp:List Addr)(h:Heap):List (Addr×Obj):=fp.filterMap λb=>(h.get? b).map λo=>(b,o)
def BN{fp:List Addr}{h:Heap}{b:Addr}{o:Obj}(hb:b∈fp)(e:h.get? b=some o):(b,o)∈Du fp h:=List.mem_filterMap.mpr ⟨b,hb,by rw[e];rfl⟩
def Ru{fp:List Addr}{h:Heap}{p:Addr×Obj}(hp:p∈Du fp h):p.1∈fp/\h.get? p.1=some p.2:=by
 obtain⟨b,hb,e⟩:=List.mem_filterMap.mp hp;cases q:h.get? b with
 |none=>rw[q]at e;cases e
 |some o=>
  rw[q]at e;have e':(b,o)=p:=Option.some.inj e;subst e';exact⟨hb,q⟩
def Inv.pinned{O:List (Addr×Obj)}{σ:St}{H:Hp}{s:Shared}{fp:List Addr}(I:Inv X O σ H s)(hf:∀b∈fp,CD X O H b)(ho:∀b∈fp,∃o,s.heap.get? b=some o/\∀v,o.data≠.cell v):Inv X (O++Du fp s.heap) σ H s:=
 I.pins_of λp hp=>(mem_append.mp hp).elim (λz=>I.pin p (jl _ z)) λz=>by
  obtain⟨hb,e⟩:=Ru z;obtain⟨f0,f1,f2,_⟩:=hf p.1 hb;obtain⟨o,e',d⟩:=ho p.1 hb;rw[e]at e';cases e';exact⟨e,f0,f1,f2,d⟩
def Inv.unpinned{O pl:List (Addr×Obj)}{σ:St}{H:Hp}{s:Shared}(I:Inv X (O++pl) σ H s):Inv X O σ H s:=I.pins_of λp hp=>I.pin p (jl _ (jQ _ hp))
def bj{iter:Expr}{body:List Stmt}{wi:TI}{g:TG}{tb:TS}{pos:Pos}(hp:PassesOwn (model X.prog X.w) X.A X.env X.xe)(hc:X.calm=true)(hi:PI X tg iter wi)(hg:PG X tg g)(hb:PSs X body tb)
 (hs:∀x,foldedSetIterable iter X.env x=pure x:=by intro _;rfl):PS X (.For tg iter body [] pos) (Lh wi g tb):=by
 intro O s σ H D I h;refine wpAny_For (thn (hi O s σ H _ I h) λv s1 h1=>thn h1 λitv s2 h2=>?_) hs;obtain⟨it,fp,tn,J,H2,e,I2,T,st2,f2,W,⟨m0,w0⟩,turn⟩:=h2;subst e
 -- what stays true of the iterator's objects through the loop
 have stat:∀{H':Hp},(∀b∈fp,H' b=none)->∀b∈fp,CD X O H' b:=λhn b hb=>⟨hn b hb,(f2 b hb).2⟩
 refine codeAny_forLoop_any (λn s'=>∃i σ' H',Inv X O σ' H' s'/\tn i s'.heap/\(∀b∈fp,H' b=none)/\W i n σ' H') ?_ m0 ⟨0,σ,H2,I2,st2,λb hb=>(f2 b hb).1,w0⟩;rintro n s3 ⟨i,σ3,H3,I3,st3,fr3,w3⟩;rcases turn i n σ3 H3 w3 with⟨stop,qn⟩|⟨go,N,hN,step⟩
 .refine jW hp (thn (T.done X rfl rfl rfl hc i O s3 σ3 H3 X.xe I3 (stat fr3) st3 stop) λr s4 ⟨hr,I4⟩=>?_);subst hr;exact ko ⟨σ3,H3,I4,qn⟩
 .refine jW hp (thn (T.item X rfl rfl rfl hc i O s3 σ3 H3 X.xe I3 (stat fr3) st3 go) λr s4 ⟨u,hr,h4⟩=>?_);subst hr;refine jW hp (thn h4 λ_ s5 ⟨x,H5,I5,r5,y5,st5,fr5⟩=>?_);have I5':=I5.pinned (stat fr5) (T.obj _ _ st5);refine jW hp (thn (hg _ s5 σ3 H5 x u _ I5' r5 (step x H5 y5)) λ_ s6 ⟨σ6,H6,I6,q6⟩=>?_);refine jW hp (thn (hb _ s6 σ6 H6 _ I6 q6) λf s7 q7=>?_);have again:∀{σ7:St} {H7:Hp},Inv X (O++Du fp s5.heap) σ7 H7 s7->N σ7 H7->∃m,m<n/\∃i σ' H',Inv X O σ' H' s7/\tn i s7.heap/\(∀b∈fp,H' b=none)/\W i m σ' H':=λ{σ7 H7} I7 n7=>by
   obtain⟨m',hm,w7⟩:=hN σ7 H7 n7;refine⟨m',hm,i+1,σ7,H7,I7.unpinned,T.keep _ _ _ st5 λb hb o e=>(I7.pin (b,o) (jl _ (jl _ (BN hb e)))).1,λb hb=>?_,w7⟩;obtain⟨o,e,d⟩:=T.obj _ _ st5 b hb;exact(I7.pin (b,o) (jl _ (jl _ (BN hb e)))).2.1
  cases f with
  |next=>obtain⟨σ7,H7,I7,n7⟩:=q7;exact again I7 n7
  |cont=>obtain⟨σ7,H7,I7,n7⟩:=q7;exact again I7 n7
  |brk=>obtain⟨σ7,H7,I7,q7⟩:=q7;exact⟨σ7,H7,I7.unpinned,q7⟩
  |ret v=>obtain⟨x7,σ7,H7,I7,r7,q7⟩:=q7;exact⟨x7,σ7,H7,I7.unpinned,r7,q7⟩
end
noncomputable abbrev R2:=V->V->Hp->VK->Prop
def OpR(X:Cx)(f:Value->Value->Sem Value)(r:R2):Prop:=
 ∀(O:List (Addr×Obj)) (s:Shared) (σ:St) (H:Hp) (x y:V) (v u:Value) (Q:VK),Inv X O σ H s->RelV x v->RelV y u->r x y H Q ->
   wpAny (model X.prog X.w) X.A (f v u) (EP X O σ Q) X.xe s
def UnR(X:Cx)(f:Value->Sem Value)(r:V->Hp->VK->Prop):Prop:=
 ∀(O:List (Addr×Obj)) (s:Shared) (σ:St) (H:Hp) (x:V) (v:Value) (Q:VK),Inv X O σ H s->RelV x v->r x H Q ->
   wpAny (model X.prog X.w) X.A (f v) (EP X O σ Q) X.xe s
def CallR(X:Cx)(f:Value)(r:List V->Hp->VK->Prop):Prop:=
 ∀(O:List (Addr×Obj)) (s:Shared) (σ:St) (H:Hp) (xs:List V) (us:List Value) (Q:VK),Inv X O σ H s->Vals xs us->r xs H Q ->
   wpAny (model X.prog X.w) X.A (call f us) (EP X O σ Q) X.xe s
def gc(X:Cx)(r:V->Hp->(Bool->Hp->Prop)->Prop):Prop:=
 ∀(O:List (Addr×Obj)) (s:Shared) (σ:St) (H:Hp) (x:V) (v:Value) (Q:Bool->Hp->Prop),Inv X O σ H s->RelV x v->r x H Q ->
   wpAny (model X.prog X.w) X.A (truthy v) (TP X O σ Q) X.xe s
noncomputable def tOp(r:R2)(ta tb:TE):TE:=λσ H Q=>ta σ H λx H1=>tb σ H1 λy H2=>r x y H2 Q
noncomputable def tUn(r:V->Hp->VK->Prop)(ta:TE):TE:=λσ H Q=>ta σ H λx H1=>r x H1 Q
noncomputable def rI(C:Int->Int->Prop)(g:Int->Int->V):R2:=λx y H Q=>∃i j,x=.int i/\y=.int j/\C i j/\Q (g i j) H
noncomputable def rI0(g:Int->Int->V):R2:=λx y H Q=>∃i j,x=.int i/\y=.int j/\Q (g i j) H
def rU(g:Int->V):V->Hp->VK->Prop:=λx H Q=>∃i,x=.int i/\Q (g i) H
section
variable{X:Cx}{a b c:Expr}{ta tb tc:TE}{pos:Pos}
def Va(ha:PE X a ta)(hb:PE X b tb){O:List (Addr×Obj)}{s:Shared}{σ:St}{H:Hp}{R:V->V->Hp->Prop}(I:Inv X O σ H s)
 (h:ta σ H λx H1=>tb σ H1 λy H2=>R x y H2) {Q:Value->Shared->Prop} {f:Value->Value->Sem Value}
 (hf:∀v u s2 x y H2,Inv X O σ H2 s2->RelV x v->RelV y u->R x y H2->wpAny (model X.prog X.w) X.A (f v u) Q X.xe s2):
 wpAny (model X.prog X.w) X.A (eval a X.env) (λv s₁=>wpAny (model X.prog X.w) X.A (eval b X.env) (λu s₂=>wpAny (model X.prog X.w) X.A (f v u) Q X.xe s₂) X.xe s₁) X.xe s:=by
 refine thn (ha O s σ H _ I h) λv s1 ⟨x,H1,I1,r1,q1⟩=>?_;refine thn (hb O s1 σ H1 _ I1 q1) λu s2 ⟨y,H2,I2,r2,q2⟩=>?_;exact hf v u s2 x y H2 I2 r1 r2 q2
def PX{op:Operator}{r:R2}(ho:OpR X (binaryOp op) r)(ha:PE X a ta)(hb:PE X b tb):PE X (.BinOp a op b pos) (tOp r ta tb):=by
 intro O s σ H Q I h;exact wpAny_BinOp (Va ha hb I h λv u s2 x y H2 I2 rx ry q=>ho O s2 σ H2 x y v u Q I2 rx ry q)
def fB{op:UnaryOp}{r:V->Hp->VK->Prop}(ho:UnR X (unaryOp op) r)(ha:PE X a ta):PE X (.UnaryOp op a pos) (tUn r ta):=by
 intro O s σ H Q I h;exact UnaryOp_ (thn (ha O s σ H _ I h) λv s1 ⟨x,H1,I1,r1,q1⟩=>ho O s1 σ H1 x v Q I1 r1 q1)
def opI{f:Value->Value->Sem Value}{C:Int->Int->Prop}{g:Int->Int->Int}
 (rule:∀(i j:Int) (t u:Tok) (s:Shared) (Q:Value->Shared->Prop) (E:Value->Shared->Prop),C i j->Q (.int (g i j) s.toks) { s with toks:=s.toks+1 }->wpAny (model X.prog X.w) X.A (f (.int i t) (.int j u)) Q E s):
 OpR X f (rI C λi j=>.int (g i j)):=by
 intro O s σ H x y v u Q I rx ry h;obtain⟨i,j,rfl,rfl,hc,q⟩:=h;obtain⟨t,rfl⟩:=rx;obtain⟨t',rfl⟩:=ry;exact rule i j t t' s _ _ hc ⟨.int (g i j),H,I.tok _,⟨_,rfl⟩,q⟩
def Um{f:Value->Value->Sem Value}{g:Int->Int->Int}
 (rule:∀(i j:Int) (t u:Tok) (s:Shared) (Q:Value->Shared->Prop) (E:Value->Shared->Prop),Q (.int (g i j) s.toks) { s with toks:=s.toks+1 }->wpAny (model X.prog X.w) X.A (f (.int i t) (.int j u)) Q E s):
 OpR X f (rI0 λi j=>.int (g i j)):=by
 intro O s σ H x y v u Q I rx ry h;obtain⟨i,j,rfl,rfl,q⟩:=h;obtain⟨t,rfl⟩:=rx;obtain⟨t',rfl⟩:=ry;exact rule i j t t' s _ _ ⟨.int (g i j),H,I.tok _,⟨_,rfl⟩,q⟩
def PZ{f:Value->Value->Sem Value}{g:Int->Int->Bool}
 (rule:∀(i j:Int) (t u:Tok) (s:Shared) (Q:Value->Shared->Prop) (E:Value->Shared->Prop),Q (.bool (g i j)) s->wpAny (model X.prog X.w) X.A (f (.int i t) (.int j u)) Q E s):
 OpR X f (rI0 λi j=>.bl (g i j)):=by
 intro O s σ H x y v u Q I rx ry h;obtain⟨i,j,rfl,rfl,q⟩:=h;obtain⟨t,rfl⟩:=rx;obtain⟨t',rfl⟩:=ry;exact rule i j t t' s _ _ ⟨.bl (g i j),H,I,rfl,q⟩
def eB(i j:Int):Prop:=0<j/\j<1073741824
def QD(i j:Int):Prop:=0<=j/\j<=1000000/\i.natAbs<2^64
def CMul(i j:Int):Prop:=(-(2^64)<i/\i<2^64)∨(-(2^64)<j/\j<2^64)
def CMul.ok{i j:Int}(h:CMul i j):IntMulOk i j:=by
 rcases h with⟨h1,h2⟩|⟨h1,h2⟩
 .exact .of_left (intBits_le_64 h1 h2)
 .exact .of_right (intBits_le_64 h1 h2)
def Om(k:Nat):(0:Int)<=2^k:=by
 rw[two_pow_cast];exact Int.natCast_nonneg _
def Rr:OpR X (binaryOp .Add) (rI0 λi j=>.int (i+j)):=Um λ_ _ _ _ _ _ _ q=>add_int q
def cJ:OpR X (binaryOp .Sub) (rI0 λi j=>.int (i-j)):=Um λ_ _ _ _ _ _ _ q=>sub_int q
def cP:OpR X (binaryOp .Mult) (rI CMul λi j=>.int (i*j)):=opI λ_ _ _ _ _ _ _ hc q=>mul_int q hc.ok
def Yd:OpR X (binaryOp .FloorDiv) (rI eB λi j=>.int (i/j)):=opI λi j _ _ _ _ _ hc q=>by
 have h1:(0:Int)<j:=hc.1;have h2:j<1073741824:=hc.2;exact floordiv_int (by omega) (by rw[Int.fdiv_eq_ediv_of_nonneg i (by omega)];exact q) (.inl (PyProof.noPylong_small (by omega)))
def cQ:OpR X (binaryOp .Mod) (rI (λ_ j=>0<j) λi j=>.int (i%j)):=opI λi j _ _ _ _ _ hc q=>by
 have h1:(0:Int)<j:=hc;exact mod_int' (by omega) (by rw[Int.fmod_eq_emod_of_nonneg i (by omega)];exact q)
def cM:OpR X (binaryOp .Pow) (rI QD λi j=>.int (i^j.toNat)):=opI λ_ _ _ _ _ _ _ hc q=>pow_int_small hc.1 hc.2.1 hc.2.2 q
def cL:OpR X (binaryOp .LShift) (rI QD λi j=>.int (i*2^j.toNat)):=opI λ_ _ _ _ _ _ _ hc q=>lshift_int_small hc.1 hc.2.1 hc.2.2 q
def cK:OpR X (binaryOp .RShift) (rI (λ_ j=>0<=j) λi j=>.int (i/2^j.toNat)):=opI λi j _ _ _ _ _ hc q=>
 rshift_int hc (by rw[Int.fdiv_eq_ediv_of_nonneg i (Om _)];exact q)
def cU:OpR X (binaryOp .BitAnd) (rI0 λi j=>.int (Builtin.bitAnd i j)):=Um λ_ _ _ _ _ _ _ q=>and_int q
def unI{f:Value->Sem Value}{g:Int->Int}
 (rule:∀(i:Int) (t:Tok) (s:Shared) (Q:Value->Shared->Prop) (E:Value->Shared->Prop),Q (.int (g i) s.toks) { s with toks:=s.toks+1 }->wpAny (model X.prog X.w) X.A (f (.int i t)) Q E s):
 UnR X f (rU λi=>.int (g i)):=by
 intro O s σ H x v Q I rx h;obtain⟨i,rfl,q⟩:=h;obtain⟨t,rfl⟩:=rx;exact rule i t s _ _ ⟨.int (g i),H,I.tok _,⟨_,rfl⟩,q⟩
def Zj:UnR X (unaryOp .USub) (rU λi=>.int (-i)):=unI λ_ _ _ _ _ q=>neg_int q
end
noncomputable def Ly:V->V->Bool
 |.non,.non=>true|.non,.int _=>true|.int _,.non=>true|.non,.bl _=>true|.bl _,.non=>true|.non,.str _=>true|.str _,.non=>true
 |.int _,.int _=>true|.bl _,.bl _=>true|.str _,.str _=>true|.byt _,.byt _=>true
 |.int _,.str _=>true|.str _,.int _=>true|.bl _,.str _=>true|.str _,.bl _=>true
 |_,_=>false
noncomputable def rEq:R2:=λx y H Q=>Ly x y=true/\Q (.bl (decide (x=y))) H
noncomputable def rNe:R2:=λx y H Q=>Ly x y=true/\Q (.bl (!decide (x=y))) H
def OT{i j:Int}:decide (V.int i=V.int j)=(i==j):=by
 rw[Bool.eq_iff_iff];simp
def SX{i j:Bool}:decide (V.bl i=V.bl j)=(i==j):=by
 rw[Bool.eq_iff_iff];simp
def OS{i j:Str}:decide (V.str i=V.str j)=(i==j):=by
 rw[Bool.eq_iff_iff];simp
def OU{i j:Array UInt8}:decide (V.byt i=V.byt j)=(i.toList==j.toList):=by
 rw[Bool.eq_iff_iff];cases i;cases j;simp
section
variable{X:Cx}{a b c:Expr}{ta tb tc:TE}{pos:Pos}
def Ab{O:List (Addr×Obj)}{σ:St}{H:Hp}{s:Shared}{Q:VK}{k k':Bool}(I:Inv X O σ H s)(q:Q (.bl k) H)(e:k=k'):EP X O σ Q (.bool k') s:=by
 subst e;exact⟨.bl k,H,I,rfl,q⟩
def fH:OpR X (compareOp .Eq) rEq:=by
 intro O s σ H x y v u Q I rx ry h;obtain⟨hs,q⟩:=h;cases x with
 |non=>
  cases rx;cases y with
  |non=>cases ry;exact PySem.EqNone.eq_none_none (Ab I q (by simp))
  |bl j=>cases ry;exact PySem.EqNone.eq_none_bool (Ab I q (by simp))
  |int j=>obtain⟨t',rfl⟩:=ry;exact PySem.EqNone.eq_none_int (Ab I q (by simp))
  |str j=>obtain⟨t',rfl⟩:=ry;exact PySem.EqNone.eq_none_str (Ab I q (by simp))
  |_=>exact absurd (show false=true from hs) Bool.false_ne_true
 |bl i=>
  cases rx;cases y with
  |non=>cases ry;exact PySem.EqNone.eq_bool_none (Ab I q (by simp))
  |bl j=>cases ry;exact eq_bool (Ab I q SX)
  |str j=>obtain⟨t',rfl⟩:=ry;exact PySem.EqMixed.eq_bool_str (Ab I q (by simp))
  |_=>exact absurd (show false=true from hs) Bool.false_ne_true
 |int i=>
  obtain⟨t,rfl⟩:=rx;cases y with
  |non=>cases ry;exact PySem.EqNone.eq_int_none (Ab I q (by simp))
  |int j=>obtain⟨t',rfl⟩:=ry;exact eq_int (Ab I q OT)
  |str j=>obtain⟨t',rfl⟩:=ry;exact PySem.EqMixed.eq_int_str (Ab I q (by simp))
  |_=>exact absurd (show false=true from hs) Bool.false_ne_true
 |str i=>
  obtain⟨t,rfl⟩:=rx;cases y with
  |non=>cases ry;exact PySem.EqNone.eq_str_none (Ab I q (by simp))
  |bl j=>cases ry;exact PySem.EqMixed.eq_str_bool (Ab I q (by simp))
  |int j=>obtain⟨t',rfl⟩:=ry;exact PySem.EqMixed.eq_str_int (Ab I q (by simp))
  |str j=>obtain⟨t',rfl⟩:=ry;exact eq_str (Ab I q OS)
  |_=>exact absurd (show false=true from hs) Bool.false_ne_true
 |byt i=>
  obtain⟨t,rfl⟩:=rx;cases y with
  |byt j=>obtain⟨t',rfl⟩:=ry;exact PySem.W.eq_bytes (Ab I q OU)
  |_=>exact absurd (show false=true from hs) Bool.false_ne_true
 |_=>cases y<;>exact absurd (show false=true from hs) Bool.false_ne_true
def fF:OpR X (compareOp .NotEq) rNe:=by
 intro O s σ H x y v u Q I rx ry h;obtain⟨hs,q⟩:=h;cases x with
 |non=>
  cases rx;cases y with
  |non=>cases ry;exact PySem.EqNone.ne_none_none (Ab I q (by simp))
  |bl j=>cases ry;exact PySem.EqNone.ne_none_bool (Ab I q (by simp))
  |int j=>obtain⟨t',rfl⟩:=ry;exact PySem.EqNone.ne_none_int (Ab I q (by simp))
  |str j=>obtain⟨t',rfl⟩:=ry;exact PySem.EqNone.ne_none_str (Ab I q (by simp))
  |_=>exact absurd (show false=true from hs) Bool.false_ne_true
 |bl i=>
  cases rx;cases y with
  |non=>cases ry;exact PySem.EqNone.ne_bool_none (Ab I q (by simp))
  |bl j=>cases ry;exact ne_bool (Ab I q (jA not SX))
  |str j=>obtain⟨t',rfl⟩:=ry;exact PySem.EqMixed.ne_bool_str (Ab I q (by simp))
  |_=>exact absurd (show false=true from hs) Bool.false_ne_true
 |int i=>
  obtain⟨t,rfl⟩:=rx;cases y with
  |non=>cases ry;exact PySem.EqNone.ne_int_none (Ab I q (by simp))
  |int j=>obtain⟨t',rfl⟩:=ry;exact ne_int (Ab I q (jA not OT))
  |str j=>obtain⟨t',rfl⟩:=ry;exact PySem.EqMixed.ne_int_str (Ab I q (by simp))
  |_=>exact absurd (show false=true from hs) Bool.false_ne_true
 |str i=>
  obtain⟨t,rfl⟩:=rx;cases y with
  |non=>cases ry;exact PySem.EqNone.ne_str_none (Ab I q (by simp))
  |bl j=>cases ry;exact PySem.EqMixed.ne_str_bool (Ab I q (by simp))
  |int j=>obtain⟨t',rfl⟩:=ry;exact PySem.EqMixed.ne_str_int (Ab I q (by simp))
  |str j=>obtain⟨t',rfl⟩:=ry;exact ne_str (Ab I q (jA not OS))
  |_=>exact absurd (show false=true from hs) Bool.false_ne_true
 |byt i=>
  obtain⟨t,rfl⟩:=rx;cases y with
  |byt j=>obtain⟨t',rfl⟩:=ry;exact PySem.W.ne_bytes (Ab I q (jA not OU))
  |_=>exact absurd (show false=true from hs) Bool.false_ne_true
 |_=>cases y<;>exact absurd (show false=true from hs) Bool.false_ne_true
def LA:OpR X (compareOp .Lt) (rI0 λi j=>.bl (decide (i<j))):=PZ λ_ _ _ _ _ _ _ q=>lt_int q
def fG:OpR X (compareOp .LtE) (rI0 λi j=>.bl (decide (i<=j))):=PZ λ_ _ _ _ _ _ _ q=>le_int q
def W9:OpR X (compareOp .Gt) (rI0 λi j=>.bl (decide (j<i))):=PZ λ_ _ _ _ _ _ _ q=>gt_int q
def WB:OpR X (compareOp .GtE) (rI0 λi j=>.bl (decide (j<=i))):=PZ λ_ _ _ _ _ _ _ q=>ge_int q
def OpR.or{f:Value->Value->Sem Value}{r r':R2}(h:OpR X f r)(h':OpR X f r'):OpR X f (λx y H Q=>r x y H Q∨r' x y H Q):=by
 intro O s σ H x y v u Q I rx ry q;rcases q with q|q
 .exact h O s σ H x y v u Q I rx ry q
 .exact h' O s σ H x y v u Q I rx ry q
def J5(b:Expr){op:CmpOp}(h:op≠.In:=by decide)(h2:op≠.NotIn:=by decide):behindInMarks op b=false:=by
 have e1:(op==CmpOp.In)=false:=by cases op<;>first|rfl|exact absurd rfl h
 have e2:(op==CmpOp.NotIn)=false:=by cases op<;>first|rfl|exact absurd rfl h2
 cases b<;>simp[behindInMarks,e1,e2]
def YW{op:CmpOp}{r:R2}(ho:OpR X (compareOp op) r)(ha:PE X a ta)(hb:PE X b tb)(hm:behindInMarks op b=false):PE X (.Compare a [op] [b] pos) (tOp r ta tb):=by
 intro O s σ H Q I h;exact wpAny_Compare1 (Va ha hb I h λv u s2 x y H2 I2 rx ry q=>ho O s2 σ H2 x y v u Q I2 rx ry q) hm
noncomputable def Ff(t:TE):TT:=λσ H Q=>t σ H λx H'=>∃k,x=.bl k/\Q k H'
def Jk{op:CmpOp}{r:R2}(ho:OpR X (compareOp op) r)(ha:PE X a ta)(hb:PE X b tb)(hm:behindInMarks op b=false):PT X (.Compare a [op] [b] pos) (Ff (tOp r ta tb)):=by
 intro O s σ H Q I h;refine wpAny_isTrue_Compare1 (thn (ha O s σ H _ I h) λv s1 ⟨x,H1,I1,r1,q1⟩=>thn (hb O s1 σ H1 _ I1 q1) λu s2 ⟨y,H2,I2,r2,q2⟩=>
  thn (ho O s2 σ H2 x y v u _ I2 r1 r2 q2) λc s3 ⟨z,H3,I3,r3,k,e,q3⟩=>?_) hm
 subst e;cases r3;exact kg ⟨H3,I3,q3⟩
noncomputable def Lj(r r':R2)(ta tb tc:TE):TE:=λσ H Q=>ta σ H λx H1=>tb σ H1 λy H2=>r x y H2 λz H3=>∃k,z=.bl k /\
 (if k=true then tc σ H3 λw' H4=>r' y w' H4 Q else Q (.bl false) H3)
def UW{op op':CmpOp}{r r':R2}(ho:OpR X (compareOp op) r)(ho':OpR X (compareOp op') r')(ha:PE X a ta)(hb:PE X b tb)(hc:PE X c tc)
 (hm:lastMarks [op,op'] [b,c]=false:=by with_unfolding_all rfl):PT X (.Compare a [op,op'] [b,c] pos) (Ff (Lj r r' ta tb tc)):=by
 intro O s σ H Q I h;refine isTrue_chain (thn (ha O s σ H _ I h) λv s1 ⟨x,H1,I1,r1,q1⟩=>test_link (thn (hb O s1 σ H1 _ I1 q1) λu s2 ⟨y,H2,I2,r2,q2⟩=>
  thn (ho O s2 σ H2 x y v u _ I2 r1 r2 q2) λd s3 ⟨z,H3,I3,r3,k,e,q3⟩=>?_)) hm
 subst e;cases r3;refine kg ?_;cases k with
 |false=>
  obtain⟨k',e',q'⟩:=q3;cases e';exact ite_ff ⟨H3,I3,q'⟩
 |true=>
  refine ite_tt (test_last (thn (hc O s3 σ H3 _ I3 q3) λw' s4 ⟨z',H4,I4,r4,q4⟩=>thn (ho' O s4 σ H4 y z' u w' _ I4 r2 r4 q4) λd' s5 ⟨z2,H5,I5,r5,k2,e2,q5⟩=>?_));subst e2;cases r5;exact kg ⟨H5,I5,q5⟩
def NO(K:Frag)(x:V)(H:Hp)(k:Bool):Prop:=
 match x with
 |.non=>k=false
 |.bl b=>k=b
 |.int i=>k=(i != 0)
 |.str y=>y.length<=sizeLine/\k=((y.length:Int) != 0)
 |.byt y=>y.size<=sizeLine/\k=((y.size:Int) != 0)
 |.ref p=>(∃xs,SqL K H p xs/\k=!xs.isEmpty)∨(∃xs,SqT K H p xs/\k=!xs.isEmpty)∨∃kvs,H p=some (.dK kvs)/\k=!kvs.isEmpty
 |_=>False
def Pj{κ:Type}{kvs:List (κ×V)}{vs:List (κ×Value)}(r:KV kvs vs):(!vs.isEmpty)=!kvs.isEmpty:=by
 cases r<;>rfl
def JD{xs:List V}{its:List Value}(r:Vals xs its):(!its.toArray.isEmpty)=!xs.isEmpty:=by
 cases r<;>simp
def Gu:(sizeLine:Nat)<2^63:=by rw[jF];decide
def Zl:gc X (λx H Q=>∃k,NO X.K x H k/\Q k H):=by
 intro O s σ H x v Q I rx h;obtain⟨k,e,q⟩:=h;have hl:=Gu;have hs:sizeLine=16777216:=jF;cases x with
 |non=>
  cases rx;have e':k=false:=e;subst e';exact truthy_none ⟨H,I,q⟩
 |bl b=>
  cases rx;have e':k=b:=e;subst e';exact kg ⟨H,I,q⟩
 |int i=>
  obtain⟨t,rfl⟩:=rx;have e':k=(i != 0):=e;subst e';exact PySem.P.truthy_int ⟨H,I,q⟩
 |str y=>
  obtain⟨t,rfl⟩:=rx;obtain⟨hy,e'⟩:y.length<=sizeLine/\k=((y.length:Int) != 0):=e;subst e';exact PySem.P.truthy_str (by omega) ⟨H,I.tok _,q⟩
 |byt y=>
  obtain⟨t,rfl⟩:=rx;obtain⟨hy,e'⟩:y.size<=sizeLine/\k=((y.size:Int) != 0):=e;subst e';exact PySem.W.truthy_bytes (by omega) ⟨H,I.tok _,q⟩
 |ref p=>
  cases rx;have e':(∃xs,SqL X.K H p xs/\k=!xs.isEmpty)∨(∃xs,SqT X.K H p xs/\k=!xs.isEmpty)∨∃kvs,H p=some (.dK kvs)/\k=!kvs.isEmpty:=e;rcases e' with⟨xs,hx,e'⟩|⟨xs,hx,e'⟩|⟨kvs,hx,e'⟩
  .subst e';obtain⟨its,r,pl,hz⟩:=I.list hx;have hlen:=r.length;exact wpAny_truthy_list pl.isList (by simp only[jf];omega) ⟨H,I.tok _,by rw[JD r];exact q⟩
  .subst e';obtain⟨its,r,pl,hz⟩:=I.tuple hx;have hlen:=r.length;exact truthy_tuple pl (by simp only[jf];omega) ⟨H,I.tok _,by rw[JD r];exact q⟩
  .subst e';obtain⟨hz,hS,vs,r,m⟩:kvs.length<=sizeLine/\(p==sysModules)=false/\∃vs,KV kvs vs/\s.heap.DictOf (BR X.prog X.w) p vs:=I.hok p _ hx;have hlen:kvs.length=vs.length:=Paired.length r;exact wpAny_truthy_dict hS m (by omega) ⟨H,I.tok _,by rw[Pj r];exact q⟩
 |_=>exact(show False from e).elim
def UV(ha:PE X a ta)(he:∀whole,isTrue a X.env whole=(do let v <- whole;standAt a.pos;holding [v] (truthy v))):
 PT X a (λσ H Q=>ta σ H λx H'=>∃k,NO X.K x H' k/\Q k H'):=by
 intro O s σ H Q I h;exact isTrue_plain (thn (ha O s σ H _ I h) λv s1 ⟨x,H1,I1,r1,q1⟩=>Zl O s1 σ H1 x v Q I1 r1 q1) (he _)
def BK{x:V}{us:List Value}(r:Vals [x] us):∃u,us=[u]/\RelV x u:=by
 cases r with
 |cons r1 r2=>cases r2;exact⟨_,rfl,r1⟩
def Ol{x y:V}{us:List Value}(r:Vals [x,y] us):∃u w',us=[u,w']/\RelV x u/\RelV y w':=by
 cases r with
 |cons r1 r2=>
  cases r2 with
  |cons r3 r4=>cases r4;exact⟨_,_,rfl,r1,r3⟩
def VX:CallR X (.builtin "abs") (λxs H Q=>∃i,xs=[.int i]/\Q (.int (if i<0 then -i else i)) H):=by
 intro O s σ H xs us Q I r h;obtain⟨i,rfl,q⟩:=h;obtain⟨u,rfl,t,rfl⟩:=BK r;exact call_abs_int λu tk=>⟨.int (if i<0 then -i else i),H,I.tok _,⟨_,rfl⟩,q⟩
def Sj(hc:X.calm=true):CallR X (.builtin "max") (λxs H Q=>∃i j,xs=[.int i,.int j]/\Q (.int (if j>i then j else i)) H):=by
 intro O s σ H xs us Q I r h;obtain⟨i,j,rfl,q⟩:=h;obtain⟨u,w',rfl,⟨t,rfl⟩,⟨t',rfl⟩⟩:=Ol r;refine max_two_ints (I.ok.hd hc) λh' tk k=>⟨_,H,I.kept k,?_,q⟩
 by_cases hj:j>i
 .rw[j9 hj,j9 hj];exact⟨_,rfl⟩
 .rw[ja hj,ja hj];exact⟨_,rfl⟩
def Si(hc:X.calm=true):CallR X (.builtin "min") (λxs H Q=>∃i j,xs=[.int i,.int j]/\Q (.int (if j<i then j else i)) H):=by
 intro O s σ H xs us Q I r h;obtain⟨i,j,rfl,q⟩:=h;obtain⟨u,w',rfl,⟨t,rfl⟩,⟨t',rfl⟩⟩:=Ol r;refine min_two_ints (I.ok.hd hc) λh' tk k=>⟨_,H,I.kept k,?_,q⟩
 by_cases hj:j<i
 .rw[j9 hj,j9 hj];exact⟨_,rfl⟩
 .rw[ja hj,ja hj];exact⟨_,rfl⟩
def Sn:CallR X (.type "int") (λxs H Q=>(∃i,xs=[.int i]/\Q (.int i) H)∨∃k,xs=[.bl k]/\Q (.int (if k then 1 else 0)) H):=by
 intro O s σ H xs us Q I r h;rcases h with⟨i,rfl,q⟩|⟨k,rfl,q⟩
 .obtain⟨u,rfl,t,rfl⟩:=BK r;exact call_int_int ⟨.int i,H,I,⟨_,rfl⟩,q⟩
 .obtain⟨u,rfl,r1⟩:=BK r;cases r1;exact call_int_bool ⟨.int (if k then 1 else 0),H,I.tok _,⟨_,rfl⟩,q⟩
end
def Em{h:Heap}{dx:Addr}{mA:Str->Option Value}(n:h.Ns1 dx mA):∃od,h.get? dx=some od/\∀name,PySem.W.lookIn name od=some (mA name):=by
 obtain⟨o,es,ep,ho,hd,hk,_,hm⟩:=n;refine⟨o,ho,λname=>?_⟩;have e:=hm name;unfold nsFind findBy at e;rw[<- Array.find?_toList]at e;unfold PySem.W.lookIn;rw[hd];dsimp only;split
 .rename_i y q
  rw[q]at e;exact jA some e
 .rename_i q
  rw[q]at e;have a:es.toList.any (·.refKey)=false:=by
   rw[List.any_eq_false];intro y hy;obtain⟨z,t,hkey⟩:=hk y (Array.mem_toList_iff.mp hy);simp[DictEntry.refKey,hkey]
  have a':¬ es.toList.any (·.refKey)=true:=by rw[a];exact Bool.false_ne_true
  rw[ja a'];exact jA some e
def RelO.some_of{v:V}{o:Option Value}(r:RelO (some v) o):∃u,o=some u/\RelV v u:=by
 cases o with
 |none=>exact(show False from r).elim
 |some u=>exact⟨u,rfl,r⟩
def SB{v:V}{u:Value}(r:RelV v u):PySem.W.handedIn u=true:=by
 cases v with
 |non=>cases(show u=Value.none from r);rfl
 |bl b=>cases(show u=Value.bool b from r);rfl
 |int i=>obtain⟨t,e⟩:=(show ∃t,u=Value.int i t from r);cases e;rfl
 |str x=>obtain⟨t,e⟩:=(show ∃t,u=Value.str x t from r);cases e;rfl
 |byt b=>obtain⟨t,e⟩:=(show ∃t,u=Value.bytes b t from r);cases e;rfl
 |flt b=>obtain⟨t,e⟩:=(show ∃t,u=Value.float b t from r);cases e;rfl
 |ref a=>cases(show u=Value.ref a from r);rfl
 |ty n=>cases(show u=Value.type n from r);rfl
def CJ(K:Frag)(C:Addr)(f:Str):Prop:=findIn K (.ref C) f=some none
section
variable{X:Cx}{O:List (Addr×Obj)}{σ:St}{H:Hp}{s:Shared}{a C dx:Addr}{fs:List (Str×V)}{f:Str}{v:V}{A:Around}{E:Value->Shared->Prop}
def ZO{prog:Program}{w:World}{env:Env}{e:Expr}{f:Str}{pos:Pos}{s:Shared}{Q:Value->Shared->Prop}(hb:attributeBase e f env (eval e env)=eval e env)
 (h:wpAny (model prog w) A (eval e env) (λo s₁=>wpAny (model prog w) A (getAttr o f true) Q E s₁) E s):wpAny (model prog w) A (eval (.Attribute e f pos) env) Q E s:=
 Attribute_any_ h (by rw[arm_eval_Attribute,hb])
end
structure Room(k:Nat)(A:Around):Prop where
 hd:A.handled=none
 dp:A.depth+3*k+5<recursionLimit
 un:A.units+16*k+200<cLine
 gd:A.guards=some []
def Room.mono{j k:Nat}{A:Around}(r:Room k A)(h:j<=k):Room j A:=⟨r.hd,by have:=r.dp;omega,by have:=r.un;omega,r.gd⟩
theorem Room.deeper{k:Nat}{A:Around}(r:Room (k+1) A)(env:Env):Room k (A.deeper env):=
 ⟨r.hd,by have:=r.dp;show A.depth+1+3*k+5<_;omega,by have:=r.un;show A.units+3+16*k+200<_;omega,by first|exact r.gd|(simpa [Around.deeper,Around.under,Code.guards,Code.isGuard,pushGuards]using r.gd)⟩
def Pd{A:Around}{C:Addr}{us:List Value}{kw:List (Str×Value)}:(A.under (.builtin "type.__call__" ⟨.ref C::us,kw⟩)).depth=A.depth+1:=by
 first|rfl|simp[Around.under,Code.weight,Code.isCreation,Code.isGuard,Code.isCaller,Code.frames,Code.isFrame,guardIds]
def Pc{A:Around}{C:Addr}{us:List Value}{kw:List (Str×Value)}:(A.under (.builtin "type.__call__" ⟨.ref C::us,kw⟩)).units=A.units+1:=by
 first|rfl|simp[Around.under,Code.cUnits,Code.frames,Code.isFrame]
def Room.make{k:Nat}{A:Around}(r:Room (k+1) A)(C:Addr)(us:List Value)(kw:List (Str×Value)):Room k (A.under (.builtin "type.__call__" ⟨.ref C::us,kw⟩)):=
 ⟨r.hd,by have:=r.dp;rw[Pd];omega,by have:=r.un;rw[Pc];omega,by first|exact r.gd|(simpa [Around.under,Code.guards,Code.isGuard,guardIds,pushGuards]using r.gd)⟩
theorem Room.depth{k:Nat}{A:Around}(r:Room k A):A.depth<recursionLimit:=by have:=r.dp;omega
theorem Room.units{k:Nat}{A:Around}(r:Room k A):A.units+64<cLine:=by have:=r.un;omega
noncomputable def Aq:TA:=λ_ H Q=>Q [] H
noncomputable def AZ(ta:TE)(tr:TA):TA:=λσ H Q=>ta σ H λx H1=>tr σ H1 λxs H2=>Q (x::xs) H2
section
variable{X:Cx}{e:Expr}{es:List Expr}{te:TE}{t:TA}{pos:Pos}
def Bn:PA X [] Aq:=λ_ _ _ _ H Q I h=>Calls.spliced_nil ⟨[],H,I,.nil,h⟩
def B3(ha:PE X e te)(hr:PA X es t)(hs:starEach (e::es) X.env=(false,eval e X.env)::starEach es X.env:=by rfl):PA X (e::es) (AZ te t):=by
 intro pos O s σ H Q I h;rw[hs];show wpAny _ _ (spliced ((false,eval e X.env)::backTo pos (starEach es X.env))) _ _ s;refine Calls.spliced_cons (thn (ha O s σ H _ I h) λu s1 ⟨x,H1,I1,r1,q1⟩=>?_);exact thn (hr pos O s1 σ H1 _ I1 q1) λus s2 ⟨xs,H2,I2,r2,q2⟩=>⟨x::xs,H2,I2,.cons r1 r2,q2⟩
noncomputable def JY(t:TA):TE:=λσ H Q=>t σ H λxs H1=>xs.length<=sizeLine/\∀p,H1 p=none->Q (.ref p) (upd H1 p (.tup xs))
noncomputable def TW(t:TA):TE:=λσ H Q=>t σ H λxs H1=>xs.length<=sizeLine/\∀p,H1 p=none->Q (.ref p) (upd H1 p (.lst xs))
def Rl{x1}(h:PA X es t):PE X (.Tuple es x1 pos) (JY t):=by
 intro O s σ H Q I hq;refine wpAny_Tuple_spliced (thn (h pos O s σ H _ I hq) λus s1 ⟨xs,H1,I1,r,z,q⟩=>⟨by rw[<- r.length];exact z,?_⟩);have hf:H1 s1.heap.objs.size=none:=I1.hok.fresh (jc _);refine⟨.ref s1.heap.objs.size,upd H1 s1.heap.objs.size (.tup xs),I1.laid (t':=s1.toks) (λb u e=>Heap.get?_push_of_some _ e) (jc _) ?_,rfl,q _ hf⟩;exact⟨z,us,r,⟨_,Heap.get?_push_size _ rfl,rfl,⟨_,rfl⟩,rfl⟩⟩
def cB(h:PA X es t):PE X (.List es pos) (TW t):=by
 intro O s σ H Q I hq;refine wpAny_List_spliced (thn (h pos O s σ H _ I hq) λus s1 ⟨xs,H1,I1,r,z,q⟩=>⟨by rw[<- r.length];exact z,?_⟩);have hf:H1 s1.heap.objs.size=none:=I1.hok.fresh (jc _);refine⟨.ref s1.heap.objs.size,upd H1 s1.heap.objs.size (.lst xs),I1.laid (t':=s1.toks) (λb u e=>Heap.get?_push_of_some _ e) (jc _) ?_,rfl,q _ hf⟩;exact⟨z,us,0,r,Heap.get?_push_size _ rfl⟩
end
noncomputable abbrev Sp:=List V->Hp->VK->XK->Prop
noncomputable abbrev CXT:=List Env->Hp->Shared->XK->Value->Shared->Prop
structure Env0(P:Program)(w:World)(K:Frag)(mg:Str->Option Value)(base:Heap)(A:Around)(outer:List Env)(s:Shared)(H:Hp):Prop where
 frames:A.frames=some outer
 mod:Mod K mg base
 bs:∀b o,base.get? b=some o->s.heap.get? b=some o/\H b=none
 bsz:base.objs.size<=s.heap.objs.size
 funs:s.heap.FunFrames base outer
 frf:∀b∈frs outer,H b=none
 hok:HOk P w H s.heap
 bare:AllBare s.gens
def CE(outer:List Env)(P:Program)(w:World)(H:Hp)(s:Shared)(Q:VK)(u:Value)(s':Shared):Prop:=
 ∃v H',s'.os=s.os/\AllBare s'.gens/\Un (frs outer) [] H H' s.heap s'.heap/\HOk P w H' s'.heap/\RelV v u/\Q v H'
def CR(CX:CXT)(outer:List Env)(P:Program)(w:World)(H:Hp)(s:Shared)(Q:VK)(E:XK)(r:Result)(s':Shared):Prop:=
 match r with
 |.ok (.ret u)=>CE outer P w H s Q u s'
 |.ok _=>False
 |.error e=>CX outer H s E e s'
structure FnOk(P:Program)(w:World)(K:Frag)(mg:Str->Option Value)(base:Heap)(CX:CXT)(k:Nat)(f:Addr)(fd:FuncData)(ps:List Str)(sp:Sp):Prop where
 len:∀vs H Q E,sp vs H Q E->vs.length=ps.length
 run:∀(A:Around) (outer:List Env) (s:Shared) (H:Hp) (args:Args) (us:List Value) (vs:List V) (Q:VK) (E:XK),Room k A->Env0 P w K mg base A outer s H->BindsTo s fd args (ps.zip us)->Vals vs us->sp vs H Q E ->
  codeAny (model P w) A (.call (.ref f) args) (CR CX outer P w H s Q E) s
theorem FnOk.mono{P:Program}{w:World}{K:Frag}{mg:Str->Option Value}{base:Heap}{CX:CXT}{j k:Nat}{f:Addr}{fd:FuncData}{ps:List Str}{sp:Sp}(F:FnOk P w K mg base CX j f fd ps sp)(h:j<=k):
 FnOk P w K mg base CX k f fd ps sp:=⟨F.len,λA outer s H args us vs Q E hr=>F.run A outer s H args us vs Q E (hr.mono h)⟩
def Env0.make{P:Program}{w:World}{K:Frag}{mg:Str->Option Value}{base:Heap}{A:Around}{outer:List Env}{s:Shared}{H:Hp}(e:Env0 P w K mg base A outer s H)(C:Addr)(us:List Value)(kw:List (Str×Value)):
 Env0 P w K mg base (A.under (.builtin "type.__call__" ⟨.ref C::us,kw⟩)) outer s H:=⟨by first|exact e.frames|(simpa [Around.under,Code.envs,Code.isFrame,pushEnvs]using e.frames),e.mod,e.bs,e.bsz,e.funs,e.frf,e.hok,e.bare⟩
section
variable{X:Cx}{O:List (Addr×Obj)}{σ:St}{H:Hp}{s s':Shared}
def Inv.env0(I:Inv X O σ H s):Env0 X.prog X.w X.K X.mg X.base X.A X.stack s H:=
 ⟨I.ok.frames,I.ok.mod,I.bs,jh I.ok.bsz I.sz,I.stack,I.stkFree,I.hok,I.bare⟩
def Inv.after{Q:VK}{u:Value}(I:Inv X O σ H s)(h:CE X.stack X.prog X.w H s Q u s'):EP X O σ Q u s':=by
 obtain⟨v,H',os,bare,un,hok,r,q⟩:=h;obtain⟨hh,g,d,t,os'⟩:=s';obtain rfl:os'=s.os:=os;exact⟨v,H',I.call (h':=hh) (g':=g) (d':=d) (t':=t) (ch:=[]) un hok bare (λb z=>absurd z (by simp)),r,q⟩
end
noncomputable def Bx(sp:Sp)(dvs:List V)(E:XK)(t:TA):TE:=λσ H Q=>t σ H λvs H1=>sp (vs++dvs) H1 Q E
def Binds(K:Frag)(fd:FuncData)(ps:List Str)(ds:List Value):Prop:=
 ∀(s:Shared) (us:List Value),K.In s.heap->(us++ds).length=ps.length->BindsTo s fd ⟨us,[]⟩ (ps.zip (us++ds))
def Binds.all{K:Frag}{fd:FuncData}{ps:List Str}(h:∀us:List Value,us.length=ps.length->bindArgs fd ⟨us,[]⟩=pure (ps.zip us)):Binds K fd ps []:=λs us _ hl=>by
 rw[ju]at hl ⊢;exact .of_eq (h us hl)
def JR(CX:CXT)(X:Cx)(E:XK):Prop:=∀(O:List (Addr×Obj)) (σ:St) (H:Hp) (s:Shared) (e:Value) (s':Shared),Inv X O σ H s->CX X.stack H s E e s'->X.xe e s'
section
variable{X:Cx}{CX:CXT}{k:Nat}{f C:Addr}{fd:FuncData}{ps:List Str}{sp:Sp}{dvs:List V}{ds:List Value}{E:XK}{x m:Str}{p pos apos:Pos}{e o:Expr}{es:List Expr}{ta:TE}{t:TA}
def Qt{O:List (Addr×Obj)}{σ:St}{H:Hp}{s:Shared}{Q:VK}{us:List Value}{vs:List V}(F:FnOk X.prog X.w X.K X.mg X.base CX k f fd ps sp)(hr:Room k X.A)(hb:Binds X.K fd ps ds)(hd:Vals dvs ds)(hx:JR CX X E)
 (I:Inv X O σ H s) (r:Vals vs us) (h:sp (vs++dvs) H Q E):wpAny (model X.prog X.w) X.A (call (.ref f) us) (EP X O σ Q) X.xe s:=by
 have r2:Vals (vs++dvs) (us++ds):=r.append hd;have hl:(us++ds).length=ps.length:=by rw[<- r2.length];exact F.len _ _ _ _ h
 refine kq (kx (F.run X.A X.stack s H ⟨us,[]⟩ (us++ds) (vs++dvs) Q E hr I.env0 (hb s us I.kIn hl) r2 h) λr s' hq=>?_);cases r with
 |error e=>exact hx O σ H s e s' I hq
 |ok fl=>
  cases fl with
  |ret u=>exact I.after hq
  |next=>exact False.elim hq
  |brk=>exact False.elim hq
  |cont=>exact False.elim hq
def YY(F:FnOk X.prog X.w X.K X.mg X.base CX k f fd ps sp)(hr:Room k X.A)(hg:Gl X x)(hm:X.mg x=some (.ref f))(hk:keepIn X.K (.ref f)=true)(hb:Binds X.K fd ps ds)(hd:Vals dvs ds)(hx:JR CX X E)
 (ha:PA X (e::es) t) (hdb:(x==("__debug__":Str))=false:=by decide) (he:starEach (e::es) X.env=(false,eval e X.env)::starEach es X.env:=by rfl) (hpl:(backTo pos (starEach es X.env)).any (·.1)=false:=by rfl):
 PE X (.Call (.Name x p) (e::es) [] pos) (Bx sp dvs E t):=by
 intro O s σ H Q I h;refine kr (EE I hg hm ?_ hdb);refine PySem.W.callWith_K (h₀:=X.base) I.ok.mod.kin hk (thn (ha pos O s σ H _ I h) λus s1 ⟨vs,H1,I1,r,q⟩=>⟨I1.kIn,?_⟩) he hpl;exact Qt F hr hb hd hx I1 r q
def Ui(F:FnOk X.prog X.w X.K X.mg X.base CX k f fd ps sp)(hr:Room k X.A)(hg:Gl X x)(hm:X.mg x=some (.ref f))(hk:keepIn X.K (.ref f)=true)(hb:Binds X.K fd ps ds)(hd:Vals dvs ds)(hx:JR CX X E)
 (hdb:(x==("__debug__":Str))=false:=by decide):PE X (.Call (.Name x p) [] [] pos) (Bx sp dvs E Aq):=by
 intro O s σ H Q I h;refine kr (EE I hg hm ?_ hdb);exact PySem.W.callWith_K0 I.kIn hk (Qt (us:=[]) F hr hb hd hx I .nil h)
end
structure FnScope(N P:List Str)(sc:Scope):Prop where
 kind:sc.kind=.function
 co:sc.isCoroutine=false
 gen:sc.isGenerator=false
 nd:N.Nodup
 pre:N.take P.length=P
 par:∀x∈P,sc.names.lookup x=some .local∨sc.names.lookup x=some .cell
 nofree:∀y∈sc.names,y.2≠.free
theorem Kk{kindOf:Str->Option NameKind}{x:Str}:∀{binds:List (Str×Value)} {m:Str->Option Value},(∀v,(x,v)∉binds)->bindL kindOf binds m x=m x
 |[],_,_=>rfl
 |(n,v)::r,m,h=>by
   unfold bindL;rw[Kk λw hw=>h w (jq _ hw)];split
   .have:x≠n:=by rintro rfl;exact h v jw
    simp[this]
   .rfl
theorem Km{kindOf:Str->Option NameKind}{x:Str}:∀{binds:List (Str×Value)} {m:Str->Option Value},(∀v,(x,v)∉binds)->bindC kindOf binds m x=m x
 |[],_,_=>rfl
 |(n,v)::r,m,h=>by
   unfold bindC;rw[Km λw hw=>h w (jq _ hw)];split
   .rfl
   .have:x≠n:=by rintro rfl;exact h v jw
    simp[this]
theorem Kl{kindOf:Str->Option NameKind}{x:Str}{v:Value}:∀{P:List Str} {vs:List Value} {i:Nat} {m:Str->Option Value},P.Nodup->P[i]?=some x->vs[i]?=some v->kindOf x=some .local ->
 bindL kindOf (P.zip vs) m x=some v
 |[],_,_,_,_,h,_,_=>by simp at h
 |_::_,[],_,_,_,_,h,_=>by simp at h
 |p::P,w::vs,0,m,nd,h1,h2,hk=>by
  simp at h1 h2;subst h1;subst h2;show bindL kindOf ((p,w)::P.zip vs) m p=_;unfold bindL;rw[Kk λv hv=>(nodup_cons.mp nd).1 (List.of_mem_zip hv).1,j9 hk];simp
 |p::P,w::vs,i+1,m,nd,h1,h2,hk=>by
  show bindL kindOf ((p,w)::P.zip vs) m x=_;unfold bindL;exact Kl (i:=i) (nodup_cons.mp nd).2 (by simpa using h1) (by simpa using h2) hk
theorem Ko{kindOf:Str->Option NameKind}{x:Str}{v:Value}:∀{P:List Str} {vs:List Value} {i:Nat} {m:Str->Option Value},P.Nodup->P[i]?=some x->vs[i]?=some v->kindOf x≠some .local ->
 bindC kindOf (P.zip vs) m x=some v
 |[],_,_,_,_,h,_,_=>by simp at h
 |_::_,[],_,_,_,_,h,_=>by simp at h
 |p::P,w::vs,0,m,nd,h1,h2,hk=>by
  simp at h1 h2;subst h1;subst h2;show bindC kindOf ((p,w)::P.zip vs) m p=_;unfold bindC;rw[Km λv hv=>(nodup_cons.mp nd).1 (List.of_mem_zip hv).1,ja hk];simp
 |p::P,w::vs,i+1,m,nd,h1,h2,hk=>by
  show bindC kindOf ((p,w)::P.zip vs) m x=_;unfold bindC;exact Ko (i:=i) (nodup_cons.mp nd).2 (by simpa using h1) (by simpa using h2) hk
noncomputable def start(N:List Str)(vs:List V):St:=vs.map some++List.replicate (N.length-vs.length) none
noncomputable def DZ(CX:CXT)(P:Program)(w:World)(K:Frag)(mg:Str->Option Value)(base:Heap)(N:List Str)(qual:Str)(scope:Scope)(f:Addr)(cd:Value)(A:Around)(outer:List Env)(s:Shared)(H:Hp)(E:XK):Cx where
 prog:=P
 w:=w
 K:=K
 mg:=mg
 base:=base
 A:=A.deeper (envOfC qual scope s.heap.objs.size f cd)
 N:=N
 s₀:=s
 H₀:=H
 env:=envOfC qual scope s.heap.objs.size f cd
 outer:=outer
 stack:=envOfC qual scope s.heap.objs.size f cd::outer
 ex:=[]
 calm:=true
 fn:=λ_=>true
 pn:=[]
 xe:=λe s'=>wpAny (model P w) (A.deeper (envOfC qual scope s.heap.objs.size f cd)) (leaving (envOfC qual scope s.heap.objs.size f cd) e) (λ_ s''=>CX outer H s E e s'') (λe' s''=>CX outer H s E e' s'') s'
def NC{sc:Scope}{n:Nat}{x:Str}(h:sc.names.lookup x=some .cell):∃c,(cellsFrom n sc.names []).lookup x=some c:=by
 have q:=PySem.W.cellsFrom_some sc.names n [] (.inl h);exact isSome_iff_exists.mp q
def S7{CX:CXT}{P:Program}{w:World}{K:Frag}{mg:Str->Option Value}{base:Heap}{N ps:List Str}{qual:Str}{scope:Scope}{f:Addr}{cd:Value}{A:Around}{outer:List Env}{s s1:Shared}{H:Hp}{E:XK}{us:List Value}{vs:List V}
 (S:FnScope N ps scope) (hd:A.handled=none) (e0:Env0 P w K mg base A outer s H) (hl:vs.length=ps.length) (r:Vals vs us)
 (x:InCallC s s.heap.objs.size (bindL (envOfC qual scope s.heap.objs.size f cd).kindOf (ps.zip us) λ_=>none) (cellsFrom (s.heap.objs.size+1) scope.names []) (bindC (envOfC qual scope s.heap.objs.size f cd).kindOf (ps.zip us) λ_=>none) s1):
 Inv (DZ CX P w K mg base N qual scope f cd A outer s H E) [] (start N vs) H s1:=by
 have hpl:ps.length<=N.length:=by have:=jA List.length S.pre;rw[jP]at this;omega
 obtain⟨h1,tk,rfl,hk⟩:=x.done;have noA:∀b:Addr,b∉(DZ CX P w K mg base N qual scope f cd A outer s H E).ex:=λb z=>absurd (show b∈([]:List Addr)from z) (by simp);refine⟨⟨e0.mod,S.kind,rfl,rfl,jc _,λy z c h1 h2=>?_,λy hy=>?_,λy c _ h=>?_,λ_=>hd,Around.frames_deeper e0.frames,.inr ⟨rfl,rfl⟩,λb z=>absurd z (noA b),e0.bs,e0.bsz,λb _ _=>noA b,λb z=>absurd z (noA b),e0.funs,e0.frf⟩,
  rfl,e0.bare,Un.kept hk,⟨_,x.toInCall.ns,λi y v h1 h2 h3=>?_⟩,λy c h=>⟨_,x.cell y c h⟩,e0.hok.fresh (jc _),λy c h=>?_,λp hp=>absurd (show p∈([]:List (Addr×Obj))from hp) (by simp),e0.hok.kept hk,?_⟩
 .exact name_of_addr x.apart (PySem.mem_of_lookup h1) (PySem.mem_of_lookup h2)
 .have hy:scope.names.lookup y=some .cell∨scope.names.lookup y=some .free:=hy;rcases hy with hy|hy
  .exact NC hy
  .exact absurd rfl (S.nofree _ (PySem.mem_of_lookup hy))
 .exact le_of_lt (x.above y c (PySem.mem_of_lookup h))
 .have hi:i<vs.length:=by
   unfold start at h2;by_cases hi:i<vs.length
   .exact hi
   .rw[List.getElem?_append_right (by simpa using hi)]at h2;rw[List.getElem?_replicate]at h2;split at h2<;>cases h2
  have ha:vs[i]?=some v:=by
   unfold start at h2;rw[List.getElem?_append_left (by simpa using hi),List.getElem?_map]at h2;cases e:vs[i]? with
   |none=>rw[e]at h2;cases h2
   |some a=>rw[e]at h2;cases h2;rfl
  obtain⟨u,hu,rv⟩:=r.get ha;have hp:ps[i]?=some y:=by
   rw[<- S.pre,List.getElem?_take_of_lt (by omega)];exact h1
  have ndP:ps.Nodup:=by rw[<- S.pre];exact S.nd.sublist (List.take_sublist _ _)
  refine⟨u,rv,?_⟩;rcases S.par y (jt hp)with k|k
  .exact .inl ⟨k,Kl ndP hp hu k⟩
  .obtain⟨c,e⟩:=NC (n:=s.heap.objs.size+1) k;refine .inr ⟨.inl k,c,e,?_⟩;have q:=x.cell y c e;rw[Ko ndP hp hu (by show scope.names.lookup y≠_;rw[k];decide)]at q;exact q
 .exact e0.hok.fresh (le_of_lt (x.above y c (PySem.mem_of_lookup h)))
 .unfold start;show _=N.length;rw[jv,ji,List.length_replicate];omega
def WG{CX:CXT}{P:Program}{w:World}{K:Frag}{mg:Str->Option Value}{base:Heap}{k:Nat}{f:Addr}{name qual:Str}{params:Arguments}{body:List Stmt}{scope:Scope}{dV kV doc pm cdv ct oc:Value}{an od:Option Addr}
 {osl:Array (Option Value)} {N ps:List Str} {sp:Sp} (lk:K.lookup f=some ⟨oc,od,.func (fnOf name qual params body scope dV kV doc pm an cdv ct),osl⟩) (hcd:codeIn K cdv qual=true) (S:FnScope N ps scope)
 (len:∀vs H Q E,sp vs H Q E->vs.length=ps.length)
 (hbody:∀(A:Around) (outer:List Env) (s:Shared) (H:Hp) (vs:List V) (Q:VK) (E:XK),Room k (A.deeper (envOfC qual scope s.heap.objs.size f cdv))->sp vs H Q E ->
  ∃t,PSs (DZ CX P w K mg base N qual scope f cdv A outer s H E) body t/\t { nx:=λ_ H'=>Q .non H',rt:=Q } (start N vs) H):
 FnOk P w K mg base CX (k+1) f (fnOf name qual params body scope dV kV doc pm an cdv ct) ps sp:=by
 refine⟨len,λA outer s H args us vs Q E hr e0 hb r hsp=>?_⟩;have hl:=len _ _ _ _ hsp;have KX:K.In s.heap:=e0.mod.kin.keeps λb o e=>(e0.bs b o e).1;have lim:s.heap.NoLimit:=e0.mod.nolimit.keeps λb o e=>(e0.bs b o e).1;have hkind:∀y∈ps.zip us,scope.names.lookup y.1=some .local∨(scope.names.lookup y.1=some .cell/\((cellsFrom (s.heap.objs.size+1) scope.names []).lookup y.1).isSome=true):=λ⟨n,v⟩ hy=>by
  rcases S.par n (List.of_mem_zip hy).1 with q|q
  .exact .inl q
  .exact .inr ⟨q,PySem.W.cellsFrom_some _ _ _ (.inl q)⟩
 refine codeAny_call_function hr.depth (KX _ _ lk) rfl S.co S.gen rfl (PySem.W.codeRec_of KX hcd) (hb _ _ _ _ ?_);refine wpAny_newFunctionEnv_cells S.kind hkind λenv he s1 x=>?_;subst he;refine⟨lim.keeps x.toInCall.keep,codeAny_func ?_⟩;obtain⟨t,ht,hq⟩:=hbody A outer s H vs Q E (hr.deeper _) hsp;have I:Inv (DZ CX P w K mg base N qual scope f cdv A outer s H E) [] (start N vs) H s1:=S7 S hr.hd e0 hl r x;refine jo (ht [] s1 (start N vs) H _ I hq) (λfl s' hs=>?_) λe s' hs=>hs;have fin:∀{σ':St} {H':Hp} {v:V} {u:Value},Inv (DZ CX P w K mg base N qual scope f cdv A outer s H E) [] σ' H' s'->RelV v u->Q v H'->CE outer P w H s Q u s':=
  λ{σ' H' v u} J rv q=>⟨v,H',J.os,J.bare,J.base,J.hok,rv,q⟩
 cases fl with
 |ret u=>
  obtain⟨v,σ',H',J,rv,q⟩:=hs;exact fin J rv q
 |next=>
  obtain⟨σ',H',J,q⟩:=hs;exact fin (v:=V.non) (u:=Value.none) J rfl q
 |brk=>
  obtain⟨_,_,_,q⟩:=hs;exact False.elim q
 |cont=>
  obtain⟨_,_,_,q⟩:=hs;exact False.elim q
section
variable{X:Cx}{x:Str}{p pos:Pos}{e:Expr}{es:List Expr}{t:TA}{id T:String}{r:List V->Hp->VK->Prop}
noncomputable def tCB(r:List V->Hp->VK->Prop)(t:TA):TE:=λσ H Q=>t σ H λvs H1=>r vs H1 Q
def D3(hc:CallR X (.builtin id) r)(hg:Gl X x)(hm:X.mg x=none)(hv:bootBuiltins x=some (.builtin id))(ha:PA X (e::es) t)(hn:x≠"__name__":=by decide)(hdb:(x==("__debug__":Str))=false:=by decide)
 (he:starEach (e::es) X.env=(false,eval e X.env)::starEach es X.env:=by rfl) (hpl:(backTo pos (starEach es X.env)).any (·.1)=false:=by rfl):PE X (.Call (.Name x p) (e::es) [] pos) (tCB r t):=by
 intro O s σ H Q I h;refine kr (EV I hg hm hv ?_ hn hdb);exact PyProof.Rows.callWith_builtin1 (thn (ha pos O s σ H _ I h) λus s1 ⟨vs,H1,I1,r1,q1⟩=>hc O s1 σ H1 vs us Q I1 r1 q1) he hpl
def C5(hc:CallR X (.type T) r)(hg:Gl X x)(hm:X.mg x=none)(hv:bootBuiltins x=some (.type T))(ha:PA X (e::es) t)(hn:x≠"__name__":=by decide)(hdb:(x==("__debug__":Str))=false:=by decide)
 (he:starEach (e::es) X.env=(false,eval e X.env)::starEach es X.env:=by rfl) (hpl:(backTo pos (starEach es X.env)).any (·.1)=false:=by rfl):PE X (.Call (.Name x p) (e::es) [] pos) (tCB r t):=by
 intro O s σ H Q I h;refine kr (EV I hg hm hv ?_ hn hdb);exact PyProof.Rows.callWith_type1 (thn (ha pos O s σ H _ I h) λus s1 ⟨vs,H1,I1,r1,q1⟩=>hc O s1 σ H1 vs us Q I1 r1 q1) he hpl
end
end L2
namespace HT
open PySem PyProof.Rows
section
variable{prog:Program}{w:World}{A:Around}{E:Value->Shared->Prop}{s:Shared}
def cat_tup{t b:Addr}{vs ws:List Value}{Q:Value->Shared->Prop}(ht:IsTup s.heap t vs.toArray)(hb:IsTup s.heap b ws.toArray)(hv:vs≠[])
 (h1:ws=[]->Q (.ref t) s) (h2:ws≠[]->Q (.ref s.heap.objs.size) { s with heap:=s.heap.push { cls:=.type "tuple",data:=.seq (vs++ws).toArray } })
 (hsz:vs.length+ws.length<=sizeLine):wpAny (model prog w) A (binaryOp .Add (.ref t) (.ref b)) Q E s:=by
 obtain⟨⟨cls,dd,data,sl⟩,ho,hc,n,hd⟩:=id ht;obtain⟨⟨cls2,dd2,data2,sl2⟩,ho2,hc2,n2,hd2⟩:=id hb;simp only at hc hd hc2 hd2;subst hc hd hc2 hd2;have e:vs.toArray++ws.toArray=(vs++ws).toArray:=by simp
 by_cases hw:ws=[]
 .exact concat_meets ⟨_,ho,rfl⟩ ⟨_,ho2,rfl⟩ noFill_tuple_add seq_tuple_add PySem.F.slot_tuple_add PySem.F.entry_tuple_add (PySem.F.args_tuple_add_2 _ _)
   (tuple_addW1 t b vs.toArray ws.toArray n n2 dd dd2 sl sl2 (by simpa using hv) (by simp[hw])) ⟨ho,ho2,h1 hw⟩
 .refine concat_meets ⟨_,ho,rfl⟩ ⟨_,ho2,rfl⟩ noFill_tuple_add seq_tuple_add PySem.F.slot_tuple_add PySem.F.entry_tuple_add (PySem.F.args_tuple_add_2 _ _)
   (tuple_addW2 t b vs.toArray ws.toArray n n2 dd dd2 sl sl2 (by simpa using hv) (by simpa using hw) (by rw[jf,jf];exact hsz)) ⟨ho,ho2,?_⟩
  rw[e];exact h2 hw
noncomputable def sIx(n d:Nat):Option Int->Nat
 |none=>d
 |some v=>if v<0 then(v+(n:Int)).toNat else min v.toNat n
def sIx_none(n d:Nat):sIx n d none=d:=rfl
def sIx_nat(n d k:Nat):sIx n d (some (k:Int))=min k n:=by
 show(if(k:Int)<0 then((k:Int)+(n:Int)).toNat else min (k:Int).toNat n)=min k n;rw[ja (by omega),jN]
def Zw(n d:Nat)(hd:d<=n)(o:Option Int):sIx n d o<=n:=by
 cases o with
 |none=>exact hd
 |some v=>
  show(if v<0 then(v+(n:Int)).toNat else min v.toNat n)<=n;by_cases hv:v<0
  .rw[j9 hv];omega
  .rw[ja hv];exact Nat.min_le_right _ _
def OY(v:Int)(n d:Nat):(if v<0 then max (v+(n:Int)) 0 else min v (n:Int))=((sIx n d (some v):Nat):Int):=by
 show(if v<0 then max (v+(n:Int)) 0 else min v (n:Int))=(((if v<0 then(v+(n:Int)).toNat else min v.toNat n):Nat):Int);by_cases hv:v<0
 .simp only[j9 hv];omega
 .simp only[ja hv];omega
def Q7(lo hi:Option Int)(n:Nat):Builtin.Slice.sliceAdjust lo hi 1 (n:Int)=(((sIx n 0 lo:Nat):Int),((sIx n n hi:Nat):Int)):=by
 have h1:¬ ((1:Int)<0):=by omega
 unfold Builtin.Slice.sliceAdjust;simp only[h1,jB];refine Prod.ext ?_ ?_
 .cases lo with
  |none=>rfl
  |some v=>exact OY v n 0
 .cases hi with
  |none=>rfl
  |some v=>exact OY v n n
def PV(i j:Nat):Builtin.Slice.slicePlaces (i:Int) (j:Int) 1=j-i:=by
 unfold Builtin.Slice.slicePlaces;have h1:(1:Int)>0:=by omega
 simp only[h1,jj,Int.ediv_one];split<;>omega
def Io{v:Value}{o:Option Int}{Q:Option Int->Shared->Prop}(p:IsPart v o)(h:Q o s):wpAny (model prog w) A (Builtin.Slice.slicePartIndex v) Q E s:=by
 cases p with
 |none=>exact slicePart_none h
 |int i t=>exact slicePart_int h
def EN{sl:Addr}{vl vu:Value}{lo hi:Option Int}{n:Nat}{Q:Int×Int×Nat->Shared->Prop}(hs:s.heap.IsSliceOf sl vl vu .none)(pl:IsPart vl lo)(pu:IsPart vu hi)
 (h:Q (((sIx n 0 lo:Nat):Int),1,sIx n n hi-sIx n 0 lo) s):wpAny (model prog w) A (Builtin.Slice.sliceApplied (.ref sl) (pure (n:Int))) Q E s:=by
 obtain⟨os,hos,hcs,hds⟩:=id hs;unfold Builtin.Slice.sliceApplied Builtin.Slice.sliceFields;refine j8 (j8 (jK hos hds (x:=vl) rfl (j8 (jK hos hds (x:=vu) rfl (j8 (jK hos hds (x:=.none) rfl (jb ?_)))))));refine j8 (slicePart_none ?_);show wpAny _ _ (if((1:Int)==0)=true then _ else _) _ _ s;rw[ja (by decide)];refine j8 (Io pl (j8 (Io pu (j8 (jb ?_)))));show wpAny _ _ (match Builtin.Slice.sliceAdjust lo hi 1 (n:Int)with|(lo,hi)=>pure (lo,(1:Int),Builtin.Slice.slicePlaces lo hi 1)) _ _ s;rw[Q7 lo hi n];show wpAny _ _ (pure (((sIx n 0 lo:Nat):Int),(1:Int),Builtin.Slice.slicePlaces ((sIx n 0 lo:Nat):Int) ((sIx n n hi:Nat):Int) 1)) _ _ s;rw[PV];exact jb h
def Ub(xs:Array Value)(i k:Nat):((List.range k).filterMap λ(m:Nat)=>xs[((i:Int)+(m:Int)*1).toNat]?).toArray=((xs.toList.drop i).take k).toArray:=by
 have e:(λ(m:Nat)=>xs[((i:Int)+(m:Int)*1).toNat]?)=λm=>xs[i+m]? := by
  funext m
  have:((i:Int)+(m:Int)*1).toNat=i+m:=by omega
  rw[this]
 rw[e];have:=pick_run xs i k;rw[List.filterMap_map]at this;have e2:((λx=>xs[x]?) ∘ λx=>i+x)=λm=>xs[i+m]? := rfl;rw[e2]at this;rw[this]
def getItem_tuple_cut{t sl:Addr}{items:Array Value}{vl vu:Value}{lo hi:Option Int}{Q:Value->Shared->Prop}(ht:IsTup s.heap t items)(hs:s.heap.IsSliceOf sl vl vu .none)(pl:IsPart vl lo)(pu:IsPart vu hi)
 (hw:¬ (sIx items.size 0 lo=0/\sIx items.size items.size hi=items.size))
 (h:Q (.ref s.heap.objs.size) { s with heap:=s.heap.push { cls:=.type "tuple",data:=.seq ((items.toList.drop (sIx items.size 0 lo)).take (sIx items.size items.size hi-sIx items.size 0 lo)).toArray } })
 (hsz:items.size<=sizeLine):wpAny (model prog w) A (getItem (.ref t) (.ref sl)) Q E s:=by
 have htake:sizeOk (.seq ((items.toList.drop (sIx items.size 0 lo)).take (sIx items.size items.size hi-sIx items.size 0 lo)).toArray):=by
  show((items.toList.drop (sIx items.size 0 lo)).take (sIx items.size items.size hi-sIx items.size 0 lo)).toArray.size<=sizeLine;rw[jf,jP,length_drop,Array.length_toList];omega
 have hj:sIx items.size items.size hi<=items.size:=Zw _ _ (jc _) hi;obtain⟨os,hos,hcs,hds⟩:=id hs;have hTs:s.TypeIs (.ref sl) "slice":=⟨os,hos,hcs⟩
 unfold getItem
 try with_reducible refine jE ?_
 first|refine j8 (jb ?_)|skip
 refine j8 (wpAny_sequenceKey ht.typeIs (by decide) ?_);refine j8 (kC (name:=Str.ofString "__getitem__") ht.typeIs PyProof.Rows.slot_tuple_getitem
  (ky PyProof.Rows.slot_tuple_getitem ht.typeIs entry_tuple_getitem ?_ (args_tuple_getitem _ _)))
 show wpAny _ _ (Builtin.Tuple.tupleItemsOf (.ref t) >>= _) _ _ s;refine j8 (tupleItemsOf_ ht ?_);refine j8 (wpAny_typeOf hTs ?_);rw[j9 (by decide)];refine j8 (EN hs pl pu ?_);have hno:¬ ((((sIx items.size 0 lo:Nat):Int)==0&&(1:Int)==1&&(sIx items.size items.size hi-sIx items.size 0 lo)==items.size)=true):=by
  intro q;rw[Bool.and_eq_true,Bool.and_eq_true]at q;have q1:((sIx items.size 0 lo:Nat):Int)=0:=eq_of_beq q.1.1;have q2:sIx items.size items.size hi-sIx items.size 0 lo=items.size:=eq_of_beq q.2;exact hw ⟨by omega,by omega⟩
 show wpAny _ _ (if(((sIx items.size 0 lo:Nat):Int)==0&&(1:Int)==1&&(sIx items.size items.size hi-sIx items.size 0 lo)==items.size)=true then _ else _) _ _ s;rw[ja hno,Ub]
 first
  |exact j8 (m:=Builtin.Tuple.tupleExact _) (jG (jb ⟨_,rfl,jb h⟩) htake)
  |exact j8 (m:=Builtin.Tuple.tupleExact _) (jG (j8 (jb (jb ⟨_,rfl,jb h⟩))) htake)
  |exact j8 (j8 (m:=Builtin.Tuple.tupleExact _) (jG (jb (jb ⟨_,rfl,jb h⟩)) htake))
  |exact j8 (j8 (m:=Builtin.Tuple.tupleExact _) (jG (jb ⟨_,rfl,jb h⟩) htake))
end
end HT
namespace L2
open PySem PySem.Spec PyProof.Rows
noncomputable abbrev TO:=St->Hp->(Option Int->Hp->Prop)->Prop
def PO(X:Cx)(e:Option Expr)(t:TO):Prop:=
 ∀(O:List (Addr×Obj)) (s:Shared) (σ:St) (H:Hp) (Q:Option Int->Hp->Prop),Inv X O σ H s->t σ H Q ->
   wpAny (model X.prog X.w) X.A (evalPart e X.env) (λu s'=>∃o H',Inv X O σ H' s'/\IsPart u o/\Q o H') X.xe s
noncomputable def Ja:TO:=λ_ H Q=>Q none H
noncomputable def Ox(t:TE):TO:=λσ H Q=>t σ H λx H1=>∃i,x=.int i/\Q (some i) H1
section
variable{X:Cx}{e:Expr}{te:TE}{lo hi:Option Expr}{tl th:TO}{pos p2:Pos}
def YM:PO X none Ja:=by
 intro O s σ H Q I h;rw[evalPart_none];exact jb ⟨none,H,I,.none,h⟩
def YL(h:PE X e te):PO X (some e) (Ox te):=by
 intro O s σ H Q I hw;rw[evalPart_some];refine thn (h O s σ H _ I hw) λu s1 ⟨x,H1,I1,r1,q1⟩=>?_;obtain⟨i,rfl,q⟩:=q1;obtain⟨t,rfl⟩:=r1;exact⟨some i,H1,I1,.int i t,q⟩
def SlR(X:Cx)(r:V->Option Int->Option Int->Hp->VK->Prop):Prop:=
 ∀(O:List (Addr×Obj)) (s:Shared) (σ:St) (H:Hp) (x:V) (v vl vu:Value) (lo hi:Option Int) (sl:Addr) (Q:VK),Inv X O σ H s->RelV x v->s.heap.IsSliceOf sl vl vu .none->IsPart vl lo->IsPart vu hi->r x lo hi H Q ->
   ∃T id,typeLookup (.type T) "__getitem__"=pure (some (.builtin id))/\s.TypeIs v T/\wpAny (model X.prog X.w) X.A (getItem v (.ref sl)) (EP X O σ Q) X.xe s
noncomputable def tSl(r:V->Option Int->Option Int->Hp->VK->Prop)(te:TE)(tl th:TO):TE:=λσ H Q=>te σ H λx H1=>tl σ H1 λl H2=>th σ H2 λu H3=>r x l u H3 Q
def MW{r:V->Option Int->Option Int->Hp->VK->Prop}(hr:SlR X r)(he:PE X e te)(hl:PO X lo tl)(hu:PO X hi th):PE X (.Subscript e (.Slice lo hi none p2) pos) (tSl r te tl th):=by
 intro O s σ H Q I h;refine Subscript_ (thn (he O s σ H _ I h) λv s1 ⟨x,H1,I1,r1,q1⟩=>?_);refine wpAny_Slice (thn (hl O s1 σ H1 _ I1 q1) λvl s2 ⟨l,H2,I2,pl,q2⟩=>thn (hu O s2 σ H2 _ I2 q2) λvu s3 ⟨u,H3,I3,pu,q3⟩=>?_);rw[evalPart_none];refine jb ?_;have I4:Inv X O σ H3 { s3 with heap:=s3.heap.push { cls:=.type "slice",data:=.fields #[vl,vu,.none] } }:=I3.kept (t':=s3.toks) λb ob q=>Heap.get?_push_of_some _ q;obtain⟨T,id,hT,ht,hg⟩:=hr O { s3 with heap:=s3.heap.push { cls:=.type "slice",data:=.fields #[vl,vu,.none] } } σ H3 x v vl vu l u s3.heap.objs.size Q I4 r1 (Heap.IsSliceOf.new ..) pl pu q3;show wpAny (model X.prog X.w) X.A (subscriptTail e (.Slice lo hi none p2) v (.ref s3.heap.objs.size)) (EP X O σ Q) X.xe { s3 with heap:=s3.heap.push { cls:=.type "slice",data:=.fields #[vl,vu,.none] } };exact tail_any (ops:=[.ref s3.heap.objs.size,v]) ht hT hg (by with_unfolding_all rfl)
noncomputable def F7(xs:List V)(lo hi:Option Int):List V:=(xs.drop (HT.sIx xs.length 0 lo)).take (HT.sIx xs.length xs.length hi-HT.sIx xs.length 0 lo)
def Hy(xs:List V)(lo hi:Option Int):(F7 xs lo hi).length<=xs.length:=by
 unfold F7;rw[jP,length_drop];omega
def ak(K:Frag):V->Option Int->Option Int->Hp->VK->Prop:=λx lo hi H Q=>∃a xs,x=.ref a/\SqT K H a xs /\
 ¬ (HT.sIx xs.length 0 lo=0/\HT.sIx xs.length xs.length hi=xs.length)/\∀p,H p=none->Q (.ref p) (upd H p (.tup (F7 xs lo hi)))
def Zo:SlR X (ak X.K):=by
 intro O s σ H x v vl vu lo hi sl Q I rx hs pl pu h;obtain⟨a,xs,rfl,hx,hw,q⟩:=h;cases rx;obtain⟨its,r,ht,hz⟩:=I.tuple hx;have hlen:its.toArray.size=xs.length:=by rw[jf];exact r.length.symm
 refine⟨"tuple",_,PyProof.Rows.slot_tuple_getitem.lookup,ht.typeIs,?_⟩;refine HT.getItem_tuple_cut ht hs pl pu (by rw[hlen];exact hw) ?_ (by rw[hlen];exact hz);rw[hlen];refine⟨.ref s.heap.objs.size,_,I.laid (t':=s.toks) (o:=.tup (F7 xs lo hi)) (λb ob q=>Heap.get?_push_of_some _ q) (jc _) ?_,rfl,q _ (I.hok.fresh (jc _))⟩;exact⟨jh (Hy xs lo hi) hz,_,(r.drop (HT.sIx xs.length 0 lo)).take (HT.sIx xs.length xs.length hi-HT.sIx xs.length 0 lo),IsTupD.new _ _⟩
noncomputable def PN(K:Frag):R2:=λx y H Q=>∃a b xs ys,x=.ref a/\y=.ref b/\SqT K H a xs/\SqT K H b ys/\xs≠[]/\xs.length+ys.length<=sizeLine /\
 (ys=[]->Q (.ref a) H)/\(ys≠[]->∀p,H p=none->Q (.ref p) (upd H p (.tup (xs++ys))))
def Vals.nil_iff{xs:List V}{us:List Value}(r:Vals xs us):us=[]↔xs=[]:=by
 cases r with
 |nil=>simp
 |cons _ _=>simp
def Ye:OpR X (binaryOp .Add) (PN X.K):=by
 intro O s σ H x y v u Q I rx ry h;obtain⟨a,b,xs,ys,rfl,rfl,ha,hb,hx,hz,q1,q2⟩:=h;cases rx;cases ry;obtain⟨its,r1,p1,_⟩:=I.tuple ha;obtain⟨its2,r2,p2,_⟩:=I.tuple hb;refine HT.cat_tup p1 p2 (λz=>hx (r1.nil_iff.mp z)) (λz=>⟨.ref a,H,I,rfl,q1 (r2.nil_iff.mp z)⟩) (λz=>?_) (by rw[<- r1.length,<- r2.length];exact hz);refine⟨.ref s.heap.objs.size,_,I.laid (t':=s.toks) (o:=.tup (xs++ys)) (λb ob q=>Heap.get?_push_of_some _ q) (jc _) ?_,rfl,q2 (λw=>z (r2.nil_iff.mpr w)) _ (I.hok.fresh (jc _))⟩;exact⟨by rw[jv];exact hz,_,r1.append r2,IsTupD.new _ _⟩
end
noncomputable def ixN(n:Nat)(i:Int):Option Nat:=if 0<=i then(if i<n then some i.toNat else none)else if -(n:Int)<=i then some (i+n).toNat else none
noncomputable def atI{α:Type}(xs:List α)(i:Int):Option α:=(ixN xs.length i).bind λj=>xs[j]?
def Jv{n:Nat}{i:Int}{j:Nat}(h:ixN n i=some j):seqIndex? i n=some j/\j<n/\-(n:Int)<=i/\i<n:=by
 unfold ixN at h;by_cases h0:0<=i
 .rw[j9 h0]at h;by_cases h1:i<n
  .rw[j9 h1]at h;have e:i.toNat=j:=Option.some.inj h;exact⟨by rw[seqIndex_of h0 h1,e],by omega,by omega,h1⟩
  .rw[ja h1]at h;cases h
 .rw[ja h0]at h;by_cases h1:-(n:Int)<=i
  .rw[j9 h1]at h;have e:(i+n).toNat=j:=Option.some.inj h;exact⟨by rw[seqIndex_neg (by omega) h1,e],by omega,h1,by omega⟩
  .rw[ja h1]at h;cases h
def Oe{α:Type}{xs:List α}{i:Int}{v:α}(h:atI xs i=some v):∃j,seqIndex? i xs.length=some j/\xs[j]?=some v/\j<xs.length/\-(xs.length:Int)<=i/\i<xs.length:=by
 unfold atI at h;cases e:ixN xs.length i with
 |none=>rw[e]at h;cases h
 |some j=>
  rw[e]at h;obtain⟨h1,h2,h3,h4⟩:=Jv e;exact⟨j,h1,h,h2,h3,h4⟩
def Aw{α:Type}{xs:List α}{j:Nat}{v:α}(h:xs[j]?=some v):atI xs (j:Int)=some v:=by
 have hj:j<xs.length:=(List.getElem?_eq_some_iff.mp h).1;have e:ixN xs.length (j:Int)=some j:=by
  unfold ixN;rw[j9 (by omega),j9 (by omega)];simp
 unfold atI;rw[e];exact h
def K8(b:Expr):Prop:=∀o i,subscripted b false o i=operate [o,i] (getItem o i)
def IxR(X:Cx)(r:R2):Prop:=
 ∀(value slice:Expr) (O:List (Addr×Obj)) (s:Shared) (σ:St) (H:Hp) (x y:V) (v u:Value) (Q:VK),Inv X O σ H s->RelV x v->RelV y u->r x y H Q ->
   subscripted slice false v u=operate [v,u] (getItem v u)->wpAny (model X.prog X.w) X.A (subscriptTail value slice v u) (EP X O σ Q) X.xe s
def MtR(X:Cx)(id:String)(r:V->List V->Hp->VK->Prop):Prop:=
 ∀(O:List (Addr×Obj)) (s:Shared) (σ:St) (H:Hp) (x:V) (xs:List V) (v:Value) (us:List Value) (Q:VK),Inv X O σ H s->RelV x v->Vals xs us->r x xs H Q ->
   wpAny (model X.prog X.w) X.A (call (.builtin id) (v::us)) (EP X O σ Q) X.xe s
section
variable{X:Cx}{a b:Expr}{ta tb:TE}{pos:Pos}
def IxR.or{r r':R2}(h:IxR X r)(h':IxR X r'):IxR X (λx y H Q=>r x y H Q∨r' x y H Q):=by
 intro value slice O s σ H x y v u Q I rx ry q hs;rcases q with q|q
 .exact h value slice O s σ H x y v u Q I rx ry q hs
 .exact h' value slice O s σ H x y v u Q I rx ry q hs
def W4{r:R2}(hr:IxR X r)(ha:PE X a ta)(hb:PE X b tb)(hs:K8 b):PE X (.Subscript a b pos) (tOp r ta tb):=by
 intro O s σ H Q I h;exact Subscript_ (Va ha hb I h λv u s2 x y H2 I2 rx ry q=>hr a b O s2 σ H2 x y v u Q I2 rx ry q (hs _ _))
noncomputable def UE(K:Frag):R2:=λx y H Q=>∃p xs i v,x=.ref p/\y=.int i/\SqL K H p xs/\atI xs i=some v/\Q v H
noncomputable def UD(K:Frag):R2:=λx y H Q=>∃p xs i v,x=.ref p/\y=.int i/\SqT K H p xs/\atI xs i=some v/\Q v H
def Z1:IxR X (UE X.K):=by
 intro value slice O s σ H x y v u Q I rx ry h hs;obtain⟨p,xs,i,z,rfl,rfl,hq,he,q⟩:=h;cases rx;obtain⟨t,rfl⟩:=ry;obtain⟨its,r,pl,hz⟩:=I.list hq;obtain⟨j,h1,h2,h3,h4,h5⟩:=Oe he;obtain⟨w,ew,rw'⟩:=r.get h2;have hl:=r.length;have hn:=Gu;have fin:EP X O σ Q w s:=⟨z,H,I,rw',q⟩
 by_cases h0:0<=i
 .have hj:i.toNat=j:=by
   rw[seqIndex_of h0 h5]at h1;exact Option.some.inj h1
  exact item_listR pl.isList h0 (by omega) (by rw[hj];simpa using ew) fin hs
 .have hj:(i+(its.toArray.size:Int)).toNat=j:=by
   rw[seqIndex_neg (by omega) h4]at h1;rw[jf,<- hl];exact Option.some.inj h1
  exact subscriptTail_builtinR (x:=w) pl.isList.typeIs slot_list_getitem.lookup
   (wpAny_getItem_list_neg (Q:=λr s'=>r=w/\EP X O σ Q r s') pl.isList (by omega) (by rw[jf]<;>omega) (by omega) (by rw[hj];simpa using ew) ⟨rfl,fin⟩) hs
def dD:IxR X (UD X.K):=by
 intro value slice O s σ H x y v u Q I rx ry h hs;obtain⟨p,xs,i,z,rfl,rfl,hq,he,q⟩:=h;cases rx;obtain⟨t,rfl⟩:=ry;obtain⟨its,r,pl,hz⟩:=I.tuple hq;obtain⟨j,h1,h2,h3,h4,h5⟩:=Oe he;obtain⟨w,ew,rw'⟩:=r.get h2;have hl:=r.length;have hn:=Gu;have fin:EP X O σ Q w s:=⟨z,H,I,rw',q⟩
 exact subscriptTail_builtinR (x:=w) pl.typeIs slot_tuple_getitem.lookup
  (getItem_tuple (j:=j) (Q:=λr s'=>r=w/\EP X O σ Q r s') pl (by omega) (by omega) (by rw[jf,<- hl];exact h1) (by simpa using ew) ⟨rfl,fin⟩) hs
def Pb(its:List Value)(n j:Nat)(u:Value):Obj.mapSeq (·.setIfInBounds j u) { cls:=.type "list",data:=.seq its.toArray n }={ cls:=.type "list",data:=.seq (its.set j u).toArray n }:=by
 simp[Obj.mapSeq]
theorem Inv.lst{O:List (Addr×Obj)}{σ:St}{H:Hp}{s:Shared}{p:Addr}{xs:List V}(I:Inv X O σ H s)(h:H p=some (.lst xs)):
 ∃(its:List Value) (n:Nat),Vals xs its/\s.heap.get? p=some { cls:=.type "list",data:=.seq its.toArray n }/\xs.length<=sizeLine:=by
 obtain⟨z,its,n,r,e⟩:=I.hok p _ h;exact⟨its,n,r,e,z⟩
def Inv.lstUpd{O:List (Addr×Obj)}{σ:St}{H:Hp}{s:Shared}{p:Addr}{xs ys:List V}{its its':List Value}{n n':Nat}{f:Obj->Obj}(I:Inv X O σ H s)(h:H p=some (.lst xs))
 (ho:s.heap.get? p=some { cls:=.type "list",data:=.seq its.toArray n }) (hf:f { cls:=.type "list",data:=.seq its.toArray n }={ cls:=.type "list",data:=.seq its'.toArray n' }) (r:Vals ys its') (hz:ys.length<=sizeLine) (t:Nat):
 Inv X O σ (upd H p (.lst ys)) { s with heap:=s.heap.update p f,toks:=t }:=by
 have e:(s.heap.update p f).get? p=some { cls:=.type "list",data:=.seq its'.toArray n' }:=by
  rw[Heap.get?_update_self f ho (by rw[hf]<;>rfl),hf]
 refine I.write (x:=p) (e:=p) (by rw[h];trivial) (.inl rfl) (λb u hb q=>(Heap.get?_update_other _ _ (Ne.symm hb)).trans q) ⟨_,e⟩ ?_;exact⟨hz,its',n',r,e⟩
def PJ:V->V->V->Hp->(Hp->Prop)->Prop:=λo i v H Q=>∃p xs k j,o=.ref p/\i=.int k/\H p=some (.lst xs)/\ixN xs.length k=some j/\Q (upd H p (.lst (xs.set j v)))
def Te:e9 X PJ:=by
 intro O s σ H o i v ov iv u Q I ro ri rv h;obtain⟨p,xs,k,j,rfl,rfl,hp,hj,q⟩:=h;cases ro;obtain⟨t,rfl⟩:=ri;obtain⟨its,n,r,ho,hz⟩:=I.lst hp;obtain⟨h1,h2,h3,h4⟩:=Jv hj;have hl:=r.length;have hn:=Gu;have I':Inv X O σ (upd H p (.lst (xs.set j v))) { s with heap:=s.heap.update p (Obj.mapSeq (·.setIfInBounds j u)) }:=
  I.lstUpd hp ho (Pb its n j u) (r.set rv j) (by rw[List.length_set];exact hz) s.toks
 by_cases h0:0<=k
 .have hk:k.toNat=j:=by
   rw[seqIndex_of h0 h4]at h1;exact Option.some.inj h1
  exact PySem.W.ki_setAt ho h0 (by omega) (by rw[jf,<- hl];exact h4) (by rw[hk];exact⟨_,I',q⟩)
 .have hk:(k+(its.toArray.size:Int)).toNat=j:=by
   rw[seqIndex_neg (by omega) h3]at h1;rw[jf,<- hl];exact Option.some.inj h1
  exact PySem.W.ki_setBack ho (by omega) (by rw[jf,<- hl];exact h3) (by omega) (by rw[hk];exact⟨_,I',q⟩)
def Lq(lo hi:Option Int)(n:Nat):(sliceBounds lo hi none n).1=((HT.sIx n 0 lo:Nat):Int)/\(sliceBounds lo hi none n).2.1=((HT.sIx n n hi:Nat):Int)/\(sliceBounds lo hi none n).2.2=1:=by
 refine⟨?_,?_,rfl⟩
 .cases lo with
  |none=>simp[sliceBounds,HT.sIx]
  |some i=>
   simp only[sliceBounds,HT.sIx,Option.getD_none,show(1:Int)>0 by decide,jj];by_cases h:i<0
   .simp only[h,jj]<;>omega
   .simp only[h,jB]<;>omega
 .cases hi with
  |none=>simp[sliceBounds,HT.sIx]
  |some i=>
   simp only[sliceBounds,HT.sIx,Option.getD_none,show(1:Int)>0 by decide,jj];by_cases h:i<0
   .simp only[h,jj]<;>omega
   .simp only[h,jB]<;>omega
def Kp(its:List Value)(lo hi:Option Int):slicePick its.toArray lo hi none=((its.drop (HT.sIx its.length 0 lo)).take (HT.sIx its.length its.length hi-HT.sIx its.length 0 lo)).toArray:=by
 obtain⟨h1,h2,h3⟩:=Lq lo hi its.toArray.size;unfold slicePick;rw[h1,h2,h3];simp only[sliceRange_one,pick_run,jf]<;>rfl
def PH(K:Frag):V->Option Int->Option Int->Hp->VK->Prop:=λx lo hi H Q=>∃a xs,x=.ref a/\SqL K H a xs/\∀p,H p=none->Q (.ref p) (upd H p (.lst (F7 xs lo hi)))
def Ws:SlR X (PH X.K):=by
 intro O s σ H x v vl vu lo hi sl Q I rx hs pl pu h;obtain⟨a,xs,rfl,hx,q⟩:=h;cases rx;obtain⟨its,r,ht,hz⟩:=I.list hx;have hlen:=r.length;refine⟨"list",_,slot_list_getitem.lookup,ht.isList.typeIs,?_⟩;refine wpAny_getItem_list_slice ht.isList hs pl pu .none (by simp) ?_ (by rw[jf]<;>omega);rw[Kp,<- hlen];refine⟨.ref s.heap.objs.size,_,I.laid (t':=s.toks) (o:=.lst (F7 xs lo hi)) (λb ob q=>Heap.get?_push_of_some _ q) (jc _) ?_,rfl,q _ (I.hok.fresh (jc _))⟩;exact⟨jh (Hy xs lo hi) hz,_,0,(r.drop (HT.sIx xs.length 0 lo)).take (HT.sIx xs.length xs.length hi-HT.sIx xs.length 0 lo),Heap.get?_push_size _ rfl⟩
noncomputable def Dl:V->Bool
 |.non=>true
 |.bl _=>true
 |.int _=>true
 |.str _=>true
 |_=>false
noncomputable def eqV:V->V->Bool
 |.non,.non=>true
 |.bl a,.bl b=>a==b
 |.bl a,.int b=>(if a then 1 else 0)==b
 |.int a,.bl b=>a==(if b then 1 else 0)
 |.int a,.int b=>a==b
 |.str a,.str b=>a==b
 |_,_=>false
def db{A:Around}{s:Shared}{y x:V}{u v:Value}(ry:RelV y u)(rx:RelV x v)(fy:Dl y=true)(fx:Dl x=true):SeqAt.EqAt A s u v (eqV y x):=by
 cases y with
 |non=>
  cases ry;cases x with
  |non=>cases rx;exact SeqAt.EqAt.same _
  |bl b=>cases rx;exact SeqAt.EqAt.none_bool b
  |int b=>obtain⟨t,rfl⟩:=rx;exact SeqAt.EqAt.none_int b t
  |str b=>obtain⟨t,rfl⟩:=rx;exact SeqAt.EqAt.none_str b t
  |_=>exact absurd (show false=true from fx) Bool.false_ne_true
 |bl a=>
  cases ry;cases x with
  |non=>cases rx;exact SeqAt.EqAt.bool_none a
  |bl b=>cases rx;exact SeqAt.EqAt.bool_bool a b
  |int b=>obtain⟨t,rfl⟩:=rx;exact SeqAt.EqAt.bool_int a b t
  |str b=>obtain⟨t,rfl⟩:=rx;exact SeqAt.EqAt.bool_str a b t
  |_=>exact absurd (show false=true from fx) Bool.false_ne_true
 |int a=>
  obtain⟨t',rfl⟩:=ry;cases x with
  |non=>cases rx;exact SeqAt.EqAt.int_none a t'
  |bl b=>cases rx;exact SeqAt.EqAt.int_bool a t' b
  |int b=>obtain⟨t,rfl⟩:=rx;exact SeqAt.EqAt.int_int a t' b t
  |str b=>obtain⟨t,rfl⟩:=rx;exact SeqAt.EqAt.int_str a t' b t
  |_=>exact absurd (show false=true from fx) Bool.false_ne_true
 |str a=>
  obtain⟨t',rfl⟩:=ry;cases x with
  |non=>cases rx;exact SeqAt.EqAt.str_none a t'
  |bl b=>cases rx;exact SeqAt.EqAt.str_bool a t' b
  |int b=>obtain⟨t,rfl⟩:=rx;exact SeqAt.EqAt.str_int a t' b t
  |str b=>obtain⟨t,rfl⟩:=rx;exact SeqAt.EqAt.str_str a t' b t
  |_=>exact absurd (show false=true from fx) Bool.false_ne_true
 |_=>exact absurd (show false=true from fy) Bool.false_ne_true
noncomputable def eqU(x:V)(u:Value):Bool:=match u with
 |.none=>eqV .non x
 |.bool b=>eqV (.bl b) x
 |.int i _=>eqV (.int i) x
 |.str z _=>eqV (.str z) x
 |_=>false
def SR{x y:V}{u:Value}(r:RelV y u)(f:Dl y=true):eqU x u=eqV y x:=by
 cases y with
 |non=>cases r;rfl
 |bl b=>cases r;rfl
 |int i=>obtain⟨t,rfl⟩:=r;rfl
 |str z=>obtain⟨t,rfl⟩:=r;rfl
 |_=>exact absurd (show false=true from f) Bool.false_ne_true
theorem FW{x:V}:∀{xs:List V} {us:List Value},Vals xs us->xs.all Dl=true->us.any (eqU x)=xs.any λy=>eqV y x
 |_,_,.nil,_=>rfl
 |y::xs,u::us,.cons r t,f=>by
  rw[all_cons,Bool.and_eq_true]at f;rw[jX,jX,SR r f.1,FW t f.2]
theorem ET{A:Around}{s:Shared}{x:V}{v:Value}(rx:RelV x v)(fx:Dl x=true):∀{xs:List V} {us:List Value},Vals xs us->xs.all Dl=true->∀u∈us,SeqAt.EqAt A s u v (eqU x u)
 |_,_,.nil,_=>λu hu=>by cases hu
 |y::xs,u::us,.cons r t,f=>λu' hu=>by
  rw[all_cons,Bool.and_eq_true]at f;rcases mem_cons.mp hu with rfl|hu
  .rw[SR r f.1];exact db r rx f.1 fx
  .exact ET rx fx t f.2 u' hu
noncomputable def inV(x:V)(xs:List V):Bool:=xs.any λy=>eqV y x
noncomputable def rIn(K:Frag)(neg:Bool):R2:=λx y H Q=>∃p xs,y=.ref p/\(SqL K H p xs∨SqT K H p xs)/\Dl x=true/\xs.all Dl=true/\Q (.bl (if neg then !inV x xs else inV x xs)) H
def Rp:OpR X (compareOp .In) (rIn X.K false):=by
 intro O s σ H x y v u Q I rx ry h;obtain⟨p,xs,rfl,hq,fx,fs,q⟩:=h;cases ry;rcases hq with hq|hq
 .obtain⟨its,r,pl,hz⟩:=I.list hq;refine SeqAt.in_listAt (eqU x) pl.isList (λw hw=>ET rx fx r fs w (by simpa using hw)) ⟨.bl _,H,I,rfl,?_⟩;rw[show its.toArray.any (eqU x)=its.any (eqU x) by simp,FW r fs];exact q
 .obtain⟨its,r,pl,hz⟩:=I.tuple hq;refine SeqAt.in_tupleAt (eqU x) pl (λw hw=>ET rx fx r fs w (by simpa using hw)) ⟨.bl _,H,I,rfl,?_⟩;rw[show its.toArray.any (eqU x)=its.any (eqU x) by simp,FW r fs];exact q
def MZ:OpR X (compareOp .NotIn) (rIn X.K true):=by
 intro O s σ H x y v u Q I rx ry h;obtain⟨p,xs,rfl,hq,fx,fs,q⟩:=h;cases ry;rcases hq with hq|hq
 .obtain⟨its,r,pl,hz⟩:=I.list hq;refine SeqAt.notIn_listAt (eqU x) pl.isList (λw hw=>ET rx fx r fs w (by simpa using hw)) ⟨.bl _,H,I,rfl,?_⟩;rw[show its.toArray.any (eqU x)=its.any (eqU x) by simp,FW r fs];exact q
 .obtain⟨its,r,pl,hz⟩:=I.tuple hq;refine SeqAt.notIn_tupleAt (eqU x) pl (λw hw=>ET rx fx r fs w (by simpa using hw)) ⟨.bl _,H,I,rfl,?_⟩;rw[show its.toArray.any (eqU x)=its.any (eqU x) by simp,FW r fs];exact q
def NG:CallR X (.builtin "len") (λxs H Q=>∃p ys,xs=[.ref p]/\(SqL X.K H p ys∨SqT X.K H p ys)/\Q (.int ys.length) H):=by
 intro O s σ H xs us Q I r h;obtain⟨p,ys,rfl,hq,q⟩:=h;obtain⟨u,rfl,rx⟩:=BK r;cases rx;have hn:=Gu;rcases hq with hq|hq
 .obtain⟨its,r',pl,hz⟩:=I.list hq;have hlen:=r'.length;exact Calls.call_len_list pl.isList (by simp only[jf]<;>omega) ⟨.int ys.length,H,I.tok _,⟨s.toks+1,by rw[jf,hlen]⟩,q⟩
 .obtain⟨its,r',pl,hz⟩:=I.tuple hq;have hlen:=r'.length;exact len_tuple pl (by simp only[jf]<;>omega) ⟨.int ys.length,H,I.tok _,⟨s.toks+1,by rw[jf,hlen]⟩,q⟩
def CallR.or{f:Value}{r r':List V->Hp->VK->Prop}(h:CallR X f r)(h':CallR X f r'):CallR X f (λxs H Q=>r xs H Q∨r' xs H Q):=by
 intro O s σ H xs us Q I rs q;rcases q with q|q
 .exact h O s σ H xs us Q I rs q
 .exact h' O s σ H xs us Q I rs q
def NF:CallR X (.type "list") (λxs H Q=>∃p ys,xs=[.ref p]/\(SqL X.K H p ys∨SqT X.K H p ys)/\∀l,H l=none->Q (.ref l) (upd H l (.lst ys))):=by
 intro O s σ H xs us Q I r h;obtain⟨p,ys,rfl,hq,q⟩:=h;obtain⟨u,rfl,rx⟩:=BK r;cases rx;have fin:∀(its:List Value),Vals ys its->ys.length<=sizeLine->∀(h':Heap) (c':Nat),(∀b o',s.heap.get? b=some o'->h'.get? b=some o') ->
  h'.get? s.heap.objs.size=some { cls:=.type "list",dict:=none,data:=.seq its.toArray c',slots:=#[] }->EP X O σ Q (.ref s.heap.objs.size) { s with heap:=h' }:=λits r' hz h' c' kp e=>
  ⟨.ref s.heap.objs.size,_,I.laid (t':=s.toks) kp (jc _) (show ObjOk X.prog X.w _ h' _ (.lst ys)from⟨hz,its,c',r',e⟩),rfl,q _ (I.hok.fresh (jc _))⟩
 rcases hq with hq|hq
 .obtain⟨its,r',pl,hz⟩:=I.list hq;have hlen:=r'.length;obtain⟨o,ho,hc,n,hd⟩:=pl.isList;exact call_list_seq p (.inl rfl) ho hc hd (λh' c' kp e=>fin its r' hz h' c' kp e) (by simp only[jf]<;>omega)
 .obtain⟨its,r',pl,hz⟩:=I.tuple hq;have hlen:=r'.length;obtain⟨o,ho,hc,n,hd⟩:=pl;exact call_list_seq p (.inr rfl) ho hc hd (λh' c' kp e=>fin its r' hz h' c' kp e) (by simp only[jf]<;>omega)
def Kr:CallR X (.type "tuple") (λxs H Q=>∃p ys,xs=[.ref p]/\((SqL X.K H p ys/\∀l,H l=none->Q (.ref l) (upd H l (.tup ys)))∨(SqT X.K H p ys/\Q (.ref p) H))):=by
 intro O s σ H xs us Q I r h;obtain⟨p,ys,rfl,h⟩:=h;obtain⟨u,rfl,rx⟩:=BK r;cases rx;rcases h with⟨hq,q⟩|⟨hq,q⟩
 .obtain⟨its,r',pl,hz⟩:=I.list hq;have hlen:=r'.length;refine call_tuple_list pl.isList (λh' kp=>?_) (by simp only[jf]<;>omega);have I1:Inv X O σ H { s with heap:=h' }:=I.kept (t':=s.toks) kp;have I2:Inv X O σ (upd H h'.objs.size (.tup ys)) { s with heap:=h'.push { cls:=.type "tuple",data:=.seq its.toArray } }:=
   I1.laid (t':=s.toks) (λb o e=>Heap.get?_push_of_some _ e) (jc _) (show ObjOk X.prog X.w _ _ _ (.tup ys)from⟨hz,its,r',IsTupD.new _ _⟩)
  exact⟨.ref h'.objs.size,_,I2,rfl,q _ (I1.hok.fresh (jc _))⟩
 .obtain⟨its,r',pl,hz⟩:=I.tuple hq;exact call_tuple_same pl ⟨.ref p,H,I,rfl,q⟩
def tyV(K:Frag)(T:String)(x:V)(H:Hp):Prop:=match x with
 |.str _=>T="str"
 |.int _=>T="int"
 |.ref p=>(T="list"/\∃xs,SqL K H p xs)∨(T="tuple"/\∃o,K.lookup p=some o/\o.cls=.type "tuple"/\o.dict=none) ∨
  (T="dict"/\((∃kvs,H p=some (.dK kvs))∨∃kvs,H p=some (.dT kvs)))∨(T="set"/\∃S n,H p=some (.set S n))
 |_=>False
def QY{O:List (Addr×Obj)}{σ:St}{H:Hp}{s:Shared}{T:String}{x:V}{v:Value}(I:Inv X O σ H s)(r:RelV x v)(ty:tyV X.K T x H):
 s.TypeIs v T/\∀a,v=.ref a->∃ob,s.heap.get? a=some ob/\ob.dict=none:=by
 cases x with
 |str z=>
  obtain⟨t,rfl⟩:=r;cases(show T="str" from ty);exact⟨typeIs_str s z t,λ_ e=>nomatch e⟩
 |int i=>
  obtain⟨t,rfl⟩:=r;cases(show T="int" from ty);exact⟨typeIs_int s i t,λ_ e=>nomatch e⟩
 |ref p=>
  cases r;rcases ty with⟨rfl,xs,hq⟩|⟨rfl,o,hk,hc,hd⟩|⟨rfl,hk⟩|⟨rfl,S,n,hk⟩
  .obtain⟨its,_,pl,_⟩:=I.list hq;refine⟨pl.isList.typeIs,λa e=>?_⟩;cases e;obtain⟨o,n,e,c,hd,_⟩:=pl;exact⟨o,e,hd⟩
  .refine⟨⟨o,I.kIn p o hk,hc⟩,λa e=>?_⟩;cases e;exact⟨o,I.kIn _ o hk,hd⟩
  .have z:∃o,s.heap.get? p=some o/\o.ExactDict:=by
    rcases hk with⟨kvs,hk⟩|⟨kvs,hk⟩
    .obtain⟨_,_,_,_,o,_,_,e,ex,_⟩:=I.hok p _ hk;exact⟨o,e,ex⟩
    .obtain⟨_,_,_,_,o,_,_,e,ex,_⟩:=I.hok p _ hk;exact⟨o,e,ex⟩
   obtain⟨o,e,ex⟩:=z;refine⟨⟨o,e,ex.1⟩,λa e2=>?_⟩;cases e2;exact⟨o,e,ex.2.1⟩
  .obtain⟨o,_,_,_,e,ex,_⟩:=I.hok p _ hk;refine⟨⟨o,e,ex.1⟩,λa e2=>?_⟩;cases e2;exact⟨o,e,ex.2.1⟩
 |_=>exact False.elim ty
noncomputable def TZ(K:Frag)(T:String)(r:V->List V->Hp->VK->Prop)(to:TE):TE:=λσ H Q=>to σ H λx H1=>tyV K T x H1/\r x [] H1 Q
noncomputable def tBM(K:Frag)(T:String)(r:V->List V->Hp->VK->Prop)(to:TE)(t:TA):TE:=λσ H Q=>to σ H λx H1=>tyV K T x H1/\t σ H1 λxs H2=>r x xs H2 Q
variable{o e:Expr}{es:List Expr}{to:TE}{t:TA}{name:Str}{apos cpos:Pos}{T id:String}{r:V->List V->Hp->VK->Prop}
def cE(pa:PlainAttrs T)(slot:Slot T name id)(hty:typeOf (.builtin id)=pure (.type "method_descriptor"))(hm:MtR X id r)(ho:PE X o to)
 (hbase:attributeBase o name X.env (eval o X.env)=eval o X.env:=by rfl) (hline:(apos.endLine==cpos.line)=true:=by rfl):PE X (.Call (.Attribute o name apos) [] [] cpos) (TZ X.K T r to):=by
 intro O s σ H Q I h;refine wpAny_Call_method0_late hbase hline (thn (ho O s σ H _ I h) λv s1 ⟨x,H1,I1,r1,ty,q1⟩=>?_);obtain⟨h1,h2⟩:=QY I1 r1 ty;exact⟨T,id,pa,slot,hty,h1,h2,Calls.callWith_builtin rfl (PySem.evalArgs_none (hm O s1 σ H1 x [] v [] Q I1 r1 .nil q1))⟩
def fC(pa:PlainAttrs T)(slot:Slot T name id)(hty:typeOf (.builtin id)=pure (.type "method_descriptor"))(hm:MtR X id r)(ho:PE X o to)(ha:PA X (e::es) t)
 (hbase:attributeBase o name X.env (eval o X.env)=eval o X.env:=by rfl)
 (hfew:((backTo cpos (starEach (e::es) X.env)).all (λx=>!x.1)&&(backToKw cpos (keywordEach [] X.env)).all (λx=>x.1.isSome)
  && decide ((e::es).length+([]:List Keyword).length+(if([]:List Keyword).isEmpty then 0 else 1)<30))=true:=by rfl)
 (hline:(apos.endLine==cpos.line)=true:=by rfl) (hs:starEach (e::es) X.env=(false,eval e X.env)::starEach es X.env:=by rfl) (hplain:(backTo cpos (starEach es X.env)).any (·.1)=false:=by rfl):
 PE X (.Call (.Attribute o name apos) (e::es) [] cpos) (tBM X.K T r to t):=by
 intro O s σ H Q I h;refine wpAny_Call_method_late hbase hfew hline rfl (thn (ho O s σ H _ I h) λv s1 ⟨x,H1,I1,r1,ty,q1⟩=>?_);obtain⟨h1,h2⟩:=QY I1 r1 ty;refine⟨T,id,pa,slot,hty,h1,h2,?_⟩;have hA:=ha cpos O s1 σ H1 _ I1 q1;rw[hs]at hA ⊢;refine Calls.callWith_builtin (by show(false||(backTo cpos (starEach es X.env)).any (·.1))=false;rw[hplain]<;>rfl) (Calls.evalArgs_plain ?_);exact thn hA λus s2 ⟨vs,H2,I2,r2,q2⟩=>hm O s2 σ H2 x vs v us Q I2 r1 r2 q2
end
def MtM(X:Cx)(id:String)(r:V->List V->Hp->VK->Prop):Prop:=
 ∀(O:List (Addr×Obj)) (s:Shared) (σ:St) (H:Hp) (x:V) (xs:List V) (v:Value) (us:List Value) (Q:VK),Inv X O σ H s->RelV x v->Vals xs us->r x xs H Q ->
   wpAny (model X.prog X.w) X.A (call (.builtin id) (v::us)) (EP X O σ Q) X.xe s
def Vals.one:∀{x:V} {us:List Value},Vals [x] us->∃u,us=[u]/\RelV x u
 |_,_,.cons r .nil=>⟨_,rfl,r⟩
def Vals.zero:∀{us:List Value},Vals [] us->us=[]
 |_,.nil=>rfl
theorem Vals.dropLast{xs:List V}{us:List Value}(h:Vals xs us):Vals xs.dropLast us.dropLast:=by
 induction h with
 |nil=>exact .nil
 |cons r t ih=>
  cases t with
  |nil=>exact .nil
  |cons q t'=>exact .cons r ih
theorem Vals.eraseIdx:∀{xs:List V} {us:List Value} (i:Nat),Vals xs us->Vals (xs.eraseIdx i) (us.eraseIdx i)
 |_,_,_,.nil=>.nil
 |_,_,0,.cons _ t=>t
 |_,_,i+1,.cons r t=>.cons r (Vals.eraseIdx i t)
theorem Vals.rep{xs:List V}{us:List Value}(h:Vals xs us):∀k:Nat,Vals (List.replicate k xs).flatten (List.replicate k us).flatten
 |0=>.nil
 |k+1=>by
  rw[k9,k9,flatten_cons,flatten_cons];exact Vals.append h (Vals.rep h k)
def Pq{α:Type}(l:List α):l.eraseIdx (l.length-1)=l.dropLast:=by
 induction l with
 |nil=>rfl
 |cons a r ih=>
  cases r with
  |nil=>rfl
  |cons b r=>
   have e:(a::b::r).length-1=((b::r).length-1)+1:=by
    have h1:(a::b::r).length=r.length+2:=rfl;have h2:(b::r).length=r.length+1:=rfl;omega
   rw[e,List.eraseIdx_cons_succ,ih]
   all_goals rfl
theorem KP{α:Type}:∀(l:List α) (i:Nat),(l.eraseIdx i).length<=l.length
 |[],_=>jc _
 |_::_,0=>le_succ _
 |_::r,i+1=>Nat.succ_le_succ (KP r i)
theorem KU(its:List Value):∀(k:Nat) (acc:List Value),
 List.foldl (λx1 x2=>x1++x2) acc.toArray (List.replicate k its.toArray)=(acc++(List.replicate k its).flatten).toArray
 |0,acc=>by simp
 |k+1,acc=>by
  have e:acc.toArray++its.toArray=(acc++its).toArray:=by simp
  have e2:(acc++its)++(List.replicate k its).flatten=acc++(List.replicate (k+1) its).flatten:=by
   rw[k9,flatten_cons,jC]
  rw[<- e2,<- KU its k (acc++its),<- e,k9,List.foldl_cons]
section
variable{X:Cx}{O:List (Addr×Obj)}{σ:St}{H:Hp}{s:Shared}{l b:Addr}{xs ys zs:List V}
def Inv.lset{its its':List Value}{n:Nat}{f:Array Value->Array Value}{t':Nat}(I:Inv X O σ H s)(hH:H l=some (.lst xs))
 (e:s.heap.get? l=some { cls:=.type "list",data:=.seq its.toArray n }) (hf:f its.toArray=its'.toArray) (hv:Vals ys its') (hz:ys.length<=sizeLine):
 Inv X O σ (upd H l (.lst ys)) { s with heap:=s.heap.update l (Obj.mapSeq f),toks:=t' }:=by
 have q:=PySem.IsL.update e f;rw[hf]at q;refine I.write (x:=l) (e:=l) (by rw[hH];exact trivial) (.inl rfl) (λb' u hb hu=>(Heap.get?_update_other s.heap (Obj.mapSeq f) (Ne.symm hb)).trans hu) ⟨_,q⟩ ?_;exact⟨hz,its',_,hv,q⟩
def Inv.lnew{its:List Value}{t':Nat}(I:Inv X O σ H s)(hv:Vals ys its)(hz:ys.length<=sizeLine):
 Inv X O σ (upd H s.heap.objs.size (.lst ys)) { s with heap:=s.heap.push { cls:=.type "list",data:=.seq its.toArray },toks:=t' }:=
 I.laid (λ_ _ q=>Heap.get?_push_of_some _ q) (jc _) ⟨hz,its,0,hv,Heap.get?_push_size _ rfl⟩
theorem Inv.fresh(I:Inv X O σ H s):H s.heap.objs.size=none:=I.hok.fresh (jc _)
def Inv.lstM(I:Inv X O σ H s)(hH:H l=some (.lst xs)):xs.length<=sizeLine/\∃(its:List Value) (n:Nat),Vals xs its/\xs.length=its.length/\s.heap.get? l=some { cls:=.type "list",data:=.seq its.toArray n }:=by
 obtain⟨z,its,n,r,e⟩:=I.hok l _ hH;exact⟨z,its,n,r,r.length,e⟩
def Us{n:Nat}(h:n<=sizeLine):Builtin.List.listTooLong n=false:=by
 unfold Builtin.List.listTooLong;exact jO (by omega)
end
section
variable{X:Cx}
def O9:V->List V->Hp->VK->Prop:=λx vs H Q=>∃l xs y,x=.ref l/\vs=[y]/\H l=some (.lst xs)/\xs.length<sizeLine/\Q .non (upd H l (.lst (xs++[y])))
def KN:MtM X "list.append" O9:=by
 intro O s σ H x vs v us Q I rx rv h;obtain⟨l,xs,y,rfl,rfl,hH,hz,q⟩:=h;cases rx;obtain⟨u,rfl,ru⟩:=rv.one;obtain⟨z,its,n,r,hl,e⟩:=I.lstM hH;refine kh F.slot_list_append ⟨_,e,rfl⟩ F.entry_list_append (F.args_list_append_2 _ _) (PySem.list_append l its.toArray n u (by rw[jf];omega)) ⟨e,?_⟩;refine⟨.non,_,I.lset (its':=its++[u]) hH e (by simp) (r.append (.cons ru .nil)) ?_,rfl,q⟩;rw[jv,List.length_singleton];omega
def O8:V->List V->Hp->VK->Prop:=λx vs H Q=>∃l b xs zs,x=.ref l/\vs=[.ref b]/\H l=some (.lst xs)/\H b=some (.lst zs)/\xs.length+zs.length<=sizeLine/\Q .non (upd H l (.lst (xs++zs)))
def Rx:MtM X "list.extend" O8:=by
 intro O s σ H x vs v us Q I rx rv h;obtain⟨l,b,xs,zs,rfl,rfl,hH,hB,hz,q⟩:=h;cases rx;obtain⟨u,rfl,ru⟩:=rv.one;cases ru;obtain⟨z,its,n,r,hl,e⟩:=I.lstM hH;obtain⟨z2,its2,n2,r2,hl2,e2⟩:=I.lstM hB;have hsz:its.toArray.size+its2.toArray.size<=sizeLine:=by rw[jf,jf];omega
 have hlong:¬ (!its.toArray.isEmpty&&Builtin.List.listTooLong (its.toArray.size+its2.toArray.size))=true:=by
  rw[Us hsz,Bool.and_false];exact Bool.false_ne_true
 refine kh F.slot_list_extend ⟨_,e,rfl⟩ F.entry_list_extend (F.args_list_extend_2 _ _)
  (AutoSeq1.list_extend_list_list_0 l its.toArray n b its2.toArray n2 hlong (by rw[jf];omega) (by omega)) ⟨e,e2,?_⟩
 refine⟨.non,_,I.lset (its':=its++its2) hH e (by simp) (r.append r2) ?_,rfl,q⟩;rw[jv];omega
def am:V->List V->Hp->VK->Prop:=λx vs H Q=>∃l xs y,x=.ref l/\vs=[]/\H l=some (.lst xs)/\xs[xs.length-1]?=some y/\Q y (upd H l (.lst xs.dropLast))
def cZ:MtM X "list.pop" am:=by
 intro O s σ H x vs v us Q I rx rv h;obtain⟨l,xs,y,rfl,rfl,hH,hy,q⟩:=h;cases rx;have hus:=rv.zero;subst hus;obtain⟨z,its,n,r,hl,e⟩:=I.lstM hH;obtain⟨u,hu,ru⟩:=r.get hy;have hy':its.toArray[its.toArray.size-1]?=some u:=by
  show its.toArray[its.length-1]?=some u;rw[<- Array.getElem?_toList,<- hl];exact hu
 refine kh F.slot_list_pop ⟨_,e,rfl⟩ F.entry_list_pop (F.args_list_pop_1 _) (MeetsSeq.list_pop_last l its.toArray n u hy' (by rw[jf];omega)) ⟨e,?_⟩;refine⟨y,_,I.lset (its':=its.dropLast) hH e ?_ r.dropLast ?_,ru,q⟩
 .show its.toArray.eraseIdxIfInBounds (its.toArray.size-1)=its.dropLast.toArray;rw[jf,List.eraseIdxIfInBounds_toArray,Pq]
 .rw[List.length_dropLast];omega
def RZ:V->List V->Hp->VK->Prop:=λx vs H Q=>∃l xs i k y,x=.ref l/\vs=[.int i]/\H l=some (.lst xs)/\-(2^63)<=i/\i<2^63/\seqIndex? i xs.length=some k/\xs[k]?=some y/\Q y (upd H l (.lst (xs.eraseIdx k)))
def Uu:MtM X "list.pop" RZ:=by
 intro O s σ H x vs v us Q I rx rv h;obtain⟨l,xs,i,k,y,rfl,rfl,hH,h1,h2,hk,hy,q⟩:=h;cases rx;obtain⟨u,rfl,ru⟩:=rv.one;obtain⟨t,rfl⟩:=ru;obtain⟨z,its,n,r,hl,e⟩:=I.lstM hH;obtain⟨w,hw,rw'⟩:=r.get hy;refine kh F.slot_list_pop ⟨_,e,rfl⟩ F.entry_list_pop (F.args_list_pop_2 _ _)
  (MeetsSeq.list_pop_at l its.toArray n i t k w (fitsIndex_both h1 h2) (by rw[jf,<- hl];exact hk) (by rw[<- Array.getElem?_toList];exact hw) (by rw[jf];omega)) ⟨e,?_⟩
 refine⟨y,_,I.lset (its':=its.eraseIdx k) hH e ?_ (r.eraseIdx k) ?_,rw',q⟩
 .show its.toArray.eraseIdxIfInBounds k=(its.eraseIdx k).toArray;rw[List.eraseIdxIfInBounds_toArray]
 .have:=KP xs k;omega
noncomputable def UF:R2:=λx y H Q=>∃l b xs zs,x=.ref l/\y=.ref b/\H l=some (.lst xs)/\H b=some (.lst zs)/\xs.length+zs.length<=sizeLine/\∀p,H p=none->Q (.ref p) (upd H p (.lst (xs++zs)))
def cT:OpR X (binaryOp .Add) UF:=by
 intro O s σ H x y v u Q I rx ry h;obtain⟨l,b,xs,zs,rfl,rfl,hH,hB,hz,q⟩:=h;cases rx;cases ry;obtain⟨z,its,n,r,hl,e⟩:=I.lstM hH;obtain⟨z2,its2,n2,r2,hl2,e2⟩:=I.lstM hB;refine PySem.P.add_list e e2 ?_ (by rw[jf,jf];omega);have ea:its.toArray++its2.toArray=(its++its2).toArray:=by simp
 rw[ea];exact⟨.ref _,_,I.lnew (t':=s.toks) (r.append r2) (by rw[jv];omega),rfl,q _ I.fresh⟩
def Yy{α:Type}(xs:List α)(k:Nat):(List.replicate k xs).flatten.length=k*xs.length:=by
 induction k with
 |zero=>simp
 |succ k ih=>rw[k9,flatten_cons,jv,ih,Nat.succ_mul,Nat.add_comm]
end
end L2
namespace Att
open PySem PySem.W PySem.Calls PyProof.Rows
def JE{P:Params}{h:Heap}:∀(ns:List Int) (vs:List Value),WellAll P h vs (ns.map WData.int)->IntsAre vs ns:=by
 intro ns
 induction ns with
 |nil=>
  intro vs w;rw[jy]at w;cases w;exact .nil
 |cons n ns ih=>
  intro vs w;rw[je]at w;cases w with
  |cons a b=>
   cases a;exact .cons _ _ (ih _ b)
def Qi{l:OpenLaw}{n:Nat}(hn:l.most=some n){P:Params}{h:Heap}{args:List WData}{vals:List Value}
 (hpre:l.row.toRowW.claim.pre args=true) (hwl:WellAll P h vals args):
 ∃a vs ns,vals=[Value.ref a]/\args=[WData.list (ns.map WData.int)]/\h.get? a=some { cls:=.type "list",data:=.seq vs.toArray }/\IntsAre vs ns/\ns.length<=n:=by
 have hsh:WShape.hasAll [] args [.list .int]=true:=(pre_splitW hpre).1;have hc:l.pre.holds [] { args:=args }=true:=(pre_splitW hpre).2;obtain⟨d,r,rfl,h1,h2⟩:=hasAllW_cons hsh;obtain rfl:=hasAllW_nil h2;obtain⟨xs,rfl,h3⟩:=hasW_list h1;obtain⟨ns,rfl⟩:=items_int h3;have hlen:ns.length<=n:=by
  unfold OpenLaw.pre at hc;have h4:(WTm.not (.lt (.lit (.int (n:Int))) (.len (.arg 0)))).holds [] { args:=[.list (ns.map .int)] }=true:=by
   have h4:=(holds_andW hc).1;rw[hn]at h4;exact h4
  have h5:=condW_of h4 (w_not (w_lt w_lit (w_len_list (w_arg rfl))));rw[ji]at h5;refine Nat.le_of_not_lt λq=>?_;have q':(n:Int)<((ns.length:Nat):Int):=by omega
  first
   |(rw[jH q']at h5;exact absurd h5 (by decide))
   |(simp at h5;omega)
 cases hwl with
 |cons w1 w2=>
  cases w2;cases w1 with
  |list ho hall=>exact⟨_,_,ns,rfl,rfl,ho,JE ns _ hall,hlen⟩
def Rg(l:OpenLaw)(args:List WData):l.row.toRowW.claim.post args (.bool true) args=true:=
 postW_of (r:=l.row.toRowW) (X:=(true==true))
  (show WShape.has [] (.bool true) .bool=true by first|rfl|decide|simp[WShape.has,WShape.arms,WShape.armsAll])
  (show(WTm.eq .res (.lit (.bool true))).value [] { args:=args,res:=some (.bool true),after:=args }=some (.bool (true==true))from w_eq_bool (w_res rfl) w_lit) rfl
def attach_call{l:OpenLaw}{n:Nat}{q:Program}{loose:List Str}{XP:(Str->Option Value)->Heap->Prop}{YP:World->Heap->Prop}{d:DefRec}
 (hn:l.most=some n) (hdf:d.params.defaults=[])
 (call:∀(w:World) (s₀ s₁:Shared) (mg mb:Str->Option Value) (fa:Addr) (o:Obj) (pm cd doc:Value) (a:Addr) (vs:List Value) (ns:List Int),
  Ground q loose [] XP w s₀ mg mb s₁.heap->YP w s₁.heap ->
  s₁.heap.get? fa=some o->o.data=.func (docDef d.name d.params d.body d.scope pm cd doc)->s₁.heap.CodeRec cd d.name->mg d.name=some (.ref fa) ->
  s₁.heap.get? a=some { cls:=.type "list",data:=.seq vs.toArray }->IntsAre vs ns->ns.length<=n->s₁.gens=#[] ->
  codeAny (model l.prog w) callerA (.call (.ref fa) ⟨[.ref a],[]⟩) (λr s'=>r=.ok (.ret (.bool true))/\OldK s₁.heap s'.heap/\s'.os=s₁.os/\AllBare s'.gens) s₁):
 WalkO q loose XP YP l.row.toRowW d [] (λf vs=>PySem.call f vs):=by
 intro w s₀ s₁ mg mb G Y fa o pm cd doc dV kV ho hd hcd hD hmg hg args vals as hpre hlay hrd hwl hlo;obtain rfl:dV=.none:=Dflts.none hD hdf;obtain rfl:kV=.none:=Dflts.noKw hD;obtain⟨a,vs,ns,rfl,rfl,hobj,hints,hlen⟩:=Qi hn hpre hwl;refine enter_call (kx (call w s₀ s₁ mg mb fa o pm cd doc a vs ns G Y ho (fd_plain hd) hcd hmg hobj hints hlen hg) λr s' hq=>?_);obtain⟨rfl,h2,h3,h4⟩:=hq;exact⟨.inl ⟨.bool true,.bool true,[],rfl,λ_=>rfl,.bool true,Rg l _,λ_=>⟨List.Pairwise.nil,λ_ hm=>(nomatch hm)⟩⟩,h2,h3,h4⟩
end Att
namespace L2
open PySem PySem.Spec PyProof.Rows
theorem KA:∀{vs:List Value} {ns:List Int},IntsAre vs ns->Vals (ns.map V.int) vs
 |_,_,.nil=>.nil
 |_,_,.cons n t h=>.cons ⟨t,rfl⟩ (KA h)
noncomputable def Bj(s:Stmt):Arguments:=match s with
 |.FunctionDef _ a _ _ _ _ _ _ _ _=>a
 |_=>{ posonlyargs:=[],args:=[],vararg:=none,kwonlyargs:=[],kw_defaults:=[],kwarg:=none,defaults:=[] }
noncomputable def B6(s:Stmt):List Stmt:=match s with
 |.FunctionDef _ _ b _ _ _ _ _ _ _=>b
 |_=>[]
noncomputable def A9(s:Stmt):Scope:=match s with
 |.FunctionDef _ _ _ _ _ _ sc _ _ _=>sc
 |_=>{ kind:=.function,names:=[],isGenerator:=false,isCoroutine:=false }
noncomputable abbrev CX0:CXT:=λ_ _ _ _ _ _=>False
noncomputable abbrev E0:XK:=λ_ _ _=>False
def W6{X:Cx}:JR CX0 X E0:=λ_ _ _ _ _ _ _ h=>h.elim
structure Fun(K:Frag)(x qual:Str)(st:Stmt)(f:Addr)(fd:FuncData):Prop where
 ex:∃(oc:Value) (od:Option Addr) (kV doc pm:Value) (an:Option Addr) (cdv ct:Value) (osl:Array (Option Value)),
  fd=fnOf x qual (Bj st) (B6 st) (A9 st) .none kV doc pm an cdv ct/\K.lookup f=some ⟨oc,od,.func fd,osl⟩/\codeIn K cdv qual=true
 kp:keepIn K (.ref f)=true
section
variable{P:Program}{w:World}{K:Frag}{mg:Str->Option Value}{base:Heap}
def Fun.ok{x qual:Str}{st:Stmt}{f:Addr}{fd:FuncData}{N ps:List Str}{k:Nat}{sp:Sp}(F:Fun K x qual st f fd)(S:FnScope N ps (A9 st))(len:∀vs H Q E,sp vs H Q E->vs.length=ps.length)
 (hbody:∀(cdv:Value) (A:Around) (outer:List Env) (s:Shared) (H:Hp) (vs:List V) (Q:VK) (E:XK),Room k (A.deeper (envOfC qual (A9 st) s.heap.objs.size f cdv))->sp vs H Q E ->
  ∃t,PSs (DZ CX0 P w K mg base N qual (A9 st) f cdv A outer s H E).nox (B6 st) t/\t { nx:=λ_ H'=>Q .non H',rt:=Q } (start N vs) H):FnOk P w K mg base CX0 (k+1) f fd ps sp:=by
 obtain⟨oc,od,kV,doc,pm,an,cdv,ct,osl,rfl,lk,hcd⟩:=F.ex;refine WG lk hcd S len λA outer s H vs Q E hr hsp=>?_;obtain⟨t,h,q⟩:=hbody cdv A outer s H vs Q E hr hsp;exact⟨t,h.nox,q⟩
def Fun.binds{x qual:Str}{st:Stmt}{f:Addr}{fd:FuncData}{ps:List Str}(F:Fun K x qual st f fd)
 (h:∀(kV doc pm:Value) (an:Option Addr) (cdv ct:Value) (us:List Value),us.length=ps.length->bindArgs (fnOf x qual (Bj st) (B6 st) (A9 st) .none kV doc pm an cdv ct) ⟨us,[]⟩=pure (ps.zip us)):Binds K fd ps []:=by
 obtain⟨oc,od,kV,doc,pm,an,cdv,ct,osl,rfl,lk,hcd⟩:=F.ex;exact .all (h kV doc pm an cdv ct)
def SD{x qual:Str}{st:Stmt}{f:Addr}{oc:Value}{od an:Option Addr}{osl:Array (Option Value)}{kV doc pm cdv ct:Value}(l:K.lookup f=some ⟨oc,od,.func (fnOf x qual (Bj st) (B6 st) (A9 st) .none kV doc pm an cdv ct),osl⟩)
 (c:codeIn K cdv qual=true) (k:keepIn K (.ref f)=true):Fun K x qual st f (fnOf x qual (Bj st) (B6 st) (A9 st) .none kV doc pm an cdv ct):=⟨⟨oc,od,kV,doc,pm,an,cdv,ct,osl,rfl,l,c⟩,k⟩
end
def LF{A:Around}{k:Nat}(hr:Room k A):A.units+1<cLine:=Nat.lt_of_le_of_lt (Nat.add_le_add_left (by decide:1<=64) _) hr.units
def KF{n:Nat}(h:n<=1000):n<sizeLine:=Nat.lt_of_le_of_lt h (by decide)
section
variable{κ:Type}[DecidableEq κ]
noncomputable def DP(kvs:List (κ×V))(k:κ):Option V:=(kvs.find? λkv=>decide (kv.1=k)).map (·.2)
noncomputable def CV(kvs:List (κ×V))(k:κ)(v:V):List (κ×V):=
 if(kvs.any λkv=>decide (kv.1=k))=true then kvs.map (λkv=>if kv.1=k then(kv.1,v)else kv)else kvs++[(k,v)]
def EL{p:κ×V}{k:κ}(e:p.1=k):DP (p::r) k=some p.2:=by simp[DP,jJ,e]
def EM{p:κ×V}{k:κ}(e:¬ p.1=k):DP (p::r) k=DP r k:=by simp[DP,jJ,e]
theorem LW(k:κ):∀kvs:List (κ×V),(kvs.any λkv=>decide (kv.1=k))=(DP kvs k).isSome
 |[]=>rfl
 |p::r=>by
  rw[jX];by_cases e:p.1=k
  .simp only[EL e,jH e,Bool.true_or,Option.isSome_some]
  .rw[EM e,jO e,Bool.false_or];exact LW k r
def Ey(kvs:List (κ×V))(k:κ)(v:V):(CV kvs k v).length<=kvs.length+1:=by
 unfold CV;split
 .rw[ji];omega
 .rw[jv,jm,jL];omega
def RelO.isSome_eq(r:RelO o u):o.isSome=u.isSome:=by
 cases o with
 |none=>cases u with
  |none=>rfl
  |some _=>exact(show False from r).elim
 |some _=>cases u with
  |none=>exact(show False from r).elim
  |some _=>rfl
def KV.val(r:KV kvs vs)(k:κ):RelO (DP kvs k) (valueAt vs k):=by
 unfold KV at r
 induction r with
 |nil=>exact True.intro
 |@cons p q ps qs h t ih=>
  obtain⟨h1,h2⟩:=h;by_cases e:p.1=k
  .have e':q.1=k:=h1.symm.trans e;have b:valueAt (q::qs) k=some q.2:=by simp[valueAt,jJ,e']
   rw[EL e,b];exact h2
  .have e':¬ q.1=k:=λz=>e (h1.trans z);have b:valueAt (q::qs) k=valueAt qs k:=by simp[valueAt,jJ,e']
   rw[EM e,b];exact ih
theorem KV.any(r:KV kvs vs)(k:κ):(kvs.any λkv=>decide (kv.1=k))=vs.any λkv=>decide (kv.1=k):=by
 unfold KV at r
 induction r with
 |nil=>rfl
 |cons h t ih=>rw[jX,jX,ih,h.1]
def KV.repl(r:KV kvs vs)(k:κ)(ry:RelV y u):
 KV (kvs.map λkv=>if kv.1=k then(kv.1,y)else kv) (vs.map λkv=>if kv.1=k then(kv.1,u)else kv):=by
 unfold KV at r ⊢
 induction r with
 |nil=>exact .nil
 |@cons p q ps qs h t ih=>
  rw[je,je];refine .cons ?_ ih;obtain⟨h1,h2⟩:=h;by_cases e:p.1=k
  .rw[j9 e,j9 (h1.symm.trans e)];exact⟨h1,ry⟩
  .rw[ja e,ja (λz=>e (h1.trans z))];exact⟨h1,h2⟩
def KV.put(r:KV kvs vs)(k:κ)(ry:RelV y u):KV (CV kvs k y) (stored vs k u):=by
 unfold CV stored;rw[r.any k];by_cases e:(vs.any λkv=>decide (kv.1=k))=true
 .rw[j9 e,j9 e];exact r.repl k ry
 .rw[ja e,ja e];exact Paired.snoc r ⟨rfl,ry⟩
theorem KV.length(r:KV kvs vs):kvs.length=vs.length:=Paired.length r
end
def HZ(r:RelV (kV k) u):(BR P w).is k u=true:=by
 cases k with
 |inl i=>obtain⟨t,e⟩:=(show ∃t,u=Value.int i t from r);subst e;exact NY P w i t
 |inr x=>obtain⟨t,e⟩:=(show ∃t,u=Value.str x t from r);subst e;exact NX P w x t
theorem KS:∀{ks:List Key} {us:List Value},Vals (ks.map kV) us->ItemsAre (BR P w) ks us
 |[],_,r=>by rw[jy]at r;cases r;exact .nil
 |k::ks,_,r=>by
  rw[je]at r;cases r with
  |cons h t=>exact .cons (HZ h) (KS t)
abbrev KT(H:Hp):List (List Key×V)->List (List Key×Addr×Value)->Prop:=Paired λp q=>p.1=q.1/\H q.2.1=some (.tup (p.1.map kV))/\RelV p.2 q.2.2
def KT.val(r:KT H kvs xs)(k:List Key):RelO (DP kvs k) ((atKey xs k).map (·.2)):=by
 induction r with
 |nil=>exact True.intro
 |@cons p q ps qs h t ih=>
  obtain⟨h1,_,h2⟩:=h;by_cases e:p.1=k
  .have e':q.1=k:=h1.symm.trans e;have b:atKey (q::qs) k=some q.2:=by simp[atKey,jJ,e']
   rw[EL e,b];exact h2
  .have e':¬ q.1=k:=λz=>e (h1.trans z);have b:atKey (q::qs) k=atKey qs k:=by simp[atKey,jJ,e']
   rw[EM e,b];exact ih
def KT.repl(r:KT H kvs xs)(k:List Key)(ry:RelV y u):
 KT H (kvs.map λkv=>if kv.1=k then(kv.1,y)else kv) (xs.map (putAt k u)):=by
 induction r with
 |nil=>exact .nil
 |@cons p q ps qs h t ih=>
  rw[je,je];refine .cons ?_ ih;obtain⟨h1,h2,h3⟩:=h;unfold putAt;by_cases e:p.1=k
  .rw[j9 e,j9 (h1.symm.trans e)];exact⟨h1,h2,ry⟩
  .rw[ja e,ja (λz=>e (h1.trans z))];exact⟨h1,h2,h3⟩
def KT.put(r:KT H kvs xs)(k:List Key)(hb:H b=some (.tup (k.map kV)))(ry:RelV y u):
 KT H (CV kvs k y) (storedH xs k b u):=by
 have e:(kvs.any λkv=>decide (kv.1=k))=(atKey xs k).isSome:=by
  rw[LW,(r.val k).isSome_eq,isSome_map]
 unfold CV storedH;rw[e];by_cases q:(atKey xs k).isSome=true
 .rw[j9 q,j9 q];exact r.repl k ry
 .rw[ja q,ja q];exact Paired.snoc r ⟨rfl,hb,ry⟩
def KT.keeps(r:KT H kvs xs)(ht:∀b ys,H b=some (.tup ys)->H' b=some (.tup ys)):KT H' kvs xs:=
 Paired.mapP r λ_ _ z=>⟨z.1,ht _ _ z.2.1,z.2.2⟩
section
def Vs(ok:HOk P w H h)(e:Rd H a u):ObjOk P w H h a u:=e.ok ok
def JL(ok:HOk P w H h)(e:Rd H a (.dK kvs)):kvs.length<=sizeLine/\(a==sysModules)=false/\∃vs,KV kvs vs/\h.DictOf (BR P w) a vs:=
 show ObjOk P w H h a (.dK kvs)from Vs ok e
def WH(ok:HOk P w H h)(e:H a=some (.dK kvs)):kvs.length<=sizeLine/\(a==sysModules)=false/\∃vs,KV kvs vs/\h.DictOf (BR P w) a vs:=JL ok (.inl e)
def Gv{ks:List Key}(ok:HOk P w H h)(e:H a=some (.tup (ks.map kV))):(tupleKind (BR P w)).is h ks a:=by
 obtain⟨_,its,r,o,h1,h2,⟨n,h3⟩,_⟩:=(show ObjOk P w H h a (.tup (ks.map kV))from ok a _ e)
 exact⟨o,its.toArray,n,h1,h2,h3,by simpa using KS r⟩
def JK(ok:HOk P w H h)(e:Rd H a (.dT kvs)):kvs.length<=sizeLine/\(a==sysModules)=false /\
 ∃xs,KT H kvs xs/\h.DictOfH (tupleKind (BR P w)) a xs:=by
 obtain⟨z,y,xs,r,o,es,ep,h1,h2,h3,h4,h5⟩:=(show ObjOk P w H h a (.dT kvs)from Vs ok e)
 refine⟨z,y,xs,r,o,es,ep,h1,h2,h3,h4,λx hx=>?_,h5⟩;have all:∀{l:List (List Key×V)} {m:List (List Key×Addr×Value)},KT H l m->∀x∈m,(tupleKind (BR P w)).is h x.1 x.2.1:=by
  intro l m q
  induction q with
  |nil=>intro x hx;exact nomatch hx
  |@cons p q ps qs hq t ih=>
   intro x hx;rcases mem_cons.mp hx with e|hx
   .subst e;exact Gv ok (by rw[<- hq.1];exact hq.2.1)
   .exact ih x hx
 exact all r x hx
def fY(ok:HOk P w H h)(e:H a=some (.dT kvs)):kvs.length<=sizeLine/\(a==sysModules)=false /\
 ∃xs,KT H kvs xs/\h.DictOfH (tupleKind (BR P w)) a xs:=JK ok (.inl e)
end
def DGet(H:Hp)(a:Addr)(y:V)(r:Option V):Prop:=
 (∃kvs k,Rd H a (.dK kvs)/\y=kV k/\r=DP kvs k)∨∃kvs k b,Rd H a (.dT kvs)/\y=.ref b/\H b=some (.tup (k.map kV))/\r=DP kvs k
def DPut(H:Hp)(a:Addr)(y v:V)(H':Hp):Prop:=
 (∃kvs k,H a=some (.dK kvs)/\y=kV k/\kvs.length<sizeLine/\H'=upd H a (.dK (CV kvs k v))) ∨
 ∃kvs k b,H a=some (.dT kvs)/\y=.ref b/\H b=some (.tup (k.map kV))/\kvs.length<sizeLine/\H'=upd H a (.dT (CV kvs k v))
theorem DGet.k{H:Hp}{a:Addr}{kvs:List (Key×V)}{k:Key}(e:H a=some (.dK kvs)):DGet H a (kV k) (DP kvs k):=.inl ⟨kvs,k,.inl e,rfl,rfl⟩
theorem DPut.k{H:Hp}{a:Addr}{kvs:List (Key×V)}{k:Key}{v:V}(e:H a=some (.dK kvs))(hl:kvs.length<sizeLine):DPut H a (kV k) v (upd H a (.dK (CV kvs k v))):=.inl ⟨kvs,k,e,rfl,hl,rfl⟩
section
variable{A:Around}{E:Value->Shared->Prop}
def Inv.big(I:Inv X O σ H s):sysModules<s.heap.objs.size:=by
 have h:mainGlobals<s.heap.objs.size:=(I.mod.glob.keeps I.bk).lt;exact lt_trans (by decide) h
def SZ{Q:Value->Shared->Prop}(hu:A.units+1<cLine)(I:Inv X O σ H s)(g:DGet H a y (some v))(ry:RelV y u)(h:∀w' s',Inv X O σ H s'->RelV v w'->Q w' s'):
 wpAny (model X.prog X.w) A (getItem (.ref a) u) Q E s:=by
 rcases g with⟨kvs,k,e,ey,l⟩|⟨kvs,k,b,e,ey,eb,l⟩
 .subst ey;obtain⟨z,hd,vs,rel,dd⟩:=JL I.hok e;obtain⟨w',hw,rw'⟩:=RelO.some_of (v:=v) (o:=valueAt vs k) (by rw[l];exact rel.val k);exact wpAny_getItem_of (HZ ry) dd.mapOf hw (h w' _ (I.tok _) rw')
 .subst ey;cases(show u=Value.ref b from ry);obtain⟨z,hd,xs,rel,dd⟩:=JK I.hok e;obtain⟨w',hw,rw'⟩:=RelO.some_of (v:=v) (o:=(atKey xs k).map (·.2)) (by rw[l];exact rel.val k);obtain⟨p,hp,hp2⟩:=j7 hw;refine wpAny_getItem_heap (kF hu) (Gv I.hok eb) dd hp ?_;rw[hp2];exact h w' _ (I.tok _) rw'
def gW{Q:Value->Shared->Prop}(hu:A.units+1<cLine)(I:Inv X O σ H s)(g:DGet H a y o)(ry:RelV y u)(h:∀s',Inv X O σ H s'->Q (.bool o.isSome) s'):
 wpAny (model X.prog X.w) A (compareOp .In u (.ref a)) Q E s:=by
 rcases g with⟨kvs,k,e,ey,l⟩|⟨kvs,k,b,e,ey,eb,l⟩
 .subst ey;obtain⟨z,hd,vs,rel,dd⟩:=JL I.hok e;refine wpAny_in_of (HZ ry) hd dd.mapOf ?_;rw[<- (rel.val k).isSome_eq,<- l];exact h _ (I.tok _)
 .subst ey;cases(show u=Value.ref b from ry);obtain⟨z,hd,xs,rel,dd⟩:=JK I.hok e;refine wpAny_in_heap (kF hu) (Gv I.hok eb) hd dd ?_;have q:=(rel.val k).isSome_eq;rw[isSome_map]at q;rw[<- q,<- l];exact h _ (I.tok _)
def ZG{Q:Value->Shared->Prop}(hu:A.units+1<cLine)(I:Inv X O σ H s)(g:DGet H a y o)(ry:RelV y u)(h:∀s',Inv X O σ H s'->Q (.bool (!o.isSome)) s'):
 wpAny (model X.prog X.w) A (compareOp .NotIn u (.ref a)) Q E s:=by
 rcases g with⟨kvs,k,e,ey,l⟩|⟨kvs,k,b,e,ey,eb,l⟩
 .subst ey;obtain⟨z,hd,vs,rel,dd⟩:=JL I.hok e;refine wpAny_notIn_of (HZ ry) hd dd.mapOf ?_;rw[<- (rel.val k).isSome_eq,<- l];exact h _ (I.tok _)
 .subst ey;cases(show u=Value.ref b from ry);obtain⟨z,hd,xs,rel,dd⟩:=JK I.hok e;refine wpAny_notIn_heap (kF hu) (Gv I.hok eb) hd dd ?_;have q:=(rel.val k).isSome_eq;rw[isSome_map]at q;rw[<- q,<- l];exact h _ (I.tok _)
def K4{t':Nat}(I:Inv X O σ H s)(mu:Mut (H a))(hs:Heap.SameBut a s.heap h')(he:∃q,h'.get? a=some q)(new:ObjOk X.prog X.w (upd H a ob) h' a ob):
 Inv X O σ (upd H a ob) { s with heap:=h',toks:=t' }:=
 I.write (x:=a) (e:=a) mu (.inl rfl) (λb q hb z=>(hs.2 b hb).trans z) he new
def SV{h':Heap}{kvs:List (Key×V)}(z:kvs.length<=sizeLine)(hd:(a==sysModules)=false)(rel:KV kvs vs)(dd:h'.DictOf (BR P w) a vs):
 ObjOk P w H' h' a (.dK kvs):=⟨z,hd,vs,rel,dd⟩
def SY{Q:Unit->Shared->Prop}(hu:A.units+1<cLine)(I:Inv X O σ H s)(g:DPut H a y v H')(ry:RelV y u)(rv:RelV v r)(h:∀s',Inv X O σ H' s'->Q () s'):
 wpAny (model X.prog X.w) A (setItem (.ref a) u r) Q E s:=by
 rcases g with⟨kvs,k,e,ey,l,eH⟩|⟨kvs,k,b,e,ey,eb,l,eH⟩
 .subst ey eH;obtain⟨z,hd,vs,rel,dd⟩:=WH I.hok e;have hz:vs.length<=sizeLine:=by rw[<- rel.length];exact z
  have hl:(CV kvs k v).length<=sizeLine:=by have:=Ey kvs k v;omega
  refine wpAny_setItem_pairs (hsz:=hz) (HZ ry) dd λh' dd' hs=>h _ ?_;have he:∃q,h'.get? a=some q:=let ⟨q,_,_,hq,_⟩:=dd';⟨q,hq⟩
  exact K4 I (by rw[e];exact True.intro) hs he (SV hl hd (rel.put k rv) dd')
 .subst ey eH;cases(show u=Value.ref b from ry);obtain⟨z,hd,xs,rel,dd⟩:=fY I.hok e;have hz:xs.length<=sizeLine:=by rw[<- Paired.length rel];exact z
  have hl:(CV kvs k v).length<=sizeLine:=by have:=Ey kvs k v;omega
  refine wpAny_setItem_heap (hsz:=hz) (kF hu) (Gv I.hok eb) dd λh' dd' hs=>h _ ?_;obtain⟨q,es,ep,hq,h2,h3,h4,_,h5⟩:=dd';refine K4 I (by rw[e];exact True.intro) hs ⟨q,hq⟩ ⟨hl,hd,_,(rel.put k eb rv).keeps λc ys ec=>?_,q,es,ep,hq,h2,h3,h4,h5⟩;rw[AD (fM ec e (λz=>nomatch z))];exact ec
end
def Ve(i:Expr):Prop:=∀ov iv,subscripted i false ov iv=operate [ov,iv] (getItem ov iv)
def Wo{E:Value->Shared->Prop}{T id:String}{Q:Value->Shared->Prop}
 (hl:typeLookup (.type T) "__getitem__"=pure (some (.builtin id))) (hs:Ve slice)
 (h:wpAny (model prog w) A (eval value env) (λo s₁=>wpAny (model prog w) A (eval slice env) (λi s₂=>s₂.TypeIs o T/\wpAny (model prog w) A (getItem o i) Q E s₂) E s₁) E s):
 wpAny (model prog w) A (eval (.Subscript value slice pos) env) Q E s:=by
 refine Subscript_ (jo h (λo s₁ h₁=>jo h₁ (λi s₂ h₂=>?_) λ_ _ x=>x) λ_ _ x=>x);obtain⟨hT,h₂⟩:=h₂;unfold subscriptTail;refine j8 ?_;rw[getitemInPython_of_ne hT.not_modules];refine j8 (wpAny_specialOf hT hl ?_);have fin:wpAny (model prog w) A (subscripted slice false o i) (λr s₃=>wpAny (model prog w) A (letTemporaryGo value o r >>= λ_=>pure r) Q E s₃) E s₂:=by
  rw[hs o i];exact wpAny_operating (jo h₂ (λr s₃ h₃=>j8 (wpAny_letTemporaryGo (jb h₃))) λ_ _ x=>x)
 first
  |exact jb (j8 fin)
  |exact j8 (jb (j8 fin))
  |exact j8 fin
def Nd(I:Inv X O σ H s)(g:DGet H a y o):s.TypeIs (.ref a) "dict":=by
 rcases g with⟨kvs,k,e,_,_⟩|⟨kvs,k,b,e,_,_,_⟩
 .obtain⟨_,_,vs,_,dd⟩:=JL I.hok e;exact dd.typeIs
 .obtain⟨_,_,xs,_,dd⟩:=JK I.hok e;exact dd.typeIs
noncomputable def P0(td ty:TE):TE:=λσ H Q=>td σ H λx H1=>ty σ H1 λy H2=>∃a v,x=.ref a/\DGet H2 a y (some v)/\Q v H2
noncomputable def TY(ty td:TE):TE:=λσ H Q=>ty σ H λy H1=>td σ H1 λx H2=>∃a o,x=.ref a/\DGet H2 a y o/\Q (.bl o.isSome) H2
noncomputable def Jb(ty td:TE):TE:=λσ H Q=>ty σ H λy H1=>td σ H1 λx H2=>∃a o,x=.ref a/\DGet H2 a y o/\Q (.bl (!o.isSome)) H2
noncomputable def P6(td ty tv:TE):TS:=λD σ H=>tv σ H λv H1=>td σ H1 λx H2=>ty σ H2 λy H3=>∃a H4,x=.ref a/\DPut H3 a y v H4/\D.nx σ H4
section
variable{X:Cx}{ty:TE}
def YU(hu:X.A.units+1<cLine)(ho:PE X o td)(hi:PE X i ty)(hs:Ve i):PE X (.Subscript o i pos) (P0 td ty):=by
 intro O s σ H Q I h;refine Wo PySem.F.slot_dict_getitem.lookup hs (thn (ho O s σ H _ I h) λu s1 ⟨x,H1,I1,rx,q1⟩=>thn (hi O s1 σ H1 _ I1 q1) λiv s2 ⟨y,H2,I2,ry,a,v,ex,g,q2⟩=>?_);subst ex;obtain rfl:u=Value.ref a:=rx;exact⟨Nd I2 g,SZ hu I2 g ry λw' s3 I3 rw'=>⟨v,H2,I3,rw',q2⟩⟩
def cI(hu:X.A.units+1<cLine)(hi:PE X i ty)(ho:PE X o td):PC X .In i o (TY ty td):=by
 intro O s σ H Q I h;refine thn (hi O s σ H _ I h) λiv s1 ⟨y,H1,I1,ry,q1⟩=>thn (ho O s1 σ H1 _ I1 q1) λu s2 ⟨x,H2,I2,rx,a,ov,ex,g,q2⟩=>?_;subst ex;obtain rfl:u=Value.ref a:=rx;exact gW hu I2 g ry λs3 I3=>⟨.bl ov.isSome,H2,I3,rfl,q2⟩
def Rm(hu:X.A.units+1<cLine)(hi:PE X i ty)(ho:PE X o td):PC X .NotIn i o (Jb ty td):=by
 intro O s σ H Q I h;refine thn (hi O s σ H _ I h) λiv s1 ⟨y,H1,I1,ry,q1⟩=>thn (ho O s1 σ H1 _ I1 q1) λu s2 ⟨x,H2,I2,rx,a,ov,ex,g,q2⟩=>?_;subst ex;obtain rfl:u=Value.ref a:=rx;exact ZG hu I2 g ry λs3 I3=>⟨.bl (!ov.isSome),H2,I3,rfl,q2⟩
def YK(hu:X.A.units+1<cLine)(ho:PE X o td)(hi:PE X i ty)(hv:PE X value tv)(hs:swapsWith value (some (.Subscript o i pos')) pos.line X.env=pure false):
 PS X (.Assign [.Subscript o i pos'] value pos) (P6 td ty tv):=by
 intro O s σ H D I h;refine wpAny_Assign_Subscript (thn (hv O s σ H _ I h) λr s1 ⟨v,H1,I1,rv,q1⟩=>thn (ho O s1 σ H1 _ I1 q1) λu s2 ⟨x,H2,I2,rx,q2⟩=>thn (hi O s2 σ H2 _ I2 q2) λiv s3 ⟨y,H3,I3,ry,a,H4,ex,g,q3⟩=>?_) hs;subst ex;obtain rfl:u=Value.ref a:=rx;exact SY hu I3 g ry rv λs4 I4=>⟨σ,H4,I4,q3⟩
end
def N9(h:Heap)(hb:sysModules<h.objs.size):ObjOk P w H (h.push { cls:=.type "dict",data:=.dict #[] }) h.objs.size (.dK []):=
 ⟨jU _,beq_eq_false_iff_ne.mpr (Ne.symm (jg hb)),[],.nil,Heap.DictOf.new h⟩
noncomputable def Li:TE:=λ_ H Q=>∀p,H p=none->Q (.ref p) (upd H p (.dK []))
section
def Uf:PE X (.Dict [] [] pos) Li:=λO s σ H Q I h=>
 wpAny_Dict_empty ⟨.ref s.heap.objs.size,_,I.laid (a:=s.heap.objs.size) (o:=.dK []) (t':=s.toks) (λ_ _ q=>Heap.get?_push_of_some _ q) (jc _) (N9 s.heap I.big),rfl,h _ (I.hok.fresh (jc _))⟩
end
noncomputable def B7(cells:List (Str×Addr)):List (Str×NameKind)->List (Str×Addr)->List (Str×Addr)
 |[],acc=>acc
 |(n,k)::r,acc=>if k==.free then B7 cells r ((n,(cells.lookup n).getD 0)::acc)else B7 cells r acc
theorem FV(f:Str×NameKind->List (Str×Addr)->Sem (ForInStep (List (Str×Addr))))
 (hf:∀name kind cs,f (name,kind) cs=if(kind==NameKind.free)=true then(do let a <- cellOf env name;pure (ForInStep.yield ((name,a)::cs)))else pure (ForInStep.yield cs)):
 ∀(names:List (Str×NameKind)) (acc:List (Str×Addr)),(∀y∈names,y.2=.free->∃c,env.cells.lookup y.1=some c)->forIn names acc f=pure (B7 env.cells names acc)
 |[],acc,_=>rfl
 |(n,k)::r,acc,hy=>by
   rw[List.forIn_cons,hf];have ih:=λa=>FV f hf r a λz hz=>hy z (jq _ hz);by_cases hk:(k==NameKind.free)=true
   .obtain⟨c,hc⟩:=hy (n,k) jw (by simpa using hk);have hc:env.cells.lookup n=some c:=hc;have e1:cellOf env n=pure c:=by unfold cellOf;rw[hc]
    rw[j9 hk,e1];show forIn r ((n,c)::acc) f=_;have e2:B7 env.cells ((n,k)::r) acc=B7 env.cells r ((n,c)::acc):=by
     rw[B7,j9 hk,hc];rfl
    rw[ih,e2]
   .rw[ja hk];show forIn r acc f=_;have e2:B7 env.cells ((n,k)::r) acc=B7 env.cells r acc:=by
     rw[B7,ja hk]
    rw[ih,e2]
def E4{scope:Scope}{env:Env}(h:∀y∈scope.names,y.2=.free->∃c,env.cells.lookup y.1=some c):closureFor scope env=pure (B7 env.cells scope.names []):=by
 unfold closureFor;dsimp only;rw[FV _ (λname kind cs=>rfl) scope.names [] h];rfl
theorem EC{cells:List (Str×Addr)}:∀{names:List (Str×NameKind)} {acc:List (Str×Addr)},(∀y∈names,y.2=.free->∃c,cells.lookup y.1=some c)->(∀x c,acc.lookup x=some c->cells.lookup x=some c) ->
 ∀x c,(B7 cells names acc).lookup x=some c->cells.lookup x=some c
 |[],_,_,ha,x,c,e=>ha x c e
 |(n,k)::r,acc,hy,ha,x,c,e=>by
   unfold B7 at e;have hr:∀y∈r,y.2=.free->∃c,cells.lookup y.1=some c:=λz hz=>hy z (jq _ hz);by_cases hk:(k==NameKind.free)=true
   .rw[j9 hk]at e;refine EC hr (λz d q=>?_) x c e;obtain⟨c0,hc0⟩:=hy (n,k) jw (by simpa using hk);have hc0:cells.lookup n=some c0:=hc0;rw[jk]at q;by_cases hz:(z==n)=true
    .rw[hz,hc0]at q;have:z=n:=by simpa using hz
     subst this;simpa [hc0]using q
    .have hz':(z==n)=false:=by simpa using hz
     rw[hz']at q;exact ha z d q
   .rw[ja hk]at e;exact EC hr ha x c e
theorem ED:∀{names:List (Str×NameKind)} {acc:List (Str×Addr)} {x:Str},((acc.lookup x).isSome=true∨(x,NameKind.free)∈names)->((B7 cells names acc).lookup x).isSome=true
 |[],_,_,h=>h.elim id λz=>by cases z
 |(n,k)::r,acc,x,h=>by
   unfold B7;by_cases hk:(k==NameKind.free)=true
   .rw[j9 hk];refine ED ?_;by_cases hx:(x==n)=true
    .exact .inl (by rw[jk,hx];rfl)
    .have hx':(x==n)=false:=by simpa using hx
     rcases h with h|h
     .exact .inl (by rw[jk,hx'];exact h)
     .rcases mem_cons.mp h with h|h
      .cases h;simp at hx
      .exact .inr h
   .rw[ja hk];refine ED ?_;rcases h with h|h
    .exact .inl h
    .rcases mem_cons.mp h with h|h
     .cases h;simp at hk
     .exact .inr h
noncomputable def CM:Nat->List (Str×NameKind)->List (Str×Addr)
 |_,[]=>[]
 |n,(x,k)::r=>if k==.cell then CM (n+1) r++[(x,n)]else CM n r
theorem Bk:∀(names:List (Str×NameKind)) (n:Nat) (acc:List (Str×Addr)),cellsFrom n names acc=CM n names++acc
 |[],_,_=>rfl
 |(x,k)::r,n,acc=>by
   unfold cellsFrom CM;by_cases hk:(k==NameKind.cell)=true
   .rw[j9 hk,j9 hk,Bk r (n+1),jC];rfl
   .rw[ja hk,ja hk,Bk r n]
theorem IM:∀(names:List (Str×NameKind)) (n:Nat) (x:Str) (c:Addr),(CM n names).lookup x=some c->(x,NameKind.cell)∈names
 |[],_,_,_,e=>by cases e
 |(y,k)::r,n,x,c,e=>by
   unfold CM at e;by_cases hk:(k==NameKind.cell)=true
   .rw[j9 hk]at e;have hk':k=.cell:=by simpa using hk
    rw[jY]at e;cases q:(CM (n+1) r).lookup x with
    |some d=>exact jq _ (IM r _ x d q)
    |none=>
     rw[q]at e;simp only[none_or,jk]at e;by_cases hx:(x==y)=true
     .have:x=y:=by simpa using hx
      subst this;subst hk';exact jw
     .have hx':(x==y)=false:=by simpa using hx
      rw[hx']at e;cases e
   .rw[ja hk]at e;exact jq _ (IM r n x c e)
theorem IN:∀(names:List (Str×NameKind)) (n:Nat) (x:Str),(x,NameKind.cell)∈names->∃c,(CM n names).lookup x=some c
 |[],_,_,h=>by cases h
 |(y,k)::r,n,x,h=>by
   unfold CM;by_cases hk:(k==NameKind.cell)=true
   .rw[j9 hk,jY];rcases mem_cons.mp h with h|h
    .obtain⟨rfl,rfl⟩:=Prod.mk.inj h;cases q:(CM (n+1) r).lookup x with
     |some d=>exact⟨d,rfl⟩
     |none=>exact⟨n,by simp[jk]⟩
    .obtain⟨c,hc⟩:=IN r (n+1) x h;exact⟨c,by rw[hc];rfl⟩
   .rw[ja hk];rcases mem_cons.mp h with h|h
    .cases h;simp at hk
    .exact IN r n x h
noncomputable def Q3(scope:Scope)(C:Addr)(env:Env):Env:=
 { scope:=relabel scope env,locals:=C,globals:=env.globals,cells:=cellsFrom (C+1) scope.names (B7 env.cells scope.names []),qual:=env.qual,func:=none,code:=env.code,frame:=env.frame,builtins:=env.builtins }
def Jq{M:Model}{A:Around}{E:Value->Shared->Prop}{s:Shared}{scope:Scope}{env:Env}{Q:Env->Shared->Prop}
 (hQ:∀h',(∀b o,s.heap.get? b=some o->h'.get? b=some o)->h'.Ns s.heap.objs.size (λ_=>none)->(∀x c,(CM (s.heap.objs.size+1) scope.names).lookup x=some c->h'.IsCell c none/\s.heap.objs.size<c) ->
  ((CM (s.heap.objs.size+1) scope.names).Pairwise λx y=>x.2≠y.2) ->
  Q { scope:=scope,locals:=s.heap.objs.size,globals:=env.globals,cells:=cellsFrom (s.heap.objs.size+1) scope.names cl,qual:=env.qual,func:=none,code:=env.code,frame:=env.frame,builtins:=env.builtins } { s with heap:=h' }):
 wpAny M A (newFunctionEnv scope env.globals cl [] env.qual none .none (some env)) Q E s:=by
 simp only[newFunctionEnv,Option.isSome_some,jj];refine j8 (wpAny_alloc ?_);refine j8 (wpAny_layCells _ (λname kind cells=>by cases hkc:kind==NameKind.cell<;>simp[hkc]) _ _ _ _ ?_);have ok:=cellsFrom_ok scope.names (s.heap.push { cls:=.type "dict",data:=.dict #[] }) (s.heap.objs.size+1) [] ⟨λ_ _ hm=>(nomatch hm),List.Pairwise.nil⟩ (by rw[Heap.size_push];exact jc _);rw[Heap.size_push,Bk,ju]at ok;rw[show({ s with heap:=s.heap.push { cls:=.type "dict",data:=.dict #[] } }:Shared).heap.objs.size=s.heap.objs.size+1 from Heap.size_push ..];refine j8 (jb (jb ?_));exact hQ _ (λb o e=>pushCells_keeps _ _ b o (Heap.get?_push_of_some _ e)) ((Heap.Ns.new s.heap (.type "dict")).keeps (pushCells_keeps _ _)) (λx c hc=>⟨(ok.empty x c (mem_of_lookup hc)).1,(ok.empty x c (mem_of_lookup hc)).2⟩) ok.apart
theorem KM:∀{names:List (Str×NameKind)} {x:Str} {k k':NameKind},(names.map (·.1)).Nodup->(x,k)∈names->(x,k')∈names->k=k'
 |[],_,_,_,_,h,_=>by cases h
 |(y,q)::r,x,k,k',nd,h,h'=>by
   have nd:(y::r.map (·.1)).Nodup:=nd;obtain⟨n1,n2⟩:=nodup_cons.mp nd;have out:∀{z:NameKind},(y,z)∈r->False:=λm=>n1 (mem_map.mpr ⟨_,m,rfl⟩);rcases mem_cons.mp h with e|e<;>rcases mem_cons.mp h' with e'|e'
   .cases e;cases e';rfl
   .cases e;exact(out e').elim
   .cases e';exact(out e).elim
   .exact KM n2 e e'
theorem GQ{env:Env}{x:Str}:∀{names:List (Str×NameKind)},names.lookup x=some .free ->
 (names.map λ(n,k)=>if(k==NameKind.free&&env.scope.kind==.function&&env.kindOf n==some .cell)then(n,NameKind.cell)else(n,k)).lookup x=some .cell ∨
 (names.map λ(n,k)=>if(k==NameKind.free&&env.scope.kind==.function&&env.kindOf n==some .cell)then(n,NameKind.cell)else(n,k)).lookup x=some .free
 |[],h=>by simp at h
 |(n,k)::r,h=>by
   have ih:=@GQ env x r;show List.lookup x ((if(k==NameKind.free&&env.scope.kind==.function&&env.kindOf n==some .cell)=true then(n,NameKind.cell)else(n,k))::_)=_∨List.lookup x ((if(k==NameKind.free&&env.scope.kind==.function&&env.kindOf n==some .cell)=true then(n,NameKind.cell)else(n,k))::_)=_;cases hx:x==n with
   |true=>
    simp only[jk,hx]at h;cases h;by_cases hc:(NameKind.free==NameKind.free&&env.scope.kind==.function&&env.kindOf n==some .cell)=true
    .rw[j9 hc];exact .inl (by simp only[jk,hx])
    .rw[ja hc];exact .inr (by simp only[jk,hx])
   |false=>
    simp only[jk,hx]at h;by_cases hc:(k==NameKind.free&&env.scope.kind==.function&&env.kindOf n==some .cell)=true
    .rw[j9 hc];simp only[jk,hx];exact ih h
    .rw[ja hc];simp only[jk,hx];exact ih h
theorem Ge{env:Env}{x:Str}:∀{names:List (Str×NameKind)},
 ((names.map λ(n,k)=>if(k==NameKind.free&&env.scope.kind==.function&&env.kindOf n==some .cell)then(n,NameKind.cell)else(n,k)).lookup x=some .cell ∨
 (names.map λ(n,k)=>if(k==NameKind.free&&env.scope.kind==.function&&env.kindOf n==some .cell)then(n,NameKind.cell)else(n,k)).lookup x=some .free) ->
 names.lookup x=some .cell∨names.lookup x=some .free
 |[],h=>by simp at h
 |(n,k)::r,h=>by
   have ih:=@Ge env x r;have h:List.lookup x ((if(k==NameKind.free&&env.scope.kind==.function&&env.kindOf n==some .cell)=true then(n,NameKind.cell)else(n,k))::_)=_∨List.lookup x ((if(k==NameKind.free&&env.scope.kind==.function&&env.kindOf n==some .cell)=true then(n,NameKind.cell)else(n,k))::_)=_:=h;cases hx:x==n with
   |true=>
    by_cases hc:(k==NameKind.free&&env.scope.kind==.function&&env.kindOf n==some .cell)=true
    .have hk:k=.free:=by
      have:=(Bool.and_eq_true _ _ ▸ (Bool.and_eq_true _ _ ▸ hc).1:(k==NameKind.free)=true/\_).1;simpa using this
     exact .inr (by simp only[jk,hx,hk])
    .rw[ja hc]at h;simp only[jk,hx]at h ⊢;exact h
   |false=>
    simp only[jk,hx];refine ih ?_;by_cases hc:(k==NameKind.free&&env.scope.kind==.function&&env.kindOf n==some .cell)=true
    .rw[j9 hc]at h;simp only[jk,hx]at h;exact h
    .rw[ja hc]at h;simp only[jk,hx]at h;exact h
noncomputable def cCx(X:Cx)(N':List Str)(scope:Scope)(s:Shared)(H:Hp)(ex:List Addr):Cx:=
 { X with N:=N',s₀:=s,H₀:=H,env:=Q3 scope s.heap.objs.size X.env,outer:=X.stack,ex:=ex,fn:=λx=>decide ((x,NameKind.cell)∈scope.names),pn:=[],xe:=λ_ _=>False }
structure CSc(X:Cx)(scope:Scope)(fr:List Str)(ix:List Nat):Prop where
 kind:scope.kind=.function
 nd:(scope.names.map (·.1)).Nodup
 free:(scope.names.all λy=>y.2 != .free||X.env.kindOf y.1==some .cell||X.env.kindOf y.1==some .free)=true
 frs:(fr.all λx=>scope.names.lookup x==some .free)=true
 ixs:fr.map some=ix.map λi=>X.N[i]?
 loc:(scope.names.all λy=>y.2 != .local||scope.names.lookup y.1==some .local)=true
noncomputable def GM(n:Nat)(ix:List Nat)(σ:St):St:=List.replicate n none++ix.map λi=>(σ[i]?).join
section
def CSc.outer(S:CSc X scope fr ix)(hy:y∈scope.names)(e:y.2=.free):X.env.kindOf y.1=some .cell∨X.env.kindOf y.1=some .free:=by
 have h:=all_eq_true.mp S.free y hy;rw[e]at h;simpa using h
def CSc.clos(S:CSc X scope fr ix)(ok:X.Ok):∀y∈scope.names,y.2=.free->∃c,X.env.cells.lookup y.1=some c:=λy hy e=>ok.has y.1 (S.outer hy e)
def Cw(S:CSc X scope fr ix)(ok:X.Ok){n:Nat}(e:(cellsFrom n scope.names (B7 X.env.cells scope.names [])).lookup x=some c):
 (CM n scope.names).lookup x=some c∨X.env.cells.lookup x=some c:=by
 rw[Bk,jY]at e;cases q:(CM n scope.names).lookup x with
 |some d=>rw[q]at e;exact .inl e
 |none=>
  rw[q]at e;exact .inr (EC (S.clos ok) (λ_ _ z=>by simp at z) x c e)
def IR(S:CSc X scope fr ix)(I:Inv X O σ H s)(hex:∀b∈ex,CD X O H b){h':Heap}(hk:∀b o,s.heap.get? b=some o->h'.get? b=some o)(hn:h'.Ns s.heap.objs.size λ_=>none)
 (ho:∀x c,(CM (s.heap.objs.size+1) scope.names).lookup x=some c->h'.IsCell c none/\s.heap.objs.size<c) (ha:(CM (s.heap.objs.size+1) scope.names).Pairwise λx y=>x.2≠y.2) (hlt:∀b∈ex,b<s.heap.objs.size):
 Inv (cCx X (loc++fr) scope s H ex) [] (GM loc.length ix σ) H { s with heap:=h' }:=by
 have old:∀x c,X.env.cells.lookup x=some c->c<s.heap.objs.size:=λx c e=>let ⟨v,z⟩:=I.cell x c e;z.lt
 have lenix:fr.length=ix.length:=by simpa using jA List.length S.ixs
 refine⟨⟨I.ok.mod,?_,I.ok.glob,I.ok.blt,jc _,?_,?_,?_,I.ok.hd,I.ok.frames,.inl rfl,?_,I.bs,jh I.ok.bsz I.sz,?_,?_,I.stack,I.stkFree⟩,rfl,I.bare,Un.kept hk,⟨_,hn,?_⟩,?_,I.hok.fresh (jc _),?_,?_,I.hok.kept hk,?_⟩
 .exact S.kind
 .intro x y c e1 e2;rcases Cw S I.ok e1 with a|a<;>rcases Cw S I.ok e2 with b|b
  .exact name_of_addr ha (PySem.mem_of_lookup a) (PySem.mem_of_lookup b)
  .exact absurd (lt_trans (ho x c a).2 (old y c b)) (jM _)
  .exact absurd (lt_trans (ho y c b).2 (old x c a)) (jM _)
  .exact I.ok.inj x y c a b
 .intro x hx;rcases Ge hx with e|e
  .exact isSome_iff_exists.mp (PySem.W.cellsFrom_some _ _ _ (.inl e))
  .exact isSome_iff_exists.mp (PySem.W.cellsFrom_some _ _ _ (.inr (ED (.inr (PySem.mem_of_lookup e)))))
 .intro x c hf e;have hf:(x,NameKind.cell)∈scope.names:=jV hf;obtain⟨d,hd⟩:=IN scope.names (s.heap.objs.size+1) x hf;have e':(cellsFrom (s.heap.objs.size+1) scope.names (B7 X.env.cells scope.names [])).lookup x=some c:=e;rw[Bk,jY,hd]at e';cases e';exact le_of_lt (ho x _ hd).2
 .intro b hb;refine⟨jg (hlt b hb),λx c e z=>?_⟩;rcases Cw S I.ok e with a|a
  .exact absurd (lt_trans (ho x c a).2 (by rw[z];exact hlt b hb)) (jM _)
  .exact(hex b hb).2.2.2.2.1 x c a z
 .intro b o e hb;rcases(hex b hb).2.2.2.1 with z|z
  .exact I.ok.noex b o e z
  .exact absurd (jn (Heap.lt_size (I.ok.bs b o e).1) z) (jM _)
 .intro b hb hf;rcases mem_cons.mp (I.stkSub b hf)with z|z
  .exact(hex b hb).2.1 z
  .exact(hex b hb).2.2.1 z
 .intro i x v e1 e2 e3;have e1:(loc++fr)[i]?=some x:=e1;unfold GM at e2;by_cases hi:i<loc.length
  .rw[List.getElem?_append_left (by simpa using hi),List.getElem?_replicate]at e2;split at e2<;>cases e2
  .have hi':loc.length<=i:=not_lt.mp hi;rw[List.getElem?_append_right (by simpa using hi')]at e2;rw[List.getElem?_append_right hi']at e1;rw[List.length_replicate,List.getElem?_map]at e2;generalize hj:i-loc.length=j at e1 e2;have e4:(fr.map some)[j]?=some (some x):=by rw[List.getElem?_map,e1];rfl
   rw[S.ixs,List.getElem?_map]at e4;cases q:ix[j]? with
   |none=>rw[q]at e2;cases e2
   |some k=>
    rw[q]at e2 e4;have e2:(σ[k]?).join=some v:=Option.some.inj e2;have e4:X.N[k]?=some x:=Option.some.inj e4;have e5:σ[k]?=some (some v):=by
     cases w:σ[k]? with
     |none=>rw[w]at e2;cases e2
     |some z=>rw[w]at e2;simpa using e2
    have hfx:=all_eq_true.mp S.frs x (jt e1);have hfx:scope.names.lookup x=some .free:=by simpa using hfx
    have hmem:=PySem.mem_of_lookup hfx;have hout:=S.outer hmem rfl;obtain⟨m,hm,hl⟩:=I.loc;obtain⟨u,r,l⟩:=hl k x v e4 e5 (.inr hout);refine⟨u,r,.inr ⟨GQ hfx,?_⟩⟩;rcases l with⟨kk,_⟩|⟨kk,c,ec,z⟩
    .rcases hout with w|w
     .rw[kk]at w;cases w
     .rw[kk]at w;cases w
    .have own0:(CM (s.heap.objs.size+1) scope.names).lookup x=none:=by
      cases w:(CM (s.heap.objs.size+1) scope.names).lookup x with
      |none=>rfl
      |some d=>exact absurd (KM S.nd (IM _ _ _ _ w) hmem) (by decide)
     have hc:(B7 X.env.cells scope.names []).lookup x=some c:=by
      obtain⟨d,hd⟩:=isSome_iff_exists.mp (ED (cells:=X.env.cells) (acc:=[]) (.inr hmem));have:=EC (S.clos I.ok) (λ_ _ z=>by simp at z) x d hd;rw[ec]at this;cases this;exact hd
     refine⟨c,?_,z.keeps hk⟩;show(cellsFrom (s.heap.objs.size+1) scope.names (B7 X.env.cells scope.names [])).lookup x=some c;rw[Bk,jY,own0,hc];rfl
 .intro x c e;rcases Cw S I.ok e with a|a
  .exact⟨_,(ho x c a).1⟩
  .obtain⟨v,z⟩:=I.cell x c a;exact⟨v,z.keeps hk⟩
 .intro x c e;rcases Cw S I.ok e with a|a
  .exact I.hok.fresh (le_of_lt (ho x c a).2)
  .exact I.freeC x c a
 .intro p hp;cases hp
 .unfold GM;show _=(loc++fr).length;simp[lenix]
end
section
variable{R:Result->Shared->Prop}
def HE{iter:Expr}(I:Nat->Shared->Prop)
 (turn:∀n s,I n s->wpAny (model prog w) A (pyNext it) (λr s₁=>match r with
  |none=>R (.ok .next) s₁
  | some v=>wpAny (model prog w) A (letOwnedTupleGo target it v) (λ_ s₁=>wpAny (model prog w) A (assign target env v) (λ_ s₂=>
   wpAny (model prog w) A (forIn ifs true λc r=>if r=true then do let ok <- isTrue c env (eval c env);pure (ForInStep.yield ok)else pure (ForInStep.yield r)) (λok s₃=>
    if ok=true then wpAny (model prog w) A (eval elt env) (λx s₄=>
     wpAny (model prog w) A (call (.builtin "list.append") [acc,x]) (λ_ s₅=>∃m,m<n/\I m s₅) (λ_ _=>False) s₄) (λ_ _=>False) s₃
    else ∃m,m<n/\I m s₃) (λ_ _=>False) s₂) (λ_ _=>False) s₁) (λ_ _=>False) s₁) (λ_ _=>False) s)
 (n:Nat) (h:I n s):
 codeAny (model prog w) A (.compLoop (.ListComp elt [⟨target,iter,ifs,0⟩] scope pos) 0 it acc env) R s:=by
 refine codeAny_loop rfl I (λn s hI=>?_) n h;show wpAny _ A ((compTurn (.ListComp elt [⟨target,iter,ifs,0⟩] scope pos) 0 it acc env).onRaise (λx=>do noteFrame x env;theTreesLotGoes x)) _ _ s;refine wpAny_noted ?_;rw[compTurn_list];refine j8 (k8 (j8 (jo (turn n s hI) (λr s₁ h₁=>?_) λ_ _ h'=>h'.elim)));cases r with
 |none=>exact jb h₁
 |some v=>
  refine j8 (jo h₁ (λ_ s₁ h₁=>?_) λ_ _ h'=>h'.elim);refine j8 (jo h₁ (λ_ s₂ h₂=>j8 (jo h₂ (λok s₃ h₃=>?_) λ_ _ h'=>h'.elim)) λ_ _ h'=>h'.elim);cases ok with
  |false=>exact jb ⟨rfl,h₃⟩
  |true=>
   exact j8 (j8 (jo h₃ (λx s₄ h₄=>j8 (jo h₄ (λ_ s₅ h₅=>jb (jb ⟨rfl,h₅⟩)) λ_ _ h'=>h'.elim)) λ_ _ h'=>h'.elim))
end
def PF(X:Cx)(ifs:List Expr)(t:TT):Prop:=
 ∀(O:List (Addr×Obj)) (s:Shared) (σ:St) (H:Hp) (Q:Bool->Hp->Prop),Inv X O σ H s->t σ H Q ->
   wpAny (model X.prog X.w) X.A (forIn ifs true λc r=>if r=true then do let ok <- isTrue c X.env (eval c X.env);pure (ForInStep.yield ok)else pure (ForInStep.yield r)) (TP X O σ Q) X.xe s
noncomputable def TQ:TT:=λ_ H Q=>Q true H
def bx:PF X [] TQ:=λO s σ H Q I h=>wpAny_tests_nil ⟨H,I,h⟩
def bw(h:PT X c t):PF X [c] t:=λO s σ H Q I q=>wpAny_tests_one (h O s σ H Q I q)
def WN(J:It)(D:Addr)(σ0:St)(H0:Hp)(g:TG)(tf:TT)(te:TE)(Q:VK):Prop:=∃W:Nat->Nat->St->List V->Hp->Prop,
 (∃m,W 0 m σ0 [] (upd H0 D (.lst [])))/\∀i m σ ys H,W i m σ ys H->H D=some (.lst ys)/\
  ((J.stop i H/\Q (.ref D) H)∨(J.go i H/\ys.length<sizeLine/\∃N:St->List V->Hp->Prop,(∀σ' ys' H',N σ' ys' H'->∃m',m'<m/\W (i+1) m' σ' ys' H')/\
    ∀x H',J.yld i H x H'->g x σ H' λσ2 H2=>tf σ2 H2 λb H3=>
     if b=true then te σ2 H3 λv H4=>H4 D=some (.lst ys)/\N σ2 (ys++[v]) (upd H4 D (.lst (ys++[v])))
     else N σ2 ys H3))
noncomputable def Fg(n:Nat)(ix:List Nat)(wi:TI)(g:TG)(tf:TT)(te:TE):TE:=λσ H Q=>wi σ H λJ H1=>∀D,H1 D=none->WN J D (GM n ix σ) H1 g tf te Q
section
def Sw{D:Addr}{Q:Value->Shared->Prop}{E:Value->Shared->Prop}(I:Inv X O σ H s)(hD:H D=some (.lst ys))(r:RelV x u)(hz:ys.length<sizeLine)
 (h:∀v s',Inv X O σ (upd H D (.lst (ys++[x]))) s'->Q v s'):wpAny (model X.prog X.w) X.A (call (.builtin "list.append") [.ref D,u]) Q E s:=by
 have I':=I.wish λ_ _=>False;have q:=KN (X:=X.wish λ_ _=>False) O s σ H (.ref D) [x] (.ref D) [u] (λv H'=>H'=upd H D (.lst (ys++[x]))) I' rfl (.cons r .nil) ⟨D,ys,x,rfl,rfl,hD,hz,rfl⟩;refine jo q (λv s' ⟨v',H',I2,_,e⟩=>?_) λ_ _ z=>False.elim z;subst e;exact h v s' I2.unwish
def YV{iter:Expr}(hc:X.calm=true)(S:CSc X scope fr ix)(hi:PI X tg iter wi)
 (hg:∀s H ex,PG (cCx X (loc++fr) scope s H ex) tg g) (hf:∀s H ex,PF (cCx X (loc++fr) scope s H ex) ifs tf) (he:∀s H ex,PE (cCx X (loc++fr) scope s H ex) elt te)
 (hs:∀x,foldedSetIterable iter X.env x=pure x:=by intro _;rfl):PE X (.ListComp elt [⟨tg,iter,ifs,0⟩] scope pos) (Fg loc.length ix wi g tf te):=by
 intro O s σ H Q I h;rw[eval_ListComp];have hnames:∀y∈scope.names,y.2=.local->scope.names.lookup y.1=some .local:=λy hy e=>by
  have:=all_eq_true.mp S.loc y hy;rw[e]at this;simpa using this
 refine kH (use:=none) rfl hs (E4 (S.clos I.ok)) S.kind hnames (thn (hi O s σ H _ I h) λv s1 h1=>thn h1 λitv s2 h2=>?_);obtain⟨it,fp,tn,J,H2,rfl,I2,T,st2,f2,hW⟩:=h2;refine jG ?_;have fresh2:H2 s2.heap.objs.size=none:=I2.hok.fresh (jc _);have I3:=I2.lnew (its:=[]) (ys:=[]) (t':=s2.toks) .nil (jU _);obtain⟨W,⟨m0,w0⟩,turn⟩:=hW s2.heap.objs.size fresh2;have lt2:∀b∈fp,b<s2.heap.objs.size:=λb hb=>let ⟨o,e,_⟩:=T.obj 0 _ st2 b hb;Heap.lt_size e
 have f3:∀b∈fp,CD X O (upd H2 s2.heap.objs.size (.lst [])) b:=λb hb=>⟨by rw[AD (jg (lt2 b hb))];exact(f2 b hb).1,(f2 b hb).2⟩
 have lt3:∀b∈fp,b<(s2.heap.push { cls:=.type "list",data:=.seq ([]:List Value).toArray }).objs.size:=λb hb=>by rw[Heap.size_push];exact kf (lt2 b hb)
 generalize hs3:({ s2 with heap:=s2.heap.push { cls:=.type "list",data:=.seq ([]:List Value).toArray } }:Shared)=s3 at *;have lt3:∀b∈fp,b<s3.heap.objs.size:=by rw[<- hs3];exact lt3
 have st3:tn 0 s3.heap:=T.keep _ _ _ st2 λb hb o e=>by rw[<- hs3];exact Heap.get?_push_of_some _ e
 refine Jq λh' hk hn ho ha=>?_;have I4:=IR (loc:=loc) S I3 f3 hk hn ho ha lt3;have fpX:∀{H':Hp},(∀b∈fp,H' b=none)->∀b∈fp,CD (cCx X (loc++fr) scope s3 (upd H2 s2.heap.objs.size (.lst [])) fp) [] H' b:=λhn b hb=>
  ⟨hn b hb,(I4.ok.exf b hb).1,I4.ok.exfs b hb,.inl hb,(I4.ok.exf b hb).2,λp hp=>by cases hp⟩
 have loop:codeAny (model X.prog X.w) X.A (.compLoop (.ListComp elt [⟨tg,iter,ifs,0⟩] scope pos) 0 (.ref it) (.ref s2.heap.objs.size) (Q3 scope s3.heap.objs.size X.env))
  (compPost (model X.prog X.w) X.A X.xe none (EP X O σ Q) (.ref s2.heap.objs.size) s3.heap.objs.size) { s3 with heap:=h' }:=by
  refine HE (λn s'=>∃i σ' ys H',Inv (cCx X (loc++fr) scope s3 (upd H2 s2.heap.objs.size (.lst [])) fp) [] σ' H' s'/\tn i s'.heap/\(∀b∈fp,H' b=none)/\W i n σ' ys H') ?_ m0
   ⟨0,_,[],_,I4,T.keep _ _ _ st3 λb hb o e=>hk b o e,λb hb=>(f3 b hb).1,w0⟩
  rintro n s5 ⟨i,σ5,ys,H5,I5,st5,fr5,w5⟩;obtain⟨hD,w5⟩:=turn i n σ5 ys H5 w5;rcases w5 with⟨stop,qn⟩|⟨go,hz,N,hN,step⟩
  .refine thn (T.done (cCx X (loc++fr) scope s3 (upd H2 s2.heap.objs.size (.lst [])) fp) rfl rfl rfl hc i [] s5 σ5 H5 _ I5 (fpX fr5) st5 stop) λr s6 ⟨hr,I6⟩=>?_;subst hr;obtain⟨m,hm,_⟩:=I6.loc;refine⟨m,hm,λh'' hs=>?_⟩;have neC:∀b o,s3.heap.get? b=some o->b≠s3.heap.objs.size:=λb o e=>jg (Heap.lt_size e);have un:=I6.base;refine⟨.ref s2.heap.objs.size,H5,I3.call' (s':={ s6 with heap:=h'' }) (ch:=fp) I6.os ⟨λb o e n hb hx=>?_,λb o e n hb hx=>?_,un.free,λb o e hx=>?_,un.tups,un.frzs,un.tbls⟩ ?_ I6.bare ?_,rfl,qn⟩
   .exact(hs.2 b (neC b o e)).trans (un.keep b o e n hb hx)
   .obtain⟨sl,q⟩:=un.slot b o e n hb hx;exact⟨sl,(hs.2 b (neC b o e)).trans q⟩
   .obtain⟨o',q⟩:=un.there b o e hx;exact⟨o',(hs.2 b (neC b o e)).trans q⟩
   .intro b ob e;have hfree:H5 s3.heap.objs.size=none:=I6.free;refine(I6.hok b ob e).stay (λc w' hc q=>(hs.2 c ?_).trans q) (λ_ q=>q) λ_ _ q=>q;intro z;rcases hc with hc|hc
    .rw[<- hc,z,hfree]at e;cases e
    .rw[z,hfree]at hc;cases hc
   .intro b hb;obtain⟨_,a2,_,a4,a5,a6⟩:=f3 b hb;exact⟨a4,a2,a5,a6⟩
  .refine thn (T.item (cCx X (loc++fr) scope s3 (upd H2 s2.heap.objs.size (.lst [])) fp) rfl rfl rfl hc i [] s5 σ5 H5 _ I5 (fpX fr5) st5 go) λr s6 ⟨u,hr,h6⟩=>?_;subst hr;refine thn h6 λ_ s7 ⟨x,H7,I7,r7,y7,st7,fr7⟩=>?_;have I7':=I7.pinned (fpX fr7) (T.obj _ _ st7);have keepI:∀{σ8:St} {H8:Hp} {s8:Shared},Inv (cCx X (loc++fr) scope s3 (upd H2 s2.heap.objs.size (.lst [])) fp) ([]++Du fp s7.heap) σ8 H8 s8->tn (i+1) s8.heap/\∀b∈fp,H8 b=none:=λ{σ8 H8 s8} I8=>by
    refine⟨T.keep _ _ _ st7 λb hb o e=>(I8.pin (b,o) (jl _ (jl _ (BN hb e)))).1,λb hb=>?_⟩;obtain⟨o,e,d⟩:=T.obj _ _ st7 b hb;exact(I8.pin (b,o) (jl _ (jl _ (BN hb e)))).2.1
   refine thn (hg s3 (upd H2 s2.heap.objs.size (.lst [])) fp _ s7 σ5 H7 x u _ I7' r7 (step x H7 y7)) λ_ s8 ⟨σ8,H8,I8,q8⟩=>?_;refine thn (hf s3 (upd H2 s2.heap.objs.size (.lst [])) fp _ s8 σ8 H8 _ I8 q8) λb s9 ⟨H9,I9,q9⟩=>?_;cases b with
   |false=>
    rw[ja Bool.false_ne_true]at q9 ⊢;obtain⟨m',hm,w9⟩:=hN _ _ _ q9;exact⟨m',hm,i+1,σ8,ys,H9,I9.unpinned,(keepI I9).1,(keepI I9).2,w9⟩
   |true=>
    rw[j9 rfl]at q9 ⊢;refine thn (he s3 (upd H2 s2.heap.objs.size (.lst [])) fp _ s9 σ8 H9 _ I9 q9) λe10 s10 ⟨v10,H10,I10,r10,hD10,n10⟩=>?_;obtain⟨m',hm,w10⟩:=hN _ _ _ n10;refine Sw (X:=cCx X (loc++fr) scope s3 (upd H2 s2.heap.objs.size (.lst [])) fp) I10 hD10 r10 hz λ_ s11 I11=>?_;exact⟨m',hm,i+1,σ8,_,_,I11.unpinned,(keepI I11).1,(keepI I11).2,w10⟩
 exact codeAny_compStart_list loop (T.self X.A 0 _ _ _ (T.keep _ _ _ st3 λb hb o e=>hk b o e) loop)
end
section
variable{X:Cx}
def Pu{iter:Expr}{tn:Nat->Heap->Prop}{E:Value->Shared->Prop}
 {RR:Value->Addr->Result->Shared->Prop} (hc:X.calm=true) (S:CSc X scope fr ix)
 (hg:∀s H ex,PG (cCx X (loc++fr) scope s H ex) tg g) (hf:∀s H ex,PF (cCx X (loc++fr) scope s H ex) ifs tf) (he:∀s H ex,PE (cCx X (loc++fr) scope s H ex) elt te)
 (I2:Inv X O σ H2 s2) (T:Turn X.prog X.w X.K tg J fp it tn) (st2:tn 0 s2.heap) (f2:∀b∈fp,CD X O H2 b) (hW:∀D,H2 D=none->WN J D (GM loc.length ix σ) H2 g tf te Q)
 (hfin:∀(s3 s6:Shared) (H5:Hp) (σ5:St) (D:Addr),Inv X O σ (upd H2 D (.lst [])) s3->Inv (cCx X (loc++fr) scope s3 (upd H2 D (.lst [])) fp) [] σ5 H5 s6->(∀b∈fp,CD X O (upd H2 D (.lst [])) b)->Q (.ref D) H5->RR (.ref D) s3.heap.objs.size (.ok .next) s6):
 wpAny (model X.prog X.w) X.A (newList []) (λacc s₃=>wpAny (model X.prog X.w) X.A (newFunctionEnv scope X.env.globals (B7 X.env.cells scope.names []) [] X.env.qual none .none (some X.env)) (λcenv s₄=>
  codeAny (model X.prog X.w) X.A (.compStart (.ListComp elt [⟨tg,iter,ifs,0⟩] scope pos) 0 (.ref it) acc { cenv with scope:=relabel scope X.env }) (RR acc cenv.locals) s₄) E s₃) E s2:=by
 refine jG ?_;have fresh2:H2 s2.heap.objs.size=none:=I2.hok.fresh (jc _);have I3:=I2.lnew (its:=[]) (ys:=[]) (t':=s2.toks) .nil (jU _);obtain⟨W,⟨m0,w0⟩,turn⟩:=hW s2.heap.objs.size fresh2;have lt2:∀b∈fp,b<s2.heap.objs.size:=λb hb=>let ⟨o,e,_⟩:=T.obj 0 _ st2 b hb;Heap.lt_size e
 have f3:∀b∈fp,CD X O (upd H2 s2.heap.objs.size (.lst [])) b:=λb hb=>⟨by rw[AD (jg (lt2 b hb))];exact(f2 b hb).1,(f2 b hb).2⟩
 have lt3:∀b∈fp,b<(s2.heap.push { cls:=.type "list",data:=.seq ([]:List Value).toArray }).objs.size:=λb hb=>by rw[Heap.size_push];exact kf (lt2 b hb)
 generalize hs3:({ s2 with heap:=s2.heap.push { cls:=.type "list",data:=.seq ([]:List Value).toArray } }:Shared)=s3 at *;have lt3:∀b∈fp,b<s3.heap.objs.size:=by rw[<- hs3];exact lt3
 have st3:tn 0 s3.heap:=T.keep _ _ _ st2 λb hb o e=>by rw[<- hs3];exact Heap.get?_push_of_some _ e
 refine Jq λh' hk hn ho ha=>?_;have I4:=IR (loc:=loc) S I3 f3 hk hn ho ha lt3;have fpX:∀{H':Hp},(∀b∈fp,H' b=none)->∀b∈fp,CD (cCx X (loc++fr) scope s3 (upd H2 s2.heap.objs.size (.lst [])) fp) [] H' b:=λhn b hb=>
  ⟨hn b hb,(I4.ok.exf b hb).1,I4.ok.exfs b hb,.inl hb,(I4.ok.exf b hb).2,λp hp=>by cases hp⟩
 have loop:codeAny (model X.prog X.w) X.A (.compLoop (.ListComp elt [⟨tg,iter,ifs,0⟩] scope pos) 0 (.ref it) (.ref s2.heap.objs.size) (Q3 scope s3.heap.objs.size X.env))
  (RR (.ref s2.heap.objs.size) s3.heap.objs.size) { s3 with heap:=h' }:=by
  refine HE (λn s'=>∃i σ' ys H',Inv (cCx X (loc++fr) scope s3 (upd H2 s2.heap.objs.size (.lst [])) fp) [] σ' H' s'/\tn i s'.heap/\(∀b∈fp,H' b=none)/\W i n σ' ys H') ?_ m0
   ⟨0,_,[],_,I4,T.keep _ _ _ st3 λb hb o e=>hk b o e,λb hb=>(f3 b hb).1,w0⟩
  rintro n s5 ⟨i,σ5,ys,H5,I5,st5,fr5,w5⟩;obtain⟨hD,w5⟩:=turn i n σ5 ys H5 w5;rcases w5 with⟨stop,qn⟩|⟨go,hz,N,hN,step⟩
  .refine thn (T.done (cCx X (loc++fr) scope s3 (upd H2 s2.heap.objs.size (.lst [])) fp) rfl rfl rfl hc i [] s5 σ5 H5 _ I5 (fpX fr5) st5 stop) λr s6 ⟨hr,I6⟩=>?_;subst hr;exact hfin s3 s6 H5 σ5 s2.heap.objs.size I3 I6 f3 qn
  .refine thn (T.item (cCx X (loc++fr) scope s3 (upd H2 s2.heap.objs.size (.lst [])) fp) rfl rfl rfl hc i [] s5 σ5 H5 _ I5 (fpX fr5) st5 go) λr s6 ⟨u,hr,h6⟩=>?_;subst hr;refine thn h6 λ_ s7 ⟨x,H7,I7,r7,y7,st7,fr7⟩=>?_;have I7':=I7.pinned (fpX fr7) (T.obj _ _ st7);have keepI:∀{σ8:St} {H8:Hp} {s8:Shared},Inv (cCx X (loc++fr) scope s3 (upd H2 s2.heap.objs.size (.lst [])) fp) ([]++Du fp s7.heap) σ8 H8 s8->tn (i+1) s8.heap/\∀b∈fp,H8 b=none:=λ{σ8 H8 s8} I8=>by
    refine⟨T.keep _ _ _ st7 λb hb o e=>(I8.pin (b,o) (jl _ (jl _ (BN hb e)))).1,λb hb=>?_⟩;obtain⟨o,e,d⟩:=T.obj _ _ st7 b hb;exact(I8.pin (b,o) (jl _ (jl _ (BN hb e)))).2.1
   refine thn (hg s3 (upd H2 s2.heap.objs.size (.lst [])) fp _ s7 σ5 H7 x u _ I7' r7 (step x H7 y7)) λ_ s8 ⟨σ8,H8,I8,q8⟩=>?_;refine thn (hf s3 (upd H2 s2.heap.objs.size (.lst [])) fp _ s8 σ8 H8 _ I8 q8) λb s9 ⟨H9,I9,q9⟩=>?_;cases b with
   |false=>
    rw[ja Bool.false_ne_true]at q9 ⊢;obtain⟨m',hm,w9⟩:=hN _ _ _ q9;exact⟨m',hm,i+1,σ8,ys,H9,I9.unpinned,(keepI I9).1,(keepI I9).2,w9⟩
   |true=>
    rw[j9 rfl]at q9 ⊢;refine thn (he s3 (upd H2 s2.heap.objs.size (.lst [])) fp _ s9 σ8 H9 _ I9 q9) λe10 s10 ⟨v10,H10,I10,r10,hD10,n10⟩=>?_;obtain⟨m',hm,w10⟩:=hN _ _ _ n10;refine Sw (X:=cCx X (loc++fr) scope s3 (upd H2 s2.heap.objs.size (.lst [])) fp) I10 hD10 r10 hz λ_ s11 I11=>?_;exact⟨m',hm,i+1,σ8,_,_,I11.unpinned,(keepI I11).1,(keepI I11).2,w10⟩
 exact codeAny_compStart_list loop (T.self X.A 0 _ _ _ (T.keep _ _ _ st3 λb hb o e=>hk b o e) loop)
def Ng(I3:Inv X O σ H3 s3)(I6:Inv (cCx X N' scope s3 H3 fp) [] σ5 H5 s6)(f3:∀b∈fp,CD X O H3 b)
 (hs:Heap.SameBut s3.heap.objs.size s6.heap h''):Inv X O σ H5 { s6 with heap:=h'' }:=by
 have neC:∀b o,s3.heap.get? b=some o->b≠s3.heap.objs.size:=λb o e=>jg (Heap.lt_size e);have un:=I6.base;refine I3.call' (s':={ s6 with heap:=h'' }) (ch:=fp) I6.os ⟨λb o e n hb hx=>?_,λb o e n hb hx=>?_,un.free,λb o e hx=>?_,un.tups,un.frzs,un.tbls⟩ ?_ I6.bare ?_
 .exact(hs.2 b (neC b o e)).trans (un.keep b o e n hb hx)
 .obtain⟨sl,q⟩:=un.slot b o e n hb hx;exact⟨sl,(hs.2 b (neC b o e)).trans q⟩
 .obtain⟨o',q⟩:=un.there b o e hx;exact⟨o',(hs.2 b (neC b o e)).trans q⟩
 .intro b ob e;have hfree:H5 s3.heap.objs.size=none:=I6.free;refine(I6.hok b ob e).stay (λc w' hc q=>(hs.2 c ?_).trans q) (λ_ q=>q) λ_ _ q=>q;intro z;rcases hc with hc|hc
  .rw[<- hc,z,hfree]at e;cases e
  .rw[z,hfree]at hc;cases hc
 .intro b hb;obtain⟨_,a2,_,a4,a5,a6⟩:=f3 b hb;exact⟨a4,a2,a5,a6⟩
def YH{i:Nat}{iter:Expr}{spos:Pos}(hN:X.N.Nodup)(hiN:X.N[i]?=some y)(hy:X.env.scope.names.lookup y=some .local)
 (hc:X.calm=true) (S:CSc X scope fr ix) (hi:PI X tg iter wi)
 (hg:∀s H ex,PG (cCx X (loc++fr) scope s H ex) tg g) (hf:∀s H ex,PF (cCx X (loc++fr) scope s H ex) ifs tf) (he:∀s H ex,PE (cCx X (loc++fr) scope s H ex) elt te)
 (hsw:swapsWith (.ListComp elt [⟨tg,iter,ifs,0⟩] scope pos) (some (.Name y py)) spos.line X.env=pure true:=by rfl) (hs:∀x,foldedSetIterable iter X.env x=pure x:=by intro _;rfl):
 PS X (.Assign [.Name y py] (.ListComp elt [⟨tg,iter,ifs,0⟩] scope pos) spos) (Eu (Fg loc.length ix wi g tf te) (Dk i)):=by
 intro O s σ H D I h;have hnames:∀y∈scope.names,y.2=.local->scope.names.lookup y.1=some .local:=λy hy e=>by
  have:=all_eq_true.mp S.loc y hy;rw[e]at this;simpa using this
 rw[exec_Assign_Name_used _ _ _ _ hsw];refine j8 (k8 (j8 ?_));show wpAny _ _ (do let _ <- comprehension (.ListComp elt [⟨tg,iter,ifs,0⟩] scope pos) scope X.env _ (newList []) false (eval iter X.env) (some (assign (.Name y py) X.env))) _ _ s;refine j8 (jo (kH (use:=some (assign (.Name y py) X.env)) (Q:=λ_ s'=>SP X O D .next s') rfl hs (E4 (S.clos I.ok)) S.kind hnames
  (thn (hi O s σ H _ I h) λv s1 h1=>thn h1 λitv s2 h2=>?_)) (λ_ s' hq=>jb (jb hq)) λ_ _ e=>e)
 obtain⟨it,fp,tn,J,H2,rfl,I2,T,st2,f2,hW⟩:=h2;refine Pu (RR:=λacc C=>compPost (model X.prog X.w) X.A X.xe (some (assign (.Name y py) X.env)) (λ_ s'=>SP X O D .next s') acc C) hc S hg hf he I2 T st2 f2 hW λs3 s6 H5 σ5 L I3 I6 f3 q=>?_;have J6:Inv X O σ H5 s6:=Ng (h'':=s6.heap) I3 I6 f3 (.refl ..);obtain⟨m,hm,_⟩:=I6.loc;have hm:s6.heap.Ns s3.heap.objs.size m:=hm;have hL:s3.heap.objs.size≠X.env.locals:=Ne.symm (jg I3.lt);show wpAny _ _ (assign (.Name y py) X.env (.ref L)) _ _ s6;refine wpAny_assign_Name (KC (v:=.ref L) J6 hN hiN (.inl hy) rfl (λs7 I7 ⟨a,sb,ha⟩=>?_) (.inr hy));have hca:s3.heap.objs.size≠a:=by
  rcases ha with rfl|ha
  .exact hL
  .obtain⟨v,z⟩:=I3.cell y a ha;exact Ne.symm (jg z.lt)
 refine⟨m,hm.sameBut sb hca,λh' hs'=>?_⟩;refine⟨_,H5,I7.turned (t':=s7.toks) (it:=s3.heap.objs.size) (λb o hb e=>(hs'.2 b hb).trans e) I6.free hL (.inr I3.sz) (λx c e z=>?_) (λp hp z=>?_),q⟩
 .obtain⟨v,w⟩:=I3.cell x c e;exact absurd w.lt (by rw[z];exact jM _)
 .exact absurd (Heap.lt_size (I3.pin p hp).1) (by rw[z];exact jM _)
end
mutual
noncomputable def Rep(K:Frag)(H:Hp):PyData->V->Prop
 |.none,v=>v=.non
 |.bool b,v=>v=.bl b
 |.int i,v=>v=.int i
 |.str x,v=>v=.str x
 |.list ds,v=>∃a xs,v=.ref a/\SqL K H a xs/\Bc K H ds xs
 |.tuple ds,v=>∃a xs,v=.ref a/\SqT K H a xs/\Bc K H ds xs
 |.dict _,_=>False
noncomputable def Bc(K:Frag)(H:Hp):List PyData->List V->Prop
 |[],xs=>xs=[]
 |d::ds,xs=>∃x r,xs=x::r/\Rep K H d x/\Bc K H ds r
end
section
mutual
theorem D8(I:Inv X O σ H s):∀(d:PyData) (v:V) (u:Value),Rep X.K H d v->RelV v u->∃as,Reads s.heap u d as
 |.none,v,u,h,r=>by
  have h:v=.non:=by simpa only[Rep]using h
  subst h;cases r;exact⟨_,.none⟩
 |.bool b,v,u,h,r=>by
  have h:v=.bl b:=by simpa only[Rep]using h
  subst h;cases r;exact⟨_,.bool b⟩
 |.int i,v,u,h,r=>by
  have h:v=.int i:=by simpa only[Rep]using h
  subst h;obtain⟨t,rfl⟩:=r;exact⟨_,.int i t⟩
 |.str x,v,u,h,r=>by
  have h:v=.str x:=by simpa only[Rep]using h
  subst h;obtain⟨t,rfl⟩:=r;exact⟨_,.str x t⟩
 |.list ds,v,u,h,r=>by
  have h:∃a xs,v=.ref a/\SqL X.K H a xs/\Bc X.K H ds xs:=by simpa only[Rep]using h
  obtain⟨a,xs,rfl,hq,ha⟩:=h;cases r;obtain⟨its,rv,⟨o,n,e,c,_,dd⟩,hz⟩:=I.list hq;obtain⟨as,q⟩:=ER I ds xs its ha rv;exact⟨_,.list e c dd (by simpa using q)⟩
 |.tuple ds,v,u,h,r=>by
  have h:∃a xs,v=.ref a/\SqT X.K H a xs/\Bc X.K H ds xs:=by simpa only[Rep]using h
  obtain⟨a,xs,rfl,hq,ha⟩:=h;cases r;obtain⟨its,rv,⟨o,e,c,n,dd⟩,hz⟩:=I.tuple hq;obtain⟨as,q⟩:=ER I ds xs its ha rv;exact⟨_,.tuple e c dd (by simpa using q)⟩
 |.dict _,v,u,h,r=>by
  have h:False:=by simpa only[Rep]using h
  exact h.elim
theorem ER(I:Inv X O σ H s):∀(ds:List PyData) (xs:List V) (us:List Value),Bc X.K H ds xs->Vals xs us->∃as,ReadsAll s.heap us ds as
 |[],xs,us,h,r=>by
  have h:xs=[]:=by simpa only[Bc]using h
  subst h;cases r;exact⟨_,.nil⟩
 |d::ds,xs,us,h,r=>by
  have h:∃x r,xs=x::r/\Rep X.K H d x/\Bc X.K H ds r:=by simpa only[Bc]using h
  obtain⟨x,rr,rfl,h1,h2⟩:=h;cases r with
  |cons r1 r2=>
   obtain⟨as,q1⟩:=D8 I d _ _ h1 r1;obtain⟨bs,q2⟩:=ER I ds _ _ h2 r2;exact⟨_,.cons q1 q2⟩
end
end
noncomputable def Stb:HO->Prop
 |.tup _=>True
 |.frz _ _=>True
 |.ext _=>True
 |.xd _=>True
 |_=>False
structure Grow(H H':Hp):Prop where
 keep:∀b o,Stb o->H b=some o->H' b=some o
theorem Grow.tup(g:Grow H H'):∀b xs,H b=some (.tup xs)->H' b=some (.tup xs):=λb _ h=>g.keep b _ trivial h
theorem Grow.frz(g:Grow H H'):∀b o u,H b=some (.frz o u)->H' b=some (.frz o u):=λb _ _ h=>g.keep b _ trivial h
def Grow.refl:Grow H H:=⟨λ_ _ _ h=>h⟩
def Chg(H:Hp)(p:Addr):Prop:=∀o,Stb o->H p≠some o
def Grow.put(a:Grow H H')(h:Chg H' p):Grow H (upd H' p o):=⟨λc u s e=>by
 have q:=a.keep c u s e;have n:c≠p:=λz=>h u s (by rw[<- z];exact q);rw[AD n];exact q⟩
theorem Chg.lst(h:H p=some (.lst xs)):Chg H p:=λo s e=>by rw[h]at e;cases e;exact s
def Grow.sq{K:Frag}(g:Grow H H')(h:SqT K H a xs):SqT K H' a xs:=by
 rcases h with(h|⟨o,h⟩)|h
 .exact .inl (.inl (g.tup _ _ h))
 .exact .inl (.inr ⟨o,g.frz _ _ _ h⟩)
 .exact .inr h
section
variable{X:Cx}
def Ky(K:Frag):List V->Hp->VK->Prop:=λxs H Q=>∃x d,xs=[x]/\Rep K H d x/\d.showable=true/\d.hasDict=false/\isDisplay d=true/\d.depth<=30/\d.shown.length<=sizeLine/\Q (.str d.shown) H
def Px(hg:X.A.guards=some [])(hu:X.A.units+64<cLine):CallR X (.builtin "repr") (Ky X.K):=by
 intro O s σ H xs us Q I r h;obtain⟨x,d,rfl,hr,hs,hd,hi,hdep,hsz,q⟩:=h;obtain⟨u,rfl,ru⟩:=BK r;obtain⟨as,hR⟩:=D8 I d x u hr ru;obtain⟨a,rfl⟩:=isRef_of_reads hR hi;exact repr_of_reads' hR hs (PyData.noDict_hsm hd) hg (by omega) (λ_ _ e=>e) (λh' u tk hk=>⟨.str d.shown,H,I.kept hk,⟨_,rfl⟩,q⟩) hsz
def Pw:CallR X (.builtin "repr") (λxs H Q=>∃i,xs=[.int i]/\i.natAbs.log2<1920/\Q (.str (toString i)) H):=by
 intro O s σ H xs us Q I r h;obtain⟨i,rfl,hi,q⟩:=h;obtain⟨u,rfl,ru⟩:=BK r;obtain⟨t,rfl⟩:=ru;exact PySem.P.repr_of_int hi ⟨.str (toString i),H,I.tok _,⟨_,rfl⟩,q⟩
noncomputable def UC(K:Frag):R2:=λx y H Q=>∃d e,Rep K H d x/\Rep K H e y/\d.canLay0=true/\e.canLay0=true/\min d.depth e.depth<=60/\Q (.bl (!PyData.eqv d e)) H
noncomputable def PL(K:Frag):R2:=λx y H Q=>∃d e,Rep K H d x/\Rep K H e y/\d.canLay0=true/\e.canLay0=true/\min d.depth e.depth<=60/\Q (.bl (PyData.eqv d e)) H
def cO(hu:X.A.units+64<cLine):OpR X (compareOp .NotEq) (UC X.K):=by
 intro O s σ H x y v u Q I rx ry h;obtain⟨d,e,h1,h2,c1,c2,hm,q⟩:=h;obtain⟨as,q1⟩:=D8 I d x v h1 rx;obtain⟨bs,q2⟩:=D8 I e y u h2 ry;exact PySem.SeqAt.compareNe_reads q1 q2 c1 c2 (by omega) ⟨.bl _,H,I,rfl,q⟩
def cS(hu:X.A.units+64<cLine):OpR X (compareOp .Eq) (PL X.K):=by
 intro O s σ H x y v u Q I rx ry h;obtain⟨d,e,h1,h2,c1,c2,hm,q⟩:=h;obtain⟨as,q1⟩:=D8 I d x v h1 rx;obtain⟨bs,q2⟩:=D8 I e y u h2 ry;exact PySem.SeqAt.compareEq_reads q1 q2 c1 c2 (by omega) ⟨.bl _,H,I,rfl,q⟩
theorem DW:∀{ns:List Int} {us:List Value},Vals (ns.map V.int) us->IntsAre us ns
 |[],_,.nil=>.nil
 |n::ns,_,.cons r t=>by obtain⟨k,rfl⟩:=r;exact .cons _ _ (DW t)
def Sh(hc:X.calm=true):CallR X (.builtin "sum") (λxs H Q=>∃(a:Addr) (ns:List Int),xs=[.ref a]/\SqL X.K H a (ns.map V.int)/\Q (.int ns.sum) H):=by
 intro O s σ H xs us Q I r h;obtain⟨a,ns,rfl,hq,q⟩:=h;obtain⟨u,rfl,ru⟩:=BK r;cases ru;obtain⟨its,rv,p,hz⟩:=I.list hq;have hi:=DW rv;obtain⟨xs,hx⟩:=hi.allInts.items;have hl':s.heap.IsList a (intItems xs):=hx ▸ p.isList;refine sum_intListG (I.ok.hd hc) hl' λh' tk t' hk=>?_;have e1:ns=xs.toList.map (·.1):=by
  rw[<- kD,<- hx];exact(show numsOf its.toArray.toList=ns from hi.numsOf).symm
 have e2:preSum (numAt xs) xs.size=ns.sum:=by
  rw[preSum_eq,jZ (by simp),e1]
 rw[e2];exact⟨.int ns.sum,H,I.kept hk,⟨_,rfl⟩,q⟩
end
end L2
namespace L2
open PySem PySem.Spec PyProof.Rows
section
variable(K:Frag){X:Cx}
def Ml(hK:X.K=K:=by rfl):IxR X (UE K):=by subst hK;exact Z1
def OI(hK:X.K=K:=by rfl):IxR X (UD K):=by subst hK;exact dD
def Td(hK:X.K=K:=by rfl):SlR X (PH K):=by subst hK;exact Ws
def Rq(hK:X.K=K:=by rfl):OpR X (compareOp .In) (rIn K false):=by subst hK;exact Rp
def Ro(hK:X.K=K:=by rfl):OpR X (compareOp .NotIn) (rIn K true):=by subst hK;exact MZ
def Jm(hu:X.A.units+64<cLine)(hK:X.K=K:=by rfl):OpR X (compareOp .Eq) (PL K):=by subst hK;exact cS hu
def OD(hu:X.A.units+64<cLine)(hK:X.K=K:=by rfl):OpR X (compareOp .NotEq) (UC K):=by subst hK;exact cO hu
def Ma(hK:X.K=K:=by rfl):OpR X (binaryOp .Add) (PN K):=by subst hK;exact Ye
def ao:List V->Hp->VK->Prop:=λxs H Q=>∃p ys,xs=[.ref p]/\(SqL K H p ys∨SqT K H p ys)/\Q (.int ys.length) H
def Sk(hK:X.K=K:=by rfl):CallR X (.builtin "len") (ao K):=by subst hK;exact NG
def FH:List V->Hp->VK->Prop:=λxs H Q=>∃p ys,xs=[.ref p]/\(SqL K H p ys∨SqT K H p ys)/\∀l,H l=none->Q (.ref l) (upd H l (.lst ys))
def JP(hK:X.K=K:=by rfl):CallR X (.type "list") (FH K):=by subst hK;exact NF
def MP:List V->Hp->VK->Prop:=λxs H Q=>∃p ys,xs=[.ref p]/\((SqL K H p ys/\∀l,H l=none->Q (.ref l) (upd H l (.tup ys)))∨(SqT K H p ys/\Q (.ref p) H))
def I0(hK:X.K=K:=by rfl):CallR X (.type "tuple") (MP K):=by subst hK;exact Kr
def IA(hg:X.A.guards=some [])(hu:X.A.units+64<cLine)(hK:X.K=K:=by rfl):CallR X (.builtin "repr") (Ky K):=by subst hK;exact Px hg hu
def Vw:List V->Hp->VK->Prop:=λxs H Q=>∃(a:Addr) (ns:List Int),xs=[.ref a]/\SqL K H a (ns.map V.int)/\Q (.int ns.sum) H
def Kd(hc:X.calm=true)(hK:X.K=K:=by rfl):CallR X (.builtin "sum") (Vw K):=by subst hK;exact Sh hc
def IL{tl:TE}(hl:PE X l tl)(hK:X.K=K:=by rfl):PI X tg l (G8 K tl):=by subst hK;exact YO hl
def OC{tl:TE}(hl:PE X l tl)(hK:X.K=K:=by rfl):PI X tg l (Mn K tl):=by subst hK;exact bq hl
def YR{pos:Pos}{k:Nat}{n:Nat}(hc:X.calm=true)(h:PGs X es t)(hK:X.K=K:=by rfl)
 (hn:(assignEach es X.env).length=n:=by rfl) (hst:(assignEach es X.env).findIdx? (·.1)=none:=by rfl):PG X (.Tuple es k pos) (Pm K n t):=by
 subst hK;exact br hc h hn hst
end
section
variable(K:Frag){X:Cx}
theorem Kj:∀{bs:List Bool} {us:List Value} {i:Nat} {v:Value},Vals (bs.map V.bl) us->us[i]?=some v->∃b,bs[i]?=some b/\v=.bool b
 |[],_,_,_,.nil,e=>by simp at e
 |b::bs,_,0,_,.cons r _,e=>by simp at e;subst e;exact⟨b,rfl,r⟩
 |b::bs,_,i+1,_,.cons _ t,e=>by
  obtain⟨c,h1,h2⟩:=Kj (i:=i) t (by simpa using e);exact⟨c,by simpa using h1,h2⟩
def ap:List V->Hp->VK->Prop:=λxs H Q=>∃(a:Addr) (bs:List Bool),xs=[.ref a]/\SqL K H a (bs.map V.bl)/\Q (.bl (bs.any id)) H
def Kh(hc:X.calm=true)(hK:X.K=K:=by rfl):CallR X (.builtin "any") (ap K):=by
 subst hK;intro O s σ H xs us Q I r h;obtain⟨a,bs,rfl,hq,q⟩:=h;obtain⟨u,rfl,ru⟩:=BK r;cases ru;obtain⟨its,rv,p,hz⟩:=I.list hq;have hl:=p.isList;have hlen:=rv.length;have hlt:a<s.heap.objs.size:=by obtain⟨_,e,_⟩:=hl;exact Heap.lt_size e
 refine call_any_walk (wpAny_pyIter_list hl ?_);refine⟨s.heap.objs.size,[s.heap.objs.size,a],[s.heap.objs.size],its.toArray.size,_,_,λi=>(bs[i]?).getD false,rfl,Walks.list (A:=X.A.in1) (I.ok.hd hc) _ a (jg hlt) its.toArray,
  ⟨⟨_,Heap.get?_push_size _ rfl,rfl,rfl⟩,hl.push _⟩,λi v s' Q' E' hP hQ=>?_,λh' tk hk=>?_⟩
 .obtain⟨b,e,rfl⟩:=Kj rv (by simpa using hP);simp only[e,Option.getD_some]at hQ;exact kg hQ
 .have e:((List.range its.toArray.size).any λi=>(bs[i]?).getD false)=bs.any id:=by
   rw[jf,<- hlen,ji];exact LSm.range_any bs
  rw[e];exact⟨.bl _,H,I.kept (LSm.kept_iter hk),rfl,q⟩
def Ji:List V->Hp->VK->Prop:=λxs H Q=>∃(a:Addr) (ns:List Int),xs=[.ref a]/\SqL K H a (ns.map V.int)/\ns.length<64/\∀(p:Addr) (ns':List Int),H p=none->ns'.Perm ns->ns'.Pairwise (·<=·)->Q (.ref p) (upd H p (.lst (ns'.map V.int)))
theorem Nn:∀{ns:List Int} {us:List Value},IntsAre us ns->Vals (ns.map V.int) us
 |[],_,.nil=>.nil
 |_::_,_,.cons _ _ t=>.cons ⟨_,rfl⟩ (Nn t)
def NE(hK:X.K=K:=by rfl):CallR X (.builtin "sorted") (Ji K):=by
 subst hK;intro O s σ H xs us Q I r h;obtain⟨a,ns,rfl,hq,h64,q⟩:=h;obtain⟨u,rfl,ru⟩:=BK r;cases ru;obtain⟨its,rv,p,hz⟩:=I.list hq;have hlen:=rv.length;rw[ji]at hlen;refine sorted_ints p.isList (DW rv) (by omega) λout ns' a1 a2 a3=>?_;obtain⟨e,he⟩:=sortedAll_at s.heap its out;have hl':ns'.length=ns.length:=a2.length_eq;refine⟨.ref (s.heap.objs.size+1),_,I.laid (a:=s.heap.objs.size+1) (o:=.lst (ns'.map V.int)) (t':=s.toks) (λb o hb=>sortedAll_old hb) (le_succ _) ⟨?_,out.toList,e,Nn a1,he⟩,rfl,q _ _ (I.hok.fresh (le_succ _)) a2 a3⟩;rw[ji,hl'];exact le_of_lt (KF (by omega))
def Vz:List V->Hp->VK->Prop:=λxs H Q=>∃(a:Addr) (ns:List Int),xs=[.ref a]/\SqL K H a (ns.map V.int)/\0<ns.length/\∀M:Int,M∈ns->(∀x∈ns,x<=M)->Q (.int M) H
def Kg(hc:X.calm=true)(hK:X.K=K:=by rfl):CallR X (.builtin "max") (Vz K):=by
 subst hK;intro O s σ H xs us Q I r h;obtain⟨a,ns,rfl,hq,hne,q⟩:=h;obtain⟨u,rfl,ru⟩:=BK r;cases ru;obtain⟨its,rv,p,hz⟩:=I.list hq;have hi:=DW rv;obtain⟨ys,e⟩:=hi.allInts.items;have hns:ns=ys.toList.map (·.1):=by
  rw[<- hi.numsOf,<- kD,<- e]
 have hsz:0<ys.size:=by
  have h3:=hne;rw[hns,ji,Array.length_toList]at h3;exact h3
 have hl:=p.isList;rw[e]at hl;refine max_intList (I.ok.hd hc) hl hsz λv h' tk hv hk=>?_;obtain⟨t,rfl⟩:=intItems_at hv;obtain⟨h1,h2⟩:=argBest_gt (numAt ys) (ys.size-1);refine⟨.int _,H,I.kept hk,⟨t,rfl⟩,q _ ?_ λx hx=>?_⟩
 .rw[hns,numAt_eq];exact getD_mem (by rw[ji,Array.length_toList];omega)
 .rw[hns]at hx;obtain⟨j,hj,rfl⟩:=mem_getD hx;rw[ji,Array.length_toList]at hj;rw[<- numAt_eq];exact h2 j (by omega)
def Vx:List V->Hp->VK->Prop:=λxs H Q=>∃(a:Addr) (ns:List Int),xs=[.ref a]/\SqL K H a (ns.map V.int)/\0<ns.length/\∀M:Int,M∈ns->(∀x∈ns,M<=x)->Q (.int M) H
def Kf(hc:X.calm=true)(hK:X.K=K:=by rfl):CallR X (.builtin "min") (Vx K):=by
 subst hK;intro O s σ H xs us Q I r h;obtain⟨a,ns,rfl,hq,hne,q⟩:=h;obtain⟨u,rfl,ru⟩:=BK r;cases ru;obtain⟨its,rv,p,hz⟩:=I.list hq;have hi:=DW rv;obtain⟨ys,e⟩:=hi.allInts.items;have hns:ns=ys.toList.map (·.1):=by
  rw[<- hi.numsOf,<- kD,<- e]
 have hsz:0<ys.size:=by
  have h3:=hne;rw[hns,ji,Array.length_toList]at h3;exact h3
 have hl:=p.isList;rw[e]at hl;refine min_intList (I.ok.hd hc) hl hsz λv h' tk hv hk=>?_;obtain⟨t,rfl⟩:=intItems_at hv;obtain⟨h1,h2⟩:=argBest_lt (numAt ys) (ys.size-1);refine⟨.int _,H,I.kept hk,⟨t,rfl⟩,q _ ?_ λx hx=>?_⟩
 .rw[hns,numAt_eq];exact getD_mem (by rw[ji,Array.length_toList];omega)
 .rw[hns]at hx;obtain⟨j,hj,rfl⟩:=mem_getD hx;rw[ji,Array.length_toList]at hj;rw[<- numAt_eq];exact h2 j (by omega)
end
section
variable{E:Value->Shared->Prop}{s:Shared}
def GR{Q:Value->Shared->Prop}(hl:s.heap.IsTuple l (intItems xs))
 (h:∀s₂:Shared,s₂={ s with heap:=s.heap.push { cls:=.type "tuple_iterator",data:=.fields #[.ref l,.int 0 0] } } ->
  (s₂.heap.IsTupleIter s.heap.objs.size l 0/\s₂.heap.IsTuple l (intItems xs))->(∀b∈[s.heap.objs.size,l],b<s₂.heap.objs.size)->l≠s.heap.objs.size->Q (.ref s.heap.objs.size) s₂):
 wpAny (model prog w) A (pyIter (.ref l)) Q E s:=by
 have hlt:l<s.heap.objs.size:=by obtain⟨_,e,_⟩:=hl;exact Heap.lt_size e
 refine wpAny_pyIter_tuple hl (h _ rfl ⟨⟨_,Heap.get?_push_size _ rfl,rfl,rfl⟩,hl.push _⟩ (λb hb=>?_) (jg hlt));show b<(s.heap.push _).objs.size;rw[Heap.size_push];rcases mem_cons.mp hb with rfl|hb
 .exact Nat.lt_succ_self _
 .rcases mem_cons.mp hb with rfl|hb
  .exact kf hlt
  .cases hb
def KJ{h':Heap}(hk:∀b x,b∉[s.heap.objs.size]->(s.heap.push o).get? b=some x->h'.get? b=some x):∀b x,s.heap.get? b=some x->h'.get? b=some x:=
 λb x e=>hk b x (λhm=>by rw[mem_singleton.mp hm]at e;exact jM _ (Heap.lt_size e)) (Heap.get?_push_of_some _ e)
def Lk{Q:Value->Shared->Prop}(hh:A.handled=none)(hl:s.heap.IsTuple l (intItems xs))
 (h:∀h' tk t',(∀b o,s.heap.get? b=some o->h'.get? b=some o)->Q (.int (preSum (numAt xs) xs.size) t') { s with heap:=h',toks:=tk }):
 wpAny (model prog w) A (call (.builtin "sum") [.ref l]) Q E s:=by
 refine call_sum_walkG (GR hl λs₂ e st hfp hlI=>?_);subst e;refine⟨_,_,_,_,_,_,numAt xs,rfl,Walks.tuple (A:=A.in1) hh _ l hlI (intItems xs),st,hfp,(λ_ _=>intItems_at),λh' tk t' hk=>?_⟩;have:=h h' tk t' (KJ hk);simpa [intItems]using this
def Mg{Q:Value->Shared->Prop}(hh:A.handled=none)(hl:s.heap.IsTuple l (intItems xs))(hne:0<xs.size)
 (h:∀v h' tk,(intItems xs)[argBest (λi j=>decide (numAt xs i>numAt xs j)) (xs.size-1)]?=some v->(∀b o,s.heap.get? b=some o->h'.get? b=some o)->Q v { s with heap:=h',toks:=tk }):
 wpAny (model prog w) A (call (.builtin "max") [.ref l]) Q E s:=by
 refine call_max_walk (GR hl λs₂ e st hfp hlI=>?_);subst e;refine⟨_,_,_,_,_,_,_,rfl,Walks.tuple (A:=A.in1) hh _ l hlI (intItems xs),st,hfp,by simpa [intItems]using hne,CmpOf.ints_gt (numAt xs) (λ_ _=>intItems_at),λv h' tk hP hk=>?_⟩;exact h v h' tk (by simpa [intItems]using hP) (KJ hk)
end
section
variable(K:Frag){X:Cx}
def Vv:List V->Hp->VK->Prop:=λxs H Q=>∃(a:Addr) (ns:List Int),xs=[.ref a]/\SqT K H a (ns.map V.int)/\Q (.int ns.sum) H
def JN(hc:X.calm=true)(hK:X.K=K:=by rfl):CallR X (.builtin "sum") (Vv K):=by
 subst hK;intro O s σ H xs us Q I r h;obtain⟨a,ns,rfl,hq,q⟩:=h;obtain⟨u,rfl,ru⟩:=BK r;cases ru;obtain⟨its,rv,p,hz⟩:=I.tuple hq;have hi:=DW rv;obtain⟨xs,hx⟩:=hi.allInts.items;have hl':s.heap.IsTuple a (intItems xs):=hx ▸ (show s.heap.IsTuple a its.toArray from p);refine Lk (I.ok.hd hc) hl' λh' tk t' hk=>?_;have e1:ns=xs.toList.map (·.1):=by
  rw[<- kD,<- hx];exact(show numsOf its.toArray.toList=ns from hi.numsOf).symm
 have e2:preSum (numAt xs) xs.size=ns.sum:=by
  rw[preSum_eq,jZ (by simp),e1]
 rw[e2];exact⟨.int ns.sum,H,I.kept hk,⟨_,rfl⟩,q⟩
def Vy:List V->Hp->VK->Prop:=λxs H Q=>∃(a:Addr) (ns:List Int),xs=[.ref a]/\SqT K H a (ns.map V.int)/\0<ns.length/\∀M:Int,M∈ns->(∀x∈ns,x<=M)->Q (.int M) H
def JO(hc:X.calm=true)(hK:X.K=K:=by rfl):CallR X (.builtin "max") (Vy K):=by
 subst hK;intro O s σ H xs us Q I r h;obtain⟨a,ns,rfl,hq,hne,q⟩:=h;obtain⟨u,rfl,ru⟩:=BK r;cases ru;obtain⟨its,rv,p,hz⟩:=I.tuple hq;have hi:=DW rv;obtain⟨ys,e⟩:=hi.allInts.items;have hns:ns=ys.toList.map (·.1):=by
  rw[<- hi.numsOf,<- kD,<- e]
 have hsz:0<ys.size:=by
  have h3:=hne;rw[hns,ji,Array.length_toList]at h3;exact h3
 have hl:s.heap.IsTuple a (intItems ys):=e ▸ (show s.heap.IsTuple a its.toArray from p);refine Mg (I.ok.hd hc) hl hsz λv h' tk hv hk=>?_;obtain⟨t,rfl⟩:=intItems_at hv;obtain⟨h1,h2⟩:=argBest_gt (numAt ys) (ys.size-1);refine⟨.int _,H,I.kept hk,⟨t,rfl⟩,q _ ?_ λx hx=>?_⟩
 .rw[hns,numAt_eq];exact getD_mem (by rw[ji,Array.length_toList];omega)
 .rw[hns]at hx;obtain⟨j,hj,rfl⟩:=mem_getD hx;rw[ji,Array.length_toList]at hj;rw[<- numAt_eq];exact h2 j (by omega)
end
structure DefAt(K:Frag)(mg:Str->Option Value)(x:Str)(st:Stmt)(f:Addr)(fd:FuncData)(ps:List Str):Prop where
 fn:Fun K x x st f fd
 mg:mg x=some (.ref f)
 bd:Binds K fd ps []
def PY{X:Cx}{j k:Nat}{sp:Sp}{st:Stmt}{p:Pos}(F:FnOk X.prog X.w X.K X.mg X.base CX0 j f fd ps sp)(hr:Room k X.A)(D:DefAt X.K X.mg x st f fd ps)(ha:PA X (e::es) t)
 (hjk:j<=k:=by decide) (hg:Gl X x:=by rfl) (hdb:(x==("__debug__":Str))=false:=by decide) (he:starEach (e::es) X.env=(false,eval e X.env)::starEach es X.env:=by rfl) (hpl:(backTo pos (starEach es X.env)).any (·.1)=false:=by rfl):
 PE X (.Call (.Name x p) (e::es) [] pos) (Bx sp [] E0 t):=
 YY (F.mono hjk) hr hg D.mg D.fn.kp D.bd .nil W6 ha hdb he hpl
def K5:bootBuiltins "list"=some (.type "list"):=by decide +kernel
def bt_tuple:bootBuiltins "tuple"=some (.type "tuple"):=by decide +kernel
def bt_int:bootBuiltins "int"=some (.type "int"):=by decide +kernel
def bt_len:bootBuiltins "len"=some (.builtin "len"):=by decide +kernel
def bt_repr:bootBuiltins "repr"=some (.builtin "repr"):=by decide +kernel
def bt_sum:bootBuiltins "sum"=some (.builtin "sum"):=by decide +kernel
def bt_min:bootBuiltins "min"=some (.builtin "min"):=by decide +kernel
def bt_max:bootBuiltins "max"=some (.builtin "max"):=by decide +kernel
def bt_abs:bootBuiltins "abs"=some (.builtin "abs"):=by decide +kernel
def Ki:bootBuiltins "sorted"=some (.builtin "sorted"):=by decide +kernel
def bt_any:bootBuiltins "any"=some (.builtin "any"):=by decide +kernel
def Ks:bootBuiltins "isinstance"=some (.builtin "isinstance"):=by decide +kernel
mutual
theorem Hz:∀ns:List Int,PyData.canLayAll0 (ns.map PyData.int)=true
 |[]=>by simp[PyData.canLayAll0]
 |n::ns=>by simp[PyData.canLayAll0,PyData.canLay0,Hz ns]
end
end L2
namespace L2
open PySem PySem.Spec PyProof.Rows PySem.W
def cdF(c:Addr)(q:Str):Heap->Prop:=λh=>h.CodeRec (.ref c) q
def fo(H:Hp)(q:Str)(pos:Pos)(ps:Array Value):Prop:=ps=#[]∨∃c,ps=#[rawInt pos.line,rawInt pos.col,.ref c]/\H c=some (.ext (cdF c q))
end L2
namespace L2
open PySem PySem.Spec PyProof.Rows
section
variable{E:Value->Shared->Prop}{R:Result->Shared->Prop}{h:Heap}{t:Nat}{os:OsState}
variable{nm:Str}{hdct:Bool}{sub:List Value}{ab:Bool}
noncomputable abbrev FZ(C t:Addr):Obj:={ cls:=.ref C,data:=.fields #[.ref t,.none,.none,.none,.bool false,.none] }
def Z8{rest:List Value}(hC:h.get? C=some (excClassObj nm q C N bs bm hdct sn sub ab col dd k0 k1 k2 k3 k5 "ValueError.__new__"))(b1:(Value.ref C::bm).contains (.type "ValueError")=true)
 (b2:(Value.ref C::bm).contains (.type "AttributeError")=false) (b3:(Value.ref C::bm).contains (.type "NameError")=false) (hrest:rest.length<=sizeLine)
 (hq:R (.ok (.ret (.ref (h.objs.size+1)))) ⟨(h.push { cls:=.type "tuple",data:=.seq rest.toArray }).push (FZ C h.objs.size),g,d,t,os⟩):
 codeAny (model prog w) A (.builtin "ValueError.__new__" ⟨.ref C::rest,[]⟩) R ⟨h,g,d,t,os⟩:=by
 have F0:=F.excBase_ValueError;have en:=F0.ends;refine codeAny_builtinAt F0.entry (PySem.wpAt_bind ?_);show PySem.wpAt _ _ _ (stack >>= _) _ _ _;refine PySem.wpAt_bind (PySem.wpAt_stack λp0 below0=>PySem.wpAt_of_wpAny ?_)
 wp_walk;refine PySem.wpAt_of_wpAny ?_;rw[F0.owner]
 repeat (first|with_reducible refine wpAny_madeHere_exc F0.canon hC ?_|with_reducible refine kz hC ?_|(with_reducible refine wpAny_isSubtype_exc hC ?_;first|rw[b1]|rw[b2]|rw[b3])|wp_step)
 show R _ _;rw[Heap.size_push];exact hq
def Sg{rest:List Value}{Q:Unit->Shared->Prop}(hC:h.get? C=some (excClassObj nm q C N bs bm hdct sn sub ab col dd k0 k1 k2 k3 k5 "ValueError.__new__"))(b1:bm.contains (.type "ValueError")=true)
 (hq:Q () ⟨h,g,d,t,os⟩):wpAny M A (checkBuiltinCall "ValueError.__new__" ⟨.ref C::rest,[]⟩) Q E ⟨h,g,d,t,os⟩:=
 wpAny_check_new_subU F.excBase_ValueError b1 .base hC hq
def Uv{rest:List Value}:Heap.MadeExcOf h ((h.push { cls:=.type "tuple",data:=.seq rest.toArray }).push (FZ C h.objs.size)) (h.objs.size+1) (.ref C) rest:=by
 refine⟨λb o e=>Heap.get?_push_of_some _ (Heap.get?_push_of_some _ e),Heap.get?_none_of_le (le_succ _),h.objs.size,?_,Heap.get?_none_of_le (jc _),Heap.get?_push_of_some _ (Heap.get?_push_at rfl rfl)⟩;exact Heap.get?_push_at (by rw[Heap.size_push]) rfl
def VW{K:Frag}{fI:Addr}{rest:List Value}{Q:Value->Shared->Prop}(X:K.In h)(hC:h.get? C=some (excClassObj nm q C N bs bm hdct sn sub ab col dd k0 k1 k2 k3 k5 "ValueError.__new__"))(b1:bm.contains (.type "ValueError")=true)
 (b2:bm.contains (.type "AttributeError")=false) (b3:bm.contains (.type "NameError")=false) (hi:findIn K (.ref C) "__init__"=some (some (.ref fI))) (hf:PySem.W.typeIn K (.ref fI)=some (.type "function")) (hrest:rest.length<=sizeLine)
 (hq:wpAny (model prog w) (A.under (.builtin "type.__call__" ⟨.ref C::rest,[]⟩)) (call (.ref fI) (.ref (h.objs.size+1)::rest)) (λr s'=>r=.none/\Q (.ref (h.objs.size+1)) s') E ⟨(h.push { cls:=.type "tuple",data:=.seq rest.toArray }).push (FZ C h.objs.size),g,d,t,os⟩):
 wpAny (model prog w) A (call (.ref C) rest) Q E ⟨h,g,d,t,os⟩:=by
 have f1:=tc_lookup;have f2:=tc_bind (.ref C);have hT:(⟨h,g,d,t,os⟩:Shared).TypeIs (.ref C) "type":=⟨_,hC,rfl⟩
 have c1:(Value.ref C::bm).contains (.type "ValueError")=true:=by rw[ku,b1,Bool.or_true]
 have c2:(Value.ref C::bm).contains (.type "AttributeError")=false:=by rw[ku,b2];rfl
 have c3:(Value.ref C::bm).contains (.type "NameError")=false:=by rw[ku,b3];rfl
 have m0:Heap.MadeExcOf h ((h.push { cls:=.type "tuple",data:=.seq rest.toArray }).push (FZ C h.objs.size)) (h.objs.size+1) (.ref C) rest:=Uv;have X1:=X.keeps m0.keeps;have hC1:=m0.keeps _ _ hC;have e1:((h.push { cls:=.type "tuple",data:=.seq rest.toArray }).push (FZ C h.objs.size)).get? (h.objs.size+1)=some { cls:=.ref C,data:=.fields #[.ref h.objs.size,.none,.none,.none,.bool false,.none] }:=Heap.get?_push_at (by rw[Heap.size_push]) rfl;have cc:(Value.ref C::bm).contains (.ref C)=true:=by simp
 refine kq (codeAny_of_tree ?_);show wpAny _ _ (callAny (.ref C) _) _ _ _
 repeat (any_goals (first|assumption|with_reducible refine kz hC ?_|wp_step))
 refine⟨rfl,codeAny_call_builtin_at (Code.quiet_builtin _ (by decide +kernel)) entry_typeCall (wpAny_check_type_call_sub hC ?_)⟩
 repeat (first|with_reducible refine kz hC ?_|with_reducible refine wpAny_madeBy_exc hC ?_|wp_step)
 refine codeAny_call_builtin_code (Code.quiet_builtin _ F.excBase_ValueError.quiet) (Sg hC b1 (Z8 hC c1 c2 c3 hrest ?_));show wpAny _ _ _ _ _ _;unfold isInstance
 repeat (first|with_reducible refine kz e1 ?_|(refine wpAny_isSubtype_exc hC1 ?_;rw[cc])|wp_step)
 show wpAny _ _ (typeLookup (.ref C) _) _ _ _;refine PySem.W.Looks.at (PySem.W.looks_findIn X1 hi) (jE (j8 (PySem.W.Looks.at (PySem.W.bind_fn X1 _ hf) (j8 (jo hq (λr s' hr=>?_) λ_ _ x=>x)))))
 obtain⟨rfl,z⟩:=hr
 wp_walk
 exact z
end
end L2
namespace L2
open PySem PySem.Spec PyProof.Rows
open Builtin Builtin.ObjectAttr
inductive OverV:List Value->Prop
 |base:OverV [.type "ValueError",.type "Exception",.type "BaseException",.type "object"]
 |own {c:Addr} {l:List Value}:OverV l->OverV (.ref c::l)
def OverV.sa(self:Value)(h:OverV l):refuseLoop self "__setattr__" l=pure ():=by
 induction h with
 |base=>exact PySem.F.store_ValueError.passes self
 |own _ ih=>rw[refuseLoop_ref];exact ih
def OverV.has(h:OverV l)(e:[Value.type "ValueError",.type "Exception",.type "BaseException",.type "object"].contains (.type x)=true):l.contains (.type x)=true:=by
 induction h with
 |base=>exact e
 |own _ ih=>rw[ku,ih,Bool.or_true]
def OverV.not(h:OverV l)(e:[Value.type "ValueError",.type "Exception",.type "BaseException",.type "object"].contains (.type x)=false):l.contains (.type x)=false:=by
 induction h with
 |base=>exact e
 |own _ ih=>rw[ku,ih];rfl
structure XC(K:Frag)(C fI:Addr):Prop where
 at_:∃nm q N bs bm sn sub ab col dd k0 k1 k2 k3 k5,K.lookup C=some (excClassObj nm q C N bs bm true sn sub ab col dd k0 k1 k2 k3 k5 "ValueError.__new__")/\OverV bm
 init:findIn K (.ref C) "__init__"=some (some (.ref fI))
 fn:PySem.W.isFn K (.ref fI)=true
 kp:keepIn K (.ref C)=true
 sa:findIn K (.ref C) "__setattr__"=some (some (.builtin "object.__setattr__"))
 ga:findIn K (.ref C) "__getattribute__"=some (some (.builtin "BaseException.__getattribute__"))
 gx:findIn K (.ref C) "__getattr__"=some none
section
variable{E:Value->Shared->Prop}{s:Shared}{K:Frag}{fI x:Addr}
def XC.cls(c:XC K C fI):∃cd,PySem.W.clsIn K C=some cd/\OverV cd.mro/\cd.hasDict=true:=by
 obtain⟨nm,q,N,bs,bm,sn,sub,ab,col,dd,k0,k1,k2,k3,k5,e,o⟩:=c.at_;exact⟨_,by unfold PySem.W.clsIn;rw[e],.own o,rfl⟩
def Wt{Q:Unit->Shared->Prop}(X:K.In s.heap)(c:XC K C fI)(hx:s.heap.get? x=some ⟨.ref C,none,.fields vs,sl⟩)(na:findIn K (.ref C) name=some none)
 (h:∀h',h'.get? x=some ⟨.ref C,some s.heap.objs.size,.fields vs,sl⟩->h'.Ns1 s.heap.objs.size (λy=>if y=name then some v else none)->(∀b o,b≠x->s.heap.get? b=some o->h'.get? b=some o)->Q () { s with heap:=h',toks:=s.toks+2 }):
 wpAny (model prog w) A (setAttr (.ref x) name v) Q E s:=by
 have SF:=PySem.F.store_object;have I:PySem.W.InstAt s.heap x ⟨.ref C,none,.fields vs,sl⟩ C none:=⟨hx,rfl,rfl,True.intro⟩
 obtain⟨cd,hc,ov,hd⟩:=c.cls;have ne:cd.mro.isEmpty=false:=by cases q:cd.mro with|nil=>rw[q]at ov;cases ov|cons _ _=>rfl
 have sub:Looks (model prog w) s.heap (isInstance (.ref x) (.type "object")) true:=
  I.type.andThen (PySem.W.looks_mroIn X (by unfold mroIn;rw[hc,bind_some,ja (by rw[ne];decide),ov.has (by decide +kernel)]))
 have hm:Looks (model prog w) s.heap (mroOf (.ref C)) cd.mro:=(PySem.W.looks_clsIn X hc).andThen .now;refine PySem.W.set_plain X I c.sa (kG SF.slot.plain SF.entry (@PySem.W.check_slot (model prog w) _ _ _ "object.__setattr__" "object" "__setattr__" (.ref x) [.str name s.toks,v] [] _ SF.kind SF.split sub (SF.args (.ref x) (.str name s.toks) v) ?_));rw[PySem.W.osa_eq,refuse_eq];refine j8 (j8 (I.type.here (s:={ s with toks:=s.toks+1 }) (j8 (hm.here (s:={ s with toks:=s.toks+1 }) ?_))));rw[ov.sa];refine jb (j8 (I.type.here (s:={ s with toks:=s.toks+1 }) (j8 ((PySem.W.looks_findIn X na).here (s:={ s with toks:=s.toks+1 }) (j8 (jb ?_))))));have hxs:x≠s.heap.objs.size:=jg (Heap.lt_size hx);have hx1:(s.heap.push { cls:=.type "dict",data:=.dict #[] }).get? x=some ⟨.ref C,none,.fields vs,sl⟩:=Heap.get?_push_of_some _ hx;refine j8 (jb (j8 (j8 (wpAny_loadPart hx (j8 (PySem.W.Looks.here (s:={ s with toks:=s.toks+1 }) (PySem.W.looks_clsIn X hc) ?_))))));rw[hd];show wpAny _ _ (do let d <- alloc { cls:=.type "dict",data:=.dict #[] };update x λo=>{ cls:=o.cls,dict:=some d,data:=o.data,slots:=o.slots };dictMade (.ref C) x d) _ _ _;refine j8 (wpAny_alloc' (j8 (wpAny_update' hx1 ?_)));generalize hh:((s.heap.push { cls:=.type "dict",data:=.dict #[] }).update x λo=>{ cls:=o.cls,dict:=some s.heap.objs.size,data:=o.data,slots:=o.slots })=h2;have g1:h2.get? s.heap.objs.size=some { cls:=.type "dict",data:=.dict #[] }:=by rw[<- hh];exact(Heap.get?_update_ne _ _ _ _ hxs.symm).trans (Heap.get?_push_at rfl rfl)
 have g2:h2.get? x=some ⟨.ref C,some s.heap.objs.size,.fields vs,sl⟩:=by rw[<- hh];exact Heap.get?_update_self _ hx1 rfl
 have g3:∀b o,b≠x->s.heap.get? b=some o->h2.get? b=some o:=λb o n e=>by rw[<- hh];exact(Heap.get?_update_ne _ _ _ _ n).trans (Heap.get?_push_of_some _ e)
 have hnd:h2.Ns s.heap.objs.size (λ_=>none):=⟨_,#[],_,g1,rfl,λe he=>absurd he (by simp),λ_=>rfl⟩
 refine jb ?_;show wpAny _ _ (storeInDict s.heap.objs.size (.str name s.toks) name v) _ _ _;unfold storeInDict newKeyGuard;refine j8 (jb (j8 (wpAny_nsSet1 (Heap.Ns1.of_empty hnd) λh' hn' hs=>?_)));obtain⟨oD,esD,epD,hoD,hdD,hcD⟩:=hn'.count (Within.cons name v Within.nil);refine j8 (wpAny_lookBehind hoD (by rw[hdD];exact pastItsLine_dict (jh hcD (by rw[jm,jL,jF];omega))) ?_);exact jb (h h' ((hs.2 x hxs).trans g2) hn' λb o n e=>(hs.2 b (jg (Heap.lt_size e))).trans (g3 b o n e))
end
section
variable{E:Value->Shared->Prop}{s:Shared}{K:Frag}{fI x:Addr}{mA:Str->Option Value}
def Z7{expr:Bool}{Q:Value->Shared->Prop}(X:K.In s.heap)(c:XC K C fI)(hx:s.heap.get? x=some ⟨.ref C,some dx,.fields vs,sl⟩)(hn:s.heap.Ns1 dx mA)(na:findIn K (.ref C) name=some none)(hv:mA name=some v)
 (hh:PySem.W.handedIn v=true) (h:Q v { s with toks:=s.toks+1 }):wpAny (model prog w) A (getAttr (.ref x) name expr) Q E s:=by
 obtain⟨od,ho,hl⟩:=Em hn;obtain⟨hp,g,d,t,os⟩:=s;have I:PySem.W.InstAt hp x ⟨.ref C,some dx,.fields vs,sl⟩ C (some od):=⟨hx,rfl,rfl,ho⟩
 obtain⟨cd,hc,ov,hd⟩:=c.cls;have hhd:PySem.W.hasDictIn K C=true:=by unfold PySem.W.hasDictIn;rw[hc];exact hd
 have L0:Looks (model prog w) hp (typeOf (.ref x)) (.ref C):=I.type;have L1:Looks (model prog w) hp (find (.ref x) (.ref C) name) (.value v):=PySem.W.looks_find X I (PySem.W.findObj_own hhd na rfl (by rw[hl,hv]));have L2:Looks (model prog w) hp (typeLookup (.ref C) "__getattribute__") (some (.builtin "BaseException.__getattribute__")):=PySem.W.looks_findIn X c.ga;have L3:Looks (model prog w) hp (hookBefore (.ref C)) none:=PySem.W.looks_hook X c.gx;have ne:cd.mro.isEmpty=false:=by cases q:cd.mro with|nil=>rw[q]at ov;cases ov|cons _ _=>rfl
 have sub:Looks (model prog w) hp (isInstance (.ref x) (.type "BaseException")) true:=
  I.type.andThen (PySem.W.looks_mroIn X (by unfold mroIn;rw[hc,bind_some,ja (by rw[ne];decide),ov.has (by decide +kernel)]))
 have hx2:(Value.builtin "BaseException.__getattribute__"==Value.builtin "object.__getattribute__")=false:=by decide +kernel
 have hx1:(onTheHeap (Value.ref C)&&Value.builtin "BaseException.__getattribute__"==Value.builtin "object.__getattribute__")=false:=by rw[hx2];rfl
 unfold getAttr getAttrBy;refine j8 (wpAny_mkText (jE (j8 (L0.at (j8 (L2.at ?_))))));dsimp only;rw[ja (by rw[hx1];exact Bool.false_ne_true)];unfold getAttrByItsOwn;refine j8 (L3.at (j8 (wpAny_attempt (jE ?_))));have hx0:(expr&&onTheHeap (Value.builtin "BaseException.__getattribute__"))=false:=by cases expr<;>rfl
 have FB:=F.attrBase_ValueError;have hk:builtinKind "BaseException.__getattribute__"=some .slot:=by decide +kernel
 have hs:splitId "BaseException.__getattribute__"=some ("BaseException","__getattribute__"):=by decide +kernel
 unfold callGetattribute boundAndCalled;rw[ja (by rw[hx0];exact Bool.false_ne_true),FB.ga.bind];refine j8 (jb (kq (kG FB.ga.plain F.entry_bexc_ga (@PySem.W.check_slot (model prog w) _ _ _ "BaseException.__getattribute__" "BaseException" "__getattribute__" (.ref x) [.str name t] [] _ hk hs sub (F.args_bexc_ga _ _) ?_))));refine j8 (jb (j8 (jb (j8 (L0.at (j8 (L1.at ?_)))))));refine jb ?_;show wpAny _ _ (handedOut v) _ _ _;rw[PySem.W.handedOut_of hh];exact jb h
def RX{Q:Flow->Shared->Prop}(hh:A.handled=none)(c:XC K C fI)
 (h:wpAny M A (eval xe env) (λv s1=>∃e t dx sl,v=.ref e/\K.In s1.heap/\s1.heap.get? e=some ⟨.ref C,dx,.fields #[.ref t,.none,.none,.none,.bool false,.none],sl⟩/\E (.ref e) s1) E s):
 wpAny M A (exec (.Raise (some xe) none pos) env) Q E s:=by
 obtain⟨nm,q,N,bs,bm,sn,sub,ab,col,dd,k0,k1,k2,k3,k5,lk,ov⟩:=c.at_;have cb:(Value.ref C::bm).contains (.type "BaseException")=true:=(OverV.own ov).has (by decide +kernel);rw[arm_exec_Raise];refine j8 (k8 ?_);show wpAny _ _ (raiseStmt env (some (do let v <- eval xe env;standAt pos;pure v)) none) _ _ _;unfold raiseStmt;refine j8 (j8 (jo h (λv s1 h1=>?_) λ_ _ z=>z));obtain⟨e,t,dx,sl,rfl,X,he,hE⟩:=h1;have hC:=X _ _ lk;refine j8 (k8 (jb ?_));obtain⟨hp,g,d,tk,os⟩:=s1
 repeat (first|with_reducible refine kz he ?_|with_reducible refine kz hC ?_|(with_reducible refine wpAny_isSubtype_exc hC ?_;rw[cb])|wp_step)
 exact wpAny_raiseNew_none hh hE
end
end L2
namespace L2
open PySem PySem.Spec PyProof.Rows
def Exo(h:Heap)(a C:Addr)(dx:Option Addr)(tb:Value):Prop:=∃vs sl,h.get? a=some ⟨.ref C,dx,.fields vs,sl⟩/\vs[1]?=some tb
structure Note(fs:List Addr)(a:Addr)(tb:Value)(h h':Heap):Prop where
 keep:∀b o,h.get? b=some o->b≠a->.ref b≠tb->b∉fs->h'.get? b=some o
 slot:∀b o,h.get? b=some o->b∈fs->∃sl,h'.get? b=some { o with slots:=sl }
 there:∀b o,h.get? b=some o->∃o',h'.get? b=some o'
end L2
namespace L2
open PySem PySem.Spec PyProof.Rows
open Builtin Builtin.ObjectAttr
section
variable{E:Value->Shared->Prop}{s:Shared}{K:Frag}{fI:Addr}{mA:Str->Option Value}
structure XI(K:Frag)(C:Addr):Prop where
 ca:findIn K (.ref C) "__class__"=some (some (.builtin "object.__class__"))
 gd:PySem.W.specialIn K (.builtin "object.__class__") "__get__"=some (some (.builtin "getset_descriptor.__get__"))
 tk:PySem.W.takesIn K (.builtin "object.__class__")=some true
 mo:mroIn K C (.type "object")=some true
def SH(hc:(PySem.W.clsIn K C).isSome=true)(ha:findIn K (.ref C) name=some (some a))(hg:PySem.W.specialIn K a "__get__"=some (some g))(ht:PySem.W.takesIn K a=some true):PySem.W.findObj K C od name=some (.bind g a):=by
 obtain⟨cd,hc⟩:=isSome_iff_exists.mp hc;unfold PySem.W.findObj;rw[hc,bind_some,ha,bind_some];simp[hg,ht]
def Sd{Q:Option Value->Shared->Prop}(X:K.In s.heap)(c:XC K C fI)(i:XI K C)(I:PySem.W.InstAt s.heap x ⟨.ref C,dx,.fields vs,sl⟩ C od)
 (h:Q (some (.ref C)) { s with toks:=s.toks+1 }):wpAny (model prog w) A (getAttr? (.ref x) "__class__") Q E s:=by
 obtain⟨hp,g,d,t,os⟩:=s;obtain⟨cd,hc,ov,hd⟩:=c.cls;have L0:Looks (model prog w) hp (typeOf (.ref x)) (.ref C):=I.type;have L1:Looks (model prog w) hp (find (.ref x) (.ref C) "__class__") (.bind (.builtin "getset_descriptor.__get__") (.builtin "object.__class__")):=
  PySem.W.looks_find X I (SH (by rw[hc];rfl) i.ca i.gd i.tk)
 have L2:Looks (model prog w) hp (typeLookup (.ref C) "__getattribute__") (some (.builtin "BaseException.__getattribute__")):=PySem.W.looks_findIn X c.ga;have L3:Looks (model prog w) hp (hookBefore (.ref C)) none:=PySem.W.looks_hook X c.gx;have ne:cd.mro.isEmpty=false:=by cases q:cd.mro with|nil=>rw[q]at ov;cases ov|cons _ _=>rfl
 have sub:Looks (model prog w) hp (isInstance (.ref x) (.type "BaseException")) true:=
  I.type.andThen (PySem.W.looks_mroIn X (by unfold mroIn;rw[hc,bind_some,ja (by rw[ne];decide),ov.has (by decide +kernel)]))
 have hx2:(Value.builtin "BaseException.__getattribute__"==Value.builtin "object.__getattribute__")=false:=by decide +kernel
 have hx1:(onTheHeap (Value.ref C)&&Value.builtin "BaseException.__getattribute__"==Value.builtin "object.__getattribute__")=false:=by rw[hx2];rfl
 have FB:=F.attrBase_ValueError;have hk:builtinKind "BaseException.__getattribute__"=some .slot:=by decide +kernel
 have hs:splitId "BaseException.__getattribute__"=some ("BaseException","__getattribute__"):=by decide +kernel
 unfold getAttr? getAttrBy? getAttrBy;refine j8 (wpAny_mkText (j8 (wpAny_attempt (jE (j8 (L0.at (j8 (L2.at ?_))))))));dsimp only;rw[ja (by rw[hx1];exact Bool.false_ne_true)];unfold getAttrByItsOwn;refine j8 (L3.at (j8 (wpAny_attempt (jE ?_))));unfold callGetattribute boundAndCalled;rw[ja (by exact Bool.false_ne_true),FB.ga.bind];refine j8 (jb (kq (kG FB.ga.plain F.entry_bexc_ga (@PySem.W.check_slot (model prog w) _ _ _ "BaseException.__getattribute__" "BaseException" "__getattribute__" (.ref x) [.str "__class__" t] [] _ hk hs sub (F.args_bexc_ga _ _) ?_))));refine j8 (jb (j8 (jb (j8 (L0.at (j8 (L1.at ?_)))))));show wpAny _ _ (bindTo _ _ _ _) _ _ _;unfold bindTo;refine j8 (jE (kq (PySem.W.class_get (s:=⟨hp,g,d,t+1,os⟩) (od:=od) X I i.mo ?_)));refine jb ?_;show wpAny _ _ (handedOut (.ref C)) _ _ _;rw[PySem.W.handedOut_of rfl];exact jb (jb h)
def Mj(c:XC K C fI)(i:XI K C):PySem.W.KitX K (.ref x) (.ref C) (λh=>∃dx vs sl od,PySem.W.InstAt h x ⟨.ref C,dx,.fields vs,sl⟩ C od) where
 ty:=λ_ _ _ ⟨_,_,_,_,I⟩=>I.type
 it:=λ_ _ X _=>by
  obtain⟨nm,q,N,bs,bm,sn,sub,ab,col,dd,k0,k1,k2,k3,k5,lk,ov⟩:=c.at_;intro A' Q' E' s' k q';unfold isType loadHead;exact j8 (wpAny_loadPart (k _ _ (X _ _ lk)) (jb q'))
 ne:=λh tp dd its n sl X htp=>by
  obtain⟨nm,q,N,bs,bm,sn,sub,ab,col,dd',k0,k1,k2,k3,k5,lk,ov⟩:=c.at_;refine Bool.eq_false_iff.mpr λq'=>?_;have e:C=tp:=Value.ref.inj (beq_iff_eq.mp q');subst e;have z:=(X _ _ lk).symm.trans htp;exact absurd (jA Obj.data (Option.some.inj z)) (by intro q;cases q)
 ca:=λX ⟨_,_,_,_,I⟩ k=>Sd X c i I k
end
def X0(a C t:Addr)(h:Heap):Prop:=h.get? a=some (FZ C t)
def X1(a C dx t:Addr)(h:Heap):Prop:=h.get? a=some ⟨.ref C,some dx,.fields #[.ref t,.none,.none,.none,.bool false,.none],#[]⟩
def XO(a C:Addr)(dx:Option Addr)(h:Heap):Prop:=∃tb,Exo h a C dx tb
noncomputable def XdAt(H:Hp):Option Addr->List (Str×V)->Prop
 |none,fs=>fs=[]
 |some d,fs=>H d=some (.xd fs)
def New(X:Cx)(O:List (Addr×Obj))(b:Addr):Prop:=(b∈X.ex∨X.s₀.heap.objs.size<=b)/\b≠X.env.locals/\(∀x c,X.env.cells.lookup x=some c->c≠b)/\∀p∈X.pn++O,p.1≠b
def Inv.new(I:Inv X O σ H s)(h:s.heap.objs.size<=b):New X O b:=by
 refine⟨.inr (jh I.sz h),k6 (jn I.lt h),λx c e=>?_,λp hp=>?_⟩
 .obtain⟨v,o,ho,_⟩:=I.cell x c e;exact jg (jn (Heap.lt_size ho) h)
 .exact jg (jn (Heap.lt_size (I.pin p hp).1) h)
section
def Md{T:Addr}(hok:HOk P w H h)(N:Note fs a tb h h')(hx:Exo h' a C dx (.ref T))(ha:H a=some (.ext (XO a C dx)))(hT:∀T,tb=.ref T->H T=none)(hf:∀b∈fs,H b=none):HOk P w H h':=by
 have k:∀b o u,H b=some o->b≠a->h.get? b=some u->h'.get? b=some u:=λb o u q n e=>N.keep b u e n (λz=>by rw[hT b z.symm]at q;cases q) λz=>by rw[hf b z]at q;cases q
 intro b o q;by_cases n:b=a
 .subst n;rw[ha]at q;cases q;obtain⟨vs,sl,e1,e2⟩:=id hx;refine⟨⟨_,hx⟩,⟨_,e1⟩,λh1 h2 ⟨tb,vs,sl,e,z⟩ k=>⟨tb,vs,sl,k _ e,z⟩⟩
 .refine(hok b o q).stay (λc u hc e=>?_) (λ_ z=>z) λ_ _ z=>z;rcases hc with rfl|hc
  .exact k c o u q n e
  .exact k c _ u hc (λz=>by subst z;rw[ha]at hc;cases hc) e
end
end L2
namespace L2
open PySem PySem.Spec PyProof.Rows
def XdAt.grow(g:Grow H H')(h:XdAt H dx fs):XdAt H' dx fs:=by
 cases dx with
 |none=>exact h
 |some d=>exact g.keep _ _ trivial h
def ExR(K:Frag)(nm:Str)(fs:List Str)(H:Hp)(a:Addr)(xs:List V):Prop:=∃C dx,clsAt K nm=some C/\H a=some (.ext (XO a C dx))/\XdAt H dx (fs.zip xs)/\xs.length=fs.length
theorem ExR.grow{K:Frag}{nm:Str}(g:Grow H H')(h:ExR K nm fs H a xs):ExR K nm fs H' a xs:=
 let ⟨C,dx,h1,h2,h3,h4⟩:=h;⟨C,dx,h1,g.keep _ _ trivial h2,h3.grow g,h4⟩
inductive I where
 |non|bl (b:Bool)|int (i:Int)|str (x:Str)|tup (ds:List I)
inductive D where
 |im (i:I)|mu (n:Nat)|tm (ds:List D)|ro (ns:List Int)|op (nm:Str) (fs:List Str) (ds:List D)
inductive MO where
 |lst (ds:List D)|dic (kvs:List (Key×D))
noncomputable abbrev Hd:=List MO
noncomputable abbrev Ls:=List (Option D)
def RoL(K:Frag)(H:Hp)(a:Addr)(xs:List V):Prop:=(∃o,H a=some (.frz o (.lst xs))) ∨
 ∃(o:Obj) (its:Array Value) (n:Nat),K.lookup a=some o/\o.cls=.type "list"/\o.dict=none/\o.data=.seq its n/\its.size<=sizeLine/\Vals xs its.toList
def RoL.sq{K:Frag}(h:RoL K H a xs):SqL K H a xs:=by
 rcases h with⟨o,h⟩|h
 .exact .inl (.inr ⟨o,h⟩)
 .exact .inr h
def RoL.grow{K:Frag}(g:Grow H H')(h:RoL K H a xs):RoL K H' a xs:=by
 rcases h with⟨o,h⟩|h
 .exact .inl ⟨o,g.frz _ _ _ h⟩
 .exact .inr h
def Bg(n:Nat):Prop:=n<=sizeLine
def DN(n:Nat):Prop:=n<sizeLine
def E8(i j:Int):Prop:=(-(2^64)<i/\i<2^64)∨(-(2^64)<j/\j<2^64)
def Ef(i j:Int):Prop:=0<=j/\j<=1000000/\i.natAbs<2^64
def LJ(j:Int):Prop:=0<j/\j<1073741824
def Dh(j:Int):Prop:=0<j
def Fo(j:Int):Prop:=-(2^62)<=j/\j<2^62
def Tu(i j:Int):Prop:=(-(2^62)<=i/\i<2^62)/\-(2^62)<=j/\j<2^62
def Iu(j:Int):Prop:=j<2^24/\-(2^62)<=j
def Vp(i j:Int):Prop:=(-(2^62)<=i/\i<2^62)/\(-(2^62)<=j/\j<2^62)/\(j-i).toNat<=2^24
def fv(n:Nat):Prop:=n<1920
def AR{n:Nat}(h:n<=1000000):Bg n:=jh h (by rw[jF];decide)
def Bw{n:Nat}(h:n<1000000):DN n:=jn h (by rw[jF];decide)
def D9{i j:Int}(a:-1000000000000<=i)(b:i<=1000000000000):E8 i j:=.inl ⟨by omega,by omega⟩
def HM{i j:Int}(a:-1000000000000<=j)(b:j<=1000000000000):E8 i j:=.inr ⟨by omega,by omega⟩
def D7{j:Int}(a:-1000000000000<=j)(b:j<=1000000000000):Fo j:=⟨by omega,by omega⟩
def MB{j:Int}(a:-1000000000000<=j)(b:j<=1000000):Iu j:=⟨by omega,by omega⟩
section
variable(K:Frag)
mutual
noncomputable def RI(H:Hp):I->V->Prop
 |.non,v=>v=.non
 |.bl b,v=>v=.bl b
 |.int i,v=>v=.int i
 |.str x,v=>v=.str x
 |.tup ds,v=>∃a xs,v=.ref a/\SqT K H a xs/\RIs H ds xs
noncomputable def RIs(H:Hp):List I->List V->Prop
 |[],xs=>xs=[]
 |d::ds,xs=>∃x r,xs=x::r/\RI H d x/\RIs H ds r
end
mutual
noncomputable def RD(ρ:List Addr)(H:Hp):D->V->Prop
 |.im i,v=>RI K H i v
 |.mu n,v=>∃a,ρ[n]?=some a/\v=.ref a
 |.tm ds,v=>∃a xs,v=.ref a/\SqT K H a xs/\RDs ρ H ds xs
 |.ro ns,v=>∃a,v=.ref a/\RoL K H a (ns.map V.int)
 |.op nm fs ds,v=>∃a xs,v=.ref a/\ExR K nm fs H a xs/\RDs ρ H ds xs
noncomputable def RDs(ρ:List Addr)(H:Hp):List D->List V->Prop
 |[],xs=>xs=[]
 |d::ds,xs=>∃x r,xs=x::r/\RD ρ H d x/\RDs ρ H ds r
end
noncomputable def RKs(ρ:List Addr)(H:Hp):List (Key×D)->List (Key×V)->Prop
 |[],xs=>xs=[]
 |d::ds,xs=>∃x r,xs=x::r/\x.1=d.1/\RD K ρ H d.2 x.2/\RKs ρ H ds r
noncomputable def RC(ρ:List Addr)(H:Hp):MO->HO->Prop
 |.lst ds,o=>∃xs,o=.lst xs/\RDs K ρ H ds xs
 |.dic kvs,o=>∃kv,o=.dK kv/\RKs K ρ H kvs kv
noncomputable def Ku:List Value->List (Addr×Str×Pos)
 |.ref P::.str q _::.int l _::.int c _::r=>(P,q,⟨l.toNat,c.toNat,0,0⟩)::Ku r
 |_=>[]
noncomputable def eJ(o:Obj):List (Addr×Str×Pos):=match o.cls,o.data with
 |.str _ _,.fields vs=>Ku vs.toList
 |_,_=>[]
noncomputable def Ic(K:Frag):List (Addr×Str×Pos):=match K.getLast? with
 |some p=>eJ p.2
 |none=>[]
def TabsOk(K:Frag)(H:Hp):Prop:=∀x∈Ic K,∃ps,H x.1=some (.tbl ps)/\fo H x.2.1 x.2.2 ps
structure RH(ρ:List Addr)(H:Hp)(hd:Hd):Prop where
 len:ρ.length=hd.length
 nd:ρ.Nodup
 tabs:TabsOk K H
 ob:∀(n:Nat) (o:MO) (a:Addr),hd[n]?=some o->ρ[n]?=some a->∃ho,H a=some ho/\RC K ρ H o ho
structure RL(ρ:List Addr)(H:Hp)(ls:Ls)(σ:St):Prop where
 len:ls.length=σ.length
 ob:∀(i:Nat) (d:D),ls[i]?=some (some d)->∃v,σ[i]?=some (some v)/\RD K ρ H d v
end
structure Ext(ρ:List Addr)(H:Hp)(ρ':List Addr)(H':Hp):Prop where
 pre:∃r,ρ'=ρ++r/\∀b∈r,H b=none
 keep:∀b o,H b=some o->b∉ρ->(∀ps,o≠.tbl ps)->H' b=some o
 tab:∀b ps,H b=some (.tbl ps)->∃ps',H' b=some (.tbl ps')
def nt{o:HO}(h:match o with|.tbl _=>False|_=>True:=by trivial):∀ps,o≠.tbl ps:=λps e=>by subst e;exact h
theorem TabsOk.upd{K:Frag}(t:TabsOk K H)(h1:∀ps,H a≠some (.tbl ps))(h2:∀φ,H a≠some (.ext φ)):TabsOk K (upd H a ho):=λx hx=>by
 obtain⟨ps,e,g⟩:=t x hx;have ne:x.1≠a:=λz=>h1 ps (by rw[<- z];exact e);refine⟨ps,by rw[AD ne];exact e,?_⟩;rcases g with g|⟨c,g1,g2⟩
 .exact .inl g
 .have nc:c≠a:=λz=>h2 _ (by rw[<- z];exact g2);exact .inr ⟨c,g1,by rw[AD nc];exact g2⟩
section
variable{K:Frag}{hd':Hd}
mutual
theorem RI.grow(g:Grow H H'):∀{i:I} {v:V},RI K H i v->RI K H' i v
 |.non,v,h=>by simpa only[RI]using h
 |.bl b,v,h=>by simpa only[RI]using h
 |.int b,v,h=>by simpa only[RI]using h
 |.str b,v,h=>by simpa only[RI]using h
 |.tup ds,v,h=>by
  simp only[RI]at h ⊢;obtain⟨a,xs,e,q,r⟩:=h;exact⟨a,xs,e,g.sq q,RIs.grow g r⟩
theorem RIs.grow(g:Grow H H'):∀{i:List I} {v:List V},RIs K H i v->RIs K H' i v
 |[],v,h=>by simpa only[RIs]using h
 |d::ds,v,h=>by
  simp only[RIs]at h ⊢;obtain⟨x,r,e,q,z⟩:=h;exact⟨x,r,e,q.grow g,RIs.grow g z⟩
end
def RH.mut(h:RH K ρ H hd)(m:a∈ρ):(∃xs,H a=some (.lst xs))∨∃kv,H a=some (.dK kv):=by
 obtain⟨n,e⟩:=List.mem_iff_getElem?.mp m;have hn:n<hd.length:=by rw[<- h.len];exact(List.getElem?_eq_some_iff.mp e).1
 obtain⟨ho,e1,e2⟩:=h.ob n hd[n] a (by simp[hn]) e;cases q:hd[n]with
 |lst ds=>rw[q]at e2;obtain⟨xs,rfl,_⟩:=e2;exact .inl ⟨xs,e1⟩
 |dic ds=>rw[q]at e2;obtain⟨xs,rfl,_⟩:=e2;exact .inr ⟨xs,e1⟩
def RH.stb_out(h:RH K ρ H hd)(s:Stb o)(e:H a=some o):a∉ρ:=λm=>by
 rcases h.mut m with⟨y,z⟩|⟨y,z⟩<;>(rw[e]at z;cases z;exact s)
def Qg(s:Stb o):∀ps,o≠.tbl ps:=λps e=>by subst e;exact s
def Ext.grow(e:Ext ρ H ρ' H')(h:RH K ρ H hd):Grow H H':=⟨λb o s q=>e.keep b _ q (h.stb_out s q) (Qg s)⟩
def Ext.refl:Ext ρ H ρ H:=⟨⟨[],by simp,by simp⟩,λ_ _ h _ _=>h,λ_ ps h=>⟨ps,h⟩⟩
def Ext.trans(e:Ext ρ H ρ1 H1)(h0:RH K ρ1 H1 hd1)(e2:Ext ρ1 H1 ρ2 H2):Ext ρ H ρ2 H2:=by
 obtain⟨r1,rfl,f1⟩:=e.pre;obtain⟨r2,rfl,f2⟩:=e2.pre;refine⟨⟨r1++r2,by simp,λb m=>?_⟩,λb o q n t=>?_,λb ps q=>?_⟩
 .rcases mem_append.mp m with m|m
  .exact f1 b m
  .have z:=f2 b m;cases q:H b with
   |none=>rfl
   |some o=>
    by_cases n:b∈ρ
    .rcases h0.mut (jQ r1 n)with⟨y,w⟩|⟨y,w⟩<;>(rw[z]at w;cases w)
    .by_cases t:∃ps,o=.tbl ps
     .obtain⟨ps,rfl⟩:=t;obtain⟨ps',this⟩:=e.tab b ps q;rw[z]at this;cases this
     .have:=e.keep b o q n λps y=>t ⟨ps,y⟩;rw[z]at this;cases this
 .refine e2.keep b o (e.keep b o q n t) (λm=>?_) t;rcases mem_append.mp m with m|m
  .exact n m
  .have:=f1 b m;rw[q]at this;cases this
 .obtain⟨ps',q'⟩:=e.tab b ps q;exact e2.tab b ps' q'
mutual
theorem RD.mono(g:Grow H H')(r:List Addr):∀{d:D} {v:V},RD K ρ H d v->RD K (ρ++r) H' d v
 |.im i,v,h=>by simp only[RD]at h ⊢;exact h.grow g
 |.mu n,v,h=>by
  simp only[RD]at h ⊢;obtain⟨a,e,q⟩:=h;exact⟨a,by rw[List.getElem?_append_left (List.getElem?_eq_some_iff.mp e).1];exact e,q⟩
 |.tm ds,v,h=>by
  simp only[RD]at h ⊢;obtain⟨a,xs,e,q,z⟩:=h;exact⟨a,xs,e,g.sq q,RDs.mono g r z⟩
 |.ro ns,v,h=>by
  simp only[RD]at h ⊢;obtain⟨a,e,q⟩:=h;exact⟨a,e,q.grow g⟩
 |.op nm fs ds,v,h=>by
  simp only[RD]at h ⊢;obtain⟨a,xs,e,q,z⟩:=h;exact⟨a,xs,e,q.grow g,RDs.mono g r z⟩
theorem RDs.mono(g:Grow H H')(r:List Addr):∀{d:List D} {v:List V},RDs K ρ H d v->RDs K (ρ++r) H' d v
 |[],v,h=>by simpa only[RDs]using h
 |d::ds,v,h=>by
  simp only[RDs]at h ⊢;obtain⟨x,r',e,q,z⟩:=h;exact⟨x,r',e,q.mono g r,RDs.mono g r z⟩
end
theorem RKs.mono(g:Grow H H')(r:List Addr):∀{d:List (Key×D)} {v:List (Key×V)},RKs K ρ H d v->RKs K (ρ++r) H' d v
 |[],v,h=>by simpa only[RKs]using h
 |d::ds,v,h=>by
  simp only[RKs]at h ⊢;obtain⟨x,r',e,q1,q,z⟩:=h;exact⟨x,r',e,q1,q.mono g r,RKs.mono g r z⟩
theorem RC.mono(g:Grow H H')(r:List Addr)(h:RC K ρ H o ho):RC K (ρ++r) H' o ho:=by
 cases o with
 |lst ds=>obtain⟨xs,e,q⟩:=h;exact⟨xs,e,q.mono g r⟩
 |dic ds=>obtain⟨xs,e,q⟩:=h;exact⟨xs,e,q.mono g r⟩
def RD.ext(h:RH K ρ H hd)(e:Ext ρ H ρ' H')(q:RD K ρ H d v):RD K ρ' H' d v:=by
 obtain⟨r,rfl,_⟩:=e.pre;exact q.mono (e.grow h) r
def RDs.ext(h:RH K ρ H hd)(e:Ext ρ H ρ' H')(q:RDs K ρ H d v):RDs K ρ' H' d v:=by
 obtain⟨r,rfl,_⟩:=e.pre;exact q.mono (e.grow h) r
theorem RL.ext(h:RH K ρ H hd)(e:Ext ρ H ρ' H')(q:RL K ρ H ls σ):RL K ρ' H' ls σ:=
 ⟨q.len,λi d z=>let ⟨v,a,b⟩:=q.ob i d z;⟨v,a,b.ext h e⟩⟩
theorem RDs.len:∀{ds:List D} {xs:List V},RDs K ρ H ds xs->xs.length=ds.length
 |[],xs,h=>by simp only[RDs]at h;rw[h];rfl
 |d::ds,xs,h=>by
  simp only[RDs]at h;obtain⟨x,r,rfl,_,z⟩:=h;simp[RDs.len z]
theorem RDs.get:∀{ds:List D} {xs:List V} {i:Nat} {d:D},RDs K ρ H ds xs->ds[i]?=some d->∃x,xs[i]?=some x/\RD K ρ H d x
 |[],xs,i,d,h,e=>by simp at e
 |d::ds,xs,0,e,h,q=>by
  simp only[RDs]at h;obtain⟨x,r,rfl,z,_⟩:=h;simp at q;subst q;exact⟨x,rfl,z⟩
 |d::ds,xs,i+1,e,h,q=>by
  simp only[RDs]at h;obtain⟨x,r,rfl,_,z⟩:=h;obtain⟨y,a,b⟩:=RDs.get (i:=i) z (by simpa using q);exact⟨y,by simpa using a,b⟩
def RDs.nil:RDs K ρ H [] []:=by simp[RDs]
def RDs.cons(h:RD K ρ H d v)(t:RDs K ρ H ds vs):RDs K ρ H (d::ds) (v::vs):=by
 simp only[RDs];exact⟨v,vs,rfl,h,t⟩
theorem RDs.app:∀{ds es:List D} {xs ys:List V},RDs K ρ H ds xs->RDs K ρ H es ys->RDs K ρ H (ds++es) (xs++ys)
 |[],es,xs,ys,h,t=>by simp only[RDs]at h;subst h;simpa using t
 |d::ds,es,xs,ys,h,t=>by
  simp only[RDs]at h;obtain⟨x,r,rfl,z,q⟩:=h;simp only[jD];exact .cons z (q.app t)
theorem RDs.set:∀{ds:List D} {xs:List V} {d:D} {v:V} (i:Nat),RDs K ρ H ds xs->RD K ρ H d v->RDs K ρ H (ds.set i d) (xs.set i v)
 |[],xs,d,v,i,h,t=>by simp only[RDs]at h;subst h;simp[RDs]
 |d::ds,xs,e,v,0,h,t=>by
  simp only[RDs]at h;obtain⟨x,r,rfl,z,q⟩:=h;simpa using RDs.cons t q
 |d::ds,xs,e,v,i+1,h,t=>by
  simp only[RDs]at h;obtain⟨x,r,rfl,z,q⟩:=h;simpa using RDs.cons z (q.set i t)
theorem RDs.drop:∀{ds:List D} {xs:List V} (n:Nat),RDs K ρ H ds xs->RDs K ρ H (ds.drop n) (xs.drop n)
 |ds,xs,0,h=>by simpa using h
 |[],xs,n+1,h=>by simp only[RDs]at h;subst h;simp[RDs]
 |d::ds,xs,n+1,h=>by
  simp only[RDs]at h;obtain⟨x,r,rfl,z,q⟩:=h;simpa using q.drop n
theorem RDs.take:∀{ds:List D} {xs:List V} (n:Nat),RDs K ρ H ds xs->RDs K ρ H (ds.take n) (xs.take n)
 |ds,xs,0,h=>by simp[RDs]
 |[],xs,n+1,h=>by simp only[RDs]at h;subst h;simp[RDs]
 |d::ds,xs,n+1,h=>by
  simp only[RDs]at h;obtain⟨x,r,rfl,z,q⟩:=h;simpa using RDs.cons z (q.take n)
theorem RIs.ds:∀{is:List I} {xs:List V},RIs K H is xs->RDs K ρ H (is.map D.im) xs
 |[],xs,h=>by simpa only[RIs,RDs,jy]using h
 |i::is,xs,h=>by
  simp only[RIs]at h;obtain⟨x,r,rfl,z,q⟩:=h;exact .cons (by simpa only[RD]using z) q.ds
theorem RDs.is:∀{is:List I} {xs:List V},RDs K ρ H (is.map D.im) xs->RIs K H is xs
 |[],xs,h=>by simpa only[RIs,RDs,jy]using h
 |i::is,xs,h=>by
  simp only[je,RDs]at h;obtain⟨x,r,rfl,z,q⟩:=h;simp only[RIs];exact⟨x,r,rfl,by simpa only[RD]using z,q.is⟩
def RH.new(h:RH K ρ H hd)(ha:H a=none)(c:RC K ρ H o ho):RH K (ρ++[a]) (upd H a ho) (hd++[o])/\Ext ρ H (ρ++[a]) (upd H a ho):=by
 have out:a∉ρ:=λm=>by rcases h.mut m with⟨y,z⟩|⟨y,z⟩<;>(rw[ha]at z;cases z)
 have ex:Ext ρ H (ρ++[a]) (upd H a ho):=⟨⟨[a],rfl,λb m=>by simp at m;subst m;exact ha⟩,λb o q n _=>by rw[AD (AV q ha)];exact q,λb ps q=>⟨ps,by rw[AD (AV q ha)];exact q⟩⟩
 refine⟨⟨by simp[h.len],?_,h.tabs.upd (by simp[ha]) (by simp[ha]),λn o' b e1 e2=>?_⟩,ex⟩
 .rw[nodup_append];refine⟨h.nd,by simp,λx hx y hy z=>?_⟩;simp at hy;subst hy;subst z;exact out hx
 .have gr:=ex.grow h;by_cases hn:n<ρ.length
  .rw[List.getElem?_append_left hn]at e2;rw[List.getElem?_append_left (by rw[<- h.len];exact hn)]at e1;obtain⟨ho',q1,q2⟩:=h.ob n o' b e1 e2;exact⟨ho',by rw[AD (AV q1 ha)];exact q1,q2.mono gr [a]⟩
  .have hn':n=ρ.length:=by
    have:=(List.getElem?_eq_some_iff.mp e2).1;simp at this;omega
   subst hn';simp at e2;rw[h.len]at e1;simp at e1;subst e1;subst e2;exact⟨ho,AE,c.mono gr [a]⟩
def RH.put(h:RH K ρ H hd){n:Nat}(hn:ρ[n]?=some a)(c:RC K ρ H o ho):RH K ρ (upd H a ho) (hd.set n o)/\Ext ρ H ρ (upd H a ho):=by
 have ha:=h.mut (jt hn);have n1:∀ps,H a≠some (.tbl ps):=λps e=>by rcases ha with⟨y,z⟩|⟨y,z⟩<;>(rw[e]at z;cases z)
 have n2:∀φ,H a≠some (.ext φ):=λps e=>by rcases ha with⟨y,z⟩|⟨y,z⟩<;>(rw[e]at z;cases z)
 have ex:Ext ρ H ρ (upd H a ho):=⟨⟨[],by simp,by simp⟩,λb o q m _=>by
  have:b≠a:=λz=>m (by rw[z];exact jt hn);rw[AD this];exact q,λb ps q=>⟨ps,(AD (show b≠a from λz=>n1 ps (by rw[<- z];exact q))).trans q⟩⟩
 have gr:=ex.grow h;refine⟨⟨by simp[h.len],h.nd,h.tabs.upd n1 n2,λm o' b e1 e2=>?_⟩,ex⟩;have hm:m<hd.length:=by rw[<- h.len];exact(List.getElem?_eq_some_iff.mp e2).1
 by_cases hmn:m=n
 .subst hmn;rw[hn]at e2;cases e2;rw[List.getElem?_set_self hm]at e1;cases e1;exact⟨ho,AE,by simpa using c.mono gr []⟩
 .rw[List.getElem?_set_ne (λz=>hmn z.symm)]at e1;obtain⟨ho',q1,q2⟩:=h.ob m o' b e1 e2;have:b≠a:=λz=>by
   subst z;have l1:=(List.getElem?_eq_some_iff.mp e2).1;have l2:=(List.getElem?_eq_some_iff.mp hn).1;exact hmn ((List.getElem?_inj l1 h.nd).mp (e2.trans hn.symm))
  exact⟨ho',by rw[AD this];exact q1,by simpa using q2.mono gr []⟩
theorem RH.lst(h:RH K ρ H hd){n:Nat}(hn:ρ[n]?=some a)(e:hd[n]?=some (.lst ds)):∃xs,H a=some (.lst xs)/\RDs K ρ H ds xs:=by
 obtain⟨ho,q,xs,rfl,r⟩:=h.ob n _ a e hn;exact⟨xs,q,r⟩
theorem RH.dic(h:RH K ρ H hd){n:Nat}(hn:ρ[n]?=some a)(e:hd[n]?=some (.dic ds)):∃xs,H a=some (.dK xs)/\RKs K ρ H ds xs:=by
 obtain⟨ho,q,xs,rfl,r⟩:=h.ob n _ a e hn;exact⟨xs,q,r⟩
def RH.hid(h:RH K ρ H hd)(ha:H a=none):RH K ρ (upd H a ho) hd/\Ext ρ H ρ (upd H a ho):=by
 have out:a∉ρ:=λm=>by rcases h.mut m with⟨y,z⟩|⟨y,z⟩<;>(rw[ha]at z;cases z)
 have ex:Ext ρ H ρ (upd H a ho):=⟨⟨[],by simp,by simp⟩,λb o q n _=>by rw[AD (AV q ha)];exact q,λb ps q=>⟨ps,by rw[AD (AV q ha)];exact q⟩⟩
 have gr:=ex.grow h;refine⟨⟨h.len,h.nd,h.tabs.upd (by simp[ha]) (by simp[ha]),λm o' b e1 e2=>?_⟩,ex⟩;obtain⟨ho',q1,q2⟩:=h.ob m o' b e1 e2;exact⟨ho',by rw[AD (AV q1 ha)];exact q1,by simpa using q2.mono gr []⟩
def RH.hput(h:RH K ρ H hd)(out:a∉ρ)(hl:H a=some (.lst xs)):RH K ρ (upd H a ho) hd:=by
 have gr:Grow H (upd H a ho):=Grow.refl.put (.lst hl);refine⟨h.len,h.nd,h.tabs.upd (by simp[hl]) (by simp[hl]),λm o' b e1 e2=>?_⟩;obtain⟨ho',q1,q2⟩:=h.ob m o' b e1 e2;have:b≠a:=λz=>out (by rw[<- z];exact jt e2);exact⟨ho',by rw[AD this];exact q1,by simpa using q2.mono gr []⟩
end
end L2
namespace L2
open PySem PySem.Spec PyProof.Rows
noncomputable abbrev ME:=Ls->Hd->Option (D×Hd)
noncomputable abbrev MT:=Ls->Hd->Option (Bool×Hd)
noncomputable abbrev MA:=Ls->Hd->Option (List D×Hd)
inductive Fl where
 |nx (ls:Ls)|rt (d:D)|bk (ls:Ls)|ct (ls:Ls)
noncomputable abbrev MS:=Ls->Hd->Option (Fl×Hd)
section
variable(K:Frag)
def RE(t:TE)(m:ME):Prop:=∀(ρ:List Addr) (σ:St) (H:Hp) (hd:Hd) (ls:Ls) (Q:VK) (d:D) (hd':Hd),RH K ρ H hd->RL K ρ H ls σ->m ls hd=some (d,hd') ->
 (∀ρ' H' v,Ext ρ H ρ' H'->RH K ρ' H' hd'->RD K ρ' H' d v->Q v H')->t σ H Q
def RT(t:TT)(m:MT):Prop:=∀(ρ:List Addr) (σ:St) (H:Hp) (hd:Hd) (ls:Ls) (Q:Bool->Hp->Prop) (d:Bool) (hd':Hd),RH K ρ H hd->RL K ρ H ls σ->m ls hd=some (d,hd') ->
 (∀ρ' H',Ext ρ H ρ' H'->RH K ρ' H' hd'->Q d H')->t σ H Q
def RA(t:TA)(m:MA):Prop:=∀(ρ:List Addr) (σ:St) (H:Hp) (hd:Hd) (ls:Ls) (Q:List V->Hp->Prop) (d:List D) (hd':Hd),RH K ρ H hd->RL K ρ H ls σ->m ls hd=some (d,hd') ->
 (∀ρ' H' v,Ext ρ H ρ' H'->RH K ρ' H' hd'->RDs K ρ' H' d v->Q v H')->t σ H Q
def RN(t:TE)(m:MA):Prop:=∀(ρ:List Addr) (σ:St) (H:Hp) (hd:Hd) (ls:Ls) (Q:VK) (d:List D) (hd':Hd),RH K ρ H hd->RL K ρ H ls σ->m ls hd=some (d,hd') ->
 (∀ρ' H' a xs,Ext ρ H ρ' H'->RH K ρ' H' hd'->H a=none->a∉ρ'->H' a=some (.lst xs)->RDs K ρ' H' d xs->Q (.ref a) H')->t σ H Q
noncomputable def fk(E:Ends)(ρ:List Addr)(H:Hp):Fl->Prop
 |.nx ls=>∀σ,RL K ρ H ls σ->E.nx σ H
 |.bk ls=>∀σ,RL K ρ H ls σ->E.bk σ H
 |.ct ls=>∀σ,RL K ρ H ls σ->E.ct σ H
 |.rt d=>∀v,RD K ρ H d v->E.rt v H
def RS(t:TS)(m:MS):Prop:=∀(ρ:List Addr) (σ:St) (H:Hp) (hd:Hd) (ls:Ls) (E:Ends) (f:Fl) (hd':Hd),RH K ρ H hd->RL K ρ H ls σ->m ls hd=some (f,hd') ->
 (∀ρ' H',Ext ρ H ρ' H'->RH K ρ' H' hd'->fk K E ρ' H' f)->t E σ H
def RB(r:R2)(f:D->D->Hd->Option (D×Hd)):Prop:=∀(ρ:List Addr) (H:Hp) (hd:Hd) (d e:D) (v u:V) (Q:VK) (z:D) (hd':Hd),RH K ρ H hd->RD K ρ H d v->RD K ρ H e u->f d e hd=some (z,hd') ->
 (∀ρ' H' w,Ext ρ H ρ' H'->RH K ρ' H' hd'->RD K ρ' H' z w->Q w H')->r v u H Q
def RF(r:List V->Hp->VK->Prop)(f:List D->Hd->Option (D×Hd)):Prop:=∀(ρ:List Addr) (H:Hp) (hd:Hd) (ds:List D) (vs:List V) (Q:VK) (z:D) (hd':Hd),RH K ρ H hd->RDs K ρ H ds vs->f ds hd=some (z,hd') ->
 (∀ρ' H' w,Ext ρ H ρ' H'->RH K ρ' H' hd'->RD K ρ' H' z w->Q w H')->r vs H Q
def RG(tp:Bool)(r:List V->Hp->VK->Prop)(g:List D->Option D):Prop:=∀(ρ:List Addr) (H:Hp) (hd:Hd) (a:Addr) (xs:List V) (ds:List D) (Q:VK) (z:D),RH K ρ H hd->(SqL K H a xs∨(tp=true/\SqT K H a xs))->RDs K ρ H ds xs->g ds=some z ->
 (∀H' w,Ext ρ H ρ H'->RH K ρ H' hd->RD K ρ H' z w->Q w H')->r [.ref a] H Q
end
structure QE(K:Frag)(X:Cx)(e:Expr)(t:TE)(m:ME):Prop where
 p:PE X e t
 r:RE K t m
structure QT(K:Frag)(X:Cx)(e:Expr)(t:TT)(m:MT):Prop where
 p:PT X e t
 r:RT K t m
structure QW(K:Frag)(X:Cx)(e:Expr)(t:TT)(m:MT):Prop where
 p:PW X e t
 r:RT K t m
structure QA(K:Frag)(X:Cx)(e:List Expr)(t:TA)(m:MA):Prop where
 p:PA X e t
 r:RA K t m
structure QN(K:Frag)(X:Cx)(e:Expr)(t:TE)(m:MA):Prop where
 p:PE X e t
 r:RN K t m
structure QS(K:Frag)(X:Cx)(e:Stmt)(t:TS)(m:MS):Prop where
 p:PS X e t
 r:RS K t m
structure QSs(K:Frag)(X:Cx)(e:List Stmt)(t:TS)(m:MS):Prop where
 p:PSs X e t
 r:RS K t m
noncomputable def AL:D->Option (List D)
 |.im (.tup is)=>some (is.map .im)
 |.tm ds=>some ds
 |_=>none
noncomputable def BG(hd:Hd):D->Option (List D)
 |.mu n=>match hd[n]? with
  |some (.lst ds)=>some ds
  |_=>none
 |.ro ns=>some (ns.map λn=>.im (.int n))
 |_=>none
noncomputable def Aa(hd:Hd)(d:D):Option (List D):=match AL d with
 |some ds=>some ds
 |none=>BG hd d
noncomputable def B0:List D->Option (List I)
 |[]=>some []
 |.im i::r=>(B0 r).map (i::·)
 |_::_=>none
noncomputable def AO(ds:List D):D:=match B0 ds with
 |some is=>.im (.tup is)
 |none=>.tm ds
noncomputable def BF:List D->Option (List Int)
 |[]=>some []
 |.im (.int i)::r=>(BF r).map (i::·)
 |_::_=>none
noncomputable def CO:List D->Option (List Bool)
 |[]=>some []
 |.im (.bl i)::r=>(CO r).map (i::·)
 |_::_=>none
section
variable{K:Frag}
theorem Db:∀{ds:List D} {is:List I},B0 ds=some is->ds=is.map .im
 |[],is,h=>by simp[B0]at h;subst h;rfl
 |.im i::r,is,h=>by
  simp only[B0,Option.map_eq_some_iff]at h;obtain⟨js,e,rfl⟩:=h;simp[Db e]
 |.mu _::_,is,h=>by simp[B0]at h
 |.tm _::_,is,h=>by simp[B0]at h
 |.ro _::_,is,h=>by simp[B0]at h
 |.op _ _ _::_,is,h=>by simp[B0]at h
theorem EW:∀{ds:List D} {is:List Int},BF ds=some is->ds=is.map λi=>.im (.int i)
 |[],is,h=>by simp[BF]at h;subst h;rfl
 |.im (.int i)::r,is,h=>by
  simp only[BF,Option.map_eq_some_iff]at h;obtain⟨js,e,rfl⟩:=h;simp[EW e]
 |.im (.bl _)::_,is,h=>by simp[BF]at h
 |.im (.str _)::_,is,h=>by simp[BF]at h
 |.im .non::_,is,h=>by simp[BF]at h
 |.im (.tup _)::_,is,h=>by simp[BF]at h
 |.mu _::_,is,h=>by simp[BF]at h
 |.tm _::_,is,h=>by simp[BF]at h
 |.ro _::_,is,h=>by simp[BF]at h
 |.op _ _ _::_,is,h=>by simp[BF]at h
theorem Oa:∀{ds:List D} {is:List Bool},CO ds=some is->ds=is.map λi=>.im (.bl i)
 |[],is,h=>by simp[CO]at h;subst h;rfl
 |.im (.bl i)::r,is,h=>by
  simp only[CO,Option.map_eq_some_iff]at h;obtain⟨js,e,rfl⟩:=h;simp[Oa e]
 |.im (.int _)::_,is,h=>by simp[CO]at h
 |.im (.str _)::_,is,h=>by simp[CO]at h
 |.im .non::_,is,h=>by simp[CO]at h
 |.im (.tup _)::_,is,h=>by simp[CO]at h
 |.mu _::_,is,h=>by simp[CO]at h
 |.tm _::_,is,h=>by simp[CO]at h
 |.ro _::_,is,h=>by simp[CO]at h
 |.op _ _ _::_,is,h=>by simp[CO]at h
@[simp] theorem Sx(is:List I):B0 (is.map .im)=some is:=by induction is<;>simp_all [B0]
@[simp] theorem S8(is:List Int):BF (is.map λi=>.im (.int i))=some is:=by induction is<;>simp_all [BF]
@[simp] theorem VY(is:List Bool):CO (is.map λi=>.im (.bl i))=some is:=by induction is<;>simp_all [CO]
theorem FF:∀{ns:List Int} {xs:List V},RDs K ρ H (ns.map λi=>.im (.int i)) xs->xs=ns.map V.int
 |[],xs,h=>by simpa [RDs]using h
 |n::ns,xs,h=>by
  simp only[je,RDs,RD,RI]at h;obtain⟨x,r,rfl,rfl,z⟩:=h;rw[FF z];rfl
theorem FQ:∀{ns:List Int},RDs K ρ H (ns.map λi=>.im (.int i)) (ns.map V.int)
 |[]=>by simp[RDs]
 |n::ns=>by simp only[je];exact .cons (by simp[RD,RI]) FQ
theorem RV:∀{ns:List Bool} {xs:List V},RDs K ρ H (ns.map λi=>.im (.bl i)) xs->xs=ns.map V.bl
 |[],xs,h=>by simpa [RDs]using h
 |n::ns,xs,h=>by
  simp only[je,RDs,RD,RI]at h;obtain⟨x,r,rfl,rfl,z⟩:=h;rw[RV z];rfl
theorem RD.tup(h:RD K ρ H d v)(e:AL d=some ds):∃a xs,v=.ref a/\SqT K H a xs/\RDs K ρ H ds xs:=by
 cases d with
 |im i=>
  cases i with
  |tup is=>
   simp only[AL,Option.some.injEq]at e;subst e;simp only[RD,RI]at h;obtain⟨a,xs,rfl,q,r⟩:=h;exact⟨a,xs,rfl,q,r.ds⟩
  |_=>simp[AL]at e
 |tm es=>
  simp only[AL,Option.some.injEq]at e;subst e;simpa only[RD]using h
 |_=>simp[AL]at e
theorem RD.lst(hR:RH K ρ H hd)(h:RD K ρ H d v)(e:BG hd d=some ds):∃a xs,v=.ref a/\SqL K H a xs/\RDs K ρ H ds xs:=by
 cases d with
 |mu n=>
  simp only[BG]at e;simp only[RD]at h;obtain⟨a,hn,rfl⟩:=h;split at e
  .next q=>
   cases e;obtain⟨xs,e1,e2⟩:=hR.lst hn q;exact⟨a,xs,rfl,SqL.of e1,e2⟩
  .cases e
 |ro ns=>
  simp only[BG,Option.some.injEq]at e;subst e;simp only[RD]at h;obtain⟨a,rfl,q⟩:=h;exact⟨a,_,rfl,q.sq,FQ⟩
 |_=>simp[BG]at e
def RD.seq(hR:RH K ρ H hd)(h:RD K ρ H d v)(e:Aa hd d=some ds):∃a xs,v=.ref a/\(SqL K H a xs∨SqT K H a xs)/\RDs K ρ H ds xs:=by
 unfold Aa at e;split at e
 .next q=>
  cases e;obtain⟨a,xs,e1,e2,e3⟩:=h.tup q;exact⟨a,xs,e1,.inr e2,e3⟩
 .obtain⟨a,xs,e1,e2,e3⟩:=h.lst hR e;exact⟨a,xs,e1,.inl e2,e3⟩
def BA(q:SqT K H a xs)(r:RDs K ρ H ds xs):RD K ρ H (AO ds) (.ref a):=by
 unfold AO;split
 .next e=>
  rw[Db e]at r;simp only[RD,RI];exact⟨a,xs,rfl,q,r.is⟩
 .simp only[RD];exact⟨a,xs,rfl,q,r⟩
@[simp] theorem AN(ds:List D):AL (AO ds)=some ds:=by
 unfold AO;split
 .next e=>simp[AL,Db e]
 .rfl
noncomputable def A0(i:Nat):ME:=λls hd=>match ls[i]? with
 |some (some d)=>some (d,hd)
 |_=>none
def aM{i:Nat}:RE K (TU i) (A0 i):=by
 and_intros;unfold A0 at hm;split at hm
 .next e=>
  cases hm;obtain⟨v,e1,e2⟩:=hL.ob i _ e;exact⟨v,e1,hQ ρ H v .refl hR e2⟩
 .cases hm
noncomputable def mC(i:I):ME:=λ_ hd=>some (.im i,hd)
def PB(h:∀H,RI K H i v):RE K (tC v) (mC i):=by
 and_intros;cases hm;exact hQ ρ H v .refl hR (by simpa only[RD]using h H)
noncomputable def mOp(f:D->D->Hd->Option (D×Hd))(ma mb:ME):ME:=λls hd=>(ma ls hd).bind λp=>(mb ls p.2).bind λq=>f p.1 q.1 q.2
def Kw{f:D->D->Hd->Option (D×Hd)}(hr:RB K r f)(ha:RE K ta ma)(hb:RE K tb mb):RE K (tOp r ta tb) (mOp f ma mb):=by
 and_intros;obtain⟨⟨d1,h1⟩,e1,hm⟩:=j6 hm;obtain⟨⟨d2,h2⟩,e2,hm⟩:=j6 hm;refine ha ρ σ H hd ls _ d1 h1 hR hL e1 λρ1 H1 v1 x1 R1 r1=>?_;refine hb ρ1 σ H1 h1 ls _ d2 h2 R1 (hL.ext hR x1) e2 λρ2 H2 v2 x2 R2 r2=>?_;exact hr ρ2 H2 h2 d1 d2 v1 v2 Q d hd' R2 (r1.ext R1 x2) r2 hm λρ' H' w x3 R3 r3=>hQ ρ' H' w ((x1.trans R1 x2).trans R2 x3) R3 r3
noncomputable def Ba(ta tb:MT):MT:=λls hd=>(ta ls hd).bind λp=>if p.1=true then tb ls p.2 else some (false,p.2)
noncomputable def mOr(ta tb:MT):MT:=λls hd=>(ta ls hd).bind λp=>if p.1=true then some (true,p.2)else tb ls p.2
noncomputable def CN(ta:MT):MT:=λls hd=>(ta ls hd).bind λp=>some (!p.1,p.2)
def a7(ha:RT K ta ma)(hb:RT K tb mb):RT K (Ta ta tb) (Ba ma mb):=by
 and_intros;obtain⟨⟨d1,h1⟩,e1,hm⟩:=j6 hm;refine ha ρ σ H hd ls _ d1 h1 hR hL e1 λρ1 H1 x1 R1=>?_;cases d1 with
 |true=>
  rw[j9 rfl]at hm ⊢;exact hb ρ1 σ H1 h1 ls Q d hd' R1 (hL.ext hR x1) hm λρ2 H2 x2 R2=>hQ ρ2 H2 (x1.trans R1 x2) R2
 |false=>
  rw[ja Bool.false_ne_true]at hm ⊢;cases hm;exact hQ ρ1 H1 x1 R1
def eM(ha:RT K ta ma)(hb:RT K tb mb):RT K (tOr ta tb) (mOr ma mb):=by
 and_intros;obtain⟨⟨d1,h1⟩,e1,hm⟩:=j6 hm;refine ha ρ σ H hd ls _ d1 h1 hR hL e1 λρ1 H1 x1 R1=>?_;cases d1 with
 |true=>
  rw[j9 rfl]at hm ⊢;cases hm;exact hQ ρ1 H1 x1 R1
 |false=>
  rw[ja Bool.false_ne_true]at hm ⊢;exact hb ρ1 σ H1 h1 ls Q d hd' R1 (hL.ext hR x1) hm λρ2 H2 x2 R2=>hQ ρ2 H2 (x1.trans R1 x2) R2
def Zz(ha:RT K ta ma):RT K (TV ta) (CN ma):=by
 and_intros;obtain⟨⟨d1,h1⟩,e1,hm⟩:=j6 hm;cases hm;exact ha ρ σ H hd ls _ d1 h1 hR hL e1 λρ1 H1 x1 R1=>hQ ρ1 H1 x1 R1
open Classical in
noncomputable def Co(hd:Hd):D->Option Bool
 |.im .non=>some false
 |.im (.bl b)=>some b
 |.im (.int i)=>some (i != 0)
 |.im (.str x)=>if Bg x.length then some ((x.length:Int) != 0)else none
 |.im (.tup is)=>some (!is.isEmpty)
 |.tm is=>some (!is.isEmpty)
 |.ro ns=>some (!ns.isEmpty)
 |.op _ _ _=>none
 |.mu n=>match hd[n]? with
  |some (.lst ds)=>some (!ds.isEmpty)
  |some (.dic ds)=>some (!ds.isEmpty)
  |none=>none
def Cu{α β:Type}{xs:List α}{ys:List β}(h:xs.length=ys.length):xs.isEmpty=ys.isEmpty:=by
 cases xs<;>cases ys<;>simp_all
theorem RKs.len:∀{ds:List (Key×D)} {xs:List (Key×V)},RKs K ρ H ds xs->xs.length=ds.length
 |[],xs,h=>by simp only[RKs]at h;rw[h];rfl
 |d::ds,xs,h=>by
  simp only[RKs]at h;obtain⟨x,r,rfl,_,_,z⟩:=h;simp[RKs.len z]
def Wn{b:Bool}(hR:RH K ρ H hd)(h:RD K ρ H d v)(e:Co hd d=some b):NO K v H b:=by
 cases d with
 |im i=>
  cases i with
  |non=>simp only[RD,RI]at h;subst h;simp only[Co,Option.some.injEq]at e;subst e;exact rfl
  |bl c=>simp only[RD,RI]at h;subst h;simp only[Co,Option.some.injEq]at e;subst e;exact rfl
  |int c=>simp only[RD,RI]at h;subst h;simp only[Co,Option.some.injEq]at e;subst e;exact rfl
  |str c=>
   simp only[RD,RI]at h;subst h;simp only[Co]at e;split at e
   .next z=>cases e;exact⟨z,rfl⟩
   .cases e
  |tup is=>
   obtain⟨a,xs,rfl,q,r⟩:=h.tup (ds:=is.map .im) rfl;simp only[Co,Option.some.injEq]at e;subst e;exact .inr (.inl ⟨xs,q,by rw[Cu (show xs.length=is.length by simpa using r.len)]⟩)
 |tm ds=>
  obtain⟨a,xs,rfl,q,r⟩:=h.tup (ds:=ds) rfl;simp only[Co,Option.some.injEq]at e;subst e;exact .inr (.inl ⟨xs,q,by rw[Cu r.len]⟩)
 |ro ns=>
  obtain⟨a,xs,rfl,q,r⟩:=h.lst hR (hd:=hd) (ds:=ns.map λn=>.im (.int n)) rfl;simp only[Co,Option.some.injEq]at e;subst e;exact .inl ⟨xs,q,by rw[Cu (show xs.length=ns.length by simpa using r.len)]⟩
 |op _ _ _=>simp[Co]at e
 |mu n=>
  simp only[RD]at h;obtain⟨a,hn,rfl⟩:=h;simp only[Co]at e;split at e
  .next q=>
   cases e;obtain⟨xs,e1,e2⟩:=hR.lst hn q;exact .inl ⟨xs,SqL.of e1,by rw[Cu e2.len]⟩
  .next q=>
   cases e;obtain⟨xs,e1,e2⟩:=hR.dic hn q;exact .inr (.inr ⟨xs,e1,by rw[Cu e2.len]⟩)
  .cases e
noncomputable def BD(ma:ME):MT:=λls hd=>(ma ls hd).bind λp=>(Co p.2 p.1).map (·,p.2)
def Tq(ha:RE K ta ma):RT K (λσ H Q=>ta σ H λx H'=>∃k,NO K x H' k/\Q k H') (BD ma):=by
 and_intros;obtain⟨⟨d1,h1⟩,e1,hm⟩:=j6 hm;obtain⟨b,e2,e3⟩:=j7 hm;cases e3;exact ha ρ σ H hd ls _ d1 h1 hR hL e1 λρ1 H1 v x1 R1 r1=>⟨_,Wn R1 r1 e2,hQ ρ1 H1 x1 R1⟩
noncomputable def A6(ma:ME):MT:=λls hd=>(ma ls hd).bind λp=>match p.1 with
 |.im (.bl b)=>some (b,p.2)
 |_=>none
def DS(ha:RE K ta ma):RT K (Ff ta) (A6 ma):=by
 and_intros;obtain⟨⟨d1,h1⟩,e1,hm⟩:=j6 hm;dsimp only at hm;split at hm
 .cases hm;exact ha ρ σ H hd ls _ _ _ hR hL e1 λρ1 H1 v x1 R1 r1=>⟨_,by simpa only[RD,RI]using r1,hQ ρ1 H1 x1 R1⟩
 .cases hm
def a8(ha:RE K ta ma):RT K (tB ta) (A6 ma):=DS ha
noncomputable def mIf(c:MT)(ma mb:ME):ME:=λls hd=>(c ls hd).bind λp=>if p.1=true then ma ls p.2 else mb ls p.2
def eQ(hc:RT K tc c)(ha:RE K ta ma)(hb:RE K tb mb):RE K (tIf tc ta tb) (mIf c ma mb):=by
 and_intros;obtain⟨⟨d1,h1⟩,e1,hm⟩:=j6 hm;refine hc ρ σ H hd ls _ d1 h1 hR hL e1 λρ1 H1 x1 R1=>?_;cases d1 with
 |true=>
  rw[j9 rfl]at hm ⊢;exact ha ρ1 σ H1 h1 ls Q d hd' R1 (hL.ext hR x1) hm λρ2 H2 v x2 R2 r2=>hQ ρ2 H2 v (x1.trans R1 x2) R2 r2
 |false=>
  rw[ja Bool.false_ne_true]at hm ⊢;exact hb ρ1 σ H1 h1 ls Q d hd' R1 (hL.ext hR x1) hm λρ2 H2 v x2 R2 r2=>hQ ρ2 H2 v (x1.trans R1 x2) R2 r2
noncomputable def El(ma mb:ME):ME:=λls hd=>(A6 ma ls hd).bind λp=>if p.1=true then mb ls p.2 else some (.im (.bl false),p.2)
noncomputable def gL(ma mb:ME):ME:=λls hd=>(A6 ma ls hd).bind λp=>if p.1=true then some (.im (.bl true),p.2)else mb ls p.2
noncomputable def HV(ma:ME):ME:=λls hd=>(A6 ma ls hd).bind λp=>some (.im (.bl (!p.1)),p.2)
def Xb(ha:RE K ta ma)(hb:RE K tb mb):RE K (P1 ta tb) (El ma mb):=by
 and_intros;obtain⟨⟨d1,h1⟩,e1,hm⟩:=j6 hm;refine DS ha ρ σ H hd ls (λc H1=>if c=true then tb σ H1 Q else Q (.bl false) H1) d1 h1 hR hL e1 λρ1 H1 x1 R1=>?_;cases d1 with
 |true=>
  rw[j9 rfl]at hm ⊢;exact hb ρ1 σ H1 h1 ls Q d hd' R1 (hL.ext hR x1) hm λρ2 H2 v x2 R2 r2=>hQ ρ2 H2 v (x1.trans R1 x2) R2 r2
 |false=>
  rw[ja Bool.false_ne_true]at hm ⊢;cases hm;exact hQ ρ1 H1 _ x1 R1 (by simp[RD,RI])
def XT(ha:RE K ta ma):RE K (Oy ta) (HV ma):=by
 and_intros;obtain⟨⟨d1,h1⟩,e1,hm⟩:=j6 hm;cases hm;exact DS ha ρ σ H hd ls (λc H1=>Q (.bl (!c)) H1) d1 h1 hR hL e1 λρ1 H1 x1 R1=>hQ ρ1 H1 _ x1 R1 (by simp[RD,RI])
noncomputable def A4:MA:=λ_ hd=>some ([],hd)
noncomputable def A1(ma:ME)(mr:MA):MA:=λls hd=>(ma ls hd).bind λp=>(mr ls p.2).bind λq=>some (p.1::q.1,q.2)
def MN:RA K Aq A4:=by
 and_intros;cases hm;exact hQ ρ H [] .refl hR .nil
def Xg(ha:RE K ta ma)(hr:RA K tr mr):RA K (AZ ta tr) (A1 ma mr):=by
 and_intros;obtain⟨⟨d1,h1⟩,e1,hm⟩:=j6 hm;obtain⟨⟨d2,h2⟩,e2,hm⟩:=j6 hm;cases hm;refine ha ρ σ H hd ls _ d1 h1 hR hL e1 λρ1 H1 v1 x1 R1 r1=>?_;exact hr ρ1 σ H1 h1 ls _ d2 _ R1 (hL.ext hR x1) e2 λρ2 H2 v2 x2 R2 r2=>hQ ρ2 H2 _ (x1.trans R1 x2) R2 (.cons (r1.ext R1 x2) r2)
open Classical in
noncomputable def Ad(ma:MA):ME:=λls hd=>(ma ls hd).bind λp=>if Bg p.1.length then some (AO p.1,p.2)else none
def aN(h:RA K t m):RE K (JY t) (Ad m):=by
 and_intros;obtain⟨⟨d1,h1⟩,e1,hm⟩:=j6 hm;dsimp only at hm;split at hm
 .next z=>
  cases hm;refine h ρ σ H hd ls _ d1 _ hR hL e1 λρ1 H1 v1 x1 R1 r1=>⟨by rw[r1.len];exact z,λp hp=>?_⟩
  obtain⟨R2,x2⟩:=R1.hid (ho:=.tup v1) hp;exact hQ ρ1 _ _ (x1.trans R1 x2) R2 (BA (SqT.of AE) (r1.ext R1 x2))
 .cases hm
open Classical in
noncomputable def Am(ma:MA):MA:=λls hd=>(ma ls hd).bind λp=>if Bg p.1.length then some (p.1,p.2)else none
def RH.out(hR:RH K ρ H hd)(h:H a=none):a∉ρ:=λm=>by rcases hR.mut m with⟨y,z⟩|⟨y,z⟩<;>(rw[h]at z;cases z)
theorem Ext.none(e:Ext ρ H ρ' H')(hR:RH K ρ H hd)(h:H' a=none)(hR':RH K ρ' H' hd'):H a=none:=by
 cases q:H a with
 |none=>rfl
 |some o=>
  by_cases m:a∈ρ
  .obtain⟨r,rfl,_⟩:=e.pre;exact absurd (jQ r m) (hR'.out h)
  .by_cases t:∃ps,o=.tbl ps
   .obtain⟨ps,rfl⟩:=t;obtain⟨ps',this⟩:=e.tab a ps q;rw[h]at this;cases this
   .rw[e.keep a o q m λps y=>t ⟨ps,y⟩]at h;cases h
def aA(h:RA K t m):RN K (TW t) (Am m):=by
 and_intros;obtain⟨⟨d1,h1⟩,e1,hm⟩:=j6 hm;dsimp only at hm;split at hm
 .next z=>
  cases hm;refine h ρ σ H hd ls _ _ _ hR hL e1 λρ1 H1 v1 x1 R1 r1=>⟨by rw[r1.len];exact z,λp hp=>?_⟩
  obtain⟨R2,x2⟩:=R1.hid (ho:=.lst v1) hp;exact hQ ρ1 _ p v1 (x1.trans R1 x2) R2 (x1.none hR hp R1) (R1.out hp) AE (r1.ext R1 x2)
 .cases hm
noncomputable def Ag(ml:MA):ME:=λls hd=>(ml ls hd).bind λp=>some (.mu p.2.length,p.2++[.lst p.1])
def RH.name(hR:RH K ρ H hd)(out:a∉ρ)(e:H a=some (.lst xs))(r:RDs K ρ H ds xs):RH K (ρ++[a]) H (hd++[.lst ds]):=by
 have mono:∀{o:MO} {ho:HO},RC K ρ H o ho->RC K (ρ++[a]) H o ho:=λc=>c.mono Grow.refl [a];refine⟨by simp[hR.len],?_,hR.tabs,λn o' b e1 e2=>?_⟩
 .rw[nodup_append];refine⟨hR.nd,by simp,λx hx y hy z=>?_⟩;simp at hy;subst hy;subst z;exact out hx
 .by_cases hn:n<ρ.length
  .rw[List.getElem?_append_left hn]at e2;rw[List.getElem?_append_left (by rw[<- hR.len];exact hn)]at e1;obtain⟨ho',q1,q2⟩:=hR.ob n o' b e1 e2;exact⟨ho',q1,mono q2⟩
  .have hn':n=ρ.length:=by
    have:=(List.getElem?_eq_some_iff.mp e2).1;simp at this;omega
   subst hn';simp at e2;rw[hR.len]at e1;simp at e1;subst e1;subst e2;exact⟨_,e,mono ⟨xs,rfl,r⟩⟩
def Ext.name(e:Ext ρ H ρ' H')(h:H a=Option.none):Ext ρ H (ρ'++[a]) H':=by
 obtain⟨r,rfl,f⟩:=e.pre;refine⟨⟨r++[a],by simp,λb m=>?_⟩,e.keep,e.tab⟩;rcases mem_append.mp m with m|m
 .exact f b m
 .simp at m;subst m;exact h
def RQ(h:RN K t m):RE K t (Ag m):=by
 and_intros;obtain⟨⟨d1,h1⟩,e1,hm⟩:=j6 hm;cases hm;refine h ρ σ H hd ls Q d1 h1 hR hL e1 λρ1 H1 a xs x1 R1 na oa ea r1=>?_;refine hQ (ρ1++[a]) H1 _ (x1.name na) (R1.name oa ea r1) ?_;simp only[RD];exact⟨a,by rw[<- R1.len];simp,rfl⟩
end
section
variable{K:Frag}{ρ ρ':List Addr}{H H':Hp}{hd hd':Hd}
noncomputable def fI(g:Int->Int->Option I):D->D->Hd->Option (D×Hd)
 |.im (.int i),.im (.int j),hd=>(g i j).map (.im ·,hd)
 |_,_,_=>none
def Gf{C:Int->Int->Prop}{g:Int->Int->V}{f:Int->Int->Option I}(h:∀i j z,f i j=some z->C i j/\∀H,RI K H z (g i j)):RB K (rI C g) (fI f):=by
 intro ρ H hd d e v u Q z hd' hR h1 h2 hf hQ;unfold fI at hf;split at hf
 .simp only[RD,RI]at h1 h2;subst h1 h2;obtain⟨w,e1,e2⟩:=j7 hf;cases e2;obtain⟨c,r⟩:=h _ _ _ e1;exact⟨_,_,rfl,rfl,c,hQ ρ H _ .refl hR (by simpa only[RD]using r H)⟩
 .cases hf
def Fq{g:Int->Int->V}{f:Int->Int->I}(h:∀i j H,RI K H (f i j) (g i j)):RB K (rI0 g) (fI λi j=>some (f i j)):=by
 intro ρ H hd d e v u Q z hd' hR h1 h2 hf hQ;unfold fI at hf;split at hf
 .simp only[RD,RI]at h1 h2;subst h1 h2;cases hf;exact⟨_,_,rfl,rfl,hQ ρ H _ .refl hR (by simpa only[RD]using h _ _ H)⟩
 .cases hf
noncomputable def CC(f g:D->D->Hd->Option (D×Hd)):D->D->Hd->Option (D×Hd):=λd e hd=>match f d e hd with
 |some z=>some z
 |none=>g d e hd
def FG{r r':R2}{f g:D->D->Hd->Option (D×Hd)}(h:RB K r f)(h':RB K r' g):RB K (λx y H Q=>r x y H Q∨r' x y H Q) (CC f g):=by
 intro ρ H hd d e v u Q z hd' hR h1 h2 hf hQ;unfold CC at hf;split at hf
 .next q=>cases hf;exact .inl (h ρ H hd d e v u Q z hd' hR h1 h2 q hQ)
 .exact .inr (h' ρ H hd d e v u Q z hd' hR h1 h2 hf hQ)
noncomputable abbrev Mv:D->D->Hd->Option (D×Hd):=fI λi j=>some (.int (i+j))
noncomputable abbrev BS:D->D->Hd->Option (D×Hd):=fI λi j=>some (.int (i-j))
def RW:RB K (rI0 λi j=>.int (i+j)) Mv:=Fq λ_ _ _=>by simp[RI]
def aX:RB K (rI0 λi j=>.int (i-j)) BS:=Fq λ_ _ _=>by simp[RI]
open Classical in
noncomputable abbrev BY:D->D->Hd->Option (D×Hd):=fI λi j=>if E8 i j then some (.int (i*j))else none
def ae:RB K (rI CMul λi j=>.int (i*j)) BY:=Gf λi j z h=>by
 split at h
 .next q=>cases h;exact⟨q,λ_=>by simp[RI]⟩
 .cases h
open Classical in
noncomputable abbrev Ce:D->D->Hd->Option (D×Hd):=fI λi j=>if Dh j then some (.int (i%j))else none
def af:RB K (rI (λ_ j=>0<j) λi j=>.int (i%j)) Ce:=Gf λi j z h=>by
 split at h
 .next q=>cases h;exact⟨q,λ_=>by simp[RI]⟩
 .cases h
open Classical in
noncomputable abbrev GC:D->D->Hd->Option (D×Hd):=fI λi j=>if LJ j then some (.int (i/j))else none
def Xe:RB K (rI eB λi j=>.int (i/j)) GC:=Gf λi j z h=>by
 split at h
 .next q=>cases h;exact⟨q,λ_=>by simp[RI]⟩
 .cases h
open Classical in
noncomputable abbrev GB:D->D->Hd->Option (D×Hd):=fI λi j=>if Ef i j then some (.int (i^j.toNat))else none
def aa:RB K (rI QD λi j=>.int (i^j.toNat)) GB:=Gf λi j z h=>by
 split at h
 .next q=>cases h;exact⟨q,λ_=>by simp[RI]⟩
 .cases h
noncomputable abbrev gLt:D->D->Hd->Option (D×Hd):=fI λi j=>some (.bl (decide (i<j)))
noncomputable abbrev gLe:D->D->Hd->Option (D×Hd):=fI λi j=>some (.bl (decide (i<=j)))
noncomputable abbrev gGt:D->D->Hd->Option (D×Hd):=fI λi j=>some (.bl (decide (j<i)))
noncomputable abbrev gGe:D->D->Hd->Option (D×Hd):=fI λi j=>some (.bl (decide (j<=i)))
def Kx:RB K (rI0 λi j=>.bl (decide (i<j))) gLt:=Fq λ_ _ _=>by simp[RI]
def eR:RB K (rI0 λi j=>.bl (decide (i<=j))) gLe:=Fq λ_ _ _=>by simp[RI]
def Vt:RB K (rI0 λi j=>.bl (decide (j<i))) gGt:=Fq λ_ _ _=>by simp[RI]
def Vu:RB K (rI0 λi j=>.bl (decide (j<=i))) gGe:=Fq λ_ _ _=>by simp[RI]
noncomputable def scI:I->Option V
 |.non=>some .non
 |.bl b=>some (.bl b)
 |.int i=>some (.int i)
 |.str x=>some (.str x)
 |.tup _=>none
def Ip{i:I}{v w:V}(e:scI i=some w)(h:RI K H i v):v=w:=by
 cases i with
 |tup _=>simp[scI]at e
 |_=>simp only[scI,Option.some.injEq]at e;subst e;simpa only[RI]using h
noncomputable def Ez(neg:Bool):D->D->Hd->Option (D×Hd)
 |.im i,.im j,hd=>match scI i,scI j with
  |some x,some y=>if Ly x y=true then some (.im (.bl (if neg then !decide (x=y)else decide (x=y))),hd)else none
  |_,_=>none
 |_,_,_=>none
def ag:RB K rEq (Ez false):=by
 intro ρ H hd d e v u Q z hd' hR h1 h2 hf hQ;unfold Ez at hf;split at hf
 .split at hf
  .next x y e1 e2=>
   split at hf
   .next s=>
    cases hf;simp only[RD]at h1 h2;rw[Ip e1 h1,Ip e2 h2];exact⟨s,hQ ρ H _ .refl hR (by simp[RD,RI])⟩
   .cases hf
  .cases hf
 .cases hf
def ac:RB K rNe (Ez true):=by
 intro ρ H hd d e v u Q z hd' hR h1 h2 hf hQ;unfold Ez at hf;split at hf
 .split at hf
  .next x y e1 e2=>
   split at hf
   .next s=>
    cases hf;simp only[RD]at h1 h2;rw[Ip e1 h1,Ip e2 h2];exact⟨s,hQ ρ H _ .refl hR (by simp[RD,RI])⟩
   .cases hf
  .cases hf
 .cases hf
mutual
noncomputable def I.py:I->PyData
 |.non=>.none
 |.bl b=>.bool b
 |.int i=>.int i
 |.str x=>.str x
 |.tup ds=>.tuple (I.pys ds)
noncomputable def I.pys:List I->List PyData
 |[]=>[]
 |d::ds=>I.py d::I.pys ds
end
mutual
theorem RI.rep:∀{i:I} {v:V},RI K H i v->Rep K H i.py v
 |.non,v,h=>by simpa only[RI,I.py,Rep]using h
 |.bl _,v,h=>by simpa only[RI,I.py,Rep]using h
 |.int _,v,h=>by simpa only[RI,I.py,Rep]using h
 |.str _,v,h=>by simpa only[RI,I.py,Rep]using h
 |.tup ds,v,h=>by
  simp only[RI]at h;obtain⟨a,xs,e,q,r⟩:=h;simp only[I.py,Rep];exact⟨a,xs,e,q,RIs.rep r⟩
theorem RIs.rep:∀{i:List I} {v:List V},RIs K H i v->Bc K H (I.pys i) v
 |[],v,h=>by simpa only[RIs,I.pys,Bc]using h
 |d::ds,v,h=>by
  simp only[RIs]at h;obtain⟨x,r,e,q,z⟩:=h;simp only[I.pys,Bc];exact⟨x,r,e,q.rep,RIs.rep z⟩
end
noncomputable def pyD(hd:Hd):D->Option PyData
 |.im i=>some i.py
 |.mu n=>match hd[n]? with
  |some (.lst ds)=>(B0 ds).map λis=>.list (I.pys is)
  |_=>none
 |.ro ns=>some (.list (I.pys (ns.map I.int)))
 |_=>none
def DT{d:D}{v:V}{p:PyData}(hR:RH K ρ H hd)(h:RD K ρ H d v)(e:pyD hd d=some p):Rep K H p v:=by
 cases d with
 |im i=>simp only[pyD,Option.some.injEq]at e;subst e;simp only[RD]at h;exact h.rep
 |mu n=>
  simp only[pyD]at e;simp only[RD]at h;obtain⟨a,hn,rfl⟩:=h;split at e
  .next q=>
   obtain⟨is,e1,rfl⟩:=j7 e;obtain⟨xs,e2,e3⟩:=hR.lst hn q;rw[Db e1]at e3;simp only[Rep];exact⟨a,xs,rfl,SqL.of e2,e3.is.rep⟩
  .cases e
 |ro ns=>
  simp only[pyD,Option.some.injEq]at e;subst e;obtain⟨a,xs,rfl,q,r⟩:=h.lst hR (hd:=hd) (ds:=ns.map λn=>.im (.int n)) rfl;simp only[Rep];refine⟨a,xs,rfl,q,RIs.rep (RDs.is (ρ:=ρ) ?_)⟩;rw[jx];exact r
 |tm _=>simp[pyD]at e
 |op _ _ _=>simp[pyD]at e
noncomputable def Jw(neg:Bool):D->D->Hd->Option (D×Hd):=λd e hd=>match pyD hd d,pyD hd e with
 |some x,some y=>if x.canLay0=true/\y.canLay0=true/\min x.depth y.depth<=60 then some (.im (.bl (if neg then !PyData.eqv x y else PyData.eqv x y)),hd)else none
 |_,_=>none
def ah:RB K (PL K) (Jw false):=by
 intro ρ H hd d e v u Q z hd' hR h1 h2 hf hQ;unfold Jw at hf;split at hf
 .next e1 e2=>
  split at hf
  .next c=>cases hf;exact⟨_,_,DT hR h1 e1,DT hR h2 e2,c.1,c.2.1,c.2.2,hQ ρ H _ .refl hR (by simp[RD,RI])⟩
  .cases hf
 .cases hf
def ad:RB K (UC K) (Jw true):=by
 intro ρ H hd d e v u Q z hd' hR h1 h2 hf hQ;unfold Jw at hf;split at hf
 .next e1 e2=>
  split at hf
  .next c=>cases hf;exact⟨_,_,DT hR h1 e1,DT hR h2 e2,c.1,c.2.1,c.2.2,hQ ρ H _ .refl hR (by simp[RD,RI])⟩
  .cases hf
 .cases hf
noncomputable abbrev gEq:=CC (Ez false) (Jw false)
noncomputable abbrev gNe:=CC (Ez true) (Jw true)
noncomputable def gIx:D->D->Hd->Option (D×Hd)
 |d,.im (.int i),hd=>(Aa hd d).bind λds=>(atI ds i).map (·,hd)
 |_,_,_=>none
def Od{α β:Type}{xs:List α}{ys:List β}{i:Int}{y:β}(h:xs.length=ys.length)(e:atI ys i=some y):∃(j:Nat),ys[j]?=some y/\∀x,xs[j]?=some x->atI xs i=some x:=by
 unfold atI at e;obtain⟨j,e1,e2⟩:=j6 e;exact⟨j,e2,λx q=>by unfold atI;rw[h,e1];exact q⟩
noncomputable def Kz(K:Frag):R2:=λx y H Q=>UE K x y H Q∨UD K x y H Q
def eU:RB K (Kz K) gIx:=by
 intro ρ H hd d e v u Q z hd' hR h1 h2 hf hQ;unfold gIx at hf;split at hf
 .obtain⟨ds,e1,hf⟩:=j6 hf;obtain⟨w,e2,e3⟩:=j7 hf;cases e3;obtain⟨a,xs,rfl,q,r⟩:=h1.seq hR e1;simp only[RD,RI]at h2;subst h2;obtain⟨j,j1,j2⟩:=Od r.len e2;obtain⟨x,x1,x2⟩:=r.get j1;rcases q with q|q
  .exact .inl ⟨a,xs,_,x,rfl,rfl,q,j2 x x1,hQ ρ H x .refl hR x2⟩
  .exact .inr ⟨a,xs,_,x,rfl,rfl,q,j2 x x1,hQ ρ H x .refl hR x2⟩
 .cases hf
noncomputable def Bi(xs:List D)(lo hi:Option Int):List D:=(xs.drop (HT.sIx xs.length 0 lo)).take (HT.sIx xs.length xs.length hi-HT.sIx xs.length 0 lo)
def OW{ds:List D}{xs:List V}{lo hi:Option Int}(r:RDs K ρ H ds xs):RDs K ρ H (Bi ds lo hi) (F7 xs lo hi):=by
 unfold Bi F7;rw[r.len];exact(r.drop _).take _
noncomputable abbrev MO1:=Ls->Hd->Option (Option Int×Hd)
def RO1(K:Frag)(t:TO)(m:MO1):Prop:=∀(ρ:List Addr) (σ:St) (H:Hp) (hd:Hd) (ls:Ls) (Q:Option Int->Hp->Prop) (d:Option Int) (hd':Hd),RH K ρ H hd->RL K ρ H ls σ->m ls hd=some (d,hd') ->
 (∀ρ' H',Ext ρ H ρ' H'->RH K ρ' H' hd'->Q d H')->t σ H Q
noncomputable def B4:MO1:=λ_ hd=>some (none,hd)
noncomputable def BX(m:ME):MO1:=λls hd=>(m ls hd).bind λp=>match p.1 with
 |.im (.int i)=>some (some i,p.2)
 |_=>none
def XB:RO1 K Ja B4:=by
 and_intros;cases hm;exact hQ ρ H .refl hR
def XA{t:TE}{m:ME}(h:RE K t m):RO1 K (Ox t) (BX m):=by
 and_intros;obtain⟨⟨d1,h1⟩,e1,hm⟩:=j6 hm;dsimp only at hm;split at hm
 .cases hm;exact h ρ σ H hd ls _ _ _ hR hL e1 λρ1 H1 v x1 R1 r1=>⟨_,by simpa only[RD,RI]using r1,hQ ρ1 H1 x1 R1⟩
 .cases hm
noncomputable def gK(m:ME)(ml mh:MO1):ME:=λls hd=>(m ls hd).bind λp=>(ml ls p.2).bind λl=>(mh ls l.2).bind λh=>(AL p.1).bind λds=>
 if ¬ (HT.sIx ds.length 0 l.1=0/\HT.sIx ds.length ds.length h.1=ds.length)then some (AO (Bi ds l.1 h.1),h.2)else none
noncomputable def Jr(m:ME)(ml mh:MO1):MA:=λls hd=>(m ls hd).bind λp=>(ml ls p.2).bind λl=>(mh ls l.2).bind λh=>(BG h.2 p.1).bind λds=>some (Bi ds l.1 h.1,h.2)
def a9{t:TE}{tl th:TO}{m:ME}{ml mh:MO1}(h:RE K t m)(hl:RO1 K tl ml)(hh:RO1 K th mh):RN K (tSl (PH K) t tl th) (Jr m ml mh):=by
 and_intros;obtain⟨⟨d1,h1⟩,e1,hm⟩:=j6 hm;obtain⟨⟨d2,h2⟩,e2,hm⟩:=j6 hm;obtain⟨⟨d3,h3⟩,e3,hm⟩:=j6 hm;obtain⟨ds,e4,hm⟩:=j6 hm;dsimp only at e2 e3 e4 hm;cases hm;refine h ρ σ H hd ls _ d1 h1 hR hL e1 λρ1 H1 v1 x1 R1 r1=>?_;refine hl ρ1 σ H1 h1 ls _ d2 h2 R1 (hL.ext hR x1) e2 λρ2 H2 x2 R2=>?_;refine hh ρ2 σ H2 h2 ls _ d3 _ R2 (hL.ext hR (x1.trans R1 x2)) e3 λρ3 H3 x3 R3=>?_;obtain⟨a,xs,rfl,q,r⟩:=RD.lst R3 ((r1.ext R1 x2).ext R2 x3) e4;refine⟨a,xs,rfl,q,λp hp=>?_⟩;obtain⟨R4,x4⟩:=R3.hid (ho:=.lst (F7 xs d2 d3)) hp;have x123:=(x1.trans R1 x2).trans R2 x3;exact hQ ρ3 _ p _ (x123.trans R3 x4) R4 (x123.none hR hp R3) (R3.out hp) AE ((OW r).ext R3 x4)
noncomputable def mCB(f:List D->Hd->Option (D×Hd))(ma:MA):ME:=λls hd=>(ma ls hd).bind λp=>f p.1 p.2
def Vr{r:List V->Hp->VK->Prop}{f:List D->Hd->Option (D×Hd)}{t:TA}{m:MA}(hr:RF K r f)(h:RA K t m):RE K (tCB r t) (mCB f m):=by
 and_intros;obtain⟨⟨d1,h1⟩,e1,hm⟩:=j6 hm;refine h ρ σ H hd ls _ d1 h1 hR hL e1 λρ1 H1 v1 x1 R1 r1=>?_;exact hr ρ1 H1 h1 d1 v1 Q d hd' R1 r1 hm λρ' H' w x2 R2 r2=>hQ ρ' H' w (x1.trans R1 x2) R2 r2
noncomputable def f1(tp:Bool)(g:List D->Option D):List D->Hd->Option (D×Hd)
 |[d],hd=>((if tp then Aa hd d else BG hd d)).bind λds=>(g ds).map (·,hd)
 |_,_=>none
def Jf{tp:Bool}{r:List V->Hp->VK->Prop}{g:List D->Option D}(h:RG K tp r g):RF K r (f1 tp g):=by
 intro ρ H hd ds vs Q z hd' hR h1 hf hQ;unfold f1 at hf;split at hf
 .next d hd'=>
  obtain⟨es,e1,hf⟩:=j6 hf;obtain⟨w,e2,e3⟩:=j7 hf;cases e3;simp only[RDs]at h1;obtain⟨x,r,rfl,rx,rfl⟩:=h1;cases tp with
  |true=>
   rw[j9 rfl]at e1;obtain⟨a,xs,rfl,q,rr⟩:=rx.seq hR e1;exact h ρ H hd a xs es Q z hR (q.imp id λq=>⟨rfl,q⟩) rr e2 λH' w x R r=>hQ ρ H' w x R r
  |false=>
   rw[ja Bool.false_ne_true]at e1;obtain⟨a,xs,rfl,q,rr⟩:=rx.lst hR e1;exact h ρ H hd a xs es Q z hR (.inl q) rr e2 λH' w x R r=>hQ ρ H' w x R r
 .cases hf
noncomputable def BI(g:List D->Option D)(ml:MA):ME:=λls hd=>(ml ls hd).bind λp=>(g p.1).map (·,p.2)
def RU{tp:Bool}{r:List V->Hp->VK->Prop}{g:List D->Option D}{t:TE}{m:MA}(hr:RG K tp r g)(h:RN K t m):RE K (tCB r (AZ t Aq)) (BI g m):=by
 and_intros;obtain⟨⟨d1,h1⟩,e1,hm⟩:=j6 hm;obtain⟨w,e2,e3⟩:=j7 hm;cases e3;refine h ρ σ H hd ls _ d1 _ hR hL e1 λρ1 H1 a xs x1 R1 na oa ea r1=>?_;exact hr ρ1 H1 _ a xs d1 Q d R1 (.inl (SqL.of ea)) r1 e2 λH' w x R r=>hQ ρ1 H' w (x1.trans R1 x) R r
noncomputable def BM(ds:List D):Option D:=some (.im (.int ds.length))
def aI:RG K true (ao K) BM:=by
 intro ρ H hd a xs ds Q z hR q r e hQ;cases e;refine⟨a,xs,rfl,q.imp id λq=>q.2,?_⟩;rw[r.len];exact hQ H _ .refl hR (by simp[RD,RI])
noncomputable def Bq(ds:List D):Option D:=some (AO ds)
def MC:RG K true (MP K) Bq:=by
 intro ρ H hd a xs ds Q z hR q r e hQ;cases e;refine⟨a,xs,rfl,?_⟩;rcases q with q|⟨_,q⟩
 .refine .inl ⟨q,λp hp=>?_⟩;obtain⟨R2,x2⟩:=hR.hid (ho:=.tup xs) hp;exact hQ _ _ x2 R2 (BA (SqT.of AE) (r.ext hR x2))
 .exact .inr ⟨q,hQ H _ .refl hR (BA q r)⟩
noncomputable def Gw(ds:List D):Option D:=(BF ds).map λns=>.im (.int ns.sum)
def gA(K:Frag):List V->Hp->VK->Prop:=λxs H Q=>Vw K xs H Q∨Vv K xs H Q
def RJ:RG K true (gA K) Gw:=by
 intro ρ H hd a xs ds Q z hR q r e hQ;obtain⟨ns,e1,rfl⟩:=j7 e;rw[EW e1]at r;have:=FF r;subst this;rcases q with q|⟨_,q⟩
 .exact .inl ⟨a,ns,rfl,q,hQ H _ .refl hR (by simp[RD,RI])⟩
 .exact .inr ⟨a,ns,rfl,q,hQ H _ .refl hR (by simp[RD,RI])⟩
noncomputable def Mk(ds:List D):Option D:=(CO ds).map λbs=>.im (.bl (bs.any id))
def RP:RG K false (ap K) Mk:=by
 intro ρ H hd a xs ds Q z hR q r e hQ;obtain⟨ns,e1,rfl⟩:=j7 e;rw[Oa e1]at r;have:=RV r;subst this;rcases q with q|⟨q,_⟩
 .exact⟨a,ns,rfl,q,hQ H _ .refl hR (by simp[RD,RI])⟩
 .cases q
noncomputable def E1:List Int->Int
 |[]=>0
 |[x]=>x
 |x::r=>if E1 r>x then E1 r else x
noncomputable def ES:List Int->Int
 |[]=>0
 |[x]=>x
 |x::r=>if ES r<x then ES r else x
theorem Dw:∀{xs:List Int},xs≠[]->E1 xs∈xs/\∀x∈xs,x<=E1 xs
 |[],h=>absurd rfl h
 |[x],_=>by simp[E1]
 |x::y::r,_=>by
  obtain⟨h1,h2⟩:=Dw (xs:=y::r) (by simp);rw[E1];split
  .next h=>exact⟨jq _ h1,λz m=>by rcases mem_cons.mp m with rfl|m;omega;exact h2 z m⟩
  .next h=>exact⟨jw,λz m=>by rcases mem_cons.mp m with rfl|m;omega;exact Int.le_trans (h2 z m) (by omega)⟩
  .simp
theorem Eh:∀{xs:List Int},xs≠[]->ES xs∈xs/\∀x∈xs,ES xs<=x
 |[],h=>absurd rfl h
 |[x],_=>by simp[ES]
 |x::y::r,_=>by
  obtain⟨h1,h2⟩:=Eh (xs:=y::r) (by simp);rw[ES];split
  .next h=>exact⟨jq _ h1,λz m=>by rcases mem_cons.mp m with rfl|m;omega;exact h2 z m⟩
  .next h=>exact⟨jw,λz m=>by rcases mem_cons.mp m with rfl|m;omega;exact Int.le_trans (by omega) (h2 z m)⟩
  .simp
noncomputable def G7(ds:List D):Option D:=(BF ds).bind λns=>if ns=[]then none else some (.im (.int (E1 ns)))
noncomputable def G6(ds:List D):Option D:=(BF ds).bind λns=>if ns=[]then none else some (.im (.int (ES ns)))
def gC(K:Frag):List V->Hp->VK->Prop:=λxs H Q=>Vz K xs H Q∨Vy K xs H Q
def FO{α:Type}{xs:List α}(h:xs≠[]):0<xs.length:=by cases xs<;>simp_all
def RO:RG K true (gC K) G7:=by
 intro ρ H hd a xs ds Q z hR q r e hQ;obtain⟨ns,e1,e⟩:=j6 e;split at e
 .cases e
 .next hn=>
  cases e;rw[EW e1]at r;have:=FF r;subst this;have u:∀M:Int,M∈ns->(∀x∈ns,x<=M)->M=E1 ns:=λM m1 m2=>by
   obtain⟨n1,n2⟩:=Dw hn;have:=n2 M m1;have:=m2 _ n1;omega
  rcases q with q|⟨_,q⟩
  .exact .inl ⟨a,ns,rfl,q,FO hn,λM m1 m2=>by rw[u M m1 m2];exact hQ H _ .refl hR (by simp[RD,RI])⟩
  .exact .inr ⟨a,ns,rfl,q,FO hn,λM m1 m2=>by rw[u M m1 m2];exact hQ H _ .refl hR (by simp[RD,RI])⟩
def RK:RG K false (Vx K) G6:=by
 intro ρ H hd a xs ds Q z hR q r e hQ;obtain⟨ns,e1,e⟩:=j6 e;split at e
 .cases e
 .next hn=>
  cases e;rw[EW e1]at r;have:=FF r;subst this;have u:∀M:Int,M∈ns->(∀x∈ns,M<=x)->M=ES ns:=λM m1 m2=>by
   obtain⟨n1,n2⟩:=Eh hn;have:=n2 M m1;have:=m2 _ n1;omega
  rcases q with q|⟨q,_⟩
  .exact⟨a,ns,rfl,q,FO hn,λM m1 m2=>by rw[u M m1 m2];exact hQ H _ .refl hR (by simp[RD,RI])⟩
  .cases q
noncomputable def EA:List D->Hd->Option (D×Hd)
 |[.im (.int i),.im (.int j)],hd=>some (.im (.int (if j>i then j else i)),hd)
 |_,_=>none
noncomputable def Hc:List D->Hd->Option (D×Hd)
 |[.im (.int i),.im (.int j)],hd=>some (.im (.int (if j<i then j else i)),hd)
 |_,_=>none
def XJ:RF K (λxs H Q=>∃i j,xs=[.int i,.int j]/\Q (.int (if j>i then j else i)) H) EA:=by
 intro ρ H hd ds vs Q z hd' hR h1 hf hQ;unfold EA at hf;split at hf
 .cases hf;simp only[RDs,RD,RI]at h1;obtain⟨x,r,rfl,rfl,y,r2,rfl,rfl,rfl⟩:=h1;exact⟨_,_,rfl,hQ ρ H _ .refl hR (by simp[RD,RI])⟩
 .cases hf
def XH:RF K (λxs H Q=>∃i j,xs=[.int i,.int j]/\Q (.int (if j<i then j else i)) H) Hc:=by
 intro ρ H hd ds vs Q z hd' hR h1 hf hQ;unfold Hc at hf;split at hf
 .cases hf;simp only[RDs,RD,RI]at h1;obtain⟨x,r,rfl,rfl,y,r2,rfl,rfl,rfl⟩:=h1;exact⟨_,_,rfl,hQ ρ H _ .refl hR (by simp[RD,RI])⟩
 .cases hf
noncomputable def F1:List D->Hd->Option (D×Hd)
 |[.im (.int i)],hd=>some (.im (.int (if i<0 then -i else i)),hd)
 |_,_=>none
def aK:RF K (λxs H Q=>∃i,xs=[.int i]/\Q (.int (if i<0 then -i else i)) H) F1:=by
 intro ρ H hd ds vs Q z hd' hR h1 hf hQ;unfold F1 at hf;split at hf
 .cases hf;simp only[RDs,RD,RI]at h1;obtain⟨x,r,rfl,rfl,rfl⟩:=h1;exact⟨_,rfl,hQ ρ H _ .refl hR (by simp[RD,RI])⟩
 .cases hf
noncomputable def Fv(ma:ME):MA:=λls hd=>(ma ls hd).bind λp=>(Aa p.2 p.1).map (·,p.2)
def XD{t:TE}{m:ME}(h:RE K t m):RN K (tCB (FH K) (AZ t Aq)) (Fv m):=by
 and_intros;obtain⟨⟨d1,h1⟩,e1,hm⟩:=j6 hm;obtain⟨w,e2,e3⟩:=j7 hm;cases e3;refine h ρ σ H hd ls _ d1 _ hR hL e1 λρ1 H1 v x1 R1 r1=>?_;obtain⟨a,xs,rfl,q,rr⟩:=r1.seq R1 e2;refine⟨a,xs,rfl,q,λl hl=>?_⟩;obtain⟨R2,x2⟩:=R1.hid (ho:=.lst xs) hl;exact hQ ρ1 _ l xs (x1.trans R1 x2) R2 (x1.none hR hl R1) (R1.out hl) AE (rr.ext R1 x2)
noncomputable def Gm(ml:MA):MA:=ml
def Tx{t:TE}{m:MA}(h:RN K t m):RN K (tCB (FH K) (AZ t Aq)) (Gm m):=by
 and_intros;refine h ρ σ H hd ls _ d _ hR hL hm λρ1 H1 a xs x1 R1 na oa ea r1=>?_;refine⟨a,xs,rfl,.inl (SqL.of ea),λl hl=>?_⟩;obtain⟨R2,x2⟩:=R1.hid (ho:=.lst xs) hl;exact hQ ρ1 _ l xs (x1.trans R1 x2) R2 (x1.none hR hl R1) (R1.out hl) AE (r1.ext R1 x2)
def Gi(d:PyData):Prop:=d.showable=true/\d.hasDict=false/\isDisplay d=true/\d.depth<=30/\d.shown.length<=sizeLine
open Classical in
noncomputable def HA:List D->Hd->Option (D×Hd)
 |[.im (.int i)],hd=>if fv i.natAbs.log2 then some (.im (.str (toString i)),hd)else none
 |_,_=>none
def U2:RF K (λxs H Q=>∃i,xs=[.int i]/\i.natAbs.log2<1920/\Q (.str (toString i)) H) HA:=by
 intro ρ H hd ds vs Q z hd' hR h1 hf hQ;unfold HA at hf;split at hf
 .split at hf
  .next c=>
   cases hf;simp only[RDs,RD,RI]at h1;obtain⟨x,r,rfl,rfl,rfl⟩:=h1;exact⟨_,rfl,c,hQ ρ H _ .refl hR (by simp[RD,RI])⟩
  .cases hf
 .cases hf
noncomputable def GF:I->Option V
 |.non=>some .non
 |.bl b=>some (.bl b)
 |.int i=>some (.int i)
 |.str x=>some (.str x)
 |.tup _=>none
noncomputable def Cf:List D->Option (List V)
 |[]=>some []
 |.im i::r=>(GF i).bind λv=>(Cf r).map (v::·)
 |_::_=>none
def Mx{i:I}{v w:V}(e:GF i=some w)(h:RI K H i v):v=w/\Dl w=true:=by
 cases i with
 |tup _=>simp[GF]at e
 |_=>simp only[GF,Option.some.injEq]at e;subst e;exact⟨by simpa only[RI]using h,rfl⟩
theorem KW:∀{ds:List D} {vs ws:List V},Cf ds=some ws->RDs K ρ H ds vs->vs=ws/\ws.all Dl=true
 |[],vs,ws,e,h=>by simp[Cf]at e;subst e;simp only[RDs]at h;subst h;exact⟨rfl,rfl⟩
 |.im i::r,vs,ws,e,h=>by
  simp only[Cf]at e;obtain⟨v,e1,e⟩:=j6 e;obtain⟨us,e2,rfl⟩:=j7 e;simp only[RDs,RD]at h;obtain⟨x,y,rfl,h1,h2⟩:=h;obtain⟨rfl,f1⟩:=Mx e1 h1;obtain⟨rfl,f2⟩:=KW e2 h2;exact⟨rfl,by simp[f1,f2]⟩
 |.mu _::_,_,_,e,_=>by simp[Cf]at e
 |.tm _::_,_,_,e,_=>by simp[Cf]at e
 |.ro _::_,_,_,e,_=>by simp[Cf]at e
 |.op _ _ _::_,_,_,e,_=>by simp[Cf]at e
noncomputable def gIn(neg:Bool):D->D->Hd->Option (D×Hd)
 |.im i,e,hd=>(GF i).bind λx=>(Aa hd e).bind λds=>(Cf ds).map λxs=>(.im (.bl (if neg then !inV x xs else inV x xs)),hd)
 |_,_,_=>none
def PD{neg:Bool}:RB K (rIn K neg) (gIn neg):=by
 intro ρ H hd d e v u Q z hd' hR h1 h2 hf hQ;unfold gIn at hf;split at hf
 .obtain⟨x,e1,hf⟩:=j6 hf;obtain⟨ds,e2,hf⟩:=j6 hf;obtain⟨xs,e3,e4⟩:=j7 hf;cases e4;simp only[RD]at h1;obtain⟨rfl,f1⟩:=Mx e1 h1;obtain⟨a,ys,rfl,q,r⟩:=h2.seq hR e2;obtain⟨rfl,f2⟩:=KW e3 r;exact⟨a,ys,rfl,q,f1,f2,hQ ρ H _ .refl hR (by simp[RD,RI])⟩
 .cases hf
noncomputable def mMt(f:D->List D->Hd->Option (D×Hd))(mo:ME)(ma:MA):ME:=λls hd=>(mo ls hd).bind λp=>match BG p.2 p.1 with
 |some _=>(ma ls p.2).bind λq=>f p.1 q.1 q.2
 |none=>none
def RM(K:Frag)(r:V->List V->Hp->VK->Prop)(f:D->List D->Hd->Option (D×Hd)):Prop:=∀(ρ:List Addr) (H:Hp) (hd:Hd) (d:D) (v:V) (ds:List D) (vs:List V) (Q:VK) (z:D) (hd':Hd),RH K ρ H hd->RD K ρ H d v->RDs K ρ H ds vs->f d ds hd=some (z,hd') ->
 (∀ρ' H' w,Ext ρ H ρ' H'->RH K ρ' H' hd'->RD K ρ' H' z w->Q w H')->r v vs H Q
def Vq{r:V->List V->Hp->VK->Prop}{f:D->List D->Hd->Option (D×Hd)}{to:TE}{t:TA}{mo:ME}{ma:MA}(hr:RM K r f)(ho:RE K to mo)(ha:RA K t ma):RE K (tBM K "list" r to t) (mMt f mo ma):=by
 and_intros;obtain⟨⟨d1,h1⟩,e1,hm⟩:=j6 hm;dsimp only at hm;split at hm
 .next e=>
  obtain⟨⟨d2,h2⟩,e2,hm⟩:=j6 hm;refine ho ρ σ H hd ls _ d1 h1 hR hL e1 λρ1 H1 v x1 R1 r1=>⟨?_,?_⟩
  .obtain⟨a,xs,rfl,q,_⟩:=r1.lst R1 e;exact .inl ⟨rfl,xs,q⟩
  .exact ha ρ1 σ H1 h1 ls _ d2 h2 R1 (hL.ext hR x1) e2 λρ2 H2 vs x2 R2 r2=>hr ρ2 H2 h2 d1 v d2 vs Q d hd' R2 (r1.ext R1 x2) r2 hm λρ' H' w x3 R3 r3=>hQ ρ' H' w ((x1.trans R1 x2).trans R2 x3) R3 r3
 .cases hm
def aQ{r:V->List V->Hp->VK->Prop}{f:D->List D->Hd->Option (D×Hd)}{to:TE}{mo:ME}(hr:RM K r f)(ho:RE K to mo):RE K (TZ K "list" r to) (mMt f mo A4):=Vq (t:=Aq) hr ho MN
open Classical in
noncomputable def B5:D->List D->Hd->Option (D×Hd)
 |.mu n,[x],hd=>match hd[n]? with
  |some (.lst ds)=>if DN ds.length then some (.im .non,hd.set n (.lst (ds++[x])))else none
  |_=>none
 |_,_,_=>none
def Qz:RM K O9 B5:=by
 intro ρ H hd d v ds vs Q z hd' hR h1 h2 hf hQ;unfold B5 at hf;split at hf
 .split at hf
  .next q=>
   split at hf
   .next c=>
    cases hf;simp only[RD]at h1;obtain⟨a,hn,rfl⟩:=h1;simp only[RDs]at h2;obtain⟨x,r,rfl,rx,rfl⟩:=h2;obtain⟨xs,e1,e2⟩:=hR.lst hn q;obtain⟨R2,x2⟩:=hR.put hn (o:=.lst (_++[_])) (ho:=.lst (xs++[x])) ⟨_,rfl,e2.app (.cons rx .nil)⟩;exact⟨a,xs,x,rfl,rfl,e1,by rw[e2.len];exact c,hQ ρ _ _ x2 R2 (by simp[RD,RI])⟩
   .cases hf
  .cases hf
 .cases hf
noncomputable def HB:D->List D->Hd->Option (D×Hd)
 |.mu n,[],hd=>match hd[n]? with
  |some (.lst ds)=>(ds[ds.length-1]?).map λy=>(y,hd.set n (.lst ds.dropLast))
  |_=>none
 |_,_,_=>none
theorem RDs.dropLast{ds:List D}{xs:List V}(h:RDs K ρ H ds xs):RDs K ρ H ds.dropLast xs.dropLast:=by
 rw[List.dropLast_eq_take,List.dropLast_eq_take,h.len];exact h.take _
def aD:RM K am HB:=by
 intro ρ H hd d v ds vs Q z hd' hR h1 h2 hf hQ;unfold HB at hf;split at hf
 .split at hf
  .next q=>
   obtain⟨y,e0,e3⟩:=j7 hf;cases e3;simp only[RD]at h1;obtain⟨a,hn,rfl⟩:=h1;simp only[RDs]at h2;subst h2;obtain⟨xs,e1,e2⟩:=hR.lst hn q;obtain⟨x,x1,x3⟩:=e2.get e0;obtain⟨R2,x2⟩:=hR.put hn (o:=.lst _) (ho:=.lst xs.dropLast) ⟨_,rfl,e2.dropLast⟩;exact⟨a,xs,x,rfl,rfl,e1,by rw[e2.len];exact x1,hQ ρ _ _ x2 R2 (x3.ext hR x2)⟩
  .cases hf
 .cases hf
end
end L2
namespace L2
open PySem PySem.Spec PyProof.Rows
section
variable{K:Frag}
noncomputable def AM:MS:=λls hd=>some (.nx ls,hd)
def Jd:RS K HL AM:=by
 intro ρ σ H hd ls E f hd' hR hL hm hQ;cases hm;exact hQ ρ H .refl hR σ hL
noncomputable def A5(a b:MS):MS:=λls hd=>(a ls hd).bind λp=>match p.1 with
 |.nx ls1=>b ls1 p.2
 |f=>some (f,p.2)
def Qu(ha:RS K t a)(hb:RS K u b):RS K (Lc t u) (A5 a b):=by
 intro ρ σ H hd ls E f hd' hR hL hm hQ;obtain⟨⟨f1,h1⟩,e1,hm⟩:=j6 hm;refine ha ρ σ H hd ls { E with nx:=u E } f1 h1 hR hL e1 λρ1 H1 x1 R1=>?_;cases f1 with
 |nx ls1=>
  intro σ1 L1;exact hb ρ1 σ1 H1 h1 ls1 E f hd' R1 L1 hm λρ2 H2 x2 R2=>hQ ρ2 H2 (x1.trans R1 x2) R2
 |bk ls1=>cases hm;exact hQ ρ1 H1 x1 R1
 |ct ls1=>cases hm;exact hQ ρ1 H1 x1 R1
 |rt d=>cases hm;exact hQ ρ1 H1 x1 R1
noncomputable def cq:MS:=λls hd=>some (.bk ls,hd)
noncomputable def fR:MS:=λls hd=>some (.ct ls,hd)
noncomputable def Bp(m:ME):MS:=λls hd=>(m ls hd).bind λp=>some (.nx ls,p.2)
def X8(h:RE K t m):RS K (Oz t) (Bp m):=by
 intro ρ σ H hd ls E f hd' hR hL hm hQ;obtain⟨⟨d1,h1⟩,e1,hm⟩:=j6 hm;cases hm;exact h ρ σ H hd ls _ d1 _ hR hL e1 λρ1 H1 v x1 R1 r1=>hQ ρ1 H1 x1 R1 σ (hL.ext hR x1)
noncomputable def AI(m:ME):MS:=λls hd=>(m ls hd).bind λp=>some (.rt p.1,p.2)
def M7(h:RE K t m):RS K (IE t) (AI m):=by
 intro ρ σ H hd ls E f hd' hR hL hm hQ;obtain⟨⟨d1,h1⟩,e1,hm⟩:=j6 hm;cases hm;exact h ρ σ H hd ls _ d1 _ hR hL e1 λρ1 H1 v x1 R1 r1=>hQ ρ1 H1 x1 R1 v r1
noncomputable def fO:MS:=λ_ hd=>some (.rt (.im .non),hd)
noncomputable def AS(c:MT)(a b:MS):MS:=λls hd=>(c ls hd).bind λp=>if p.1=true then a ls p.2 else b ls p.2
def Vo(hc:RT K tc c)(ha:RS K t a)(hb:RS K u b):RS K (Lg tc t u) (AS c a b):=by
 intro ρ σ H hd ls E f hd' hR hL hm hQ;obtain⟨⟨d1,h1⟩,e1,hm⟩:=j6 hm;refine hc ρ σ H hd ls _ d1 h1 hR hL e1 λρ1 H1 x1 R1=>?_;cases d1 with
 |true=>
  rw[j9 rfl]at hm ⊢;exact ha ρ1 σ H1 h1 ls E f hd' R1 (hL.ext hR x1) hm λρ2 H2 x2 R2=>hQ ρ2 H2 (x1.trans R1 x2) R2
 |false=>
  rw[ja Bool.false_ne_true]at hm ⊢;exact hb ρ1 σ H1 h1 ls E f hd' R1 (hL.ext hR x1) hm λρ2 H2 x2 R2=>hQ ρ2 H2 (x1.trans R1 x2) R2
noncomputable def CH:MS:=λ_ _=>none
def M9:RS K Ie CH:=by
 intro ρ σ H hd ls E f hd' hR hL hm hQ;cases hm
noncomputable abbrev MG:=D->Ls->Hd->Option Ls
noncomputable abbrev MGs:=List D->Ls->Hd->Option Ls
def RGt(K:Frag)(t:TG)(m:MG):Prop:=∀(ρ:List Addr) (σ:St) (H:Hp) (hd:Hd) (ls ls':Ls) (d:D) (v:V) (Q:St->Hp->Prop),RH K ρ H hd->RL K ρ H ls σ->RD K ρ H d v->m d ls hd=some ls' ->
 (∀σ',RL K ρ H ls' σ'->Q σ' H)->t v σ H Q
def NP(K:Frag)(t:TGs)(m:MGs):Prop:=∀(ρ:List Addr) (σ:St) (H:Hp) (hd:Hd) (ls ls':Ls) (d:List D) (v:List V) (Q:St->Hp->Prop),RH K ρ H hd->RL K ρ H ls σ->RDs K ρ H d v->m d ls hd=some ls' ->
 (∀σ',RL K ρ H ls' σ'->Q σ' H)->t v σ H Q
theorem RL.set(h:RL K ρ H ls σ)(i:Nat)(r:RD K ρ H d v):RL K ρ H (ls.set i (some d)) (σ.set i (some v)):=by
 refine⟨by simp[h.len],λj e q=>?_⟩;by_cases hij:i=j
 .subst hij;have hl:i<ls.length:=by
   have:=(List.getElem?_eq_some_iff.mp q).1;simpa using this
  rw[List.getElem?_set_self hl]at q;cases q;exact⟨v,by rw[List.getElem?_set_self (by rw[<- h.len];exact hl)],r⟩
 .rw[List.getElem?_set_ne hij]at q;obtain⟨w,e1,e2⟩:=h.ob j e q;exact⟨w,by rw[List.getElem?_set_ne hij];exact e1,e2⟩
noncomputable def AF(i:Nat):MG:=λd ls _=>some (ls.set i (some d))
def Je{i:Nat}:RGt K (Dk i) (AF i):=by
 intro ρ σ H hd ls ls' d v Q hR hL hd hm hQ;cases hm;exact hQ _ (hL.set i hd)
noncomputable def C8:MGs:=λds ls _=>match ds with
 |[]=>some ls
 |_=>none
noncomputable def Af(m:MG)(r:MGs):MGs:=λds ls hd=>match ds with
 |d::es=>(m d ls hd).bind λls1=>r es ls1 hd
 |[]=>none
def XG:NP K VL C8:=by
 intro ρ σ H hd ls ls' d v Q hR hL hd hm hQ;cases d with
 |nil=>
  simp only[RDs]at hd;subst hd;cases hm;exact⟨rfl,hQ _ hL⟩
 |cons a b=>cases hm
def U1(h:RGt K t m)(h':NP K u r):NP K (Pn t u) (Af m r):=by
 intro ρ σ H hd ls ls' d v Q hR hL hd hm hQ;cases d with
 |nil=>cases hm
 |cons a b=>
  simp only[RDs]at hd;obtain⟨x,y,rfl,h1,h2⟩:=hd;obtain⟨ls1,e1,e2⟩:=j6 hm;exact⟨x,y,rfl,h ρ σ H _ ls ls1 a x _ hR hL h1 e1 λσ1 L1=>h' ρ σ1 H _ ls1 ls' b y Q hR L1 h2 e2 hQ⟩
noncomputable def Bz(n:Nat)(r:MGs):MG:=λd ls hd=>(AL d).bind λds=>if ds.length=n then r ds ls hd else none
def aH{n:Nat}(h':NP K u r):RGt K (Pm K n u) (Bz n r):=by
 intro ρ σ H hd ls ls' d v Q hR hL hd hm hQ;obtain⟨ds,e1,hm⟩:=j6 hm;split at hm
 .next c=>
  obtain⟨a,xs,rfl,q,rr⟩:=hd.tup e1;exact⟨a,xs,rfl,q,by rw[rr.len];exact c,h' ρ σ H _ ls ls' ds xs Q hR hL rr hm hQ⟩
 .cases hm
noncomputable def V0(m:ME)(g:MG):MS:=λls hd=>(m ls hd).bind λp=>(g p.1 ls p.2).map λls'=>(.nx ls',p.2)
def Qx(h:RE K t m)(hg:RGt K g n):RS K (Eu t g) (V0 m n):=by
 intro ρ σ H hd ls E f hd' hR hL hm hQ;obtain⟨⟨d1,h1⟩,e1,hm⟩:=j6 hm;obtain⟨ls',e2,e3⟩:=j7 hm;cases e3;exact h ρ σ H hd ls _ d1 _ hR hL e1 λρ1 H1 v x1 R1 r1=>hg ρ1 σ H1 _ ls ls' d1 v _ R1 (hL.ext hR x1) r1 e2 λσ' L'=>hQ ρ1 H1 x1 R1 σ' L'
noncomputable abbrev AB(i:Nat)(m:ME):MS:=V0 m (AF i)
noncomputable def Ph(ix:List Nat)(ma:MA):MS:=λls hd=>(ma ls hd).bind λp=>if p.1.length=ix.length then some (.nx ((ix.zip p.1).foldl (λl q=>l.set q.1 (some q.2)) ls),p.2)else none
noncomputable def fP(i j k:Nat)(ma:MA):MS:=Ph [k,j,i] (λls hd=>(ma ls hd).map λp=>(p.1.reverse,p.2))
noncomputable abbrev Gd:=List (Nat×List D)
noncomputable abbrev MI:=Ls->Hd->Option ((List D×Gd)×Hd)
def GOk(hd:Hd)(g:Gd):Prop:=∀p∈g,hd[p.1]?=some (.lst p.2)
@[simp] theorem AJ(hd:Hd):GOk hd []:=λp h=>by cases h
def NN(K:Frag)(ρ:List Addr)(H:Hp)(J:It)(ds:List D)(g:Gd):Prop:=∀(ρ2:List Addr) (H2:Hp) (hd2:Hd),Ext ρ H ρ2 H2->RH K ρ2 H2 hd2->GOk hd2 g ->
 ∀i:Nat,(i<ds.length->J.go i H2/\∀x H3,J.yld i H2 x H3->∃ρ3 d,Ext ρ2 H2 ρ3 H3/\ρ3=ρ2/\RH K ρ3 H3 hd2/\ds[i]?=some d/\RD K ρ3 H3 d x)/\(i=ds.length->J.stop i H2)
def RIt(K:Frag)(t:TI)(m:MI):Prop:=∀(ρ:List Addr) (σ:St) (H:Hp) (hd:Hd) (ls:Ls) (Q:It->Hp->Prop) (d:List D) (g:Gd) (hd':Hd),RH K ρ H hd->RL K ρ H ls σ->m ls hd=some ((d,g),hd') ->
 (∀ρ' H' J,Ext ρ H ρ' H'->RH K ρ' H' hd'->GOk hd' g->NN K ρ' H' J d g->Q J H')->t σ H Q
def Of(hR:RH K ρ H hd)(q:SqT K H a xs)(r:RDs K ρ H ds xs)(g:Gd):NN K ρ H (Itt K a) ds g:=by
 intro ρ2 H2 hd2 x2 R2 _ i;have q2:=(x2.grow hR).sq q;have r2:=r.ext hR x2;have uniq:∀ys,SqT K H2 a ys->True:=λ_ _=>trivial;refine⟨λhi=>?_,λhi=>⟨xs,q2,by rw[r2.len,hi];exact jc _⟩⟩;have e:ds[i]?=some ds[i]:=by simp[hi]
 obtain⟨x,x1,x3⟩:=r2.get e;refine⟨⟨xs,x,q2,x1⟩,λy H3 ⟨e3,hy⟩=>?_⟩;subst e3;have:=hy xs q2;rw[x1]at this;cases this;exact⟨ρ2,_,.refl,rfl,R2,e,x3⟩
noncomputable def BE(m:ME):MI:=λls hd=>(m ls hd).bind λp=>(AL p.1).map λds=>((ds,[]),p.2)
def R8(h:RE K t m):RIt K (Mn K t) (BE m):=by
 intro ρ σ H hd ls Q d g hd' hR hL hm hQ;obtain⟨⟨d1,h1⟩,e1,hm⟩:=j6 hm;obtain⟨ds,e2,e3⟩:=j7 hm;cases e3;refine h ρ σ H hd ls _ d1 _ hR hL e1 λρ1 H1 v x1 R1 r1=>?_;obtain⟨a,xs,rfl,q,r⟩:=r1.tup e2;exact⟨a,rfl,⟨xs,q⟩,hQ ρ1 H1 _ x1 R1 (AJ _) (Of R1 q r [])⟩
noncomputable def C9(m:ME):MI:=λls hd=>(m ls hd).bind λp=>match p.1 with
 |.mu n=>match p.2[n]? with
  |some (.lst ds)=>some ((ds,[(n,ds)]),p.2)
  |_=>none
 |.ro ns=>some ((ns.map λn=>.im (.int n),[]),p.2)
 |_=>none
def O2(h:RE K t m):RIt K (G8 K t) (C9 m):=by
 intro ρ σ H hd ls Q d g hd' hR hL hm hQ;obtain⟨⟨d1,h1⟩,e1,hm⟩:=j6 hm;dsimp only at hm;split at hm
 .next n=>
  split at hm
  .next ds q=>
   cases hm;refine h ρ σ H hd ls _ _ _ hR hL e1 λρ1 H1 v x1 R1 r1=>?_;simp only[RD]at r1;obtain⟨a,hn,rfl⟩:=r1;obtain⟨xs,e2,e3⟩:=R1.lst hn q;refine⟨a,rfl,⟨xs,SqL.of e2⟩,hQ ρ1 H1 _ x1 R1 (λp z=>by simp at z;subst z;exact q) ?_⟩;intro ρ2 H2 hd2 x2 R2 G2 i;have q2:=G2 (n,d) (by simp);have hn2:ρ2[n]?=some a:=by
    obtain⟨r,rfl,_⟩:=x2.pre;rw[List.getElem?_append_left (List.getElem?_eq_some_iff.mp hn).1];exact hn
   obtain⟨ys,e4,e5⟩:=R2.lst hn2 q2;refine⟨λhi=>?_,λhi=>⟨ys,SqL.of e4,by rw[e5.len,hi];exact jc _⟩⟩;have e:d[i]?=some d[i]:=by simp[hi]
   obtain⟨x,y1,y2⟩:=e5.get e;refine⟨⟨ys,x,SqL.of e4,y1⟩,λy H3 ⟨e6,hy⟩=>?_⟩;subst e6;have:=hy ys (SqL.of e4);rw[y1]at this;cases this;exact⟨ρ2,_,.refl,rfl,R2,e,y2⟩
  .cases hm
 .next ns=>
  cases hm;refine h ρ σ H hd ls _ _ _ hR hL e1 λρ1 H1 v x1 R1 r1=>?_;simp only[RD]at r1;obtain⟨a,rfl,q⟩:=r1;refine⟨a,rfl,⟨_,q.sq⟩,hQ ρ1 H1 _ x1 R1 (AJ _) ?_⟩;intro ρ2 H2 hd2 x2 R2 G2 i;have q2:=(q.grow (x2.grow R1)).sq;have e5:RDs K ρ2 H2 (ns.map λn=>.im (.int n)) (ns.map V.int):=FQ;refine⟨λhi=>?_,λhi=>⟨_,q2,by rw[e5.len,hi];exact jc _⟩⟩;have e:(ns.map λn=>D.im (.int n))[i]?=some ((ns.map λn=>D.im (.int n))[i]):=by simp[hi]
  obtain⟨x,y1,y2⟩:=e5.get e;refine⟨⟨_,x,q2,y1⟩,λy H3 ⟨e6,hy⟩=>?_⟩;subst e6;have:=hy _ q2;rw[y1]at this;cases this;exact⟨ρ2,_,.refl,rfl,R2,e,y2⟩
 .cases hm
noncomputable def Js(ml:MA):MI:=λls hd=>(ml ls hd).map λp=>((p.1,[]),p.2)
def aF(h:RN K t m):RIt K (G8 K t) (Js m):=by
 intro ρ σ H hd ls Q d g hd' hR hL hm hQ;obtain⟨⟨d1,h1⟩,e1,e3⟩:=j7 hm;obtain⟨⟨rfl,rfl⟩,rfl⟩:=Prod.mk.inj e3 |>.imp Prod.mk.inj id;clear e3 hm;refine h ρ σ H hd ls _ _ _ hR hL e1 λρ1 H1 a xs x1 R1 na oa ea r1=>?_;refine⟨a,rfl,⟨xs,SqL.of ea⟩,hQ ρ1 H1 _ x1 R1 (AJ _) ?_⟩;intro ρ2 H2 hd2 x2 R2 G2 i;have q2:SqL K H2 a xs:=SqL.of (x2.keep a _ ea oa nt);have r2:=r1.ext R1 x2;refine⟨λhi=>?_,λhi=>⟨xs,q2,by rw[r2.len,hi];exact jc _⟩⟩;have hi:i<d1.length:=hi;have e:d1[i]?=some d1[i]:=by simp[hi]
 obtain⟨x,y1,y2⟩:=r2.get e;refine⟨⟨xs,x,q2,y1⟩,λy H3 ⟨e6,hy⟩=>?_⟩;subst e6;have:=hy xs q2;rw[y1]at this;cases this;exact⟨ρ2,_,.refl,rfl,R2,e,y2⟩
noncomputable def AT(lo:Int):Nat->List D
 |0=>[]
 |n+1=>.im (.int lo)::AT (lo+1) n
@[simp] theorem J0(lo:Int)(n:Nat):(AT lo n).length=n:=by
 induction n generalizing lo with
 |zero=>rfl
 |succ n ih=>simp[AT,ih]
def J1{n:Nat}:∀{lo:Int} {i:Nat},i<n->(AT lo n)[i]?=some (.im (.int (lo+i))):=by
 induction n with
 |zero=>intro lo i h;omega
 |succ n ih=>
  intro lo i h;cases i with
  |zero=>simp[AT]
  |succ i=>
   simp only[AT,List.getElem?_cons_succ];rw[ih (by omega)]
   congr 3
   push_cast
   omega
def Og{lo:Int}{n:Nat}:NN K ρ H (Itr lo n) (AT lo n) g:=by
 intro ρ2 H2 hd2 x2 R2 G2 i;refine⟨λhi=>?_,λhi=>by rw[hi,J0];exact jc _⟩;rw[J0]at hi;refine⟨hi,λx H3 ⟨e1,e2⟩=>?_⟩;subst e1 e2;exact⟨ρ2,_,.refl,rfl,R2,J1 hi,by simp[RD,RI]⟩
open Classical in
noncomputable def Bu(m:MA):MI:=λls hd=>(m ls hd).bind λp=>match p.1 with
 |[.im (.int j)]=>if Fo j then some ((AT 0 j.toNat,[]),p.2)else none
 |_=>none
def XF(h:RA K t m):RIt K (Pk t) (Bu m):=by
 intro ρ σ H hd ls Q d g hd' hR hL hm hQ;obtain⟨⟨d1,h1⟩,e1,hm⟩:=j6 hm;dsimp only at hm;split at hm
 .next j=>
  split at hm
  .next c=>
   cases hm;refine h ρ σ H hd ls _ _ _ hR hL e1 λρ1 H1 v x1 R1 r1=>?_;simp only[RDs,RD,RI]at r1;obtain⟨x,r,rfl,rfl,rfl⟩:=r1;exact⟨j,rfl,c.1,c.2,hQ ρ1 H1 _ x1 R1 (AJ _) Og⟩
  .cases hm
 .cases hm
open Classical in
noncomputable def WD(m:MA):MI:=λls hd=>(m ls hd).bind λp=>match p.1 with
 |[.im (.int i),.im (.int j)]=>if Tu i j then some ((AT i (j-i).toNat,[]),p.2)else none
 |_=>none
open Classical in
noncomputable def Ao(n:MG)(b:MS)(g:Gd):List D->Ls->Hd->Option (Fl×Hd)
 |[],ls,hd=>some (.nx ls,hd)
 |d::r,ls,hd=>(n d ls hd).bind λls1=>(b ls1 hd).bind λp=>match p.1 with
  |.nx ls2=>if GOk p.2 g then Ao n b g r ls2 p.2 else none
  |.ct ls2=>if GOk p.2 g then Ao n b g r ls2 p.2 else none
  |.bk ls2=>some (.nx ls2,p.2)
  |.rt d=>some (.rt d,p.2)
noncomputable def Az(mi:MI)(n:MG)(b:MS):MS:=λls hd=>(mi ls hd).bind λp=>Ao n b p.1.2 p.1.1 ls p.2
def Qw(hi:RIt K wi mi)(hg:RGt K g n)(hb:RS K tb b):RS K (Lh wi g tb) (Az mi n b):=by
 intro ρ σ H hd ls E f hd' hR hL hm hQ;obtain⟨⟨⟨ds,gd⟩,h1⟩,e1,hm⟩:=j6 hm;refine hi ρ σ H hd ls _ ds gd h1 hR hL e1 λρ1 H1 J x1 R1 G1 Y=>?_;dsimp only at hm;refine⟨λi m σ2 H2=>m=ds.length-i/\i<=ds.length/\∃ρ2 ls2 hd2,Ext ρ1 H1 ρ2 H2/\RH K ρ2 H2 hd2/\RL K ρ2 H2 ls2 σ2/\GOk hd2 gd/\Ao n b gd (ds.drop i) ls2 hd2=some (f,hd'),
  ⟨ds.length,by simp,jU _,ρ1,ls,h1,.refl,R1,hL.ext hR x1,G1,by simpa using hm⟩,?_⟩
 rintro i m σ2 H2 ⟨rfl,hi,ρ2,ls2,hd2,x2,R2,L2',G2,hm2⟩;obtain⟨Y1,Y2⟩:=Y ρ2 H2 hd2 x2 R2 G2 i;by_cases hlt:i<ds.length
 .obtain⟨go,Y1⟩:=Y1 hlt;have ed:ds.drop i=ds[i]::ds.drop (i+1):=kc hlt;rw[ed]at hm2;unfold Ao at hm2;obtain⟨ls3,e3,hm2⟩:=j6 hm2;obtain⟨⟨fl,hd4⟩,e4,hm2⟩:=j6 hm2;refine .inr ⟨go,λσ' H'=>∃ρ2 ls2 hd2,Ext ρ1 H1 ρ2 H'/\RH K ρ2 H' hd2/\RL K ρ2 H' ls2 σ'/\GOk hd2 gd/\Ao n b gd (ds.drop (i+1)) ls2 hd2=some (f,hd'),λσ' H' z=>⟨ds.length-(i+1),by omega,rfl,hlt,z⟩,λx H3 y=>?_⟩;obtain⟨ρ3,d3,x3,rfl,R3,e5,r3⟩:=Y1 x H3 y;have e6:d3=ds[i]:=by
   have:ds[i]?=some ds[i]:=by simp[hlt]
   rw[this]at e5;exact(Option.some.inj e5).symm
  subst e6;refine hg ρ3 σ2 H3 hd2 ls2 ls3 _ x _ R3 (L2'.ext R2 x3) r3 e3 λσ4 L4=>?_;refine hb ρ3 σ4 H3 hd2 ls3 _ fl hd4 R3 L4 e4 λρ5 H5 x5 R5=>?_;have x15:=(x2.trans R2 x3).trans R3 x5;cases fl with
  |nx ls5=>
   intro σ5 L5;dsimp only at hm2;split at hm2
   .next c=>exact⟨ρ5,ls5,hd4,x15,R5,L5,c,hm2⟩
   .cases hm2
  |ct ls5=>
   intro σ5 L5;dsimp only at hm2;split at hm2
   .next c=>exact⟨ρ5,ls5,hd4,x15,R5,L5,c,hm2⟩
   .cases hm2
  |bk ls5=>
   intro σ5 L5;cases hm2;exact hQ ρ5 H5 (x1.trans R1 x15) R5 σ5 L5
  |rt d5=>
   intro v5 r5;cases hm2;exact hQ ρ5 H5 (x1.trans R1 x15) R5 v5 r5
 .have e:i=ds.length:=by omega
  subst e;rw[List.drop_length]at hm2;unfold Ao at hm2;cases hm2;exact .inl ⟨Y2 rfl,hQ ρ2 H2 (x1.trans R1 x2) R2 σ2 L2'⟩
open Classical in
noncomputable def Av(n:MG)(c:MT)(m:ME)(g:Gd):List D->Ls->Hd->Option (List D×Hd)
 |[],_,hd=>some ([],hd)
 |d::r,ls,hd=>(n d ls hd).bind λls1=>(c ls1 hd).bind λp=>if p.1=true then(m ls1 p.2).bind λq=>if GOk q.2 g then(Av n c m g r ls1 q.2).map λz=>(q.1::z.1,z.2)else none else if GOk p.2 g then Av n c m g r ls1 p.2 else none
noncomputable def D1(k:Nat)(ix:List Nat)(ls:Ls):Ls:=List.replicate k none++ix.map λi=>(ls[i]?).join
open Classical in
noncomputable def Ak(k:Nat)(ix:List Nat)(mi:MI)(n:MG)(c:MT)(m:ME):MA:=λls hd=>(mi ls hd).bind λp=>if Bg p.1.1.length then Av n c m p.1.2 p.1.1 (D1 k ix ls) p.2 else none
def OZ{k:Nat}(h:RL K ρ H ls σ):RL K ρ H (D1 k ix ls) (GM k ix σ):=by
 refine⟨by simp[D1,GM],λi d e=>?_⟩;unfold D1 at e;unfold GM;by_cases hi:i<k
 .rw[List.getElem?_append_left (by simpa using hi),List.getElem?_replicate]at e;split at e<;>cases e
 .have hi':k<=i:=not_lt.mp hi;rw[List.getElem?_append_right (by simpa using hi'),List.length_replicate,List.getElem?_map]at e ⊢;cases q:ix[i-k]? with
  |none=>rw[q]at e;cases e
  |some j=>
   rw[q]at e;simp only[jr,Option.some.injEq]at e ⊢;have e5:ls[j]?=some (some d):=by
    cases w:ls[j]? with
    |none=>rw[w]at e;cases e
    |some z=>rw[w]at e;simpa using e
   obtain⟨v,e6,e7⟩:=h.ob j d e5;exact⟨v,by rw[e6];rfl,e7⟩
def O1{k:Nat}(hi:RIt K wi mi)(hg:RGt K g n)(hf:RT K tf c)(he:RE K te m):RN K (Fg k ix wi g tf te) (Ak k ix mi n c m):=by
 intro ρ σ H hd ls Q out hd' hR hL hm hQ;obtain⟨⟨⟨ds,gd⟩,h1⟩,e1,hm⟩:=j6 hm;dsimp only at hm;split at hm
 .next hlen=>
  have hlen:ds.length<=sizeLine:=hlen;refine hi ρ σ H hd ls _ ds gd h1 hR hL e1 λρ1 H1 J x1 R1 G1 Y=>?_;intro Da hDa;obtain⟨R1',x1'⟩:=R1.hid (ho:=.lst []) hDa;have oD:Da∉ρ1:=R1.out hDa;have nD:H Da=none:=x1.none hR hDa R1;refine⟨λi mm σ2 ys H2=>mm=ds.length-i/\i<=ds.length/\∃ρ2 ls2 hd2 es rest,Ext ρ1 (upd H1 Da (.lst ys)) ρ2 H2/\Ext ρ1 H1 ρ2 H2/\Da∉ρ2/\H2 Da=some (.lst ys)/\RH K ρ2 H2 hd2/\RL K ρ2 H2 ls2 σ2/\RDs K ρ2 H2 es ys/\es.length<=i/\GOk hd2 gd/\Av n c m gd (ds.drop i) ls2 hd2=some (rest,hd')/\out=es++rest,
   ⟨ds.length,by simp,jU _,ρ1,_,h1,[],out,.refl,x1',oD,AE,R1',(OZ ((hL.ext hR x1).ext R1 x1')),.nil,jc _,G1,by simpa using hm,rfl⟩,?_⟩
  rintro i mm σ2 ys H2 ⟨rfl,hi,ρ2,ls2,hd2,es,rest,x2',x2,oD2,hD2,R2,L2',r2,hle,G2,hm2,rfl⟩;refine⟨hD2,?_⟩;obtain⟨Y1,Y2⟩:=Y ρ2 H2 hd2 x2 R2 G2 i;by_cases hlt:i<ds.length
  .obtain⟨go,Y1⟩:=Y1 hlt;have ed:ds.drop i=ds[i]::ds.drop (i+1):=kc hlt;rw[ed]at hm2;unfold Av at hm2;obtain⟨ls3,e3,hm2⟩:=j6 hm2;obtain⟨⟨bb,hd4⟩,e4,hm2⟩:=j6 hm2;refine .inr ⟨go,Nat.lt_of_le_of_lt (by rw[r2.len];exact hle) (by omega),λσ' ys' H'=>∃ρ2 ls2 hd2 es' rest',Ext ρ1 (upd H1 Da (.lst ys')) ρ2 H'/\Ext ρ1 H1 ρ2 H'/\Da∉ρ2/\H' Da=some (.lst ys')/\RH K ρ2 H' hd2/\RL K ρ2 H' ls2 σ'/\RDs K ρ2 H' es' ys'/\es'.length<=i+1/\GOk hd2 gd/\Av n c m gd (ds.drop (i+1)) ls2 hd2=some (rest',hd')/\es++rest=es'++rest',λσ' ys' H' z=>⟨ds.length-(i+1),by omega,rfl,hlt,z⟩,λx H3 y=>?_⟩;obtain⟨ρ3,d3,x3,rfl,R3,e5,r3⟩:=Y1 x H3 y;have e6:d3=ds[i]:=by
    have:ds[i]?=some ds[i]:=by simp[hlt]
    rw[this]at e5;exact(Option.some.inj e5).symm
   subst e6;refine hg ρ3 σ2 H3 hd2 ls2 ls3 _ x _ R3 (L2'.ext R2 x3) r3 e3 λσ4 L4=>?_;refine hf ρ3 σ4 H3 hd2 ls3 _ bb hd4 R3 L4 e4 λρ5 H5 x5 R5=>?_;have hD5:H5 Da=some (.lst ys):=x5.keep Da _ (x3.keep Da _ hD2 oD2 nt) oD2 nt;have out5:Da∉ρ5:=by
    obtain⟨r,rfl,fr⟩:=x5.pre;intro z;rcases mem_append.mp z with z|z
    .exact oD2 z
    .have:=fr _ z;rw[x3.keep Da _ hD2 oD2 nt]at this;cases this
   cases bb with
   |false=>
    rw[ja Bool.false_ne_true]at hm2 ⊢;have y25:=x3.trans R3 x5;split at hm2
    .next g5=>exact⟨ρ5,ls3,hd4,es,rest,x2'.trans R2 y25,(x2.trans R2 y25),out5,hD5,R5,L4.ext R3 x5,(r2.ext R2 y25),by omega,g5,hm2,rfl⟩
    .cases hm2
   |true=>
    rw[j9 rfl]at hm2 ⊢;obtain⟨⟨z,hd6⟩,e6,hm2⟩:=j6 hm2;obtain⟨g6,hm2⟩:GOk hd6 gd/\((Av n c m gd (ds.drop (i+1)) ls3 hd6).map λq=>(z::q.1,q.2))=some (rest,hd'):=by
     dsimp only at hm2;split at hm2
     .next g6=>exact⟨g6,hm2⟩
     .cases hm2
    obtain⟨⟨zs,hd7⟩,e7,e8⟩:=j7 hm2;cases e8;refine he ρ5 σ4 H5 hd4 ls3 _ z hd6 R5 (L4.ext R3 x5) e6 λρ6 H6 v6 x6 R6 r6=>?_;have hD6:H6 Da=some (.lst ys):=x6.keep Da _ hD5 out5 nt;have out6:Da∉ρ6:=by
     obtain⟨r,rfl,fr⟩:=x6.pre;intro z;rcases mem_append.mp z with z|z
     .exact out5 z
     .have:=fr _ z;rw[hD5]at this;cases this
    refine⟨hD6,?_⟩;have y26:=(x3.trans R3 x5).trans R5 x6;have gr:Grow H6 (upd H6 Da (.lst (ys++[v6]))):=Grow.refl.put (.lst hD6);have R7:=R6.hput (ho:=.lst (ys++[v6])) out6 hD6;have x12:=x2.trans R2 y26;have ext7:Ext ρ1 H1 ρ6 (upd H6 Da (.lst (ys++[v6]))):=⟨x12.pre,λb o q nb t=>by
     have:b≠Da:=AV q hDa;rw[AD this];exact x12.keep b o q nb t,λb ps q=>by
     have:b≠Da:=AV q hDa;rw[AD this];exact x12.tab b ps q⟩
    have ext8:Ext ρ1 (upd H1 Da (.lst (ys++[v6]))) ρ6 (upd H6 Da (.lst (ys++[v6]))):=by
     obtain⟨r,er,fr⟩:=x12.pre;refine⟨⟨r,er,λb hb=>?_⟩,λb o q nb t=>?_,λb ps q=>?_⟩
     .have:b≠Da:=λz=>out6 (by rw[er,<- z];exact jl _ hb);rw[AD this];exact fr b hb
     .by_cases hb:b=Da
      .subst hb;rw[AE]at q ⊢;exact q
      .rw[AD hb]at q ⊢;exact x12.keep b o q nb t
     .by_cases hb:b=Da
      .subst hb;rw[AE]at q;cases q
      .rw[AD hb]at q ⊢;exact x12.tab b ps q
    refine⟨ρ6,ls3,hd6,es++[z],zs,ext8,ext7,out6,AE,R7,?_,?_,by simp;omega,g6,e7,by simp⟩
    .have L6:=(L4.ext R3 x5).ext R5 x6;exact⟨L6.len,λi d e=>let ⟨v,a,b⟩:=L6.ob i d e;⟨v,a,by simpa using b.mono gr []⟩⟩
    .have:=((r2.ext R2 y26).app (.cons r6 .nil)).mono gr [];simpa using this
  .have e:i=ds.length:=by omega
   subst e;rw[List.drop_length]at hm2;unfold Av at hm2;cases hm2;refine .inl ⟨Y2 rfl,?_⟩;exact hQ ρ2 H2 Da ys (x1.trans R1 x2) R2 nD oD2 hD2 (by simpa using r2)
 .cases hm
end
mutual
noncomputable def clD(w:Nat):D->Bool
 |.im _=>true
 |.mu n=>decide (n<w)
 |.tm ds=>Aj w ds
 |.ro _=>true
 |.op _ _ ds=>Aj w ds
noncomputable def Aj(w:Nat):List D->Bool
 |[]=>true
 |d::ds=>clD w d&&Aj w ds
end
noncomputable def C4(w:Nat):List (Key×D)->Bool
 |[]=>true
 |d::ds=>clD w d.2&&C4 w ds
noncomputable def clO(w:Nat):MO->Bool
 |.lst ds=>Aj w ds
 |.dic ds=>C4 w ds
section
variable{K:Frag}
@[simp] theorem gY{w:Nat}(a b:List D):Aj w (a++b)=(Aj w a&&Aj w b):=by induction a<;>simp_all [Aj,Bool.and_assoc]
mutual
theorem RD.take(w:Nat):∀{d:D} {v:V},RD K ρ H d v->clD w d=true->RD K (ρ.take w) H d v
 |.im i,v,h,_=>by simp only[RD]at h ⊢;exact h
 |.mu n,v,h,c=>by
  simp only[RD]at h ⊢;obtain⟨a,e,q⟩:=h;exact⟨a,by rw[List.getElem?_take_of_lt (by simpa [clD]using c)];exact e,q⟩
 |.tm ds,v,h,c=>by
  simp only[RD]at h ⊢;obtain⟨a,xs,e,q,z⟩:=h;exact⟨a,xs,e,q,RDs.take' w z (by simpa [clD]using c)⟩
 |.ro ns,v,h,c=>by simp only[RD]at h ⊢;exact h
 |.op nm fs ds,v,h,c=>by
  simp only[RD]at h ⊢;obtain⟨a,xs,e,q,z⟩:=h;exact⟨a,xs,e,q,RDs.take' w z (by simpa [clD]using c)⟩
theorem RDs.take'(w:Nat):∀{d:List D} {v:List V},RDs K ρ H d v->Aj w d=true->RDs K (ρ.take w) H d v
 |[],v,h,_=>by simpa only[RDs]using h
 |d::ds,v,h,c=>by
  simp only[RDs]at h ⊢;obtain⟨x,r',e,q,z⟩:=h;have c:clD w d=true/\Aj w ds=true:=by simpa [Aj]using c
  exact⟨x,r',e,q.take w c.1,RDs.take' w z c.2⟩
end
theorem RKs.take(w:Nat):∀{d:List (Key×D)} {v:List (Key×V)},RKs K ρ H d v->C4 w d=true->RKs K (ρ.take w) H d v
 |[],v,h,_=>by simpa only[RKs]using h
 |d::ds,v,h,c=>by
  simp only[RKs]at h ⊢;obtain⟨x,r',e,q1,q,z⟩:=h;have c:clD w d.2=true/\C4 w ds=true:=by simpa [C4]using c
  exact⟨x,r',e,q1,q.take w c.1,RKs.take w z c.2⟩
theorem RC.take(w:Nat)(h:RC K ρ H o ho)(c:clO w o=true):RC K (ρ.take w) H o ho:=by
 cases o with
 |lst ds=>obtain⟨xs,e,q⟩:=h;exact⟨xs,e,q.take' w c⟩
 |dic ds=>obtain⟨xs,e,q⟩:=h;exact⟨xs,e,q.take w c⟩
theorem RH.take(h:RH K ρ H hd)(w:Nat)(c:(hd.take w).all (clO w)=true):RH K (ρ.take w) H (hd.take w):=by
 refine⟨by simp[h.len],h.nd.sublist (List.take_sublist _ _),h.tabs,λn o a e1 e2=>?_⟩;have co:=all_eq_true.mp c o (jt e1);have hn:n<w:=by
  have:=(List.getElem?_eq_some_iff.mp e1).1;simp at this;omega
 rw[List.getElem?_take_of_lt hn]at e1 e2;obtain⟨ho,q1,q2⟩:=h.ob n o a e1 e2;exact⟨ho,q1,q2.take w co⟩
def RH.back(R1:RH K ρ1 H1 h1){w:Nat}(hw:w<=h1.length)(c1:(h1.take w).all (clO w)=true)(x:Ext (ρ1.take w) H1 ρ' H')(R':RH K ρ' H' h2)(c:(h2.take w).all (clO w)=true):
 RH K ρ1 H' (h2.take w++h1.drop w)/\Ext ρ1 H1 ρ1 H'/\ρ'.take w=ρ1.take w:=by
 obtain⟨r,rfl,fr⟩:=x.pre;have lw:(ρ1.take w).length=w:=by rw[jP,R1.len];omega
 have l2:w<=h2.length:=by rw[<- R'.len];simp[lw]
 have tk:(ρ1.take w++r).take w=ρ1.take w:=by rw[List.take_append_of_le_length (by omega),List.take_take];simp
 refine⟨⟨?_,R1.nd,R'.tabs,λn o a e1 e2=>?_⟩,⟨⟨[],by simp,by simp⟩,λb o q nb t=>x.keep b o q (λm=>nb (List.mem_of_mem_take m)) t,x.tab⟩,tk⟩
 .rw[jv,jP,length_drop,R1.len];omega
 .by_cases hn:n<w
  .rw[List.getElem?_append_left (by rw[jP];omega),List.getElem?_take_of_lt hn]at e1;have e3:(ρ1.take w++r)[n]?=some a:=by
    rw[List.getElem?_append_left (by omega),List.getElem?_take_of_lt hn];exact e2
   obtain⟨ho,q1,q2⟩:=R'.ob n o a e1 e3;have co:=all_eq_true.mp c o (by
    have:(h2.take w)[n]?=some o:=by rw[List.getElem?_take_of_lt hn];exact e1
    exact jt this)
   have q3:=q2.take w co;rw[tk]at q3;have q4:=q3.mono (Grow.refl (H:=H')) (ρ1.drop w);rw[List.take_append_drop]at q4;exact⟨ho,q1,q4⟩
  .rw[List.getElem?_append_right (by rw[jP];omega),jP,List.getElem?_drop]at e1;have e1:h1[n]?=some o:=by
    have:w+(n-min w h2.length)=n:=by omega
    rw[this]at e1;exact e1
   obtain⟨ho,q1,q2⟩:=R1.ob n o a e1 e2;have out:a∉ρ1.take w:=λm=>by
    obtain⟨k,hk⟩:=List.mem_iff_getElem?.mp m;have kw:k<w:=by
     have:=(List.getElem?_eq_some_iff.mp hk).1;rw[lw]at this;exact this
    rw[List.getElem?_take_of_lt kw]at hk;have:=(List.getElem?_inj (List.getElem?_eq_some_iff.mp e2).1 R1.nd).mp (e2.trans hk.symm);omega
   have gr:=x.grow (R1.take w c1);exact⟨ho,x.keep a ho q1 out (λps z=>by rcases R1.mut (jt e2)with⟨y,w⟩|⟨y,w⟩<;>(rw[q1,z]at w;cases w)),by simpa using q2.mono gr []⟩
noncomputable def spF(K:Frag)(k:Nat)(F:List D->Hd->Option (D×Hd)):Sp:=λvs H Q _=>vs.length=k/\∃(ρ:List Addr) (hd:Hd) (ds:List D) (d:D) (hd':Hd),RH K ρ H hd/\RDs K ρ H ds vs/\F ds hd=some (d,hd')/\
 ∀ρ' H' v,Ext ρ H ρ' H'->RH K ρ' H' hd'->RD K ρ' H' d v->Q v H'
noncomputable def mkF(k n:Nat)(m:MS):List D->Hd->Option (D×Hd):=λds hd=>if ds.length=k then(match m (ds.map some++List.replicate (n-k) none) hd with
 |some (.rt d,hd')=>some (d,hd')
 |some (.nx _,hd')=>some (.im .non,hd')
 | _=>none)else none
def IH{N:List Str}:∀{ds:List D} {vs:List V},RDs K ρ H ds vs->RL K ρ H (ds.map some++List.replicate (N.length-ds.length) none) (start N vs):=by
 intro ds vs r;have hl:=r.len;refine⟨by simp[start,hl],λi d e=>?_⟩;unfold start;by_cases hi:i<ds.length
 .rw[List.getElem?_append_left (by simpa using hi),List.getElem?_map]at e;have e':ds[i]?=some d:=by
   cases q:ds[i]? with
   |none=>rw[q]at e;cases e
   |some z=>rw[q]at e;simpa using e
  obtain⟨x,x1,x2⟩:=r.get e';exact⟨x,by rw[List.getElem?_append_left (by rw[ji,hl];exact hi),List.getElem?_map,x1];rfl,x2⟩
 .rw[List.getElem?_append_right (by simpa using not_lt.mp hi),List.getElem?_replicate]at e;split at e<;>cases e
def Wp{k:Nat}{N:List Str}(h:RS K t m)(s:spF K k (mkF k N.length m) vs H Q E):t { nx:=λ_ H'=>Q .non H',rt:=Q } (start N vs) H:=by
 obtain⟨hk,ρ,hd,ds,d,hd',hR,hr,hF,hQ⟩:=s;unfold mkF at hF;split at hF
 .next hl=>
  subst hl;split at hF
  .next q=>
   cases hF;exact h ρ _ H hd _ _ _ _ hR (IH hr) q λρ' H' x R v r=>hQ ρ' H' v x R r
  .next q=>
   cases hF;exact h ρ _ H hd _ _ _ _ hR (IH hr) q λρ' H' x R σ L=>hQ ρ' H' .non x R (by simp[RD,RI])
  .cases hF
 .cases hF
noncomputable def AW(F:List D->Hd->Option (D×Hd))(ma:MA):ME:=λls hd=>(ma ls hd).bind λp=>F p.1 p.2
def MK{k:Nat}{F:List D->Hd->Option (D×Hd)}(h:RA K t m)(hk:∀ds hd z,F ds hd=some z->ds.length=k):RE K (Bx (spF K k F) [] E0 t) (AW F m):=by
 and_intros;obtain⟨⟨d1,h1⟩,e1,hm⟩:=j6 hm;refine h ρ σ H hd ls _ d1 h1 hR hL e1 λρ1 H1 v1 x1 R1 r1=>?_;rw[ju];exact⟨by rw[r1.len];exact hk _ _ _ hm,ρ1,h1,d1,d,hd',R1,r1,hm,λρ' H' w x2 R2 r2=>hQ ρ' H' w (x1.trans R1 x2) R2 r2⟩
def Ym{k n:Nat}:∀ds hd z,mkF k n m ds hd=some z->ds.length=k:=λds hd z h=>by
 unfold mkF at h;split at h
 .next e=>exact e
 .cases h
noncomputable def fin(w:Nat)(d:D)(h2 rest:Hd):Option (D×Hd):=if(h2.take w).all (clO w)=true then(match d with
 | .mu k=>if k<w then some (.mu k,h2.take w++rest)else(match h2[k]? with
  |some (.lst ds)=>if Aj w ds=true then some (.mu (w+rest.length),h2.take w++rest++[.lst ds])else none
  | _=>none)
 | d=>if clD w d=true then some (d,h2.take w++rest)else none)else none
noncomputable def A7(w:Nat)(F:List D->Hd->Option (D×Hd))(ma:MA):ME:=λls hd=>(ma ls hd).bind λp=>
 if w<=p.2.length/\Aj w p.1=true/\(p.2.take w).all (clO w)=true then(F p.1 (p.2.take w)).bind λr=>fin w r.1 r.2 (p.2.drop w)else none
def MJ{w k:Nat}{F:List D->Hd->Option (D×Hd)}(h:RA K t m)(hk:∀ds hd z,F ds hd=some z->ds.length=k):RE K (Bx (spF K k F) [] E0 t) (A7 w F m):=by
 and_intros;obtain⟨⟨d1,h1⟩,e1,hm⟩:=j6 hm;dsimp only at hm;split at hm
 .next c=>
  obtain⟨c0,c1,c2⟩:=c;obtain⟨⟨d2,h2⟩,e2,hm⟩:=j6 hm;refine h ρ σ H hd ls _ d1 h1 hR hL e1 λρ1 H1 v1 x1 R1 r1=>?_;rw[ju];refine⟨by rw[r1.len];exact hk _ _ _ e2,ρ1.take w,h1.take w,d1,d2,h2,R1.take w c2,r1.take' w c1,e2,λρ' H' v x2 R2 r2=>?_⟩;unfold fin at hm;dsimp only at hm;split at hm
  .next c3=>
   obtain⟨R3,x3,tk⟩:=R1.back c0 c2 x2 R2 c3;have up:∀{d:D} {v:V},RD K ρ' H' d v->clD w d=true->RD K ρ1 H' d v:=λr c=>by
    have q:=r.take w c;rw[tk]at q;have q:=q.mono (Grow.refl (H:=H')) (ρ1.drop w);rw[List.take_append_drop]at q;exact q
   have ups:∀{d:List D} {v:List V},RDs K ρ' H' d v->Aj w d=true->RDs K ρ1 H' d v:=λr c=>by
    have q:=r.take' w c;rw[tk]at q;have q:=q.mono (Grow.refl (H:=H')) (ρ1.drop w);rw[List.take_append_drop]at q;exact q
   split at hm
   .next k'=>
    split at hm
    .next hk'=>
     cases hm;exact hQ ρ1 H' v (x1.trans R1 x3) R3 (up r2 (by simpa [clD]using hk'))
    .next hk'=>
     split at hm
     .next ds q=>
      split at hm
      .next c4=>
       cases hm;simp only[RD]at r2;obtain⟨a,ea,rfl⟩:=r2;obtain⟨xs,l1,l2⟩:=R2.lst ea q;have len3:=R3.len;have out:a∉ρ1:=λm=>by
        -- a is one of those made behind the first w
        obtain⟨r,er,fr⟩:=x2.pre;have lw:(ρ1.take w).length=w:=by rw[jP,R1.len];omega
        have ma:a∈r:=by
         rw[er,List.getElem?_append_right (by rw[lw];omega)]at ea;exact jt ea
        exact R1.out (fr a ma) m
       have na:H1 a=none:=by
        obtain⟨r,er,fr⟩:=x2.pre;have lw:(ρ1.take w).length=w:=by rw[jP,R1.len];omega
        have ma:a∈r:=by
         rw[er,List.getElem?_append_right (by rw[lw];omega)]at ea;exact jt ea
        exact fr a ma
       refine hQ (ρ1++[a]) H' _ (x1.trans R1 (x3.name na)) (R3.name out l1 (ups l2 c4)) ?_;simp only[RD];refine⟨a,?_,rfl⟩;have:w+(List.drop w h1).length=ρ1.length:=by rw[length_drop,R1.len];omega
       rw[this];simp
      .cases hm
     .cases hm
   .next d' nd=>
    split at hm
    .next c4=>cases hm;exact hQ ρ1 H' v (x1.trans R1 x3) R3 (up r2 c4)
    .cases hm
  .cases hm
 .cases hm
noncomputable def As(c:MT)(b:MS):Nat->Ls->Hd->Option (Fl×Hd)
 |0,_,_=>none
 | k+1,ls,hd=>(c ls hd).bind λp=>if p.1=true then(b ls p.2).bind λq=>(match q.1 with
  |.nx ls2=>As c b k ls2 q.2
  |.ct ls2=>As c b k ls2 q.2
  |.bk ls2=>some (.nx ls2,q.2)
  | .rt d=>some (.rt d,q.2))else some (.nx ls,p.2)
open Classical in
noncomputable def Cr(c:MT)(b:MS):MS:=λls hd=>if h:∃r k,As c b k ls hd=some r then some h.choose else none
theorem De:∀{k j:Nat} {ls:Ls} {hd:Hd} {r:Fl×Hd},As c b k ls hd=some r->k<=j->As c b j ls hd=some r
 |0,_,_,_,_,h,_=>by cases h
 |k+1,0,_,_,_,_,hj=>by omega
 |k+1,j+1,ls,hd,r,h,hj=>by
  unfold As at h ⊢;obtain⟨p,e1,h⟩:=j6 h;rw[e1];show(if p.1=true then _ else _)=_;split at h
  .next c=>
   rw[j9 c];obtain⟨q,e2,h⟩:=j6 h;rw[e2];obtain⟨f,hd2⟩:=q;cases f with
   |nx ls2=>exact De h (by omega)
   |ct ls2=>exact De h (by omega)
   |bk ls2=>exact h
   |rt d=>exact h
  .next c=>rw[ja c];exact h
def KO{k:Nat}(h:As c b k ls hd=some r):Cr c b ls hd=some r:=by
 unfold Cr;have ex:∃r k,As c b k ls hd=some r:=⟨r,k,h⟩
 rw[dif_pos ex];obtain⟨j,e⟩:=ex.choose_spec;have e1:=De e (Nat.le_max_left j k);have e2:=De h (Nat.le_max_right j k);rw[e1]at e2;exact e2
def Tr(hc:RT K tc c)(hb:RS K tb b):RS K (Lb tc tb) (Cr c b):=by
 intro ρ σ H hd ls E f hd' hR hL hm hQ;obtain⟨k,hk⟩:∃k,As c b k ls hd=some (f,hd'):=by
  unfold Cr at hm;split at hm
  .next ex=>
   obtain⟨j,e⟩:=ex.choose_spec;exact⟨j,by rw[e];exact hm⟩
  .cases hm
 refine⟨λm σ2 H2=>∃ρ2 ls2 hd2,Ext ρ H ρ2 H2/\RH K ρ2 H2 hd2/\RL K ρ2 H2 ls2 σ2/\As c b m ls2 hd2=some (f,hd'),⟨k,ρ,ls,hd,.refl,hR,hL,hk⟩,?_⟩;rintro m σ2 H2 ⟨ρ2,ls2,hd2,x2,R2,L2',hm2⟩;cases m with
 |zero=>cases hm2
 |succ m=>
  unfold As at hm2;obtain⟨⟨bb,hd3⟩,e1,hm2⟩:=j6 hm2;refine hc ρ2 σ2 H2 hd2 ls2 _ bb hd3 R2 L2' e1 λρ3 H3 x3 R3=>?_;cases bb with
  |false=>
   rw[ja Bool.false_ne_true]at hm2 ⊢;cases hm2;exact hQ ρ3 H3 (x2.trans R2 x3) R3 σ2 (L2'.ext R2 x3)
  |true=>
   rw[j9 rfl]at hm2 ⊢;obtain⟨⟨fl,hd4⟩,e2,hm2⟩:=j6 hm2;refine⟨λσ' H'=>∃ρ2 ls2 hd2,Ext ρ H ρ2 H'/\RH K ρ2 H' hd2/\RL K ρ2 H' ls2 σ'/\As c b m ls2 hd2=some (f,hd'),λσ' H' z=>⟨m,Nat.lt_succ_self m,z⟩,?_⟩;refine hb ρ3 σ2 H3 hd3 ls2 _ fl hd4 R3 (L2'.ext R2 x3) e2 λρ5 H5 x5 R5=>?_;have x15:=(x2.trans R2 x3).trans R3 x5;cases fl with
   |nx ls5=>intro σ5 L5;exact⟨ρ5,ls5,hd4,x15,R5,L5,hm2⟩
   |ct ls5=>intro σ5 L5;exact⟨ρ5,ls5,hd4,x15,R5,L5,hm2⟩
   |bk ls5=>intro σ5 L5;cases hm2;exact hQ ρ5 H5 x15 R5 σ5 L5
   |rt d5=>intro v5 r5;cases hm2;exact hQ ρ5 H5 x15 R5 v5 r5
noncomputable def BH(kvs:List (Key×D))(k:Key):Option D:=(kvs.find? λkv=>decide (kv.1=k)).map (·.2)
noncomputable def Cp(kvs:List (Key×D))(k:Key)(v:D):List (Key×D):=
 if(kvs.any λkv=>decide (kv.1=k))=true then kvs.map (λkv=>if kv.1=k then(kv.1,v)else kv)else kvs++[(k,v)]
theorem RKs.val:∀{kvs:List (Key×D)} {xs:List (Key×V)} {k:Key} {d:D},RKs K ρ H kvs xs->BH kvs k=some d->∃v,DP xs k=some v/\RD K ρ H d v
 |[],xs,k,d,h,e=>by simp[BH]at e
 |p::kvs,xs,k,d,h,e=>by
  simp only[RKs]at h;obtain⟨x,r,rfl,e1,r1,r2⟩:=h;by_cases hk:p.1=k
  .rw[EL (e1.trans hk)];simp[BH,jJ,hk]at e;subst e;exact⟨_,rfl,r1⟩
  .rw[EM (by rw[e1];exact hk)];simp only[BH,jJ,hk,decide_false]at e;exact RKs.val r2 e
theorem RKs.valN:∀{kvs:List (Key×D)} {xs:List (Key×V)} {k:Key},RKs K ρ H kvs xs->(DP xs k).isSome=(BH kvs k).isSome
 |[],xs,k,h=>by simp only[RKs]at h;subst h;rfl
 |p::kvs,xs,k,h=>by
  simp only[RKs]at h;obtain⟨x,r,rfl,e1,r1,r2⟩:=h;by_cases hk:p.1=k
  .rw[EL (e1.trans hk)];simp[BH,jJ,hk]
  .rw[EM (by rw[e1];exact hk)];simp only[BH,jJ,hk,decide_false];exact RKs.valN r2
theorem RKs.any:∀{kvs:List (Key×D)} {xs:List (Key×V)} {k:Key},RKs K ρ H kvs xs->(xs.any λkv=>decide (kv.1=k))=(kvs.any λkv=>decide (kv.1=k))
 |[],xs,k,h=>by simp only[RKs]at h;subst h;rfl
 |p::kvs,xs,k,h=>by
  simp only[RKs]at h;obtain⟨x,r,rfl,e1,r1,r2⟩:=h;simp only[jX,e1,RKs.any r2]
theorem RKs.upd:∀{kvs:List (Key×D)} {xs:List (Key×V)} {k:Key} {d:D} {v:V},RKs K ρ H kvs xs->RD K ρ H d v->RKs K ρ H (kvs.map (λkv=>if kv.1=k then(kv.1,d)else kv)) (xs.map (λkv=>if kv.1=k then(kv.1,v)else kv))
 |[],xs,k,d,v,h,_=>by simp only[RKs]at h;subst h;simp[RKs]
 |p::kvs,xs,k,d,v,h,q=>by
  simp only[RKs]at h;obtain⟨x,r,rfl,e1,r1,r2⟩:=h;simp only[je,RKs];refine⟨_,_,rfl,?_,?_,RKs.upd r2 q⟩
  .rw[e1];split<;>simp[e1]
  .rw[e1];split
   .exact q
   .exact r1
theorem RKs.app:∀{kvs ks:List (Key×D)} {xs ys:List (Key×V)},RKs K ρ H kvs xs->RKs K ρ H ks ys->RKs K ρ H (kvs++ks) (xs++ys)
 |[],ks,xs,ys,h,t=>by simp only[RKs]at h;subst h;simpa using t
 |d::ds,ks,xs,ys,h,t=>by
  simp only[RKs]at h;obtain⟨x,r,rfl,e,z,q⟩:=h;simp only[jD,RKs];exact⟨_,_,rfl,e,z,q.app t⟩
def RKs.put(h:RKs K ρ H kvs xs)(q:RD K ρ H d v):RKs K ρ H (Cp kvs k d) (CV xs k v):=by
 unfold Cp CV;rw[h.any];split
 .exact h.upd q
 .exact h.app (by simp only[RKs];exact⟨_,_,rfl,rfl,q,rfl⟩)
noncomputable def CA:D->Option Key
 |.im (.int i)=>some (.inl i)
 |.im (.str x)=>some (.inr x)
 |_=>none
def FP(h:RD K ρ H d v)(e:CA d=some k):v=kV k:=by
 cases d with
 |im i=>
  cases i with
  |int i=>simp only[CA,Option.some.injEq]at e;subst e;simp only[RD,RI]at h;exact h
  |str i=>simp only[CA,Option.some.injEq]at e;subst e;simp only[RD,RI]at h;exact h
  |_=>simp[CA]at e
 |_=>simp[CA]at e
noncomputable def C3(hd:Hd):D->Option (List (Key×D))
 |.mu n=>match hd[n]? with
  |some (.dic kvs)=>some kvs
  |_=>none
 |_=>none
theorem RD.dic(hR:RH K ρ H hd)(h:RD K ρ H d v)(e:C3 hd d=some kvs):∃n a xs,d=.mu n/\v=.ref a/\ρ[n]?=some a/\H a=some (.dK xs)/\RKs K ρ H kvs xs:=by
 cases d with
 |mu n=>
  simp only[C3]at e;simp only[RD]at h;obtain⟨a,hn,rfl⟩:=h;split at e
  .next q=>
   cases e;obtain⟨xs,e1,e2⟩:=hR.dic hn q;exact⟨n,a,xs,rfl,rfl,hn,e1,e2⟩
  .cases e
 |_=>simp[C3]at e
noncomputable def DM:D->D->Hd->Option (D×Hd):=λd e hd=>(C3 hd d).bind λkvs=>(CA e).bind λk=>(BH kvs k).map (·,hd)
def Xa{ty:TE}(hd:RE K td md)(hy:RE K ty my):RE K (P0 td ty) (mOp DM md my):=by
 intro ρ σ H hd0 ls Q d hd' hR hL hm hQ;obtain⟨⟨d1,h1⟩,e1,hm⟩:=j6 hm;obtain⟨⟨d2,h2⟩,e2,hm⟩:=j6 hm;obtain⟨kvs,e3,hm⟩:=j6 hm;obtain⟨k,e4,hm⟩:=j6 hm;obtain⟨w,e5,e6⟩:=j7 hm;cases e6;refine hd ρ σ H hd0 ls _ d1 h1 hR hL e1 λρ1 H1 v1 x1 R1 r1=>?_;refine hy ρ1 σ H1 h1 ls _ d2 _ R1 (hL.ext hR x1) e2 λρ2 H2 v2 x2 R2 r2=>?_;obtain⟨n,a,xs,rfl,rfl,hn,l1,l2⟩:=RD.dic R2 (r1.ext R1 x2) e3;have:=FP r2 e4;subst this;obtain⟨v,v1,v2⟩:=l2.val e5;exact⟨a,v,rfl,v1 ▸ DGet.k l1,hQ ρ2 H2 v (x1.trans R1 x2) R2 v2⟩
noncomputable def DX(neg:Bool):D->D->Hd->Option (D×Hd):=λe d hd=>(C3 hd d).bind λkvs=>(CA e).map λk=>(.im (.bl (if neg then !(BH kvs k).isSome else(BH kvs k).isSome)),hd)
def aW{ty:TE}(hd:RE K td md)(hy:RE K ty my):RE K (TY ty td) (mOp (DX false) my md):=by
 intro ρ σ H hd0 ls Q d hd' hR hL hm hQ;obtain⟨⟨d1,h1⟩,e1,hm⟩:=j6 hm;obtain⟨⟨d2,h2⟩,e2,hm⟩:=j6 hm;obtain⟨kvs,e3,hm⟩:=j6 hm;obtain⟨k,e4,e6⟩:=j7 hm;cases e6;refine hy ρ σ H hd0 ls _ d1 h1 hR hL e1 λρ1 H1 v1 x1 R1 r1=>?_;refine hd ρ1 σ H1 h1 ls _ d2 _ R1 (hL.ext hR x1) e2 λρ2 H2 v2 x2 R2 r2=>?_;obtain⟨n,a,xs,rfl,rfl,hn,l1,l2⟩:=RD.dic R2 r2 e3;have:=FP r1 e4;subst this;refine⟨a,_,rfl,DGet.k l1,?_⟩;rw[l2.valN];exact hQ ρ2 H2 _ (x1.trans R1 x2) R2 (by simp[RD,RI])
def XY{ty:TE}(hd:RE K td md)(hy:RE K ty my):RE K (Jb ty td) (mOp (DX true) my md):=by
 intro ρ σ H hd0 ls Q d hd' hR hL hm hQ;obtain⟨⟨d1,h1⟩,e1,hm⟩:=j6 hm;obtain⟨⟨d2,h2⟩,e2,hm⟩:=j6 hm;obtain⟨kvs,e3,hm⟩:=j6 hm;obtain⟨k,e4,e6⟩:=j7 hm;cases e6;refine hy ρ σ H hd0 ls _ d1 h1 hR hL e1 λρ1 H1 v1 x1 R1 r1=>?_;refine hd ρ1 σ H1 h1 ls _ d2 _ R1 (hL.ext hR x1) e2 λρ2 H2 v2 x2 R2 r2=>?_;obtain⟨n,a,xs,rfl,rfl,hn,l1,l2⟩:=RD.dic R2 r2 e3;have:=FP r1 e4;subst this;refine⟨a,_,rfl,DGet.k l1,?_⟩;rw[l2.valN];exact hQ ρ2 H2 _ (x1.trans R1 x2) R2 (by simp[RD,RI])
open Classical in
noncomputable def G4(md my mv:ME):MS:=λls hd=>(mv ls hd).bind λp=>(md ls p.2).bind λq=>(my ls q.2).bind λr=>(CA r.1).bind λk=>match q.1 with
 |.mu n=>match r.2[n]? with
  |some (.dic kvs)=>if DN kvs.length then some (.nx ls,r.2.set n (.dic (Cp kvs k p.1)))else none
  |_=>none
 |_=>none
def X9{ty:TE}(hd:RE K td md)(hy:RE K ty my)(hv:RE K tv mv):RS K (P6 td ty tv) (G4 md my mv):=by
 intro ρ σ H hd0 ls E f hd' hR hL hm hQ;obtain⟨⟨d1,h1⟩,e1,hm⟩:=j6 hm;obtain⟨⟨d2,h2⟩,e2,hm⟩:=j6 hm;obtain⟨⟨d3,h3⟩,e3,hm⟩:=j6 hm;obtain⟨k,e4,hm⟩:=j6 hm;dsimp only at hm;split at hm
 .split at hm
  .next q=>
   split at hm
   .next c=>
    cases hm;refine hv ρ σ H hd0 ls _ d1 h1 hR hL e1 λρ1 H1 v1 x1 R1 r1=>?_;refine hd ρ1 σ H1 h1 ls _ _ h2 R1 (hL.ext hR x1) e2 λρ2 H2 v2 x2 R2 r2=>?_;refine hy ρ2 σ H2 h2 ls _ d3 _ R2 (hL.ext hR (x1.trans R1 x2)) e3 λρ3 H3 v3 x3 R3 r3=>?_;have r2:=r2.ext R2 x3;simp only[RD]at r2;obtain⟨a,hn,rfl⟩:=r2;obtain⟨xs,l1,l2⟩:=R3.dic hn q;have:=FP r3 e4;subst this;obtain⟨R4,x4⟩:=R3.put hn (o:=.dic (Cp _ k d1)) (ho:=.dK (CV xs k v1)) ⟨_,rfl,l2.put ((r1.ext R1 x2).ext R2 x3)⟩;have x13:=(x1.trans R1 x2).trans R2 x3;exact⟨a,_,rfl,DPut.k l1 (by rw[l2.len];exact c),hQ ρ3 _ (x13.trans R3 x4) R4 σ ((hL.ext hR x13).ext R3 x4)⟩
   .cases hm
  .cases hm
 .cases hm
noncomputable def FN:List (ME×ME)->Ls->Hd->Option (List (Key×D)×Hd)
 |[],_,hd=>some ([],hd)
 |(mk,mv)::r,ls,hd=>(mk ls hd).bind λp=>(mv ls p.2).bind λq=>(FN r ls q.2).bind λz=>(CA p.1).map λk=>((k,q.1)::z.1,z.2)
noncomputable def Rz(kvs more:List (Key×D)):List (Key×D):=more.foldl (λacc kv=>Cp acc kv.1 kv.2) kvs
noncomputable def fQ(ms:List (ME×ME)):ME:=λls hd=>(FN ms ls hd).bind λp=>if p.1.length<=15 then some (.mu p.2.length,p.2++[.dic (Rz [] p.1)])else none
def RH.nameD(hR:RH K ρ H hd)(out:a∉ρ)(e:H a=some o)(hs:¬ Stb o)(r:RKs K ρ H kvs xs)(h1:∀ps,o≠.tbl ps:=by intro _ z;cases z)(h2:∀φ,o≠.ext φ:=by intro _ z;cases z):RH K (ρ++[a]) (upd H a (.dK xs)) (hd++[.dic kvs]):=by
 have gr:Grow H (upd H a (.dK xs)):=Grow.refl.put λu st z=>hs (by rw[e]at z;cases z;exact st);refine⟨by simp[hR.len],?_,hR.tabs.upd (λps z=>h1 ps (Option.some.inj (e.symm.trans z))) (λps z=>h2 ps (Option.some.inj (e.symm.trans z))),λn o' b e1 e2=>?_⟩
 .rw[nodup_append];refine⟨hR.nd,by simp,λx hx y hy z=>?_⟩;simp at hy;subst hy;subst z;exact out hx
 .by_cases hn:n<ρ.length
  .rw[List.getElem?_append_left hn]at e2;rw[List.getElem?_append_left (by rw[<- hR.len];exact hn)]at e1;obtain⟨ho',q1,q2⟩:=hR.ob n o' b e1 e2;have:b≠a:=λz=>out (by rw[<- z];exact jt e2);exact⟨ho',by rw[AD this];exact q1,q2.mono gr [a]⟩
  .have hn':n=ρ.length:=by
    have:=(List.getElem?_eq_some_iff.mp e2).1;simp at this;omega
   subst hn';simp at e2;rw[hR.len]at e1;simp at e1;subst e1;subst e2;exact⟨_,AE,⟨xs,rfl,r.mono gr [_]⟩⟩
noncomputable def Ej(mo mi mv:ME):MS:=λls hd=>(mv ls hd).bind λp=>(mo ls p.2).bind λq=>(mi ls q.2).bind λr=>match q.1,r.1 with
 |.mu n,.im (.int i)=>match r.2[n]? with
  |some (.lst ds)=>(ixN ds.length i).map λj=>(.nx ls,r.2.set n (.lst (ds.set j p.1)))
  |_=>none
 |_,_=>none
def X7(ho:RE K to mo)(hi:RE K ti mi)(hv:RE K tv mv):RS K (Eu tv (VJ to ti PJ)) (Ej mo mi mv):=by
 intro ρ σ H hd0 ls E f hd' hR hL hm hQ;obtain⟨⟨d1,h1⟩,e1,hm⟩:=j6 hm;obtain⟨⟨d2,h2⟩,e2,hm⟩:=j6 hm;obtain⟨⟨d3,h3⟩,e3,hm⟩:=j6 hm;dsimp only at hm;split at hm
 .split at hm
  .next q=>
   obtain⟨j,e4,e5⟩:=j7 hm;cases e5;refine hv ρ σ H hd0 ls _ d1 h1 hR hL e1 λρ1 H1 v1 x1 R1 r1=>?_;refine ho ρ1 σ H1 h1 ls _ _ h2 R1 (hL.ext hR x1) e2 λρ2 H2 v2 x2 R2 r2=>?_;refine hi ρ2 σ H2 h2 ls _ _ _ R2 (hL.ext hR (x1.trans R1 x2)) e3 λρ3 H3 v3 x3 R3 r3=>?_;have r2:=r2.ext R2 x3;simp only[RD]at r2;obtain⟨a,hn,rfl⟩:=r2;simp only[RD,RI]at r3;subst r3;obtain⟨xs,l1,l2⟩:=R3.lst hn q;obtain⟨R4,x4⟩:=R3.put hn (o:=.lst _) (ho:=.lst (xs.set j v1)) ⟨_,rfl,l2.set j ((r1.ext R1 x2).ext R2 x3)⟩;have x13:=(x1.trans R1 x2).trans R2 x3;exact⟨a,xs,_,j,rfl,rfl,l1,by rw[l2.len];exact e4,hQ ρ3 _ (x13.trans R3 x4) R4 σ ((hL.ext hR x13).ext R3 x4)⟩
  .cases hm
 .cases hm
end
end L2
namespace L2
open PySem PySem.Spec PyProof.Rows
structure QG(K:Frag)(X:Cx)(e:Expr)(t:TG)(m:MG):Prop where
 p:PG X e t
 r:RGt K t m
structure QGs(K:Frag)(X:Cx)(e:List Expr)(t:TGs)(m:MGs):Prop where
 p:PGs X e t
 r:NP K t m
structure QI(K:Frag)(X:Cx)(tg e:Expr)(t:TI)(m:MI):Prop where
 p:PI X tg e t
 r:RIt K t m
structure QF(K:Frag)(X:Cx)(e:List Expr)(t:TT)(m:MT):Prop where
 p:PF X e t
 r:RT K t m
structure QO(K:Frag)(X:Cx)(e:Option Expr)(t:TO)(m:MO1):Prop where
 p:PO X e t
 r:RO1 K t m
def fc(a b:List D):Prop:=a≠[]/\Bg (a.length+b.length)
open Classical in
noncomputable def E9:D->D->Hd->Option (D×Hd):=λd e hd=>(AL d).bind λa=>(AL e).bind λb=>if fc a b then some (AO (a++b),hd)else none
def O4{K:Frag}:RB K (PN K) E9:=by
 intro ρ H hd d e v u Q z hd' hR h1 h2 hf hQ;unfold E9 at hf;obtain⟨a,e1,hf⟩:=j6 hf;obtain⟨b,e2,hf⟩:=j6 hf;split at hf
 .next c=>
  cases hf;obtain⟨p,xs,rfl,q1,r1⟩:=h1.tup e1;obtain⟨p2,ys,rfl,q2,r2⟩:=h2.tup e2;have l1:=r1.len;have l2:=r2.len;refine⟨p,p2,xs,ys,rfl,rfl,q1,q2,λz=>c.1 (by rw[z]at l1;simpa using l1.symm),by rw[l1,l2];exact c.2,λz=>?_,λ_ p3 hp=>?_⟩
  .have:b=[]:=by rw[z]at l2;simpa using l2.symm
   subst this;exact hQ ρ H _ .refl hR (by rw[ju];exact BA q1 r1)
  .obtain⟨R2,x2⟩:=hR.hid (ho:=.tup (xs++ys)) hp;exact hQ ρ _ _ x2 R2 (BA (SqT.of AE) ((r1.app r2).ext hR x2))
 .cases hf
noncomputable abbrev AX:=CC Mv E9
noncomputable def gM(neg:Bool)(m:ME):ME:=λls hd=>(m ls hd).bind λp=>some (.im (.bl (match p.1 with
 |.im .non=>!neg
 | _=>neg)),p.2)
noncomputable def E2(m:ME):ME:=λls hd=>(m ls hd).bind λp=>match p.1 with
 |.im (.int i)=>some (.im (.int (-i)),p.2)
 |_=>none
def aP{K:Frag}(h:RE K t m):RE K (tUn (rU λi=>.int (-i)) t) (E2 m):=by
 and_intros;obtain⟨⟨d1,h1⟩,e1,hm⟩:=j6 hm;dsimp only at hm;split at hm
 .cases hm;exact h ρ σ H hd ls _ _ _ hR hL e1 λρ1 H1 v x1 R1 r1=>⟨_,by simpa only[RD,RI]using r1,hQ ρ1 H1 _ x1 R1 (by simp[RD,RI])⟩
 .cases hm
noncomputable def CZ:MT:=λ_ hd=>some (true,hd)
def Zy{K:Frag}:RT K TQ CZ:=by
 and_intros;cases hm;exact hQ ρ H .refl hR
section
variable(K:Frag){X:Cx}{tc:TE}{mc:ME}
def qv(i:Nat){pos:Pos}(hN:X.N[i]?=some x:=by rfl)(hv:Vis X.env.scope x:=by first|exact Or.inl rfl|exact Or.inr (Or.inl rfl)|exact Or.inr (Or.inr rfl))(hd:(x==("__debug__":Str))=false:=by decide)
 (hcd:(x==("__classdict__":Str))=false:=by decide):QE K X (.Name x pos) (TU i) (A0 i):=⟨Gg hN hv hd hcd,aM⟩
def bX{i:Int}{j pos}:QE K X (.Constant (.int i) j pos) (tC (.int i)) (mC (.int i)):=⟨cD,PB λ_=>by simp[RI]⟩
def f7{i:Bool}{j pos}:QE K X (.Constant (.bool i) j pos) (tC (.bl i)) (mC (.bl i)):=⟨fD,PB λ_=>by simp[RI]⟩
def bP{j pos}:QE K X (.Constant .none j pos) (tC .non) (mC .non):=⟨cA,PB λ_=>by simp[RI]⟩
def bL{j pos}:QE K X (.Constant (.str x) j pos) (tC (.str x)) (mC (.str x)):=⟨c7,PB λ_=>by simp[RI]⟩
def Cy{f:D->D->Hd->Option (D×Hd)}(ho:OpR X (binaryOp op) r)(hr:RB K r f)(ha:QE K X a ta ma)(hb:QE K X b tb mb):QE K X (.BinOp a op b pos) (tOp r ta tb) (mOp f ma mb):=⟨PX ho ha.p hb.p,Kw hr ha.r hb.r⟩
def bR(ha:QE K X a ta ma):QE K X (.UnaryOp .USub a pos) (tUn (rU λi=>.int (-i)) ta) (E2 ma):=⟨fB Zj ha.p,aP ha.r⟩
def J3{f:D->D->Hd->Option (D×Hd)}(ho:OpR X (compareOp op) r)(hr:RB K r f)(ha:QE K X a ta ma)(hb:QE K X b tb mb)(hm:behindInMarks op b=false:=by first|exact J5 _|rfl):QE K X (.Compare a [op] [b] pos) (tOp r ta tb) (mOp f ma mb):=⟨YW ho ha.p hb.p hm,Kw hr ha.r hb.r⟩
def DI{f:D->D->Hd->Option (D×Hd)}(ho:OpR X (compareOp op) r)(hr:RB K r f)(ha:QE K X a ta ma)(hb:QE K X b tb mb)(hm:behindInMarks op b=false:=by first|exact J5 _|rfl):QT K X (.Compare a [op] [b] pos) (Ff (tOp r ta tb)) (A6 (mOp f ma mb)):=⟨Jk ho ha.p hb.p hm,DS (Kw hr ha.r hb.r)⟩
def UG(ha:QE K X a ta ma)(he:∀whole,isTrue a X.env whole=(do let v <- whole;standAt a.pos;holding [v] (truthy v)):=by intro _;rfl)(hK:X.K=K:=by rfl):
 QT K X a (λσ H Q=>ta σ H λx H'=>∃k,NO K x H' k/\Q k H') (BD ma):=by
 subst hK;exact⟨UV ha.p he,Tq ha.r⟩
def au(ha:QT K X a tA nA):QT K X (.UnaryOp .Not a pos) (TV tA) (CN nA):=⟨bg ha.p,Zz ha.r⟩
def Xh(ha:QT K X a tA nA):QW K X (.BoolOp .And [a] pos) tA nA:=⟨YE ha.p,ha.r⟩
def aq(ha:QT K X a tA nA):QW K X (.BoolOp .Or [a] pos) tA nA:=⟨bc ha.p,ha.r⟩
def ar{rest:List Expr}(ha:QT K X a tA nA)(hb:QW K X (.BoolOp .And (b::rest) pos) tB' nB):QW K X (.BoolOp .And (a::b::rest) pos) (Ta tA tB') (Ba nA nB):=⟨bf ha.p hb.p,a7 ha.r hb.r⟩
def eX{rest:List Expr}(ha:QT K X a tA nA)(hb:QW K X (.BoolOp .Or (b::rest) pos) tB' nB):QW K X (.BoolOp .Or (a::b::rest) pos) (tOr tA tB') (mOr nA nB):=⟨f8 ha.p hb.p,eM ha.r hb.r⟩
def QW.toT{K:Frag}(h:QW K X e t m):QT K X e t m:=⟨h.p.pt,h.r⟩
def bN{op}(ha:QE K X a ta ma):QE K X (.BoolOp op [a] pos) ta ma:=⟨c8 ha.p,ha.r⟩
def bZ{rest:List Expr}(ha:QE K X a ta ma)(hb:QE K X (.BoolOp .And (b::rest) pos) tb mb):QE K X (.BoolOp .And (a::b::rest) pos) (P1 ta tb) (El ma mb):=⟨cF ha.p hb.p,Xb ha.r hb.r⟩
def bO(ha:QE K X a ta ma):QE K X (.UnaryOp .Not a pos) (Oy ta) (HV ma):=⟨c9 ha.p,XT ha.r⟩
def UQ(hc:QT K X c tA nA)(ha:QE K X a ta ma)(hb:QE K X b tb mb):QE K X (.IfExp c a b pos) (tIf tA ta tb) (mIf nA ma mb):=⟨Ue hc.p ha.p hb.p,eQ hc.r ha.r hb.r⟩
def ba:QA K X [] Aq A4:=⟨Bn,MN⟩
def YD(ha:QE K X e te me)(hr:QA K X es t m)(hs:starEach (e::es) X.env=(false,eval e X.env)::starEach es X.env:=by rfl):QA K X (e::es) (AZ te t) (A1 me m):=⟨B3 ha.p hr.p hs,Xg ha.r hr.r⟩
def bK{x1}(h:QA K X es t m):QE K X (.Tuple es x1 pos) (JY t) (Ad m):=⟨Rl h.p,aN h.r⟩
def b8(h:QA K X es t m):QN K X (.List es pos) (TW t) (Am m):=⟨cB h.p,aA h.r⟩
def bQ(h:QN K X e te m):QE K X e te (Ag m):=⟨h.p,RQ h.r⟩
def eZ(ha:QE K X a ta ma)(hb:QE K X b tb mb)(hs:K8 b:=by exact λ_ _=>rfl)(hK:X.K=K:=by rfl):QE K X (.Subscript a b pos) (tOp (Kz K) ta tb) (mOp gIx ma mb):=⟨W4 ((Ml K hK).or (OI K hK)) ha.p hb.p hs,Kw eU ha.r hb.r⟩
def YC(hu:X.A.units+1<cLine)(ha:QE K X a ta ma)(hb:QE K X b tb mb)(hs:Ve b:=by exact λ_ _=>rfl):QE K X (.Subscript a b pos) (P0 ta tb) (mOp DM ma mb):=⟨YU hu ha.p hb.p hs,Xa ha.r hb.r⟩
def Xx:QO K X none Ja B4:=⟨YM,XB⟩
def Xw(h:QE K X e te me):QO K X (some e) (Ox te) (BX me):=⟨YL h.p,XA h.r⟩
def az{lo:Option Expr}{tl:TO}(h:QE K X e te me)(hl:QO K X lo tl ml)(hh:QO K X hi th mh)(hK:X.K=K:=by rfl):QN K X (.Subscript e (.Slice lo hi none p2) pos) (tSl (PH K) te tl th) (Jr me ml mh):=⟨MW (Td K hK) h.p hl.p hh.p,a9 h.r hl.r hh.r⟩
def Dg{id:String}{p:Pos}{r:List V->Hp->VK->Prop}{f:List D->Hd->Option (D×Hd)}(hc:CallR X (.builtin id) r)(hr:RF K r f)(hm:X.mg x=none)(hv:bootBuiltins x=some (.builtin id))(ha:QA K X (e::es) t m)(hg:Gl X x:=by rfl)(hn:x≠"__name__":=by decide)(hdb:(x==("__debug__":Str))=false:=by decide)
 (he:starEach (e::es) X.env=(false,eval e X.env)::starEach es X.env:=by rfl) (hpl:(backTo pos (starEach es X.env)).any (·.1)=false:=by rfl):QE K X (.Call (.Name x p) (e::es) [] pos) (tCB r t) (mCB f m):=⟨D3 hc hg hm hv ha.p hn hdb he hpl,Vr hr ha.r⟩
def W2{id:String}{p:Pos}{r:List V->Hp->VK->Prop}{f:List D->Hd->Option (D×Hd)}(hc:CallR X (.type id) r)(hr:RF K r f)(hm:X.mg x=none)(hv:bootBuiltins x=some (.type id))(ha:QA K X (e::es) t m)(hg:Gl X x:=by rfl)(hn:x≠"__name__":=by decide)(hdb:(x==("__debug__":Str))=false:=by decide)
 (he:starEach (e::es) X.env=(false,eval e X.env)::starEach es X.env:=by rfl) (hpl:(backTo pos (starEach es X.env)).any (·.1)=false:=by rfl):QE K X (.Call (.Name x p) (e::es) [] pos) (tCB r t) (mCB f m):=⟨C5 hc hg hm hv ha.p hn hdb he hpl,Vr hr ha.r⟩
def L8{id:String}{p:Pos}{r:List V->Hp->VK->Prop}{tp:Bool}{g:List D->Option D}(hc:CallR X (.builtin id) r)(hr:RG K tp r g)(hm:X.mg x=none)(hv:bootBuiltins x=some (.builtin id))(ha:QN K X e te m)(hg:Gl X x:=by rfl)(hn:x≠"__name__":=by decide)(hdb:(x==("__debug__":Str))=false:=by decide)
 (he:starEach [e] X.env=[(false,eval e X.env)]:=by rfl):QE K X (.Call (.Name x p) [e] [] pos) (tCB r (AZ te Aq)) (BI g m):=⟨D3 hc hg hm hv (B3 ha.p Bn he) hn hdb he rfl,RU hr ha.r⟩
def f6{id:String}{p:Pos}{r:List V->Hp->VK->Prop}{tp:Bool}{g:List D->Option D}(hc:CallR X (.type id) r)(hr:RG K tp r g)(hm:X.mg x=none)(hv:bootBuiltins x=some (.type id))(ha:QN K X e te m)(hg:Gl X x:=by rfl)(hn:x≠"__name__":=by decide)(hdb:(x==("__debug__":Str))=false:=by decide)
 (he:starEach [e] X.env=[(false,eval e X.env)]:=by rfl):QE K X (.Call (.Name x p) [e] [] pos) (tCB r (AZ te Aq)) (BI g m):=⟨C5 hc hg hm hv (B3 ha.p Bn he) hn hdb he rfl,RU hr ha.r⟩
def Xy(hm:X.mg "list"=none)(ha:QE K X e te me)(hg:Gl X "list":=by rfl)(he:starEach [e] X.env=[(false,eval e X.env)]:=by rfl)(hK:X.K=K:=by rfl):QN K X (.Call (.Name "list" p) [e] [] pos) (tCB (FH K) (AZ te Aq)) (Fv me):=⟨C5 (JP K hK) hg hm K5 (B3 ha.p Bn he) (by decide) (by decide) he rfl,XD ha.r⟩
def UM(hm:X.mg "list"=none)(ha:QN K X e te m)(hg:Gl X "list":=by rfl)(he:starEach [e] X.env=[(false,eval e X.env)]:=by rfl)(hK:X.K=K:=by rfl):QN K X (.Call (.Name "list" p) [e] [] pos) (tCB (FH K) (AZ te Aq)) (Gm m):=⟨C5 (JP K hK) hg hm K5 (B3 ha.p Bn he) (by decide) (by decide) he rfl,Tx ha.r⟩
def PR{id:String}{r:V->List V->Hp->VK->Prop}{f:D->List D->Hd->Option (D×Hd)}{apos cpos:Pos}(slot:Slot "list" name id)(hty:typeOf (.builtin id)=pure (.type "method_descriptor"))(hm:MtM X id r)(hr:RM K r f)(ho:QE K X o to mo)(ha:QA K X (e::es) t m)
 (hbase:attributeBase o name X.env (eval o X.env)=eval o X.env:=by rfl)
 (hfew:((backTo cpos (starEach (e::es) X.env)).all (λx=>!x.1)&&(backToKw cpos (keywordEach [] X.env)).all (λx=>x.1.isSome)
  && decide ((e::es).length+([]:List Keyword).length+(if([]:List Keyword).isEmpty then 0 else 1)<30))=true:=by rfl)
 (hline:(apos.endLine==cpos.line)=true:=by rfl) (hs:starEach (e::es) X.env=(false,eval e X.env)::starEach es X.env:=by rfl) (hplain:(backTo cpos (starEach es X.env)).any (·.1)=false:=by rfl) (hK:X.K=K:=by rfl):
 QE K X (.Call (.Attribute o name apos) (e::es) [] cpos) (tBM K "list" r to t) (mMt f mo m):=by
 subst hK;exact⟨fC PySem.F.plainAttrs_list slot hty hm ho.p ha.p hbase hfew hline hs hplain,Vq hr ho.r ha.r⟩
def bS{id:String}{r:V->List V->Hp->VK->Prop}{f:D->List D->Hd->Option (D×Hd)}{apos cpos:Pos}(slot:Slot "list" name id)(hty:typeOf (.builtin id)=pure (.type "method_descriptor"))(hm:MtM X id r)(hr:RM K r f)(ho:QE K X o to mo)
 (hbase:attributeBase o name X.env (eval o X.env)=eval o X.env:=by rfl) (hline:(apos.endLine==cpos.line)=true:=by rfl) (hK:X.K=K:=by rfl):
 QE K X (.Call (.Attribute o name apos) [] [] cpos) (TZ K "list" r to) (mMt f mo A4):=by
 subst hK;exact⟨cE PySem.F.plainAttrs_list slot hty hm ho.p hbase hline,aQ hr ho.r⟩
def US(w:Nat){j k:Nat}{n:Nat}{F:List D->Hd->Option (D×Hd)}{st:Stmt}{p:Pos}(G:FnOk X.prog X.w X.K X.mg X.base CX0 j f fd ps (spF K n F))(hr:Room k X.A)(DA:DefAt X.K X.mg x st f fd ps)(ha:QA K X (e::es) t m)(hF:∀ds hd z,F ds hd=some z->ds.length=n)
 (hjk:j<=k:=by decide) (hg:Gl X x:=by rfl) (hdb:(x==("__debug__":Str))=false:=by decide) (he:starEach (e::es) X.env=(false,eval e X.env)::starEach es X.env:=by rfl) (hpl:(backTo pos (starEach es X.env)).any (·.1)=false:=by rfl):
 QE K X (.Call (.Name x p) (e::es) [] pos) (Bx (spF K n F) [] E0 t) (A7 w F m):=⟨PY G hr DA ha.p hjk hg hdb he hpl,MJ ha.r hF⟩
def UU{j k:Nat}{n:Nat}{F:List D->Hd->Option (D×Hd)}{st:Stmt}{p:Pos}(G:FnOk X.prog X.w X.K X.mg X.base CX0 j f fd ps (spF K n F))(hr:Room k X.A)(DA:DefAt X.K X.mg x st f fd ps)(ha:QA K X (e::es) t m)(hF:∀ds hd z,F ds hd=some z->ds.length=n)
 (hjk:j<=k:=by decide) (hg:Gl X x:=by rfl) (hdb:(x==("__debug__":Str))=false:=by decide) (he:starEach (e::es) X.env=(false,eval e X.env)::starEach es X.env:=by rfl) (hpl:(backTo pos (starEach es X.env)).any (·.1)=false:=by rfl):
 QE K X (.Call (.Name x p) (e::es) [] pos) (Bx (spF K n F) [] E0 t) (AW F m):=⟨PY G hr DA ha.p hjk hg hdb he hpl,MK ha.r hF⟩
def Y5{i:Nat}(hN:X.N.Nodup)(hi:X.N[i]?=some x)(hx:Loc X.env.scope x)(hf:X.fn x=true∨X.env.scope.names.lookup x=some .local:=by first|exact .inl rfl|exact .inr rfl|assumption):QG K X (.Name x pos) (Dk i) (AF i):=⟨YS hN hi hx hf,Je⟩
def Y4:QGs K X [] VL C8:=⟨YQ,XG⟩
def UO(h1:QG K X e tg n)(h2:QGs K X es tgs ns)(hs:(assignEach (e::es) X.env).map (·.2)=assign e X.env::(assignEach es X.env).map (·.2):=by rfl):QGs K X (e::es) (Pn tg tgs) (Af n ns):=⟨Ud h1.p h2.p hs,U1 h1.r h2.r⟩
def bD{k n:Nat}(hc:X.calm=true)(h:QGs K X es tgs ns)(hK:X.K=K:=by rfl)(hn:(assignEach es X.env).length=n:=by rfl)(hst:(assignEach es X.env).findIdx? (·.1)=none:=by rfl):QG K X (.Tuple es k pos) (Pm K n tgs) (Bz n ns):=⟨YR K hc h.p hK hn hst,aH h.r⟩
def bA(h:QE K X e te me)(hK:X.K=K:=by rfl):QI K X tg e (Mn K te) (BE me):=⟨OC K h.p hK,R8 h.r⟩
def Y3(h:QE K X e te me)(hK:X.K=K:=by rfl):QI K X tg e (G8 K te) (C9 me):=⟨IL K h.p hK,O2 h.r⟩
def bC(h:QN K X e te m)(hK:X.K=K:=by rfl):QI K X tg e (G8 K te) (Js m):=⟨IL K h.p hK,aF h.r⟩
def Y0(hm:X.mg "range"=none)(ha:QA K X [a] t m)(hg:Gl X "range":=by rfl)(hs:starEach [a] X.env=[(false,eval a X.env)]:=by rfl):QI K X tg (.Call (.Name "range" p) [a] [] pos) (Pk t) (Bu m):=⟨Ri hg hm ha.p hs,XF ha.r⟩
def bJ:QF K X [] TQ CZ:=⟨bx,Zy⟩
def bH(h:QT K X c tA nA):QF K X [c] tA nA:=⟨bw h.p,h.r⟩
def Xz{iter:Expr}(hc:X.calm=true)(S:CSc X scope fr ix)(hi:QI K X tg iter wi mi)
 (hg:∀s H ex,QG K (cCx X (loc++fr) scope s H ex) tg g n) (hf:∀s H ex,QF K (cCx X (loc++fr) scope s H ex) ifs tf mf) (he:∀s H ex,QE K (cCx X (loc++fr) scope s H ex) elt te mm)
 (hs:∀x,foldedSetIterable iter X.env x=pure x:=by intro _;rfl):QN K X (.ListComp elt [⟨tg,iter,ifs,0⟩] scope pos) (Fg loc.length ix wi g tf te) (Ak loc.length ix mi n mf mm):=
 ⟨YV hc S hi.p (λs H ex=>(hg s H ex).p) (λs H ex=>(hf s H ex).p) (λs H ex=>(he s H ex).p) hs,O1 hi.r (hg X.s₀ X.H₀ []).r (hf X.s₀ X.H₀ []).r (he X.s₀ X.H₀ []).r⟩
def Xm:QSs K X [] HL AM:=⟨OB,Jd⟩
def UI{st:Stmt}{rest:List Stmt}(h1:QS K X st u m1)(h2:QSs K X rest v m2):QSs K X (st::rest) (Lc u v) (A5 m1 m2):=⟨MV h1.p h2.p,Qu h1.r h2.r⟩
def Xl{st:Stmt}(h1:QS K X st u m1):QSs K X [st] u m1:=⟨OA h1.p,h1.r⟩
def Xp:QS K X (.Pass pos) HL AM:=⟨YI,Jd⟩
def Xr(he:QE K X e te me)(hs:swapsWith e none pos.line X.env=pure false:=by rfl):QS K X (.Expr e pos) (Oz te) (Bp me):=⟨YJ he.p hs,X8 he.r⟩
def ax(he:QE K X e te me):QS K X (.Return (some e) pos) (IE te) (AI me):=⟨bi he.p,M7 he.r⟩
def eY(hc:QT K X c tA nA)(ha:QSs K X a u m1)(hb:QSs K X b v m2):QS K X (.If c a b pos) (Lg tA u v) (AS nA m1 m2):=⟨f9 hc.p ha.p hb.p,Vo hc.r ha.r hb.r⟩
def UK{st:Stmt}:QS K X st Ie CH:=⟨UZ,M9⟩
def aw{i:Nat}(hN:X.N.Nodup)(hi:X.N[i]?=some x)(hx:Loc X.env.scope x)(he:QE K X e te me)(hs:swapsWith e (some (.Name x pos')) pos.line X.env=pure false:=by rfl)(hf:X.fn x=true∨X.env.scope.names.lookup x=some .local:=by first|exact .inl rfl|exact .inr rfl|assumption):
 QS K X (.Assign [.Name x pos'] e pos) (Eu te (Dk i)) (AB i me):=⟨bh hN hi hx he.p hs hf,Qx he.r Je⟩
def Xo{i:Nat}{iter:Expr}{spos:Pos}(hN:X.N.Nodup)(hiN:X.N[i]?=some y)(hy:X.env.scope.names.lookup y=some .local)
 (hc:X.calm=true) (S:CSc X scope fr ix) (hi:QI K X tg iter wi mi)
 (hg:∀s H ex,QG K (cCx X (loc++fr) scope s H ex) tg g n) (hf:∀s H ex,QF K (cCx X (loc++fr) scope s H ex) ifs tf mf) (he:∀s H ex,QE K (cCx X (loc++fr) scope s H ex) elt te mm)
 (hsw:swapsWith (.ListComp elt [⟨tg,iter,ifs,0⟩] scope pos) (some (.Name y py)) spos.line X.env=pure true:=by rfl) (hs:∀x,foldedSetIterable iter X.env x=pure x:=by intro _;rfl):
 QS K X (.Assign [.Name y py] (.ListComp elt [⟨tg,iter,ifs,0⟩] scope pos) spos) (Eu (Fg loc.length ix wi g tf te) (Dk i)) (AB i (Ag (Ak loc.length ix mi n mf mm))):=
 ⟨YH hN hiN hy hc S hi.p (λs H ex=>(hg s H ex).p) (λs H ex=>(hf s H ex).p) (λs H ex=>(he s H ex).p) hsw hs,Qx (RQ (O1 hi.r (hg X.s₀ X.H₀ []).r (hf X.s₀ X.H₀ []).r (he X.s₀ X.H₀ []).r)) Je⟩
def Xu{ty:TE}(hu:X.A.units+1<cLine)(ho:QE K X o td md)(hi:QE K X i ty my)(hv:QE K X value tv mv)(hs:swapsWith value (some (.Subscript o i pos')) pos.line X.env=pure false:=by rfl):
 QS K X (.Assign [.Subscript o i pos'] value pos) (P6 td ty tv) (G4 md my mv):=⟨YK hu ho.p hi.p hv.p hs,X9 ho.r hi.r hv.r⟩
def Xq(ho:QE K X o to mo)(hi:QE K X i ti mi)(hv:QE K X value tv mv)(hs:swapsWithSole [.Subscript o i pos'] value pos.line X.env=pure false:=by rfl)(hw:swappedStores [.Subscript o i pos'] value X.env=pure none:=by rfl)
 (h1:(assignEach [.Subscript o i pos'] X.env).map (·.2)=[assign (.Subscript o i pos') X.env]:=by rfl)
 (ha:∀v,assign (.Subscript o i pos') X.env v=(do
  let ov <- holding [v] (eval o X.env)
  let iv <- holding [v,ov] (eval i X.env)
  standAt pos'
  holding [v,ov,iv] (setItem ov iv v)
  release [v,ov,iv] []):=by intro _;rfl):QS K X (.Assign [.Subscript o i pos'] value pos) (Eu tv (VJ to ti PJ)) (Ej mo mi mv):=⟨bn hv.p (bu ho.p hi.p Te ha) hs hw h1,X7 ho.r hi.r hv.r⟩
def ay{iter:Expr}(hc:X.calm=true)(hi:QI K X tg iter wi mi)(hg:QG K X tg g n)(hb:QSs K X body tb mb)(hp:PassesOwn (model X.prog X.w) X.A X.env X.xe:=by exact PassesOwn.never)
 (hs:∀x,foldedSetIterable iter X.env x=pure x:=by intro _;rfl):QS K X (.For tg iter body [] pos) (Lh wi g tb) (Az mi n mb):=⟨bj hp hc hi.p hg.p hb.p hs,Qw hi.r hg.r hb.r⟩
def UJ(hc:QT K X c tA nA)(hb:QSs K X body tb mb)(hp:PassesOwn (model X.prog X.w) X.A X.env X.xe:=by exact PassesOwn.never):QS K X (.While c body [] pos) (Lb tA tb) (Cr nA mb):=⟨UY hp hc.p hb.p,Tr hc.r hb.r⟩
end
def Yi{K:Frag}{mg:Str->Option Value}{st:Stmt}{j:Nat}(DA:DefAt K mg x st f fd ps)(S:FnScope N ps (A9 st))
 (h:∀(cdv:Value) (A:Around) (outer:List Env) (s:Shared) (H:Hp) (E:XK),Room j (A.deeper (envOfC x (A9 st) s.heap.objs.size f cdv))->∃t,QSs K (DZ CX0 P w K mg base N x (A9 st) f cdv A outer s H E).nox (B6 st) t m):
 FnOk P w K mg base CX0 (j+1) f fd ps (spF K ps.length (mkF ps.length N.length m)):=by
 refine DA.fn.ok S (λvs H Q E h=>h.1) (λcdv A outer s H vs Q E hr hs=>?_);obtain⟨t,q⟩:=h cdv A outer s H E hr;exact⟨t,q.p,Wp q.r hs⟩
section
variable{X:Cx}{O:List (Addr×Obj)}{σ:List (Option V)}{H H':Hp}{s:Shared}{h':Heap}
def Inv.turns{tk:Nat}{fp:List Addr}(I:Inv X O σ H s)(k:∀b o,b∉fp->s.heap.get? b=some o->h'.get? b=some o)(hf:∀b∈fp,CD X O H b):Inv X O σ H { s with heap:=h',toks:=tk }:=by
 have out:∀b u,H b=some u->b∉fp:=λb u e z=>by rw[(hf b z).1]at e;cases e
 have hL:X.env.locals∉fp:=λz=>(hf _ z).2.1 rfl;refine I.step (g':=s.gens) (d':=s.drawn) (ch:=fp) (λb hb=>⟨(hf b hb).2.2.2.1,(hf b hb).2.1,(hf b hb).2.2.2.2.1,(hf b hb).2.2.2.2.2⟩) (λb o _ _ hc e _=>k b o hc e) (λb o _ _ hc e _=>⟨o.slots,k b o hc e⟩) (λ_ _ _ _ n=>n)
  (λb o hc e=>⟨o,k b o hc e⟩) (λ_ _ e=>e) (λ_ _ _ e=>e) (λb ps e=>⟨#[],by rw[e];simp⟩) (λm hm=>?_) (λb u e=>?_) I.bare
 .obtain⟨o,es,ep,ho,r⟩:=hm;exact⟨o,es,ep,k _ o hL ho,r⟩
 .refine(I.hok b u e).stay (λc v hc q=>k c v ?_ q) (λ_ q=>q) λ_ _ q=>q;rcases hc with z|z
  .rw[z];exact out b u e
  .exact out c _ z
end
def Inv.turnsL{X:Cx}{O:List (Addr×Obj)}{σ:List (Option V)}{H:Hp}{s:Shared}{h':Heap}{tk:Nat}{fp:List Addr}{a:Addr}{o:HO}(I:Inv X O σ H s)(k:∀b o,b∉fp->s.heap.get? b=some o->h'.get? b=some o)(hf:∀b∈fp,CD X O H b)(ha:s.heap.objs.size<=a)(new:ObjOk X.prog X.w (upd H a o) h' a o):
 Inv X O σ (upd H a o) { s with heap:=h',toks:=tk }:=by
 have out:∀b u,H b=some u->b∉fp:=λb u e z=>by rw[(hf b z).1]at e;cases e
 have hL:X.env.locals∉fp:=λz=>(hf _ z).2.1 rfl;have fr:H a=none:=I.hok.fresh ha;refine I.step (g':=s.gens) (d':=s.drawn) (ch:=fp) (λb hb=>⟨(hf b hb).2.2.2.1,(hf b hb).2.1,(hf b hb).2.2.2.2.1,(hf b hb).2.2.2.2.2⟩) (λb o _ _ hc e _=>k b o hc e) (λb o _ _ hc e _=>⟨o.slots,k b o hc e⟩)
  (λb o _ e n=>by rw[AD (jg (jn (Heap.lt_size e) ha))];exact n) (λb o hc e=>⟨o,k b o hc e⟩) (λb xs e=>by rw[AD (AV e fr)];exact e) (λb o u e=>by rw[AD (AV e fr)];exact e)
  (λb ps e=>⟨#[],by rw[AD (AV e fr),e];simp⟩) (λm hm=>?_) (λb u e=>?_) I.bare
 .obtain⟨o,es,ep,ho,r⟩:=hm;exact⟨o,es,ep,k _ o hL ho,r⟩
 .by_cases hb:b=a
  .subst hb;rw[AE]at e;cases e;exact new
  .rw[AD hb]at e;refine(I.hok b u e).stay (λc v hc q=>k c v ?_ q) (λc q=>by rw[AD (AV q fr)];exact q) λc xs q=>by rw[AD (AV q fr)];exact q
   rcases hc with z|z
   .rw[z];exact out b u e
   .exact out c _ z
def iw(tp:Bool)(h:Heap)(it l:Addr)(k:Nat):Prop:=match tp with
 |true=>h.IsTupleIter it l k
 |false=>h.IsListIter it l k
section
variable{E:Value->Shared->Prop}{s:Shared}{k:Nat}
def tup_next(hit:s.heap.IsTupleIter it l k)(hl:s.heap.IsTuple l xs)(hx:xs[k]?=some x){Q:Value->Shared->Prop}(hQ:∀g,g.IsTupleIter it l (k+1)->Heap.SameBut it s.heap g->Q x { s with heap:=g }):
 wpAny (model prog w) A (Builtin.SmallTypes.nextOf (.ref it)) Q E s:=by
 obtain⟨o,eo,ec,ed⟩:=id hit;obtain⟨ol,el,_,nl,edl⟩:=hl;unfold Builtin.SmallTypes.nextOf;refine j8 (kC (name:=Str.ofString "__next__") hit.typeIs PyProof.Rows.slot_tupleiter_next (ky PyProof.Rows.slot_tupleiter_next hit.typeIs PyProof.Rows.entry_tupleiter_next ?_ (PyProof.Rows.args_tupleiter_next _)));show wpAny _ _ (field (.ref it) 0 >>= _) _ _ s;refine j8 (jK eo ed (x:=.ref l) rfl ?_);show wpAny _ _ (if(Value.ref l==Value.none)=true then _ else _) _ _ s;rw[ja (show ¬ (Value.ref l==Value.none)=true from Bool.false_ne_true)];show wpAny _ _ (field (.ref it) 1 >>= _) _ _ s;refine j8 (jK eo ed (x:=.int k 0) rfl ?_);show wpAny _ _ (seqItems? (.ref l) >>= _) _ _ s;refine j8 (wpAny_seqItems el edl ?_);simp only[jN,hx];refine j8 (kA eo ed (by simp) (jb ⟨x,rfl,jb (hQ _ ⟨_,Heap.get?_update_self _ eo (Obj.isFreed_of_fields (Obj.data_mapFields ed _)),(Obj.cls_mapFields ..).trans ec,?_⟩ (Heap.SameBut.update ..))⟩));rw[Obj.data_mapFields ed];simp[rawInt]
def tup_stop(hh:A.handled=none)(hit:s.heap.IsTupleIter it l k)(hl:s.heap.IsTuple l xs)(hx:xs[k]?=none){Q:Value->Shared->Prop}(hE:∀g e,Heap.ExtBut it s.heap g->(∃o,g.get? e=some o/\o.cls=.type "StopIteration")->E (.ref e) { s with heap:=g }):
 wpAny (model prog w) A (Builtin.SmallTypes.nextOf (.ref it)) Q E s:=by
 obtain⟨o,eo,ec,ed⟩:=id hit;obtain⟨ol,el,_,nl,edl⟩:=hl;unfold Builtin.SmallTypes.nextOf;refine j8 (kC (name:=Str.ofString "__next__") hit.typeIs PyProof.Rows.slot_tupleiter_next (ky PyProof.Rows.slot_tupleiter_next hit.typeIs PyProof.Rows.entry_tupleiter_next ?_ (PyProof.Rows.args_tupleiter_next _)));show wpAny _ _ (field (.ref it) 0 >>= _) _ _ s;refine j8 (jK eo ed (x:=.ref l) rfl ?_);show wpAny _ _ (if(Value.ref l==Value.none)=true then _ else _) _ _ s;rw[ja (show ¬ (Value.ref l==Value.none)=true from Bool.false_ne_true)];show wpAny _ _ (field (.ref it) 1 >>= _) _ _ s;refine j8 (jK eo ed (x:=.int k 0) rfl ?_);show wpAny _ _ (seqItems? (.ref l) >>= _) _ _ s;refine j8 (wpAny_seqItems el edl ?_);simp only[jN,hx];refine j8 (wpAny_rule (j8 (kA eo ed (by simp) ?_)));show wpAny _ _ (newExc (.type "StopIteration") [] >>= _) _ _ _;refine j8 ?_;simp only[newExc,newTuple];refine j8 (jG ?_ (by size_fits));refine j8 (m:=firstArgMember _ _) (wpAny_of_eq (a:=Value.none) (by first|rfl|(simp only[firstArgMember];rfl)) ?_);refine jG ?_ (by size_fits);simp only[raiseNew];refine j8 (wpAny_handled ?_)
 first|rw[show A.in1.handled=none from hh]|rw[hh]
 exact j8 (jb (wpAny_throw (hE _ _ (((Heap.SameBut.update ..).extBut.push _).push _) ⟨_,Heap.get?_push_size _ rfl,rfl⟩)))
end
def SqS(K:Frag)(tp:Bool)(H:Hp)(a:Addr)(xs:List V):Prop:=match tp with
 |true=>SqT K H a xs
 |false=>SqL K H a xs
def fj(K:Frag)(ρ:List Addr)(H:Hp)(tp:Bool)(a:Addr)(ds:List D)(g:Gd):Prop:=∀(ρ2:List Addr) (H2:Hp) (hd2:Hd),Ext ρ H ρ2 H2->RH K ρ2 H2 hd2->GOk hd2 g->∃xs,SqS K tp H2 a xs/\RDs K ρ2 H2 ds xs
def RRw(K:Frag)(tp:Bool)(t:TE)(m:MI):Prop:=∀(ρ:List Addr) (σ:St) (H:Hp) (hd:Hd) (ls:Ls) (Q:VK) (d:List D) (g:Gd) (hd':Hd),RH K ρ H hd->RL K ρ H ls σ->m ls hd=some ((d,g),hd') ->
 (∀ρ' H' a,Ext ρ H ρ' H'->RH K ρ' H' hd'->GOk hd' g->fj K ρ' H' tp a d g->Q (.ref a) H')->t σ H Q
structure QR(K:Frag)(tp:Bool)(X:Cx)(e:Expr)(t:TE)(m:MI):Prop where
 p:PE X e t
 r:RRw K tp t m
section
variable{K:Frag}{ρ':List Addr}{H':Hp}
def Zx(h:RE K t m):RRw K true t (BE m):=by
 intro ρ σ H hd ls Q d g hd' hR hL hm hQ;obtain⟨⟨d1,h1⟩,e1,hm⟩:=j6 hm;obtain⟨ds,e2,e3⟩:=j7 hm;cases e3;refine h ρ σ H hd ls _ d1 _ hR hL e1 λρ1 H1 v x1 R1 r1=>?_;obtain⟨a,xs,rfl,q,r⟩:=r1.tup e2;exact hQ ρ1 H1 a x1 R1 (AJ _) λρ2 H2 hd2 x2 R2 _=>⟨xs,(x2.grow R1).sq q,r.ext R1 x2⟩
def X2(h:RE K t m):RRw K false t (C9 m):=by
 intro ρ σ H hd ls Q d g hd' hR hL hm hQ;obtain⟨⟨d1,h1⟩,e1,hm⟩:=j6 hm;dsimp only at hm;split at hm
 .next n=>
  split at hm
  .next ds q=>
   cases hm;refine h ρ σ H hd ls _ _ _ hR hL e1 λρ1 H1 v x1 R1 r1=>?_;simp only[RD]at r1;obtain⟨a,hn,rfl⟩:=r1;refine hQ ρ1 H1 a x1 R1 (λp z=>by simp at z;subst z;exact q) λρ2 H2 hd2 x2 R2 G2=>?_;have hn2:ρ2[n]?=some a:=by
    obtain⟨r,rfl,_⟩:=x2.pre;rw[List.getElem?_append_left (List.getElem?_eq_some_iff.mp hn).1];exact hn
   obtain⟨ys,e4,e5⟩:=R2.lst hn2 (G2 (n,d) (by simp));exact⟨ys,SqL.of e4,e5⟩
  .cases hm
 .next ns=>
  cases hm;refine h ρ σ H hd ls _ _ _ hR hL e1 λρ1 H1 v x1 R1 r1=>?_;simp only[RD]at r1;obtain⟨a,rfl,q⟩:=r1;exact hQ ρ1 H1 a x1 R1 (AJ _) λρ2 H2 hd2 x2 R2 _=>⟨_,(q.grow (x2.grow R1)).sq,FQ⟩
 .cases hm
end
section
variable(K:Frag)
def Rb(h:QE K X e te me):QR K true X e te (BE me):=⟨h.p,Zx h.r⟩
def Xv(h:QE K X e te me):QR K false X e te (C9 me):=⟨h.p,X2 h.r⟩
end
section
variable{K:Frag}
noncomputable def E3(ml:MA)(mb:ME):ME:=λls hd=>(ml ls hd).bind λp=>(mb ls p.2).bind λq=>match q.1 with
 |.im (.int i)=>(atI p.1 i).map (·,q.2)
 |_=>none
def aR(ha:RN K ta ml)(hb:RE K tb mb):RE K (tOp (Kz K) ta tb) (E3 ml mb):=by
 and_intros;obtain⟨⟨d1,h1⟩,e1,hm⟩:=j6 hm;obtain⟨⟨d2,h2⟩,e2,hm⟩:=j6 hm;dsimp only at hm;split at hm
 .obtain⟨w,e3,e4⟩:=j7 hm;cases e4;refine ha ρ σ H hd ls _ d1 h1 hR hL e1 λρ1 H1 a xs x1 R1 na oa ea r1=>?_;refine hb ρ1 σ H1 h1 ls _ _ _ R1 (hL.ext hR x1) e2 λρ2 H2 v2 x2 R2 r2=>?_;simp only[RD,RI]at r2;subst r2;have r1':=r1.ext R1 x2;obtain⟨j,j1,j2⟩:=Od r1'.len e3;obtain⟨x,y1,y2⟩:=r1'.get j1;exact .inl ⟨a,xs,_,x,rfl,rfl,SqL.of (x2.keep a _ ea oa nt),j2 x y1,hQ ρ2 H2 x (x1.trans R1 x2) R2 y2⟩
 .cases hm
noncomputable def Jz(neg:Bool)(x y:PyData)(hd:Hd):Option (D×Hd):=if x.canLay0=true/\y.canLay0=true/\min x.depth y.depth<=60 then some (.im (.bl (if neg then !PyData.eqv x y else PyData.eqv x y)),hd)else none
noncomputable def Fz(neg:Bool)(ma:ME)(ml:MA):ME:=λls hd=>(ma ls hd).bind λp=>(ml ls p.2).bind λq=>(pyD q.2 p.1).bind λx=>(B0 q.1).bind λis=>Jz neg x (.list (I.pys is)) q.2
noncomputable def Fy(neg:Bool)(ml mk:MA):ME:=λls hd=>(ml ls hd).bind λp=>(mk ls p.2).bind λq=>(B0 p.1).bind λis=>(B0 q.1).bind λjs=>Jz neg (.list (I.pys is)) (.list (I.pys js)) q.2
noncomputable def rEN(K:Frag)(neg:Bool):R2:=λx y H Q=>∃d e,Rep K H d x/\Rep K H e y/\d.canLay0=true/\e.canLay0=true/\min d.depth e.depth<=60/\Q (.bl (if neg then !PyData.eqv d e else PyData.eqv d e)) H
def Jg(ea:H a=some (.lst xs))(r:RDs K ρ H ds xs)(e:B0 ds=some is):Rep K H (.list (I.pys is)) (.ref a):=by
 rw[Db e]at r;simp only[Rep];exact⟨a,xs,rfl,SqL.of ea,r.is.rep⟩
def XX{neg:Bool}(ha:RE K ta ma)(hb:RN K tb ml):RE K (tOp (rEN K neg) ta tb) (Fz neg ma ml):=by
 and_intros;obtain⟨⟨d1,h1⟩,e1,hm⟩:=j6 hm;obtain⟨⟨d2,h2⟩,e2,hm⟩:=j6 hm;obtain⟨x,e3,hm⟩:=j6 hm;obtain⟨is,e4,hm⟩:=j6 hm;unfold Jz at hm;split at hm
 .next c=>
  cases hm;refine ha ρ σ H hd ls _ d1 h1 hR hL e1 λρ1 H1 v x1 R1 r1=>?_;refine hb ρ1 σ H1 h1 ls _ d2 _ R1 (hL.ext hR x1) e2 λρ2 H2 a xs x2 R2 na oa ea r2=>?_;exact⟨_,_,DT R2 (r1.ext R1 x2) e3,Jg ea r2 e4,c.1,c.2.1,c.2.2,hQ ρ2 H2 _ (x1.trans R1 x2) R2 (by simp[RD,RI])⟩
 .cases hm
def XW{neg:Bool}(ha:RN K ta ml)(hb:RN K tb mk):RE K (tOp (rEN K neg) ta tb) (Fy neg ml mk):=by
 and_intros;obtain⟨⟨d1,h1⟩,e1,hm⟩:=j6 hm;obtain⟨⟨d2,h2⟩,e2,hm⟩:=j6 hm;obtain⟨is,e4,hm⟩:=j6 hm;obtain⟨js,e3,hm⟩:=j6 hm;unfold Jz at hm;split at hm
 .next c=>
  cases hm;refine ha ρ σ H hd ls _ d1 h1 hR hL e1 λρ1 H1 a xs x1 R1 na oa ea r1=>?_;refine hb ρ1 σ H1 h1 ls _ d2 _ R1 (hL.ext hR x1) e2 λρ2 H2 b ys x2 R2 nb ob eb r2=>?_;exact⟨_,_,Jg (x2.keep a _ ea oa nt) (r1.ext R1 x2) e4,Jg eb r2 e3,c.1,c.2.1,c.2.2,hQ ρ2 H2 _ (x1.trans R1 x2) R2 (by simp[RD,RI])⟩
 .cases hm
end
def cR(K:Frag){X:Cx}(hu:X.A.units+64<cLine)(hK:X.K=K:=by rfl):OpR X (compareOp .Eq) (rEN K false):=Jm K hu hK
def cN(K:Frag){X:Cx}(hu:X.A.units+64<cLine)(hK:X.K=K:=by rfl):OpR X (compareOp .NotEq) (rEN K true):=OD K hu hK
section
variable(K:Frag){e:Expr}{te:TE}{me:ME}{neg:Bool}
def bU(ha:QN K X a ta m)(hb:QE K X b tb mb)(hs:K8 b:=by exact λ_ _=>rfl)(hK:X.K=K:=by rfl):QE K X (.Subscript a b pos) (tOp (Kz K) ta tb) (E3 m mb):=⟨W4 ((Ml K hK).or (OI K hK)) ha.p hb.p hs,aR ha.r hb.r⟩
def Xj(ho:OpR X (compareOp op) (rEN K neg))(ha:QE K X a ta ma)(hb:QN K X b tb m)(hm:behindInMarks op b=false:=by first|exact J5 _|rfl):QT K X (.Compare a [op] [b] pos) (Ff (tOp (rEN K neg) ta tb)) (A6 (Fz neg ma m)):=⟨Jk ho ha.p hb.p hm,DS (XX ha.r hb.r)⟩
def Xi(ho:OpR X (compareOp op) (rEN K neg))(ha:QN K X a ta m)(hb:QN K X b tb mk)(hm:behindInMarks op b=false:=by first|exact J5 _|rfl):QT K X (.Compare a [op] [b] pos) (Ff (tOp (rEN K neg) ta tb)) (A6 (Fy neg m mk)):=⟨Jk ho ha.p hb.p hm,DS (XW ha.r hb.r)⟩
end
noncomputable def BW(lo:Int):Nat->List V
 |0=>[]
 |n+1=>.int lo::BW (lo+1) n
def Iz(lo:Int)(n:Nat):(BW lo n).length=n:=by
 induction n generalizing lo with
 |zero=>rfl
 |succ n ih=>simp[BW,ih]
def Fs{K:Frag}(lo:Int)(n:Nat):RDs K ρ H (AT lo n) (BW lo n):=by
 induction n generalizing lo with
 |zero=>simp[AT,BW,RDs]
 |succ n ih=>exact .cons (by simp[RD,RI]) (ih _)
theorem Iy{lo:Int}:∀{n:Nat} {us:List Value},us.length=n->(∀(j:Nat) (v:Value),us[j]?=some v->∃t,v=.int (lo+j*1) t)->Vals (BW lo n) us
 |0,us,h,_=>by
  have:us=[]:=List.length_eq_zero_iff.mp h;subst this;exact .nil
 |n+1,[],h,_=>by simp at h
 |n+1,u::us,h,k=>by
  obtain⟨t,e⟩:=k 0 u rfl;refine .cons ⟨t,by rw[e];simp⟩ (Iy (by simpa using h) λj v q=>?_);obtain⟨t',e'⟩:=k (j+1) v (by simpa using q);exact⟨t',by rw[e'];congr 1;push_cast;omega⟩
section
variable{A:Around}{E:Value->Shared->Prop}{s:Shared}
def NV{Q:List Value->Shared->Prop}{a b c:Int}{n:Nat}(hh:A.handled=none)(hr:IsRange s.heap r a b c t u v)(hsm:Builtin.Range.small a b c=true)(hn:Builtin.Range.rangeSize a b c=n)(hl:n<=2^24)
 (hQ:∀g tk (acc:Array Value),(∀b o,s.heap.get? b=some o->g.get? b=some o)->ItemsOf (λi v=>∃t,v=.int (a+i*c) t) acc n->Q acc.toList { s with heap:=g,toks:=tk }):
 wpAny (model prog w) A (collect (.ref r)) Q E s:=by
 unfold collect;refine j8 (wpAny_runValue (codeAny_builtin F.entry_proto_collect ?_));rw[Around.under_plainId F.plain_proto_collect _];show wpAny _ A.in1 (newList [] >>= λl=>again (.builtin "list.__iadd__" ⟨[l,.ref r],[]⟩)) _ _ s;refine j8 (jG (jb ⟨plainId_quiet F.plain_list_iadd _,codeAny_builtin F.entry_list_iadd ?_⟩));rw[Around.under_plainId F.plain_list_iadd _];show wpAny _ A.in1 (Builtin.List.listExtendWith (.ref s.heap.objs.size) (.ref r) (.ref s.heap.objs.size)) _ _ _;have e0:(s.heap.push { cls:=.type "list",data:=.seq ([]:List Value).toArray }).get? s.heap.objs.size=some { cls:=.type "list",data:=.seq #[] 0 }:=Heap.get?_push_size _ rfl;have fin:∀g tk (acc:Array Value) c',(∀b o,b≠s.heap.objs.size->(s.heap.push { cls:=.type "list",data:=.seq ([]:List Value).toArray }).get? b=some o->g.get? b=some o)->g.get? s.heap.objs.size=some { cls:=.type "list",dict:=none,data:=.seq acc c',slots:=#[] }->ItemsOf (λi v=>∃t,v=.int (a+i*c) t) acc n ->
  wpAny (model prog w) A (load s.heap.objs.size >>= λo=>match o.data with|Data.seq xs epoch=>pure xs.toList|x=>unsupported "internal:collect") Q E { s with heap:=g,toks:=tk }:=λg tk acc c' kp eS it=>
  j8 (wpAny_load eS (jb (hQ g tk acc (λb o q=>kp b o (jg (Heap.lt_size q)) (Heap.get?_push_of_some _ q)) it)))
 refine jo (wpAny_extend_range (A:=A) (R:=λr s'=>r=.ok (.ret (.ref s.heap.objs.size))/\∃g tk,s'={ s with heap:=g,toks:=tk }/\wpAny (model prog w) A (load s.heap.objs.size >>= λo=>match o.data with|Data.seq xs epoch=>pure xs.toList|x=>unsupported "internal:collect") Q E s')
  (s:={ s with heap:=s.heap.push { cls:=.type "list",data:=.seq ([]:List Value).toArray } }) hh (Heap.get?_push_of_some _ hr) hsm hn hl s.heap.objs.size (.ref s.heap.objs.size) 0 e0 λg tk acc c' kp eS it=>⟨rfl,g,tk,rfl,fin g tk acc c' kp eS it⟩) (λfn s' h=>?_) (λe s' h=>absurd h.1 (by simp))
 cases fn with
 |done f=>
  obtain⟨e,_,_,_,q⟩:=h;cases e;exact q
 |again c'=>exact⟨h.1,kx h.2 λr s'' hr=>by obtain⟨rfl,_,_,_,q⟩:=hr;exact q⟩
def LZ(r:Addr)(a b c:Int)(t u v:Tok)(n:Nat)(hsm:Builtin.Range.small a b c=true)(hn:Builtin.Range.rangeSize a b c=n)(hl:n<=2^24):
 Meets (Builtin.«tuple.__new__» ⟨[.type "tuple",.ref r],[]⟩)
  (λ(A:Around) (R:Result->Shared->Prop) (s:Shared)=>A.handled=none/\IsRange s.heap r a b c t u v/\∀(g:Heap) (tk:Nat) (acc:Array Value),(∀b o,s.heap.get? b=some o->g.get? b=some o)->ItemsOf (λi v=>∃t,v=.int (a+i*c) t) acc n->R (.ok (.ret (.ref g.objs.size))) { s with heap:=g.push { cls:=.type "tuple",data:=.seq acc },toks:=tk }):=
 .of_wp λprog w A R s h=>by
  obtain⟨hp,gg,d,tk,os⟩:=s;obtain⟨hh,hr,h⟩:=h;have hsub:=sub_tuple_self;have hinit:=init_tuple_lookup;have hmh:=madeHere_tuple;have hT:Shared.TypeIs ⟨hp,gg,d,tk,os⟩ (.ref r) "range":=⟨_,hr,rfl⟩
  have hh':A.in1.handled=none:=hh
  wp_walk using wpAny_typeOf hT,wpAny_loadPart' hr,NV hh' hr hsm hn hl
  intro g tk2 acc kp it;show wpAny _ _ (Builtin.Tuple.tupleExact acc.toList.toArray >>= λv=>ret v) _ _ _;unfold Builtin.Tuple.tupleExact;refine j8 (jG ?_ (by show acc.toList.toArray.size<=sizeLine;rw[jF];have:=it.1;simp only[Array.toArray_toList];omega));refine jb ⟨_,rfl,?_⟩;have e:acc.toList.toArray=acc:=by simp
  rw[e];exact h g tk2 acc kp it
end
def O7:List V->Hp->VK->Prop:=λxs H Q=>∃j:Int,xs=[.int j]/\∀p,H p=none->Q (.ref p) (upd H p (.rng 0 j))
def O6:List V->Hp->VK->Prop:=λxs H Q=>∃i j:Int,xs=[.int i,.int j]/\∀p,H p=none->Q (.ref p) (upd H p (.rng i j))
def MR:List V->Hp->VK->Prop:=λxs H Q=>∃a lo hi,xs=[.ref a]/\H a=some (.rng lo hi)/\(-(2^62)<=lo/\lo<2^62/\-(2^62)<=hi/\hi<2^62)/\(hi-lo).toNat<=2^24/\∀p,H p=none->Q (.ref p) (upd H p (.lst (BW lo (hi-lo).toNat)))
def Jh:List V->Hp->VK->Prop:=λxs H Q=>∃a lo hi,xs=[.ref a]/\H a=some (.rng lo hi)/\(-(2^62)<=lo/\lo<2^62/\-(2^62)<=hi/\hi<2^62)/\(hi-lo).toNat<=2^24/\∀p,H p=none->Q (.ref p) (upd H p (.tup (BW lo (hi-lo).toNat)))
section
def call_rng1:CallR X (.type "range") O7:=by
 intro O s σ H xs us Q I r h;obtain⟨j,rfl,q⟩:=h;obtain⟨u,rfl,t,rfl⟩:=BK r;exact call_range_1 ⟨.ref s.heap.objs.size,_,I.laid (a:=s.heap.objs.size) (o:=.rng 0 j) (λb o e=>Heap.get?_push_of_some _ e) (jc _) ⟨_,_,_,Heap.get?_push_size _ rfl⟩,rfl,q _ (I.hok.fresh (jc _))⟩
def Ke:CallR X (.type "range") O6:=by
 intro O s σ H xs us Q I r h;obtain⟨i,j,rfl,q⟩:=h;obtain⟨u,v,rfl,⟨t,rfl⟩,⟨t',rfl⟩⟩:=Ol r;exact call_range_2 ⟨.ref s.heap.objs.size,_,I.laid (a:=s.heap.objs.size) (o:=.rng i j) (λb o e=>Heap.get?_push_of_some _ e) (jc _) ⟨_,_,_,Heap.get?_push_size _ rfl⟩,rfl,q _ (I.hok.fresh (jc _))⟩
def Vn{lo hi:Int}:Builtin.Range.rangeSize lo hi 1=((hi-lo).toNat:Nat):=by rw[rangeSize_one];split<;>omega
def JC{lo:Int}{n:Nat}(it:ItemsOf (λi v=>∃t,v=.int (lo+i*1) t) acc n):Vals (BW lo n) acc.toList:=Iy (by simpa using it.1) λj v q=>it.2 j v (by simpa using q)
def Q0(hc:X.calm=true):CallR X (.type "list") MR:=by
 intro O s σ H xs us Q I r h;obtain⟨a,lo,hi,rfl,ha,⟨b1,b2,b3,b4⟩,hz,q⟩:=h;obtain⟨u,rfl,ru⟩:=BK r;cases ru;obtain⟨t,u,v,hr⟩:∃t u v,s.heap.get? a=some { cls:=.type "range",data:=.fields #[.int lo t,.int hi u,.int 1 v] }:=I.hok a _ ha;refine call_list_range (I.ok.hd hc) hr (small_one b1 b2 b3 b4) Vn hz λg tk acc c' kp e it=>?_;exact⟨.ref s.heap.objs.size,_,I.laid (t':=tk) (o:=.lst _) kp (jc _) ⟨by rw[Iz,jF];omega,acc.toList,c',JC it,by simpa using e⟩,rfl,q _ (I.hok.fresh (jc _))⟩
def Nf(hc:X.calm=true):CallR X (.type "tuple") Jh:=by
 intro O s σ H xs us Q I r h;obtain⟨a,lo,hi,rfl,ha,⟨b1,b2,b3,b4⟩,hz,q⟩:=h;obtain⟨u,rfl,ru⟩:=BK r;cases ru;obtain⟨t,u,v,hr⟩:∃t u v,s.heap.get? a=some { cls:=.type "range",data:=.fields #[.int lo t,.int hi u,.int 1 v] }:=I.hok a _ ha;refine callType_new F.called_tuple (by decide) (F.typeCall_tuple_1 _) (F.newCall_tuple_1 _) (λobj=>F.args_object_init_2 obj _) F.entry_tuple_new (LZ a lo hi 1 t u v _ (small_one b1 b2 b3 b4) Vn hz)
  ⟨I.ok.hd hc,hr,λg tk acc kp it=>⟨⟨_,Heap.get?_push_size _ rfl,rfl⟩,?_⟩⟩
 have I1:Inv X O σ H { s with heap:=g,toks:=tk }:=I.kept kp;exact⟨.ref g.objs.size,_,I1.laid (t':=tk) (o:=.tup (BW lo (hi-lo).toNat)) (λb o e=>Heap.get?_push_of_some _ e) (jc _) ⟨by rw[Iz,jF];omega,acc.toList,JC it,⟨_,Heap.get?_push_size _ rfl,rfl,⟨0,by simp⟩,rfl⟩⟩,rfl,q _ (I1.hok.fresh (jc _))⟩
end
section
variable{K:Frag}
open Classical in
noncomputable def Gk(m:MA):MA:=λls hd=>(m ls hd).bind λp=>match p.1 with
 |[.im (.int j)]=>if Iu j then some (AT 0 j.toNat,p.2)else none
 |[.im (.int i),.im (.int j)]=>if Vp i j then some (AT i (j-i).toNat,p.2)else none
 |_=>none
def J2:List V->Hp->VK->Prop:=λxs H Q=>O7 xs H Q∨O6 xs H Q
def Tw(h:RA K t m):RN K (tCB MR (AZ (tCB J2 t) Aq)) (Gk m):=by
 and_intros;obtain⟨⟨d1,h1⟩,e1,hm⟩:=j6 hm;dsimp only at hm;refine h ρ σ H hd ls _ d1 h1 hR hL e1 λρ1 H1 v x1 R1 r1=>?_;split at hm
 .next j=>
  split at hm
  .next c=>
   have c:j<2^24/\-(2^62)<=j:=c;cases hm;simp only[RDs,RD,RI]at r1;obtain⟨x,r,rfl,rfl,rfl⟩:=r1;refine .inl ⟨j,rfl,λp hp=>⟨p,0,j,rfl,AE,⟨by decide,by decide,c.2,by omega⟩,by omega,λl hl=>?_⟩⟩;obtain⟨R2,x2⟩:=R1.hid (ho:=.rng 0 j) hp;obtain⟨R3,x3⟩:=R2.hid (ho:=.lst (BW 0 (j-0).toNat)) hl;refine hQ ρ1 _ l (BW 0 (j-0).toNat) ((x1.trans R1 x2).trans R2 x3) R3 ((x1.trans R1 x2).none hR hl R2) (R2.out hl) AE ?_;rw[Int.sub_zero];exact Fs 0 _
  .cases hm
 .next i j=>
  split at hm
  .next c=>
   cases hm;simp only[RDs,RD,RI]at r1;obtain⟨x,r,rfl,rfl,y,r2,rfl,rfl,rfl⟩:=r1;refine .inr ⟨i,j,rfl,λp hp=>⟨p,i,j,rfl,AE,⟨c.1.1,c.1.2,c.2.1.1,c.2.1.2⟩,c.2.2,λl hl=>?_⟩⟩;obtain⟨R2,x2⟩:=R1.hid (ho:=.rng i j) hp;obtain⟨R3,x3⟩:=R2.hid (ho:=.lst (BW i (j-i).toNat)) hl;exact hQ ρ1 _ l (BW i (j-i).toNat) ((x1.trans R1 x2).trans R2 x3) R3 ((x1.trans R1 x2).none hR hl R2) (R2.out hl) AE (Fs i _)
  .cases hm
 .cases hm
noncomputable def LC(m:MA):ME:=λls hd=>(Gk m ls hd).bind λp=>some (AO p.1,p.2)
def XN(h:RA K t m):RE K (tCB Jh (AZ (tCB J2 t) Aq)) (LC m):=by
 and_intros;obtain⟨⟨dd,h0⟩,e0,hm⟩:=j6 hm;cases hm;obtain⟨⟨d1,h1⟩,e1,hm⟩:=j6 e0;dsimp only at hm;refine h ρ σ H hd ls _ d1 h1 hR hL e1 λρ1 H1 v x1 R1 r1=>?_;split at hm
 .next j=>
  split at hm
  .next c=>
   have c:j<2^24/\-(2^62)<=j:=c;cases hm;simp only[RDs,RD,RI]at r1;obtain⟨x,r,rfl,rfl,rfl⟩:=r1;refine .inl ⟨j,rfl,λp hp=>⟨p,0,j,rfl,AE,⟨by decide,by decide,c.2,by omega⟩,by omega,λl hl=>?_⟩⟩;obtain⟨R2,x2⟩:=R1.hid (ho:=.rng 0 j) hp;obtain⟨R3,x3⟩:=R2.hid (ho:=.tup (BW 0 (j-0).toNat)) hl;refine hQ ρ1 _ _ ((x1.trans R1 x2).trans R2 x3) R3 (BA (SqT.of AE) ?_);rw[Int.sub_zero];exact Fs 0 _
  .cases hm
 .next i j=>
  split at hm
  .next c=>
   cases hm;simp only[RDs,RD,RI]at r1;obtain⟨x,r,rfl,rfl,y,r2,rfl,rfl,rfl⟩:=r1;refine .inr ⟨i,j,rfl,λp hp=>⟨p,i,j,rfl,AE,⟨c.1.1,c.1.2,c.2.1.1,c.2.1.2⟩,c.2.2,λl hl=>?_⟩⟩;obtain⟨R2,x2⟩:=R1.hid (ho:=.rng i j) hp;obtain⟨R3,x3⟩:=R2.hid (ho:=.tup (BW i (j-i).toNat)) hl;exact hQ ρ1 _ _ ((x1.trans R1 x2).trans R2 x3) R3 (BA (SqT.of AE) (Fs i _))
  .cases hm
 .cases hm
def Jl:∀{xs ys:List Int},xs.Perm ys->xs.Pairwise (·<=·)->ys.Pairwise (·<=·)->xs=ys:=λ{xs ys} p a b=>
 p.eq_of_pairwise (le:=(·<=·)) (λ_ _ _ _ h1 h2=>Int.le_antisymm h1 h2) a b
noncomputable def Bm(xs:List Int):List Int:=xs.mergeSort (λa b=>decide (a<=b))
def Ik(xs:List Int):(Bm xs).Perm xs:=List.mergeSort_perm ..
def Lp(xs:List Int):(Bm xs).Pairwise (·<=·):=by
 have:=List.pairwise_mergeSort (le:=λa b:Int=>decide (a<=b)) (by intro a b c h1 h2;simp at *;omega) (by intro a b;simp;omega) xs;exact this.imp (by simp)
noncomputable def DU(m:MI):MA:=λls hd=>(m ls hd).bind λp=>(BF p.1.1).bind λns=>if ns.length<64 then some ((Bm ns).map λi=>.im (.int i),p.2)else none
def P8(h:RRw K false t m):RN K (tCB (Ji K) (AZ t Aq)) (DU m):=by
 and_intros;obtain⟨⟨⟨d1,g1⟩,h1⟩,e1,hm⟩:=j6 hm;obtain⟨ns,e2,hm⟩:=j6 hm;split at hm
 .next c=>
  cases hm;refine h ρ σ H hd ls _ d1 g1 _ hR hL e1 λρ1 H1 a x1 R1 G1 S1=>?_;obtain⟨xs,q,r⟩:=S1 ρ1 H1 _ .refl R1 G1;have e3:d1=ns.map λi=>.im (.int i):=EW e2;rw[e3]at r;have:=FF r;subst this;refine⟨a,ns,rfl,q,c,λp ns' hp pm pw=>?_⟩;have:ns'=Bm ns:=Jl (pm.trans (Ik ns).symm) pw (Lp ns);subst this;obtain⟨R2,x2⟩:=R1.hid (ho:=.lst ((Bm ns).map V.int)) hp;exact hQ ρ1 _ p _ (x1.trans R1 x2) R2 (x1.none hR hp R1) (R1.out hp) AE FQ
 .cases hm
end
section
variable(K:Frag){X:Cx}{b:Expr}{ta tb:TE}{me:ME}
def UL(hm:X.mg "list"=none)(hm2:X.mg "range"=none)(ha:QA K X (a::es) t m)(hc:X.calm=true:=by rfl)(hg:Gl X "list":=by rfl)(hg2:Gl X "range":=by rfl)(he2:starEach (a::es) X.env=(false,eval a X.env)::starEach es X.env:=by rfl)(hpl:(backTo pos2 (starEach es X.env)).any (·.1)=false:=by rfl)
 (he:starEach [.Call (.Name "range" p2) (a::es) [] pos2] X.env=[(false,eval (.Call (.Name "range" p2) (a::es) [] pos2) X.env)]:=by rfl):
 QN K X (.Call (.Name "list" p) [.Call (.Name "range" p2) (a::es) [] pos2] [] pos) (tCB MR (AZ (tCB J2 t) Aq)) (Gk m):=
 ⟨C5 (Q0 hc) hg hm K5 (B3 (C5 (call_rng1.or Ke) hg2 hm2 boot_range ha.p (by decide) (by decide) he2 hpl) Bn he) (by decide) (by decide) he rfl,Tw ha.r⟩
def Y6(hm:X.mg "tuple"=none)(hm2:X.mg "range"=none)(ha:QA K X (a::es) t m)(hc:X.calm=true:=by rfl)(hg:Gl X "tuple":=by rfl)(hg2:Gl X "range":=by rfl)(he2:starEach (a::es) X.env=(false,eval a X.env)::starEach es X.env:=by rfl)(hpl:(backTo pos2 (starEach es X.env)).any (·.1)=false:=by rfl)
 (he:starEach [.Call (.Name "range" p2) (a::es) [] pos2] X.env=[(false,eval (.Call (.Name "range" p2) (a::es) [] pos2) X.env)]:=by rfl):
 QE K X (.Call (.Name "tuple" p) [.Call (.Name "range" p2) (a::es) [] pos2] [] pos) (tCB Jh (AZ (tCB J2 t) Aq)) (LC m):=
 ⟨C5 (Nf hc) hg hm bt_tuple (B3 (C5 (call_rng1.or Ke) hg2 hm2 boot_range ha.p (by decide) (by decide) he2 hpl) Bn he) (by decide) (by decide) he rfl,XN ha.r⟩
def PQ(hm:X.mg "sorted"=none)(ha:QR K false X e te mi)(hg:Gl X "sorted":=by rfl)(he:starEach [e] X.env=[(false,eval e X.env)]:=by rfl)(hK:X.K=K:=by rfl):QN K X (.Call (.Name "sorted" p) [e] [] pos) (tCB (Ji K) (AZ te Aq)) (DU mi):=
 ⟨D3 (NE K hK) hg hm Ki (B3 ha.p Bn he) (by decide) (by decide) he rfl,P8 ha.r⟩
end
end L2
namespace L2
structure BltA(mg:PySem.Str->Option PySem.Value):Prop where
 list:mg "list"=none
 tuple:mg "tuple"=none
 len:mg "len"=none
 range:mg "range"=none
 repr:mg "repr"=none
 sum:mg "sum"=none
 min:mg "min"=none
 max:mg "max"=none
 abs:mg "abs"=none
 all:mg "all"=none
 any:mg "any"=none
 sorted:mg "sorted"=none
 zip:mg "zip"=none
 isinstance:mg "isinstance"=none
 int:mg "int"=none
 bool:mg "bool"=none
 str:mg "str"=none
 set:mg "set"=none
 enumerate:mg "enumerate"=none
 reversed:mg "reversed"=none
 dict:mg "dict"=none
end L2
namespace L2
open PySem PySem.Spec PyProof.Rows
section
variable{ls:Ls}{hd:Hd}{a b c:MS}{ma mb mc:ME}{ta tb:MT}{m m1 m2:MA}{n:MG}{ns:MGs}{d e:D}
@[simp] theorem JI:A5 a b ls hd=(a ls hd).bind λp=>match p.1 with
 |.nx ls1=>b ls1 p.2
 |f=>some (f,p.2):=rfl
@[simp] theorem OO:AM ls hd=some (.nx ls,hd):=rfl
@[simp] theorem ZD:Bp ma ls hd=(ma ls hd).bind λp=>some (.nx ls,p.2):=rfl
@[simp] theorem SM:AI ma ls hd=(ma ls hd).bind λp=>some (.rt p.1,p.2):=rfl
@[simp] theorem gm:fO ls hd=some (.rt (.im .non),hd):=rfl
@[simp] theorem gU:cq ls hd=some (.bk ls,hd):=rfl
@[simp] theorem hU:fR ls hd=some (.ct ls,hd):=rfl
@[simp] theorem N2:AS ta a b ls hd=(ta ls hd).bind λp=>if p.1=true then a ls p.2 else b ls p.2:=rfl
@[simp] theorem JJ:V0 ma n ls hd=(ma ls hd).bind λp=>(n p.1 ls p.2).map λls'=>(.nx ls',p.2):=rfl
@[simp] theorem Jx(i:Nat):AF i d ls hd=some (ls.set i (some d)):=rfl
@[simp] theorem gq(k:Nat):Bz k ns d ls hd=(AL d).bind λds=>if ds.length=k then ns ds ls hd else none:=rfl
@[simp] theorem gQ(d:D)(ds:List D):Af n ns (d::ds) ls hd=(n d ls hd).bind λls1=>ns ds ls1 hd:=rfl
@[simp] theorem gv:C8 [] ls hd=some ls:=rfl
@[simp] theorem dP(ix:List Nat):Ph ix m ls hd=(m ls hd).bind λp=>if p.1.length=ix.length then some (.nx ((ix.zip p.1).foldl (λl q=>l.set q.1 (some q.2)) ls),p.2)else none:=rfl
@[simp] theorem gn(i j k:Nat):fP i j k m ls hd=Ph [k,j,i] (λls hd=>(m ls hd).map λp=>(p.1.reverse,p.2)) ls hd:=rfl
@[simp] theorem Dz(i:Nat):A0 i ls hd=match ls[i]? with
 |some (some d)=>some (d,hd)
 |_=>none:=rfl
@[simp] theorem iu(i:I):mC i ls hd=some (.im i,hd):=rfl
@[simp] theorem Po(f:D->D->Hd->Option (D×Hd)):mOp f ma mb ls hd=(ma ls hd).bind λp=>(mb ls p.2).bind λq=>f p.1 q.1 q.2:=rfl
@[simp] theorem N4:Ba ta tb ls hd=(ta ls hd).bind λp=>if p.1=true then tb ls p.2 else some (false,p.2):=rfl
@[simp] theorem ia:mOr ta tb ls hd=(ta ls hd).bind λp=>if p.1=true then some (true,p.2)else tb ls p.2:=rfl
@[simp] theorem iI:CN ta ls hd=(ta ls hd).bind λp=>some (!p.1,p.2):=rfl
@[simp] theorem JH:BD ma ls hd=(ma ls hd).bind λp=>(Co p.2 p.1).map (·,p.2):=rfl
@[simp] theorem He:A6 ma ls hd=(ma ls hd).bind λp=>match p.1 with
 |.im (.bl b)=>some (b,p.2)
 |_=>none:=rfl
@[simp] theorem ic:mIf ta ma mb ls hd=(ta ls hd).bind λp=>if p.1=true then ma ls p.2 else mb ls p.2:=rfl
@[simp] theorem hZ:El ma mb ls hd=(A6 ma ls hd).bind λp=>if p.1=true then mb ls p.2 else some (.im (.bl false),p.2):=rfl
@[simp] theorem iH:gL ma mb ls hd=(A6 ma ls hd).bind λp=>if p.1=true then some (.im (.bl true),p.2)else mb ls p.2:=rfl
@[simp] theorem gu:HV ma ls hd=(A6 ma ls hd).bind λp=>some (.im (.bl (!p.1)),p.2):=rfl
@[simp] theorem N1:A4 ls hd=some ([],hd):=rfl
@[simp] theorem OP:A1 ma m ls hd=(ma ls hd).bind λp=>(m ls p.2).bind λq=>some (p.1::q.1,q.2):=rfl
open Classical in
@[simp] theorem iB:Ad m ls hd=(m ls hd).bind λp=>if Bg p.1.length then some (AO p.1,p.2)else none:=rfl
open Classical in
@[simp] theorem dU:Am m ls hd=(m ls hd).bind λp=>if Bg p.1.length then some (p.1,p.2)else none:=rfl
@[simp] theorem dQ:Ag m ls hd=(m ls hd).bind λp=>some (.mu p.2.length,p.2++[.lst p.1]):=rfl
@[simp] theorem dR:E2 ma ls hd=(ma ls hd).bind λp=>match p.1 with
 |.im (.int i)=>some (.im (.int (-i)),p.2)
 |_=>none:=rfl
@[simp] theorem iJ(neg:Bool):gM neg ma ls hd=(ma ls hd).bind λp=>some (.im (.bl (match p.1 with
 |.im .non=>!neg
 | _=>neg)),p.2):=rfl
@[simp] theorem ie(g:Int->Int->Option I)(i j:Int):fI g (.im (.int i)) (.im (.int j)) hd=(g i j).map (.im ·,hd):=rfl
@[simp] theorem Jy(f g:D->D->Hd->Option (D×Hd)):CC f g d e hd=match f d e hd with
 |some z=>some z
 |none=>g d e hd:=rfl
@[simp] theorem N3(neg:Bool)(i j:Int):Ez neg (.im (.int i)) (.im (.int j)) hd=some (.im (.bl (if neg then !decide (i=j)else decide (i=j))),hd):=by simp[Ez,scI,Ly]
@[simp] theorem iK(neg:Bool)(i j:Str):Ez neg (.im (.str i)) (.im (.str j)) hd=some (.im (.bl (if neg then !decide (i=j)else decide (i=j))),hd):=by simp[Ez,scI,Ly]
@[simp] theorem fW(i:Int):gIx d (.im (.int i)) hd=(Aa hd d).bind λds=>(atI ds i).map (·,hd):=rfl
@[simp] theorem ZF:DM d e hd=(C3 hd d).bind λkvs=>(CA e).bind λk=>(BH kvs k).map (·,hd):=rfl
@[simp] theorem ig(f:List D->Hd->Option (D×Hd)):mCB f m ls hd=(m ls hd).bind λp=>f p.1 p.2:=rfl
@[simp] theorem fX(tp:Bool)(g:List D->Option D):f1 tp g [d] hd=((if tp then Aa hd d else BG hd d)).bind λds=>(g ds).map (·,hd):=rfl
@[simp] theorem SO(g:List D->Option D):BI g m ls hd=(m ls hd).bind λp=>(g p.1).map (·,p.2):=rfl
@[simp] theorem Pp(f:D->List D->Hd->Option (D×Hd)):mMt f ma m ls hd=(ma ls hd).bind λp=>match BG p.2 p.1 with
 |some _=>(m ls p.2).bind λq=>f p.1 q.1 q.2
 |none=>none:=rfl
@[simp] theorem gy(i j:Int):EA [.im (.int i),.im (.int j)] hd=some (.im (.int (if j>i then j else i)),hd):=rfl
@[simp] theorem gw(i j:Int):Hc [.im (.int i),.im (.int j)] hd=some (.im (.int (if j<i then j else i)),hd):=rfl
@[simp] theorem iL(i:Int):F1 [.im (.int i)] hd=some (.im (.int (if i<0 then -i else i)),hd):=rfl
@[simp] theorem dW:E3 m ma ls hd=(m ls hd).bind λp=>(ma ls p.2).bind λq=>match q.1 with
 |.im (.int i)=>(atI p.1 i).map (·,q.2)
 |_=>none:=rfl
@[simp] theorem dX:BE ma ls hd=(ma ls hd).bind λp=>(AL p.1).map λds=>((ds,[]),p.2):=rfl
@[simp] theorem dZ:Js m ls hd=(m ls hd).map λp=>((p.1,[]),p.2):=rfl
@[simp] theorem SN:C9 ma ls hd=(ma ls hd).bind λp=>match p.1 with
 |.mu n=>match p.2[n]? with
  |some (.lst ds)=>some ((ds,[(n,ds)]),p.2)
  |_=>none
 |.ro ns=>some ((ns.map λn=>.im (.int n),[]),p.2)
 |_=>none:=rfl
open Classical in
@[simp] theorem dY:Bu m ls hd=(m ls hd).bind λp=>match p.1 with
 |[.im (.int j)]=>if Fo j then some ((AT 0 j.toNat,[]),p.2)else none
 |_=>none:=rfl
open Classical in
@[simp] theorem ZC:WD m ls hd=(m ls hd).bind λp=>match p.1 with
 |[.im (.int i),.im (.int j)]=>if Tu i j then some ((AT i (j-i).toNat,[]),p.2)else none
 |_=>none:=rfl
@[simp] theorem da(mi:MI):Az mi n a ls hd=(mi ls hd).bind λp=>Ao n a p.1.2 p.1.1 ls p.2:=rfl
open Classical in
@[simp] theorem hX(k:Nat)(ix:List Nat)(mi:MI):Ak k ix mi n ta ma ls hd=(mi ls hd).bind λp=>if Bg p.1.1.length then Av n ta ma p.1.2 p.1.1 (D1 k ix ls) p.2 else none:=rfl
@[simp] theorem iA:CZ ls hd=some (true,hd):=rfl
@[simp] theorem gT(F:List D->Hd->Option (D×Hd)):AW F m ls hd=(m ls hd).bind λp=>F p.1 p.2:=rfl
@[simp] theorem ft:B4 ls hd=some (none,hd):=rfl
@[simp] theorem Z9:BX ma ls hd=(ma ls hd).bind λp=>match p.1 with
 |.im (.int i)=>some (some i,p.2)
 |_=>none:=rfl
@[simp] theorem ZB:Fv ma ls hd=(ma ls hd).bind λp=>(Aa p.2 p.1).map (·,p.2):=rfl
@[simp] theorem gR:Gm m ls hd=m ls hd:=rfl
@[simp] theorem iD(ml mh:MO1):Jr ma ml mh ls hd=(ma ls hd).bind λp=>(ml ls p.2).bind λl=>(mh ls l.2).bind λh=>(BG h.2 p.1).bind λds=>some (Bi ds l.1 h.1,h.2):=rfl
@[simp] theorem iC(ml mh:MO1):gK ma ml mh ls hd=(ma ls hd).bind λp=>(ml ls p.2).bind λl=>(mh ls l.2).bind λh=>(AL p.1).bind λds=>if ¬ (HT.sIx ds.length 0 l.1=0/\HT.sIx ds.length ds.length h.1=ds.length)then some (AO (Bi ds l.1 h.1),h.2)else none:=rfl
@[simp] theorem gl:LC m ls hd=(Gk m ls hd).bind λp=>some (AO p.1,p.2):=rfl
open Classical in
@[simp] theorem dO:Gk m ls hd=(m ls hd).bind λp=>match p.1 with
 |[.im (.int j)]=>if Iu j then some (AT 0 j.toNat,p.2)else none
 |[.im (.int i),.im (.int j)]=>if Vp i j then some (AT i (j-i).toNat,p.2)else none
 |_=>none:=rfl
@[simp] theorem SL(mi:MI):DU mi ls hd=(mi ls hd).bind λp=>(BF p.1.1).bind λns=>if ns.length<64 then some ((Bm ns).map λi=>.im (.int i),p.2)else none:=rfl
@[simp] theorem hJ(ms:List (ME×ME)):fQ ms ls hd=(FN ms ls hd).bind λp=>if p.1.length<=15 then some (.mu p.2.length,p.2++[.dic (Rz [] p.1)])else none:=rfl
@[simp] theorem fq:FN [] ls hd=some ([],hd):=rfl
@[simp] theorem gP(r:List (ME×ME)):FN ((ma,mb)::r) ls hd=(ma ls hd).bind λp=>(mb ls p.2).bind λq=>(FN r ls q.2).bind λz=>(CA p.1).map λk=>((k,q.1)::z.1,z.2):=rfl
open Classical in
@[simp] theorem ZE:G4 ma mb mc ls hd=(mc ls hd).bind λp=>(ma ls p.2).bind λq=>(mb ls q.2).bind λr=>(CA r.1).bind λk=>match q.1 with
 |.mu n=>match r.2[n]? with
  |some (.dic kvs)=>if DN kvs.length then some (.nx ls,r.2.set n (.dic (Cp kvs k p.1)))else none
  |_=>none
 |_=>none:=rfl
@[simp] theorem ZA:Ej ma mb mc ls hd=(mc ls hd).bind λp=>(ma ls p.2).bind λq=>(mb ls q.2).bind λr=>match q.1,r.1 with
 |.mu n,.im (.int i)=>match r.2[n]? with
  |some (.lst ds)=>(ixN ds.length i).map λj=>(.nx ls,r.2.set n (.lst (ds.set j p.1)))
  |_=>none
 |_,_=>none:=rfl
@[simp] theorem i2(is:List I):AL (.im (.tup is))=some (is.map .im):=rfl
@[simp] theorem iQ(ds:List D):AL (.tm ds)=some ds:=rfl
@[simp] theorem iS(k:Nat):AL (.mu k)=none:=rfl
@[simp] theorem iR(k:List Int):AL (.ro k)=none:=rfl
@[simp] theorem Ih(is:List I):Aa hd (.im (.tup is))=some (is.map .im):=rfl
@[simp] theorem iV(ds:List D):Aa hd (.tm ds)=some ds:=rfl
@[simp] theorem Ii(k:Nat):Aa hd (.mu k)=BG hd (.mu k):=rfl
@[simp] theorem iW(k:List Int):Aa hd (.ro k)=some (k.map λn=>.im (.int n)):=rfl
@[simp] theorem G5(k:Nat):BG hd (.mu k)=match hd[k]? with
 |some (.lst ds)=>some ds
 |_=>none:=rfl
@[simp] theorem iX(k:List Int):BG hd (.ro k)=some (k.map λn=>.im (.int n)):=rfl
@[simp] theorem LH(k:Nat):C3 hd (.mu k)=match hd[k]? with
 |some (.dic ds)=>some ds
 |_=>none:=rfl
@[simp] theorem iZ(i:Int):CA (.im (.int i))=some (.inl i):=rfl
@[simp] theorem iY(i:Str):CA (.im (.str i))=some (.inr i):=rfl
@[simp] theorem iP:B0 []=some []:=rfl
@[simp] theorem ik(i:I)(r:List D):B0 (.im i::r)=(B0 r).map (i::·):=rfl
@[simp] theorem i8:BF []=some []:=rfl
@[simp] theorem i9(i:Int)(r:List D):BF (.im (.int i)::r)=(BF r).map (i::·):=rfl
@[simp] theorem iO:CO []=some []:=rfl
@[simp] theorem ii(i:Bool)(r:List D):CO (.im (.bl i)::r)=(CO r).map (i::·):=rfl
@[simp] theorem CY(is:List I):AO (is.map .im)=.im (.tup is):=by simp[AO]
@[simp] theorem Ry:AO []=.im (.tup []):=rfl
@[simp] theorem gk(i:I):AO [.im i]=.im (.tup [i]):=rfl
@[simp] theorem HN(i j:I):AO [.im i,.im j]=.im (.tup [i,j]):=rfl
@[simp] theorem Yl(i j k:I):AO [.im i,.im j,.im k]=.im (.tup [i,j,k]):=rfl
@[simp] theorem gj(i j k l:I):AO [.im i,.im j,.im k,.im l]=.im (.tup [i,j,k,l]):=rfl
@[simp] theorem iN(w:Nat)(i:I):clD w (.im i)=true:=by simp[clD]
@[simp] theorem iM(w n:Nat):clD w (.mu n)=decide (n<w):=by simp[clD]
@[simp] theorem gX(w:Nat):Aj w []=true:=by simp[Aj]
@[simp] theorem Sf(w:Nat)(d:D)(ds:List D):Aj w (d::ds)=(clD w d&&Aj w ds):=by simp[Aj]
@[simp] theorem K7{α:Type}(x:α)(r:List α):atI (x::r) 0=some x:=Aw (j:=0) rfl
@[simp] theorem Vb{α:Type}(x y:α)(r:List α):atI (x::y::r) 1=some y:=Aw (j:=1) rfl
@[simp] theorem Q5{α:Type}(x y z:α)(r:List α):atI (x::y::z::r) 2=some z:=Aw (j:=2) rfl
def EZ{α:Type}{xs:List α}{i:Int}{k:Nat}{x:α}(hi:i=k)(h:xs[k]?=some x):atI xs i=some x:=by subst hi;exact Aw h
@[simp] theorem Dy:Bg 0:=AR (by decide)
@[simp] theorem Cg:Bg 1:=AR (by decide)
@[simp] theorem JG:Bg 2:=AR (by decide)
@[simp] theorem FS:Bg 3:=AR (by decide)
@[simp] theorem dM:Bg 4:=AR (by decide)
@[simp] theorem dL:Bg 5:=AR (by decide)
open Classical in
@[simp] theorem SQ(k:Nat)(x:D):B5 (.mu k) [x] hd=match hd[k]? with
 |some (.lst ds)=>if DN ds.length then some (.im .non,hd.set k (.lst (ds++[x])))else none
 |_=>none:=rfl
def HH{F:List D->Hd->Option (D×Hd)}(h1:m ls hd=some (ds,hd1))(hc:Aj 0 ds=true)(hF:F ds []=some (.im i,h2)):A7 0 F m ls hd=some (.im i,hd1):=by
 simp[A7,h1,hc,hF,fin]
def Q1{F:List D->Hd->Option (D×Hd)}{k:Nat}(h1:m ls hd=some (ds,hd1))(hc:Aj 0 ds=true)(hF:F ds []=some (.mu k,h2))(hk:h2[k]?=some (.lst es))(hes:Aj 0 es=true):A7 0 F m ls hd=some (.mu hd1.length,hd1++[.lst es]):=by
 simp[A7,h1,hc,hF,fin,hk,hes]
def NI{w:Nat}{F:List D->Hd->Option (D×Hd)}{pre pre' rest:Hd}(hw:pre.length=w)(hw':pre'.length=w)(h1:m ls hd=some (ds,pre++rest))(hc:Aj w ds=true)(hp:pre.all (clO w)=true)(hp':pre'.all (clO w)=true)(hF:F ds pre=some (.im i,pre'++g)):A7 w F m ls hd=some (.im i,pre'++rest):=by
 subst hw;have e1:(pre++rest).take pre.length=pre:=by simp
 have e2:(pre'++g).take pre.length=pre':=by rw[<- hw'];simp
 simp only[A7,h1,bind_some,e1,hc,hp,hF,fin,e2,hp'];simp
end
def Mh:Ao n b g [] ls hd=some (.nx ls,hd):=by unfold Ao;rfl
def Gp(h1:n d ls hd=some ls1)(h2:b ls1 hd=some (.nx ls2,hd2))(h3:GOk hd2 g):Ao n b g (d::r) ls hd=Ao n b g r ls2 hd2:=by
 conv=>lhs;unfold Ao
 simp[h1,h2,h3]
def V1(h1:n d ls hd=some ls1)(h2:b ls1 hd=some (.rt v,hd2)):Ao n b g (d::r) ls hd=some (.rt v,hd2):=by
 conv=>lhs;unfold Ao
 simp[h1,h2]
open Classical in
noncomputable def mIn(k:Nat)(n:MG)(c:MT)(m:ME)(g:Gd):List D->Ls->Hd->Option (Ls×Hd)
 |[],ls,hd=>some (ls,hd)
 |d::r,ls,hd=>(n d ls hd).bind λls1=>(c ls1 hd).bind λp=>if p.1=true then(m ls1 p.2).bind λq=>(B5 (.mu k) [q.1] q.2).bind λz=>if GOk z.2 g then mIn k n c m g r ls1 z.2 else none else if GOk p.2 g then mIn k n c m g r ls1 p.2 else none
open Classical in
noncomputable def Pi(k:Nat)(n:MG)(c:MT)(mi:MI)(n2:MG)(c2:MT)(m:ME)(g:Gd):List D->Ls->Hd->Option Hd
 |[],ls,hd=>some hd
 |d::r,ls,hd=>(n d ls hd).bind λls1=>(c ls1 hd).bind λp=>if p.1=true then(mi ls1 p.2).bind λq=>(mIn k n2 c2 m q.1.2 q.1.1 ls1 q.2).bind λz=>if GOk z.2 g then Pi k n c mi n2 c2 m g r z.1 z.2 else none else if GOk p.2 g then Pi k n c mi n2 c2 m g r ls1 p.2 else none
noncomputable def cn(j:Nat)(ix:List Nat)(mi:MI)(n:MG)(c:MT)(mi2:MI)(n2:MG)(c2:MT)(m:ME):ME:=λls hd=>(mi ls hd).bind λp=>(Pi p.2.length n c mi2 n2 c2 m p.1.2 p.1.1 (D1 j ix ls) (p.2++[.lst []])).map λh=>(.mu p.2.length,h)
section
variable{K:Frag}
def Z6(G:GOk h g)(r:Hd):GOk (h++r) g:=λp hp=>by
 have:=G p hp;have hl:p.1<h.length:=(List.getElem?_eq_some_iff.mp this).1;rw[List.getElem?_append_left hl];exact this
end
open Classical in
noncomputable def Go(ma mb:ME):MA:=λls hd=>(ma ls hd).bind λp=>(mb ls p.2).bind λq=>match p.1,q.1 with
 |.mu i,.mu j=>match q.2[i]?,q.2[j]? with
  |some (.lst xs),some (.lst ys)=>if Bg (xs.length+ys.length)then some (xs++ys,q.2)else none
  |_,_=>none
 |_,_=>none
def aB{K:Frag}(ha:RE K ta ma)(hb:RE K tb mb):RN K (tOp UF ta tb) (Go ma mb):=by
 and_intros;obtain⟨⟨d1,h1⟩,e1,hm⟩:=j6 hm;obtain⟨⟨d2,h2⟩,e2,hm⟩:=j6 hm;dsimp only at hm;split at hm
 .next i j=>
  split at hm
  .next xs ys q1 q2=>
   split at hm
   .next c=>
    cases hm;refine ha ρ σ H hd ls _ _ h1 hR hL e1 λρ1 H1 v x1 R1 r1=>?_;refine hb ρ1 σ H1 h1 ls _ _ _ R1 (hL.ext hR x1) e2 λρ2 H2 u x2 R2 r2=>?_;have r1':=r1.ext R1 x2;simp only[RD]at r1' r2;obtain⟨a,ka,rfl⟩:=r1';obtain⟨b,kb,rfl⟩:=r2;obtain⟨vs,f1,f2⟩:=R2.lst ka q1;obtain⟨us,f3,f4⟩:=R2.lst kb q2;refine⟨a,b,vs,us,rfl,rfl,f1,f3,by rw[f2.len,f4.len];exact c,λp hp=>?_⟩;obtain⟨R3,x3⟩:=R2.hid (ho:=.lst (vs++us)) hp;have x12:=x1.trans R1 x2;exact hQ ρ2 _ p _ (x12.trans R2 x3) R3 (x12.none hR hp R2) (R2.out hp) AE ((f2.app f4).ext R2 x3)
   .cases hm
  .cases hm
 .cases hm
def b9(K:Frag)(ha:QE K X a ta ma)(hb:QE K X b tb mb):QN K X (.BinOp a .Add b pos) (tOp UF ta tb) (Go ma mb):=⟨PX cT ha.p hb.p,aB ha.r hb.r⟩
@[simp] theorem gS(j:Nat)(ix:List Nat)(mi mi2:MI)(n n2:MG)(c c2:MT)(m:ME)(ls:Ls)(hd:Hd):cn j ix mi n c mi2 n2 c2 m ls hd=(mi ls hd).bind λp=>(Pi p.2.length n c mi2 n2 c2 m p.1.2 p.1.1 (D1 j ix ls) (p.2++[.lst []])).map λh=>(.mu p.2.length,h):=rfl
end L2
namespace L2
open PySem PySem.Spec PyProof.Rows PySem.W
section
variable(r:Nat->Int)(n:Nat)
noncomputable def PWp{α:Type}:KasT α->(α->Prop)->Prop
 |.ret a,Q=>Q a
 |.ask i j k,Q=>i<n/\j<n/\PWp (k (decide (r i<r j))) Q
noncomputable def kv(p:Array Nat)(i:Nat):Int:=r (p.getD i 0)
def STo(p:Array Nat)(m:Nat):Prop:=∀i j,i<=j->j<m->kv r p i<=kv r p j
def DTo(p:Array Nat)(m:Nat):Prop:=∀i j,i<=j->j<m->kv r p j<=kv r p i
def EqL(p:Array Nat)(m q:Nat):Prop:=∀k,m-(q+1)<=k->k<m->kv r p k=kv r p (m-1)
def PAr(p:Array Nat):Prop:=p.Perm (List.range n).toArray
end
section
variable{r:Nat->Int}{n:Nat}
theorem PWp.bind{α β:Type}{f:α->KasT β}{Q:β->Prop}:∀{t:KasT α},PWp r n t (λa=>PWp r n (f a) Q)->PWp r n (t.bind f) Q
 |.ret _,h=>h
 |.ask i j k,h=>⟨h.1,h.2.1,PWp.bind h.2.2⟩
theorem PWp.mono{α:Type}{Q Q':α->Prop}:∀{t:KasT α},PWp r n t Q->(∀a,Q a->Q' a)->PWp r n t Q'
 |.ret _,h,q=>q _ h
 |.ask i j k,h,q=>⟨h.1,h.2.1,PWp.mono h.2.2 q⟩
theorem PWp.wp{α:Type}{cmp:Nat->Nat->(Bool->Shared->Prop)->Shared->Prop}{P:Shared->Prop}{Q:α->Shared->Prop}(hc:∀i j C s,i<n->j<n->P s->(∀s',P s'->C (decide (r i<r j)) s')->cmp i j C s):∀{t:KasT α} {s:Shared},PWp r n t (λa=>∀s,P s->Q a s)->P s->t.kasWp cmp Q s
 |.ret _,s,h,p=>h s p
 |.ask i j k,s,h,p=>hc i j _ s h.1 h.2.1 p λs' p'=>PWp.wp hc h.2.2 p'
theorem PAr.size(h:PAr n p):p.size=n:=by have:=h.size_eq;simpa using this
def PAr.lt(h:PAr n p){i:Nat}(hi:i<n):p.getD i 0<n:=by
 have hs:=h.size;have hi':i<p.size:=by omega
 have:p[i]∈(List.range n).toArray:=h.mem_iff.mp (Array.getElem_mem hi');have e:p.getD i 0=p[i]:=by simp[Array.getD,hi']
 rw[e];simpa using this
def JB{p:Array Nat}{i j:Nat}(hj:j<=p.size)(k:Nat):kv r (kas_rev p i j) k=if i<=k/\k<j then kv r p (i+j-1-k)else kv r p k:=by
 unfold kv kas_rev;simp only[Array.getD_eq_getD_getElem?];rw[getElem?_mirror_all hj];split<;>rfl
def PAr.rev(h:PAr n p)(i j:Nat):PAr n (kas_rev p i j):=(mirror_perm _ _ _ _).trans h
def OH{p:Array Nat}{m q:Nat}(hj:m<=p.size)(hq:q+1<=m)(h:EqL r p m q)(k:Nat):kv r (kas_rev p (m-(q+1)) m) k=kv r p k:=by
 rw[JB hj];split
 .next c=>rw[h _ (by omega) (by omega),h k c.1 c.2]
 .rfl
theorem NM(pa:PAr n p):∀(f m:Nat),1<=m->m+f<=n->STo r p m->PWp r n (kas_asc p f m) λm'=>m<=m'/\m'<=m+f/\STo r p m'/\(m'<m+f->kv r p m'<kv r p (m'-1))
 |0,m,h1,hn,hs=>⟨jc _,jc _,hs,λh=>by omega⟩
 |f+1,m,h1,hn,hs=>by
  refine⟨pa.lt (by omega),pa.lt (by omega),?_⟩;by_cases c:r (p.getD m 0)<r (p.getD (m-1) 0)
  .rw[jH c];exact⟨jc _,by omega,hs,λ_=>c⟩
  .rw[jO c];refine(NM pa f (m+1) (by omega) (by omega) ?_).mono λm' h=>⟨by omega,by omega,h.2.2.1,λz=>h.2.2.2 (by omega)⟩
   intro i j hij hj;by_cases e:j<m
   .exact hs i j hij e
   .have:j=m:=by omega
    subst this;by_cases e2:i=j
    .subst e2;exact Int.le_refl _
    .have:=hs i (j-1) (by omega) (by omega);have:kv r p (j-1)<=kv r p j:=by unfold kv;omega
     omega
def IX{m:Nat}(h1:1<=m)(h:DTo r p m)(c:kv r p m<=kv r p (m-1)):DTo r p (m+1):=by
 intro i j hij hj;by_cases e:j<m
 .exact h i j hij e
 .have:j=m:=by omega
  subst this;by_cases e2:i=j
  .subst e2;exact Int.le_refl _
  .have:=h i (j-1) (by omega) (by omega);omega
theorem Hk:∀(f:Nat) (p:Array Nat) (m q:Nat),PAr n p->1<=m->q+1<=m->m+f<=n->DTo r p m->EqL r p m q ->
 PWp r n (kas_desc f p m q) λz=>PAr n z.1/\m<=z.2.1/\z.2.1<=m+f/\DTo r z.1 z.2.1/\EqL r z.1 z.2.1 z.2.2/\z.2.2+1<=z.2.1
 |0,p,m,q,pa,h1,hq,hn,hd,he=>⟨pa,jc _,jc _,hd,he,hq⟩
 |f+1,p,m,q,pa,h1,hq,hn,hd,he=>by
  refine⟨pa.lt (by omega),pa.lt (by omega),?_⟩;have sz:=pa.size;by_cases c:r (p.getD m 0)<r (p.getD (m-1) 0)
  .rw[jH c];have c':kv r p m<=kv r p (m-1):=by unfold kv;omega
   dsimp only;rw[j9 rfl];by_cases hq0:q>0
   .rw[j9 hq0];have sm:=OH (r:=r) (p:=p) (m:=m) (q:=q) (by omega) hq he;refine(Hk f _ (m+1) 0 (pa.rev _ _) (by omega) (by omega) (by omega) ?_ ?_).mono λz h=>⟨h.1,by omega,by omega,h.2.2.2⟩
    .have:=IX h1 hd c';intro i j a b;rw[sm,sm];exact this i j a b
    .intro k a b;have:k=m:=by omega
     subst this;rfl
   .rw[ja hq0];refine(Hk f p (m+1) 0 pa (by omega) (by omega) (by omega) (IX h1 hd c') ?_).mono λz h=>⟨h.1,by omega,by omega,h.2.2.2⟩
    intro k a b;have:k=m:=by omega
    subst this;rfl
  .rw[jO c];dsimp only;rw[ja Bool.false_ne_true];refine⟨pa.lt (by omega),pa.lt (by omega),?_⟩;by_cases d:r (p.getD (m-1) 0)<r (p.getD m 0)
   .rw[jH d];exact⟨pa,jc _,by show m<=m+(f+1);omega,hd,he,hq⟩
   .rw[jO d];dsimp only;rw[ja Bool.false_ne_true];have e:kv r p m=kv r p (m-1):=by unfold kv;omega
    refine(Hk f p (m+1) (q+1) pa (by omega) (by omega) (by omega) (IX h1 hd (by omega)) ?_).mono λz h=>⟨h.1,by omega,by omega,h.2.2.2⟩
    intro k a b;by_cases e2:k=m
    .subst e2;rfl
    .have:=he k (by omega) (by omega);have e3:m+1-1=m:=rfl;rw[e3];omega
def Run(z:Nat×Array Nat)(r:Nat->Int)(n:Nat):Prop:=PAr n z.2/\1<=z.1/\z.1<=n/\STo r z.2 z.1
def La{m:Nat}(pa:PAr n p)(h1:1<=m)(hn:m<=n)(hd:DTo r p m):PWp r n (kas_tail3 m n p) λz=>Run z r n:=by
 have sz:=pa.size;have st:STo r (kas_rev p 0 m) m:=by
  intro i j a b;rw[JB (by omega),JB (by omega),j9 ⟨by omega,by omega⟩,j9 ⟨by omega,by omega⟩];exact hd _ _ (by omega) (by omega)
 refine PWp.bind ((NM (pa.rev 0 m) (n-m) m h1 (by omega) st).mono λm' h=>?_);exact⟨pa.rev 0 m,by show 1<=m';omega,by show m'<=n;omega,h.2.2.1⟩
def Hw{m:Nat}(pa:PAr n p)(hn:m+1<=n)(hd:DTo r p (m+1)):PWp r n (kas_descPart m n p) λz=>Run z r n:=by
 refine PWp.bind ((Hk (n-(m+1)) p (m+1) 0 pa (by omega) (by omega) (by omega) hd ?_).mono λz h=>?_)
 .intro k a b;have:k=m:=by omega
  subst this;rfl
 .obtain⟨a,b,c,d,e,g⟩:=h;have sz:=a.size;by_cases hq:z.2.2>0
  .rw[j9 hq];have sm:=OH (r:=r) (p:=z.1) (m:=z.2.1) (q:=z.2.2) (by omega) g e;exact La (a.rev _ _) (by omega) (by omega) λi j x y=>by rw[sm,sm];exact d i j x y
  .rw[ja hq];exact La a (by omega) (by omega) d
def VS(h1:1<=n):PWp r n (kas_count n (List.toArray (List.range n))) λz=>Run z r n:=by
 have pa:PAr n (List.range n).toArray:=.refl _;have sz:=pa.size;refine PWp.bind ((NM pa (n-1) 1 (by omega) (by omega) λi j a b=>?_).mono λm h=>?_)
 .have:i=j:=by omega
  subst this;exact Int.le_refl _
 .obtain⟨a,b,c,d⟩:=h;by_cases e:(m==n)=true
  .rw[j9 e];have:m=n:=by simpa using e
   exact⟨pa,by show 1<=m;omega,by show m<=n;omega,c⟩
  .rw[ja e];have hne:m≠n:=by simpa using e
   have dd:=d (by omega);by_cases h2:m>1
   .rw[j9 h2];refine⟨pa.lt (by omega),pa.lt (by omega),?_⟩;by_cases g:r ((List.range n).toArray.getD 0 0)<r ((List.range n).toArray.getD (m-1) 0)
    .rw[jH g];exact⟨pa,by show 1<=m;omega,by show m<=n;omega,c⟩
    .rw[jO g];dsimp only;rw[ja Bool.false_ne_true];have g':kv r (List.range n).toArray (m-1)<=kv r (List.range n).toArray 0:=by unfold kv;omega
     have eq:∀k,k<m->kv r (List.range n).toArray k=kv r (List.range n).toArray 0:=λk hk=>by
      have x1:=c 0 k (by omega) hk;have x2:=c k (m-1) (by omega) (by omega);omega
     have rv:∀k,kv r (kas_rev (List.range n).toArray 0 m) k=kv r (List.range n).toArray k:=λk=>by
      rw[JB (by omega)];split
      .next z=>rw[eq _ (by omega),eq k z.2]
      .rfl
     refine Hw (pa.rev 0 m) (by omega) λi j x y=>?_;rw[rv,rv];by_cases z:j<m
     .rw[eq i (by omega),eq j z];exact Int.le_refl _
     .have:j=m:=by omega
      subst this;by_cases z2:i=j
      .subst z2;exact Int.le_refl _
      .rw[eq i (by omega)];have:=eq (j-1) (by omega);omega
   .rw[ja h2];have:m=1:=by omega
    subst this;refine Hw pa (by omega) λi j x y=>?_;by_cases z:i=j
    .subst z;exact Int.le_refl _
    .have:i=0:=by omega
     have:j=1:=by omega
     subst i j;have:kv r (List.range n).toArray 1<kv r (List.range n).toArray 0:=dd;omega
theorem IK{k:Nat}(pa:PAr n p)(hk:k<n)(hs:STo r p k):∀(f l q:Nat),l<=q->q<=k->q-l<=f->(∀i,i<l->kv r p i<=kv r p k)->(∀i,q<=i->i<k->kv r p k<kv r p i) ->
 PWp r n (kas_place p k f l q) λm=>m<=k/\(∀i,i<m->kv r p i<=kv r p k)/\∀i,m<=i->i<k->kv r p k<kv r p i
 |0,l,q,a,b,c,d,e=>⟨by omega,d,λi x y=>e i (by omega) y⟩
 |f+1,l,q,a,b,c,d,e=>by
  unfold kas_place;by_cases h:l>=q
  .rw[j9 h];exact⟨by omega,d,λi x y=>e i (by omega) y⟩
  .rw[ja h];refine⟨pa.lt (by omega),pa.lt (by omega),?_⟩;by_cases g:r (p.getD k 0)<r (p.getD ((l+q)/2) 0)
   .rw[jH g];dsimp only;rw[j9 rfl];have g':kv r p k<kv r p ((l+q)/2):=g;refine IK pa hk hs f l ((l+q)/2) (by omega) (by omega) (by omega) d λi x y=>?_;have:=hs ((l+q)/2) i x y;omega
   .rw[jO g];dsimp only;rw[ja Bool.false_ne_true];have g':kv r p ((l+q)/2)<=kv r p k:=by unfold kv;omega
    refine IK pa hk hs f ((l+q)/2+1) q (by omega) (by omega) (by omega) (λi x=>?_) e;have:=hs i ((l+q)/2) (by omega) (by omega);omega
def KR{p:Array Nat}{k d:Nat}(hk:k<p.size)(hd:d<=k)(i:Nat):kv r (bubble p k d) i=if i=k-d then kv r p k else if k-d<i/\i<=k then kv r p (i-1)else kv r p i:=by
 unfold kv;simp only[Array.getD_eq_getD_getElem?];rw[getElem?_bubble hk d hd];split
 .rfl
 .split<;>rfl
theorem Ss:∀(f:Nat) (p:Array Nat) (k:Nat),PAr n p->k+f=n->STo r p k->PWp r n (kas_bin f p k) λz=>PAr n z/\STo r z n
 | 0,p,k,pa,e,hs=>⟨pa,by
  have:k=n:=by omega
  subst this;exact hs⟩
 |f+1,p,k,pa,e,hs=>by
  have sz:=pa.size;refine PWp.bind ((IK pa (by omega) hs k 0 k (by omega) (by omega) (by omega) (λi h=>by omega) (λi a b=>by omega)).mono λm h=>?_);obtain⟨a,b,c⟩:=h;refine Ss f _ (k+1) ((bubble_perm _ _ _).trans pa) (by omega) λi j x y=>?_;rw[KR (by omega) (by omega),KR (by omega) (by omega)];have ek:k-(k-m)=m:=by omega
  rw[ek]
  repeat' split
  .exact Int.le_refl _
  .exact Int.le_of_lt (c _ (by omega) (by omega))
  .omega
  .exact b _ (by omega)
  .exact hs _ _ (by omega) (by omega)
  .omega
  .exact b _ (by omega)
  .exact hs _ _ (by omega) (by omega)
  .exact hs _ _ (by omega) (by omega)
def Wq(h1:1<=n):PWp r n (kas_sort n) λp=>PAr n p/\STo r p n:=by
 refine PWp.bind ((VS h1).mono λz h=>?_);obtain⟨a,b,c,d⟩:=h;by_cases e:z.1<n
 .rw[j9 e];have:max z.1 1=z.1:=by omega
  rw[this];exact Ss _ _ _ a (by omega) d
 .rw[ja e];have:z.1=n:=by omega
  exact⟨a,this ▸ d⟩
end
def PairAt(h:Heap)(v:Value)(p:Int×Int):Prop:=∃(x:Addr) (o:Obj) (t u:Tok) (k:Nat),v=.ref x/\h.get? x=some o/\o.cls=.type "tuple"/\o.data=.seq #[.int p.1 t,.int p.2 u] k
noncomputable def C7(p:Int×Int):Int:=p.1*4000000000+p.2
def pok(p:Int×Int):Prop:=-1000000000<=p.1/\p.1<=1000000000/\-1000000000<=p.2/\p.2<=1000000000
section
variable{E:Value->Shared->Prop}{s:Shared}
def Yx{C:Bool->Shared->Prop}(hx:PairAt s.heap x p)(hy:PairAt s.heap y q)(op:pok p)(oq:pok q)(h:C (decide (C7 p<C7 q)) s):
 wpAny (model prog w) A (keyLt' (tuples' true) x y) C E s:=by
 obtain⟨a,o,t,u,k,rfl,ho,hc,hd⟩:=hx;obtain⟨a2,o2,t2,u2,k2,rfl,ho2,hc2,hd2⟩:=hy;obtain⟨p1,p2⟩:=p;obtain⟨q1,q2⟩:=q;unfold pok at op oq;unfold C7 at h;dsimp only at op oq h;refine kat_lt ho hd ho2 hd2 ?_;refine kat_cons (wpAny_eqBool_int ?_);by_cases e1:p1=q1
 .have b1:(p1==q1)=true:=by simp[e1]
  rw[b1];refine kat_yes (kat_cons (wpAny_eqBool_int ?_));by_cases e2:p2=q2
  .have b2:(p2==q2)=true:=by simp[e2]
   rw[b2];refine kat_yes (kat_nil ?_);have:decide (p1*4000000000+p2<q1*4000000000+q2)=false:=jO (by omega);rw[this]at h;exact h
  .have b2:(p2==q2)=false:=by simp[e2]
   rw[b2];refine kat_no (kat_one _ _ (lt_int ?_));have:decide (p1*4000000000+p2<q1*4000000000+q2)=decide (p2<q2):=decide_eq_decide.mpr (by omega);rw[this]at h;exact h
 .have b1:(p1==q1)=false:=by simp[e1]
  rw[b1];refine kat_no (oneLt_int ?_);have:decide (p1*4000000000+p2<q1*4000000000+q2)=decide (p1<q1):=decide_eq_decide.mpr (by omega);rw[this]at h;exact h
theorem Np:∀{vs:List Value} {ps:List (Int×Int)},vs.length=ps.length->(∀(i:Nat) (v:Value) (p:Int×Int),vs[i]?=some v->ps[i]?=some p->PairAt h v p)->∃fs,KatTups h vs fs/\fs.length=vs.length/\∀f∈fs,∃i t,f=.int i t
 |[],[],_,_=>⟨[],.nil,rfl,λ_ z=>by cases z⟩
 |v::vs,p::ps,hl,hp=>by
  obtain⟨fs,a,b,c⟩:=Np (vs:=vs) (ps:=ps) (by simpa using hl) λi v q e1 e2=>hp (i+1) v q (by simpa using e1) (by simpa using e2);obtain⟨x,o,t,u,k,rfl,ho,hc,hd⟩:=hp 0 v p rfl rfl;exact⟨.int p.1 t::fs,.cons ho hc hd rfl a,by simp[b],λf hf=>by
   rcases mem_cons.mp hf with rfl|hf
   .exact⟨_,_,rfl⟩
   .exact c f hf⟩
def EF(vs:List Value)(ps:List (Int×Int))(out:List Value):Prop:=∃zs:List (Value×(Int×Int)),zs.Perm (vs.zip ps)/\(zs.map λz=>C7 z.2).Pairwise (·<=·)/\out=zs.map (·.1)
def Qh{vs:List Value}{ps:List (Int×Int)}(hl:vs.length=ps.length)(pa:PAr vs.length p)(hs:STo (λi=>C7 (ps.getD i (0,0))) p vs.length):EF vs ps (p.toList.map λi=>vs.getD i Value.none):=by
 have sz:=pa.size;refine⟨p.toList.map λi=>(vs.getD i Value.none,ps.getD i (0,0)),?_,?_,by rw[jx];rfl⟩
 .have e:vs.zip ps=(List.range vs.length).map λi=>(vs.getD i Value.none,ps.getD i (0,0)):=by
   refine List.ext_getElem? λi=>?_;by_cases hi:i<vs.length
   .have hi2:i<ps.length:=by omega
    rw[(List.getElem?_zip_eq_some (z:=(vs[i],ps[i]))).mpr ⟨by simp[hi],by simp[hi2]⟩];simp[hi,hi2]
   .rw[List.getElem?_eq_none (by simp;omega),List.getElem?_eq_none (by simp;omega)]
  rw[e];have:=Array.perm_iff_toList_perm.mp pa;simpa using this.map _
 .rw[jx,List.pairwise_iff_getElem];intro i j hi hj hij;simp only[ji,Array.length_toList]at hi hj;have:=hs i j (by omega) (by omega);unfold kv at this;simpa [Array.getD,hi,hj]using this
def P3{vs:List Value}{ps:List (Int×Int)}{n:Nat}{P:PySem.Fin->Shared->Prop}(ho:s.heap.get? a=some (seqObj "list" vs.toArray n))(hl:vs.length=ps.length)(h64:vs.length<64)(hok:∀p∈ps,pok p)
 (hp:∀(i:Nat) (v:Value) (p:Int×Int),vs[i]?=some v->ps[i]?=some p->PairAt (s.heap.update a (Obj.mapSeq λ_=>#[])) v p)
 (h:∀out:List Value,EF vs ps out->P (.done (.ret .none)) { s with heap:=sortedHeap s.heap a vs out.toArray }):
 wpAny (model prog w) A (Builtin.«list.sort» ⟨[.ref a],[]⟩) P E s:=by
 have ha:=Heap.lt_size ho;have line:vs.length<=sizeLine:=by rw[jF];omega
 obtain⟨e1,ho1⟩:∃e1,(s.heap.update a (Obj.mapSeq λ_=>#[])).get? a=some (seqObj "list" #[] e1):=⟨_,get?_update_seq ho _⟩
 rw[list_sort_plain];refine j8 (listItems_at ho rfl (j8 (listUpdate_at ho rfl (j8 (seqEpoch_at ho1 rfl (j8 (wpAny_newTuple (j8 (wpAny_newList (jE ?_) (jU _))) line)))) (by rw[jf];exact line) (jU _))));have grow:∀b o,(s.heap.update a (Obj.mapSeq λ_=>#[])).get? b=some o->(((s.heap.update a (Obj.mapSeq λ_=>#[])).push (seqObj "tuple" vs.toArray 0)).push (seqObj "list" #[] 0)).get? b=some o:=λb o e=>Heap.get?_push_of_some _ (Heap.get?_push_of_some _ e);have ho6:=grow _ _ ho1;generalize h6:((s.heap.update a (Obj.mapSeq λ_=>#[])).push (seqObj "tuple" vs.toArray 0)).push (seqObj "list" #[] 0)=hp6 at *;have done:∀out:List Value,EF vs ps out->P (.done (.ret .none)) { s with heap:=hp6.update a (Obj.mapSeq λ_=>out.toArray) }:=λout z=>by
  have:=h out z;unfold sortedHeap at this;rw[h6]at this;exact this
 show wpAny (model prog w) A _ P E { s with heap:=hp6 };dsimp only;have pairs6:∀(i:Nat) (v:Value) (p:Int×Int),vs[i]?=some v->ps[i]?=some p->PairAt hp6 v p:=λi v p x y=>by
  obtain⟨x',o,t,u,k,e,q,c,d⟩:=hp i v p x y;exact⟨x',o,t,u,k,e,grow _ _ q,c,d⟩
 by_cases h2:vs.toArray.size<2
 .rw[j9 h2,j9 h2];refine j8 (jb ?_);rw[StateT.run_pure];refine j8 (jb ?_);dsimp only;have hout:(arrOf (SortSt.mk' general' (vs.toArray.zip vs.toArray) #[] 7 none)).map (·.2)=vs.toArray:=by
   show(vs.toArray.zip vs.toArray).map (·.2)=vs.toArray;apply Array.toList_inj.mp;simp only[Array.toList_map,Array.toList_zip];exact List.map_snd_zip (jc _)
  rw[hout];refine j8 (seqEpoch_at ho6 rfl (j8 (listUpdate_at ho6 rfl ?_ (jU _) (by rw[jf];omega))));simp only[bne_self_eq_false,Bool.false_eq_true,jB];refine jb (done vs ⟨vs.zip ps,.refl _,?_,?_⟩)
  .have hz:(vs.zip ps).length<2:=by simp at h2 ⊢;omega
   cases hh:vs.zip ps with
   |nil=>exact .nil
   |cons z r=>
    cases r with
    |nil=>exact List.pairwise_singleton _ _
    |cons y t=>rw[hh]at hz;exact absurd hz (by simp)
  .rw[List.map_fst_zip (by omega)]
 .rw[ja h2,ja h2];have h2':2<=vs.length:=by simp at h2;omega
  obtain⟨fs,t1,t2,t3⟩:=Np hl pairs6;have tT:∀f∈fs,Looks (model prog w) hp6 (typeOf f) (Value.type "int"):=λf hf=>by
   obtain⟨i,t,rfl⟩:=t3 f hf;exact .of_pure rfl
  refine j8 (kat_kind (s:={ s with heap:=hp6 }) t1 (by omega) tT rfl ?_);have est:SortSt.mk' (tuples' true) (vs.toArray.zip vs.toArray) #[] 7 none=kas_st (tuples' true) (pairsOf vs) (List.toArray (List.range vs.length)):=by
   unfold kas_st;rw[<- pairsOf_size vs,kas_range];rfl
  have ask:(kas_sort vs.length).kasWp (kas_cmp prog w A (tuples' true) (pairsOf vs)) (λp s'=>s'={ s with heap:=hp6 }/\EF vs ps (p.toList.map λi=>vs.getD i Value.none)) { s with heap:=hp6 }:=by
   rw[<- kas_ask_eq];refine PWp.wp (n:=vs.length) (r:=λi=>C7 (ps.getD i (0,0))) (P:=λs'=>s'={ s with heap:=hp6 }) (λi j C s' hi hj e hC=>?_) ((Wq (by omega)).mono λp z s' e=>⟨e,Qh hl z.1 z.2⟩) rfl;subst e;have pi:ps[i]?=some (ps.getD i (0,0)):=by simp[show i<ps.length by omega]
   have pj:ps[j]?=some (ps.getD j (0,0)):=by simp[show j<ps.length by omega]
   have vi:vs[i]?=some (vs.getD i Value.none):=by simp[hi]
   have vj:vs[j]?=some (vs.getD j Value.none):=by simp[hj]
   exact Yx (s:={ s with heap:=hp6 }) (pairs6 i _ _ vi pi) (pairs6 j _ _ vj pj) (hok _ (jt pi)) (hok _ (jt pj)) (hC _ rfl)
  have run:=kas_runs (E:=E) (Q:=λ_ st' s'=>∃p:Array Nat,p.size=vs.length/\arrOf st'=p.map (kas_item (pairsOf vs))/\failedOf st'=none/\s'={ s with heap:=hp6 }/\EF vs ps (p.toList.map λi=>vs.getD i Value.none)) h2' h64 (λp st' s' x1 x2 x3 x4=>⟨p,x1,x2,x3,x4⟩) ask;rw[<- est]at run;refine j8 (jo run ?_ λ_ _ e=>e);rintro⟨⟨⟩,st'⟩ s' ⟨p,hsz,har,hf,rfl,so⟩;dsimp only;have hout:(arrOf st').map (·.2)=(p.toList.map λi=>vs.getD i Value.none).toArray:=by
   rw[har];apply Array.toList_inj.mp;simp only[Array.toList_map,jx];exact List.map_congr_left λi _=>jA Prod.snd (kas_item_eq vs i)
  rw[hout];refine j8 (seqEpoch_at ho6 rfl (j8 (listUpdate_at ho6 rfl ?_ (jU _) (by simp[hsz];omega))));rw[hf];simp only[bne_self_eq_false,Bool.false_eq_true,jB];exact jb (done _ so)
end
def PairAt.keep{h h':Heap}(k:∀b o,h.get? b=some o->h'.get? b=some o)(q:PairAt h v p):PairAt h' v p:=by
 obtain⟨x,o,t,u,n,e,ho,c,d⟩:=q;exact⟨x,o,t,u,n,e,k _ _ ho,c,d⟩
section
variable{E:Value->Shared->Prop}{s:Shared}
def Ln{vs:List Value}{ps:List (Int×Int)}{Q:Value->Shared->Prop}(hl:s.heap.IsList l vs.toArray)(hlen:vs.length=ps.length)(h64:vs.length<64)(hok:∀p∈ps,pok p)
 (hp:∀(i:Nat) (v:Value) (p:Int×Int),vs[i]?=some v->ps[i]?=some p->PairAt s.heap v p)
 (h:∀out:List Value,EF vs ps out->Q (.ref (s.heap.objs.size+1)) { s with heap:=sortedAll s.heap vs out.toArray }):
 wpAny (model prog w) A (call (.builtin "sorted") [.ref l]) Q E s:=by
 have line:vs.length<=sizeLine:=by rw[jF];omega
 refine Calls.call_function_entry kind_sorted plain_sorted entry_sorted (args_sorted1 _) ?_;unfold Builtin.«sorted»;refine j8 (m:=checkCount "sorted" 1 1 _) (jb (j8 (collect_list hl (j8 (wpAny_newList ?_ line)) line)));have sz:((s.heap.push (seqObj "list" #[] 0)).update s.heap.objs.size (Obj.mapSeq (·++vs.toArray))).objs.size=s.heap.objs.size+1:=by rw[Heap.size_update,size_push']
 have at1:(((s.heap.push (seqObj "list" #[] 0)).update s.heap.objs.size (Obj.mapSeq (·++vs.toArray))).push (seqObj "list" vs.toArray 0)).get? (s.heap.objs.size+1)=some (seqObj "list" vs.toArray 0):=by
  have:=Heap.get?_push_size ((s.heap.push (seqObj "list" #[] 0)).update s.heap.objs.size (Obj.mapSeq (·++vs.toArray))) (o:=seqObj "list" vs.toArray 0) rfl
  rwa [sz]at this
 have old:∀b o,s.heap.get? b=some o->((((s.heap.push (seqObj "list" #[] 0)).update s.heap.objs.size (Obj.mapSeq (·++vs.toArray))).push (seqObj "list" vs.toArray 0)).update (s.heap.objs.size+1) (Obj.mapSeq λ_=>#[])).get? b=some o:=λb o e=>by
  have lt:=Heap.lt_size e;rw[Heap.get?_update_ne _ _ _ _ (jg (kf lt)),Heap.get?_push_ne _ _ _ (by rw[sz];exact jg (kf lt)),Heap.get?_update_ne _ _ _ _ (jg lt),Heap.get?_push_ne _ _ _ (jg lt)];exact e
 show wpAny _ _ _ _ _ { s with heap:=((s.heap.push (seqObj "list" #[] 0)).update s.heap.objs.size (Obj.mapSeq (·++vs.toArray))).push (seqObj "list" vs.toArray 0) };rw[sz];refine j8 (jE (ky slot_list_sort ⟨_,at1,rfl⟩ entry_list_sort (P3 at1 hlen h64 hok (λi v p a b=>(hp i v p a b).keep old) λout z=>⟨_,rfl,?_⟩) (args_list_sort _)));exact jb ⟨_,rfl,h out z⟩
end
section
variable(K:Frag){X:Cx}
def II:List V->Hp->VK->Prop:=λxs H Q=>∃(a:Addr) (us:List V) (ps:List (Int×Int)),xs=[.ref a]/\SqL K H a us/\us.length=ps.length/\us.length<64/\(∀q∈ps,pok q)/\
 (∀(i:Nat) (u:V) (q:Int×Int),us[i]?=some u->ps[i]?=some q->∃x,u=.ref x/\SqT K H x [.int q.1,.int q.2])/\
 ∀(p:Addr) (zs:List (V×(Int×Int))),H p=none->zs.Perm (us.zip ps)->(zs.map λz=>C7 z.2).Pairwise (·<=·)->Q (.ref p) (upd H p (.lst (zs.map (·.1))))
noncomputable def Fp:Value->V
 |.ref x=>.ref x
 |_=>.non
theorem LV:∀{us:List V} {its:List Value} {i:Nat} {u:V},Vals us its->us[i]?=some u->∃v,its[i]?=some v/\RelV u v
 |_,_,_,_,.nil,h=>by simp at h
 |_::_,_::_,0,_,.cons r _,h=>by
  simp at h;subst h;exact⟨_,rfl,r⟩
 |_::_,_::_,i+1,_,.cons _ t,h=>LV (i:=i) t (by simpa using h)
def ND(hK:X.K=K:=by rfl):CallR X (.builtin "sorted") (II K):=by
 subst hK;intro O s σ H xs us0 Q I r h;obtain⟨a,us,ps,rfl,hq,hlen,h64,hok,hpr,q⟩:=h;obtain⟨u,rfl,ru⟩:=BK r;cases ru;obtain⟨its,rv,p,hz⟩:=I.list hq;have hl2:us.length=its.length:=rv.length;have point:∀(i:Nat) (v:Value) (q:Int×Int),its[i]?=some v->ps[i]?=some q->(∃x,us[i]?=some (.ref x)/\v=.ref x)/\PairAt s.heap v q:=by
  intro i v q e1 e2;have hi:i<us.length:=by rw[hl2];exact(List.getElem?_eq_some_iff.mp e1).1
  have eu:us[i]?=some us[i]:=by simp[hi]
  obtain⟨x,ex,sq⟩:=hpr i _ q eu e2;obtain⟨v',ev,rel⟩:=LV rv eu;rw[e1]at ev;cases ev;rw[ex]at rel eu;have rel:v=Value.ref x:=rel;subst rel;refine⟨⟨x,eu,rfl⟩,?_⟩;obtain⟨jts,rj,⟨o,ho,hc,n,hd⟩,_⟩:=I.tuple sq;cases rj with
  |cons r1 t1=>
   cases t1 with
   |cons r2 t2=>
    cases t2;obtain⟨t,rfl⟩:=r1;obtain⟨t',rfl⟩:=r2;exact⟨x,o,t,t',n,rfl,ho,hc,hd⟩
 refine Ln (ps:=ps) p.isList (by omega) (by omega) hok (λi v q a b=>(point i v q a b).2) λout z=>?_;obtain⟨zs,pm,pw,rfl⟩:=z;obtain⟨e,he⟩:=sortedAll_at s.heap its (zs.map (·.1)).toArray;have mz:∀z∈zs,∃x,z.1=.ref x:=λz hz=>by
  have:=pm.mem_iff.mp hz;obtain⟨i,hi⟩:=List.mem_iff_getElem?.mp this;obtain⟨e1,e2⟩:=List.getElem?_zip_eq_some.mp hi;obtain⟨⟨x,_,ex⟩,_⟩:=point i _ _ e1 e2;exact⟨x,ex⟩
 have vz:∀{zs:List (Value×(Int×Int))},(∀z∈zs,∃x,z.1=.ref x)->Vals (zs.map λz=>Fp z.1) (zs.map (·.1)):=by
  intro zs
  induction zs with
  |nil=>intro _;exact .nil
  |cons z r ih=>
   intro h;obtain⟨x,ex⟩:=h z jw;refine .cons ?_ (ih λy hy=>h y (jq _ hy));show RelV (Fp z.1) z.1;rw[ex];rfl
 have pm2:(zs.map λz=>(Fp z.1,z.2)).Perm (us.zip ps):=by
  have:=pm.map λz:Value×(Int×Int)=>(Fp z.1,z.2)
  have e:((its.zip ps).map λz:Value×(Int×Int)=>(Fp z.1,z.2))=us.zip ps:=by
   refine List.ext_getElem? λi=>?_;by_cases hi:i<us.length
   .have h1:i<its.length:=by omega
    have h2:i<ps.length:=by omega
    have e1:its[i]?=some its[i]:=by simp[h1]
    have e2:ps[i]?=some ps[i]:=by simp[h2]
    obtain⟨⟨x,ex,ev⟩,_⟩:=point i _ _ e1 e2;rw[List.getElem?_map,(List.getElem?_zip_eq_some (z:=(its[i],ps[i]))).mpr ⟨e1,e2⟩,(List.getElem?_zip_eq_some (z:=(V.ref x,ps[i]))).mpr ⟨ex,e2⟩,jr,ev];rfl
   .rw[List.getElem?_eq_none (by simp;omega),List.getElem?_eq_none (by simp;omega)]
  rwa [e]at this
 have pw2:((zs.map λz=>(Fp z.1,z.2)).map λz:V×(Int×Int)=>C7 z.2).Pairwise (·<=·):=by rw[jx];exact pw
 have fin:=q (s.heap.objs.size+1) _ (I.hok.fresh (le_succ _)) pm2 pw2;have em:(zs.map λz=>(Fp z.1,z.2)).map (·.1)=zs.map λz=>Fp z.1:=by rw[jx];rfl
 rw[em]at fin;have zl:zs.length<64:=by rw[pm.length_eq];simp;omega
 refine⟨.ref (s.heap.objs.size+1),_,I.laid (a:=s.heap.objs.size+1) (o:=.lst (zs.map λz=>Fp z.1)) (t':=s.toks) (λb o hb=>sortedAll_old hb) (le_succ _) ⟨?_,_,e,vz mz,he⟩,rfl,fin⟩;rw[ji];exact le_of_lt (KF (by omega))
end
noncomputable def Ac(p:Int×Int):D:=.im (.tup [.int p.1,.int p.2])
noncomputable def DJ:List D->Option (List (Int×Int))
 |[]=>some []
 |.im (.tup [.int a,.int b])::r=>(DJ r).map ((a,b)::·)
 |_=>none
def Rn:∀{ds:List D} {ps:List (Int×Int)},DJ ds=some ps->ds=ps.map Ac:=by
 intro ds
 induction ds with
 |nil=>intro ps h;simp[DJ]at h;subst h;rfl
 |cons d r ih=>
  intro ps h;unfold DJ at h;split at h
  .next e=>cases e
  .next a b r' e=>
   cases e;obtain⟨qs,e1,rfl⟩:=j7 h;rw[ih e1];rfl
  .cases h
@[simp] theorem fE(ps:List (Int×Int)):DJ (ps.map Ac)=some ps:=by
 induction ps with
 |nil=>rfl
 |cons p r ih=>simp[DJ,Ac]at ih ⊢;exact ih
noncomputable def Bl(ps:List (Int×Int)):List (Int×Int):=ps.mergeSort λa b=>decide (C7 a<=C7 b)
def Fi(ps:List (Int×Int)):(Bl ps).Perm ps:=List.mergeSort_perm ..
def Lo(ps:List (Int×Int)):(Bl ps).Pairwise λa b=>C7 a<=C7 b:=by
 have:=List.pairwise_mergeSort (le:=λa b:Int×Int=>decide (C7 a<=C7 b)) (by intro a b c h1 h2;simp at *;omega) (by intro a b;simp;omega) ps;exact this.imp (by simp)
def Ua(a:pok p)(b:pok q)(h:C7 p=C7 q):p=q:=by
 unfold pok at a b;unfold C7 at h;exact Prod.ext (by omega) (by omega)
open Classical in
noncomputable def EU(m:MI):MA:=λls hd=>(m ls hd).bind λp=>(DJ p.1.1).bind λps=>if ps.length<64/\∀q∈ps,pok q then some ((Bl ps).map Ac,p.2)else none
section
variable{K:Frag}
def Xc(h:RD K ρ H (Ac p) v):∃x,v=.ref x/\SqT K H x [.int p.1,.int p.2]:=by
 simp only[Ac,RD,RI,RIs]at h;obtain⟨a,xs,rfl,q,x,r,rfl,rfl,y,r2,rfl,rfl,rfl⟩:=h;exact⟨a,rfl,q⟩
def P7(h:RRw K false t m):RN K (tCB (II K) (AZ t Aq)) (EU m):=by
 and_intros;obtain⟨⟨⟨d1,g1⟩,h1⟩,e1,hm⟩:=j6 hm;obtain⟨ps,e2,hm⟩:=j6 hm;split at hm
 .next c=>
  cases hm;refine h ρ σ H hd ls _ d1 g1 _ hR hL e1 λρ1 H1 a x1 R1 G1 S1=>?_;obtain⟨xs,q,r⟩:=S1 ρ1 H1 _ .refl R1 G1;have e2:DJ d1=some ps:=e2;rw[Rn e2]at r;have hl:xs.length=ps.length:=by simpa using r.len
  have each:∀(i:Nat) (u:V) (q:Int×Int),xs[i]?=some u->ps[i]?=some q->RD K ρ1 H1 (Ac q) u:=λi u q a b=>by
   obtain⟨x,e,z⟩:=r.get (i:=i) (d:=Ac q) (by simp[b]);rw[a]at e;cases e;exact z
  refine⟨a,xs,ps,rfl,q,hl,by rw[hl];exact c.1,c.2,λi u q a b=>Xc (each i u q a b),λp zs hp pm pw=>?_⟩;have es:zs.map (·.2)=Bl ps:=by
   have pp:(zs.map (·.2)).Perm ps:=by
    have:=pm.map (λz:V×(Int×Int)=>z.2)
    rwa [List.map_snd_zip (by omega)]at this
   refine(pp.trans (Fi ps).symm).eq_of_pairwise (le:=λa b=>C7 a<=C7 b) (λx y hx hy l1 l2=>Ua (c.2 _ (pp.mem_iff.mp hx)) (c.2 _ ((Fi ps).mem_iff.mp hy)) (Int.le_antisymm l1 l2)) ?_ (Lo ps);rw[List.pairwise_map]at pw ⊢;exact pw
  obtain⟨R2,x2⟩:=R1.hid (ho:=.lst (zs.map (·.1))) hp;have all:∀z∈zs,RD K ρ1 H1 (Ac z.2) z.1:=λz hz=>by
   obtain⟨i,hi⟩:=List.mem_iff_getElem?.mp (pm.mem_iff.mp hz);obtain⟨a1,a2⟩:=List.getElem?_zip_eq_some.mp hi;exact each i _ _ a1 a2
  have rd:∀{zs:List (V×(Int×Int))},(∀z∈zs,RD K ρ1 H1 (Ac z.2) z.1)->RDs K ρ1 H1 ((zs.map (·.2)).map Ac) (zs.map (·.1)):=by
   intro zs
   induction zs with
   |nil=>intro _;exact .nil
   |cons z r ih=>intro h;exact .cons (h z jw) (ih λy hy=>h y (jq _ hy))
  have rz:=rd all;rw[es]at rz;exact hQ ρ1 _ p _ (x1.trans R1 x2) R2 (x1.none hR hp R1) (R1.out hp) AE (rz.ext R1 x2)
 .cases hm
open Classical in
noncomputable def FT:D->List D->Hd->Option (D×Hd)
 |.mu n,[.im (.int i)],hd=>match hd[n]? with
  |some (.lst ds)=>if Fo i then(ixN ds.length i).bind λk=>(ds[k]?).map λy=>(y,hd.set n (.lst (ds.eraseIdx k)))else none
  |_=>none
 |_,_,_=>none
theorem RDs.erase:∀{ds:List D} {xs:List V} (k:Nat),RDs K ρ H ds xs->RDs K ρ H (ds.eraseIdx k) (xs.eraseIdx k)
 |[],_,_,h=>by simp only[RDs]at h;subst h;simp[RDs]
 |d::ds,_,0,h=>by simp only[RDs]at h;obtain⟨x,r,rfl,_,t⟩:=h;simpa using t
 |d::ds,_,k+1,h=>by
  simp only[RDs]at h;obtain⟨x,r,rfl,a,t⟩:=h;simpa using RDs.cons a (RDs.erase k t)
end
def Tz{K:Frag}:RM K RZ FT:=by
 intro ρ H hd d v ds vs Q z hd' hR h1 h2 hf hQ;unfold FT at hf;split at hf
 .split at hf
  .next q=>
   split at hf
   .next c=>
    obtain⟨k,e0,hf⟩:=j6 hf;obtain⟨y,e1,e3⟩:=j7 hf;cases e3;simp only[RD]at h1;obtain⟨a,hn,rfl⟩:=h1;simp only[RDs,RD,RI]at h2;obtain⟨x,r,rfl,rfl,rfl⟩:=h2;obtain⟨xs,f1,f2⟩:=hR.lst hn q;obtain⟨x,x1,x3⟩:=f2.get e1;obtain⟨R2,x2⟩:=hR.put hn (o:=.lst _) (ho:=.lst (xs.eraseIdx k)) ⟨_,rfl,f2.erase k⟩;obtain⟨s1,s2,s3,s4⟩:=Jv e0;have sz:=f2.len;unfold Fo at c;exact⟨a,xs,_,k,x,rfl,rfl,f1,by omega,by omega,by rw[sz];exact s1,x1,hQ ρ _ _ x2 R2 (x3.ext hR x2)⟩
   .cases hf
  .cases hf
 .cases hf
section
variable(K:Frag){X:Cx}
def PP(hm:X.mg "sorted"=none)(ha:QR K false X e te mi)(hg:Gl X "sorted":=by rfl)(he:starEach [e] X.env=[(false,eval e X.env)]:=by rfl)(hK:X.K=K:=by rfl):QN K X (.Call (.Name "sorted" p) [e] [] pos) (tCB (II K) (AZ te Aq)) (EU mi):=
 ⟨D3 (ND K hK) hg hm Ki (B3 ha.p Bn he) (by decide) (by decide) he rfl,P7 ha.r⟩
end
section
open Classical in
@[simp] theorem VN(k:Nat)(i:Int):FT (.mu k) [.im (.int i)] hd=match hd[k]? with
 |some (.lst ds)=>if Fo i then(ixN ds.length i).bind λj=>(ds[j]?).map λy=>(y,hd.set k (.lst (ds.eraseIdx j)))else none
 |_=>none:=rfl
open Classical in
@[simp] theorem fV(mi:MI):EU mi ls hd=(mi ls hd).bind λp=>(DJ p.1.1).bind λps=>if ps.length<64/\∀q∈ps,pok q then some ((Bl ps).map Ac,p.2)else none:=rfl
end
noncomputable def DV(m:ME):MI:=λls hd=>match BE m ls hd with
 |some z=>some z
 |none=>C9 m ls hd
noncomputable def OM(K:Frag)(t:TE):TI:=λσ H R=>Mn K t σ H R∨G8 K t σ H R
def aE{K:Frag}(h:RE K t m):RIt K (OM K t) (DV m):=by
 intro ρ σ H hd ls Q d g hd' hR hL hm hQ;unfold DV at hm;split at hm
 .next z e=>
  cases hm;exact .inl (R8 h ρ σ H hd ls Q d g hd' hR hL e hQ)
 .exact .inr (O2 h ρ σ H hd ls Q d g hd' hR hL hm hQ)
def bB(K:Frag)(h:QE K X e t m)(hK:X.K=K:=by rfl):QI K X tg e (OM K t) (DV m):=
 ⟨λO s σ H R I q=>q.elim (λq=>(OC K h.p hK) O s σ H R I q) λq=>(IL K h.p hK) O s σ H R I q,aE h.r⟩
section
def OJ(e:m ls hd=some (.im (.tup is),hd')):DV m ls hd=some ((is.map .im,[]),hd'):=by unfold DV;simp[e]
end
noncomputable def Gh(p:Int×Int):I:=.tup [.int p.1,.int p.2]
end L2
namespace L2
open PySem PySem.Spec PyProof.Rows
section
variable{A:Around}{R:Result->Shared->Prop}
def Kq(k v target iter:Expr)(ifs:List Expr)(scope:Scope)(pos:Pos)(it acc:Value)(env:Env):
 compTurn (.DictComp k v [⟨target,iter,ifs,0⟩] scope pos) 0 it acc env=(do
  standAt iter.pos
  match <- pyNext it with
  |none=>pure (.done .next)
  |some x=>
   letOwnedTupleGo target it x
   assign target env x
   let mut ok:=true
   for c in ifs do
    if ok then ok <- isTrue c env (eval c env)
   if ok then
    (do
     let kv <- eval k env
     let vv <- holding [kv] (eval v env)
     match acc with
     |.ref d=>do
      standAt { k.pos with endLine:=v.pos.endLine,endCol:=v.pos.endCol }
      holding [kv,vv] (dictSet d kv vv)
     | _=>unsupported "internal:dictcomp")
   again (.compLoop (.DictComp k v [⟨target,iter,ifs,0⟩] scope pos) 0 it acc env)):=by rfl
def Sc{iter:Expr}{ifs:List Expr}{emit:Sem Unit}(I:Nat->Shared->Prop)
 (hden:(model prog w).den (.compLoop e 0 it acc env)=(compTurn e 0 it acc env).onRaise (λx=>do noteFrame x env;theTreesLotGoes x))
 (hund:A.under (.compLoop e 0 it acc env)=A)
 (hturn:compTurn e 0 it acc env=(do
  standAt iter.pos
  match <- pyNext it with
  |none=>pure (.done .next)
  |some x=>
   letOwnedTupleGo target it x
   assign target env x
   let mut ok:=true
   for c in ifs do
    if ok then ok <- isTrue c env (eval c env)
   if ok then emit
   again (.compLoop e 0 it acc env)))
 (turn:∀n s,I n s->wpAny (model prog w) A (pyNext it) (λr s₁=>match r with
  |none=>R (.ok .next) s₁
  | some v=>wpAny (model prog w) A (letOwnedTupleGo target it v) (λ_ s₁=>wpAny (model prog w) A (assign target env v) (λ_ s₂=>
   wpAny (model prog w) A (forIn ifs true λc r=>if r=true then do let ok <- isTrue c env (eval c env);pure (ForInStep.yield ok)else pure (ForInStep.yield r)) (λok s₃=>
    if ok=true then wpAny (model prog w) A emit (λ_ s₅=>∃m,m<n/\I m s₅) (λ_ _=>False) s₃
    else ∃m,m<n/\I m s₃) (λ_ _=>False) s₂) (λ_ _=>False) s₁) (λ_ _=>False) s₁) (λ_ _=>False) s)
 (n:Nat) (h:I n s):
 codeAny (model prog w) A (.compLoop e 0 it acc env) R s:=by
 refine codeAny_loop rfl I (λn s hI=>?_) n h;rw[hden,hund];refine wpAny_noted ?_;rw[hturn];refine j8 (k8 (j8 (jo (turn n s hI) (λr s₁ h₁=>?_) λ_ _ h'=>h'.elim)));cases r with
 |none=>exact jb h₁
 |some v=>
  refine j8 (jo h₁ (λ_ s₁ h₁=>?_) λ_ _ h'=>h'.elim);refine j8 (jo h₁ (λ_ s₂ h₂=>j8 (jo h₂ (λok s₃ h₃=>?_) λ_ _ h'=>h'.elim)) λ_ _ h'=>h'.elim);cases ok with
  |false=>exact jb ⟨rfl,h₃⟩
  |true=>
   exact j8 (jo h₃ (λx s₄ h₄=>jb ⟨rfl,h₄⟩) λ_ _ h'=>h'.elim)
def Pv(hcl:clausesOf e=g::gs)(hasy:g.is_async=0)
 (hden:(model prog w).den (.compStart e 0 it acc env)=(compStart e 0 it acc env).onRaise (λx=>do noteFrame x env;standAt theWindowsPlace))
 (hund:A.under (.compStart e 0 it acc env)=A)
 (h0:codeAny (model prog w) A (.compLoop e 0 it acc env) R s)
 (h:wpAny (model prog w) A (pyIter it) (λit' s'=>codeAny (model prog w) A (.compLoop e 0 it' acc env) R s')
  (notedBy (model prog w) A env λx s'=>R (.error x) s') s):
 codeAny (model prog w) A (.compStart e 0 it acc env) R s:=by
 refine codeAny_of_tree ?_;rw[hden,hund];refine wpAny_notedAt ?_;have e1:((clausesOf e)[0]?).elim false (·.is_async != 0)=false:=by rw[hcl];simp[hasy]
 have e2:(clausesOf e)[0]?=some g:=by rw[hcl];rfl
 unfold compStart;rw[e1,e2];show wpAny _ _ (ask >>= _) _ _ s;refine j8 (wpAny_askSetting (wpAny_ite ?_));split
 .first
   |exact j8 (jb (jb (And.intro rfl h0)))
   |exact jb (And.intro rfl h0)
 .first
   |exact j8 (wpAny_rule (j8 (k8 (j8 (jo h (λit' s' h'=>jb (And.intro rfl h')) λ_ _ x=>x)))))
   |(refine j8 (wpAny_rule ?_);show wpAny _ _ (standAt g.iter.pos >>= _) _ _ s;exact j8 (k8 (j8 (jo h (λit' s' h'=>jb (And.intro rfl h')) λ_ _ x=>x))))
end
noncomputable abbrev TM:=Addr->St->Hp->(Hp->Prop)->Prop
def PM(X:Cx)(emit:Value->Env->Sem Unit)(t:TM):Prop:=
 ∀(D:Addr) (O:List (Addr×Obj)) (s:Shared) (σ:St) (H:Hp) (Q:Hp->Prop),Inv X O σ H s->t D σ H Q->wpAny (model X.prog X.w) X.A (emit (.ref D) X.env) (λ_ s'=>∃H',Inv X O σ H' s'/\Q H') X.xe s
def eA(J:It)(D:Addr)(o:HO)(σ0:St)(H0:Hp)(g:TG)(tf:TT)(tm:TM)(Q:VK):Prop:=∃W:Nat->Nat->St->Hp->Prop,
 (∃m,W 0 m σ0 (upd H0 D o))/\∀i m σ H,W i m σ H ->
  ((J.stop i H/\Q (.ref D) H)∨(J.go i H/\∃N:St->Hp->Prop,(∀σ' H',N σ' H'->∃m',m'<m/\W (i+1) m' σ' H')/\
    ∀x H',J.yld i H x H'->g x σ H' λσ2 H2=>tf σ2 H2 λb H3=>
     if b=true then tm D σ2 H3 λH4=>N σ2 H4 else N σ2 H3))
noncomputable def GY(o:HO)(n:Nat)(ix:List Nat)(wi:TI)(g:TG)(tf:TT)(tm:TM):TE:=λσ H Q=>wi σ H λJ H1=>∀D,H1 D=none->eA J D o (GM n ix σ) H1 g tf tm Q
section
variable{X:Cx}
def Uh{iter:Expr}{emit:Value->Env->Sem Unit}{ho:HO}
 (hc:X.calm=true) (S:CSc X scope fr ix) (hi:PI X tg iter wi)
 (hg:∀s H ex,PG (cCx X (loc++fr) scope s H ex) tg g) (hf:∀s H ex,PF (cCx X (loc++fr) scope s H ex) ifs tf) (he:∀s H ex,PM (cCx X (loc++fr) scope s H ex) emit tm)
 (hev:eval e X.env=comprehension e scope X.env pos newAcc false (eval iter X.env))
 (hcl:clausesOf e=[⟨tg,iter,ifs,0⟩])
 (hturn:∀it acc env,compTurn e 0 it acc env=(do
  standAt iter.pos
  match <- pyNext it with
  |none=>pure (.done .next)
  |some x=>
   letOwnedTupleGo tg it x
   assign tg env x
   let mut ok:=true
   for c in ifs do
    if ok then ok <- isTrue c env (eval c env)
   if ok then emit acc env
   again (.compLoop e 0 it acc env)))
 (hd1:∀it acc env,(model X.prog X.w).den (.compLoop e 0 it acc env)=(compTurn e 0 it acc env).onRaise (λx=>do noteFrame x env;theTreesLotGoes x))
 (hd2:∀it acc env,(model X.prog X.w).den (.compStart e 0 it acc env)=(compStart e 0 it acc env).onRaise (λx=>do noteFrame x env;standAt theWindowsPlace))
 (hu1:∀it acc env,X.A.under (.compLoop e 0 it acc env)=X.A) (hu2:∀it acc env,X.A.under (.compStart e 0 it acc env)=X.A)
 (hnew:∀(O:List (Addr×Obj)) (s:Shared) (σ:St) (H:Hp) (Q:Value->Shared->Prop),Inv X O σ H s->(∀ob,Inv X O σ (upd H s.heap.objs.size ho) { s with heap:=s.heap.push ob }->Q (.ref s.heap.objs.size) { s with heap:=s.heap.push ob })->wpAny (model X.prog X.w) X.A newAcc Q X.xe s)
 (hs:∀x,foldedSetIterable iter X.env x=pure x:=by intro _;rfl):PE X e (GY ho loc.length ix wi g tf tm):=by
 intro O s σ H Q I h;rw[hev];have hnames:∀y∈scope.names,y.2=.local->scope.names.lookup y.1=some .local:=λy hy e=>by
  have:=all_eq_true.mp S.loc y hy;rw[e]at this;simpa using this
 refine kH (use:=none) hcl hs (E4 (S.clos I.ok)) S.kind hnames (thn (hi O s σ H _ I h) λv s1 h1=>thn h1 λitv s2 h2=>?_);obtain⟨it,fp,tn,J,H2,rfl,I2,T,st2,f2,hW⟩:=h2;refine hnew O s2 σ H2 _ I2 λob I3=>?_;have fresh2:H2 s2.heap.objs.size=none:=I2.hok.fresh (jc _);obtain⟨W,⟨m0,w0⟩,turn⟩:=hW s2.heap.objs.size fresh2;have lt2:∀b∈fp,b<s2.heap.objs.size:=λb hb=>let ⟨o,e,_⟩:=T.obj 0 _ st2 b hb;Heap.lt_size e
 have f3:∀b∈fp,CD X O (upd H2 s2.heap.objs.size ho) b:=λb hb=>⟨by rw[AD (jg (lt2 b hb))];exact(f2 b hb).1,(f2 b hb).2⟩
 have lt3:∀b∈fp,b<(s2.heap.push ob).objs.size:=λb hb=>by rw[Heap.size_push];exact kf (lt2 b hb)
 generalize hs3:({ s2 with heap:=s2.heap.push ob }:Shared)=s3 at *;have lt3:∀b∈fp,b<s3.heap.objs.size:=by rw[<- hs3];exact lt3
 have st3:tn 0 s3.heap:=T.keep _ _ _ st2 λb hb o e=>by rw[<- hs3];exact Heap.get?_push_of_some _ e
 refine Jq λh' hk hn ho' ha=>?_;have I4:=IR (loc:=loc) S I3 f3 hk hn ho' ha lt3;have fpX:∀{H':Hp},(∀b∈fp,H' b=none)->∀b∈fp,CD (cCx X (loc++fr) scope s3 (upd H2 s2.heap.objs.size ho) fp) [] H' b:=λhn b hb=>
  ⟨hn b hb,(I4.ok.exf b hb).1,I4.ok.exfs b hb,.inl hb,(I4.ok.exf b hb).2,λp hp=>by cases hp⟩
 have loop:codeAny (model X.prog X.w) X.A (.compLoop e 0 (.ref it) (.ref s2.heap.objs.size) (Q3 scope s3.heap.objs.size X.env))
  (compPost (model X.prog X.w) X.A X.xe none (EP X O σ Q) (.ref s2.heap.objs.size) s3.heap.objs.size) { s3 with heap:=h' }:=by
  refine Sc (λn s'=>∃i σ' H',Inv (cCx X (loc++fr) scope s3 (upd H2 s2.heap.objs.size ho) fp) [] σ' H' s'/\tn i s'.heap/\(∀b∈fp,H' b=none)/\W i n σ' H') (hd1 _ _ _) (hu1 _ _ _) (hturn _ _ _) ?_ m0
   ⟨0,_,_,I4,T.keep _ _ _ st3 λb hb o e=>hk b o e,λb hb=>(f3 b hb).1,w0⟩
  rintro n s5 ⟨i,σ5,H5,I5,st5,fr5,w5⟩;have w5:=turn i n σ5 H5 w5;rcases w5 with⟨stop,qn⟩|⟨go,N,hN,step⟩
  .refine thn (T.done (cCx X (loc++fr) scope s3 (upd H2 s2.heap.objs.size ho) fp) rfl rfl rfl hc i [] s5 σ5 H5 _ I5 (fpX fr5) st5 stop) λr s6 ⟨hr,I6⟩=>?_;subst hr;obtain⟨m,hm,_⟩:=I6.loc;refine⟨m,hm,λh'' hs=>?_⟩;have neC:∀b o,s3.heap.get? b=some o->b≠s3.heap.objs.size:=λb o e=>jg (Heap.lt_size e);have un:=I6.base;refine⟨.ref s2.heap.objs.size,H5,I3.call' (s':={ s6 with heap:=h'' }) (ch:=fp) I6.os ⟨λb o e n hb hx=>?_,λb o e n hb hx=>?_,un.free,λb o e hx=>?_,un.tups,un.frzs,un.tbls⟩ ?_ I6.bare ?_,rfl,qn⟩
   .exact(hs.2 b (neC b o e)).trans (un.keep b o e n hb hx)
   .obtain⟨sl,q⟩:=un.slot b o e n hb hx;exact⟨sl,(hs.2 b (neC b o e)).trans q⟩
   .obtain⟨o',q⟩:=un.there b o e hx;exact⟨o',(hs.2 b (neC b o e)).trans q⟩
   .intro b ob e;have hfree:H5 s3.heap.objs.size=none:=I6.free;refine(I6.hok b ob e).stay (λc w' hc q=>(hs.2 c ?_).trans q) (λ_ q=>q) λ_ _ q=>q;intro z;rcases hc with hc|hc
    .rw[<- hc,z,hfree]at e;cases e
    .rw[z,hfree]at hc;cases hc
   .intro b hb;obtain⟨_,a2,_,a4,a5,a6⟩:=f3 b hb;exact⟨a4,a2,a5,a6⟩
  .refine thn (T.item (cCx X (loc++fr) scope s3 (upd H2 s2.heap.objs.size ho) fp) rfl rfl rfl hc i [] s5 σ5 H5 _ I5 (fpX fr5) st5 go) λr s6 ⟨u,hr,h6⟩=>?_;subst hr;refine thn h6 λ_ s7 ⟨x,H7,I7,r7,y7,st7,fr7⟩=>?_;have I7':=I7.pinned (fpX fr7) (T.obj _ _ st7);have keepI:∀{σ8:St} {H8:Hp} {s8:Shared},Inv (cCx X (loc++fr) scope s3 (upd H2 s2.heap.objs.size ho) fp) ([]++Du fp s7.heap) σ8 H8 s8->tn (i+1) s8.heap/\∀b∈fp,H8 b=none:=λ{σ8 H8 s8} I8=>by
    refine⟨T.keep _ _ _ st7 λb hb o e=>(I8.pin (b,o) (jl _ (jl _ (BN hb e)))).1,λb hb=>?_⟩;obtain⟨o,e,d⟩:=T.obj _ _ st7 b hb;exact(I8.pin (b,o) (jl _ (jl _ (BN hb e)))).2.1
   refine thn (hg s3 (upd H2 s2.heap.objs.size ho) fp _ s7 σ5 H7 x u _ I7' r7 (step x H7 y7)) λ_ s8 ⟨σ8,H8,I8,q8⟩=>?_;refine thn (hf s3 (upd H2 s2.heap.objs.size ho) fp _ s8 σ8 H8 _ I8 q8) λb s9 ⟨H9,I9,q9⟩=>?_;cases b with
   |false=>
    rw[ja Bool.false_ne_true]at q9 ⊢;obtain⟨m',hm,w9⟩:=hN _ _ q9;exact⟨m',hm,i+1,σ8,H9,I9.unpinned,(keepI I9).1,(keepI I9).2,w9⟩
   |true=>
    rw[j9 rfl]at q9 ⊢;refine thn (he s3 (upd H2 s2.heap.objs.size ho) fp _ _ s9 σ8 H9 _ I9 q9) λe10 s10 ⟨H10,I10,n10⟩=>?_;obtain⟨m',hm,w10⟩:=hN _ _ n10;exact⟨m',hm,i+1,σ8,_,I10.unpinned,(keepI I10).1,(keepI I10).2,w10⟩
 exact Pv hcl rfl (hd2 _ _ _) (hu2 _ _ _) loop (T.self X.A 0 _ _ _ (T.keep _ _ _ st3 λb hb o e=>hk b o e) loop)
noncomputable def J9(tk tv:TE):TM:=λD σ H Q=>tk σ H λy H1=>tv σ H1 λv H2=>∃kvs k,H2 D=some (.dK kvs)/\y=kV k/\kvs.length<sizeLine/\Q (upd H2 D (.dK (CV kvs k v)))
def Sa{E:Value->Shared->Prop}{Q:Unit->Shared->Prop}(I:Inv X O σ H s)(e:H a=some (.dK kvs))(l:kvs.length<sizeLine)(ry:RelV (kV k) u)(rv:RelV v r)(h:∀s',Inv X O σ (upd H a (.dK (CV kvs k v))) s'->Q () s'):
 wpAny (model X.prog X.w) A (dictSet a u r) Q E s:=by
 obtain⟨z,hd,vs,rel,dd⟩:=WH I.hok e;have hz:vs.length<=sizeLine:=by rw[<- rel.length];exact z
 have hl:(CV kvs k v).length<=sizeLine:=by have:=Ey kvs k v;omega
 refine wpAny_dictSet_pairs (hsz:=hz) (HZ ry) dd λh' dd' hs=>h _ ?_;have he:∃q,h'.get? a=some q:=let ⟨q,_,_,hq,_⟩:=dd';⟨q,hq⟩
 exact K4 I (by rw[e];exact True.intro) hs he (SV hl hd (rel.put k rv) dd')
noncomputable def Pr(k v:Expr):Value->Env->Sem Unit:=λacc env=>do
 let kv <- eval k env
 let vv <- holding [kv] (eval v env)
 match acc with
 |.ref d=>do
  standAt { k.pos with endLine:=v.pos.endLine,endCol:=v.pos.endCol }
  holding [kv,vv] (dictSet d kv vv)
 |_=>unsupported "internal:dictcomp"
def YN(hk:PE X k tk)(hv:PE X v tv):PM X (Pr k v) (J9 tk tv):=by
 intro D O s σ H Q I h;unfold Pr;refine j8 (thn (hk O s σ H _ I h) λu s1 ⟨y,H1,I1,r1,q1⟩=>?_);refine j8 (jE (thn (hv O s1 σ H1 _ I1 q1) λr s2 ⟨v,H2,I2,r2,kvs,k,e,ey,l,q2⟩=>?_));refine j8 (k8 (jE ?_));subst ey;exact Sa I2 e l r1 r2 λs' I'=>⟨_,I',q2⟩
def Ug{iter:Expr}
 (hc:X.calm=true) (S:CSc X scope fr ix) (hi:PI X tg iter wi)
 (hg:∀s H ex,PG (cCx X (loc++fr) scope s H ex) tg g) (hf:∀s H ex,PF (cCx X (loc++fr) scope s H ex) ifs tf) (hk:∀s H ex,PE (cCx X (loc++fr) scope s H ex) k tk) (hv:∀s H ex,PE (cCx X (loc++fr) scope s H ex) v tv)
 (hs:∀x,foldedSetIterable iter X.env x=pure x:=by intro _;rfl):PE X (.DictComp k v [⟨tg,iter,ifs,0⟩] scope pos) (GY (.dK []) loc.length ix wi g tf (J9 tk tv)):=by
 refine Uh (emit:=Pr k v) (newAcc:=newDict) (pos:=firstIterPos [⟨tg,iter,ifs,0⟩] pos) hc S hi hg hf (λs H ex=>YN (hk s H ex) (hv s H ex)) rfl rfl (λit acc env=>Kq ..) (λ_ _ _=>rfl) (λ_ _ _=>rfl) (λ_ _ _=>rfl) (λ_ _ _=>rfl) (λO s σ H Q I h=>?_) hs;simp only[newDict,newObj];refine j8 (wpAny_alloc (jb (h _ ?_)));exact I.laid (a:=s.heap.objs.size) (o:=.dK []) (t':=s.toks) (λ_ _ q=>Heap.get?_push_of_some _ q) (jc _) (N9 s.heap I.big)
end
section
variable{K:Frag}{ρ ρ':List Addr}{H H':Hp}{hd hd':Hd}
def RH.hputO(h:RH K ρ H hd)(out:a∉ρ)(hl:H a=some o)(c:Chg H a)(n1:∀ps,o≠.tbl ps)(n2:∀φ,o≠.ext φ):RH K ρ (upd H a ho) hd:=by
 have gr:Grow H (upd H a ho):=Grow.refl.put c;refine⟨h.len,h.nd,h.tabs.upd (λps z=>n1 ps (Option.some.inj (hl.symm.trans z))) (λps z=>n2 ps (Option.some.inj (hl.symm.trans z))),λm o' b e1 e2=>?_⟩;obtain⟨ho',q1,q2⟩:=h.ob m o' b e1 e2;have:b≠a:=λz=>out (by rw[<- z];exact jt e2);exact⟨ho',by rw[AD this];exact q1,by simpa using q2.mono gr []⟩
def Ext.outk(x:Ext ρ H ρ' H')(h:H a=some o)(out:a∉ρ):a∉ρ':=by
 obtain⟨r,rfl,fr⟩:=x.pre;intro z;rcases mem_append.mp z with z|z
 .exact out z
 .have:=fr _ z;rw[h]at this;cases this
structure Acc(K:Frag)(α:Type)(o0:HO)(a0:α) where
 rel:List Addr->Hp->α->HO->Prop
 mono:∀{ρ:List Addr} {H H':Hp} {a:α} {o:HO} (r:List Addr),Grow H H'->rel ρ H a o->rel (ρ++r) H' a o
 chg:∀{ρ:List Addr} {H:Hp} {a:α} {o:HO},rel ρ H a o->¬ Stb o
 chg2:∀{ρ:List Addr} {H:Hp} {a:α} {o:HO},rel ρ H a o->(∀xs,o≠.tbl xs)/\∀z,o≠.ext z
 init:∀ρ H,rel ρ H a0 o0
noncomputable abbrev MM(α:Type):=Ls->Hd->α->Option (α×Hd)
def RM1{α:Type}{o0:HO}{a0:α}(B:Acc K α o0 a0)(t:TM)(m:MM α):Prop:=∀(ρ:List Addr) (σ:St) (H:Hp) (hd:Hd) (ls:Ls) (a a':α) (hd':Hd) (Da:Addr) (o:HO) (Q:Hp->Prop),RH K ρ H hd->RL K ρ H ls σ->Da∉ρ->H Da=some o->B.rel ρ H a o ->
 m ls hd a=some (a',hd')->(∀ρ' H' o',Ext ρ H ρ' H'->RH K ρ' H' hd'->H' Da=some o->B.rel ρ' H' a' o'->Q (upd H' Da o'))->t Da σ H Q
open Classical in
noncomputable def mGo{α:Type}(n:MG)(c:MT)(me:MM α)(g:Gd):List D->Ls->Hd->α->Option (α×Hd)
 |[],_,hd,a=>some (a,hd)
 |d::r,ls,hd,a=>(n d ls hd).bind λls1=>(c ls1 hd).bind λp=>if p.1=true then(me ls1 p.2 a).bind λq=>if GOk q.2 g then mGo n c me g r ls1 q.2 q.1 else none else if GOk p.2 g then mGo n c me g r ls1 p.2 a else none
noncomputable def Gn{α:Type}(k:Nat)(ix:List Nat)(mi:MI)(n:MG)(c:MT)(a0:α)(me:MM α):Ls->Hd->Option (α×Hd):=λls hd=>(mi ls hd).bind λp=>mGo n c me p.1.2 p.1.1 (D1 k ix ls) p.2 a0
def RNG{α:Type}{o0:HO}{a0:α}(B:Acc K α o0 a0)(t:TE)(m:Ls->Hd->Option (α×Hd)):Prop:=∀(ρ:List Addr) (σ:St) (H:Hp) (hd:Hd) (ls:Ls) (Q:VK) (a:α) (hd':Hd),RH K ρ H hd->RL K ρ H ls σ->m ls hd=some (a,hd') ->
 (∀ρ' H' Da o,Ext ρ H ρ' H'->RH K ρ' H' hd'->H Da=none->Da∉ρ'->H' Da=some o->B.rel ρ' H' a o->Q (.ref Da) H')->t σ H Q
def Tt{α:Type}{o0:HO}{a0:α}{B:Acc K α o0 a0}{k:Nat}{ix:List Nat}{wi:TI}{g:TG}{tf:TT}{tm:TM}{mi:MI}{n:MG}{c:MT}{m:MM α}(hi:RIt K wi mi)(hg:RGt K g n)(hf:RT K tf c)(he:RM1 B tm m):RNG B (GY o0 k ix wi g tf tm) (Gn k ix mi n c a0 m):=by
 intro ρ σ H hd ls Q out hd' hR hL hm hQ;obtain⟨⟨⟨ds,gd⟩,h1⟩,e1,hm⟩:=j6 hm;dsimp only at hm;refine hi ρ σ H hd ls _ ds gd h1 hR hL e1 λρ1 H1 J x1 R1 G1 Y=>?_;intro Da hDa;obtain⟨R1',x1'⟩:=R1.hid (ho:=o0) hDa;have oD:Da∉ρ1:=R1.out hDa;have nD:H Da=none:=x1.none hR hDa R1;refine⟨λi mm σ2 H2=>mm=ds.length-i/\i<=ds.length/\∃ρ2 ls2 hd2 a2 o2,Ext ρ1 H1 ρ2 H2/\Da∉ρ2/\H2 Da=some o2/\RH K ρ2 H2 hd2/\RL K ρ2 H2 ls2 σ2/\B.rel ρ2 H2 a2 o2/\GOk hd2 gd/\mGo n c m gd (ds.drop i) ls2 hd2 a2=some (out,hd'),
  ⟨ds.length,by simp,jU _,ρ1,_,h1,a0,o0,x1',oD,AE,R1',(OZ ((hL.ext hR x1).ext R1 x1')),B.init _ _,G1,by simpa using hm⟩,?_⟩
 rintro i mm σ2 H2 ⟨rfl,hi,ρ2,ls2,hd2,a2,o2,x2,oD2,hD2,R2,L2',r2,G2,hm2⟩;obtain⟨Y1,Y2⟩:=Y ρ2 H2 hd2 x2 R2 G2 i;by_cases hlt:i<ds.length
 .obtain⟨go,Y1⟩:=Y1 hlt;have ed:ds.drop i=ds[i]::ds.drop (i+1):=kc hlt;rw[ed]at hm2;unfold mGo at hm2;obtain⟨ls3,e3,hm2⟩:=j6 hm2;obtain⟨⟨bb,hd4⟩,e4,hm2⟩:=j6 hm2;refine .inr ⟨go,λσ' H'=>∃ρ2 ls2 hd2 a2 o2,Ext ρ1 H1 ρ2 H'/\Da∉ρ2/\H' Da=some o2/\RH K ρ2 H' hd2/\RL K ρ2 H' ls2 σ'/\B.rel ρ2 H' a2 o2/\GOk hd2 gd/\mGo n c m gd (ds.drop (i+1)) ls2 hd2 a2=some (out,hd'),λσ' H' z=>⟨ds.length-(i+1),by omega,rfl,hlt,z⟩,λx H3 y=>?_⟩;obtain⟨ρ3,d3,x3,rfl,R3,e5,r3⟩:=Y1 x H3 y;have e6:d3=ds[i]:=by
   have:ds[i]?=some ds[i]:=by simp[hlt]
   rw[this]at e5;exact(Option.some.inj e5).symm
  subst e6;refine hg ρ3 σ2 H3 hd2 ls2 ls3 _ x _ R3 (L2'.ext R2 x3) r3 e3 λσ4 L4=>?_;refine hf ρ3 σ4 H3 hd2 ls3 _ bb hd4 R3 L4 e4 λρ5 H5 x5 R5=>?_;have hD3:H3 Da=some o2:=x3.keep Da _ hD2 oD2 (B.chg2 r2).1;have hD5:H5 Da=some o2:=x5.keep Da _ hD3 oD2 (B.chg2 r2).1;have out5:Da∉ρ5:=x5.outk hD3 oD2;have y25:=x3.trans R3 x5;have r5:B.rel ρ5 H5 a2 o2:=by
   obtain⟨r,rfl,fr⟩:=y25.pre;exact B.mono r (y25.grow R2) r2
  cases bb with
  |false=>
   rw[ja Bool.false_ne_true]at hm2 ⊢;split at hm2
   .next g5=>exact⟨ρ5,ls3,hd4,a2,o2,x2.trans R2 y25,out5,hD5,R5,L4.ext R3 x5,r5,g5,hm2⟩
   .cases hm2
  |true=>
   rw[j9 rfl]at hm2 ⊢;obtain⟨⟨z,hd6⟩,e6,hm2⟩:=j6 hm2;dsimp only at hm2;split at hm2
   .next g6=>
    refine he ρ5 σ4 H5 hd4 ls3 a2 z hd6 Da o2 _ R5 (L4.ext R3 x5) out5 hD5 r5 e6 λρ6 H6 o6 x6 R6 hD6 r6=>?_;have out6:Da∉ρ6:=x6.outk hD5 out5;have c6:Chg H6 Da:=λu st z=>B.chg r5 (by rw[hD6]at z;cases z;exact st);have gr:Grow H6 (upd H6 Da o6):=Grow.refl.put c6;have R7:=R6.hputO (ho:=o6) out6 hD6 c6 (B.chg2 r5).1 (B.chg2 r5).2;have x12:=(x2.trans R2 y25).trans R5 x6;have ext7:Ext ρ1 H1 ρ6 (upd H6 Da o6):=⟨x12.pre,λb o q nb t=>by
     have:b≠Da:=AV q hDa;rw[AD this];exact x12.keep b o q nb t,λb ps q=>by
     have:b≠Da:=AV q hDa;rw[AD this];exact x12.tab b ps q⟩
    have L6:=(L4.ext R3 x5).ext R5 x6;exact⟨ρ6,ls3,hd6,z,o6,ext7,out6,AE,R7,⟨L6.len,λi d e=>let ⟨v,a,b⟩:=L6.ob i d e;⟨v,a,by simpa using b.mono gr []⟩⟩,by simpa using B.mono [] gr r6,g6,hm2⟩
   .cases hm2
 .have e:i=ds.length:=by omega
  subst e;rw[List.drop_length]at hm2;unfold mGo at hm2;cases hm2;exact .inl ⟨Y2 rfl,hQ ρ2 H2 Da o2 (x1.trans R1 x2) R2 nD oD2 hD2 r2⟩
noncomputable def dz(K:Frag):Acc K (List (Key×D)) (.dK []) [] where
 rel:=λρ H a o=>∃xs,o=.dK xs/\RKs K ρ H a xs
 mono:=λr g ⟨xs,e,q⟩=>⟨xs,e,q.mono g r⟩
 chg:=λ⟨xs,e,q⟩ st=>by subst e;exact st
 chg2:=λ⟨xs,e,q⟩=>⟨λ_ z=>(by subst e;cases z),λ_ z=>(by subst e;cases z)⟩
 init:=λρ H=>⟨[],rfl,by simp[RKs]⟩
open Classical in
noncomputable def HU(mk mv:ME):MM (List (Key×D)):=λls hd a=>(mk ls hd).bind λq=>(mv ls q.2).bind λz=>(CA q.1).bind λk=>if DN a.length then some (Cp a k z.1,z.2)else none
def aC(hk:RE K tk mk)(hv:RE K tv mv):RM1 (dz K) (J9 tk tv) (HU mk mv):=by
 intro ρ σ H hd ls a a' hd' Da o Q hR hL out hD hrel hm hQ;obtain⟨⟨d1,h1⟩,e1,hm⟩:=j6 hm;obtain⟨⟨d2,h2⟩,e2,hm⟩:=j6 hm;obtain⟨k,e4,hm⟩:=j6 hm;obtain⟨xs,rfl,r⟩:=hrel;dsimp only at hm;split at hm
 .next c=>
  cases hm;refine hk ρ σ H hd ls _ d1 h1 hR hL e1 λρ1 H1 v1 x1 R1 r1=>?_;refine hv ρ1 σ H1 h1 ls _ d2 _ R1 (hL.ext hR x1) e2 λρ2 H2 v2 x2 R2 r2=>?_;have:=FP r1 e4;subst this;have hD2:H2 Da=some (.dK xs):=x2.keep Da _ (x1.keep Da _ hD out nt) (x1.outk hD out) nt;have x12:=x1.trans R1 x2;have r':RKs K ρ2 H2 a xs:=by
   obtain⟨rr,rfl,fr⟩:=x12.pre;exact r.mono (x12.grow hR) rr
  exact⟨xs,k,hD2,rfl,by rw[r'.len];exact c,hQ ρ2 H2 _ x12 R2 hD2 ⟨_,rfl,r'.put r2⟩⟩
 .cases hm
noncomputable def JA(m:Ls->Hd->Option (List (Key×D)×Hd)):ME:=λls hd=>(m ls hd).bind λp=>some (.mu p.2.length,p.2++[.dic p.1])
def XU{m:Ls->Hd->Option (List (Key×D)×Hd)}(h:RNG (dz K) t m):RE K t (JA m):=by
 and_intros;obtain⟨⟨a,h1⟩,e1,hm⟩:=j6 hm;cases hm;refine h ρ σ H hd ls Q a h1 hR hL e1 λρ1 H1 Da o x1 R1 nD oD hD ⟨xs,eo,r⟩=>?_;subst eo;have R2:=R1.nameD oD hD (λz=>z) r;have e0:upd H1 Da (.dK xs)=H1:=by
  funext b
  by_cases hb:b=Da
  .subst hb;rw[AE,hD]
  .rw[AD hb]
 rw[e0]at R2;refine hQ (ρ1++[Da]) H1 _ (x1.name nD) R2 ?_;simp only[RD];exact⟨Da,by rw[<- R1.len];simp,rfl⟩
variable(K:Frag){X:Cx}
def UR{k v tg iter:Expr}{ifs:List Expr}{scope:Scope}{pos:Pos}{loc fr:List Str}{ix:List Nat}{wi:TI}{g:TG}{tf:TT}{tk tv:TE}{mi:MI}{n:MG}{mf:MT}{mk mv:ME}(hc:X.calm=true)(S:CSc X scope fr ix)(hi:QI K X tg iter wi mi)
 (hg:∀s H ex,QG K (cCx X (loc++fr) scope s H ex) tg g n) (hf:∀s H ex,QF K (cCx X (loc++fr) scope s H ex) ifs tf mf) (hk:∀s H ex,QE K (cCx X (loc++fr) scope s H ex) k tk mk) (hv:∀s H ex,QE K (cCx X (loc++fr) scope s H ex) v tv mv)
 (hs:∀x,foldedSetIterable iter X.env x=pure x:=by intro _;rfl):QE K X (.DictComp k v [⟨tg,iter,ifs,0⟩] scope pos) (GY (.dK []) loc.length ix wi g tf (J9 tk tv)) (JA (Gn loc.length ix mi n mf [] (HU mk mv))):=
 ⟨Ug hc S hi.p (λs H ex=>(hg s H ex).p) (λs H ex=>(hf s H ex).p) (λs H ex=>(hk s H ex).p) (λs H ex=>(hv s H ex).p) hs,
  XU (Tt hi.r (hg X.s₀ X.H₀ []).r (hf X.s₀ X.H₀ []).r (aC (hk X.s₀ X.H₀ []).r (hv X.s₀ X.H₀ []).r))⟩
def av(hu:X.A.units+1<cLine)(ha:QE K X a ta ma)(hb:QE K X b tb mb)(hmk:behindInMarks .In b=false:=by rfl):QT K X (.Compare a [.In] [b] pos) (tB (TY ta tb)) (A6 (mOp (DX false) ma mb)):=⟨Rf (cI hu ha.p hb.p) hmk,a8 (aW hb.r ha.r)⟩
def Xk(hu:X.A.units+1<cLine)(ha:QE K X a ta ma)(hb:QE K X b tb mb)(hmk:behindInMarks .NotIn b=false:=by rfl):QT K X (.Compare a [.NotIn] [b] pos) (tB (Jb ta tb)) (A6 (mOp (DX true) ma mb)):=⟨Rf (Rm hu ha.p hb.p) hmk,a8 (XY hb.r ha.r)⟩
end
def WP{α:Type}(o:Option (α×Hd))(Q:α->Hd->Prop):Prop:=∃z h,o=some (z,h)/\Q z h
abbrev WS(m:MS)(ls:Ls)(hd:Hd)(Q:Fl->Hd->Prop):Prop:=WP (m ls hd) Q
abbrev WE(m:ME)(ls:Ls)(hd:Hd)(Q:D->Hd->Prop):Prop:=WP (m ls hd) Q
abbrev WT(m:MT)(ls:Ls)(hd:Hd)(Q:Bool->Hd->Prop):Prop:=WP (m ls hd) Q
abbrev WA(m:MA)(ls:Ls)(hd:Hd)(Q:List D->Hd->Prop):Prop:=WP (m ls hd) Q
abbrev WO(m:MO1)(ls:Ls)(hd:Hd)(Q:Option Int->Hd->Prop):Prop:=WP (m ls hd) Q
abbrev WI(m:MI)(ls:Ls)(hd:Hd)(Q:List D×Gd->Hd->Prop):Prop:=WP (m ls hd) Q
abbrev WF(F:List D->Hd->Option (D×Hd))(ds:List D)(hd:Hd)(Q:D->Hd->Prop):Prop:=WP (F ds hd) Q
section
variable{α β:Type}{Q:α->Hd->Prop}{R:β->Hd->Prop}
theorem WP.some{z:α}(q:Q z h):WP (some (z,h)) Q:=⟨z,h,rfl,q⟩
def WP.mono{Q':α->Hd->Prop}(h:WP o Q)(k:∀z h,Q z h->Q' z h):WP o Q':=let ⟨z,x,e,q⟩:=h;⟨z,x,e,k z x q⟩
theorem WP.bind{f:α×Hd->Option (β×Hd)}(h:WP o λz x=>WP (f (z,x)) R):WP (o.bind f) R:=by
 obtain⟨z,x,e,q⟩:=h;rw[e];exact q
def WP.eq{z:α}(e:o=Option.some (z,h))(q:Q z h):WP o Q:=⟨z,h,e,q⟩
end
section
variable{ls:Ls}{hd:Hd}{a b:MS}{ma mb mc:ME}{ta tb:MT}{m m1 m2:MA}{n:MG}{ns:MGs}{mi:MI}{d e:D}{i j:Nat}{QS:Fl->Hd->Prop}{QE:D->Hd->Prop}{QT:Bool->Hd->Prop}{QA:List D->Hd->Prop}{QO:Option Int->Hd->Prop}{QI:List D×Gd->Hd->Prop}
noncomputable def Os(b:MS)(Q:Fl->Hd->Prop):Fl->Hd->Prop
 |.nx l,h=>WS b l h Q
 |f,h=>Q f h
def AH(h:WS a ls hd (Os b QS)):WS (A5 a b) ls hd QS:=by
 obtain⟨f,x,e,q⟩:=h;show WP (A5 a b ls hd) QS;rw[JI,e];cases f<;>first|exact q|exact⟨_,_,rfl,q⟩
def AA(q:WS b l h QS):Os b QS (.nx l) h:=q
def DQ(q:QS (.rt d) h):Os b QS (.rt d) h:=q
def Ai(h:QS (.nx ls) hd):WS AM ls hd QS:=⟨_,_,rfl,h⟩
def Ay(h:WE ma ls hd λd x=>QS (.rt d) x):WS (AI ma) ls hd QS:=WP.bind (h.mono λ_ _ q=>WP.some q)
def AY(h:WE ma ls hd λd x=>QS (.nx (ls.set i (some d))) x):WS (AB i ma) ls hd QS:=by
 obtain⟨d,x,e,q⟩:=h;exact⟨_,_,by simp only[JJ,e,bind_some,Jx,jr],q⟩
def Ni(h:WE ma ls hd λ_ x=>QS (.nx ls) x):WS (Bp ma) ls hd QS:=WP.bind (h.mono λ_ _ q=>WP.some q)
def Vf(h:WT ta ls hd λc x=>if c=true then WS a ls x QS else WS b ls x QS):WS (AS ta a b) ls hd QS:=by
 refine WP.bind (h.mono λc x q=>?_);dsimp only;cases c<;>simpa using q
def Ar(h:WT ta ls hd λc x=>(c=true->WS a ls x QS)/\(c=false->WS b ls x QS)):WS (AS ta a b) ls hd QS:=
 Vf (h.mono λc x q=>by cases c<;>simp_all)
def ZV{ix:List Nat}(h:WA m ls hd λds x=>ds.length=ix.length/\QS (.nx ((ix.zip ds).foldl (λl q=>l.set q.1 (some q.2)) ls)) x):WS (Ph ix m) ls hd QS:=by
 obtain⟨d,x,e,q,q2⟩:=h;exact⟨_,_,by simp only[dP,e,bind_some,q,jj],q2⟩
def WL(n:MG)(b:MS)(g:Gd)(ds:List D)(ls:Ls)(hd:Hd)(Q:Fl->Hd->Prop):Prop:=WP (Ao n b g ds ls hd) Q
def DC(h:WI mi ls hd λp x=>WL n b p.2 p.1 ls x QS):WS (Az mi n b) ls hd QS:=WP.bind (h.mono λ_ _ q=>q)
noncomputable def Vk(g:Gd)(P:Ls->Hd->Prop)(Q:Fl->Hd->Prop):Fl->Hd->Prop
 |.nx l,h=>GOk h g/\P l h
 |.ct l,h=>GOk h g/\P l h
 |.bk l,h=>Q (.nx l) h
 |.rt d,h=>Q (.rt d) h
theorem B9(P:List D->Ls->Hd->Prop):∀{ds:List D} {ls:Ls} {hd:Hd},P ds ls hd ->
 (∀d r ls hd,P (d::r) ls hd->∃ls1,n d ls hd=some ls1/\WS b ls1 hd (Vk g (P r) QS))->(∀ls hd,P [] ls hd->QS (.nx ls) hd)->WL n b g ds ls hd QS
 |[],ls,hd,h,_,z=>⟨_,_,by unfold Ao;rfl,z _ _ h⟩
 |d::r,ls,hd,h,k,z=>by
  obtain⟨ls1,e1,f,x,e2,q⟩:=k d r ls hd h;unfold WL;unfold Ao;rw[e1,bind_some,e2,bind_some];cases f with
  |nx l=>exact(show GOk x g/\P r l x from q).1 |> λg1=>by dsimp only;rw[j9 g1];exact B9 P q.2 k z
  |ct l=>exact(show GOk x g/\P r l x from q).1 |> λg1=>by dsimp only;rw[j9 g1];exact B9 P q.2 k z
  |bk l=>exact⟨_,_,rfl,q⟩
  |rt l=>exact⟨_,_,rfl,q⟩
def A2(h:ls[i]?=some (some d))(q:QE d hd):WE (A0 i) ls hd QE:=⟨d,hd,by rw[Dz,h],q⟩
def AG{i:I}(q:QE (.im i) hd):WE (mC i) ls hd QE:=⟨_,_,rfl,q⟩
def AC{f:D->D->Hd->Option (D×Hd)}(h:WE ma ls hd λd x=>WE mb ls x λe y=>WP (f d e y) QE):WE (mOp f ma mb) ls hd QE:=WP.bind (h.mono λ_ _ q=>WP.bind (q.mono λ_ _ q=>q))
def eE(h:WT ta ls hd λc x=>if c=true then WE ma ls x QE else WE mb ls x QE):WE (mIf ta ma mb) ls hd QE:=by
 refine WP.bind (h.mono λc x q=>?_);dsimp only;cases c<;>simpa using q
def LQ(h:WT ta ls hd λc x=>(c=true->WE ma ls x QE)/\(c=false->WE mb ls x QE)):WE (mIf ta ma mb) ls hd QE:=
 eE (h.mono λc x q=>by cases c<;>simp_all)
def B1(h:WA m ls hd λds x=>Bg ds.length/\QE (AO ds) x):WE (Ad m) ls hd QE:=WP.bind (h.mono λds x q=>by dsimp only;rw[j9 q.1];exact WP.some q.2)
def CG(h:WA m ls hd λds x=>QE (.mu x.length) (x++[.lst ds])):WE (Ag m) ls hd QE:=WP.bind (h.mono λ_ _ q=>WP.some q)
def Dr{g:List D->Option D}(h:WA m ls hd λds x=>∃d,g ds=some d/\QE d x):WE (BI g m) ls hd QE:=by
 obtain⟨ds,x,e,d,e2,q⟩:=h;exact⟨d,x,by simp only[SO,e,bind_some,e2,jr],q⟩
def Ib(h:WA m ls hd λds x=>WE ma ls x λe y=>∃i d,e=.im (.int i)/\atI ds i=some d/\QE d y):WE (E3 m ma) ls hd QE:=by
 obtain⟨ds,x,e,d,y,e2,i,z,rfl,e4,q⟩:=h;exact⟨z,y,by simp only[dW,e,bind_some,e2,e4,jr],q⟩
def C6{f:List D->Hd->Option (D×Hd)}(h:WA m ls hd λds x=>WP (f ds x) QE):WE (mCB f m) ls hd QE:=WP.bind (h.mono λ_ _ q=>q)
def Vj{f:D->List D->Hd->Option (D×Hd)}(h:WE ma ls hd λd x=>(∃l,BG x d=some l)/\WA m ls x λds y=>WP (f d ds y) QE):WE (mMt f ma m) ls hd QE:=by
 obtain⟨d,x,e,⟨l,hl⟩,q⟩:=h;unfold WE;rw[Pp,e,bind_some];dsimp only;rw[hl];exact WP.bind (q.mono λ_ _ q=>q)
def BV{F:List D->Hd->Option (D×Hd)}(h:WA m ls hd λds x=>WF F ds x QE):WE (AW F m) ls hd QE:=WP.bind (h.mono λ_ _ q=>q)
def FC(h:WE ma ls hd λd x=>∃i,d=.im (.int i)/\QE (.im (.int (-i))) x):WE (E2 ma) ls hd QE:=by
 obtain⟨d,x,e,i,rfl,q⟩:=h;exact⟨_,x,by simp only[dR,e,bind_some],q⟩
def JX(h:WT (A6 ma) ls hd λc x=>if c=true then WE mb ls x QE else QE (.im (.bl false)) x):WE (El ma mb) ls hd QE:=by
 refine WP.bind (h.mono λc x q=>?_);dsimp only;cases c
 .exact WP.some (by simpa using q)
 .simpa using q
def Nl(h:WT (A6 ma) ls hd λc x=>QE (.im (.bl (!c))) x):WE (HV ma) ls hd QE:=WP.bind (h.mono λ_ _ q=>WP.some q)
def AU(h:WE ma ls hd λd x=>∃b,d=.im (.bl b)/\QT b x):WT (A6 ma) ls hd QT:=by
 obtain⟨d,x,e,b,rfl,q⟩:=h;exact⟨b,x,by simp only[He,e,bind_some],q⟩
def CS(h:WE ma ls hd λd x=>∃b,Co x d=some b/\QT b x):WT (BD ma) ls hd QT:=by
 obtain⟨d,x,e,b,e2,q⟩:=h;exact⟨b,x,by simp only[JH,e,bind_some,e2,jr],q⟩
def EH(h:WT ta ls hd λc x=>QT (!c) x):WT (CN ta) ls hd QT:=WP.bind (h.mono λ_ _ q=>WP.some q)
def GT(h:WT ta ls hd λc x=>if c=true then WT tb ls x QT else QT false x):WT (Ba ta tb) ls hd QT:=by
 refine WP.bind (h.mono λc x q=>?_);dsimp only;cases c
 .exact WP.some (by simpa using q)
 .simpa using q
def Fa(h:WT ta ls hd λc x=>if c=true then QT true x else WT tb ls x QT):WT (mOr ta tb) ls hd QT:=by
 refine WP.bind (h.mono λc x q=>?_);dsimp only;cases c
 .simpa using q
 .exact WP.some (by simpa using q)
def EG(h:QT true hd):WT CZ ls hd QT:=⟨_,_,rfl,h⟩
def A8(h:QA [] hd):WA A4 ls hd QA:=⟨_,_,rfl,h⟩
def A3(h:WE ma ls hd λd x=>WA m ls x λds y=>QA (d::ds) y):WA (A1 ma m) ls hd QA:=WP.bind (h.mono λ_ _ q=>WP.bind (q.mono λ_ _ q=>WP.some q))
def Ds(h:WA m ls hd λds x=>Bg ds.length/\QA ds x):WA (Am m) ls hd QA:=WP.bind (h.mono λds x q=>by dsimp only;rw[j9 q.1];exact WP.some q.2)
def Wl{k:Int}(e:m ls hd=some ([.im (.int k)],hd))(hk:Iu k)(q:QA (AT 0 k.toNat) hd):WA (Gk m) ls hd QA:=⟨_,_,by simp only[dO,e,bind_some,hk,jj],q⟩
def Nm(h:WE ma ls hd λd x=>∃ds,Aa x d=some ds/\QA ds x):WA (Fv ma) ls hd QA:=by
 obtain⟨d,x,e,ds,e2,q⟩:=h;exact⟨ds,x,by simp only[ZB,e,bind_some,e2,jr],q⟩
def Oj(h:QO none hd):WO B4 ls hd QO:=⟨_,_,rfl,h⟩
def FA(h:WE ma ls hd λd x=>∃i,d=.im (.int i)/\QO (some i) x):WO (BX ma) ls hd QO:=by
 obtain⟨d,x,e,i,rfl,q⟩:=h;exact⟨_,x,by simp only[Z9,e,bind_some],q⟩
def GW(h:WA m ls hd λds x=>∃k,ds=[.im (.int k)]/\Fo k/\QI (AT 0 k.toNat,[]) x):WI (Bu m) ls hd QI:=by
 obtain⟨ds,x,e,k,rfl,c,q⟩:=h;exact⟨_,x,by simp only[dY,e,bind_some,c,jj],q⟩
def eD(h:WA m ls hd λds x=>∃j k,ds=[.im (.int j),.im (.int k)]/\Tu j k/\QI (AT j (k-j).toNat,[]) x):WI (WD m) ls hd QI:=by
 obtain⟨ds,x,e,j,k,rfl,c,q⟩:=h;exact⟨_,x,by simp only[ZC,e,bind_some,c,jj],q⟩
def EK(h:WE ma ls hd λd x=>∃ds,AL d=some ds/\QI (ds,[]) x):WI (BE ma) ls hd QI:=by
 obtain⟨d,x,e,ds,e2,q⟩:=h;exact⟨_,x,by simp only[dX,e,bind_some,e2,jr],q⟩
def Ze(h:WA m ls hd λds x=>QI (ds,[]) x):WI (Js m) ls hd QI:=by
 obtain⟨ds,x,e,q⟩:=h;exact⟨_,x,by simp only[dZ,e,jr],q⟩
def TD(h:WE ma ls hd λd x=>∃k ds,d=.mu k/\x[k]?=some (.lst ds)/\QI (ds,[(k,ds)]) x):WI (C9 ma) ls hd QI:=by
 obtain⟨d,x,e,k,ds,rfl,e2,q⟩:=h;exact⟨_,x,by simp only[SN,e,bind_some,e2],q⟩
def BZ{k:Nat}(h:WI mi ls hd λp x=>Bg p.1.length/\WP (Av n ta ma p.2 p.1 (D1 k ix ls) x) QA):WA (Ak k ix mi n ta ma) ls hd QA:=WP.bind (h.mono λp x q=>by dsimp only;rw[j9 q.1];exact q.2)
theorem LR(P:List D->List D->Ls->Hd->Prop):∀{ds es:List D} {ls:Ls} {hd:Hd},P ds es ls hd ->
 (∀d r es ls hd,P (d::r) es ls hd->∃ls1,n d ls hd=some ls1/\WT ta ls1 hd λc x=>if c=true then WE ma ls1 x λz y=>GOk y g/\P r (es++[z]) ls1 y else GOk x g/\P r es ls1 x) ->
 WP (Av n ta ma g ds ls hd) λzs x=>∃ls',P [] (es++zs) ls' x
 |[],es,ls,hd,h,k=>⟨_,_,by unfold Av;rfl,ls,by simpa using h⟩
 |d::r,es,ls,hd,h,k=>by
  obtain⟨ls1,e1,c,x,e2,q⟩:=k d r es ls hd h;unfold Av;rw[e1,bind_some,e2,bind_some];cases c with
  |true=>
   rw[j9 rfl]at q ⊢;obtain⟨z,y,e3,g3,p3⟩:=q;obtain⟨zs,y2,e4,ls',p4⟩:=LR P p3 k;rw[e3,bind_some];dsimp only;rw[j9 g3,e4];exact⟨z::zs,y2,rfl,ls',by simpa using p4⟩
  |false=>
   rw[ja Bool.false_ne_true]at q ⊢;dsimp only;rw[j9 q.1];exact LR P q.2 k
def Dq{i j:Int}(q:QE (.im (.int (i+j))) hd):WP (AX (.im (.int i)) (.im (.int j)) hd) QE:=⟨_,_,by simp,q⟩
def F8{i j:Int}(q:QE (.im (.int (i-j))) hd):WP (BS (.im (.int i)) (.im (.int j)) hd) QE:=⟨_,_,by simp,q⟩
def EI{i j:Int}(c:E8 i j)(q:QE (.im (.int (i*j))) hd):WP (BY (.im (.int i)) (.im (.int j)) hd) QE:=⟨_,_,by simp[c],q⟩
def DE{i j:Int}(c:Dh j)(q:QE (.im (.int (i%j))) hd):WP (Ce (.im (.int i)) (.im (.int j)) hd) QE:=⟨_,_,by simp[c],q⟩
def JV{i j:Int}(c:LJ j)(q:QE (.im (.int (i/j))) hd):WP (GC (.im (.int i)) (.im (.int j)) hd) QE:=⟨_,_,by simp[c],q⟩
def E6{i j:Int}(q:QE (.im (.bl (decide (i<j)))) hd):WP (gLt (.im (.int i)) (.im (.int j)) hd) QE:=⟨_,_,by simp,q⟩
def Oh{i j:Int}(q:QE (.im (.bl (decide (i<=j)))) hd):WP (gLe (.im (.int i)) (.im (.int j)) hd) QE:=⟨_,_,by simp,q⟩
def Oi{i j:Int}(q:QE (.im (.bl (decide (j<i)))) hd):WP (gGt (.im (.int i)) (.im (.int j)) hd) QE:=⟨_,_,by simp,q⟩
def Vh{i j:Int}(q:QE (.im (.bl (decide (j<=i)))) hd):WP (gGe (.im (.int i)) (.im (.int j)) hd) QE:=⟨_,_,by simp,q⟩
def F9{i j:Int}(q:QE (.im (.bl (decide (i=j)))) hd):WP (gEq (.im (.int i)) (.im (.int j)) hd) QE:=⟨_,_,by simp,q⟩
def ZZ{i j:Int}(q:QE (.im (.bl (!decide (i=j)))) hd):WP (gNe (.im (.int i)) (.im (.int j)) hd) QE:=⟨_,_,by simp,q⟩
def GU{i j:Str}(q:QE (.im (.bl (decide (i=j)))) hd):WP (gEq (.im (.str i)) (.im (.str j)) hd) QE:=⟨_,_,by simp,q⟩
def LL{i j:Str}(q:QE (.im (.bl (!decide (i=j)))) hd):WP (gNe (.im (.str i)) (.im (.str j)) hd) QE:=⟨_,_,by simp,q⟩
def Ae{i:Int}(e1:Aa hd d=some ds)(e2:atI ds i=some e)(q:QE e hd):WP (gIx d (.im (.int i)) hd) QE:=⟨_,_,by rw[fW,e1,bind_some,e2];rfl,q⟩
def Wb(e1:C3 hd d=some kvs)(e2:CA e=some k)(e3:BH kvs k=some z)(q:QE z hd):WP (DM d e hd) QE:=⟨_,_,by rw[ZF,e1,bind_some,e2,bind_some,e3];rfl,q⟩
def Zb{neg:Bool}(e1:C3 hd d=some kvs)(e2:CA e=some k)(q:QE (.im (.bl (if neg then !(BH kvs k).isSome else(BH kvs k).isSome))) hd):WP (DX neg e d hd) QE:=⟨_,_,by unfold DX;rw[e1,bind_some,e2];rfl,q⟩
def Wa{i j:Int}(q:QE (.im (.int (max i j))) hd):WP (EA [.im (.int i),.im (.int j)] hd) QE:=⟨_,_,rfl,by have:(if j>i then j else i)=max i j:=(by split<;>omega);rw[this];exact q⟩
def WZ{i j:Int}(q:QE (.im (.int (min i j))) hd):WP (Hc [.im (.int i),.im (.int j)] hd) QE:=⟨_,_,rfl,by have:(if j<i then j else i)=min i j:=(by split<;>omega);rw[this];exact q⟩
def CP{tp:Bool}{g:List D->Option D}(e1:(if tp then Aa hd d else BG hd d)=some ds)(e2:g ds=some z)(q:QE z hd):WP (f1 tp g [d] hd) QE:=⟨_,_,by rw[fX,e1,bind_some,e2];rfl,q⟩
def GV{k:Nat}(e1:hd[k]?=some (.lst ds))(c:DN ds.length)(q:QE (.im .non) (hd.set k (.lst (ds++[x])))):WP (B5 (.mu k) [x] hd) QE:=⟨_,_,by rw[SQ,e1];simp only[c,jj],q⟩
def Nj{w:Nat}(h:WE mc ls hd λp x=>WE ma ls x λq y=>WE mb ls y λr z=>∃w k kvs,q=.mu w/\CA r=some k/\z[w]?=some (.dic kvs)/\DN kvs.length/\QS (.nx ls) (z.set w (.dic (Cp kvs k p)))):WS (G4 ma mb mc) ls hd QS:=by
 obtain⟨p,x,e1,q,y,e2,r,z,e3,w,k,kvs,rfl,e4,e5,c,qq⟩:=h;exact⟨_,_,by simp only[ZE,e1,bind_some,e2,e3,e4,e5,c,jj],qq⟩
def WX(h:WE mc ls hd λp x=>WE ma ls x λq y=>WE mb ls y λr z=>∃w i j ds,q=.mu w/\r=.im (.int i)/\z[w]?=some (.lst ds)/\ixN ds.length i=some j/\QS (.nx ls) (z.set w (.lst (ds.set j p)))):WS (Ej ma mb mc) ls hd QS:=by
 obtain⟨p,x,e1,q,y,e2,r,z,e3,w,i,j,ds,rfl,rfl,e5,c,qq⟩:=h;exact⟨_,_,by simp only[ZA,e1,bind_some,e2,e3,e5,c,jr],qq⟩
def BJ{k n:Nat}{m:MS}{ds:List D}{Q:D->Hd->Prop}(hl:ds.length=k)(h:WS m (ds.map some++List.replicate (n-k) none) hd λf x=>match f with
 |.rt d=>Q d x
 |.nx _=>Q (.im .non) x
 | _=>False):WF (mkF k n m) ds hd Q:=by
 obtain⟨f,x,e,q⟩:=h;unfold WF mkF;rw[j9 hl,e];cases f with
 |nx l=>exact⟨_,_,rfl,q⟩
 |rt l=>exact⟨_,_,rfl,q⟩
 |bk l=>exact q.elim
 |ct l=>exact q.elim
def Bt{F:List D->Hd->Option (D×Hd)}(h:WA m ls hd λds x=>Aj 0 ds=true/\WF F ds [] λd _=>∃i,d=.im i/\QE (.im i) x):WE (A7 0 F m) ls hd QE:=by
 obtain⟨ds,x,e,c,d,y,e2,i,rfl,q⟩:=h;exact⟨_,_,HH e c e2,q⟩
end
structure Tap(T:Nat->MO->MO->Prop)(P:List D->Hd->Option (D×Hd)):Prop where
 cl:∀{k:Nat} {a b:MO},T k a b->clO 2 a=true/\clO 2 b=true
 le:∀{j k:Nat} {a b:MO},T k a b->j<=k->T j a b
 pick:∀{k:Nat} {a b:MO} {many:Int},T (k+1) a b->0<many->many<1073741824->∃r a' b',0<=r/\r<many/\P [.mu 1,.im (.int many)] [a,b]=some (.im (.int r),[a',b'])/\T k a' b'
section
variable{T:Nat->MO->MO->Prop}{P:List D->Hd->Option (D×Hd)}{rest:Hd}{QE:D->Hd->Prop}{n c:Nat}
def Tap.draw(t:Tap T P)(hT:T (n+1) a b){many:Int}(e:m ls hd=some ([.mu 1,.im (.int many)],a::b::rest))(h0:0<many)(h1:many<1073741824)
 (k:∀r a' b',T n a' b'->0<=r->r<many->QE (.im (.int r)) (a'::b'::rest)):WE (A7 2 P m) ls hd QE:=by
 obtain⟨r,a',b',p1,p2,e2,hT'⟩:=t.pick hT h0 h1;refine⟨_,_,NI (w:=2) (ds:=[.mu 1,.im (.int many)]) (pre:=[a,b]) (pre':=[a',b']) (rest:=rest) (g:=[]) rfl rfl e (by simp) ?_ ?_ (by simpa using e2),k r a' b' hT' p1 p2⟩
 .simp[t.cl hT]
 .simp[t.cl hT']
end
section
variable{K:Frag}
noncomputable def Ee(w:Nat)(ls:Ls):Ls:=ls.map λo=>match o with
 |some d=>if clD w d=true then some d else none
 |none=>none
noncomputable def E7(w:Nat):Fl->Option Fl
 |.nx ls=>some (.nx (Ee w ls))
 |.bk ls=>some (.bk (Ee w ls))
 |.ct ls=>some (.ct (Ee w ls))
 |.rt d=>if clD w d=true then some (.rt d)else none
noncomputable def J8(w:Nat)(m:MS):MS:=λls hd=>if hd.length<=w then(m ls hd).bind λp=>if(p.2.take w).all (clO w)=true then(E7 w p.1).map λf=>(f,p.2.take w)else none else none
def RL.trim(h:RL K ρ H ls σ)(w:Nat):RL K (ρ.take w) H (Ee w ls) σ:=by
 refine⟨by simp[Ee,h.len],λi d e=>?_⟩;unfold Ee at e;rw[List.getElem?_map]at e;cases q:ls[i]? with
 |none=>rw[q]at e;cases e
 |some o=>
  rw[q]at e;cases o with
  |none=>simp at e
  |some z=>
   simp only[jr,Option.some.injEq]at e;split at e
   .next c=>
    cases e;obtain⟨v,e1,e2⟩:=h.ob i _ q;exact⟨v,e1,e2.take w c⟩
   .cases e
def Ext.trim(x:Ext ρ H ρ' H'){w:Nat}(h:ρ.length<=w):Ext ρ H (ρ'.take w) H':=by
 obtain⟨r,rfl,fr⟩:=x.pre;refine⟨⟨r.take (w-ρ.length),?_,λb hb=>fr b (List.mem_of_mem_take hb)⟩,x.keep,x.tab⟩;rw[List.take_append,jZ h]
def X5(w:Nat)(h:RS K t m):RS K t (J8 w m):=by
 intro ρ σ H hd ls E f hd' hR hL hm hQ;unfold J8 at hm;split at hm
 .next hw=>
  obtain⟨⟨f1,h1⟩,e1,hm⟩:=j6 hm;dsimp only at hm;split at hm
  .next c=>
   obtain⟨f2,e2,e3⟩:=j7 hm;cases e3;refine h ρ σ H hd ls E f1 h1 hR hL e1 λρ1 H1 x1 R1=>?_;have q:=hQ (ρ1.take w) H1 (x1.trim (by rw[hR.len];exact hw)) (R1.take w c);cases f1 with
   |nx l=>simp only[E7,Option.some.injEq]at e2;subst e2;exact λσ' L=>q σ' (L.trim w)
   |bk l=>simp only[E7,Option.some.injEq]at e2;subst e2;exact λσ' L=>q σ' (L.trim w)
   |ct l=>simp only[E7,Option.some.injEq]at e2;subst e2;exact λσ' L=>q σ' (L.trim w)
   |rt d=>
    simp only[E7]at e2;split at e2
    .next c2=>cases e2;exact λv r=>q v (r.take w c2)
    .cases e2
  .cases hm
 .cases hm
def WW{w:Nat}{Q:Fl->Hd->Prop}(hw:hd.length<=w)(h:WS m ls hd λf x=>(x.take w).all (clO w)=true/\∃f',E7 w f=some f'/\Q f' (x.take w)):WS (J8 w m) ls hd Q:=by
 obtain⟨f,x,e,c,f',e2,q⟩:=h;exact⟨f',x.take w,by unfold J8;rw[j9 hw,e,bind_some];dsimp only;rw[j9 c,e2];rfl,q⟩
noncomputable def Dx(m:MS):MS:=λls hd=>J8 hd.length m ls hd
def Ts(h:RS K t m):RS K t (Dx m):=λρ σ H hd ls E f hd' hR hL hm hQ=>X5 hd.length h ρ σ H hd ls E f hd' hR hL hm hQ
def Ra(K:Frag){st:List Stmt}(h:QSs K X st t m):QSs K X st t (Dx m):=⟨h.p,Ts h.r⟩
def IB{Q:Fl->Hd->Prop}(h:WS m ls hd λf x=>(x.take hd.length).all (clO hd.length)=true/\∃f',E7 hd.length f=some f'/\Q f' (x.take hd.length)):WS (Dx m) ls hd Q:=WW (jc _) h
noncomputable def LD:ME:=λ_ hd=>some (.mu hd.length,hd++[.dic []])
def XZ:RE K Li LD:=by
 and_intros;cases hm;intro p hp;obtain⟨R0,x0⟩:=hR.new hp (o:=.dic []) (ho:=.dK []) ⟨[],rfl,by simp[RKs]⟩;refine hQ (ρ++[p]) _ _ x0 R0 ?_;simp only[RD];exact⟨p,by rw[<- hR.len];simp,rfl⟩
def YB(K:Frag):QE K X (.Dict [] [] pos) Li LD:=⟨Uf,XZ⟩
def Wk{Q:D->Hd->Prop}(q:Q (.mu hd.length) (hd++[.dic []])):WE LD ls hd Q:=⟨_,_,rfl,q⟩
def cG{X:Cx}{j k:Nat}{sp:Sp}{st:Stmt}{p pos:Pos}(F:FnOk X.prog X.w X.K X.mg X.base CX0 j f fd ps sp)(hr:Room k X.A)(D:DefAt X.K X.mg x st f fd ps)
 (hjk:j<=k:=by decide) (hg:Gl X x:=by rfl) (hdb:(x==("__debug__":Str))=false:=by decide):
 PE X (.Call (.Name x p) [] [] pos) (Bx sp [] E0 Aq):=
 Ui (F.mono hjk) hr hg D.mg D.fn.kp D.bd .nil W6 hdb
def Re(K:Frag){X:Cx}(w:Nat){j k:Nat}{n:Nat}{F:List D->Hd->Option (D×Hd)}{st:Stmt}{p pos:Pos}(G:FnOk X.prog X.w X.K X.mg X.base CX0 j f fd ps (spF K n F))(hr:Room k X.A)(DA:DefAt X.K X.mg x st f fd ps)(hF:∀ds hd z,F ds hd=some z->ds.length=n)
 (hjk:j<=k:=by decide) (hg:Gl X x:=by rfl) (hdb:(x==("__debug__":Str))=false:=by decide):
 QE K X (.Call (.Name x p) [] [] pos) (Bx (spF K n F) [] E0 Aq) (A7 w F A4):=⟨cG G hr DA hjk hg hdb,MJ MN hF⟩
end
mutual
theorem GL{v w:Nat}(h:v<=w):∀{d:D},clD v d=true->clD w d=true
 |.im i,_=>by simp
 |.mu n,c=>by simp at c ⊢;omega
 |.tm ds,c=>by rw[clD]at c ⊢;exact Et h c
 |.ro ns,_=>by rw[clD]
 |.op _ _ ds,c=>by rw[clD]at c ⊢;exact Et h c
theorem Et{v w:Nat}(h:v<=w):∀{ds:List D},Aj v ds=true->Aj w ds=true
 |[],_=>by simp
 |d::ds,c=>by
  simp only[Sf,Bool.and_eq_true]at c ⊢;exact⟨GL h c.1,Et h c.2⟩
end
theorem HF{v w:Nat}(h:v<=w):∀{ds:List (Key×D)},C4 v ds=true->C4 w ds=true
 |[],_=>by simp[C4]
 |d::ds,c=>by
  simp only[C4,Bool.and_eq_true]at c ⊢;exact⟨GL h c.1,HF h c.2⟩
def GK{v w:Nat}(h:v<=w)(c:clO v o=true):clO w o=true:=by
 cases o with
 |lst ds=>exact Et h c
 |dic ds=>exact HF h c
section
variable{T:Nat->MO->MO->Prop}{P:List D->Hd->Option (D×Hd)}{rest:Hd}{QE:D->Hd->Prop}
def Tap.callX(t:Tap T P){n c:Nat}(hT:T (n+c) a b)(ex:Hd){w:Nat}{F:List D->Hd->Option (D×Hd)}{R:I->Prop}(e:m ls hd=some (.mu 1::as,a::b::(ex++rest)))(hw:w=ex.length+2)(ha:Aj w as=true)(hx:ex.all (clO w)=true)
 (hF:∀a b,T (n+c) a b->WF F (.mu 1::as) (a::b::ex) λd x=>∃i a' b' g,d=.im i/\R i/\T n a' b'/\x=a'::b'::(ex++g))
 (k:∀i a' b',T n a' b'->R i->QE (.im i) (a'::b'::(ex++rest))):WE (A7 w F m) ls hd QE:=by
 subst hw;have hcl:∀o,clO 2 o=true->clO (ex.length+2) o=true:=λo h=>GK (by omega) h;obtain⟨d,x,e2,i,a',b',g,rfl,hR,hT',rfl⟩:=hF a b hT;refine⟨_,_,NI (w:=ex.length+2) (ds:=.mu 1::as) (pre:=a::b::ex) (pre':=a'::b'::ex) (rest:=rest) (g:=g) rfl rfl e (by simp[ha]) ?_ ?_ e2,k i a' b' hT' hR⟩
 .simp[hcl _ (t.cl hT).1,hcl _ (t.cl hT).2];simpa using hx
 .simp[hcl _ (t.cl hT').1,hcl _ (t.cl hT').2];simpa using hx
def Tap.call(t:Tap T P){n c:Nat}(hT:T (n+c) a b){F:List D->Hd->Option (D×Hd)}{R:I->Prop}(e:m ls hd=some (.mu 1::as,a::b::rest))(ha:Aj 2 as=true)
 (hF:∀a b,T (n+c) a b->WF F (.mu 1::as) [a,b] λd x=>∃i a' b' g,d=.im i/\R i/\T n a' b'/\x=a'::b'::g)
 (k:∀i a' b',T n a' b'->R i->QE (.im i) (a'::b'::rest)):WE (A7 2 F m) ls hd QE:=
 t.callX hT [] (w:=2) e rfl ha rfl hF k
end
end L2
namespace L2
open PySem PySem.Spec PyProof.Rows
section
variable{Q:Fl->Hd->Prop}{QE:D->Hd->Prop}
noncomputable def eI(P:Ls->Hd->Prop)(Q:Fl->Hd->Prop):Fl->Hd->Prop
 |.nx l,h=>P l h
 |.ct l,h=>P l h
 |.bk l,h=>Q (.nx l) h
 |.rt d,h=>Q (.rt d) h
def T3(P:Nat->Ls->Hd->Prop){n:Nat}(h:P n ls hd)
 (k:∀n ls hd,P n ls hd->WT c ls hd λt x=>if t=true then WS b ls x (eI (λl y=>∃m,m<n/\P m l y) Q)else Q (.nx ls) x):WS (Cr c b) ls hd Q:=by
 have go:∀n ls hd,P n ls hd->∃j r,As c b j ls hd=some r/\Q r.1 r.2:=by
  intro n
  induction n using Nat.strongRecOn with
  |ind n ih=>
   intro ls hd h;obtain⟨t,x,e1,q⟩:=k n ls hd h;cases t with
   |false=>
    rw[ja Bool.false_ne_true]at q;exact⟨1,(.nx ls,x),by unfold As;rw[e1];rfl,q⟩
   |true=>
    rw[j9 rfl]at q;obtain⟨f,y,e2,q⟩:=q;cases f with
    |nx l=>
     obtain⟨m,hm,p⟩:=q;obtain⟨j,r,e3,q3⟩:=ih m hm l y p;exact⟨j+1,r,by unfold As;rw[e1,bind_some,j9 rfl,e2];exact e3,q3⟩
    |ct l=>
     obtain⟨m,hm,p⟩:=q;obtain⟨j,r,e3,q3⟩:=ih m hm l y p;exact⟨j+1,r,by unfold As;rw[e1,bind_some,j9 rfl,e2];exact e3,q3⟩
    |bk l=>exact⟨1,(.nx l,y),by unfold As;rw[e1,bind_some,j9 rfl,e2];rfl,q⟩
    |rt d=>exact⟨1,(.rt d,y),by unfold As;rw[e1,bind_some,j9 rfl,e2];rfl,q⟩
 obtain⟨j,⟨f,x⟩,e,q⟩:=go n ls hd h;exact⟨f,x,KO e,q⟩
def T7{k j:Nat}{i:Int}(e1:hd[k]?=some (.lst ds))(hr:Fo i)(e2:ixN ds.length i=some j)(e3:ds[j]?=some z)(q:QE z (hd.set k (.lst (ds.eraseIdx j)))):WP (FT (.mu k) [.im (.int i)] hd) QE:=⟨_,_,by rw[VN,e1];simp[hr,e2,e3],q⟩
end
end L2
namespace Bd
open PySem L2
@[reducible] noncomputable def iz:MS:=(A5 (AB 2 (mC (.int 0)))
 (A5 (Az (BE (A0 0)) (Bz 2 (Af (AF 3) (Af (AF 4) C8)))
  (A5 (AS (A6 (mOp gGt (A0 3) (A0 1)))
  (AI (A0 2))
  AM)
 (AB 2 (A0 4))))
 (AI (A0 2))))
noncomputable def HR:List D->Hd->Option (D×Hd):=mkF 2 5 iz
@[reducible] noncomputable def j4:MS:=(A5 (AB 2 (mOp gIx (A0 0) (mC (.int 0))))
 (A5 (AS (A6 (mOp gEq (A0 2) (mC (.str "steps"))))
  (AI (A7 0 HR (A1 (mOp gIx (A0 0) (mC (.int 1))) (A1 (A0 1) A4))))
  AM)
 (A5 (AS (A6 (mOp gEq (A0 2) (mC (.str "ends"))))
  (AI (mOp BY (mOp gIx (A0 0) (mC (.int 1))) (A0 1)))
  AM)
 (A5 (AB 3 (mOp BS (A0 1) (mOp gIx (A0 0) (mC (.int 1)))))
 (A5 (AS (A6 (mOp gEq (A0 2) (mC (.str "late"))))
  (AI (A0 3))
  AM)
 (A5 (AS (A6 (mOp gLe (A0 3) (mC (.int 0))))
  (AI (mC (.int 0)))
  AM)
 (A5 (AS (A6 (mOp gEq (A0 2) (mC (.str "tardy"))))
  (AI (mOp BY (mOp gIx (A0 0) (mC (.int 2))) (A0 3)))
  AM)
 (AI (mOp gIx (A0 0) (mC (.int 2)))))))))))
noncomputable def F_cost_at:List D->Hd->Option (D×Hd):=mkF 2 4 j4
structure Tp where
 cells:List Int
 nx:Int
 lf:Int
 tn:Int
noncomputable def Kt(t:Tp):List (Key×D):=[(.inr "cells",.mu 0),(.inr "next",.im (.int t.nx)),(.inr "left",.im (.int t.lf)),(.inr "turn",.im (.int t.tn))]
noncomputable def tp(t:Tp):Hd:=[.lst (t.cells.map λi=>.im (.int i)),.dic (Kt t)]
@[simp] theorem i3(t:Tp):(tp t).length=2:=rfl
@[simp] theorem ir(t:Tp)(r:Hd):(tp t++r)[0]?=some (.lst (t.cells.map λi=>.im (.int i))):=rfl
@[simp] theorem iq(t:Tp)(r:Hd):(tp t++r)[1]?=some (.dic (Kt t)):=rfl
@[simp] theorem tp0(t:Tp):(tp t)[0]?=some (.lst (t.cells.map λi=>.im (.int i))):=rfl
@[simp] theorem tp1(t:Tp):(tp t)[1]?=some (.dic (Kt t)):=rfl
section
variable(t:Tp)(v:Int)
@[simp] theorem i5:(Kt t).length=4:=rfl
end
theorem Ft:∀ns:List Int,I.pys (ns.map I.int)=ns.map PyData.int
 |[]=>by simp[I.pys]
 |n::ns=>by simp[I.pys,I.py,Ft ns]
def GN(ns:List Int):B0 (ns.map λi=>D.im (.int i))=some (ns.map I.int):=by
 have:(ns.map λi=>D.im (.int i))=(ns.map I.int).map D.im:=by rw[jx];rfl
 rw[this];exact Sx _
def eqv_nil(ns:List Int):PyData.eqv (.list (ns.map PyData.int)) (.list [])=decide (ns=[]):=by
 cases ns<;>simp[PyData.eqv,PyData.eqvAll]
def V7(ns:List Int):(PyData.list (ns.map PyData.int)).canLay0=true:=by simp[PyData.canLay0,Hz]
def OX(ns:List Int)(hd:Hd)(neg:Bool):Jz neg (.list (ns.map PyData.int)) (.list []) hd=some (.im (.bl (if neg then !decide (ns=[])else decide (ns=[]))),hd):=by
 unfold Jz;rw[j9,eqv_nil];refine⟨V7 ns,by simp[PyData.canLay0,PyData.canLayAll0],?_⟩;have:(PyData.list []).depth<=1:=by simp[PyData.depth,PyData.depthAll]
 omega
def Eg{x:Int}(m:Int)(h:0<m):0<=x%m/\x%m<m:=⟨Int.emod_nonneg _ (by omega),Int.emod_lt_of_pos _ h⟩
def ff(h:xs≠[])(n:Int):∃c,atI (xs.map λi=>D.im (.int i)) (n%(xs.length:Int))=some (.im (.int c)):=by
 have hl:0<xs.length:=FO h;obtain⟨a,b⟩:=Eg (x:=n) (xs.length:Int) (by omega);obtain⟨k,hk⟩:=Int.eq_ofNat_of_zero_le a;have hk':k<xs.length:=by omega
 exact⟨xs[k],EZ hk (by simp[hk'])⟩
def po1:Ef 10 18:=by unfold Ef;decide
inductive Cost where
 |late (d:Int)|tardy (d w:Int)|miss (d w:Int)|ends (w:Int)|steps (rows:List (Int×Int))
noncomputable def Fm(r:Int×Int):I:=.tup [.int r.1,.int r.2]
noncomputable def BP:Cost->I
 |.late d=>.tup [.str "late",.int d]
 |.tardy d w=>.tup [.str "tardy",.int d,.int w]
 |.miss d w=>.tup [.str "miss",.int d,.int w]
 |.ends w=>.tup [.str "ends",.int w]
 |.steps rows=>.tup [.str "steps",.tup (rows.map Fm)]
noncomputable def BQ(t:Int):List (Int×Int)->Int->Int
 |[],told=>told
 |(b,a)::r,told=>if t<b then told else BQ t r a
noncomputable def Cost.at:Cost->Int->Int
 |.late d,t=>t-d
 |.tardy d w,t=>if t-d<=0 then 0 else w*(t-d)
 |.miss d w,t=>if t-d<=0 then 0 else w
 |.ends w,t=>w*t
 |.steps rows,t=>BQ t rows 0
noncomputable def Cost.wok:Cost->Prop
 |.tardy _ w=>0<=w/\w<=1000000
 |.miss _ w=>0<=w/\w<=1000000
 |.ends w=>0<=w/\w<=1000000
 |_=>True
def n1:¬ (("late":Str)="steps"):=by decide +kernel
def n2:¬ (("tardy":Str)="steps"):=by decide +kernel
def n3:¬ (("miss":Str)="steps"):=by decide +kernel
def n4:¬ (("ends":Str)="steps"):=by decide +kernel
def n5:¬ (("late":Str)="ends"):=by decide +kernel
def n6:¬ (("tardy":Str)="ends"):=by decide +kernel
def n7:¬ (("miss":Str)="ends"):=by decide +kernel
def n8:¬ (("tardy":Str)="late"):=by decide +kernel
def n9:¬ (("miss":Str)="late"):=by decide +kernel
def n10:¬ (("miss":Str)="tardy"):=by decide +kernel
theorem Ij(t:Int)(z:D)(hd:Hd):∀(rows:List (Int×Int)) (told:Int) (x y:Option D),∃fl x' y',Ao (Bz 2 (Af (AF 3) (Af (AF 4) C8))) (A5 (AS (A6 (mOp gGt (A0 3) (A0 1))) (AI (A0 2)) AM) (AB 2 (A0 4))) [] ((rows.map Fm).map .im)
 [some z,some (.im (.int t)),some (.im (.int told)),x,y] hd=some (fl,hd)/\(fl=.rt (.im (.int (BQ t rows told)))∨fl=.nx [some z,some (.im (.int t)),some (.im (.int (BQ t rows told))),x',y'])
 |[],told,x,y=>⟨_,x,y,Mh,.inr rfl⟩
 |(b,a)::rows,told,x,y=>by
   by_cases h:t<b
   .refine⟨_,x,y,V1 (ls1:=[some z,some (.im (.int t)),some (.im (.int told)),some (.im (.int b)),some (.im (.int a))]) (by simp[Fm]) (v:=.im (.int told)) (hd2:=hd) ?_,.inl ?_⟩
    .simp[h]
    .simp[BQ,h]
   .obtain⟨fl,x',y',e,q⟩:=Ij t z hd rows a (some (.im (.int b))) (some (.im (.int a)));refine⟨fl,x',y',?_,?_⟩
    .rw[<- e];refine Gp (ls1:=[some z,some (.im (.int t)),some (.im (.int told)),some (.im (.int b)),some (.im (.int a))]) (by simp[Fm]) ?_ (AJ _);simp[h]
    .simpa [BQ,h]using q
def NR(rows:List (Int×Int))(t:Int):HR [.im (.tup (rows.map Fm)),.im (.int t)] []=some (.im (.int (BQ t rows 0)),[]):=by
 obtain⟨fl,x',y',e,q⟩:=Ij t (.im (.tup (rows.map Fm))) [] rows 0 none none;rcases q with rfl|rfl
 .simp[HR,mkF]at e ⊢;simp[e]
 .simp[HR,mkF]at e ⊢;simp[e]
def Pt(c:Cost)(t:Int)(h:c.wok):F_cost_at [.im (BP c),.im (.int t)] []=some (.im (.int (c.at t)),[]):=by
 cases c with
 |late d=>simp[F_cost_at,mkF,BP,n1,n5,Cost.at]
 |tardy d w=>
  have b1:∀j,E8 w j:=λj=>D9 (by obtain⟨a,b⟩:=h;omega) (by obtain⟨a,b⟩:=h;omega);by_cases q:t-d<=0
  .simp[F_cost_at,mkF,BP,n2,n6,n8,Cost.at,q]
  .simp[F_cost_at,mkF,BP,n2,n6,n8,Cost.at,q,b1]
 |miss d w=>
  by_cases q:t-d<=0
  .simp[F_cost_at,mkF,BP,n3,n7,n9,Cost.at,q]
  .simp[F_cost_at,mkF,BP,n3,n7,n9,n10,Cost.at,q]
 |ends w=>
  have b1:∀j,E8 w j:=λj=>D9 (by obtain⟨a,b⟩:=h;omega) (by obtain⟨a,b⟩:=h;omega);simp[F_cost_at,mkF,BP,n4,Cost.at,b1]
 |steps rows=>
  have:=HH (m:=A1 (mOp gIx (A0 0) (mC (.int 1))) (A1 (A0 1) A4)) (ls:=[some (.im (BP (.steps rows))),some (.im (.int t)),some (.im (.str "steps")),none]) (hd:=[]) (hd1:=[]) (F:=HR) (ds:=[.im (.tup (rows.map Fm)),.im (.int t)]) (by simp[BP]) (by simp) (NR rows t);simp[BP]at this;simp[F_cost_at,mkF,BP,Cost.at,this]
@[simp high] theorem ip(t:Tp)(x:MO)(r:Hd):(tp t++(x::r))[2]?=some x:=rfl
@[simp high] theorem io(t:Tp)(x y:MO)(r:Hd):(tp t++(x::y::r))[3]?=some y:=rfl
@[simp high] theorem il(t:Tp)(x y z:MO)(r:Hd):(tp t++(x::y::z::r))[4]?=some z:=rfl
@[simp high] theorem iU(t:Tp)(x y:MO)(r:Hd):(tp t++(x::r)).set 2 y=tp t++(y::r):=rfl
@[simp high] theorem iT(t:Tp)(x y z:MO)(r:Hd):(tp t++(x::y::r)).set 3 z=tp t++(x::z::r):=rfl
def Kc(w:Nat)(ns:List Int):Aj w (ns.map λi=>D.im (.int i))=true:=by induction ns<;>simp_all [Aj,clD]
noncomputable abbrev Ah(ks:List Nat):I:=.tup (ks.map λk:Nat=>.int k)
end Bd
namespace L2
open PySem PySem.Spec PyProof.Rows
structure OkP(w dp:Nat)(d:PyData):Prop where
 sh:d.showable=true
 lay:d.canLay0=true
 it:d.intsShort 13=true
 dp:d.depth<=dp
 wt:d.weight<=w
structure OkPs(w dp n:Nat)(ds:List PyData):Prop where
 sh:PyData.showableAll ds=true
 lay:PyData.canLayAll0 ds=true
 it:PyData.intsShortAll 13 ds=true
 dp:PyData.depthAll ds<=dp
 wt:PyData.weightAll ds<=n*(w+1)
def sm(i:Int):Prop:=-1000000000<=i/\i<=1000000000
theorem OkP.int{i:Int}(h:sm i):OkP 40 0 (.int i):=by
 have h1:i.natAbs<10^10:=by obtain⟨a,b⟩:=h;omega
 have h0:i.natAbs<2^38:=by obtain⟨a,b⟩:=h;omega
 have lg:i.natAbs.log2<38:=by
  by_cases z:i.natAbs=0
  .rw[z];decide
  .exact(log2_lt z).mpr h0
 refine⟨?_,by simp[PyData.canLay0],?_,by simp[PyData.depth],?_⟩
 .simp only[PyData.showable];exact jH (by omega)
 .simp only[PyData.intsShort,PyData.shown];refine jH ?_;have h2:=int_text_length_le10 (a:=i) (k:=10) (by decide) h1;rw[PySem.ofString_length];omega
 .simp only[PyData.weight];split<;>omega
def OkP.mono{w w' dp dp':Nat}(h:OkP w dp d)(a:w<=w')(b:dp<=dp'):OkP w' dp' d:=⟨h.sh,h.lay,h.it,jh h.dp b,jh h.wt a⟩
def OkPs.nil{w dp:Nat}:OkPs w dp 0 []:=⟨by simp[PyData.showableAll],by simp[PyData.canLayAll0],by simp[PyData.intsShortAll],by simp[PyData.depthAll],by simp[PyData.weightAll]⟩
def OkPs.cons{w dp n:Nat}(h:OkP w dp d)(t:OkPs w dp n ds):OkPs w dp (n+1) (d::ds):=by
 refine⟨by simp[PyData.showableAll,h.sh,t.sh],by simp[PyData.canLayAll0,h.lay,t.lay],by simp[PyData.intsShortAll,h.it,t.it],?_,?_⟩
 .simp only[PyData.depthAll];exact Nat.max_le.mpr ⟨h.dp,t.dp⟩
 .simp only[PyData.weightAll];have:=h.wt;have:=t.wt;rw[Nat.add_mul];omega
def OkPs.tup{w dp n:Nat}(t:OkPs w dp n ds):OkP (n*(w+1)) (dp+1) (.tuple ds):=by
 refine⟨?_,?_,?_,?_,?_⟩
 .rw[PyData.showable];exact t.sh
 .rw[PyData.canLay0];exact t.lay
 .rw[PyData.intsShort];exact t.it
 .rw[PyData.depth];have:=t.dp;omega
 .rw[PyData.weight];exact t.wt
theorem Rt{w dp:Nat}:∀{is:List I},(∀i∈is,OkP w dp i.py)->OkPs w dp is.length (I.pys is)
 |[],_=>by simp only[I.pys];exact OkPs.nil
 |i::is,h=>by simp only[I.pys,jm];exact(Rt λj hj=>h j (jq _ hj)).cons (h i jw)
def FK{w dp:Nat}(h:∀i∈is,OkP w dp i.py):OkP (is.length*(w+1)) (dp+1) (I.py (.tup is)):=by
 rw[I.py];exact(Rt h).tup
def Jn{i:Int}(h:sm i):OkP 40 0 (I.py (.int i)):=by rw[I.py];exact .int h
end L2
namespace Bd
open PySem L2
def Yh(x:Str)(h:x="late"∨x="tardy"∨x="miss"∨x="ends"∨x="steps"):OkP 40 0 (I.py (.str x)):=by
 rw[I.py];rcases h with rfl|rfl|rfl|rfl|rfl<;>exact⟨by decide +kernel,by decide +kernel,by decide +kernel,by decide +kernel,by decide +kernel⟩
def VR(ns:List Int)(lo hi:Option Int):∃cs:List Int,Bi (ns.map λn=>.im (.int n)) lo hi=cs.map λn=>.im (.int n):=⟨(ns.drop _).take _,by unfold Bi;rw[map_take,List.map_drop]⟩
noncomputable abbrev AK(ks:List Nat):List D:=ks.map λk:Nat=>D.im (.int (k:Int))
def Z2{n:Nat}{i:Int}(a:0<=i)(b:i<n):ixN n i=some i.toNat:=by unfold ixN;rw[j9 a,j9 b]
theorem J4:∀{a:List Nat} {k x:Nat},a[k]?=some x->(x::a.eraseIdx k).Perm a
 |[],k,x,h=>by simp at h
 |y::r,0,x,h=>by simp at h;subst h;exact .refl _
 |y::r,k+1,x,h=>by
  have ih:=J4 (a:=r) (k:=k) (x:=x) (by simpa using h);exact(List.Perm.swap y x _).trans (ih.cons y)
theorem KY{α β:Type}(f:α->β):∀(l:List α) (k:Nat),(l.map f).eraseIdx k=(l.eraseIdx k).map f
 |[],k=>rfl
 |y::r,0=>rfl
 |y::r,k+1=>by simp[KY f r k]
def Rj{k x:Nat}(h:a[k]?=some x):(b++[x]++a.eraseIdx k).Perm (b++a):=by
 rw[jC];exact List.Perm.append_left b (J4 h)
noncomputable def L9(p:Int×Int):I:=.tup [.int p.1,.int p.2]
def Along(seq:List Nat)(ps:List (Int×Int)):Prop:=∀p∈ps,∃i j a b:Nat,i<j/\seq[i]?=some a/\seq[j]?=some b/\p=((a:Int),(b:Int))
def Rv{i a:Nat}(h:seq[i]?=some a):atI (AK seq) (i:Int)=some (.im (.int (a:Int))):=EZ rfl (by simp[h])
def VQ(xs:List D)(k:Nat):Bi xs none (some (k:Int))=xs.take k:=by
 unfold Bi;rw[HT.sIx_none,HT.sIx_nat,Nat.sub_zero,List.drop_zero];by_cases h:k<=xs.length
 .rw[Nat.min_eq_left h]
 .rw[Nat.min_eq_right (by omega),List.take_length,jZ (by omega)]
def DH(n:Nat):AT 0 n=AK (List.range n):=by
 refine List.ext_getElem? λi=>?_;by_cases h:i<n
 .rw[J1 h];simp[h]
 .rw[List.getElem?_eq_none (by simp;omega),List.getElem?_eq_none (by simp;omega)]
theorem Along.pok{seq:List Nat}{n:Nat}(hp:seq.Perm (List.range n))(hn:n<=1000)(h:Along seq ps):∀p∈ps,pok p:=by
 intro p hp';obtain⟨i,j,a,b,_,ea,eb,rfl⟩:=h p hp';have ha:a<n:=by simpa using hp.mem_iff.mp (jt ea)
 have hb:b<n:=by simpa using hp.mem_iff.mp (jt eb)
 exact⟨by show -1000000000<=(a:Int);omega,by show(a:Int)<=1000000000;omega,by show -1000000000<=(b:Int);omega,by show(b:Int)<=1000000000;omega⟩
noncomputable abbrev intD(xs:List Int):List D:=xs.map λx=>D.im (.int x)
noncomputable abbrev EO:MS:=(AS (Ba (A6 (mOp gEq (A0 5) (A0 4))) (A6 (mOp (gIn true) (A0 6) (A0 2))))
 (A5 (Bp (mMt B5 (A0 2) (A1 (A0 6) A4)))
 (Bp (mMt B5 (A0 3) (A1 (A0 6) A4))))
  AM)
noncomputable abbrev Mq:MS:=(A5 (AB 4 (mMt HB (A0 3) A4))
 (Az (DV (A0 0)) (Bz 2 (Af (AF 5) (Af (AF 6) C8))) EO))
@[reducible] noncomputable def gV:MS:=(A5 (AB 2 (Ag (Am A4)))
 (A5 (AB 3 (Ag (Am (A1 (A0 1) A4))))
 (A5 (Cr (BD (A0 3)) Mq)
 (AI (BI Bq (DU (C9 (A0 2))))))))
noncomputable def F_reached:List D->Hd->Option (D×Hd):=mkF 2 7 gV
def SE(xs:List Int):Cf (intD xs)=some (xs.map V.int):=by
 induction xs with
 |nil=>rfl
 |cons x r ih=>simp[Cf,GF]at ih ⊢;exact ih
def V9(x:Int)(xs:List Int):inV (.int x) (xs.map V.int)=decide (x∈xs):=by
 unfold inV
 induction xs with
 |nil=>simp
 |cons y r ih=>
  simp only[je,jX,ih,jd];have:eqV (V.int y) (V.int x)=decide (x=y):=by
   unfold eqV;by_cases h:x=y
   .subst h;simp
   .have h':¬ y=x:=λz=>h z.symm;simp[h,h']
  rw[this,Bool.decide_or]
def in_ints(x:Int)(neg:Bool)(h:Aa hd d=some (intD xs)):gIn neg (.im (.int x)) d hd=some (.im (.bl (if neg then !decide (x∈xs)else decide (x∈xs))),hd):=by
 simp only[gIn,GF,bind_some,h,SE,jr,V9]
def g0(hd:Hd)(x y:MO):(hd++[x,y])[hd.length]?=some x:=by simp
def g1(hd:Hd)(x y:MO):(hd++[x,y])[hd.length+1]?=some y:=by simp
def t0(hd:Hd)(x y z:MO):(hd++[x,y]).set hd.length z=hd++[z,y]:=by simp
def t1(hd:Hd)(x y z:MO):(hd++[x,y]).set (hd.length+1) z=hd++[x,z]:=by simp
theorem Ga(P:D)(hd:Hd)(g:Gd)(G:GOk hd g)(a at_:Int):∀(qs:List (Int×Int)) (found fresh:List Int) (z5 z6:Option D),found.length+qs.length<=1000->fresh.length+qs.length<=10000->∃(new:List Int) (y5 y6:Option D),
 Ao (Bz 2 (Af (AF 5) (Af (AF 6) C8))) EO g (qs.map Ac) [some P,some (.im (.int a)),some (.mu hd.length),some (.mu (hd.length+1)),some (.im (.int at_)),z5,z6] (hd++[.lst (intD found),.lst (intD fresh)]) =
  some (.nx [some P,some (.im (.int a)),some (.mu hd.length),some (.mu (hd.length+1)),some (.im (.int at_)),y5,y6],hd++[.lst (intD (found++new)),.lst (intD (fresh++new))])/\
 new.length<=qs.length/\new.Nodup/\(∀y∈new,y∉found/\(at_,y)∈qs)/\∀y,(at_,y)∈qs->y∈found++new
 |[],found,fresh,z5,z6,_,_=>⟨[],z5,z6,by simp[Mh],by simp,.nil,λy h=>by simp at h,λy h=>by simp at h⟩
 |(u,v)::qs,found,fresh,z5,z6,hf,hr=>by
   simp only[jm]at hf hr;have gg:∀r:Hd,GOk (hd++r) g:=λr=>Z6 G r;have nm:∀z5 z6:Option D,∀h:Hd,Bz 2 (Af (AF 5) (Af (AF 6) C8)) (Ac (u,v)) [some P,some (.im (.int a)),some (.mu hd.length),some (.mu (hd.length+1)),some (.im (.int at_)),z5,z6] h=some [some P,some (.im (.int a)),some (.mu hd.length),some (.mu (hd.length+1)),some (.im (.int at_)),some (.im (.int u)),some (.im (.int v))]:=λz5 z6 h=>by simp[Ac]
   have sv:Aa (hd++[.lst (intD found),.lst (intD fresh)]) (.mu hd.length)=some (intD found):=by rw[Ii,G5,g0]
   have gi:=in_ints v true sv;by_cases c:u=at_/\v∉found
   .obtain⟨new,y5,y6,q,l,nd,fr,al⟩:=Ga P hd g G a at_ qs (found++[v]) (fresh++[v]) (some (.im (.int u))) (some (.im (.int v))) (by simp;omega) (by simp;omega);refine⟨v::new,y5,y6,?_,by simp;omega,?_,λy hy=>?_,λy hy=>?_⟩
    .have e1:found++v::new=found++[v]++new:=by simp
     have e2:fresh++v::new=fresh++[v]++new:=by simp
     rw[e1,e2,<- q,je];have f1:DN found.length:=Bw (by omega);have f2:DN fresh.length:=Bw (by omega);refine Gp (nm _ _ _) ?_ (gg _);simp only[EO,N2,N4,He,Po,Dz,List.getElem?_cons_zero,List.getElem?_cons_succ,bind_some,Jy,N3,c.1,decide_true,jj,Bool.false_eq_true,jB,gi,c.2,decide_false,Bool.not_false,JI,ZD,Pp,G5,g0,g1,OP,N1,SQ,ji,f1,f2,t0,t1,List.map_append,je,jy]
    .refine nodup_cons.mpr ⟨λh=>(fr v h).1 (by simp),nd⟩
    .rcases mem_cons.mp hy with rfl|hy
     .exact⟨c.2,by rw[c.1];exact jw⟩
     .have:=fr y hy;exact⟨λh=>this.1 (by simp[h]),jq _ this.2⟩
    .rcases mem_cons.mp hy with h|h
     .cases h;simp
     .have:=al y h;simp at this ⊢;rcases this with h|h|h
      .exact .inl h
      .exact .inr (.inl h)
      .exact .inr (.inr h)
   .obtain⟨new,y5,y6,q,l,nd,fr,al⟩:=Ga P hd g G a at_ qs found fresh (some (.im (.int u))) (some (.im (.int v))) (by omega) (by omega);refine⟨new,y5,y6,?_,by simp;omega,nd,λy hy=>⟨(fr y hy).1,jq _ (fr y hy).2⟩,λy hy=>?_⟩
    .rw[<- q,je];refine Gp (nm _ _ _) ?_ (gg _);by_cases c1:u=at_
     .have c2:v∈found:=Classical.not_not.mp λh=>c ⟨c1,h⟩;simp only[EO,N2,N4,He,Po,Dz,List.getElem?_cons_zero,List.getElem?_cons_succ,bind_some,Jy,N3,c1,decide_true,jj,Bool.false_eq_true,jB,gi,c2,Bool.not_true,OO]
     .simp only[EO,N2,N4,He,Po,Dz,List.getElem?_cons_zero,List.getElem?_cons_succ,bind_some,Jy,N3,c1,decide_false,jj,Bool.false_eq_true,jB,OO]
    .rcases mem_cons.mp hy with h|h
     .cases h;have c2:v∈found:=Classical.not_not.mp λh=>c ⟨rfl,h⟩;simp[c2]
     .exact al y h
end Bd
namespace L2
open PySem PySem.Spec PyProof.Rows
def CU(p:Key×D)(r:List (Key×D))(k:Key):BH (p::r) k=if p.1=k then some p.2 else BH r k:=by
 unfold BH;rw[jJ];by_cases e:p.1=k<;>simp[e]
theorem LY(k:Key):∀kvs:List (Key×D),(kvs.any λkv=>decide (kv.1=k))=(BH kvs k).isSome
 |[]=>rfl
 |p::r=>by
  rw[jX,CU];by_cases e:p.1=k
  .simp[e]
  .rw[ja e,jO e,Bool.false_or];exact LY k r
theorem LX(k j:Key)(y:D):∀kvs:List (Key×D),BH (kvs.map λkv=>if kv.1=k then(kv.1,y)else kv) j=(BH kvs j).map λx=>if j=k then y else x
 |[]=>rfl
 |p::r=>by
  have ih:=LX k j y r;rw[je,CU,CU,ih];by_cases h:p.1=k
  .rw[j9 h];by_cases e:p.1=j
   .have:j=k:=e.symm.trans h;simp[e,this]
   .simp[e]
  .rw[ja h];by_cases e:p.1=j
   .have:¬ j=k:=λz=>h (e.trans z);simp[e,this]
   .simp[e]
theorem KB(k j:Key)(y:D):∀kvs:List (Key×D),BH kvs k=none->BH (kvs++[(k,y)]) j=if j=k then some y else BH kvs j
 |[],_=>by
  rw[jT,CU];by_cases e:k=j
  .subst e;simp
  .have:¬ j=k:=λz=>e z.symm;simp[e,this]
 |p::r,hn=>by
  rw[CU]at hn;have hk:¬ p.1=k:=λz=>by rw[j9 z]at hn;cases hn
  rw[ja hk]at hn;have ih:=KB k j y r hn;rw[jD,CU,CU,ih];by_cases e:p.1=j
  .have:¬ j=k:=λz=>hk (e.trans z);simp[e,this]
  .simp[e]
def TL(kvs:List (Key×D))(k j:Key)(y:D):BH (Cp kvs k y) j=if j=k then some y else BH kvs j:=by
 unfold Cp;rw[LY];by_cases a:(BH kvs k).isSome=true
 .rw[j9 a,LX];by_cases e:j=k
  .subst e;obtain⟨x,hx⟩:=isSome_iff_exists.mp a;simp[hx]
  .simp[e]
 .rw[ja a];exact KB k j y kvs (by simpa using a)
def IJ(kvs:List (Key×D))(k:Key)(y:D):(Cp kvs k y).length<=kvs.length+1:=by
 unfold Cp;split<;>simp
def DicI(kvs:List (Key×D))(g:Nat->Option Int):Prop:=∀k:Nat,BH kvs (.inl (k:Int))=(g k).map λv=>.im (.int v)
def DicI.nil:DicI [] λ_=>none:=λk=>rfl
def DicI.put{g:Nat->Option Int}(h:DicI kvs g)(k:Nat)(v:Int):DicI (Cp kvs (.inl (k:Int)) (.im (.int v))) λj=>if j=k then some v else g j:=λj=>by
 rw[TL];by_cases e:j=k
 .subst e;simp
 .have:¬ (Sum.inl (j:Int):Key)=Sum.inl (k:Int):=λz=>e (by have:=Sum.inl.inj z;omega);rw[ja this];dsimp only;rw[ja e];exact h j
section
variable{ls:Ls}{hd:Hd}{QE:D->Hd->Prop}{QI:List D×Gd->Hd->Prop}{ma:ME}{n:MG}{ta:MT}{mi:MI}{m:MA}
def EJ{g:Nat->Option Int}{k:Nat}{v:Int}(e1:C3 hd d=some kvs)(h:DicI kvs g)(e:g k=some v)(q:QE (.im (.int v)) hd):WP (DM d (.im (.int (k:Int))) hd) QE:=
 Wb e1 rfl (by rw[h k,e];rfl) q
def HK{g:Nat->Option Int}{k:Nat}{neg:Bool}(e1:C3 hd d=some kvs)(h:DicI kvs g)(q:QE (.im (.bl (if neg then !(g k).isSome else(g k).isSome))) hd):WP (DX neg (.im (.int (k:Int))) d hd) QE:=
 Zb e1 rfl (by rw[h k,isSome_map];exact q)
def LM{x:Int}{neg:Bool}(e1:Aa hd d=some (Bd.intD xs))(q:QE (.im (.bl (if neg then !decide (x∈xs)else decide (x∈xs)))) hd):WP (gIn neg (.im (.int x)) d hd) QE:=WP.eq (Bd.in_ints x neg e1) q
def Wj{mm:Ls->Hd->Option (List (Key×D)×Hd)}(h:WP (mm ls hd) λkvs x=>QE (.mu x.length) (x++[.dic kvs])):WE (JA mm) ls hd QE:=WP.bind (h.mono λ_ _ q=>WP.some q)
def T9{α:Type}{k:Nat}{ix:List Nat}{a0:α}{me:MM α}{Q:α->Hd->Prop}(h:WI mi ls hd λp x=>WP (mGo n ta me p.2 p.1 (D1 k ix ls) x a0) Q):WP (Gn k ix mi n ta a0 me ls hd) Q:=WP.bind (h.mono λ_ _ q=>q)
theorem LN{α:Type}{me:MM α}{g:Gd}{Q:α->Hd->Prop}(P:List D->α->Ls->Hd->Prop):∀{ds:List D} {a:α} {ls:Ls} {hd:Hd},P ds a ls hd ->
 (∀d r a ls hd,P (d::r) a ls hd->∃ls1,n d ls hd=some ls1/\WT ta ls1 hd λc x=>if c=true then WP (me ls1 x a) λa' y=>GOk y g/\P r a' ls1 y else GOk x g/\P r a ls1 x) ->
 (∀a ls hd,P [] a ls hd->Q a hd)->WP (mGo n ta me g ds ls hd a) Q
 |[],a,ls,hd,h,k,z=>⟨_,_,by unfold mGo;rfl,z _ _ _ h⟩
 |d::r,a,ls,hd,h,k,z=>by
  obtain⟨ls1,e1,c,x,e2,q⟩:=k d r a ls hd h;unfold mGo;rw[e1,bind_some,e2,bind_some];cases c with
  |true=>
   rw[j9 rfl]at q ⊢;obtain⟨a',y,e3,g3,p3⟩:=q;rw[e3,bind_some];dsimp only;rw[j9 g3];exact LN P p3 k z
  |false=>
   rw[ja Bool.false_ne_true]at q ⊢;dsimp only;rw[j9 q.1];exact LN P q.2 k z
def Zd{a:List (Key×D)}{Q:List (Key×D)->Hd->Prop}(h:WE mk ls hd λd x=>WE mv ls x λe y=>∃k,CA d=some k/\DN a.length/\Q (Cp a k e) y):WP (HU mk mv ls hd a) Q:=by
 obtain⟨d,x,e1,e,y,e2,k,e3,c,q⟩:=h;exact⟨_,_,by simp only[HU,e1,bind_some,e2,e3,c,jj],q⟩
def eF{QA:List D->Hd->Prop}(P:List D->List D->Ls->Hd->Prop)(h:P ds [] ls hd)
 (k:∀d r es ls hd,P (d::r) es ls hd->∃ls1,n d ls hd=some ls1/\WT ta ls1 hd λc x=>if c=true then WE ma ls1 x λz y=>GOk y g/\P r (es++[z]) ls1 y else GOk x g/\P r es ls1 x)
 (z:∀es ls hd,P [] es ls hd->QA es hd):WP (Av n ta ma g ds ls hd) QA:=
 (LR P h k).mono λzs x ⟨ls',q⟩=>z zs ls' x (by simpa using q)
def BL{α:Type}{g:Gd}{QA:List D->Hd->Prop}(inj:α->D)(f:α->Option D)(L:D->Ls->Prop)(l0:Ls){xs:List α}{hd:Hd}(hg:GOk hd g)
 (k:∀x∈xs,∀ls,ls=l0∨(∃d,L d ls)->∃ls1,n (inj x) ls hd=some ls1/\L (inj x) ls1/\WT ta ls1 hd λc y=>y=hd/\if c=true then ∃z,f x=some z/\WE ma ls1 hd λe y=>y=hd/\e=z else f x=none)
 (q:QA (xs.filterMap f) hd):WP (Av n ta ma g (xs.map inj) l0 hd) QA:=by
 have go:∀(xs':List α) (ls:Ls),(∀x∈xs',x∈xs)->(ls=l0∨∃d,L d ls)->Av n ta ma g (xs'.map inj) ls hd=some (xs'.filterMap f,hd):=by
  intro xs'
  induction xs' with
  |nil=>intro ls _ _;unfold Av;rfl
  |cons x r ih=>
   intro ls hs hl;obtain⟨ls1,e1,L1,c,y,e2,rfl,q⟩:=k x (hs x jw) ls hl;have ih:=ih ls1 (λz hz=>hs z (jq _ hz)) (.inr ⟨_,L1⟩);rw[je];unfold Av;rw[e1,bind_some,e2,bind_some];cases c with
   |true=>
    rw[j9 rfl]at q;obtain⟨z,ez,e,y,e3,rfl,rfl⟩:=q;rw[j9 rfl,e3,bind_some];dsimp only;rw[j9 hg,ih,jI,ez];rfl
   |false=>
    rw[ja Bool.false_ne_true]at q;rw[ja Bool.false_ne_true];dsimp only;rw[j9 hg,ih,jI,q]
 exact⟨_,_,go xs l0 (λ_ h=>h) (.inl rfl),q⟩
end
mutual
noncomputable def shD(k:Nat):D->D
 |.im i=>.im i
 |.mu n=>.mu (n+k)
 |.tm ds=>.tm (DR k ds)
 |.ro ns=>.ro ns
 |.op nm fs ds=>.op nm fs (DR k ds)
noncomputable def DR(k:Nat):List D->List D
 |[]=>[]
 |d::ds=>shD k d::DR k ds
end
noncomputable def Lv(k:Nat):List (Key×D)->List (Key×D)
 |[]=>[]
 |d::ds=>(d.1,shD k d.2)::Lv k ds
noncomputable def shO(k:Nat):MO->MO
 |.lst ds=>.lst (DR k ds)
 |.dic kvs=>.dic (Lv k kvs)
section
variable{K:Frag}
mutual
theorem RD.shift(ρ1:List Addr):∀{d:D} {v:V},RD K ρ H d v->RD K (ρ1++ρ) H (shD ρ1.length d) v
 |.im i,v,h=>by simp only[RD,shD]at h ⊢;exact h
 |.mu n,v,h=>by
  simp only[RD,shD]at h ⊢;obtain⟨a,e,q⟩:=h;exact⟨a,by rw[List.getElem?_append_right (by omega),Nat.add_sub_cancel];exact e,q⟩
 |.tm ds,v,h=>by
  simp only[RD,shD]at h ⊢;obtain⟨a,xs,e,q,z⟩:=h;exact⟨a,xs,e,q,RDs.shift ρ1 z⟩
 |.ro ns,v,h=>by simp only[RD,shD]at h ⊢;exact h
 |.op nm fs ds,v,h=>by
  simp only[RD,shD]at h ⊢;obtain⟨a,xs,e,q,z⟩:=h;exact⟨a,xs,e,q,RDs.shift ρ1 z⟩
theorem RDs.shift(ρ1:List Addr):∀{d:List D} {v:List V},RDs K ρ H d v->RDs K (ρ1++ρ) H (DR ρ1.length d) v
 |[],v,h=>by simpa only[RDs,DR]using h
 |d::ds,v,h=>by
  simp only[RDs,DR]at h ⊢;obtain⟨x,r',e,q,z⟩:=h;exact⟨x,r',e,q.shift ρ1,RDs.shift ρ1 z⟩
end
theorem RKs.shift(ρ1:List Addr):∀{d:List (Key×D)} {v:List (Key×V)},RKs K ρ H d v->RKs K (ρ1++ρ) H (Lv ρ1.length d) v
 |[],v,h=>by simpa only[RKs,Lv]using h
 |d::ds,v,h=>by
  simp only[RKs,Lv]at h ⊢;obtain⟨x,r',e,q1,q,z⟩:=h;exact⟨x,r',e,q1,q.shift ρ1,RKs.shift ρ1 z⟩
theorem RC.shift(ρ1:List Addr)(h:RC K ρ H o ho):RC K (ρ1++ρ) H (shO ρ1.length o) ho:=by
 cases o with
 |lst ds=>obtain⟨xs,e,q⟩:=h;exact⟨xs,e,q.shift ρ1⟩
 |dic ds=>obtain⟨xs,e,q⟩:=h;exact⟨xs,e,q.shift ρ1⟩
def RH.join(R1:RH K ρ H h1)(x:Ext [] H ρ' H')(R2:RH K ρ' H' h2):RH K (ρ++ρ') H' (h1++h2.map (shO ρ.length))/\Ext ρ H (ρ++ρ') H':=by
 obtain⟨r,er,fr⟩:=x.pre;have er:ρ'=r:=by simpa using er
 subst er;have kp:∀b o,H b=some o->(∀ps,o≠.tbl ps)->H' b=some o:=λb o e t=>x.keep b o e (by simp) t;have gr:Grow H H':=⟨λb o s e=>kp b _ e (Qg s)⟩
 refine⟨⟨by simp[R1.len,R2.len],?_,R2.tabs,λn o a e1 e2=>?_⟩,⟨⟨ρ',rfl,fr⟩,λb o e _ t=>kp b o e t,x.tab⟩⟩
 .rw[nodup_append];refine⟨R1.nd,R2.nd,λa ha b hb z=>?_⟩;subst z;exact R1.out (fr a hb) ha
 .by_cases hn:n<ρ.length
  .rw[List.getElem?_append_left hn]at e2;rw[List.getElem?_append_left (by rw[<- R1.len];exact hn)]at e1;obtain⟨ho,q1,q2⟩:=R1.ob n o a e1 e2;exact⟨ho,kp a ho q1 (λps z=>by rcases R1.mut (jt e2)with⟨y,w⟩|⟨y,w⟩<;>(rw[q1,z]at w;cases w)),q2.mono gr ρ'⟩
  .have hn':ρ.length<=n:=not_lt.mp hn;rw[List.getElem?_append_right hn']at e2;rw[List.getElem?_append_right (by rw[<- R1.len];exact hn'),List.getElem?_map,<- R1.len]at e1;cases q:h2[n-ρ.length]? with
   |none=>rw[q]at e1;cases e1
   |some o2=>
    rw[q]at e1;cases e1;obtain⟨ho,q1,q2⟩:=R2.ob _ o2 a q e2;exact⟨ho,q1,q2.shift ρ⟩
noncomputable def Cs(F:List D->Hd->Option (D×Hd))(ma:MA):ME:=λls hd=>(ma ls hd).bind λp=>if Aj 0 p.1=true then(F p.1 []).map λr=>(shD p.2.length r.1,p.2++r.2.map (shO p.2.length))else none
def U7{k:Nat}{F:List D->Hd->Option (D×Hd)}(h:RA K t m)(hk:∀ds hd z,F ds hd=some z->ds.length=k):RE K (Bx (spF K k F) [] E0 t) (Cs F m):=by
 and_intros;obtain⟨⟨d1,h1⟩,e1,hm⟩:=j6 hm;dsimp only at hm;split at hm
 .next c1=>
  obtain⟨⟨d2,h2⟩,e2,e3⟩:=j7 hm;cases e3;refine h ρ σ H hd ls _ d1 h1 hR hL e1 λρ1 H1 v1 x1 R1 r1=>?_;rw[ju];have R0:RH K [] H1 []:=by simpa using R1.take 0 (by simp)
  have r0:RDs K [] H1 d1 v1:=by simpa using r1.take' 0 c1
  refine⟨by rw[r1.len];exact hk _ _ _ e2,[],[],d1,d2,h2,R0,r0,e2,λρ' H' v x2 R2 r2=>?_⟩;obtain⟨R3,x3⟩:=R1.join x2 R2;rw[R1.len]at R3;refine hQ (ρ1++ρ') H' v (x1.trans R1 x3) R3 ?_;have:=r2.shift ρ1;rw[R1.len]at this;exact this
 .cases hm
def UT(K:Frag){X:Cx}{j k:Nat}{n:Nat}{F:List D->Hd->Option (D×Hd)}{st:Stmt}{p:Pos}(G:FnOk X.prog X.w X.K X.mg X.base CX0 j f fd ps (spF K n F))(hr:Room k X.A)(DA:DefAt X.K X.mg x st f fd ps)(ha:QA K X (e::es) t m)(hF:∀ds hd z,F ds hd=some z->ds.length=n)
 (hjk:j<=k:=by decide) (hg:Gl X x:=by rfl) (hdb:(x==("__debug__":Str))=false:=by decide) (he:starEach (e::es) X.env=(false,eval e X.env)::starEach es X.env:=by rfl) (hpl:(backTo pos (starEach es X.env)).any (·.1)=false:=by rfl):
 QE K X (.Call (.Name x p) (e::es) [] pos) (Bx (spF K n F) [] E0 t) (Cs F m):=⟨PY G hr DA ha.p hjk hg hdb he hpl,U7 ha.r hF⟩
theorem RDs.rep(r:RDs K ρ H ds xs):∀n,RDs K ρ H (List.replicate n ds).flatten (List.replicate n xs).flatten
 |0=>by simp[RDs]
 |n+1=>by
  simp only[k9,flatten_cons];exact r.app (r.rep n)
end
section
variable{mb:ME}{QE:D->Hd->Prop}{QA:List D->Hd->Prop}
def TJ{F:List D->Hd->Option (D×Hd)}(h:WA m ls hd λds x=>Aj 0 ds=true/\WF F ds [] λd y=>QE (shD x.length d) (x++y.map (shO x.length))):WE (Cs F m) ls hd QE:=by
 obtain⟨ds,x,e,c,d,y,e2,q⟩:=h;exact⟨_,_,by simp only[Cs,e,bind_some,c,jj,e2,jr],q⟩
end
end L2
namespace L2
open PySem PySem.Spec PyProof.Rows
noncomputable abbrev blD(bs:List Bool):List D:=bs.map λb=>D.im (.bl b)
inductive Ty where
 |int|bool|str|tuple|list
 deriving DecidableEq
noncomputable def Ty.nm:Ty->String
 |.int=>"int" | .bool=>"bool" | .str=>"str" | .tuple=>"tuple" | .list=>"list"
def IsT(K:Frag)(T:Ty)(H:Hp)(v:V)(b:Bool):Prop:=
 (v=.non/\b=false)∨(∃x,v=.bl x/\b=decide (T=.int∨T=.bool))∨(∃i,v=.int i/\b=decide (T=.int))∨(∃x,v=.str x/\b=decide (T=.str)) ∨
 (∃a xs,v=.ref a/\SqL K H a xs/\b=decide (T=.list))∨∃a xs,v=.ref a/\SqT K H a xs/\b=decide (T=.tuple)
section
variable{E:Value->Shared->Prop}{Q:Value->Shared->Prop}
def dE{T:Ty}{b:Bool}(I:Inv X O σ H s)(r:RelV v u)(h:IsT X.K T H v b)(q:∀tk,Q (.bool b) { s with toks:=tk }):wpAny (model X.prog X.w) A (call (.builtin "isinstance") [u,.type T.nm]) Q E s:=by
 have q0:=q s.toks;have q1:=q (s.toks+1);rcases h with⟨rfl,rfl⟩|⟨x,rfl,rfl⟩|⟨i,rfl,rfl⟩|⟨x,rfl,rfl⟩|⟨a,xs,rfl,hl,rfl⟩|⟨a,xs,rfl,ht,rfl⟩
 .cases(show u=Value.none from r);cases T
  .exact IsiPair.NoneType_int q1
  .exact IsiPair.NoneType_bool q1
  .exact IsiPair.NoneType_str q1
  .exact IsiPair.NoneType_tuple q1
  .exact IsiPair.NoneType_list q1
 .cases(show u=Value.bool x from r);cases T
  .first|exact IsiPair.bool_int q0|exact IsiPair.bool_int q1
  .first|exact IsiPair.bool_bool q0|exact IsiPair.bool_bool q1
  .exact IsiPair.bool_str q1
  .exact IsiPair.bool_tuple q1
  .exact IsiPair.bool_list q1
 .obtain⟨t,rfl⟩:=(show ∃t,u=Value.int i t from r)
  cases T
  .exact IsiPair.int_int q0
  .exact IsiPair.int_bool q1
  .exact IsiPair.int_str q1
  .exact IsiPair.int_tuple q1
  .exact IsiPair.int_list q1
 .obtain⟨t,rfl⟩:=(show ∃t,u=Value.str x t from r)
  cases T
  .exact IsiPair.str_int q1
  .exact IsiPair.str_bool q1
  .exact IsiPair.str_str q0
  .exact IsiPair.str_tuple q1
  .exact IsiPair.str_list q1
 .cases(show u=Value.ref a from r);obtain⟨its,_,⟨o,n,e,c,_,_⟩,_⟩:=I.list hl;cases T
  .exact IsiPair.list_int e c q1
  .exact IsiPair.list_bool e c q1
  .exact IsiPair.list_str e c q1
  .exact IsiPair.list_tuple e c q1
  .exact IsiPair.list_list e c q0
 .cases(show u=Value.ref a from r);obtain⟨its,_,⟨o,e,c,_⟩,_⟩:=I.tuple ht;cases T
  .exact IsiPair.tuple_int e c q1
  .exact IsiPair.tuple_bool e c q1
  .exact IsiPair.tuple_str e c q1
  .exact IsiPair.tuple_tuple e c q0
  .exact IsiPair.tuple_list e c q1
end
noncomputable def TX(K:Frag)(T:Ty)(te:TE):TE:=λσ H Q=>te σ H λv H1=>∃b,IsT K T H1 v b/\Q (.bl b) H1
def cC(K:Frag){X:Cx}(T:Ty)(hm:X.mg "isinstance"=none)(hmT:X.mg x=none)(hvT:bootBuiltins x=some (.type T.nm))(he:PE X e te)
 (hv:bootBuiltins "isinstance"=some (.builtin "isinstance")) (hK:X.K=K) (hg:Gl X "isinstance") (hgT:Gl X x) (hnT:x≠"__name__") (hdT:(x==("__debug__":Str))=false)
 (hs:starEach [e,.Name x px] X.env=[(false,eval e X.env),(false,eval (.Name x px) X.env)]) (hs2:starEach [.Name x px] X.env=[(false,eval (.Name x px) X.env)]):PE X (.Call (.Name "isinstance" p) [e,.Name x px] [] pos) (TX K T te):=by
 subst hK;intro O s σ H Q I h;refine kr (EV I hg hm hv ?_);have go:wpAny (model X.prog X.w) X.A (spliced (backTo pos (starEach [e,.Name x px] X.env))) (λvs s₁=>wpAny (model X.prog X.w) X.A (call (.builtin "isinstance") vs) (EP X O σ Q) X.xe s₁) X.xe s:=by
  rw[hs];show wpAny _ _ (spliced ((false,eval e X.env)::backTo pos [(false,eval (.Name x px) X.env)])) _ _ s;refine Calls.spliced_cons (thn (he O s σ H _ I h) λu s1 ⟨v,H1,I1,r1,b,ib,q1⟩=>?_);show wpAny _ _ (spliced ((false,eval (.Name x px) X.env)::backTo pos [])) _ _ s1;refine Calls.spliced_cons (EV I1 hgT hmT hvT ?_ hnT hdT);refine Calls.spliced_nil ?_;exact dE I1 r1 ib λtk=>⟨.bl b,H1,I1.tok _,rfl,q1⟩
 exact PyProof.Rows.callWith_builtin1 go (by rw[hs,hs2]) (by rw[hs2];rfl)
section
variable{K:Frag}
noncomputable def isD(T:Ty)(hd:Hd):D->Option Bool
 |.im .non=>some false
 |.im (.bl _)=>some (decide (T=.int∨T=.bool))
 |.im (.int _)=>some (decide (T=.int))
 |.im (.str _)=>some (decide (T=.str))
 |.im (.tup _)=>some (decide (T=.tuple))
 |.tm _=>some (decide (T=.tuple))
 |.ro _=>some (decide (T=.list))
 |.op _ _ _=>none
 |.mu n=>match hd[n]? with
  |some (.lst _)=>some (decide (T=.list))
  |_=>none
def dF{T:Ty}{b:Bool}(hR:RH K ρ H hd)(h:RD K ρ H d v)(e:isD T hd d=some b):IsT K T H v b:=by
 cases d with
 |im i=>
  cases i with
  |non=>simp only[RD,RI]at h;subst h;simp only[isD,Option.some.injEq]at e;exact .inl ⟨rfl,e.symm⟩
  |bl c=>simp only[RD,RI]at h;subst h;simp only[isD,Option.some.injEq]at e;exact .inr (.inl ⟨c,rfl,e.symm⟩)
  |int c=>simp only[RD,RI]at h;subst h;simp only[isD,Option.some.injEq]at e;exact .inr (.inr (.inl ⟨c,rfl,e.symm⟩))
  |str c=>simp only[RD,RI]at h;subst h;simp only[isD,Option.some.injEq]at e;exact .inr (.inr (.inr (.inl ⟨c,rfl,e.symm⟩)))
  |tup is=>
   obtain⟨a,xs,rfl,q,r⟩:=h.tup (ds:=is.map .im) rfl;simp only[isD,Option.some.injEq]at e;exact .inr (.inr (.inr (.inr (.inr ⟨a,xs,rfl,q,e.symm⟩))))
 |tm ds=>
  obtain⟨a,xs,rfl,q,r⟩:=h.tup (ds:=ds) rfl;simp only[isD,Option.some.injEq]at e;exact .inr (.inr (.inr (.inr (.inr ⟨a,xs,rfl,q,e.symm⟩))))
 |ro ns=>
  obtain⟨a,xs,rfl,q,r⟩:=h.lst hR (hd:=hd) (ds:=ns.map λn=>.im (.int n)) rfl;simp only[isD,Option.some.injEq]at e;exact .inr (.inr (.inr (.inr (.inl ⟨a,xs,rfl,q,e.symm⟩))))
 |op _ _ _=>simp[isD]at e
 |mu n=>
  simp only[isD]at e;split at e
  .next q=>
   cases e;simp only[RD]at h;obtain⟨a,hn,rfl⟩:=h;obtain⟨xs,e1,e2⟩:=hR.lst hn q;exact .inr (.inr (.inr (.inr (.inl ⟨a,xs,rfl,SqL.of e1,rfl⟩))))
  .cases e
noncomputable def C1(T:Ty)(ma:ME):ME:=λls hd=>(ma ls hd).bind λp=>(isD T p.2 p.1).map λb=>(.im (.bl b),p.2)
def aS{T:Ty}(h:RE K te me):RE K (TX K T te) (C1 T me):=by
 and_intros;obtain⟨⟨d1,h1⟩,e1,hm⟩:=j6 hm;obtain⟨b,e2,e3⟩:=j7 hm;cases e3;exact h ρ σ H hd ls _ d1 _ hR hL e1 λρ1 H1 v x1 R1 r1=>⟨b,dF R1 r1 e2,hQ ρ1 H1 _ x1 R1 (by simp[RD,RI])⟩
def JQ:∀T:Ty,bootBuiltins T.nm=some (.type T.nm)
 |.int=>by decide +kernel
 |.bool=>by decide +kernel
 |.str=>by decide +kernel
 |.tuple=>by decide +kernel
 |.list=>by decide +kernel
def MU(K:Frag){X:Cx}(T:Ty){p px pos:Pos}(hm:X.mg "isinstance"=none)(hmT:X.mg x=none)(he:QE K X e te me)(hx:bootBuiltins x=some (.type T.nm):=by first|exact JQ .int|exact JQ .bool|exact JQ .str|exact JQ .tuple|exact JQ .list)(hK:X.K=K:=by rfl)(hg:Gl X "isinstance":=by rfl)(hgT:Gl X x:=by rfl)
 (hnT:x≠"__name__":=by decide) (hdT:(x==("__debug__":Str))=false:=by decide)
 (hs:starEach [e,.Name x px] X.env=[(false,eval e X.env),(false,eval (.Name x px) X.env)]:=by rfl) (hs2:starEach [.Name x px] X.env=[(false,eval (.Name x px) X.env)]:=by rfl):QE K X (.Call (.Name "isinstance" p) [e,.Name x px] [] pos) (TX K T te) (C1 T me):=
 ⟨cC K T hm hmT hx he.p Ks hK hg hgT hnT hdT hs hs2,aS he.r⟩
end
section
variable{mo mi me:ME}{QE:D->Hd->Prop}{QS:Fl->Hd->Prop}
def DF{T:Ty}(h:WE ma ls hd λd x=>∃b,isD T x d=some b/\QE (.im (.bl b)) x):WE (C1 T ma) ls hd QE:=by
 obtain⟨d,x,e,b,e2,q⟩:=h;exact⟨_,_,by simp only[C1,e,bind_some,e2,jr],q⟩
end
def K6:bootBuiltins "enumerate"=some (.type "enumerate"):=by decide +kernel
section
variable{K:Frag}
noncomputable def G0(ma:MI):MI:=λls hd=>(ma ls hd).map λp=>((p.1.1.zipIdx.map λq=>AO [.im (.int (q.2:Int)),q.1],p.1.2),p.2)
def Nk{QI:List D×Gd->Hd->Prop}(h:WI ma ls hd λp x=>QI (p.1.zipIdx.map λq=>AO [.im (.int (q.2:Int)),q.1],p.2) x):WI (G0 ma) ls hd QI:=by
 obtain⟨p,x,e,q⟩:=h;exact⟨_,_,by simp only[G0,e,jr],q⟩
end
end L2
namespace HT
open PySem PySem.Spec PyProof.Rows
section
variable{E:Value->Shared->Prop}{s:Shared}
def getItem_tuple_whole{lo:Option Int}{Q:Value->Shared->Prop}(ht:IsTup s.heap t items)(hs:s.heap.IsSliceOf sl vl vu .none)(pl:IsPart vl lo)(pu:IsPart vu hi)
 (hw:sIx items.size 0 lo=0/\sIx items.size items.size hi=items.size) (h:Q (.ref t) s):wpAny (model prog w) A (getItem (.ref t) (.ref sl)) Q E s:=by
 obtain⟨os,hos,hcs,hds⟩:=id hs;have hTs:s.TypeIs (.ref sl) "slice":=⟨os,hos,hcs⟩
 unfold getItem
 try with_reducible refine jE ?_
 first|refine j8 (jb ?_)|skip
 refine j8 (wpAny_sequenceKey ht.typeIs (by decide) ?_);refine j8 (kC (name:=Str.ofString "__getitem__") ht.typeIs PyProof.Rows.slot_tuple_getitem
  (ky PyProof.Rows.slot_tuple_getitem ht.typeIs entry_tuple_getitem ?_ (args_tuple_getitem _ _)))
 show wpAny _ _ (Builtin.Tuple.tupleItemsOf (.ref t) >>= _) _ _ s;refine j8 (tupleItemsOf_ ht ?_);refine j8 (wpAny_typeOf hTs ?_);rw[j9 (by decide)];refine j8 (EN hs pl pu ?_);have hno:(((sIx items.size 0 lo:Nat):Int)==0&&(1:Int)==1&&(sIx items.size items.size hi-sIx items.size 0 lo)==items.size)=true:=by
  rw[hw.1,hw.2];simp
 show wpAny _ _ (if(((sIx items.size 0 lo:Nat):Int)==0&&(1:Int)==1&&(sIx items.size items.size hi-sIx items.size 0 lo)==items.size)=true then _ else _) _ _ s;rw[j9 hno];refine j8 ?_;unfold Builtin.Tuple.tupleIsExact;refine j8 (wpAny_typeOf ht.typeIs (jb ?_));rw[j9 (by decide)];exact j8 (wpAny_rule (jb ⟨_,rfl,jb h⟩))
end
end HT
namespace L2
open PySem PySem.Spec PyProof.Rows
section
variable{X:Cx}
def UB(K:Frag):V->Option Int->Option Int->Hp->VK->Prop:=λx lo hi H Q=>ak K x lo hi H Q∨∃a xs,x=.ref a/\SqT K H a xs/\(HT.sIx xs.length 0 lo=0/\HT.sIx xs.length xs.length hi=xs.length)/\Q (.ref a) H
def Wr(K:Frag)(hK:X.K=K:=by rfl):SlR X (UB K):=by
 subst hK;intro O s σ H x v vl vu lo hi sl Q I rx hs pl pu h;rcases h with h|⟨a,xs,rfl,hx,hw,q⟩
 .exact Zo O s σ H x v vl vu lo hi sl Q I rx hs pl pu h
 cases rx;obtain⟨its,r,ht,hz⟩:=I.tuple hx;have hlen:its.toArray.size=xs.length:=by rw[jf];exact r.length.symm
 refine⟨"tuple",_,PyProof.Rows.slot_tuple_getitem.lookup,ht.typeIs,?_⟩;exact HT.getItem_tuple_whole ht hs pl pu (by rw[hlen];exact hw) ⟨.ref a,H,I,rfl,q⟩
end
section
variable{K:Frag}{ρ':List Addr}{H':Hp}
noncomputable def Ca(m:ME)(ml mh:MO1):ME:=λls hd=>(m ls hd).bind λp=>(ml ls p.2).bind λl=>(mh ls l.2).bind λh=>(AL p.1).map λds=>(AO (Bi ds l.1 h.1),h.2)
def aO{tl:TO}(h:RE K t m)(hl:RO1 K tl ml)(hh:RO1 K th mh):RE K (tSl (UB K) t tl th) (Ca m ml mh):=by
 and_intros;obtain⟨⟨d1,h1⟩,e1,hm⟩:=j6 hm;obtain⟨⟨d2,h2⟩,e2,hm⟩:=j6 hm;obtain⟨⟨d3,h3⟩,e3,hm⟩:=j6 hm;obtain⟨ds,e4,e5⟩:=j7 hm;cases e5;dsimp only at e2 e3 e4;refine h ρ σ H hd ls _ d1 h1 hR hL e1 λρ1 H1 v1 x1 R1 r1=>?_;refine hl ρ1 σ H1 h1 ls _ d2 h2 R1 (hL.ext hR x1) e2 λρ2 H2 x2 R2=>?_;refine hh ρ2 σ H2 h2 ls _ d3 _ R2 (hL.ext hR (x1.trans R1 x2)) e3 λρ3 H3 x3 R3=>?_;obtain⟨a,xs,rfl,q,r⟩:=((r1.ext R1 x2).ext R2 x3).tup e4;by_cases c:HT.sIx ds.length 0 d2=0/\HT.sIx ds.length ds.length d3=ds.length
 .refine .inr ⟨a,xs,rfl,q,by rw[r.len];exact c,?_⟩;have e6:Bi ds d2 d3=ds:=by unfold Bi;rw[c.1,c.2];simp
  rw[e6]at hQ;exact hQ ρ3 _ _ ((x1.trans R1 x2).trans R2 x3) R3 (BA q r)
 .refine .inl ⟨a,xs,rfl,q,by rw[r.len];exact c,λp hp=>?_⟩;obtain⟨R4,x4⟩:=R3.hid (ho:=.tup (F7 xs d2 d3)) hp;exact hQ ρ3 _ _ (((x1.trans R1 x2).trans R2 x3).trans R3 x4) R4 (BA (SqT.of AE) ((OW r).ext R3 x4))
def bM(K:Frag){lo:Option Expr}{tl:TO}(h:QE K X e te me)(hl:QO K X lo tl ml)(hh:QO K X hi th mh)(hK:X.K=K:=by rfl):QE K X (.Subscript e (.Slice lo hi none p2) pos) (tSl (UB K) te tl th) (Ca me ml mh):=⟨MW (Wr K hK) h.p hl.p hh.p,aO h.r hl.r hh.r⟩
def Ia{QE:D->Hd->Prop}(h:WE ma ls hd λd x=>WO ml ls x λl y=>WO mh ls y λu z=>∃ds,AL d=some ds/\QE (AO (Bi ds l u)) z):WE (Ca ma ml mh) ls hd QE:=by
 obtain⟨d,x,e1,l,y,e2,u,z,e3,ds,e4,q⟩:=h;exact⟨_,_,by simp only[Ca,e1,bind_some,e2,e3,e4,jr],q⟩
end
section
variable{X:Cx}
def ZJ{E:Value->Shared->Prop}{s:Shared}{vs ws:List Value}{Q:Value->Shared->Prop}(ht:IsTup s.heap t vs.toArray)(hb:IsTup s.heap b ws.toArray)(hv:vs=[])
 (h1:Q (.ref b) s):wpAny (model prog w) A (binaryOp .Add (.ref t) (.ref b)) Q E s:=by
 obtain⟨⟨cls,dd,data,sl⟩,ho,hc,n,hd⟩:=id ht;obtain⟨⟨cls2,dd2,data2,sl2⟩,ho2,hc2,n2,hd2⟩:=id hb;simp only at hc hd hc2 hd2;subst hc hd hc2 hd2;exact concat_meets ⟨_,ho,rfl⟩ ⟨_,ho2,rfl⟩ noFill_tuple_add seq_tuple_add PySem.F.slot_tuple_add PySem.F.entry_tuple_add (PySem.F.args_tuple_add_2 _ _)
  (tuple_addW0 t b vs.toArray ws.toArray n n2 dd dd2 sl sl2 (by simp[hv])) ⟨ho,ho2,h1⟩
noncomputable def W1(K:Frag):R2:=λx y H Q=>∃a b ys,x=.ref a/\y=.ref b/\SqT K H a []/\SqT K H b ys/\Q (.ref b) H
def Yg(K:Frag)(hK:X.K=K:=by rfl):OpR X (binaryOp .Add) (W1 K):=by
 subst hK;intro O s σ H x y v u Q I rx ry h;obtain⟨a,b,ys,rfl,rfl,ha,hb,q⟩:=h;cases rx;cases ry;obtain⟨its,r1,p1,_⟩:=I.tuple ha;obtain⟨its2,r2,p2,_⟩:=I.tuple hb;have:its=[]:=by cases r1;rfl
 exact ZJ p1 p2 this ⟨.ref b,H,I,rfl,q⟩
noncomputable def GD:D->D->Hd->Option (D×Hd):=λd e hd=>(AL d).bind λa=>(AL e).bind λb=>if a=[]then some (AO b,hd)else none
def Xf{K:Frag}:RB K (W1 K) GD:=by
 intro ρ H hd d e v u Q z hd' hR h1 h2 hf hQ;unfold GD at hf;obtain⟨a,e1,hf⟩:=j6 hf;obtain⟨b,e2,hf⟩:=j6 hf;split at hf
 .next c=>
  cases hf;subst c;obtain⟨p,xs,rfl,q1,r1⟩:=h1.tup e1;obtain⟨p2,ys,rfl,q2,r2⟩:=h2.tup e2;have:xs=[]:=by simpa [RDs]using r1
  subst this;exact⟨p,p2,ys,rfl,rfl,q1,q2,hQ ρ H _ .refl hR (BA q2 r2)⟩
 .cases hf
end
end L2
namespace L2
noncomputable abbrev Ep:=CC AX GD
end L2
namespace L2
open PySem PySem.Spec PyProof.Rows
section
variable{K:Frag}{ρ':List Addr}{H':Hp}
open Classical in
noncomputable abbrev Ms:D->D->Hd->Option (D×Hd):=fI λi j=>if Ef i j then some (.int (i*2^j.toNat))else none
def aZ:RB K (rI QD λi j=>.int (i*2^j.toNat)) Ms:=Gf λi j z h=>by
 split at h
 .next q=>cases h;exact⟨q,λ_=>by simp[RI]⟩
 .cases h
noncomputable abbrev Mr:D->D->Hd->Option (D×Hd):=fI λi j=>if 0<=j then some (.int (i/2^j.toNat))else none
def aY:RB K (rI (λ_ j=>0<=j) λi j=>.int (i/2^j.toNat)) Mr:=Gf λi j z h=>by
 split at h
 .next q=>cases h;exact⟨q,λ_=>by simp[RI]⟩
 .cases h
noncomputable abbrev Mu:D->D->Hd->Option (D×Hd):=fI λi j=>some (.int (Builtin.bitAnd i j))
def aj:RB K (rI0 λi j=>.int (Builtin.bitAnd i j)) Mu:=Fq λ_ _ _=>by simp[RI]
noncomputable def Mz:List D->Hd->Option (D×Hd)
 |[.im (.int i)],hd=>some (.im (.int i),hd)
 |[.im (.bl b)],hd=>some (.im (.int (if b then 1 else 0)),hd)
 |_,_=>none
def aJ:RF K (λxs H Q=>(∃i,xs=[.int i]/\Q (.int i) H)∨∃k,xs=[.bl k]/\Q (.int (if k then 1 else 0)) H) Mz:=by
 intro ρ H hd ds vs Q z hd' hR h1 hf hQ;unfold Mz at hf;split at hf
 .cases hf;simp only[RDs,RD,RI]at h1;obtain⟨x,r,rfl,rfl,rfl⟩:=h1;exact .inl ⟨_,rfl,hQ ρ H _ .refl hR (by simp[RD,RI])⟩
 .cases hf;simp only[RDs,RD,RI]at h1;obtain⟨x,r,rfl,rfl,rfl⟩:=h1;exact .inr ⟨_,rfl,hQ ρ H _ .refl hR (by simp[RD,RI])⟩
 .cases hf
open Classical in
noncomputable def DY:D->List D->Hd->Option (D×Hd)
 |.mu n,[.mu m],hd=>match hd[n]?,hd[m]? with
  |some (.lst ds),some (.lst es)=>if Bg (ds.length+es.length)then some (.im .non,hd.set n (.lst (ds++es)))else none
  |_,_=>none
 |_,_,_=>none
def Qy:RM K O8 DY:=by
 intro ρ H hd d v ds vs Q z hd' hR h1 h2 hf hQ;unfold DY at hf;split at hf
 .next n m=>
  split at hf
  .next es1 es2 q1 q2=>
   split at hf
   .next c=>
    cases hf;simp only[RD]at h1;obtain⟨a,hn,rfl⟩:=h1;simp only[RDs,RD]at h2;obtain⟨x,r,rfl,⟨b,hm,rfl⟩,rfl⟩:=h2;obtain⟨xs,f1,f2⟩:=hR.lst hn q1;obtain⟨ys,g1,g2⟩:=hR.lst hm q2;have l1:=f2.len;have l2:=g2.len;obtain⟨R2,x2⟩:=hR.put hn (o:=.lst (es1++es2)) (ho:=.lst (xs++ys)) ⟨_,rfl,f2.app g2⟩;exact⟨a,b,xs,ys,rfl,rfl,f1,g1,by rw[l1,l2];exact c,hQ ρ _ _ x2 R2 (by simp[RD,RI])⟩
   .cases hf
  .cases hf
 .cases hf
end
section
variable{QE:D->Hd->Prop}
def QM{n m:Nat}(e1:hd[n]?=some (.lst ds))(e2:hd[m]?=some (.lst es))(c:Bg (ds.length+es.length))(q:QE (.im .non) (hd.set n (.lst (ds++es)))):WP (DY (.mu n) [.mu m] hd) QE:=⟨_,_,by simp only[DY,e1,e2,c,jj],q⟩
def ZY{i j:Int}(c:Ef i j)(q:QE (.im (.int (i*2^j.toNat))) hd):WP (Ms (.im (.int i)) (.im (.int j)) hd) QE:=⟨_,_,by simp[c],q⟩
def ZX{i j:Int}(c:0<=j)(q:QE (.im (.int (i/2^j.toNat))) hd):WP (Mr (.im (.int i)) (.im (.int j)) hd) QE:=⟨_,_,by simp[c],q⟩
def Zc{i j:Int}(q:QE (.im (.int (Builtin.bitAnd i j))) hd):WP (Mu (.im (.int i)) (.im (.int j)) hd) QE:=⟨_,_,by simp,q⟩
end
end L2
namespace HT
open PySem PyProof.Rows
def noFill_tuple_mul:fillsNumberSlot (.type "tuple") "mul"=pure false:=
 PySem.fillsNumberSlot_seq (id:="tuple.__mul__") (r:=some (.builtin "tuple.__rmul__")) F.slot_tuple_mul.lookup (by decide +kernel) F.slot_tuple_rmul.lookup (by decide +kernel)
def repeat_tuple:seqRepeat? (.type "tuple")=pure (some (.builtin "tuple.__mul__")):=by
 unfold seqRepeat?;rw[PySem.seqSlot_of (T:="tuple") (name:="__mul__") (id:="tuple.__mul__") F.slot_tuple_mul.lookup (by decide +kernel),PySem.seqSlot_of (T:="tuple") (name:="__rmul__") (id:="tuple.__rmul__") F.slot_tuple_rmul.lookup (by decide +kernel)];rfl
def int_rmul_tuple(a:Int)(t:Tok)(l:Addr)(items:Array Value)(n:Nat)(dd:Option Addr)(sl:Array (Option Value)):
 Meets (Builtin.«int.__rmul__» ⟨[.int a t,.ref l],[]⟩) (λ_ R s=>s.heap.get? l=some { cls:=.type "tuple",dict:=dd,data:=.seq items n,slots:=sl }/\R (.ok (.ret Value.notImplemented)) s):=
 .of_wp λprog w A R s h=>by obtain⟨hp,g,d,tk,os⟩:=s;obtain⟨hl,h⟩:=h;wp_walk;exact⟨_,rfl,h⟩
def tuple_mul(l:Addr)(items:Array Value)(n:Nat)(dd:Option Addr)(sl:Array (Option Value))(k:Int)(t:Tok)(h0:items.isEmpty=false)(hk:0<=k/\k<=1000)(hs:items.size*k.toNat<=100000):
 Meets (Builtin.«tuple.__mul__» ⟨[.ref l,.int k t],[]⟩) (λ_ R s=>s.heap.get? l=some { cls:=.type "tuple",dict:=dd,data:=.seq items n,slots:=sl }/\(k=1->R (.ok (.ret (.ref l))) s)/\(k≠1->R (.ok (.ret (.ref s.heap.objs.size))) { s with heap:=s.heap.push { cls:=.type "tuple",data:=.seq ((List.replicate k.toNat items).foldl (·++·) #[]) } })):=
 .of_wp λprog w A R s h=>by
  obtain⟨hp,g,d,tk,os⟩:=s;obtain⟨hl,h1,h2⟩:=h;have f1:=AutoSeq1.idx_int;have f2:=AutoSeq1.sub_tuple_tuple
  wp_walk using wpAny_loadPart' hl
  have c1:¬ (decide (k < -2^63)||decide (k>=2^63))=true:=by simp;omega
  rw[ja c1]
  wp_walk using wpAny_loadPart' hl
  by_cases k1:k=1
  .rw[j9 (by simp[k1])]
   wp_walk using wpAny_loadPart' hl
   exact⟨_,rfl,h1 k1⟩
  .rw[ja (by simp[h0,k1])];have h2:=h2 k1;by_cases k0:k=0
   .rw[j9 (by simp[k0])]
    wp_walk using wpAny_loadPart' hl
    subst k0;exact⟨_,rfl,h2⟩
   .have c2:¬ ((items.size:Int)*k>(2^63-1)/8):=by
     have e:(items.size:Int)*k=((items.size*k.toNat:Nat):Int):=by rw[Int.natCast_mul,Int.toNat_of_nonneg hk.1]
     rw[e];omega
    have c3:¬ Builtin.Tuple.tupleTooMany ((items.size:Int)*k)=true:=by
     have e:(items.size:Int)*k=((items.size*k.toNat:Nat):Int):=by rw[Int.natCast_mul,Int.toNat_of_nonneg hk.1]
     unfold Builtin.Tuple.tupleTooMany;rw[e,jF,kB];omega
    rw[ja (by simp[h0];omega)];dsimp only;rw[ja c2,ja c3];have hz:(List.foldl (λx1 x2=>x1++x2) #[] (List.replicate k.toNat items)).size<=sizeLine:=by
     have:∀(m:Nat) (a:Array Value),(List.foldl (λx1 x2=>x1++x2) a (List.replicate m items)).size=a.size+items.size*m:=by
      intro m
      induction m with
      |zero=>intro a;simp
      |succ m ih=>intro a;rw[k9,List.foldl_cons,ih,Array.size_append,Nat.mul_succ];omega
     rw[this,jF];simp;omega
    unfold Builtin.Tuple.tupleExact;refine j8 (jG ?_ hz);exact jb ⟨_,rfl,h2⟩
end HT
namespace L2
open PySem PySem.Spec PyProof.Rows
section
variable{X:Cx}
noncomputable def eV(K:Frag):R2:=λx y H Q=>∃l k xs,x=.ref l/\y=.int k/\SqT K H l xs/\xs≠[]/\(0<=k/\k<=1000)/\xs.length*k.toNat<=100000/\(k=1->Q (.ref l) H)/\
 (k≠1->∀p,H p=none->Q (.ref p) (upd H p (.tup (List.replicate k.toNat xs).flatten)))
def YZ(K:Frag)(hK:X.K=K:=by rfl):OpR X (binaryOp .Mult) (eV K):=by
 subst hK;intro O s σ H x y v u Q I rx ry h;obtain⟨l,k,xs,rfl,rfl,hH,hne,hk,hz,q1,q2⟩:=h;cases rx;obtain⟨t,rfl⟩:=ry;obtain⟨its,r,p,_⟩:=I.tuple hH;obtain⟨⟨cls,dd,data,sl⟩,ho,hc,n,hd⟩:=id p;simp only at hc hd;subst hc hd;have ht:s.TypeIs (.ref l) "tuple":=⟨_,ho,rfl⟩
 have hn:its≠[]:=λz=>hne (r.nil_iff.mp z);have hl:its.length=xs.length:=r.length.symm;refine wpAny_binaryOp_repeat_ref (T:="tuple") (U:="int") (by decide) ht (λs'=>typeIs_int s' k t) HT.noFill_tuple_mul F.fills_int_mul F.slot_int_rmul HT.repeat_tuple F.slot_int_index.lookup
  (kh F.slot_int_rmul (typeIs_int s k t) F.entry_int_rmul (F.args_int_rmul_2 _ _) (HT.int_rmul_tuple k t l its.toArray n dd sl)
   ⟨ho,rfl,ht,kh F.slot_tuple_mul ht F.entry_tuple_mul (F.args_tuple_mul_2 _ _) (HT.tuple_mul l its.toArray n dd sl k t (by cases its with|nil=>exact absurd rfl hn|cons a r=>rfl) hk (by rw[jf,hl];exact hz)) ⟨ho,λe=>?_,λe=>?_⟩⟩)
 .exact⟨.ref l,H,I,rfl,q1 e⟩
 .have f0:=KU its k.toNat []
  rw[jT]at f0;rw[f0];refine⟨.ref s.heap.objs.size,_,I.laid (t':=s.toks) (o:=.tup (List.replicate k.toNat xs).flatten) (λb ob q=>Heap.get?_push_of_some _ q) (jc _) ?_,rfl,q2 e _ (I.hok.fresh (jc _))⟩;exact⟨by rw[Yy,jF,Nat.mul_comm];omega,_,r.rep k.toNat,IsTupD.new _ _⟩
end
end L2
namespace HT
open PySem PyProof.Rows
open PySem.AutoSeq1 (wpAny_loadPart')
section
variable{A:Around}{E:Value->Shared->Prop}
def drawsT(hh:A.handled=none)(it t:Addr)(hne:t≠it)(items:Array Value):
 Draws prog w A it [it,t] items.size (λi v=>items[i]?=some v) (λi h=>h.IsTupleIter it t i/\h.IsTuple t items) where
 live:=λ_ _ st=>let ⟨o,ho,_⟩:=st.1;⟨o,ho⟩
 frame:=λ_ _ _ st hk=>⟨let ⟨o,ho,r⟩:=st.1;⟨o,hk it (by simp) o ho,r⟩,let ⟨o,ho,r⟩:=st.2;⟨o,hk t (by simp) o ho,r⟩⟩
 item:=λi s Q E hi st hQ=>by
  refine L2.tup_next st.1 st.2 (x:=items[i]) (by simp[hi]) λh' hit' hs'=>?_;exact hQ _ h' s.toks (by simp[hi]) ⟨hit',st.2.extBut hs'.extBut hne⟩ hs'
 done:=λs Q E st hE=>L2.tup_stop hh st.1 st.2 (by simp) hE
end
def SU(l:Addr)(items:Array Value)(n:Nat)(dct:Option Addr)(sl:Array (Option Value)):
 Meets (Builtin.«enumerate.__new__» ⟨[.type "enumerate",.ref l],[]⟩) (λ_ R s=>s.heap.get? l=some { cls:=.type "tuple",dict:=dct,data:=.seq items n,slots:=sl } /\
  R (.ok (.ret (.ref (s.heap.push { cls:=.type "tuple_iterator",data:=.fields #[.ref l,.int 0 0] }).objs.size)))
   { s with heap:=(s.heap.push { cls:=.type "tuple_iterator",data:=.fields #[.ref l,.int 0 0] }).push { cls:=.type "enumerate",data:=.fields #[.none,.bool false,.ref s.heap.objs.size,rawInt 0,.none,.none] } }):=
 .of_wp λprog w A R s h=>by
  obtain⟨hp,g,d,tk,os⟩:=s;obtain⟨hl,h⟩:=h;have hsub:=sub_enumerate;have hL:Heap.IsTuple (Shared.heap ⟨hp,g,d,tk,os⟩) l items:=⟨_,hl,rfl,n,rfl⟩
  wp_walk using wpAny_loadPart' hl
  refine wpAny_stack_any λst=>jb ?_;split
  .rename_i c _ _ _ _ _
   cases(c==Value.type "enumerate")
   .wp_walk using wpAny_loadPart' hl,wpAny_pyIter_tuple hL
    exact⟨_,rfl,h⟩
   .wp_walk using wpAny_loadPart' hl,wpAny_pyIter_tuple hL
    exact⟨_,rfl,h⟩
  .wp_walk using wpAny_loadPart' hl,wpAny_pyIter_tuple hL
   exact⟨_,rfl,h⟩
def call_enumT{prog:Program}{w:World}{A:Around}{E:Value->Shared->Prop}{s:Shared}{Q:Value->Shared->Prop}(hL:IsTup s.heap l items)
 (h:∀h',IsEnum h' (s.heap.objs.size+1) s.heap.objs.size 0 .none->h'.IsTupleIter s.heap.objs.size l 0->h'.objs.size=s.heap.objs.size+2 ->
  (∀b o,s.heap.get? b=some o->h'.get? b=some o)->Q (.ref (s.heap.objs.size+1)) { s with heap:=h' }):
 wpAny (model prog w) A (call (.type "enumerate") [.ref l]) Q E s:=by
 obtain⟨⟨c,dct,dt,sl⟩,hl,hc,n,hd⟩:=hL
 replace hc:c=.type "tuple":=hc
 replace hd:dt=.seq items n:=hd
 subst hc hd;refine callType_new F.called_enumerate (by decide) (F.typeCall_enumerate_1 _) (F.newCall_enumerate_1 _) (λobj=>F.args_object_init_2 obj _) F.entry_enumerate_new
  (SU l items n dct sl) ⟨hl,?_⟩
 have hz:(s.heap.push { cls:=.type "tuple_iterator",data:=.fields #[.ref l,.int 0 0] }).objs.size=s.heap.objs.size+1:=Heap.size_push ..;show _/\_;rw[hz];have he:IsEnum ((s.heap.push { cls:=.type "tuple_iterator",data:=.fields #[.ref l,.int 0 0] }).push
  { cls:=.type "enumerate",data:=.fields #[.none,.bool false,.ref s.heap.objs.size,rawInt 0,.none,.none] }) (s.heap.objs.size+1) s.heap.objs.size 0 .none:=by
  have:=Heap.get?_push_size (s.heap.push { cls:=.type "tuple_iterator",data:=.fields #[.ref l,.int 0 0] })
   (o:={ cls:=.type "enumerate",data:=.fields #[.none,.bool false,.ref s.heap.objs.size,rawInt 0,.none,.none] }) rfl
  rw[hz]at this;exact this
 refine⟨⟨_,he,rfl⟩,h _ he ⟨_,Heap.get?_push_of_some _ (Heap.get?_push_size _ rfl),rfl,rfl⟩ (by rw[Heap.size_push,hz]) λb o x=>Heap.get?_push_of_some _ (Heap.get?_push_of_some _ x)⟩
end HT
namespace L2
open PySem PySem.Spec PyProof.Rows
structure ETt(h:Heap)(e it l:Addr)(i:Nat):Prop where
 e:∃old,IsEnum h e it i old
 r:h.IsTupleIter it l i
noncomputable def ItT(K:Frag)(a:Addr):It:=
 ⟨λi H=>∃xs x,SqT K H a xs/\xs[i]?=some x,
  λi H x H'=>∃p v,H p=none/\H'=upd H p (.tup [.int (i:Int),v])/\x=.ref p/\∀xs,SqT K H a xs->xs[i]?=some v,
  λi H=>∃xs,SqT K H a xs/\xs.length=i⟩
def Op{K:Frag}{kk:Nat}(ne:e≠it)(nl:l≠it)(nle:e≠l):Turn P w K (.Tuple elts kk tpos) (ItT K l) [e,it] e (λi h=>ETt h e it l i) where
 mem:=by simp
 obj:=λi h st c hc=>by
  obtain⟨⟨old,he⟩,hr⟩:=st;simp only[jd,k4,kj]at hc;rcases hc with rfl|rfl
  .exact⟨_,he,λv z=>by cases(show Data.fields _=Data.cell v from z)⟩
  .obtain⟨o,q,_,d⟩:=hr;exact⟨o,q,λv z=>by rw[d]at z;cases z⟩
 keep:=λi h h' st k=>by
  obtain⟨⟨old,he⟩,o,q,r⟩:=st;exact⟨⟨old,k e (by simp) _ he⟩,o,k it (by simp) _ q,r⟩
 item:=by
  intro X hP hw hK hc i O s σ H E I hf st hg;subst hP hw hK;obtain⟨xs,x,h1,hx⟩:=hg;obtain⟨its,r,pl,hz⟩:=I.tuple h1;obtain⟨u,hu,ru⟩:=r.get hx;obtain⟨⟨old,he⟩,hr⟩:=st;have hlt:i<its.toArray.size:=by
   have:=(List.getElem?_eq_some_iff.mp hu).1;simpa using this
  have hd:X.A.in1.handled=none:=I.ok.hd hc;refine wpAny_pyNext_enum_itemD (HT.drawsT hd it l nl its.toArray) he ⟨hr,pl⟩ hlt ne (by simp;exact⟨ne,nle⟩) λx' g tk hx' ho hr' ht hsz kp=>⟨_,rfl,?_⟩
  have ex:x'=u:=by
   have hx':its.toArray[i]?=some x':=hx';rw[List.getElem?_toArray,hu]at hx';exact(Option.some.inj hx').symm
  subst ex;refine wpAny_letOwnedTupleGo_enum ho λg' e' sb=>?_;have hle:e<s.heap.objs.size:=Heap.lt_size he;have kp2:∀c o,c∉[e,it]->s.heap.get? c=some o->g'.get? c=some o:=λc o nc q=>by
   simp only[jd,k4,kj,not_or]at nc;exact sb.extBut _ _ nc.1 (kp c o nc.1 nc.2 q)
  have hT:s.heap.objs.size≠e:=k6 hle;have hpair:g'.get? s.heap.objs.size=some { cls:=.type "tuple",data:=.seq #[.int i tk,x'] }:=sb.extBut _ _ hT ht;have fresh:H s.heap.objs.size=none:=I.hok.fresh (jc _);have I2:Inv X O σ (upd H s.heap.objs.size (.tup [.int (i:Int),x])) { s with heap:=g',toks:=tk+1 }:=I.turnsL (tk:=tk+1) (o:=.tup [.int (i:Int),x]) kp2 hf (jc _)
   (show ObjOk X.prog X.w _ g' _ (.tup [.int (i:Int),x])from⟨by show 2<=sizeLine;decide,[.int i tk,x'],.cons ⟨_,rfl⟩ (.cons ru .nil),⟨_,hpair,rfl,⟨_,rfl⟩,rfl⟩⟩)
  refine⟨.ref s.heap.objs.size,_,I2,rfl,⟨s.heap.objs.size,x,fresh,rfl,rfl,λxs' q=>by rw[I.tuple_inj q h1];exact hx⟩,⟨⟨x',?_⟩,?_⟩,λc hc=>?_⟩
  .have:=e';rw[show((i:Int)+1)=((i+1:Nat):Int) by omega]at this;exact this
  .exact hr'.1.extBut sb.extBut (Ne.symm ne)
  .have lt:c<s.heap.objs.size:=by
    simp only[jd,k4,kj]at hc;rcases hc with rfl|rfl
    .exact hle
    .obtain⟨o,q,_⟩:=hr;exact Heap.lt_size q
   rw[AD (jg lt)];exact(hf c hc).1
 done:=by
  intro X hP hw hK hc i O s σ H E I hf st hg;subst hP hw hK;obtain⟨xs,h1,hend⟩:=hg;obtain⟨its,r,pl,hz⟩:=I.tuple h1;have l1':=r.length;obtain⟨⟨old,he⟩,hr⟩:=st;have hd:X.A.in1.handled=none:=I.ok.hd hc;have en:i=its.toArray.size:=by simp;omega
  subst en;refine wpAny_pyNext_enum_endD (HT.drawsT hd it l nl its.toArray) he ⟨hr,pl⟩ λg x=>⟨rfl,?_⟩
  exact I.turns (tk:=s.toks) (λc o nc q=>by
   simp only[jd,k4,kj,not_or]at nc;exact x c o nc.2 q) hf
 self:=λ_ _ _ _ _ st h=>by
  obtain⟨⟨old,he⟩,hr⟩:=st;exact wpAny_pyIter_enum he h
noncomputable def Mo(K:Frag)(ta:TA):TI:=λσ H R=>ta σ H λvs H1=>∃a xs,vs=[.ref a]/\SqT K H1 a xs/\R (ItT K a) H1
def Uc(K:Frag){elts:List Expr}{kk:Nat}{tpos p pos:Pos}(hg:Gl X "enumerate")(hm:X.mg "enumerate"=none)(ha:PA X [a] ta)(hK:X.K=K:=by rfl)(hs:starEach [a] X.env=[(false,eval a X.env)]:=by rfl):
 PI X (.Tuple elts kk tpos) (.Call (.Name "enumerate" p) [a] [] pos) (Mo K ta):=by
 subst hK;intro O s σ H R I h;refine Call_ (EV I hg hm K6 (PyProof.Rows.callWith_type1 (thn (ha pos O s σ H _ I h) λus s1 ⟨vs,H1,I1,r1,q1⟩=>?_) hs rfl));obtain⟨l,xs,e,c,q⟩:=q1;subst e;obtain⟨u,rfl,ru⟩:=r1.one;cases ru;obtain⟨its,r,pl,hz⟩:=I1.tuple c;have ll:l<s1.heap.objs.size:=by obtain⟨o,ho,_⟩:=pl;exact Heap.lt_size ho
 refine HT.call_enumT pl λg he hr hsz kp=>wpAny_pyIter_enum he ?_;refine⟨_,_,_,_,H1,rfl,I1.kept (t':=s1.toks) kp,Op (k6 (Nat.lt_succ_self _)) (jg ll) (k6 (kf ll)),⟨⟨_,he⟩,hr⟩,λc hc=>?_,q⟩;simp only[jd,k4,kj]at hc;have le:s1.heap.objs.size<=c:=by
  rcases hc with rfl|rfl
  .exact Nat.le_add_right _ _
  .exact jc _
 exact I1.fpOk le (I1.hok.fresh le)
def U0{K:Frag}(ha:RRw K true ta ma):RIt K (Mo K (AZ ta Aq)) (G0 ma):=by
 intro ρ σ H hd ls Q d g hd' hR hL hm hQ;obtain⟨⟨⟨d1,g1⟩,h1⟩,e1,e2⟩:=j7 hm;cases e2;refine ha ρ σ H hd ls _ d1 g1 h1 hR hL e1 λρ1 H1 a x1 R1 G1 S1=>?_;obtain⟨xs,c1,r1⟩:=S1 ρ1 H1 _ .refl R1 G1;refine⟨a,xs,rfl,c1,hQ ρ1 H1 _ x1 R1 G1 ?_⟩;intro ρ3 H3 hd3 x3 R3 G3 i;obtain⟨xs,c1,r1⟩:=S1 ρ3 H3 _ x3 R3 G3;have l1:=r1.len;refine⟨λhi=>?_,λhi=>⟨xs,c1,?_⟩⟩
 .have hi:i<d1.length:=by simpa using hi
  have i1:d1[i]?=some (d1[i]'hi):=List.getElem?_eq_getElem _;obtain⟨x,x4,x5⟩:=r1.get i1;refine⟨⟨xs,x,c1,x4⟩,λz H4 hz=>?_⟩;obtain⟨p,v,fp,rfl,rfl,hv⟩:=hz;have ev:=hv xs c1;rw[x4]at ev;cases ev;obtain⟨R4,x6⟩:=R3.hid (ho:=.tup [.int (i:Int),x]) fp;refine⟨ρ3,AO [.im (.int (i:Int)),d1[i]'hi],x6,rfl,R4,?_,BA (SqT.of AE) (.cons (by simp[RD,RI]) (.cons (x5.ext R3 x6) .nil))⟩;simp[i1]
 .have hi:i=d1.length:=by simpa using hi
  omega
def UN(K:Frag){X:Cx}{elts:List Expr}{kk:Nat}{tpos p pos:Pos}(hm:X.mg "enumerate"=none)(ha:QR K true X a ta ma)(hg:Gl X "enumerate":=by rfl)(hK:X.K=K:=by rfl)(hs:starEach [a] X.env=[(false,eval a X.env)]:=by rfl):
 QI K X (.Tuple elts kk tpos) (.Call (.Name "enumerate" p) [a] [] pos) (Mo K (AZ ta Aq)) (G0 ma):=⟨Uc K hg hm (B3 ha.p Bn hs) hK hs,U0 ha.r⟩
end L2
namespace HS
open PySem PyProof.Rows
open PySem.AutoSeq1 (wpAny_loadPart')
open Sem (wp)
noncomputable abbrev st(t:Tok):List (Str×Value):=[(Str.ofString "start",.int 1 t)]
end HS
namespace L2
open PySem PySem.Spec PyProof.Rows
theorem pick_all:∀L:List Value,(List.range L.length).filterMap (λi=>L[i]?)=L
 |[]=>rfl
 |x::r=>by
  rw[jm,List.range_succ_eq_map,jI];simp only[List.getElem?_cons_zero,List.filterMap_map]
  congr 1
  have:=pick_all r;simpa [Function.comp_def]using this
theorem LU:∀{xs:List V} {us:List Value},Vals xs us->Vals xs.reverse us.reverse
 |_,_,.nil=>.nil
 |_,_,.cons r t=>by
  rw[kl,kl];exact Vals.append (LU t) (.cons r .nil)
section
variable{K:Frag}
theorem RDs.rev:∀{ds:List D} {xs:List V},RDs K ρ H ds xs->RDs K ρ H ds.reverse xs.reverse
 |[],xs,h=>by simp only[RDs]at h;subst h;simp[RDs]
 |d::ds,xs,h=>by
  simp only[RDs]at h;obtain⟨x,r,rfl,rx,h⟩:=h;rw[kl,kl];exact(RDs.rev h).app (.cons rx .nil)
end
end L2
namespace HT
open PySem PySem.Spec PyProof.Rows
section
variable{E:Value->Shared->Prop}{s:Shared}
def Q6(n:Nat):Builtin.Slice.sliceAdjust none none (-1) (n:Int)=((n:Int)-1,-1):=by
 unfold Builtin.Slice.sliceAdjust;simp
def PU(n:Nat):Builtin.Slice.slicePlaces ((n:Int)-1) (-1) (-1)=n:=by
 unfold Builtin.Slice.slicePlaces;simp
 try omega
def IF{n:Nat}{Q:Int×Int×Nat->Shared->Prop}(hs:s.heap.IsSliceOf sl .none .none (.int (-1) t))(h:Q ((n:Int)-1,-1,n) s):wpAny (model prog w) A (Builtin.Slice.sliceApplied (.ref sl) (pure (n:Int))) Q E s:=by
 obtain⟨os,hos,hcs,hds⟩:=id hs;unfold Builtin.Slice.sliceApplied Builtin.Slice.sliceFields;refine j8 (j8 (jK hos hds (x:=.none) rfl (j8 (jK hos hds (x:=.none) rfl (j8 (jK hos hds (x:=.int (-1) t) rfl (jb ?_)))))));refine j8 (slicePart_int ?_);show wpAny _ _ (if((-1:Int)==0)=true then _ else _) _ _ s;rw[ja (by decide)];refine j8 (slicePart_none (j8 (slicePart_none (j8 (jb ?_)))));show wpAny _ _ (match Builtin.Slice.sliceAdjust none none (-1) (n:Int)with|(lo,hi)=>pure (lo,(-1:Int),Builtin.Slice.slicePlaces lo hi (-1))) _ _ s;rw[Q6 n];show wpAny _ _ (pure ((n:Int)-1,(-1:Int),Builtin.Slice.slicePlaces ((n:Int)-1) (-1) (-1))) _ _ s;rw[PU];exact jb h
theorem Mw{α β:Type}{f g:α->Option β}:∀{l:List α},(∀x∈l,f x=g x)->l.filterMap f=l.filterMap g
 |[],_=>rfl
 |x::l,h=>by rw[jI,jI,h x jw,Mw λy hy=>h y (jq _ hy)]
def Rh(xs:Array Value):((List.range xs.size).filterMap λ(m:Nat)=>xs[((xs.size:Int)-1+(m:Int)*(-1)).toNat]?).toArray=xs.toList.reverse.toArray:=by
 congr 1
 have e:(List.range xs.size).filterMap (λ(m:Nat)=>xs[((xs.size:Int)-1+(m:Int)*(-1)).toNat]?)=(List.range xs.toList.reverse.length).filterMap λi=>xs.toList.reverse[i]? := by
  rw[List.length_reverse,Array.length_toList];refine Mw λm hm=>?_;have hm:m<xs.size:=by simpa using hm
  rw[List.getElem?_reverse (by simpa using hm)];simp only[Array.length_toList,Array.getElem?_toList]
  congr 1
  omega
 rw[e];exact L2.pick_all _
def getItem_tuple_rev{Q:Value->Shared->Prop}(ht:IsTup s.heap t items)(hs:s.heap.IsSliceOf sl .none .none (.int (-1) k))(h:Q (.ref s.heap.objs.size) { s with heap:=s.heap.push { cls:=.type "tuple",data:=.seq items.toList.reverse.toArray } })(hsz:items.size<=sizeLine):wpAny (model prog w) A (getItem (.ref t) (.ref sl)) Q E s:=by
 have hsize:sizeOk (.seq items.toList.reverse.toArray):=by
  show items.toList.reverse.toArray.size<=sizeLine;simpa using hsz
 obtain⟨os,hos,hcs,hds⟩:=id hs;have hTs:s.TypeIs (.ref sl) "slice":=⟨os,hos,hcs⟩
 unfold getItem
 try with_reducible refine jE ?_
 first|refine j8 (jb ?_)|skip
 refine j8 (wpAny_sequenceKey ht.typeIs (by decide) ?_);refine j8 (kC (name:=Str.ofString "__getitem__") ht.typeIs PyProof.Rows.slot_tuple_getitem
  (ky PyProof.Rows.slot_tuple_getitem ht.typeIs entry_tuple_getitem ?_ (args_tuple_getitem _ _)))
 show wpAny _ _ (Builtin.Tuple.tupleItemsOf (.ref t) >>= _) _ _ s;refine j8 (tupleItemsOf_ ht ?_);refine j8 (wpAny_typeOf hTs ?_);rw[j9 (by decide)];refine j8 (IF hs ?_);show wpAny _ _ (if((((items.size:Int)-1)==0&&(-1:Int)==1&&items.size==items.size)=true)then _ else _) _ _ s;rw[ja (by simp),Rh]
 first
  |exact j8 (m:=Builtin.Tuple.tupleExact _) (jG (jb ⟨_,rfl,jb h⟩) hsize)
  |exact j8 (m:=Builtin.Tuple.tupleExact _) (jG (j8 (jb (jb ⟨_,rfl,jb h⟩))) hsize)
  |exact j8 (j8 (m:=Builtin.Tuple.tupleExact _) (jG (jb (jb ⟨_,rfl,jb h⟩)) hsize))
  |exact j8 (j8 (m:=Builtin.Tuple.tupleExact _) (jG (jb ⟨_,rfl,jb h⟩) hsize))
end
end HT
namespace L2
open PySem PySem.Spec PyProof.Rows
section
noncomputable def Ow(K:Frag)(te ts:TE):TE:=λσ H Q=>te σ H λx H1=>ts σ H1 λy H2=>y=.int (-1)/\∃a xs,x=.ref a/\SqT K H2 a xs/\∀p,H2 p=none->Q (.ref p) (upd H2 p (.tup xs.reverse))
def YT(he:PE X e te)(hs:PE X stp ts):PE X (.Subscript e (.Slice none none (some stp) p2) pos) (Ow X.K te ts):=by
 intro O s σ H Q I h;refine Subscript_ (thn (he O s σ H _ I h) λv s1 ⟨x,H1,I1,r1,q1⟩=>?_);refine wpAny_Slice ?_;rw[evalPart_none];refine jb (jb ?_);rw[evalPart_some];refine thn (hs O s1 σ H1 _ I1 q1) λvs s3 ⟨y,H3,I3,r3,q3⟩=>?_;obtain⟨rfl,a,xs,rfl,hx,q⟩:=q3;obtain⟨t,rfl⟩:=r3;cases r1;have I4:Inv X O σ H3 { s3 with heap:=s3.heap.push { cls:=.type "slice",data:=.fields #[.none,.none,.int (-1) t] } }:=I3.kept (t':=s3.toks) λb ob q=>Heap.get?_push_of_some _ q;obtain⟨its,r,ht,hz⟩:=I4.tuple hx;have hlen:=r.length;have hg:wpAny (model X.prog X.w) X.A (getItem (.ref a) (.ref s3.heap.objs.size)) (EP X O σ Q) X.xe { s3 with heap:=s3.heap.push { cls:=.type "slice",data:=.fields #[.none,.none,.int (-1) t] } }:=by
  refine HT.getItem_tuple_rev ht (Heap.IsSliceOf.new ..) ?_ (by rw[jf]<;>omega);refine⟨.ref _,_,I4.laid (t':=s3.toks) (o:=.tup xs.reverse) (λb ob q=>Heap.get?_push_of_some _ q) (jc _) ?_,rfl,q _ (I4.hok.fresh (jc _))⟩;exact⟨by rw[List.length_reverse];exact hz,its.reverse,LU r,IsTupD.new _ _⟩
 show wpAny (model X.prog X.w) X.A (subscriptTail e (.Slice none none (some stp) p2) (.ref a) (.ref s3.heap.objs.size)) (EP X O σ Q) X.xe { s3 with heap:=s3.heap.push { cls:=.type "slice",data:=.fields #[.none,.none,.int (-1) t] } };exact tail_any (ops:=[.ref a,.ref s3.heap.objs.size]) ht.typeIs PyProof.Rows.slot_tuple_getitem.lookup hg (by with_unfolding_all rfl)
end
section
variable{K:Frag}
noncomputable def HP(m ms:ME):ME:=λls hd=>(m ls hd).bind λp=>(ms ls p.2).bind λq=>match q.1 with
 |.im (.int i)=>if i=-1 then(AL p.1).map λds=>(AO ds.reverse,q.2)else none
 |_=>none
def XR(h:RE K te m)(hs:RE K ts ms):RE K (Ow K te ts) (HP m ms):=by
 and_intros;obtain⟨⟨d1,h1⟩,e1,hm⟩:=j6 hm;obtain⟨⟨d2,h2⟩,e2,hm⟩:=j6 hm;dsimp only at e2 hm;split at hm
 .split at hm
  .next hi=>
   obtain⟨ds,e3,e4⟩:=j7 hm;cases e4;subst hi;refine h ρ σ H hd ls _ d1 h1 hR hL e1 λρ1 H1 v1 x1 R1 r1=>?_;refine hs ρ1 σ H1 h1 ls _ _ _ R1 (hL.ext hR x1) e2 λρ2 H2 v x2 R2 r2=>?_;simp only[RD,RI]at r2;obtain⟨a,xs,rfl,q,r⟩:=(r1.ext R1 x2).tup e3;refine⟨r2,a,xs,rfl,q,λp hp=>?_⟩;obtain⟨R3,x3⟩:=R2.hid (ho:=.tup xs.reverse) hp;exact hQ ρ2 _ _ ((x1.trans R1 x2).trans R2 x3) R3 (BA (SqT.of AE) ((RDs.rev r).ext R2 x3))
  .cases hm
 .cases hm
def Y7(h:QE K X e te m)(hs:QE K X stp ts ms)(hK:X.K=K:=by rfl):QE K X (.Subscript e (.Slice none none (some stp) p2) pos) (Ow K te ts) (HP m ms):=by
 subst hK;exact⟨YT h.p hs.p,XR h.r hs.r⟩
def Wh{Q:D->Hd->Prop}(h:WE m ls hd λd x=>WE ms ls x λi y=>i=.im (.int (-1))/\∃ds,AL d=some ds/\Q (AO ds.reverse) y):WE (HP m ms) ls hd Q:=by
 obtain⟨d,x,e1,i,y,e2,rfl,ds,e3,q⟩:=h;exact⟨_,_,by simp only[HP,e1,e2,bind_some,jj,e3,jr],q⟩
end
section
variable{K:Frag}
noncomputable def Cd(f g:D->D->Hd->Option (D×Hd))(ma mb mc:ME):ME:=λls hd=>(ma ls hd).bind λp=>(mb ls p.2).bind λq=>(f p.1 q.1 q.2).bind λr=>match r.1 with
 |.im (.bl k)=>if k=true then(mc ls r.2).bind λu=>g q.1 u.1 u.2 else some (.im (.bl false),r.2)
 |_=>none
def U6{f g:D->D->Hd->Option (D×Hd)}(hr:RB K r f)(hr':RB K r' g)(ha:RE K ta ma)(hb:RE K tb mb)(hc:RE K tc mc):RE K (Lj r r' ta tb tc) (Cd f g ma mb mc):=by
 and_intros;obtain⟨⟨d1,h1⟩,e1,hm⟩:=j6 hm;obtain⟨⟨d2,h2⟩,e2,hm⟩:=j6 hm;obtain⟨⟨d3,h3⟩,e3,hm⟩:=j6 hm;dsimp only at hm;refine ha ρ σ H hd ls _ d1 h1 hR hL e1 λρ1 H1 v1 x1 R1 r1=>?_;refine hb ρ1 σ H1 h1 ls _ d2 h2 R1 (hL.ext hR x1) e2 λρ2 H2 v2 x2 R2 r2=>?_;refine hr ρ2 H2 h2 d1 d2 v1 v2 _ d3 h3 R2 (r1.ext R1 x2) r2 e3 λρ3 H3 w x3 R3 r3=>?_;have X3:=(x1.trans R1 x2).trans R2 x3;split at hm
 .next k=>
  simp only[RD,RI]at r3;refine⟨k,r3,?_⟩;cases k with
  |false=>
   simp only[Bool.false_eq_true,jB]at hm ⊢;cases hm;exact hQ ρ3 H3 _ X3 R3 (by simp[RD,RI])
  |true=>
   simp only[jj]at hm ⊢;obtain⟨⟨d4,h4⟩,e4,hm⟩:=j6 hm;refine hc ρ3 σ H3 h3 ls _ d4 h4 R3 (hL.ext hR X3) e4 λρ4 H4 v4 x4 R4 r4=>?_;exact hr' ρ4 H4 h4 d2 d4 v2 v4 Q d hd' R4 ((r2.ext R2 x3).ext R3 x4) r4 hm λρ' H' w x5 R5 r5=>hQ ρ' H' w ((X3.trans R3 x4).trans R4 x5) R5 r5
 .cases hm
def UH{f g:D->D->Hd->Option (D×Hd)}(ho:OpR X (compareOp op) r)(hr:RB K r f)(ho':OpR X (compareOp op') r')(hr':RB K r' g)(ha:QE K X a ta ma)(hb:QE K X b tb mb)(hc:QE K X c tc mc)
 (hm:lastMarks [op,op'] [b,c]=false:=by with_unfolding_all rfl):QT K X (.Compare a [op,op'] [b,c] pos) (Ff (Lj r r' ta tb tc)) (A6 (Cd f g ma mb mc)):=⟨UW ho ho' ha.p hb.p hc.p hm,DS (U6 hr hr' ha.r hb.r hc.r)⟩
def TH{f g:D->D->Hd->Option (D×Hd)}{Q:D->Hd->Prop}(h:WE ma ls hd λd x=>WE mb ls x λe y=>WP (f d e y) λr z=>∃k,r=.im (.bl k)/\(k=true->WE mc ls z λu w=>WP (g e u w) Q)/\(k=false->Q (.im (.bl false)) z)):WE (Cd f g ma mb mc) ls hd Q:=by
 obtain⟨d,x,e1,e,y,e2,r,z,e3,k,rfl,h1,h2⟩:=h;cases k with
 |false=>exact⟨_,_,by simp only[Cd,e1,e2,e3,bind_some,Bool.false_eq_true,jB],h2 rfl⟩
 |true=>
  obtain⟨u,w,e4,v,t,e5,q⟩:=h1 rfl;exact⟨v,t,by simp only[Cd,e1,e2,e3,bind_some,jj,e4,e5],q⟩
end
end L2
namespace L2
open PySem PySem.Spec PyProof.Rows PySem.W
def MQ:List V->Hp->VK->Prop:=λxs H Q=>∃k,xs=[.bl k]/\Q (.str (if k then "True" else "False":Str)) H
def Py:CallR X (.builtin "repr") MQ:=by
 intro O s σ H xs us Q I r h;obtain⟨k,rfl,q⟩:=h;obtain⟨u,rfl,ru⟩:=BK r;cases ru;exact PySem.P.repr_of_bool ⟨.str (if k then "True" else "False":Str),H,I.tok _,⟨_,rfl⟩,q⟩
noncomputable def My:List D->Hd->Option (D×Hd)
 |[.im (.bl k)],hd=>some (.im (.str (if k then "True" else "False":Str)),hd)
 |_,_=>none
def U3{K:Frag}:RF K MQ My:=by
 intro ρ H hd ds vs Q z hd' hR h1 hf hQ;unfold My at hf;split at hf
 .cases hf;simp only[RDs,RD,RI]at h1;obtain⟨x,r,rfl,rfl,rfl⟩:=h1;exact⟨_,rfl,hQ ρ H _ .refl hR (by simp[RD,RI])⟩
 .cases hf
end L2
namespace L2
open PySem PySem.W
noncomputable def tg1:Expr->List Str
 |.Name x _=>[x]
 |_=>[]
noncomputable def tg2:Expr->List Str
 |.Tuple es _ _=>es.flatMap tg1
 |e=>tg1 e
noncomputable def tgN:Expr->List Str
 |.Tuple es _ _=>es.flatMap tg2
 |e=>tg1 e
noncomputable def frN(X:Cx)(ix:List Nat):List Str:=ix.filterMap λi=>X.N[i]?
noncomputable def ndB:List Str->Bool
 |[]=>true
 |x::xs=>!xs.elem x&&ndB xs
theorem FL:∀{l:List Str},ndB l=true->l.Nodup
 |[],_=>List.nodup_nil
 |x::xs,h=>by
  obtain⟨h1,h2⟩:=Bool.and_eq_true_iff.mp h;refine nodup_cons.mpr ⟨λhm=>?_,FL h2⟩;rw[List.elem_eq_true_of_mem hm]at h1;cases h1
section
variable{K:Frag}{X:Cx}{iter:Expr}{spos:Pos}{k i:Nat}
def qgA(hN:ndB X.N=true:=by kernel_rfl)(hi:X.N[i]?=some x:=by rfl)(hx:Loc X.env.scope x:=by first|exact Or.inl rfl|exact Or.inr rfl)(hf:X.fn x=true∨X.env.scope.names.lookup x=some .local:=by first|exact .inl rfl|exact .inr rfl):QG K X (.Name x pos) (Dk i) (AF i):=Y5 K (FL hN) hi hx hf
def qnA(hi:QI K X tg iter wi mi)(hg:∀s H ex,QG K (cCx X (tgN tg++frN X ix) scope s H ex) tg g n)(hf:∀s H ex,QF K (cCx X (tgN tg++frN X ix) scope s H ex) ifs tf mf)(he:∀s H ex,QE K (cCx X (tgN tg++frN X ix) scope s H ex) elt te me)
 (hc:X.calm=true:=by rfl) (S:CSc X scope (frN X ix) ix:=by exact⟨rfl,by decide +kernel,rfl,rfl,rfl,by decide +kernel⟩) (hs:∀x,foldedSetIterable iter X.env x=pure x:=by intro _;rfl) (hk:(tgN tg).length=k:=by rfl):
 QN K X (.ListComp elt [⟨tg,iter,ifs,0⟩] scope pos) (Fg k ix wi g tf te) (Ak k ix mi n mf me):=by
 subst hk;exact Xz K hc S hi hg hf he hs
def gE(hi:QI K X tg iter wi mi)(hg:∀s H ex,QG K (cCx X (tgN tg++frN X ix) scope s H ex) tg g n)(hf:∀s H ex,QF K (cCx X (tgN tg++frN X ix) scope s H ex) ifs tf mf)(he:∀s H ex,QE K (cCx X (tgN tg++frN X ix) scope s H ex) elt te me)
 (hsw:swapsWith (.ListComp elt [⟨tg,iter,ifs,0⟩] scope pos) (some (.Name y py)) spos.line X.env=pure true:=by rfl) (hN:ndB X.N=true:=by kernel_rfl) (hiN:X.N[i]?=some y:=by rfl) (hy:X.env.scope.names.lookup y=some .local:=by rfl)
 (hc:X.calm=true:=by rfl) (S:CSc X scope (frN X ix) ix:=by exact⟨rfl,by decide +kernel,rfl,rfl,rfl,by decide +kernel⟩) (hs:∀x,foldedSetIterable iter X.env x=pure x:=by intro _;rfl) (hk:(tgN tg).length=k:=by rfl):
 QS K X (.Assign [.Name y py] (.ListComp elt [⟨tg,iter,ifs,0⟩] scope pos) spos) (Eu (Fg k ix wi g tf te) (Dk i)) (AB i (Ag (Ak k ix mi n mf me))):=by
 subst hk;exact Xo K (FL hN) hiN hy hc S hi hg hf he hsw hs
def qdA(hi:QI K X tg iter wi mi)(hg:∀s H ex,QG K (cCx X (tgN tg++frN X ix) scope s H ex) tg g n)(hf:∀s H ex,QF K (cCx X (tgN tg++frN X ix) scope s H ex) ifs tf mf)(hkk:∀s H ex,QE K (cCx X (tgN tg++frN X ix) scope s H ex) k' tk mk)(hv:∀s H ex,QE K (cCx X (tgN tg++frN X ix) scope s H ex) v tv mv)
 (hc:X.calm=true:=by rfl) (S:CSc X scope (frN X ix) ix:=by exact⟨rfl,by decide +kernel,rfl,rfl,rfl,by decide +kernel⟩) (hs:∀x,foldedSetIterable iter X.env x=pure x:=by intro _;rfl) (hk:(tgN tg).length=k:=by rfl):
 QE K X (.DictComp k' v [⟨tg,iter,ifs,0⟩] scope pos) (GY (.dK []) k ix wi g tf (J9 tk tv)) (JA (Gn k ix mi n mf [] (HU mk mv))):=by
 subst hk;exact UR K hc S hi hg hf hkk hv hs
def qsA(he:QE K X e te me)(hs:swapsWith e (some (.Name x pos')) pos.line X.env=pure false:=by rfl)(hN:ndB X.N=true:=by kernel_rfl)(hi:X.N[i]?=some x:=by rfl)(hx:Loc X.env.scope x:=by first|exact Or.inl rfl|exact Or.inr rfl)(hf:X.fn x=true∨X.env.scope.names.lookup x=some .local:=by first|exact .inl rfl|exact .inr rfl):
 QS K X (.Assign [.Name x pos'] e pos) (Eu te (Dk i)) (AB i me):=aw K (FL hN) hi hx he hs hf
end
end L2
namespace L2
open PySem PySem.Spec PyProof.Rows PySem.W
noncomputable abbrev Tb:=Addr×Str×Nat×Nat
noncomputable def Yp(ts:List Tb):Obj:={ cls:=.str "tables" 0,data:=.fields (ts.flatMap λt=>[.ref t.1,.str t.2.1 0,.int t.2.2.1 0,.int t.2.2.2 0]).toArray }
noncomputable def B8(K:Frag)(ts:List Tb):Frag:=(K.filter λp=>!(ts.map (·.1)).contains p.1)++[(mainGlobals,Yp ts)]
theorem Qc:∀ts:List Tb,Ku (ts.flatMap λt=>[Value.ref t.1,.str t.2.1 0,.int t.2.2.1 0,.int t.2.2.2 0])=ts.map λt=>(t.1,t.2.1,⟨t.2.2.1,t.2.2.2,0,0⟩)
 |[]=>rfl
 |t::r=>by
  rw[List.flatMap_cons,je,<- Qc r];rfl
def Qb(K:Frag)(ts:List Tb):Ic (B8 K ts)=ts.map λt=>(t.1,t.2.1,⟨t.2.2.1,t.2.2.2,0,0⟩):=by
 unfold Ic B8;rw[List.getLast?_concat];show Ku _=_;rw[<- Qc ts]
theorem Ex{L:List Addr}{a:Addr}(ha:a∉L):∀K:Frag,(K.filter λp=>!L.contains p.1).lookup a=K.lookup a
 |[]=>rfl
 |(b,o)::r=>by
   have ih:=Ex ha r;rw[jR];by_cases hb:b∈L
   .have h1:(!L.contains (b,o).1)=false:=by simp[hb]
    have h2:(a==b)=false:=beq_eq_false_iff_ne.mpr λz=>ha (z ▸ hb);rw[ja (by rw[h1];decide),jk,h2,ih]
   .have h1:(!L.contains (b,o).1)=true:=by simp[hb]
    rw[j9 h1,jk,jk,ih]
theorem Gs{L:List Addr}{P:Addr}(hP:P∈L):∀K:Frag,(K.filter λp=>!L.contains p.1).lookup P=none
 |[]=>rfl
 |(b,o)::r=>by
   have ih:=Gs hP r;rw[jR];by_cases hb:b∈L
   .rw[ja (by simp[hb])];exact ih
   .have h2:(P==b)=false:=beq_eq_false_iff_ne.mpr λz=>hb (z ▸ hP);rw[j9 (by simp[hb]),jk,h2];exact ih
section
variable{K:Frag}{ts:List Tb}
def Ei{a:Addr}{o:Obj}(ha:a∉ts.map (·.1))(e:K.lookup a=some o):(B8 K ts).lookup a=some o:=by
 unfold B8;rw[jY,Ex ha,e];rfl
def Yo{h:Heap}(X:K.In h){g:Obj}(hg:K.lookup mainGlobals=some g)(hP:mainGlobals∉ts.map (·.1)):(B8 K ts).In h:=λa o e=>by
 unfold B8 at e;rw[jY]at e;by_cases ha:a∈ts.map (·.1)
 .rw[Gs ha,none_or]at e;have h2:(a==mainGlobals)=false:=beq_eq_false_iff_ne.mpr λz=>hP (z ▸ ha);rw[jk,h2]at e;cases e
 .rw[Ex ha]at e;cases k:K.lookup a with
  |some o'=>rw[k]at e;cases e;exact X _ _ k
  |none=>
   rw[k,none_or,jk]at e;by_cases hm:a=mainGlobals
   .subst hm;rw[hg]at k;cases k
   .rw[beq_eq_false_iff_ne.mpr hm]at e;cases e
def Yn(hM:mainGlobals∉ts.map (·.1)){P:Addr}(hP:P∈ts.map (·.1)):(B8 K ts).lookup P=none:=by
 unfold B8;have h2:(P==mainGlobals)=false:=beq_eq_false_iff_ne.mpr λz=>hM (z ▸ hP);rw[jY,Gs hP,none_or,jk,h2];rfl
def Fun.mark{st:Stmt}(D:Fun K x qual st f fd)(X:K.In h)(hP:∀P∈ts.map (·.1),h.get? P=some (tabObj #[])):Fun (B8 K ts) x qual st f fd:=by
 have neP:∀a o,K.lookup a=some o->o≠tabObj #[]->a∉ts.map (·.1):=λa o e n z=>by
  have:=X _ _ e;rw[hP a z]at this;exact n (Option.some.inj this).symm
 obtain⟨⟨oc,od,kV,doc,pm,an,cdv,ct,osl,rfl,lk,hcd⟩,kp⟩:=D;have hf:f∉ts.map (·.1):=neP f _ lk (λz=>by cases z);refine⟨⟨oc,od,kV,doc,pm,an,cdv,ct,osl,rfl,Ei hf lk,?_⟩,?_⟩
 .unfold codeIn at hcd ⊢;split at hcd
  .next c0=>
   split at hcd
   .next vs sl k=>
    have hc:c0∉ts.map (·.1):=neP c0 _ k (λz=>by
     have:vs=#[]:=by injection z with _ _ z _;injection z
     rw[this]at hcd;cases hcd)
    simp only[Ei hc k];exact hcd
   .cases hcd
  .cases hcd
 .unfold keepIn;simp only[Ei hf lk]
end
def eN{K:Frag}(hS:SqL K H a xs)(hO:∀ys,H a≠some (.lst ys)):RoL K H a xs:=by
 rcases hS with(h|h)|h
 .exact absurd h (hO xs)
 .exact .inl h
 .exact .inr h
def S2{Pg:Program}{w:World}{K:Frag}{mg mb:Str->Option Value}{k:Nat}{fa:Addr}{fd:FuncData}{ts:List Tb}{s₁:Shared}{vs:List Value}{F:List D->Hd->Option (D×Hd)}
 (KX:K.In s₁.heap) (hns:s₁.heap.Ns mainGlobals mg) (hb:s₁.heap.Ns builtinsNs mb) (hbb:∀x:Str,x≠"__name__"->mb x=bootBuiltins x) (hlim:s₁.heap.NoLimit) (hg:s₁.gens=#[])
 (ha:s₁.heap.get? a=some { cls:=.type "list",data:=.seq vs.toArray }) (hi:IntsAre vs ns) (hl:ns.length<=sizeLine) (hr:Room k callerA)
 (hT:∀P∈ts.map (·.1),∃cc,s₁.heap.TableAt cc P #[]) (hPK:∀P∈ts.map (·.1),K.lookup P=none) (htab:Ic K=ts.map λt=>(t.1,t.2.1,⟨t.2.2.1,t.2.2.2,0,0⟩))
 (Fn:∀base:Heap,K.In base->base.Ns mainGlobals mg->(∀b o,b∉ts.map (·.1)->b≠a->s₁.heap.get? b=some o->base.get? b=some o)->FnOk Pg w K mg base CX0 k fa fd [x] (spF K 1 F)) (hbind:∀(s:Shared) (u:Value),BindsTo s fd ⟨[u],[]⟩ [(x,u)])
 (hF:∃hd',F [.ro ns] []=some (.im (.bl true),hd')):
 codeAny (model Pg w) callerA (.call (.ref fa) ⟨[.ref a],[]⟩) (λr s'=>r=.ok (.ret (.bool true))/\OldK s₁.heap s'.heap/\s'.os=s₁.os/\AllBare s'.gens) s₁:=by
 have rv:=KA hi;have lenV:=hi.length;have hP:∀P∈ts.map (·.1),s₁.heap.get? P=some (tabObj #[]):=λP h=>let ⟨cc,t⟩:=hT P h;t.2
 have haP:a∉ts.map (·.1):=λz=>by rw[hP a z]at ha;cases ha
 have core:∀H:Hp,(∀b,b∉ts.map (·.1)->H b=none∨∃o xs,H b=some (.frz o (.lst xs)))->(∀P∈ts.map (·.1),H P=some (.tbl #[]))->SqL K H a (ns.map V.int)->HOk Pg w H s₁.heap->(∀b,H b≠none->b=a∨b∈ts.map (·.1))->(H a≠none->K.lookup a=none) ->
  codeAny (model Pg w) callerA (.call (.ref fa) ⟨[.ref a],[]⟩) (λr s'=>r=.ok (.ret (.bool true))/\OldK s₁.heap s'.heap/\s'.os=s₁.os/\AllBare s'.gens) s₁:=by
  intro H hO hHP hS hok hA hK;have base_of:∀{b:Addr} {o:Obj},s₁.heap.get? b=some o->H b=none->(G9 s₁.heap H).get? b=some o:=λe n=>VA e n;have noA:∀{b:Addr} {o:Obj} {es:Array DictEntry} {ep:Nat},s₁.heap.get? b=some o->o.data=.dict es ep->H b=none:=λ{b o es ep} e d=>by
   cases q:H b with
   |none=>rfl
   |some u=>
    rcases hA b (by rw[q];simp)with e'|e'
    .subst e';rw[ha]at e;cases e;have d':Data.seq vs.toArray _=Data.dict es ep:=d;cases d'
    .rw[hP b e']at e;cases e;cases d
  have nsK:∀{b:Addr} {m:Str->Option Value},s₁.heap.Ns b m->(G9 s₁.heap H).Ns b m:=λ{b m} ⟨o,es,ep,e,d,r⟩=>⟨o,es,ep,base_of e (noA e d),d,r⟩
  have hKb:K.In (G9 s₁.heap H):=λb o e=>base_of (KX b o e) (by
   cases q:H b with
   |none=>rfl
   |some u=>
    rcases hA b (by rw[q];simp)with e'|e'
    .subst e';rw[hK (by rw[q];simp)]at e;cases e
    .rw[hPK b e']at e;cases e)
  have hM:Mod K mg (G9 s₁.heap H):=⟨hKb,nsK hns,⟨mb,nsK hb,hbb⟩,let ⟨mc,h1,h2⟩:=hlim;⟨mc,nsK h1,h2⟩⟩
  have e0:Env0 Pg w K mg (G9 s₁.heap H) callerA [] s₁ H:=⟨rfl,hM,λb o e=>Yj e,Nat.le_of_eq (SA _ _),trivial,λb hb=>absurd (show b∈([]:List Addr)from hb) (by simp),hok,.of_eq hg⟩
  have hsp:spF K 1 F [.ref a] H (λv _=>v=.bl true) λ_ _ _=>False:=by
   obtain⟨hd',e⟩:=hF;refine⟨rfl,[],[],[.ro ns],.im (.bl true),hd',⟨rfl,List.nodup_nil,λy hy=>?_,λn o a h=>by simp at h⟩,?_,e,λρ' H' v _ _ r=>?_⟩
   .rw[htab]at hy;obtain⟨t,ht,rfl⟩:=mem_map.mp hy;exact⟨#[],hHP t.1 (mem_map.mpr ⟨t,ht,rfl⟩),.inl rfl⟩
   .simp only[RDs,RD];refine⟨_,_,rfl,⟨a,rfl,eN hS λys z=>?_⟩,rfl⟩;rcases hO a haP with q|⟨o,ys,q⟩<;>(rw[q]at z;cases z)
   .simpa only[RD,RI]using r
  refine kx ((Fn _ hKb (nsK hns) λb o n1 n2 e=>base_of e (by
   cases q:H b with
   |none=>rfl
   |some u=>
    rcases hA b (by rw[q];simp)with e'|e'
    .exact absurd e' n2
    .exact absurd e' n1)).run callerA [] s₁ H ⟨[.ref a],[]⟩ [.ref a] [.ref a] _ _ hr e0 (hbind s₁ (.ref a)) (.cons rfl .nil) hsp) λr s' h=>?_
  cases r with
  |error e=>exact h.elim
  |ok fl=>
   cases fl with
   |next=>exact False.elim h
   |brk=>exact False.elim h
   |cont=>exact False.elim h
   |ret u=>
    obtain⟨v,H',os,bare,un,hok',r',q⟩:=h;have q':v=.bl true:=q;subst q';obtain rfl:u=Value.bool true:=r';have keep:∀b o,b∉ts.map (·.1)->s₁.heap.get? b=some o->s'.heap.get? b=some o:=λb o nb e=>by
     cases q:H b with
     |none=>exact un.keep b o e q (by intro z;exact absurd (show b∈([]:List Addr)from z) (by simp)) (by simp)
     |some u=>
      rcases hO b nb with z|⟨ob,xs,z⟩
      .rw[q]at z;cases z
      .have z2:=un.frzs b ob _ z;obtain⟨e1,_⟩:=hok b _ z;obtain⟨e2,_⟩:=hok' b _ z2;rw[e]at e1;cases e1;exact e2
    refine⟨rfl,⟨λb o e=>?_,λb o e=>?_⟩,os,bare⟩
    .by_cases nb:b∈ts.map (·.1)
     .obtain⟨cc,tb⟩:=hT b nb;obtain⟨more,hm⟩:=un.tbls b #[] (hHP b nb);have hb':s'.heap.get? b=some (tabObj (#[]++more)):=hok' b _ hm;rw[hP b nb]at e;cases e;exact .inr (.inl ⟨tb.isCodeTable,rfl,#[],more,rfl,hb'⟩)
     .exact .inl (keep b o nb e)
    .by_cases nb:b∈ts.map (·.1)
     .obtain⟨more,hm⟩:=un.tbls b #[] (hHP b nb);exact⟨_,hok' b _ hm⟩
     .exact⟨o,keep b o nb e⟩
 cases hk:K.lookup a with
 |some o=>
  have e:=KX a o hk;rw[ha]at e;cases e;refine core (λb=>if b∈ts.map (·.1)then some (.tbl #[])else none) (λb nb=>.inl (ja nb)) (λP hp=>j9 hp) (.inr ⟨_,vs.toArray,_,hk,rfl,rfl,rfl,by rw[jf,lenV];exact hl,by simpa using rv⟩) (λb u z=>?_) (λb z=>?_) λz=>absurd (ja haP) z
  .by_cases hb:b∈ts.map (·.1)
   .have z':=(j9 hb).symm.trans z;cases z';exact hP b hb
   .have z':=(ja hb).symm.trans z;cases z'
  .by_cases hb:b∈ts.map (·.1)
   .exact .inr hb
   .exact absurd (ja hb) z
 |none=>
  refine core (λb=>if b∈ts.map (·.1)then some (.tbl #[])else if b=a then some (.frz { cls:=.type "list",data:=.seq vs.toArray } (.lst (ns.map V.int)))else none) (λb nb=>?_) (λP hp=>j9 hp) (.inl (.inr ⟨{ cls:=.type "list",data:=.seq vs.toArray },(ja haP).trans (j9 rfl)⟩)) (λb u z=>?_) (λb z=>?_) λ_=>hk
  .rw[ja nb];by_cases hb:b=a
   .exact .inr ⟨_,_,j9 hb⟩
   .exact .inl (ja hb)
  .by_cases hp:b∈ts.map (·.1)
   .have z':=(j9 hp).symm.trans z;cases z';exact hP b hp
   .have z:=(ja hp).symm.trans z;by_cases hb:b=a
    .have z':=(j9 hb).symm.trans z;cases z';subst hb;exact⟨ha,by rw[ji];exact hl,vs,_,rv,ha⟩
    .have z':=(ja hb).symm.trans z;cases z'
  .by_cases hp:b∈ts.map (·.1)
   .exact .inr hp
   .by_cases hb:b=a
    .exact .inl hb
    .exact absurd ((ja hp).trans (ja hb)) z
def walkL{l:OpenLaw}{n k:Nat}{XP:(Str->Option Value)->Heap->Prop}{YP:World->Heap->Prop}{d:DefRec}{K:Params->Frag}{F:List D->Hd->Option (D×Hd)}(xs:List (Str×Str×Nat×Nat))
 (hn:l.most=some n) (hn2:n<=sizeLine) (hdf:d.params.defaults=[]) (hr:Room k callerA) (hdr:∀x∈xs,∃dr,(recsOf q).find? (λe=>e.name==x.1)=some dr)
 (hF:∀ns:List Int,∃hd',F [.ro ns] []=some (.im (.bl true),hd'))
 (hY:∀(w:World) (h:Heap),YP w h->(K w.params).In h)
 (G:∀(w:World) (mg:Str->Option Value) (fa:Addr) (h:Heap) (c P:Str->Addr),(K w.params).In h->h.Ns mainGlobals mg->mg d.name=some (.ref fa) ->
  (∀x∈xs,h.get? (P x.1)=some (tabObj #[])/\CodeHd h (c x.1) (P x.1)/\∃a o fd,mg x.1=some (.ref a)/\h.get? a=some o/\o.data=.func fd/\fd.code=.ref (c x.1)) ->
  (∃g,(K w.params).lookup mainGlobals=some g)/\∃fd:FuncData,(∀(s:Shared) (u:Value),BindsTo s fd ⟨[u],[]⟩ [("_law_script",u)])/\
   ∀base:Heap,(B8 (K w.params) (xs.map λx=>(P x.1,x.2))).In base->base.Ns mainGlobals mg->(∀x∈xs,CodeHd base (c x.1) (P x.1))->(∀x∈xs,base.BuiltinsAt mg (P x.1))->FnOk l.prog w (B8 (K w.params) (xs.map λx=>(P x.1,x.2))) mg base CX0 k fa fd ["_law_script"] (spF (B8 (K w.params) (xs.map λx=>(P x.1,x.2))) 1 F)):
 PySem.W.WalkO q loose XP YP l.row.toRowW d [] (λf vs=>PySem.call f vs):=by
 refine Att.attach_call hn hdf λw s₀ s₁ mg mb fa o pm cd doc a vs ns Gr Y ho hd hcd hmg hobj hints hlen hg=>?_;have KX:=hY w _ Y;have each:∀x:Str,∃cp:Addr×Addr,(∃y∈xs,y.1=x)->(∃cc,s₁.heap.TableAt cc cp.2 #[])/\CodeHd s₁.heap cp.1 cp.2/\∃a o fd,mg x=some (.ref a)/\s₁.heap.get? a=some o/\o.data=.func fd/\fd.code=.ref cp.1:=by
  intro x;by_cases hx:∃y∈xs,y.1=x
  .obtain⟨y,hy,rfl⟩:=hx;obtain⟨dr,hdr⟩:=hdr y hy;have hnm:dr.name=y.1:=beq_iff_eq.mp (List.find?_some (p:=λe:DefRec=>e.name==y.1) hdr);obtain⟨a',o',fd',c,P,h1,h2,h3,h4,h5,h6⟩:=Gr.T.tab dr (List.mem_of_find?_eq_some hdr);rw[hnm]at h1;exact⟨(c,P),λ_=>⟨⟨_,h6⟩,CodeHd.of h5 h6,a',o',fd',h1,h2,h3,h4⟩⟩
  .exact⟨(0,0),λh=>absurd h hx⟩
 obtain⟨cp,hcp⟩:=Classical.skolem.mp each;have hcp:∀x∈xs,(∃cc,s₁.heap.TableAt cc (cp x.1).2 #[])/\CodeHd s₁.heap (cp x.1).1 (cp x.1).2/\∃a o fd,mg x.1=some (.ref a)/\s₁.heap.get? a=some o/\o.data=.func fd/\fd.code=.ref (cp x.1).1:=λx hx=>hcp x.1 ⟨x,hx,rfl⟩;have hts:∀P∈(xs.map λx=>((cp x.1).2,x.2)).map (·.1),∃x∈xs,P=(cp x.1).2:=λP hP=>by
  obtain⟨t,ht,rfl⟩:=mem_map.mp hP;obtain⟨x,hx,rfl⟩:=mem_map.mp ht;exact⟨x,hx,rfl⟩
 have hP:∀x∈xs,s₁.heap.get? (cp x.1).2=some (tabObj #[]):=λx hx=>by
  obtain⟨⟨cc,t⟩,_⟩:=hcp x hx;exact t.2
 have hmP:mainGlobals∉(xs.map λx=>((cp x.1).2,x.2)).map (·.1):=λz=>by
  obtain⟨x,hx,ez⟩:=hts _ z;obtain⟨o,es,ep,e,dd,_⟩:=Gr.T.g;rw[ez,hP x hx]at e;cases e;cases dd
 obtain⟨⟨g,hgl⟩,fd,hb,hFn⟩:=G w mg fa _ (λx=>(cp x).1) (λx=>(cp x).2) KX Gr.T.g hmg λx hx=>⟨hP x hx,(hcp x hx).2⟩
 refine S2 (ts:=xs.map λx=>((cp x.1).2,x.2)) (K:=B8 (K w.params) (xs.map λx=>((cp x.1).2,x.2))) (Yo KX hgl hmP) Gr.T.g Gr.T.b Gr.T.builtins Gr.T.nolimit hg hobj hints (jh hlen hn2) hr (λP hp=>by obtain⟨x,hx,rfl⟩:=hts P hp;exact(hcp x hx).1) (λP hp=>Yn hmP hp) (Qb _ _) (λbase kb nb keep=>hFn base kb nb (λx hx=>?_) λx hx=>?_) hb (hF ns)
 .obtain⟨oc,vs',file,tf,flags,tg,inF,text,tt,e1,r1,r2,r3,r4,r5,r6,r7,r8,hne⟩:=(hcp x hx).2.1;have hn:(cp x.1).1∉(xs.map λx=>((cp x.1).2,x.2)).map (·.1):=λz=>by
   obtain⟨y,hy,ez⟩:=hts _ z;rw[ez,hP y hy]at e1;cases e1;cases r1
  exact⟨oc,vs',file,tf,flags,tg,inF,text,tt,keep (cp x.1).1 oc hn (λz=>by rw[z,hobj]at e1;cases e1;exact absurd (show Value.type "list"=Value.type "code" from r1) (by decide)) e1,r1,r2,r3,r4,r5,r6,r7,r8,hne⟩
 .obtain⟨bm,ob,b1,b2,b3,b4,b5,b6⟩:=Gr.T.bmain;have nP:∀y∈xs,bm≠(cp y.1).2:=λy hy z=>by rw[z,hP y hy]at b3;cases b3;cases b4
  have hn:bm∉(xs.map λx=>((cp x.1).2,x.2)).map (·.1):=λz=>by
   obtain⟨y,hy,ez⟩:=hts _ z;exact nP y hy ez
  refine⟨bm,ob,b1,b2,λz=>?_,nP x hx,keep bm ob hn (λz=>by rw[z,hobj]at b3;cases b3;exact absurd (show Value.type "list"=Value.type "module" from b4) (by decide)) b3,b4,b5,b6⟩;obtain⟨o,es,ep,e,dd,_⟩:=Gr.T.g;rw[<- z,b3]at e;cases e;rw[b6]at dd;cases dd
end L2
namespace L2
open PySem PySem.W PyProof.Rows
noncomputable abbrev FD:=List D->Hd->Option (D×Hd)
structure EnK where
 P:Program
 w:World
 K:Frag
 mg:Str->Option Value
 base:Heap
structure Df where
 x:Str
 st:Stmt
 ps:List Str
 k:Nat
 F:FD
def Dn(E:EnK)(e:Df):Prop:=∃f fd,DefAt E.K E.mg e.x e.st f fd e.ps
def Kn(E:EnK)(e:Df):Prop:=∃f fd,DefAt E.K E.mg e.x e.st f fd e.ps/\FnOk E.P E.w E.K E.mg E.base CX0 e.k f fd e.ps (spF E.K e.ps.length e.F)/\∀ds hd z,e.F ds hd=some z->ds.length=e.ps.length
def okK{st:Stmt}{j k:Nat}(D:Dn E ⟨x,st,ps,k,F⟩)(S:FnScope N ps (A9 st))(hF:F=mkF ps.length N.length m)(hk:k=j+1)
 (h:∀(f:Addr) (cdv:Value) (A:Around) (outer:List Env) (s:Shared) (H:Hp) (Ek:XK),Room j (A.deeper (envOfC x (A9 st) s.heap.objs.size f cdv))->∃t,QSs E.K (DZ CX0 E.P E.w E.K E.mg E.base N x (A9 st) f cdv A outer s H Ek).nox (B6 st) t m):Kn E ⟨x,st,ps,k,F⟩:=by
 obtain⟨f,fd,D⟩:=D;subst hF;subst hk;exact⟨f,fd,D,Yi D S (h f),Ym⟩
section
variable{K:Frag}{X:Cx}{j k:Nat}{st:Stmt}
def qcW(w:Nat)(G:Kn ⟨X.prog,X.w,X.K,X.mg,X.base⟩ ⟨x,st,ps,j,F⟩)(hr:Room k X.A)(ha:QA K X (e::es) t m)
 (hjk:j<=k:=by first|decide|omega) (hg:Gl X x:=by rfl) (hdb:(x==("__debug__":Str))=false:=by decide) (he:starEach (e::es) X.env=(false,eval e X.env)::starEach es X.env:=by rfl) (hpl:(backTo pos (starEach es X.env)).any (·.1)=false:=by rfl) (hK:X.K=K:=by rfl):
 QE K X (.Call (.Name x p) (e::es) [] pos) (Bx (spF K ps.length F) [] E0 t) (A7 w F m):=by
 subst hK;obtain⟨f,fd,D,G,l⟩:=G;exact US _ w G hr D ha l hjk hg hdb he hpl
def qcG(G:Kn ⟨X.prog,X.w,X.K,X.mg,X.base⟩ ⟨x,st,ps,j,F⟩)(hr:Room k X.A)(ha:QA K X (e::es) t m)
 (hjk:j<=k:=by first|decide|omega) (hg:Gl X x:=by rfl) (hdb:(x==("__debug__":Str))=false:=by decide) (he:starEach (e::es) X.env=(false,eval e X.env)::starEach es X.env:=by rfl) (hpl:(backTo pos (starEach es X.env)).any (·.1)=false:=by rfl) (hK:X.K=K:=by rfl):
 QE K X (.Call (.Name x p) (e::es) [] pos) (Bx (spF K ps.length F) [] E0 t) (AW F m):=by
 subst hK;obtain⟨f,fd,D,G,l⟩:=G;exact UU _ G hr D ha l hjk hg hdb he hpl
def qcS(G:Kn ⟨X.prog,X.w,X.K,X.mg,X.base⟩ ⟨x,st,ps,j,F⟩)(hr:Room k X.A)(ha:QA K X (e::es) t m)
 (hjk:j<=k:=by first|decide|omega) (hg:Gl X x:=by rfl) (hdb:(x==("__debug__":Str))=false:=by decide) (he:starEach (e::es) X.env=(false,eval e X.env)::starEach es X.env:=by rfl) (hpl:(backTo pos (starEach es X.env)).any (·.1)=false:=by rfl) (hK:X.K=K:=by rfl):
 QE K X (.Call (.Name x p) (e::es) [] pos) (Bx (spF K ps.length F) [] E0 t) (Cs F m):=by
 subst hK;obtain⟨f,fd,D,G,l⟩:=G;exact UT _ G hr D ha l hjk hg hdb he hpl
def qc0(w:Nat)(G:Kn ⟨X.prog,X.w,X.K,X.mg,X.base⟩ ⟨x,st,ps,j,F⟩)(hr:Room k X.A)
 (hjk:j<=k:=by first|decide|omega) (hg:Gl X x:=by rfl) (hdb:(x==("__debug__":Str))=false:=by decide) (hK:X.K=K:=by rfl) (h0:ps.length=0:=by rfl):QE K X (.Call (.Name x p) [] [] pos) (Bx (spF K ps.length F) [] E0 Aq) (A7 w F A4):=by
 subst hK;obtain⟨f,fd,D,G,l⟩:=G;exact Re _ w G hr D l hjk hg hdb
end
def FnAt(K:Frag)(n:Str)(s:Stmt)(f:Addr)(cd:Value):Prop:=∃oc kV dc pm ct od an sl,nsIn K mainGlobals n=some (some (.ref f))/\K.lookup f=some ⟨oc,od,.func (fnOf n n (Bj s) (B6 s) (A9 s) .none kV dc pm an cd ct),sl⟩/\codeIn K cd n=true/\keepIn K (.ref f)=true
def Fe(K:Frag)(e:Df):Prop:=∃f cd,FnAt K e.x e.st f cd
noncomputable abbrev Xs:=List (Str×Str×Nat×Nat)
def HX(xs:Xs)(mg:Str->Option Value)(h:Heap)(c P:Str->Addr):Prop:=∀x∈xs,h.get? (P x.1)=some (tabObj #[])/\CodeHd h (c x.1) (P x.1)/\∃a o fd,mg x.1=some (.ref a)/\h.get? a=some o/\o.data=.func fd/\fd.code=.ref (c x.1)
noncomputable abbrev tbs(xs:Xs)(P:Str->Addr):List Tb:=xs.map λx=>(P x.1,x.2)
noncomputable abbrev enM(l:OpenLaw)(w:World)(K:Frag)(xs:Xs)(P:Str->Addr)(mg:Str->Option Value)(base:Heap):EnK:=⟨l.prog,w,B8 K (tbs xs P),mg,base⟩
def Bd(e:Df):Prop:=∀(kV doc pm:Value) (an:Option Addr) (cdv ct:Value) (us:List Value),us.length=e.ps.length->bindArgs (fnOf e.x e.x (Bj e.st) (B6 e.st) (A9 e.st) .none kV doc pm an cdv ct) ⟨us,[]⟩=pure (e.ps.zip us)
section
variable{K:Frag}{mg:Str->Option Value}{c P:Str->Addr}(X:K.In h)(G:h.Ns mainGlobals mg)(hx:HX xs mg h c P)
include hx in
theorem IS:∀P'∈(tbs xs P).map (·.1),h.get? P'=some (tabObj #[]):=λP' hp=>by
 obtain⟨t,ht,rfl⟩:=mem_map.mp hp;obtain⟨x,hxx,rfl⟩:=mem_map.mp ht;exact(hx x hxx).1
include X G hx in
theorem FnAt.def{e:Df}(H:FnAt K e.x e.st f cd)(b:Bd e):∃fd,DefAt (B8 K (tbs xs P)) mg e.x e.st f fd e.ps/\fd.code=cd:=by
 obtain⟨oc,kV,dc,pm,ct,od,an,sl,a,l,cc,k⟩:=H;have F:=Fun.mark (ts:=tbs xs P) (SD (st:=e.st) l cc k) X (IS hx);exact⟨_,⟨F,mg_of X G a,F.binds b⟩,rfl⟩
include X G hx in
theorem Fe.dn(H:Fe K e)(b:Bd e)(l:OpenLaw)(w:World)(base:Heap):Dn (enM l w K xs P mg base) e:=by
 obtain⟨f,cd,H⟩:=H;obtain⟨fd,D,_⟩:=H.def X G hx b;exact⟨f,fd,D⟩
include X G hx in
include X G hx in
end
def Zs(K:Frag):Prop:=∀n∈(["list","tuple","len","range","repr","sum","min","max","abs","all","any","sorted","zip","isinstance","int","bool","str","set","enumerate","reversed","dict"]:List Str),nsIn K mainGlobals n=some none
def Zs.blt{K:Frag}(Z:Zs K){mg:Str->Option Value}(X:K.In h)(G:h.Ns mainGlobals mg):BltA mg:=by
 constructor<;>exact PySem.W.mg_none_of X G (Z _ (by simp))
def bd0{e:Df}(hl:e.ps.length=0:=by rfl)(h:∀(kV doc pm:Value) (an:Option Addr) (cdv ct:Value),bindArgs (fnOf e.x e.x (Bj e.st) (B6 e.st) (A9 e.st) .none kV doc pm an cdv ct) ⟨[],[]⟩=pure (e.ps.zip []):=by intros;rfl):Bd e:=λ_ _ _ _ _ _ us hu=>match us,hu.trans hl with|[],_=>h ..
def bd1{e:Df}(hl:e.ps.length=1:=by rfl)(h:∀(kV doc pm:Value) (an:Option Addr) (cdv ct:Value) a,bindArgs (fnOf e.x e.x (Bj e.st) (B6 e.st) (A9 e.st) .none kV doc pm an cdv ct) ⟨[a],[]⟩=pure (e.ps.zip [a]):=by intros;rfl):Bd e:=λ_ _ _ _ _ _ us hu=>match us,hu.trans hl with|[_],_=>h ..
def bd2{e:Df}(hl:e.ps.length=2:=by rfl)(h:∀(kV doc pm:Value) (an:Option Addr) (cdv ct:Value) a b,bindArgs (fnOf e.x e.x (Bj e.st) (B6 e.st) (A9 e.st) .none kV doc pm an cdv ct) ⟨[a,b],[]⟩=pure (e.ps.zip [a,b]):=by intros;rfl):Bd e:=λ_ _ _ _ _ _ us hu=>match us,hu.trans hl with|[_,_],_=>h ..
def bd3{e:Df}(hl:e.ps.length=3:=by rfl)(h:∀(kV doc pm:Value) (an:Option Addr) (cdv ct:Value) a b c,bindArgs (fnOf e.x e.x (Bj e.st) (B6 e.st) (A9 e.st) .none kV doc pm an cdv ct) ⟨[a,b,c],[]⟩=pure (e.ps.zip [a,b,c]):=by intros;rfl):Bd e:=λ_ _ _ _ _ _ us hu=>match us,hu.trans hl with|[_,_,_],_=>h ..
def bd4{e:Df}(hl:e.ps.length=4:=by rfl)(h:∀(kV doc pm:Value) (an:Option Addr) (cdv ct:Value) a b c d,bindArgs (fnOf e.x e.x (Bj e.st) (B6 e.st) (A9 e.st) .none kV doc pm an cdv ct) ⟨[a,b,c,d],[]⟩=pure (e.ps.zip [a,b,c,d]):=by intros;rfl):Bd e:=λ_ _ _ _ _ _ us hu=>match us,hu.trans hl with|[_,_,_,_],_=>h ..
def BC{ps:List Str}{sc:Scope}(h:(decide (sc.kind=.function)&&!sc.isCoroutine&&!sc.isGenerator&&ndB N&&(N.take ps.length==ps)&&(ps.all λx=>sc.names.lookup x==some .local||sc.names.lookup x==some .cell)&&sc.names.all λy=>y.2 != .free)=true):FnScope N ps sc:=by
 simp only[Bool.and_eq_true,all_eq_true,Bool.or_eq_true,beq_iff_eq,kB,Bool.not_eq_true',bne_iff_ne]at h;obtain⟨⟨⟨⟨⟨⟨h1,h2⟩,h3⟩,h4⟩,h5⟩,h6⟩,h7⟩:=h;exact⟨h1,h2,h3,FL h4,h5,h6,h7⟩
abbrev HG(l:OpenLaw)(w:World)(K:Frag)(xs:Xs)(mg:Str->Option Value)(c P:Str->Addr)(fa:Addr)(e:Df):Prop:=(∃g,K.lookup mainGlobals=some g)/\∃fd:FuncData,(∀(s:Shared) (v:Value),BindsTo s fd ⟨[v],[]⟩ [("_law_script",v)])/\∀base:Heap,(B8 K (tbs xs P)).In base->base.Ns mainGlobals mg->(∀x∈xs,CodeHd base (c x.1) (P x.1))->(∀x∈xs,base.BuiltinsAt mg (P x.1))->FnOk l.prog w (B8 K (tbs xs P)) mg base CX0 e.k fa fd ["_law_script"] (spF (B8 K (tbs xs P)) 1 e.F)
def VB{K:Frag}{mg:Str->Option Value}{c P:Str->Addr}{e:Df}(X:K.In h)(G:h.Ns mainGlobals mg)(hfa:mg e.x=some (.ref fa))(hx:HX xs mg h c P)(H:Fe K e)(b:Bd e)(hps:e.ps=(["_law_script"]:List Str))
 (ok:∀base:Heap,(∀x∈xs,CodeHd base (c x.1) (P x.1))->(∀x∈xs,base.BuiltinsAt mg (P x.1))->Kn (enM l w K xs P mg base) e):
 HG l w K xs mg c P fa e:=by
 obtain⟨f,cd,H⟩:=H;obtain⟨fd,D,_⟩:=H.def X G hx b;obtain⟨oc,kV,dc,pm,ct,od,an,sl,a,lk,cc,k⟩:=H;have hg:∃g,K.lookup mainGlobals=some g:=by
  cases e:K.lookup mainGlobals with
  |some g=>exact⟨g,rfl⟩
  |none=>unfold nsIn at a;rw[e]at a;cases a
 have e1:=hfa.symm.trans D.mg;cases e1;refine⟨hg,fd,λs v=>?_,λbase _ _ hd bl=>?_⟩
 .obtain⟨⟨oc',od',kV',dc',pm',an',cd',ct',sl',rfl,_,_⟩,_⟩:=D.fn;have:=b kV' dc' pm' an' cd' ct' [v] (by rw[hps];rfl);rw[hps]at this;exact .of_eq this
 .obtain⟨f',fd',D',F',_⟩:=ok base hd bl;have e2:=D.mg.symm.trans D'.mg;cases e2;obtain⟨⟨oc',od',kV',dc',pm',an',cd',ct',sl',h1,h2,_⟩,_⟩:=D.fn;obtain⟨⟨oc2,od2,kV2,dc2,pm2,an2,cd2,ct2,sl2,h3,h4,_⟩,_⟩:=D'.fn;have e3:=h2.symm.trans h4;cases e3;rw[hps]at F';exact F'
end L2
namespace L2
open PySem PySem.Spec PyProof.Rows
noncomputable def E5{α:Type}:List (Option α)->Option (List α)
 |[]=>some []
 |some x::r=>(E5 r).map (x::·)
 |none::_=>none
noncomputable def pyN:Nat->Hd->D->Option PyData
 |_,_,.im i=>some i.py
 |_,_,.ro ns=>some (.list (I.pys (ns.map I.int)))
 |0,_,_=>none
 |n+1,hd,.tm ds=>(E5 (ds.map (pyN n hd))).map .tuple
 |n+1,hd,.mu k=>match hd[k]? with
  |some (.lst ds)=>(E5 (ds.map (pyN n hd))).map .list
  |_=>none
 |_+1,_,.op _ _ _=>none
section
variable{K:Frag}
theorem IZ{f:D->Option PyData}(hf:∀d v p,RD K ρ H d v->f d=some p->Rep K H p v):∀{ds:List D} {xs:List V} {ps:List PyData},RDs K ρ H ds xs->E5 (ds.map f)=some ps->Bc K H ps xs
 |[],xs,ps,r,e=>by
  simp only[RDs]at r;subst r;simp[E5]at e;subst e;simp only[Bc]
 |d::ds,xs,ps,r,e=>by
  simp only[RDs]at r;obtain⟨x,r',rfl,h1,h2⟩:=r;rw[je]at e;cases q:f d with
  |none=>rw[q]at e;cases e
  |some p=>
   rw[q]at e;obtain⟨ps',e1,rfl⟩:=j7 (show(E5 (ds.map f)).map (p::·)=some ps from e);simp only[Bc];exact⟨x,r',rfl,hf d x p h1 q,IZ hf h2 e1⟩
theorem FJ(hR:RH K ρ H hd):∀(n:Nat) (d:D) (v:V) (p:PyData),RD K ρ H d v->pyN n hd d=some p->Rep K H p v
 |n,.im i,v,p,h,e=>DT (hd:=hd) hR h (by cases n<;>exact e)
 |n,.ro ns,v,p,h,e=>DT (hd:=hd) hR h (by cases n<;>exact e)
 |0,.tm ds,v,p,h,e=>by cases e
 |0,.mu k,v,p,h,e=>by cases e
 |0,.op _ _ _,v,p,h,e=>by cases e
 |n+1,.op _ _ _,v,p,h,e=>by cases e
 |n+1,.tm ds,v,p,h,e=>by
  simp only[RD]at h;obtain⟨a,xs,rfl,q,r⟩:=h;obtain⟨ps,e1,rfl⟩:=j7 (show(E5 (ds.map (pyN n hd))).map PyData.tuple=some p from e);simp only[Rep];exact⟨a,xs,rfl,q,IZ (λd v p=>FJ hR n d v p) r e1⟩
 |n+1,.mu k,v,p,h,e=>by
  simp only[pyN]at e;simp only[RD]at h;obtain⟨a,hn,rfl⟩:=h;split at e
  .next ds q=>
   obtain⟨ps,e1,rfl⟩:=j7 e;obtain⟨xs,e2,e3⟩:=hR.lst hn q;simp only[Rep];exact⟨a,xs,rfl,SqL.of e2,IZ (λd v p=>FJ hR n d v p) e3 e1⟩
  .cases e
end
noncomputable def Gz(neg:Bool):D->D->Hd->Option (D×Hd):=λd e hd=>match pyN 30 hd d,pyN 30 hd e with
 |some x,some y=>if x.canLay0=true/\y.canLay0=true/\min x.depth y.depth<=60 then some (.im (.bl (if neg then !PyData.eqv x y else PyData.eqv x y)),hd)else none
 |_,_=>none
def ai{K:Frag}:RB K (PL K) (Gz false):=by
 intro ρ H hd d e v u Q z hd' hR h1 h2 hf hQ;unfold Gz at hf;split at hf
 .next e1 e2=>
  split at hf
  .next c=>cases hf;exact⟨_,_,FJ hR _ _ _ _ h1 e1,FJ hR _ _ _ _ h2 e2,c.1,c.2.1,c.2.2,hQ ρ H _ .refl hR (by simp[RD,RI])⟩
  .cases hf
 .cases hf
open Classical in
noncomputable def CI:List D->Hd->Option (D×Hd)
 |[d],hd=>match pyN 30 hd d with
  |some p=>if Gi p then some (.im (.str p.shown),hd)else none
  |none=>none
 |_,_=>none
def MD{K:Frag}:RF K (Ky K) CI:=by
 intro ρ H hd ds vs Q z hd' hR h1 hf hQ;unfold CI at hf;split at hf
 .split at hf
  .next p e=>
   split at hf
   .next c=>
    cases hf;simp only[RDs]at h1;obtain⟨x,r,rfl,rx,rfl⟩:=h1;exact⟨x,p,rfl,FJ hR _ _ _ _ rx e,c.1,c.2.1,c.2.2.1,c.2.2.2.1,c.2.2.2.2,hQ ρ H _ .refl hR (by simp[RD,RI])⟩
   .cases hf
  .cases hf
 .cases hf
section
variable{QE:D->Hd->Prop}
def Za{neg:Bool}(h1:pyN 30 hd d=some x)(h2:pyN 30 hd e=some y)(c:x.canLay0=true/\y.canLay0=true/\min x.depth y.depth<=60)(q:QE (.im (.bl (if neg then !PyData.eqv x y else PyData.eqv x y))) hd):WP (Gz neg d e hd) QE:=⟨_,_,by unfold Gz;rw[h1,h2];dsimp only;rw[j9 c],q⟩
def Fb(h1:pyN 30 hd d=some p)(c:Gi p)(q:QE (.im (.str p.shown)) hd):WP (CI [d] hd) QE:=⟨_,_,by show(match pyN 30 hd d with|some p=>_|none=>_)=_;rw[h1];exact j9 c,q⟩
end
end L2
namespace L2
open PySem PySem.Spec PyProof.Rows PySem.W
def RY(K:Frag):List V->Hp->VK->Prop:=λxs H Q=>(xs=[.non]/\Q (.str "None") H)∨MQ xs H Q∨(∃i,xs=[.int i]/\i.natAbs.log2<1920/\Q (.str (toString i)) H)∨(∃x,xs=[.str x]/\(reprText x).length<=sizeLine/\Q (.str (reprText x)) H)∨Ky K xs H Q
def Pz(K:Frag){X:Cx}(hg:X.A.guards=some [])(hu:X.A.units+64<cLine)(hK:X.K=K:=by rfl):CallR X (.builtin "repr") (RY K):=by
 intro O s σ H xs us Q I r h;rcases h with⟨rfl,q⟩|h|h|⟨x,rfl,hx,q⟩|h
 .obtain⟨u,rfl,ru⟩:=BK r;cases ru;exact PySem.P.repr_of_none ⟨.str "None",H,I.tok _,⟨_,rfl⟩,q⟩
 .exact Py O s σ H xs us Q I r h
 .exact Pw O s σ H xs us Q I r h
 .obtain⟨u,rfl,ru⟩:=BK r;obtain⟨t,rfl⟩:=ru;exact PySem.P.repr_of_str ⟨.str (reprText x),H,I.tok _,⟨_,rfl⟩,q⟩ hx
 .exact IA K hg hu hK O s σ H xs us Q I r h
open Classical in
noncomputable def Cj:List D->Hd->Option (D×Hd)
 |[.im .non],hd=>some (.im (.str "None"),hd)
 |[.im (.bl k)],hd=>My [.im (.bl k)] hd
 |[.im (.int i)],hd=>HA [.im (.int i)] hd
 |[.im (.str x)],hd=>if(reprText x).length<=sizeLine then some (.im (.str (reprText x)),hd)else none
 |ds,hd=>CI ds hd
def U4{K:Frag}:RF K (RY K) Cj:=by
 intro ρ H hd ds vs Q z hd' hR h1 hf hQ;unfold Cj at hf;split at hf
 .cases hf;simp only[RDs,RD,RI]at h1;obtain⟨x,r,rfl,rfl,rfl⟩:=h1;exact .inl ⟨rfl,hQ ρ H _ .refl hR (by simp[RD,RI])⟩
 .exact .inr (.inl (U3 ρ H _ _ _ Q z hd' hR h1 hf hQ))
 .exact .inr (.inr (.inl (U2 ρ H _ _ _ Q z hd' hR h1 hf hQ)))
 .split at hf
  .next c=>
   cases hf;simp only[RDs,RD,RI]at h1;obtain⟨x,r,rfl,rfl,rfl⟩:=h1;exact .inr (.inr (.inr (.inl ⟨_,rfl,c,hQ ρ H _ .refl hR (by simp[RD,RI])⟩)))
  .cases hf
 .exact .inr (.inr (.inr (.inr (MD ρ H _ _ _ Q z hd' hR h1 hf hQ))))
end L2
namespace L2
open PySem PySem.Spec PyProof.Rows
def Q8(v:Option Addr)(h:Heap)(T:Addr):Prop:=∃oT ts,h.get? T=some oT/\oT.data=.fields ts/\ts[3]?=some (v.elim Value.none λf=>rawInt f)
def gf(h:Heap)(T:Addr):Prop:=∃oT ts,h.get? T=some oT/\oT.data=.fields ts/\3<ts.size
def TbL(L:Addr)(h:Heap)(a:Addr)(tb:Value):Prop:=tb=.none∨∃T v,tb=.ref T/\T≠a/\(v=none∨v=some L)/\Q8 v h T
section
variable{A:Around}{E:Value->Shared->Prop}{s:Shared}
def OF{Q:Unit->Shared->Prop}(hfr:A.frames=some (env::outer))(hl:s.heap.FunFrames base (env::outer))(hf:env.frame=some L)(he:Exo s.heap a C dx tb)(ht:TbL L s.heap a tb)
 (h:∀h' T,(s.heap.objs.size<=T∨tb=.ref T)->T≠a->Exo h' a C dx (.ref T)->gf h' T->Note (frs (env::outer)) a tb s.heap h'->Q () { s with heap:=h' }):
 wpAny M A (noteFrame (.ref a) env) Q E s:=by
 have he0:=he;obtain⟨vs,sl,ha,h1⟩:=he;have sz:1<vs.size:=(Array.getElem?_eq_some_iff.mp h1).1;have frF:∀b∈frs (env::outer),∃o,s.heap.get? b=some o/\∀vs,o.data≠.fields vs:=λb hb=>(hl.mem hb).2;have naF:a∉frs (env::outer):=λhb=>by
  obtain⟨o,e,n⟩:=frF a hb;rw[ha]at e;cases e;exact n vs rfl
 have main:∀(h0:Heap) (hadNext:Bool),h0.objs.size=s.heap.objs.size->h0.get? a=some ⟨.ref C,dx,.fields vs,sl⟩->(∀b o,s.heap.get? b=some o->.ref b≠tb->h0.get? b=some o)->(∀b o,s.heap.get? b=some o->∃o',h0.get? b=some o')->h0.FunFrames base (env::outer) ->
  wpAny M A (do let f <- frameOf env;let pl <- entryPlaceOf L hadNext;let b <- EntryCells.newEntry tb f .none (rawInt L) .none pl;setField (.ref a) 1 b) Q E { s with heap:=h0 }:=by
  intro h0 hadNext hz ha0 k0 t0 hl0;refine j8 (wpAny_frameOf_fun (s:={ s with heap:=h0 }) hfr hl0 hf λh1' hs1=>?_);refine j8 (wpAny_entryPlaceOf λpl hpl=>?_);unfold EntryCells.newEntry newFields;refine j8 (jG ?_ (hpl.sizeOk5 _ _ _ _ _));generalize hob:({ cls:=.type "traceback",dict:=none,data:=.fields ([tb,.ref L,.none,rawInt L,.none]++(if pl.isEmpty then List.replicate 6 Value.none else pl)).toArray }:Obj)=ob;have hobd:ob.data=.fields ([tb,.ref L,.none,rawInt L,.none]++(if pl.isEmpty then List.replicate 6 Value.none else pl)).toArray:=by rw[<- hob]
  have z1:h1'.objs.size=s.heap.objs.size:=hs1.1.trans hz;have ha1:h1'.get? a=some ⟨.ref C,dx,.fields vs,sl⟩:=(hs1.2.1 a naF).trans ha0;have ha2:=Heap.get?_push_of_some (h:=h1') ob ha1;have nT:h1'.objs.size≠a:=k6 (Heap.lt_size ha1);have ha3:=Heap.get?_update_self (Obj.mapFields (·.setIfInBounds 1 (Value.ref h1'.objs.size))) ha2 (Obj.isFreed_of_fields (Obj.data_mapFields rfl _));have hT3:=(Heap.get?_update_other (h1'.push ob) (Obj.mapFields (·.setIfInBounds 1 (Value.ref h1'.objs.size))) (Ne.symm nT)).trans (Heap.get?_push_size h1' (by rw[<- hob];rfl));have three:3<([tb,.ref L,.none,rawInt L,.none]++(if pl.isEmpty then List.replicate 6 Value.none else pl)).toArray.size:=by simp only[jf,jv,jm,jL];omega
  refine kA ha2 rfl sz (h _ h1'.objs.size (.inl (Nat.le_of_eq z1.symm)) nT ⟨_,sl,ha3,by simp[sz]⟩ ⟨_,_,hT3,hobd,three⟩ ?_);have up:∀b o,h1'.get? b=some o->b≠a->((h1'.push ob).update a (Obj.mapFields (·.setIfInBounds 1 (Value.ref h1'.objs.size)))).get? b=some o:=λb o e n=>by
   rw[Heap.get?_update_other _ _ (Ne.symm n)];exact Heap.get?_push_of_some _ e
  refine⟨λb o e n1 n2 n3=>up b o ((hs1.2.1 b n3).trans (k0 b o e n2)) n1,λb o e hb=>?_,λb o e=>?_⟩
  .obtain⟨o',e',n⟩:=frF b hb;rw[e]at e';cases e';have hbt:.ref b≠tb:=by
    rcases ht with rfl|⟨T,v,rfl,_,_,oT,ts,eT,dT,_⟩
    .exact λq=>by cases q
    .intro q;cases q;rw[e]at eT;cases eT;exact n ts dT
   obtain⟨sl',e1⟩:=hs1.2.2 b o (k0 b o e hbt);exact⟨sl',up b _ e1 λq=>naF (q ▸ hb)⟩
  .by_cases q:b=a
   .subst q;exact⟨_,ha3⟩
   .obtain⟨o0,e0⟩:=t0 b o e;obtain⟨sl',e1⟩:=hs1.2.2 b o0 e0;exact⟨_,up b _ e1 q⟩
 unfold noteFrame;simp only[hf];refine j8 (jK ha rfl h1 ?_);rcases ht with rfl|⟨T,v,rfl,nTa,hv,oT,ts,eT,dT,e3⟩
 .rw[ja (by decide)];exact main s.heap _ rfl ha (λb o e _=>e) (λb o e=>⟨o,e⟩) hl
 .rw[j9 (show(Value.ref T != Value.none)=true from by simp)];refine j8 (jK eT dT e3 ?_);rcases hv with rfl|rfl
  .rw[ja (by simp[rawInt])];refine j8 (kA eT dT (Array.getElem?_eq_some_iff.mp e3).1 ?_);have oth:∀b,b≠T->(s.heap.update T (Obj.mapFields (·.setIfInBounds 3 Value.none))).get? b=s.heap.get? b:=λb n=>Heap.get?_update_other _ _ (Ne.symm n);refine main _ _ (by simp) ((oth a (Ne.symm nTa)).trans ha) (λb o e n=>(oth b λq=>n (by rw[q])).trans e) (λb o e=>?_) (hl.of_keeps λb o e n=>⟨o,(oth b λq=>?_).trans e,rfl⟩)
   .by_cases q:b=T
    .subst q;exact⟨_,Heap.get?_update_self _ eT (Obj.isFreed_of_fields (Obj.data_mapFields dT _))⟩
    .exact⟨o,(oth b q).trans e⟩
   .subst q;rw[eT]at e;cases e;exact n ts dT
  .rw[j9 (by simp)];exact jb (h s.heap T (.inr rfl) nTa he0 ⟨oT,ts,eT,dT,(Array.getElem?_eq_some_iff.mp e3).1⟩ ⟨λb o e _ _ _=>e,λb o e _=>⟨o.slots,e⟩,λb o e=>⟨o,e⟩⟩)
def OE(v:Option Addr){Q:Unit->Shared->Prop}(hfr:A.frames=some (env::outer))(hl:s.heap.FunFrames base (env::outer))(hf:env.frame=some L)(he:Exo s.heap a C dx tb)(ht:TbL L s.heap a tb)
 (h:∀h' T,(s.heap.objs.size<=T∨tb=.ref T)->T≠a->Exo h' a C dx (.ref T)->Q8 v h' T->Note (frs (env::outer)) a tb s.heap h'->Q () { s with heap:=h' }):
 wpAny M A (noteFrame (.ref a) env) (λ_ s2=>wpAny M A (setFlight (.ref a) v) Q E s2) E s:=by
 refine OF hfr hl hf he ht λh' T hT nT ex tr N=>?_;obtain⟨vs,sl,ha,h1⟩:=id ex;obtain⟨oT,ts,eT,dT,lt⟩:=tr;unfold setFlight;refine j8 (jK (s:={ s with heap:=h' }) ha rfl h1 ?_);rw[j9 (show(Value.ref T != Value.none)=true from by simp)];have oth:∀b,b≠T->(h'.update T (Obj.mapFields (·.setIfInBounds 3 (v.elim Value.none λf=>rawInt f)))).get? b=h'.get? b:=λb n=>Heap.get?_update_other _ _ (Ne.symm n);have nF:T∉frs (env::outer):=λhb=>by
  obtain⟨o,e,n⟩:=(hl.mem hb).2;rcases hT with z|z
  .exact absurd (Heap.lt_size e) (not_lt.mpr z)
  .rcases ht with y|⟨T',v',y,_,_,oT',ts',eT',dT',_⟩
   .rw[y]at z;cases z
   .rw[y]at z;cases z;rw[e]at eT';cases eT';exact n ts' dT'
 refine kA (s:={ s with heap:=h' }) eT dT lt (h _ T hT nT ⟨vs,sl,(oth a (Ne.symm nT)).trans ha,h1⟩ ⟨_,_,Heap.get?_update_self _ eT (Obj.isFreed_of_fields (Obj.data_mapFields dT _)),Obj.data_mapFields dT _,by simp[lt]⟩ ⟨λb o e n1 n2 n3=>?_,λb o e hb=>?_,λb o e=>?_⟩)
 .have:b≠T:=λz=>by
   subst z;rcases hT with z|z
   .exact absurd (Heap.lt_size e) (not_lt.mpr z)
   .exact n2 z.symm
  rw[oth b this];exact N.keep b o e n1 n2 n3
 .obtain⟨sl',e1⟩:=N.slot b o e hb;exact⟨sl',(oth b λz=>nF (z ▸ hb)).trans e1⟩
 .obtain⟨o',e1⟩:=N.there b o e;by_cases z:b=T
  .subst z;exact⟨_,Heap.get?_update_self _ eT (Obj.isFreed_of_fields (Obj.data_mapFields dT _))⟩
  .exact⟨o',(oth b z).trans e1⟩
def V5{Q:Unit->Shared->Prop}(hfr:A.frames=some (env::outer))(hl:s.heap.FunFrames base (env::outer))(hf:env.frame=some L)(he:Exo s.heap a C dx tb)(ht:TbL L s.heap a tb)
 (h:∀h' T,(s.heap.objs.size<=T∨tb=.ref T)->T≠a->Exo h' a C dx (.ref T)->Q8 none h' T->Note (frs (env::outer)) a tb s.heap h'->Q () { s with heap:=h' }):wpAny M A (leaving env (.ref a)) Q E s:=by
 unfold leaving;exact j8 (OE none hfr hl hf he ht h)
end
def XE(X:Cx)(O:List (Addr×Obj))(Q:VK)(e:Value)(s':Shared):Prop:=∃a C dx tb fs σ' H',e=.ref a/\Inv X O σ' H' s'/\Exo s'.heap a C dx tb/\TbL X.env.locals s'.heap a tb/\H' a=some (.ext (XO a C dx))/\
 (∀T,tb=.ref T->H' T=none/\New X O T)/\XdAt H' dx fs/\Q (.ref a) H'
noncomputable def CXG(P:Program)(w:World):CXT:=λouter H s E e s'=>∃a C dx T fs H',e=.ref a/\s'.os=s.os/\AllBare s'.gens/\Un (frs outer) [] H H' s.heap s'.heap/\HOk P w H' s'.heap/\Exo s'.heap a C dx (.ref T)/\T≠a/\Q8 none s'.heap T /\
 H' T=none/\s.heap.objs.size<=T/\H' a=some (.ext (XO a C dx))/\XdAt H' dx fs/\E (.ref a) none H'
section
def T2{K:Frag}{mg:Str->Option Value}{E':Value->Shared->Prop}
 (h:XE (DZ CX P w K mg base N qual scope fa cd A outer s H E).nox O Q e s') (hq:∀a H',Q (.ref a) H'->E (.ref a) none H'):
 wpAny M (A.deeper (envOfC qual scope s.heap.objs.size fa cd)) (leaving (envOfC qual scope s.heap.objs.size fa cd) e) (λ_ s''=>CXG P w outer H s E e s'') E' s':=by
 obtain⟨a,C,dx,tb,fs,σ',H',rfl,I,ex,ht,ha,hT,hd,q⟩:=h;have fr:=I.ok.frames;refine V5 (base:=base) (L:=s.heap.objs.size) fr I.stack rfl ex ht λh' T z nT ex' tr Nt=>?_;have hfs:∀b∈frs (envOfC qual scope s.heap.objs.size fa cd::outer),H' b=none:=I.stkFree;have hok':=Md I.hok Nt ex' ha (λT e=>(hT T e).1) hfs;have nx:∀b,b∉(DZ CX P w K mg base N qual scope fa cd A outer s H E).nox.ex:=λb z=>absurd (show b∈([]:List Addr)from z) (by simp);have u:=I.base;have out:∀b o,s.heap.get? b=some o->H b=none->b≠a/\.ref b≠tb/\b≠s.heap.objs.size:=λb o e n=>by
  have n':H' b=none:=u.free b o e n (nx b);refine⟨(λz=>by subst z;rw[ha]at n';cases n'),λz=>?_,jg (Heap.lt_size e)⟩;rcases(hT b z.symm).2.1 with y|y
  .exact absurd y (nx b)
  .exact absurd (jn (Heap.lt_size e) y) (jM _)
 have inF:∀b,b∈frs (envOfC qual scope s.heap.objs.size fa cd::outer)->b=s.heap.objs.size∨b∈frs outer:=λb hb=>by
  have:frs (envOfC qual scope s.heap.objs.size fa cd::outer)=s.heap.objs.size::frs outer:=rfl;rw[this]at hb;exact mem_cons.mp hb
 have tf:H' T=none/\s.heap.objs.size<=T:=by
  rcases z with z|z
  .exact⟨I.hok.fresh z,jh I.sz z⟩
  .refine⟨(hT T z).1,?_⟩;rcases(hT T z).2.1 with y|y
   .exact absurd y (nx T)
   .exact y
 refine⟨a,C,dx,T,fs,H',rfl,I.os,I.bare,⟨λb o e n nf _=>?_,λb o e n hf _=>?_,λb o e n _=>u.free b o e n (nx b),λb o e _=>?_,u.tups,u.frzs,u.tbls⟩,hok',ex',nT,tr,tf.1,tf.2,ha,hd,hq a H' q⟩
 .obtain⟨n1,n2,n3⟩:=out b o e n;exact Nt.keep b o (u.keep b o e n nf (nx b)) n1 n2 λhb=>(inF b hb).elim n3 nf
 .obtain⟨sl,e1⟩:=u.slot b o e n hf (nx b);obtain⟨sl',e2⟩:=Nt.slot b _ e1 (by
   show b∈s.heap.objs.size::frs outer;exact jq _ hf)
  exact⟨sl',e2⟩
 .obtain⟨o',e1⟩:=u.there b o e (nx b);exact Nt.there b o' e1
def QK(I:Inv X O σ H s)(h:CXG X.prog X.w X.stack H s E e s')(hq:∀a H',E (.ref a) none H'->Q (.ref a) H'):XE X O Q e s':=by
 obtain⟨a,C,dx,T,fs,H',rfl,os,bare,un,hok,ex,nT,tr,hT,z,ha,hd,q⟩:=h;exact⟨a,C,dx,.ref T,fs,σ,H',rfl,I.call' (ch:=[]) os un hok bare (λb z=>absurd z (by simp)),ex,.inr ⟨T,none,rfl,nT,.inl rfl,tr⟩,ha,λT' e=>by cases e;exact⟨hT,I.new z⟩,hd,hq a H' q⟩
end
section
variable{fI:Addr}{pos:Pos}{te:TE}
noncomputable def eL(K:Frag)(ta tv:TE)(f:Str):TS:=λD σ H=>tv σ H λy H1=>ta σ H1 λx H2=>∃a C t fI,x=.ref a/\H2 a=some (.ext (X0 a C t))/\XC K C fI/\CJ K C f /\
 ∀dx,H2 dx=none->dx≠a->D.nx σ (upd (upd H2 dx (.xd [(f,y)])) a (.ext (X1 a C dx t)))
def SK{h:Heap}(e:h.get? a=some o):ObjOk P w H h a (.ext λh=>h.get? a=some o):=⟨e,⟨_,e⟩,λ_ _ x k=>k _ x⟩
def YF(ha:PE X o ta)(hv:PE X value tv)(hs:swapsWith value (some (.Attribute o f pos')) pos.line X.env=pure false):PS X (.Assign [.Attribute o f pos'] value pos) (eL X.K ta tv f):=by
 intro O s σ H D I h;refine plainObj_wpAny_Assign_Attribute (thn (hv O s σ H _ I h) λuv s1 ⟨y,H1,I1,ry,q⟩=>thn (ha O s1 σ H1 _ I1 q) λov s2 ⟨x,H2,I2,rx,a,C,t,fI,ex,ea,c,n,q2⟩=>?_) hs;subst ex;obtain rfl:ov=Value.ref a:=rx;obtain⟨x0,_⟩:=(show ObjOk X.prog X.w H2 s2.heap a (.ext (X0 a C t))from I2.hok a _ ea)
 have hx:s2.heap.get? a=some ⟨.ref C,none,.fields #[.ref t,.none,.none,.none,.bool false,.none],#[]⟩:=x0;refine Wt I2.kIn c hx n λh' e1 e2 k=>⟨σ,_,?_,q2 s2.heap.objs.size (I2.hok.fresh (jc _)) (k6 (Heap.lt_size hx))⟩
 have nd:H2 s2.heap.objs.size=none:=I2.hok.fresh (jc _);have nda:s2.heap.objs.size≠a:=k6 (Heap.lt_size hx);have old:∀b u,H2 b=some u->b≠a->(upd (upd H2 s2.heap.objs.size (.xd [(f,y)])) a (.ext (X1 a C s2.heap.objs.size t))) b=some u:=λb u q n=>by
  rw[AD n,AD (AV q nd)];exact q
 have non:∀b o,s2.heap.get? b=some o->H2 b=none->(upd (upd H2 s2.heap.objs.size (.xd [(f,y)])) a (.ext (X1 a C s2.heap.objs.size t))) b=none/\b≠a:=λb o q n=>by
  have n1:b≠a:=λz=>by rw[z,ea]at n;cases n
  exact⟨by rw[AD n1,AD (jg (Heap.lt_size q))];exact n,n1⟩
 refine I2.un ⟨λb o q n _ _=>k b o (non b o q n).2 q,λb o q n _ _=>⟨o.slots,k b o (non b o q n).2 q⟩,λb o q n _=>(non b o q n).1,λb o q _=>?_,λb xs q=>old b _ q (λz=>by rw[z,ea]at q;cases q),λb o u q=>old b _ q (λz=>by rw[z,ea]at q;cases q),
  λb ps q=>⟨#[],by rw[old b _ q (λz=>by rw[z,ea]at q;cases q)];simp⟩⟩ λb u q=>?_
 .by_cases z:b=a
  .subst z;exact⟨_,e1⟩
  .exact⟨o,k b o z q⟩
 .by_cases z:b=a
  .subst z;rw[AE]at q;cases q;exact SK e1
  .rw[AD z]at q;by_cases z':b=s2.heap.objs.size
   .subst z';rw[AE]at q;cases q;refine⟨_,e2,λg=>?_⟩;show RelO (List.lookup g [(f,y)]) (if g=f then some uv else none);by_cases gz:g=f
    .subst gz;rw[j9 rfl,List.lookup_cons_self];exact ry
    .have g':(g==f)=false:=by simpa using gz
     rw[ja gz];unfold List.lookup;rw[g'];exact True.intro
   .rw[AD z']at q;refine(I2.hok b u q).stay (λc v hc r=>k c v ?_ r) (λc r=>old c _ r ?_) λc xs r=>old c _ r ?_
    .rcases hc with rfl|hc
     .exact z
     .intro zz;rw[zz,ea]at hc;cases hc
    .intro zz;rw[zz,ea]at r;cases r
    .intro zz;rw[zz,ea]at r;cases r
end
end L2
namespace L2
open PySem PySem.Spec PyProof.Rows
open Builtin Builtin.ObjectAttr
section
variable{E:Value->Shared->Prop}{s:Shared}{K:Frag}{fI x:Addr}{mA:Str->Option Value}
def Tf{Q:Unit->Shared->Prop}(X:K.In s.heap)(c:XC K C fI)(hx:s.heap.get? x=some ⟨.ref C,some dx,.fields vs,sl⟩)(hn:s.heap.Ns1 dx mA)(hw:Within mA ns)(hl:ns.length<=100)(na:findIn K (.ref C) name=some none)
 (h:∀h',h'.Ns1 dx (λy=>if y=name then some v else mA y)->(∀b o,b≠dx->s.heap.get? b=some o->h'.get? b=some o)->Q () { s with heap:=h',toks:=s.toks+2 }):
 wpAny (model prog w) A (setAttr (.ref x) name v) Q E s:=by
 have SF:=PySem.F.store_object;obtain⟨od,ho,_⟩:=Em hn;have I:PySem.W.InstAt s.heap x ⟨.ref C,some dx,.fields vs,sl⟩ C (some od):=⟨hx,rfl,rfl,ho⟩
 obtain⟨cd,hc,ov,hd⟩:=c.cls;have ne:cd.mro.isEmpty=false:=by cases q:cd.mro with|nil=>rw[q]at ov;cases ov|cons _ _=>rfl
 have sub:Looks (model prog w) s.heap (isInstance (.ref x) (.type "object")) true:=
  I.type.andThen (PySem.W.looks_mroIn X (by unfold mroIn;rw[hc,bind_some,ja (by rw[ne];decide),ov.has (by decide +kernel)]))
 have hm:Looks (model prog w) s.heap (mroOf (.ref C)) cd.mro:=(PySem.W.looks_clsIn X hc).andThen .now;refine PySem.W.set_plain X I c.sa (kG SF.slot.plain SF.entry (@PySem.W.check_slot (model prog w) _ _ _ "object.__setattr__" "object" "__setattr__" (.ref x) [.str name s.toks,v] [] _ SF.kind SF.split sub (SF.args (.ref x) (.str name s.toks) v) ?_));rw[PySem.W.osa_eq,refuse_eq];refine j8 (j8 (I.type.here (s:={ s with toks:=s.toks+1 }) (j8 (hm.here (s:={ s with toks:=s.toks+1 }) ?_))));rw[ov.sa];refine jb (j8 (I.type.here (s:={ s with toks:=s.toks+1 }) (j8 ((PySem.W.looks_findIn X na).here (s:={ s with toks:=s.toks+1 }) (j8 (jb ?_))))));refine j8 (jb (j8 (j8 (wpAny_loadPart hx (j8 (PySem.W.Looks.here (s:={ s with toks:=s.toks+1 }) (PySem.W.looks_clsIn X hc) ?_))))));rw[hd];refine jb ?_;show wpAny _ _ (storeInDict dx (.str name s.toks) name v) _ _ _;unfold storeInDict newKeyGuard;refine j8 (jb (j8 (wpAny_nsSet1 hn λh' hn' hs=>?_)));obtain⟨oD,esD,epD,hoD,hdD,hcD⟩:=hn'.count (hw.cons name v);refine j8 (wpAny_lookBehind hoD (by rw[hdD];exact pastItsLine_dict (jh hcD (by rw[jm,jF];omega))) ?_);exact jb (h h' hn' λb o n e=>(hs.2 b n).trans e)
end
section
variable{fI:Addr}{pos:Pos}{te:TE}
noncomputable def Zv(K:Frag)(ta tv:TE)(f:Str):TS:=λD σ H=>tv σ H λy H1=>ta σ H1 λx H2=>∃a C dx t fI fs,x=.ref a/\H2 a=some (.ext (X1 a C dx t))/\H2 dx=some (.xd fs)/\fs.length<=99/\fs.lookup f=none/\XC K C fI/\CJ K C f /\
 D.nx σ (upd H2 dx (.xd (fs++[(f,y)])))
theorem Mi:∀{fs:List (Str×V)},(fs++[(f,y)]).lookup g=match fs.lookup g with|some v=>some v|none=>if g=f then some y else none
 |[]=>by
  rw[jT,jk,List.lookup_nil];by_cases h:g=f
  .subst h;simp
  .have:(g==f)=false:=beq_eq_false_iff_ne.mpr h;simp[this,h]
 |(a,b)::fs=>by
   rw[jD,jk,jk];cases(g==a)with
   |true=>rfl
   |false=>exact Mi (fs:=fs)
def UX(ha:PE X o ta)(hv:PE X value tv)(hs:swapsWith value (some (.Attribute o f pos')) pos.line X.env=pure false):PS X (.Assign [.Attribute o f pos'] value pos) (Zv X.K ta tv f):=by
 intro O s σ H D I h;refine plainObj_wpAny_Assign_Attribute (thn (hv O s σ H _ I h) λuv s1 ⟨y,H1,I1,ry,q⟩=>thn (ha O s1 σ H1 _ I1 q) λov s2 ⟨x,H2,I2,rx,a,C,dx,t,fI,fs,ex,ea,ed,hl,hf,c,n,q2⟩=>?_) hs;subst ex;obtain rfl:ov=Value.ref a:=rx;obtain⟨x0,_⟩:=(show ObjOk X.prog X.w H2 s2.heap a (.ext (X1 a C dx t))from I2.hok a _ ea)
 have hx:s2.heap.get? a=some ⟨.ref C,some dx,.fields #[.ref t,.none,.none,.none,.bool false,.none],#[]⟩:=x0;obtain⟨mA,hn,hr⟩:=(show ObjOk X.prog X.w H2 s2.heap dx (.xd fs)from I2.hok dx _ ed)
 have hw:Within mA (fs.map (·.1)):=λg z=>by
  have:=hr g;cases lk:fs.lookup g with
  |none=>rw[lk]at this;cases mg:mA g with
   |none=>exact absurd mg z
   |some u=>rw[mg]at this;exact this.elim
  |some u=>
   refine mem_map.mpr ⟨(g,u),?_,rfl⟩;exact PySem.mem_of_lookup lk
 refine Tf I2.kIn c hx hn hw (by rw[ji];omega) n λh' e2 k=>⟨σ,_,?_,q2⟩
 have old:∀b u,H2 b=some u->b≠dx->(upd H2 dx (.xd (fs++[(f,y)]))) b=some u:=λb u q n=>by
  rw[AD n];exact q
 have non:∀b o,s2.heap.get? b=some o->H2 b=none->(upd H2 dx (.xd (fs++[(f,y)]))) b=none/\b≠dx:=λb o q n=>by
  have n1:b≠dx:=λz=>by rw[z,ed]at n;cases n
  exact⟨by rw[AD n1];exact n,n1⟩
 obtain⟨od,hod,_⟩:=Em e2;refine I2.un ⟨λb o q n _ _=>k b o (non b o q n).2 q,λb o q n _ _=>⟨o.slots,k b o (non b o q n).2 q⟩,λb o q n _=>(non b o q n).1,λb o q _=>?_,λb xs q=>old b _ q (λz=>by rw[z,ed]at q;cases q),λb o u q=>old b _ q (λz=>by rw[z,ed]at q;cases q),
  λb ps q=>⟨#[],by rw[old b _ q (λz=>by rw[z,ed]at q;cases q)];simp⟩⟩ λb u q=>?_
 .by_cases z:b=dx
  .subst z;exact⟨_,hod⟩
  .exact⟨o,k b o z q⟩
 .by_cases z':b=dx
  .subst z';rw[AE]at q;cases q;refine⟨_,e2,λg=>?_⟩;rw[Mi];have hg:=hr g;by_cases gz:g=f
   .subst gz;rw[j9 rfl,hf,j9 rfl];exact ry
   .rw[ja gz,ja gz];cases lk:fs.lookup g with
    |none=>rw[lk]at hg;exact hg
    |some u=>rw[lk]at hg;exact hg
  .rw[AD z']at q;refine(I2.hok b u q).stay (λc v hc r=>k c v ?_ r) (λc r=>old c _ r ?_) λc xs r=>old c _ r ?_
   .rcases hc with rfl|hc
    .exact z'
    .intro zz;rw[zz,ed]at hc;cases hc
   .intro zz;rw[zz,ed]at r;cases r
   .intro zz;rw[zz,ed]at r;cases r
noncomputable def spJ(C:Addr)(fs:List Str):Sp:=λvs H Q _=>∃a xs t,vs=.ref a::xs/\xs.length=fs.length/\H a=some (.ext (X0 a C t))/\(fs=[]->Q .non H)/\(fs≠[]->∀dx,H dx=none->dx≠a->Q .non (upd (upd H dx (.xd (fs.zip xs))) a (.ext (X1 a C dx t))))
end
def Uo{K:Frag}{mg:Str->Option Value}{st:Stmt}{fI:Addr}{f1:Str}(F:Fun K "__init__" qual st fa fd)(S:FnScope ["self",w1,w2] ["self",w1,w2] (A9 st))
 (hb:B6 st=[.Assign [.Attribute (.Name "self" p1) f1 p2] (.Name w1 p3) p4,.Assign [.Attribute (.Name "self" p5) f2 p6] (.Name w2 p7) p8]) (c:XC K C fI) (n1:CJ K C f1) (n2:CJ K C f2) (ne:(f2==f1)=false)
 (hs1:∀cdv A outer s H E,swapsWith (.Name w1 p3) (some (.Attribute (.Name "self" p1) f1 p2)) p4.line (DZ CX0 P w K mg base ["self",w1,w2] qual (A9 st) fa cdv A outer s H E).env=pure false)
 (hs2:∀cdv A outer s H E,swapsWith (.Name w2 p7) (some (.Attribute (.Name "self" p5) f2 p6)) p8.line (DZ CX0 P w K mg base ["self",w1,w2] qual (A9 st) fa cdv A outer s H E).env=pure false)
 (v0:Vis (A9 st) "self") (v1:Vis (A9 st) w1) (v2:Vis (A9 st) w2) (d1:(w1==("__debug__":Str))=false) (d2:(w1==("__classdict__":Str))=false) (d3:(w2==("__debug__":Str))=false) (d4:(w2==("__classdict__":Str))=false):FnOk P w K mg base CX0 1 fa fd ["self",w1,w2] (spJ C [f1,f2]):=by
 refine F.ok (N:=["self",w1,w2]) S (λvs H Q E h=>?_) λcdv A outer s H vs Q E hr hsp=>?_
 .obtain⟨a,xs,t,rfl,hl,_⟩:=h
  match xs,hl with
  |[x,y],_=>rfl
 .rw[hb];refine⟨_,MV (YF (Gg (i:=0) rfl v0 (by decide) (by decide)) (Gg (i:=1) rfl v1 d1 d2) (hs1 cdv A outer s H E)) (OA (UX (Gg (i:=0) rfl v0 (by decide) (by decide)) (Gg (i:=2) rfl v2 d3 d4) (hs2 cdv A outer s H E))),?_⟩;obtain⟨a,xs,t,rfl,hl,ha,q⟩:=hsp
  match xs,hl with
  |[x,y],_=>
  refine⟨x,rfl,.ref a,rfl,a,C,t,fI,rfl,ha,c,n1,λdx nd na=>?_⟩;refine⟨y,rfl,.ref a,rfl,a,C,dx,t,fI,[(f1,x)],rfl,AE,by rw[AD na,AE],by simp,by rw[jk,ne];rfl,c,n2,?_⟩;have e:upd (upd (upd H dx (.xd [(f1,x)])) a (.ext (X1 a C dx t))) dx (.xd ([(f1,x)]++[(f2,y)]))=upd (upd H dx (.xd ([f1,f2].zip [x,y]))) a (.ext (X1 a C dx t)):=by
   funext b;unfold upd
   by_cases z1:b=dx
   .have:b≠a:=λz=>na (z1 ▸ z);simp[z1,na]
   .by_cases z2:b=a
    .subst z2;simp[Ne.symm na]
    .simp[z1,z2]
  have:=q.2 (by simp) dx nd na;rw[<- e]at this;exact this
end L2
namespace L2
open PySem PySem.Spec PyProof.Rows
section
variable(C:Addr)(f:Str)
noncomputable def Ends.non(D:Ends):Ends:={ D with rt:=λ_ _=>False }
end
section
variable{C fI:Addr}{f:Str}{X:Cx}{st:Stmt}{rest:List Stmt}{t u:TS}{e:Expr}{es:List Expr}{te tb:TE}{pos:Pos}
def thx{α:Type}{M:Model}{A:Around}{m:Sem α}{P Q:α->Shared->Prop}{E E':Value->Shared->Prop}{s:Shared}(h:wpAny M A m P E s)(k:∀v s,P v s->Q v s)(j:∀e s,E e s->E' e s):wpAny M A m Q E' s:=jo h k j
noncomputable def Ld(t:TS):TS:=λD σ H=>t D.non σ H
noncomputable def Ov(ta te:TE):TE:=λσ H Q=>ta σ H λ_ H1=>te σ H1 Q
end
section
variable{fI:Addr}
def QX{E:Value->Shared->Prop}{i:Nat}{Q:Unit->Shared->Prop}(I:Inv X O σ H s)(hN:X.N.Nodup)(hi:X.N[i]?=some x)(hk:X.env.scope.names.lookup x=some .local)(hv:σ[i]?=some (some v))
 (h:∀s',Inv X O (σ.set i none) H s'->Q () s'):wpAny M A (unbindName X.env x) Q E s:=by
 obtain⟨m,hn,hl⟩:=id I.loc;have hcls:(X.env.scope.kind==.class||(X.env.scope.kind==.module&&X.env.locals != X.env.globals))=false:=by rw[I.ok.kind];rfl
 have hiσ:i<σ.length:=by rw[I.len];exact(List.getElem?_eq_some_iff.mp hi).1
 obtain⟨u,_,lk⟩:=hl i x v hi hv (.inl hk);have mu:m x=some u:=by
  rcases lk with⟨_,e⟩|⟨k,_⟩
  .exact e
  .rcases k with k|k<;>(have k':X.env.scope.names.lookup x=_:=k;rw[hk]at k';cases k')
 refine wpAny_unbindName_local hk hn mu hcls λh' u' hn' hs=>?_;obtain⟨oL,_,_,hoL,_⟩:=id hn;have low:∀b o,X.s₀.heap.get? b=some o->b≠X.env.locals:=λb o e=>jg (jn (Heap.lt_size e) I.ok.above);refine h _ ⟨I.ok,I.os,I.bare,⟨λb o e n hb hx=>(hs.2 b (low b o e)).trans (I.base.keep b o e n hb hx),λb o e n hb hx=>?_,I.base.free,λb o e hx=>?_,I.base.tups,I.base.frzs,I.base.tbls⟩,⟨_,hn',λj y v' e1 e2 e3=>?_⟩,λy c e=>?_,I.free,I.freeC,λp hp=>?_,λb ob e=>?_,by simpa using I.len⟩
 .obtain⟨sl,e1⟩:=I.base.slot b o e n hb hx;exact⟨sl,(hs.2 b (low b o e)).trans e1⟩
 .obtain⟨o',e1⟩:=I.base.there b o e hx;exact⟨o',(hs.2 b (low b o e)).trans e1⟩
 .by_cases hj:j=i
  .subst hj;rw[List.getElem?_set_self hiσ]at e2;cases e2
  .rw[List.getElem?_set_ne (Ne.symm hj)]at e2;obtain⟨u',r',q⟩:=hl j y v' e1 e2 e3;refine⟨u',r',?_⟩;rcases q with⟨k,e⟩|⟨k,c,e,z⟩
   .refine .inl ⟨k,?_⟩;have:y≠x:=λe=>hj (IP hN e1 (e ▸ hi));simp[this,e]
   .exact .inr ⟨k,c,e,z.sameBut hs (I.cne y c e)⟩
 .obtain⟨w',z⟩:=I.cell y c e;exact⟨w',z.sameBut hs (I.cne y c e)⟩
 .obtain⟨e,n,ne,nf,d⟩:=I.pin p hp;exact⟨(hs.2 p.1 ne).trans e,n,ne,nf,d⟩
 .refine(I.hok b ob e).stay (λc w' hc q=>(hs.2 c ?_).trans q) (λ_ q=>q) λ_ _ q=>q;rintro rfl;rcases hc with z|hc
  .rw[<- z,I.free]at e;cases e
  .rw[I.free]at hc;cases hc
def Mc{T:Addr}(I:Inv X O σ H s)(ha:H a=some (.ext (XO a C dx)))(hT:∀T,tb=.ref T->H T=none/\New X O T)(N:Note (frs X.stack) a tb s.heap h')(ex:Exo h' a C dx (.ref T)):Inv X O σ H { s with heap:=h' }:=by
 have na:∀b,H b=none->b≠a:=λb n z=>by rw[z,ha]at n;cases n
 have hok:=Md I.hok N ex ha (λT e=>(hT T e).1) I.stkFree;have all:∀ch:List Addr,(∀b,.ref b=tb->b∈ch)->Un (frs X.stack) ch H H s.heap h':=λch hc=>
  ⟨λb o e n nf nc=>N.keep b o e (na b n) (λz=>nc (hc b z)) nf,λb o e n hf nc=>N.slot b o e hf,λ_ _ _ n _=>n,λb o e _=>N.there b o e,λ_ _ e=>e,λ_ _ _ e=>e,λb ps e=>⟨#[],by rw[e];simp⟩⟩
 by_cases q:∃T,tb=.ref T
 .obtain⟨T0,e⟩:=q;exact I.call' (s':={ s with heap:=h' }) (ch:=[T0]) rfl (all [T0] λb z=>by rw[e]at z;cases z;simp) hok I.bare λb hb=>by
   have:b=T0:=by simpa using hb
   subst this;exact(hT b e).2
 .exact I.call' (s':={ s with heap:=h' }) (ch:=[]) rfl (all [] λb z=>absurd ⟨b,z.symm⟩ q) hok I.bare λb hb=>absurd hb (by simp)
noncomputable abbrev Cx.hand(X:Cx)(e:Value):Cx:={ X with A:=X.A.mark (some e),calm:=false,xe:=λ_ _=>False }
theorem Inv.hand(I:Inv X O σ H s)(e:Value):Inv (X.hand e) O σ H s:=
 ⟨⟨I.ok.mod,I.ok.kind,I.ok.glob,I.ok.blt,I.ok.above,I.ok.inj,I.ok.has,I.ok.cab,(λh=>by cases h),I.ok.frames,I.ok.stk,I.ok.exf,I.ok.bs,I.ok.bsz,I.ok.noex,I.ok.exfs,I.ok.funs,I.ok.frf⟩,I.os,I.bare,I.base,I.loc,I.cell,I.free,I.freeC,I.pin,I.hok,I.len⟩
def Inv.unhand(I:Inv (X.hand e) O σ H s)(hd:X.calm=true->X.A.handled=none):Inv X O σ H s:=
 ⟨⟨I.ok.mod,I.ok.kind,I.ok.glob,I.ok.blt,I.ok.above,I.ok.inj,I.ok.has,I.ok.cab,hd,I.ok.frames,I.ok.stk,I.ok.exf,I.ok.bs,I.ok.bsz,I.ok.noex,I.ok.exfs,I.ok.funs,I.ok.frf⟩,I.os,I.bare,I.base,I.loc,I.cell,I.free,I.freeC,I.pin,I.hok,I.len⟩
theorem O3:∀{cs:List Addr} {us:List Value},Vals (cs.map V.ref) us->us=cs.map Value.ref
 |[],_,.nil=>rfl
 |c::cs,_,.cons r t=>by rw[O3 t];rw[show _=Value.ref c from r];rfl
end
def GX(X:Cx)(st:Stmt)(t:TS):Prop:=
 ∀(O:List (Addr×Obj)) (s:Shared) (σ:St) (H:Hp) (D:Ends),Inv X O σ H s->t D σ H->wpAny (model X.prog X.w) X.A (exec st X.env) (SP X O D.non) (XE X O D.rt) s
def GXs(X:Cx)(st:List Stmt)(t:TS):Prop:=
 ∀(O:List (Addr×Obj)) (s:Shared) (σ:St) (H:Hp) (D:Ends),Inv X O σ H s->t D σ H->wpAny (model X.prog X.w) X.A (execs st X.env) (SP X O D.non) (XE X O D.rt) s
def GXE(X:Cx)(e:Expr)(t:TE):Prop:=
 ∀(O:List (Addr×Obj)) (s:Shared) (σ:St) (H:Hp) (Q:VK),Inv X O σ H s->t σ H Q->wpAny (model X.prog X.w) X.A (eval e X.env) (λ_ _=>False) (XE X O Q) s
def GXA(X:Cx)(es:List Expr)(t:TE):Prop:=
 ∀(pos:Pos) (O:List (Addr×Obj)) (s:Shared) (σ:St) (H:Hp) (Q:VK),Inv X O σ H s->t σ H Q->wpAny (model X.prog X.w) X.A (spliced (backTo pos (starEach es X.env))) (λ_ _=>False) (XE X O Q) s
section
variable{fI:Addr}{X:Cx}{st:Stmt}{rest:List Stmt}
def ON(h:PS X.nox st t):GX X st (Ld t):=λO s σ H D I q=>thx (h O s σ H D.non (I.wish _) q) (λ_ _ z=>z.unwish) λ_ _ z=>z.elim
def VC(h:PSs X.nox rest t):GXs X rest (Ld t):=λO s σ H D I q=>thx (h O s σ H D.non (I.wish _) q) (λ_ _ z=>z.unwish) λ_ _ z=>z.elim
def VD(h1:GX X st t)(h2:GXs X rest u):GXs X (st::rest) (Lc t u):=by
 intro O s σ H D I h;refine kE (thx (h1 O s σ H { D with nx:=u D } I h) (λfl s1 q=>?_) λ_ _ z=>z);cases fl with
 |next=>
  obtain⟨σ',H',I',q⟩:=q;exact h2 O s1 σ' H' D I' q
 |ret v=>exact q
 |brk=>exact q
 |cont=>exact q
def Z4(h1:GX X st t):GXs X [st] t:=by
 intro O s σ H D I h;refine kE (thx (h1 O s σ H D I h) (λfl s1 q=>?_) λ_ _ z=>z);cases fl with
 |next=>exact ko q
 |ret v=>exact q
 |brk=>exact q
 |cont=>exact q
def fT(hc:PT X.nox c tc)(ha:GXs X a t)(hb:GXs X b u):GX X (.If c a b pos) (Lg tc t u):=by
 intro O s σ H D I h;refine wpAny_If (thx (hc O s σ H _ (I.wish _) h) (λd s1 ⟨H1,I1,q1⟩=>?_) λ_ _ z=>z.elim);cases d with
 |true=>exact ha O s1 σ H1 D I1.unwish q1
 |false=>exact hb O s1 σ H1 D I1.unwish q1
def dH(he:GXE X e te):GX X (.Return (some e) pos) (IE te):=λO s σ H D I h=>
 wpAny_Return_some (thx (he O s σ H _ I h) (λ_ _ z=>z.elim) λ_ _ z=>z)
def dG(he:GXE X e te)(hs:swapsWith e (some (.Name x pos')) pos.line X.env=pure false:=by rfl):GX X (.Assign [.Name x pos'] e pos) (IE te):=λO s σ H D I h=>
 wpAny_Assign_Name (thx (he O s σ H _ I h) (λ_ _ z=>z.elim) λ_ _ z=>z) hs
def VE(he:GXE X e te)(hs:starEach (e::es) X.env=(false,eval e X.env)::starEach es X.env:=by rfl):GXA X (e::es) te:=by
 intro pos O s σ H Q I h;rw[hs];show wpAny _ _ (spliced ((false,eval e X.env)::backTo pos (starEach es X.env))) _ _ s;exact Calls.spliced_cons (thx (he O s σ H _ I h) (λ_ _ z=>z.elim) λ_ _ z=>z)
def SC(ha:PE X.nox e tb)(hr:GXA X es te)(hs:starEach (e::es) X.env=(false,eval e X.env)::starEach es X.env:=by rfl):GXA X (e::es) (Ov tb te):=by
 intro pos O s σ H Q I h;rw[hs];show wpAny _ _ (spliced ((false,eval e X.env)::backTo pos (starEach es X.env))) _ _ s;refine Calls.spliced_cons (thx (ha O s σ H _ (I.wish _) h) (λu s1 ⟨x,H1,I1,r1,q1⟩=>?_) λ_ _ z=>z.elim);exact thx (hr pos O s1 σ H1 Q I1.unwish q1) (λ_ _ z=>z.elim) λ_ _ z=>z
def Z5{x1}(h:GXA X es te):GXE X (.Tuple es x1 pos) te:=λO s σ H Q I hq=>
 wpAny_Tuple_spliced (thx (h pos O s σ H Q I hq) (λ_ _ z=>z.elim) λ_ _ z=>z)
def Nh(hst:X.stack=X.env::X.outer/\X.env.frame=some X.env.locals):∀e s',XE X (O++pl) Q e s'->notedBy (model X.prog X.w) X.A X.env (cameBackBy (model X.prog X.w) X.A X.env (XE X O Q)) e s':=by
 rintro e s1 ⟨a,C,dx,tb,fs,σ',H',rfl,I',ex,ht,ha,hT',hd,q⟩;have I1:=I'.unpinned;have hT:∀T,tb=.ref T->H' T=none/\New X O T:=λT e=>⟨(hT' T e).1,(hT' T e).2.1,(hT' T e).2.2.1,(hT' T e).2.2.2.1,λp hp=>(hT' T e).2.2.2.2 p (by
  rcases mem_append.mp hp with z|z
  .exact jQ _ z
  .exact jl _ (jQ _ z))⟩
 have fr:X.A.frames=some (X.env::X.outer):=by rw[<- hst.1];exact I1.ok.frames
 have fl0:s1.heap.FunFrames X.base (X.env::X.outer):=by rw[<- hst.1];exact I1.stack
 unfold notedBy cameBackBy;refine OF (base:=X.base) fr fl0 hst.2 ex ht λh' T z nT ex' tr N=>?_;obtain⟨vs,sl,ea,e1⟩:=id ex';refine j8 (jK (s:={ s1 with heap:=h' }) ea rfl e1 ?_);rw[ja (by simp)];obtain⟨oT,ts,eT,dT,lt⟩:=tr;unfold setFlight;refine j8 (jK (s:={ s1 with heap:=h' }) ea rfl e1 ?_);rw[j9 (show(Value.ref T != Value.none)=true from by simp)];have oth:∀b,b≠T->(h'.update T (Obj.mapFields (·.setIfInBounds 3 (X.env.frame.elim Value.none λf=>rawInt f)))).get? b=h'.get? b:=λb n=>Heap.get?_update_other _ _ (Ne.symm n);have I2:Inv X O σ' H' { s1 with heap:=h' }:=Mc I1 ha hT (by rw[hst.1];exact N) ex';have nw:H' T=none/\New X O T:=by
  rcases z with z|z
  .exact⟨I1.hok.fresh z,I1.new z⟩
  .exact hT T z
 have I3:=I2.turned (it:=T) (t':=s1.toks) (h':=h'.update T (Obj.mapFields (·.setIfInBounds 3 (X.env.frame.elim Value.none λf=>rawInt f)))) (λb o n e=>(Heap.get?_update_other _ _ (Ne.symm n)).trans e) nw.1 nw.2.2.1 nw.2.1 nw.2.2.2.1 nw.2.2.2.2;refine kA (s:={ s1 with heap:=h' }) eT dT lt ⟨a,C,dx,.ref T,fs,σ',H',rfl,I3,⟨vs,sl,(oth a (Ne.symm nT)).trans ea,e1⟩,.inr ⟨T,some X.env.locals,rfl,nT,.inr rfl,⟨_,_,Heap.get?_update_self _ eT (Obj.isFreed_of_fields (Obj.data_mapFields dT _)),Obj.data_mapFields dT _,by rw[hst.2];simp[lt]⟩⟩,ha,λT' e=>by cases e;exact nw,hd,q⟩
def dI{iter:Expr}(hst:X.stack=X.env::X.outer/\X.env.frame=some X.env.locals)(hc:X.calm=true)(hi:PI X.nox tg iter wi)(hg:PG X.nox tg g)(hb:GXs X body tb)
 (hs:∀x,foldedSetIterable iter X.env x=pure x:=by intro _;rfl):GX X (.For tg iter body [] pos) (Lh wi g tb):=by
 intro O s σ H D I h;have hp:PassesOwn (model X.prog X.w) X.A X.env (XE X O D.rt):=λe s' z=>Nh (pl:=[]) hst e s' (by rw[ju];exact z);refine wpAny_For (thx (hi O s σ H _ (I.wish _) h) (λv s1 h1=>thx h1 (λitv s2 h2=>?_) λ_ _ z=>z.elim) λ_ _ z=>z.elim) hs;obtain⟨it,fp,tn,J,H2,e,I2',T,st2,f2,W,⟨m0,w0⟩,turn⟩:=h2;have I2:=I2'.unwish;subst e;have stat:∀{H':Hp},(∀b∈fp,H' b=none)->∀b∈fp,CD X O H' b:=λhn b hb=>⟨hn b hb,(f2 b hb).2⟩
 refine codeAny_forLoop_any (λn s'=>∃i σ' H',Inv X O σ' H' s'/\tn i s'.heap/\(∀b∈fp,H' b=none)/\W i n σ' H') ?_ m0 ⟨0,σ,H2,I2,st2,λb hb=>(f2 b hb).1,w0⟩;rintro n s3 ⟨i,σ3,H3,I3,st3,fr3,w3⟩;rcases turn i n σ3 H3 w3 with⟨stop,qn⟩|⟨go,N,hN,step⟩
 .refine jW hp (thn (T.done X rfl rfl rfl hc i O s3 σ3 H3 _ I3 (stat fr3) st3 stop) λr s4 ⟨hr,I4⟩=>?_);subst hr;exact ko ⟨σ3,H3,I4,qn⟩
 .refine jW hp (thn (T.item X rfl rfl rfl hc i O s3 σ3 H3 _ I3 (stat fr3) st3 go) λr s4 ⟨u,hr,h4⟩=>?_);subst hr;refine jW hp (thn h4 λ_ s5 ⟨x,H5,I5,r5,y5,st5,fr5⟩=>?_);have I5':=I5.pinned (stat fr5) (T.obj _ _ st5);refine thx (hg _ s5 σ3 H5 x u _ (I5'.wish _) r5 (step x H5 y5)) (λ_ s6 ⟨σ6,H6,I6,q6⟩=>?_) λ_ _ z=>z.elim;refine thx (hb _ s6 σ6 H6 _ I6.unwish q6) (λf s7 q7=>?_) (Nh hst);have again:∀{σ7:St} {H7:Hp},Inv X (O++Du fp s5.heap) σ7 H7 s7->N σ7 H7->∃m,m<n/\∃i σ' H',Inv X O σ' H' s7/\tn i s7.heap/\(∀b∈fp,H' b=none)/\W i m σ' H':=λ{σ7 H7} I7 n7=>by
   obtain⟨m',hm,w7⟩:=hN σ7 H7 n7;refine⟨m',hm,i+1,σ7,H7,I7.unpinned,T.keep _ _ _ st5 λb hb o e=>(I7.pin (b,o) (jl _ (jl _ (BN hb e)))).1,λb hb=>?_,w7⟩;obtain⟨o,e,d⟩:=T.obj _ _ st5 b hb;exact(I7.pin (b,o) (jl _ (jl _ (BN hb e)))).2.1
  cases f with
  |next=>obtain⟨σ7,H7,I7,n7⟩:=q7;exact again I7 n7
  |cont=>obtain⟨σ7,H7,I7,n7⟩:=q7;exact again I7 n7
  |brk=>obtain⟨σ7,H7,I7,q7⟩:=q7;exact⟨σ7,H7,I7.unpinned,q7⟩
  |ret v=>obtain⟨_,_,_,_,_,z⟩:=q7;exact z.elim
noncomputable def JZ(mg:Str->Option Value)(x:Str)(fs:List Str)(ta:TA):TS:=λD σ H=>ta σ H λvs H1=>vs.length=fs.length/\∀C,mg x=some (.ref C)->∀a dx,H1 a=none->H1 dx=none->dx≠a->D.rt (.ref a) (upd (upd H1 dx (.xd (fs.zip vs))) a (.ext (XO a C (some dx))))
def VF{p:Pos}{k:Nat}(c:XC X.K C fI)(F:FnOk X.prog X.w X.K X.mg X.base CX0 k fI fd ps (spJ C fs))(hr:Room (k+1) X.A)(hb:Binds X.K fd ps [])(hl:ps.length=fs.length+1)(hl2:fs.length<=1000)(hne:fs≠[])(hcalm:X.calm=true)(hg:Gl X x)(hm:X.mg x=some (.ref C))(pa:PA X.nox (e::es) ta)
 (hdb:(x==("__debug__":Str))=false:=by decide) (hst:starEach (e::es) X.env=(false,eval e X.env)::starEach es X.env:=by rfl) (hpl:(backTo p1 (starEach es X.env)).any (·.1)=false:=by rfl):
 GX X (.Raise (some (.Call (.Name x p) (e::es) [] p1)) none pos) (JZ X.mg x fs ta):=by
 intro O s σ H D I h;refine RX (I.ok.hd hcalm) c (kr (EE I hg hm ?_ hdb));refine PySem.W.callWith_K (h₀:=X.base) I.ok.mod.kin c.kp (thx (pa p1 O s σ H _ (I.wish _) h) (λus s1 ⟨vs,H1,I1',r,q⟩=>⟨I1'.kIn,?_⟩) λ_ _ z=>z.elim) hst hpl;have I1:=I1'.unwish;obtain⟨hv,q⟩:=q;have q:=q C hm;have hu:us.length=fs.length:=by rw[<- r.length];exact hv
 obtain⟨nm,qn,N,bs,bm,sn,sub,ab,col,dd,k0,k1,k2,k3,k5,lk,ov⟩:=c.at_;obtain⟨hh,g,d,tk,os⟩:=s1;refine VW I1.kIn (I1.kIn _ _ lk) (ov.has (by decide +kernel)) (ov.not (by decide +kernel)) (ov.not (by decide +kernel)) c.init (beq_iff_eq.mp c.fn) (by show us.length<=sizeLine;rw[hu];exact jh hl2 (by decide)) ?_;have ke:∀b o,hh.get? b=some o->((hh.push { cls:=.type "tuple",data:=.seq us.toArray }).push (FZ C hh.objs.size)).get? b=some o:=λb o e=>Heap.get?_push_of_some _ (Heap.get?_push_of_some _ e);have ea:((hh.push { cls:=.type "tuple",data:=.seq us.toArray }).push (FZ C hh.objs.size)).get? (hh.objs.size+1)=some (FZ C hh.objs.size):=Heap.get?_push_at (by rw[Heap.size_push]) rfl;have na:H1 (hh.objs.size+1)=none:=I1.hok.fresh (le_succ _);have I2:=I1.laid (a:=hh.objs.size+1) (o:=.ext (X0 (hh.objs.size+1) C hh.objs.size)) (t':=tk) ke (le_succ _) (SK ea);refine kq (kx (F.run _ X.stack _ _ ⟨.ref (hh.objs.size+1)::us,[]⟩ (.ref (hh.objs.size+1)::us) (.ref (hh.objs.size+1)::vs)
  (λz H2=>z=.non/\∃dx,H2=upd (upd (upd H1 (hh.objs.size+1) (.ext (X0 (hh.objs.size+1) C hh.objs.size))) dx (.xd (fs.zip vs))) (hh.objs.size+1) (.ext (X1 (hh.objs.size+1) C dx hh.objs.size))/\H1 dx=none/\dx≠hh.objs.size+1) (λ_ _ _=>False)
  (hr.make C us []) (I2.env0.make C us []) (by have:=hb ⟨_,g,d,tk,os⟩ (.ref (hh.objs.size+1)::us) I2.kIn (by simp[hu,hl]);simpa using this) (.cons rfl r) ?_) λres s' hq=>?_)
 .refine⟨_,vs,hh.objs.size,rfl,hv,AE,(λz=>absurd z hne),λ_ dx n1 n2=>⟨rfl,dx,rfl,by rw[AD n2]at n1;exact n1,n2⟩⟩
 .cases res with
  |error x=>exact hq.elim
  |ok fl=>
   cases fl with
   |next=>exact hq.elim
   |brk=>exact hq.elim
   |cont=>exact hq.elim
   |ret rv'=>
    obtain⟨z,H3,I3,rz,ez,dx,eH,nd,ne⟩:=I2.after hq;subst ez;have hA:H3 (hh.objs.size+1)=some (.ext (X1 (hh.objs.size+1) C dx hh.objs.size)):=by rw[eH];exact AE
    obtain⟨x1,_⟩:=(show ObjOk X.prog X.w H3 s'.heap (hh.objs.size+1) (.ext (X1 (hh.objs.size+1) C dx hh.objs.size))from I3.hok _ _ hA)
    have x1:s'.heap.get? (hh.objs.size+1)=some ⟨.ref C,some dx,.fields #[.ref hh.objs.size,.none,.none,.none,.bool false,.none],#[]⟩:=x1;refine⟨rz,hh.objs.size+1,hh.objs.size,some dx,#[],rfl,I3.kIn,x1,hh.objs.size+1,C,some dx,.none,fs.zip vs,σ,upd H3 (hh.objs.size+1) (.ext (XO (hh.objs.size+1) C (some dx))),rfl,?_,⟨_,_,x1,rfl⟩,.inl rfl,AE,(λT e=>by cases e),?_,?_⟩
    .exact I3.write (x:=hh.objs.size+1) (e:=hh.objs.size+1) (t':=s'.toks) (by rw[hA];exact True.intro) (.inl rfl) (λ_ _ _ e=>e) ⟨_,x1⟩ ⟨⟨_,_,_,x1,rfl⟩,⟨_,x1⟩,λh1 h2 ⟨tb,vs,sl,e,z⟩ k=>⟨tb,vs,sl,k _ e,z⟩⟩
    .show upd H3 _ _ dx=_;rw[AD ne,eH,AD ne,AE]
    .have e2:upd H3 (hh.objs.size+1) (.ext (XO (hh.objs.size+1) C (some dx)))=upd (upd H1 dx (.xd (fs.zip vs))) (hh.objs.size+1) (.ext (XO (hh.objs.size+1) C (some dx))):=by
      rw[eH];funext b;unfold upd;by_cases z1:b=hh.objs.size+1
      .simp only[j9 z1]
      .simp only[ja z1]
     rw[e2];exact q _ dx na nd ne
end
def IY:bootBuiltins "isinstance"=some (.builtin "isinstance"):=by decide +kernel
def ZK:bootBuiltins "ValueError"=some (.type "ValueError"):=by decide +kernel
section
variable{fI:Addr}
def fA(hg:Gl X "ValueError")(hm:X.mg "ValueError"=none):PE X (.Name "ValueError" pos) (tC (.ty "ValueError")):=λO s σ H Q I h=>
 EV I hg hm ZK ⟨.ty "ValueError",H,I,rfl,h⟩
end
section
variable{X:Cx}
noncomputable def eG(K:Frag)(B:Addr)(D:Ends)(th:TS)(g:Addr->St)(u:St->St):VK:=λv H'=>∃a C dx fs,v=.ref a/\H' a=some (.ext (XO a C dx))/\XdAt H' dx fs/\PySem.W.exmOne K (.ref C) (.ref B)=some true /\
 th ⟨λσ2 H2=>D.nx (u σ2) H2,λ_ _=>False,λ_ _=>False,λ_ _=>False⟩ (g a) H'
noncomputable def Zh(K:Frag)(mg:Str->Option Value)(xB:Str)(D:Ends)(th:TS)(g:Addr->St)(u:St->St):VK:=λv H'=>∀B,mg xB=some (.ref B)->eG K B D th g u v H'
noncomputable def Ou(K:Frag)(mg:Str->Option Value)(xB:Str)(tb tx th:TS)(i:Option Nat):TS:=λD σ H=>tb D σ H∨tx ⟨λ_ _=>False,Zh K mg xB D th (λa=>match i with|some i=>(List.replicate σ.length none).set i (some (.ref a))|none=>List.replicate σ.length none) (λσ2=>match i with|some i=>σ2.set i none|none=>σ2),λ_ _=>False,λ_ _=>False⟩ σ H
def ZU(ex:Exo h a C dx tb)(e:HO.ext (XO a C dx)=.ext (XO a C' dx')):C'=C:=by
 have e1:XO a C dx=XO a C' dx':=by injection e
 have x:XO a C' dx' h:=by rw[<- e1];exact⟨tb,ex⟩
 obtain⟨tb',vs',sl',q',_⟩:=x;obtain⟨vs,sl,q,_⟩:=ex;rw[q]at q';have:=jA Obj.cls (Option.some.inj q');exact(Value.ref.inj this).symm
def YG{i:Nat}{pB ph pos:Pos}(hst:X.stack=X.env::X.outer/\X.env.frame=some X.env.locals)(hb:PSs X.nox body tb)(hx:GXs X body tx)(hg:Gl X xB)(hm:X.mg xB=some (.ref B))
 (hN:X.N.Nodup) (hi:X.N[i]?=some n) (hl:X.env.scope.names.lookup n=some .local) (hh:∀a,PSs (X.hand (.ref a)) (b0::suite) th) (hdb:(xB==("__debug__":Str))=false:=by decide):
 PS X (.Try body [.ExceptHandler (some (.Name xB pB)) (some n) (b0::suite) ph] [] [] pos) (Ou X.K X.mg xB tb tx th (some i)):=by
 intro O s σ H D I h;refine wpAny_Try_except ?_;rcases h with h|h
 .refine thx (hb O s σ H D (I.wish _) h) (λfl s1 q=>?_) λ_ _ z=>z.elim;have q:=q.unwish;cases fl with
  |next=>exact ko q
  |ret v=>exact q
  |brk=>exact q
  |cont=>exact q
 .refine thx (hx O s σ H _ I h) (λfl s1 q=>?_) λe s1 q=>?_
  .cases fl with
   |next=>obtain⟨_,_,_,z⟩:=q;exact z.elim
   |ret v=>obtain⟨_,_,_,_,_,z⟩:=q;exact z.elim
   |brk=>obtain⟨_,_,_,z⟩:=q;exact z.elim
   |cont=>obtain⟨_,_,_,z⟩:=q;exact z.elim
  .obtain⟨a,C,dx,tb',fs,σ',H',rfl,I1,ex,ht,ha,hT,hd,q⟩:=q;have fr:X.A.frames=some (X.env::X.outer):=by rw[<- hst.1];exact I1.ok.frames
   have fl0:s1.heap.FunFrames X.base (X.env::X.outer):=by rw[<- hst.1];exact I1.stack
   refine OE none (base:=X.base) fr fl0 hst.2 ex ht λh' T z nT ex' tr N=>?_;have I2:Inv X O σ' H' { s1 with heap:=h' }:=Mc I1 ha hT (by rw[hst.1];exact N) ex';have LT:Looks (model X.prog X.w) h' (typeOf (.ref a)) (.ref C):=by
    obtain⟨vs,sl,e,_⟩:=ex';exact(PySem.W.Looks.ld e).andThen .now
   obtain⟨a',C',dx',fs',ea',ha',hd',hB,q⟩:=q B hm;cases ea';obtain rfl:=ZU ex (Option.some.inj (ha.symm.trans ha'));refine wpAny_handleBy_cons (codeAny_handlers_test (EE (X:=X.hand (.ref a)) (I2.hand _) hg hm ?_ hdb)) (by intro q;cases q);refine PySem.W.Looks.here (s:={ s1 with heap:=h' }) (PySem.W.exm_one I2.kIn LT hB) ?_;refine codeAny_handlers_suite_as ?_;obtain⟨vs,sl,ea,e1⟩:=id ex';obtain⟨oT,ts,eT,dT,e3⟩:=tr;refine wpAny_setFlight_none (s:={ s1 with heap:=h' }) ea rfl e1 eT dT (Array.getElem?_eq_some_iff.mp e3).1 ?_;have nw:H' T=none/\New X O T:=by
    rcases z with z|z
    .exact⟨I1.hok.fresh z,I1.new z⟩
    .exact hT T z
   have I3:=I2.turned (it:=T) (t':=s1.toks) (h':=h'.update T (Obj.mapFields (·.setIfInBounds 3 Value.none))) (λb o n e=>(Heap.get?_update_other _ _ (Ne.symm n)).trans e) nw.1 nw.2.2.1 nw.2.1 nw.2.2.2.1 nw.2.2.2.2;have I3':=I3.weak (σ':=List.replicate σ.length none) (by rw[List.length_replicate,I.len,I3.len]) λi v e=>by
    rw[List.getElem?_replicate]at e;split at e<;>cases e
   refine Fh (v:=.ref a) I3' hN hi (.inl hl) rfl (λs4 I4=>?_) (.inr hl);refine thx (hh a O s4 _ H' _ (I4.hand _) q) (λfl s5 q5=>?_) λ_ _ z=>z.elim;cases fl with
   |next=>
    obtain⟨σ2,H2,I5,q6⟩:=q5;have I5:=I5.unhand I.ok.hd;show wpAny _ _ (do bindName X.env n .none;unbindBehindTheSuite X.env n ph) _ _ _;refine j8 (wpAny_bindName (Fh (v:=.non) I5 hN hi (.inl hl) rfl (λs6 I6=>?_) (.inr hl)));unfold unbindBehindTheSuite;have li:i<σ2.length:=by rw[I5.len];exact(List.getElem?_eq_some_iff.mp hi).1
    refine wpAny_onRaise (QX (v:=.non) I6 hN hi hl (List.getElem?_set_self li) λs7 I7=>?_);rw[List.set_set]at I7;exact⟨_,_,I7,q6⟩
   |ret v=>obtain⟨_,_,_,_,_,z⟩:=q5;exact z.elim
   |brk=>obtain⟨_,_,_,z⟩:=q5;exact z.elim
   |cont=>obtain⟨_,_,_,z⟩:=q5;exact z.elim
def N0(hok:HOk P w H h)(ha:H a=some (.ext (XO a C dx)))(hd:XdAt H dx fs):∃dx vs sl od,PySem.W.InstAt h a ⟨.ref C,dx,.fields vs,sl⟩ C od:=by
 obtain⟨⟨tb,vs,sl,e,_⟩,_⟩:=(show ObjOk P w H h a (.ext (XO a C dx))from hok a _ ha)
 cases dx with
 |none=>exact⟨none,vs,sl,none,e,rfl,rfl,trivial⟩
 |some dx=>
  obtain⟨mA,n,r⟩:=(show ObjOk P w H h dx (.xd fs)from hok dx _ hd)
  obtain⟨od,ho,hl⟩:=Em n;exact⟨some dx,vs,sl,some od,e,rfl,rfl,ho⟩
structure XK1(K:Frag)(C:Addr):Prop where
 xc:∃fI,XC K C fI
 xi:XI K C
def gD(K:Frag)(c:V)(u:Value):List V->Hp->VK->Prop:=λvs H Q=>∃a C dx fs b,vs=[.ref a,c]/\H a=some (.ext (XO a C dx))/\XdAt H dx fs/\XK1 K C/\PySem.W.kitOne K (.ref C) u=some b/\Q (.bl b) H
def VV(hu:∀u',RelV c u'->u'=u):CallR X (.builtin "isinstance") (gD X.K c u):=by
 intro O s σ H xs us Q I r h;obtain⟨a,C,dx,fs,b,rfl,ha,hd,⟨⟨fI,xc⟩,xi⟩,hk,q⟩:=h
 match us,r with
 |[u1,u2],.cons r1 (.cons r2 .nil)=>
 obtain rfl:u1=.ref a:=r1;obtain rfl:=hu u2 r2;exact PySem.W.kia_one (Mj xc xi) I.kIn (N0 I.hok ha hd) hk (by intro z;cases z) λtk=>⟨.bl b,H,I.tok tk,rfl,q⟩
def W0(K:Frag)(cs:List Addr):List V->Hp->VK->Prop:=λvs H Q=>∃a C dx fs tp b,vs=[.ref a,.ref tp]/\H a=some (.ext (XO a C dx))/\XdAt H dx fs/\H tp=some (.tup (cs.map V.ref))/\XK1 K C/\PySem.W.kitAny K (.ref C) (cs.map Value.ref)=some b/\Q (.bl b) H
def Sm:CallR X (.builtin "isinstance") (W0 X.K cs):=by
 intro O s σ H xs us Q I r h;obtain⟨a,C,dx,fs,tp,b,rfl,ha,hd,ht,⟨⟨fI,xc⟩,xi⟩,hk,q⟩:=h
 match us,r with
 |[u1,u2],.cons r1 (.cons r2 .nil)=>
 obtain rfl:u1=.ref a:=r1;obtain rfl:u2=.ref tp:=r2;obtain⟨_,its,r3,ob,e,hc,⟨n,hd'⟩,_⟩:=(show ObjOk X.prog X.w H s.heap tp (.tup (cs.map V.ref))from I.hok tp _ ht)
 obtain rfl:=O3 r3;obtain⟨oc,od,odt,osl⟩:=ob;subst hc hd';exact PySem.W.kia_tup (Mj xc xi) I.kIn (N0 I.hok ha hd) e hk (by intro z;cases z) λtk=>⟨.bl b,H,I.tok tk,rfl,q⟩
noncomputable def TR(K:Frag)(ta:TE)(f:Str):TE:=λσ H Q=>ta σ H λx H1=>∃a C dx fs v,x=.ref a/\H1 a=some (.ext (XO a C dx))/\XdAt H1 dx fs/\fs.lookup f=some v/\XK1 K C/\CJ K C f/\Q v H1
def bz(he:PE X e ta)(hb:attributeBase e f X.env (eval e X.env)=eval e X.env):PE X (.Attribute e f pos) (TR X.K ta f):=by
 intro O s σ H Q I h;refine ZO hb (thn (he O s σ H _ I h) λu s1 ⟨x,H1,I1,rx,a,C,dx,fs,v,ex,ha,hd,lk,⟨⟨fI,xc⟩,xi⟩,n,q⟩=>?_);subst ex;obtain rfl:u=Value.ref a:=rx;obtain⟨⟨tb,vs,sl,e1,_⟩,_⟩:=(show ObjOk X.prog X.w H1 s1.heap a (.ext (XO a C dx))from I1.hok a _ ha)
 obtain⟨dx,rfl⟩:∃d,dx=some d:=by
  cases dx with
  |none=>obtain rfl:fs=[]:=hd;cases lk
  |some d=>exact⟨d,rfl⟩
 obtain⟨mA,ns,r⟩:=(show ObjOk X.prog X.w H1 s1.heap dx (.xd fs)from I1.hok dx _ hd)
 obtain⟨u',hu,ru⟩:=RelO.some_of (v:=v) (o:=mA f) (by have:=r f;rw[lk]at this;exact this);exact Z7 I1.kIn xc e1 ns n hu (SB ru) ⟨v,H1,I1.tok _,ru,q⟩
end
noncomputable def DL(m:MS):MS:=λls hd=>(m ls hd).bind λp=>match p.1 with
 |.rt _=>none
 |fl=>some (fl,p.2)
noncomputable def Fu(ma me:ME):ME:=λls hd=>(ma ls hd).bind λp=>me ls p.2
noncomputable def mkX(k n:Nat)(m:MS):List D->Hd->Option (D×Hd):=λds hd=>if ds.length=k then(match m (ds.map some++List.replicate (n-k) none) hd with
 |some (.rt d,hd')=>some (d,hd')
 | _=>none)else none
def Yk{k n:Nat}:∀ds hd z,mkX k n m ds hd=some z->ds.length=k:=λds hd z h=>by
 unfold mkX at h;split at h
 .next e=>exact e
 .cases h
section
variable{K:Frag}
def XQ(ha:RE K ta ma)(he:RE K te me):RE K (Ov ta te) (Fu ma me):=by
 and_intros;obtain⟨⟨d1,h1⟩,e1,hm⟩:=j6 hm;refine ha ρ σ H hd ls _ d1 h1 hR hL e1 λρ1 H1 v1 x1 R1 _=>?_;exact he ρ1 σ H1 h1 ls Q d hd' R1 (RL.ext hR x1 hL) hm λρ2 H2 v2 x2 R2 r2=>hQ ρ2 H2 v2 (x1.trans R1 x2) R2 r2
def M8(h:RS K t m):RS K (Ld t) (DL m):=by
 intro ρ σ H hd ls E fl hd' hR hL hm hQ;obtain⟨⟨fl1,h1⟩,e1,hm⟩:=j6 hm;refine h ρ σ H hd ls E.non fl1 h1 hR hL e1 λρ' H' x R=>?_;cases fl1 with
 |rt d=>cases hm
 |nx l=>cases hm;exact hQ ρ' H' x R
 |bk l=>cases hm;exact hQ ρ' H' x R
 |ct l=>cases hm;exact hQ ρ' H' x R
def spF.mono{k:Nat}{F:List D->Hd->Option (D×Hd)}(h:spF K k F vs H Q E)(k':∀v H',Q v H'->Q' v H'):spF K k F vs H Q' E':=
 let ⟨a,ρ,hd,ds,d,hd',b,c,e,q⟩:=h;⟨a,ρ,hd,ds,d,hd',b,c,e,λρ' H' v x R r=>k' _ _ (q ρ' H' v x R r)⟩
end
end L2
namespace L2
open PySem PySem.Spec PyProof.Rows PySem.W
def Le(K K':Frag):Prop:=∀a o,K.lookup a=some o->(∀vs,o.data≠.fields vs)->K'.lookup a=some o
def FM{K:Frag}{ts:List Tb}(X:K.In h)(hP:∀P∈ts.map (·.1),h.get? P=some (tabObj #[])):Le K (B8 K ts):=λa o e n=>Ei (λz=>by
 have:=X _ _ e;rw[hP a z]at this;cases this;exact n _ rfl) e
section
variable{K:Frag}(L:Le K K')
include L
theorem Le.ns(e:nsIn K a n=some r):nsIn K' a n=some r:=by
 unfold nsIn at e ⊢;split at e
 .next c d es k sl ho=>rw[L a _ ho (λvs q=>by cases q)];exact e
 .cases e
theorem Le.own(e:ownIn K n c=some r):ownIn K' n c=some r:=by
 cases c with
 |ref a=>
  simp only[ownIn]at e ⊢;split at e
  .next c d cd sl ho=>rw[L a _ ho (λvs q=>by cases q)];exact L.ns e
  .cases e
 |_=>exact e
theorem Le.along:∀{l:List Value} {r:Option Value},alongIn K n l=some r->alongIn K' n l=some r
 |[],_,e=>e
 |c::l,r,e=>by
  simp only[alongIn]at e ⊢;split at e
  .next v q=>rw[L.own q];exact e
  .next q=>rw[L.own q];exact Le.along e
  .cases e
theorem Le.find(e:findIn K t n=some r):findIn K' t n=some r:=by
 cases t with
 |ref a=>
  simp only[findIn]at e ⊢;split at e
  .next c d cd sl ho=>rw[L a _ ho (λvs q=>by cases q)];exact L.along e
  .cases e
 |_=>exact e
theorem Le.cls(e:clsIn K C=some cd):clsIn K' C=some cd:=by
 unfold clsIn at e ⊢;split at e
 .next c d cd sl ho=>rw[L C _ ho (λvs q=>by cases q)];exact e
 .cases e
theorem Le.mro{r:Bool}(e:mroIn K C b=some r):mroIn K' C b=some r:=by
 obtain⟨cd,a,e⟩:=j6 e;unfold mroIn;rw[L.cls a];exact e
theorem Le.sub{r:Bool}(e:subIn K t b=some r):subIn K' t b=some r:=by
 cases t with
 |ref a=>exact L.mro e
 |_=>exact e
theorem Le.typeC(c:(clsIn K C).isSome=true)(e:typeIn K (.ref C)=some t):typeIn K' (.ref C)=some t:=by
 simp only[typeIn]at e ⊢;unfold clsIn at c;split at c
 .next x d cd sl ho=>rw[ho]at e;rw[L C _ ho (λvs q=>by cases q)];exact e
 .cases c
theorem Le.kitCls{r:Bool}(e:kitCls K t c=some r):kitCls K' t c=some r:=by
 unfold PySem.W.kitCls at e ⊢;split at e
 .next C=>
  split at e
  .next q=>
   have q1:(clsIn K C).isSome=true:=by cases z:(clsIn K C).isSome<;>simp[z]at q ⊢
   have q2:typeIn K (.ref C)=some (.type "type"):=by rw[q1]at q;simpa using q
   obtain⟨cd,hc⟩:=isSome_iff_exists.mp q1;rw[j9 (by rw[L.cls hc,L.typeC q1 q2];rfl)];exact L.sub e
  .cases e
 .next T=>
  split at e
  .next q=>rw[j9 q];exact L.sub e
  .cases e
 .cases e
theorem Le.kitOne{r:Bool}(e:kitOne K t c=some r):kitOne K' t c=some r:=by
 unfold PySem.W.kitOne at e ⊢;split at e
 .next q=>rw[j9 q];exact e
 .next q=>rw[ja q];exact L.kitCls e
theorem Le.kitAny:∀{cs:List Value} {r:Bool},kitAny K t cs=some r->kitAny K' t cs=some r
 |[],_,e=>e
 |c::cs,r,e=>by
  simp only[PySem.W.kitAny]at e ⊢;split at e
  .next q=>rw[L.kitOne q];exact e
  .next q=>rw[L.kitOne q];exact Le.kitAny e
  .cases e
theorem Le.exm{r:Bool}(e:exmOne K t c=some r):exmOne K' t c=some r:=by
 unfold PySem.W.exmOne at e ⊢;split at e
 .next q=>
  rw[j9 (by rw[L.sub (beq_iff_eq.mp q)];rfl)];exact L.kitCls e
 .cases e
theorem Le.noAttr(e:CJ K C f):CJ K' C f:=L.find e
theorem Le.xi(i:XI K C):XI K' C:=⟨L.find i.ca,i.gd,i.tk,L.mro i.mo⟩
theorem Le.xc{fI:Addr}(hf:∃o fd,K.lookup fI=some o/\o.data=.func fd)(c:XC K C fI):XC K' C fI:=by
 obtain⟨nm,q,N,bs,bm,sn,sub,ab,col,dd,k0,k1,k2,k3,k5,lk,ov⟩:=c.at_;have lk':=L C _ lk (λvs q=>by cases q);obtain⟨o,fd,e,d⟩:=hf;have e':=L fI o e (λvs q=>by rw[d]at q;cases q);refine⟨⟨nm,q,N,bs,bm,sn,sub,ab,col,dd,k0,k1,k2,k3,k5,lk',ov⟩,L.find c.init,?_,?_,L.find c.sa,L.find c.ga,L.find c.gx⟩
 .have:=c.fn;unfold PySem.W.isFn PySem.W.typeIn at this ⊢;dsimp only at this ⊢;rw[e]at this;rw[e'];exact this
 .have:=c.kp;unfold keepIn at this ⊢;dsimp only at this ⊢;rw[lk]at this;rw[lk'];dsimp only at this ⊢;unfold PySem.W.specialIn PySem.W.typeIn at this ⊢;dsimp only at this ⊢;rw[lk]at this;rw[lk'];exact this
end
end L2
namespace L2
open PySem PySem.Spec PyProof.Rows
structure Dj(m mn:MS):Prop where
 rt:∀ls hd d x,m ls hd=some (.rt d,x)->mn ls hd=none
 nx:∀ls hd fl x,m ls hd=some (fl,x)->(∀d,fl≠.rt d)->mn ls hd=some (fl,x)
def DjE(m mn:ME):Prop:=∀ls hd z,m ls hd=some z->mn ls hd=none
def DjA(m:ME)(mn:MA):Prop:=∀ls hd z,m ls hd=some z->mn ls hd=none
def DjF(X F:List D->Hd->Option (D×Hd)):Prop:=∀ds hd z,X ds hd=some z->F ds hd=none
section
variable{n1 n2:MS}{i:Nat}
def iy:Dj (DL m) m:=by
 constructor
 .intro ls hd d x e;obtain⟨⟨fl,y⟩,e1,e2⟩:=j6 e;cases fl<;>cases e2
 .intro ls hd fl x e n;obtain⟨⟨fl1,y⟩,e1,e2⟩:=j6 e;cases fl1<;>cases e2<;>exact e1
def JM(a:Dj m1 n1)(b:Dj m2 n2):Dj (A5 m1 m2) (A5 n1 n2):=by
 constructor
 .intro ls hd d x e;obtain⟨⟨fl,y⟩,e1,e2⟩:=j6 e;unfold A5;cases fl with
  |rt d1=>rw[a.rt _ _ _ _ e1];rfl
  |nx l=>rw[a.nx _ _ _ _ e1 (λd q=>by cases q)];exact b.rt _ _ _ _ e2
  |bk l=>cases e2
  |ct l=>cases e2
 .intro ls hd fl x e n;obtain⟨⟨fl1,y⟩,e1,e2⟩:=j6 e;unfold A5;cases fl1 with
  |rt d1=>cases e2;exact absurd rfl (n d1)
  |nx l=>rw[a.nx _ _ _ _ e1 (λd q=>by cases q)];exact b.nx _ _ _ _ e2 n
  |bk l=>cases e2;rw[a.nx _ _ _ _ e1 (λd q=>by cases q)];rfl
  |ct l=>cases e2;rw[a.nx _ _ _ _ e1 (λd q=>by cases q)];rfl
def LI(a:Dj m1 n1)(b:Dj m2 n2):Dj (AS c m1 m2) (AS c n1 n2):=by
 constructor
 .intro ls hd d x e;obtain⟨⟨q,y⟩,e1,e2⟩:=j6 e;unfold AS;rw[e1];dsimp only[bind_some]at e2 ⊢;cases q
  .exact b.rt _ _ _ _ e2
  .exact a.rt _ _ _ _ e2
 .intro ls hd fl x e n;obtain⟨⟨q,y⟩,e1,e2⟩:=j6 e;unfold AS;rw[e1];dsimp only[bind_some]at e2 ⊢;cases q
  .exact b.nx _ _ _ _ e2 n
  .exact a.nx _ _ _ _ e2 n
def aL(e:AI me ls hd=some (fl,x))(n:∀d,fl≠.rt d):False:=by
 obtain⟨⟨d,y⟩,e1,e2⟩:=j6 e;cases e2;exact n d rfl
def U5(e:AI me ls hd=some (.rt d,x)):∃z,me ls hd=some z:=by
 obtain⟨z,e1,e2⟩:=j6 e;exact⟨z,e1⟩
def SW(h:DjE me mf):Dj (AI me) (AB i mf):=⟨λls hd d x e=>by obtain⟨z,q⟩:=U5 e;simp only[JJ,h _ _ _ q,Option.bind_none],λ_ _ _ _ e n=>(aL e n).elim⟩
def NA(h:DjE me mf):DjA me (A1 mf mr):=λls hd z e=>by unfold A1;rw[h _ _ _ e];rfl
def Kb(h:DjA me mr):DjA (Fu ma me) (A1 ma mr):=λls hd z e=>by
 obtain⟨p,e1,e2⟩:=j6 e;unfold A1;rw[e1];show(mr ls p.2).bind _=none;rw[h _ _ _ e2];rfl
def OQ(h:DjA me mr):DjE me (Ad mr):=λls hd z e=>by unfold Ad;rw[h _ _ _ e];rfl
def de{k n:Nat}(h:Dj m mn):DjF (mkX k n m) (mkF k n mn):=by
 intro ds hd z e;unfold mkX at e;unfold mkF;split at e
 .next c=>
  rw[j9 c];split at e
  .next d x q=>rw[h.rt _ _ _ _ q]
  .cases e
 .cases e
def ZW{Q:Fl->Hd->Prop}(h:WS m ls hd λfl x=>(∀d,fl≠.rt d)/\Q fl x):WS (DL m) ls hd Q:=by
 obtain⟨fl,x,e,n,q⟩:=h;refine⟨fl,x,?_,q⟩;unfold DL;rw[e];cases fl with
 |rt d=>exact absurd rfl (n d)
 |_=>rfl
def We{Q:D->Hd->Prop}(h:WE ma ls hd λ_ x=>WE me ls x Q):WE (Fu ma me) ls hd Q:=WP.bind h
def Zf{k n:Nat}{ds:List D}{Q:D->Hd->Prop}(hl:ds.length=k)(h:WS m (ds.map some++List.replicate (n-k) none) hd λf x=>∃d,f=.rt d/\Q d x):WF (mkX k n m) ds hd Q:=by
 obtain⟨f,x,e,d,rfl,q⟩:=h;refine⟨d,x,?_,q⟩;unfold mkX;rw[j9 hl,e]
end
noncomputable def fu(tn tx:TS):TS:=λD σ H=>tn D.non σ H∨tx D σ H
noncomputable def Ew(mn mx:MS):MS:=λls hd=>match DL mn ls hd with
 |some r=>some r
 |none=>mx ls hd
section
variable{K:Frag}{X:Cx}{st:Stmt}
def dg(d:Dj mx mn):Dj (Ew mn mx) mn:=by
 constructor
 .intro ls hd d' x e;unfold Ew at e;split at e
  .next r q=>cases e;exact iy.rt _ _ _ _ q
  .exact d.rt _ _ _ _ e
 .intro ls hd fl x e n;unfold Ew at e;split at e
  .next r q=>cases e;exact iy.nx _ _ _ _ q n
  .exact d.nx _ _ _ _ e n
def WY{Q:Fl->Hd->Prop}(d:Dj mx mn)(h:WS mx ls hd λfl x=>∃d,fl=.rt d/\Q fl x):WS (Ew mn mx) ls hd Q:=by
 obtain⟨fl,x,e,d',rfl,q⟩:=h;have z:=d.rt _ _ _ _ e;refine⟨_,x,?_,q⟩;unfold Ew DL;rw[z];exact e
def VP:Dj CH mn:=⟨(λ_ _ _ _ e=>nomatch e),(λ_ _ _ _ e=>nomatch e)⟩
end
noncomputable def tXg(tc:TE):TE:=λσ H Q=>tc σ H λv H'=>∀a,v=.ref a->Q v H'
noncomputable def Cb(nm:Str)(fs:List Str)(ma:MA):MS:=λls hd=>(ma ls hd).bind λp=>if p.1.length=fs.length then some (.rt (.op nm fs p.1),p.2)else none
noncomputable def Ig(mg:Str->Option Value)(x:Str):TE:=λ_ H Q=>∀C,mg x=some (.ref C)->Q (.ref C) H
noncomputable def hLs(k:Nat)(i:Option Nat)(d:D):Ls:=match i with
 |some i=>(List.replicate k none).set i (some d)
 |none=>List.replicate k none
noncomputable def uLs(i:Option Nat)(ls:Ls):Ls:=match i with
 |some i=>ls.set i none
 |none=>ls
noncomputable def Di(ns:List Str)(i:Option Nat)(mb mx mh:MS):MS:=λls hd=>match mb ls hd with
 |some r=>some r
 |none=>match mx ls hd with
  | some (.rt (.op nm fs ds),hd')=>if nm∈ns then(match mh (hLs ls.length i (.op nm fs ds)) hd' with
   |some (.nx l2,hd2)=>some (.nx (uLs i l2),hd2)
   | _=>none)else none
  |_=>none
noncomputable def Cc(tb:List (Str×Bool))(m:ME):ME:=λls hd=>(m ls hd).bind λp=>match p.1 with
 |.op nm _ _=>(tb.lookup nm).map λb=>(.im (.bl b),p.2)
 |_=>none
noncomputable def Fw(ns:List Str)(f:Str)(m:ME):ME:=λls hd=>(m ls hd).bind λp=>match p.1 with
 |.op nm fs ds=>if nm∈ns/\ds.length=fs.length then((fs.zip ds).lookup f).map λd=>(d,p.2)else none
 |_=>none
section
variable{K:Frag}{mg:Str->Option Value}
def eP(h:RE K tc m):RE K (tXg tc) m:=λρ σ H hd ls Q d hd' hR hL hm hQ=>h ρ σ H hd ls _ d hd' hR hL hm λρ' H' v x R r a _=>hQ ρ' H' v x R r
def Qv{nm:Str}(hc:∀C,mg x=some (.ref C)->clsAt K nm=some C)(h:RA K ta ma):RS K (JZ mg x fs ta) (Cb nm fs ma):=by
 intro ρ σ H hd ls E fl hd' hR hL hm hQ;obtain⟨⟨ds,h1⟩,e1,hm⟩:=j6 hm;dsimp only at hm;split at hm
 .next hl=>
  cases hm;refine h ρ σ H hd ls _ ds _ hR hL e1 λρ1 H1 vs x1 R1 r1=>⟨by rw[r1.len];exact hl,λC hC a dx na nd ne=>?_⟩
  obtain⟨R2,x2⟩:=R1.hid nd (ho:=.xd (fs.zip vs));obtain⟨R3,x3⟩:=R2.hid (a:=a) (by rw[AD (Ne.symm ne)];exact na) (ho:=.ext (XO a C (some dx)));refine hQ ρ1 _ ((x1.trans R1 x2).trans R2 x3) R3 (.ref a) ?_;simp only[RD];exact⟨a,vs,rfl,⟨C,some dx,hc C hC,AE,by show upd _ _ _ dx=_;rw[AD ne,AE],by rw[r1.len];exact hl⟩,(r1.ext R1 x2).ext R2 x3⟩
 .cases hm
def fz{k:Nat}(r:RD K ρ H d v):RL K ρ H (hLs k i d) (match i with|some i=>(List.replicate k none).set i (some v)|none=>List.replicate k none):=by
 cases i with
 |none=>exact⟨by simp[hLs],λj d e=>by simp only[hLs]at e;rw[List.getElem?_replicate]at e;split at e<;>cases e⟩
 |some i=>
  refine⟨by simp[hLs],λj d' e=>?_⟩;simp only[hLs]at e;by_cases z:i=j
  .subst z;have li:i<k:=by have:=(List.getElem?_eq_some_iff.mp e).1;simpa using this
   rw[List.getElem?_set_self (by simpa using li)]at e;cases e;exact⟨v,List.getElem?_set_self (by simpa using li),r⟩
  .rw[List.getElem?_set_ne z,List.getElem?_replicate]at e;split at e<;>cases e
def fw(h:RL K ρ H ls σ):RL K ρ H (uLs i ls) (match i with|some i=>σ.set i none|none=>σ):=by
 cases i with
 |none=>exact h
 |some i=>
  refine⟨by simp[uLs,h.len],λj d e=>?_⟩;simp only[uLs]at e;by_cases z:i=j
  .subst z;rw[List.getElem?_set,j9 rfl]at e;split at e<;>cases e
  .rw[List.getElem?_set_ne z]at e;obtain⟨v,e1,r⟩:=h.ob j d e;exact⟨v,by dsimp only;rw[List.getElem?_set_ne z];exact e1,r⟩
def X4(hc:∀nm∈ns,∀B C,mg xB=some (.ref B)->clsAt K nm=some C->PySem.W.exmOne K (.ref C) (.ref B)=some true)(hb:RS K tb mb)(hx:RS K tx mx)(hh:RS K th mh):RS K (Ou K mg xB tb tx th i) (Di ns i mb mx mh):=by
 intro ρ σ H hd ls E fl hd' hR hL hm hQ;unfold Di at hm;split at hm
 .next r e=>
  cases hm;exact .inl (hb ρ σ H hd ls E fl hd' hR hL e hQ)
 .split at hm
  .next nm fs ds h1 e=>
   split at hm
   .next c=>
    split at hm
    .next l2 h2 e2=>
     cases hm;refine .inr (hx ρ σ H hd ls _ (.rt (.op nm fs ds)) h1 hR hL e λρ1 H1 x1 R1 v r1 B hB=>?_);have r1':=r1;simp only[RD]at r1;obtain⟨a,xs,rfl,⟨C,dx,c1,c2,c3,c4⟩,r2⟩:=r1;refine⟨a,C,dx,_,rfl,c2,c3,hc nm c B C hB c1,?_⟩;have hl:σ.length=ls.length:=hL.len.symm;refine hh ρ1 _ H1 h1 _ _ (.nx l2) hd' R1 ?_ e2 λρ2 H2 x2 R2 σ2 hL2=>hQ ρ2 H2 (x1.trans R1 x2) R2 _ (fw hL2);rw[hl];exact fz r1'
    .cases hm
   .cases hm
  .cases hm
def V2{fs:List Str}:∀{ds:List D} {xs:List V},RDs K ρ H ds xs->(fs.zip ds).lookup f=some d->∃v,(fs.zip xs).lookup f=some v/\RD K ρ H d v:=by
 induction fs with
 |nil=>intro ds xs _ e;simp at e
 |cons g fs ih=>
  intro ds xs r e;cases ds with
  |nil=>simp at e
  |cons d0 ds=>
   simp only[RDs]at r;obtain⟨x0,r0,rfl,h1,h2⟩:=r;rw[List.zip_cons_cons,jk]at e ⊢;cases q:(f==g)with
   |true=>rw[q]at e;cases e;exact⟨x0,rfl,h1⟩
   |false=>rw[q]at e;exact ih h2 e
def aV(hc:∀nm∈ns,∀C,clsAt K nm=some C->XK1 K C/\CJ K C f)(h:RE K t m):RE K (TR K t f) (Fw ns f m):=by
 and_intros;obtain⟨⟨d1,h1⟩,e1,hm⟩:=j6 hm;dsimp only at hm;split at hm
 .next nm fs ds=>
  split at hm
  .next c=>
   obtain⟨d2,e2,e3⟩:=j7 hm;cases e3;refine h ρ σ H hd ls _ _ _ hR hL e1 λρ1 H1 v x1 R1 r1=>?_;simp only[RD]at r1;obtain⟨a,xs,rfl,⟨C,dx,c1,c2,c3,c4⟩,r2⟩:=r1;obtain⟨v,q1,q2⟩:=V2 r2 e2;obtain⟨k1,k2⟩:=hc nm c.1 C c1;exact⟨a,C,dx,_,v,rfl,c2,c3,q1,k1,k2,hQ ρ1 H1 v x1 R1 q2⟩
  .cases hm
 .cases hm
def Jj(K:Frag):List V->Hp->VK->Prop:=λvs H Q=>∃a C dx fs c b,vs=[.ref a,c]/\H a=some (.ext (XO a C dx))/\XdAt H dx fs/\XK1 K C/\(∃u,(∀u',RelV c u'->u'=u)/\PySem.W.kitOne K (.ref C) u=some b)/\Q (.bl b) H
def NH:CallR X (.builtin "isinstance") (Jj X.K):=by
 intro O s σ H xs us Q I r h;obtain⟨a,C,dx,fs,c,b,rfl,ha,hd,xk,⟨u,hu,hk⟩,q⟩:=h;exact VV (u:=u) hu O s σ H _ us Q I r ⟨a,C,dx,fs,b,rfl,ha,hd,xk,hk,q⟩
def aT{tbl:List (Str×Bool)}(hc:∀nm b,tbl.lookup nm=some b->∀C B,clsAt K nm=some C->mg x=some (.ref B)->XK1 K C/\PySem.W.kitOne K (.ref C) (.ref B)=some b)(h:RE K t m):RE K (tCB (Jj K) (AZ t (AZ (Ig mg x) Aq))) (Cc tbl m):=by
 and_intros;obtain⟨⟨d1,h1⟩,e1,hm⟩:=j6 hm;dsimp only at hm;split at hm
 .next nm fs ds=>
  obtain⟨b,e2,e3⟩:=j7 hm;cases e3;refine h ρ σ H hd ls _ _ _ hR hL e1 λρ1 H1 v x1 R1 r1 B hB=>?_;simp only[RD]at r1;obtain⟨a,xs,rfl,⟨C,dx,c1,c2,c3,c4⟩,r2⟩:=r1;obtain⟨k1,k2⟩:=hc nm b e2 C B c1 hB;exact⟨a,C,dx,_,.ref B,b,rfl,c2,c3,k1,⟨.ref B,λu' r=>r,k2⟩,hQ ρ1 H1 _ x1 R1 (by simp[RD,RI])⟩
 .cases hm
def aU{tbl:List (Str×Bool)}(hc:∀nm b,tbl.lookup nm=some b->∀C,clsAt K nm=some C->XK1 K C/\PySem.W.kitOne K (.ref C) (.type "ValueError")=some b)(h:RE K t m):RE K (tCB (Jj K) (AZ t (AZ (tC (.ty "ValueError")) Aq))) (Cc tbl m):=by
 and_intros;obtain⟨⟨d1,h1⟩,e1,hm⟩:=j6 hm;dsimp only at hm;split at hm
 .next nm fs ds=>
  obtain⟨b,e2,e3⟩:=j7 hm;cases e3;refine h ρ σ H hd ls _ _ _ hR hL e1 λρ1 H1 v x1 R1 r1=>?_;simp only[RD]at r1;obtain⟨a,xs,rfl,⟨C,dx,c1,c2,c3,c4⟩,r2⟩:=r1;obtain⟨k1,k2⟩:=hc nm b e2 C c1;exact⟨a,C,dx,_,_,b,rfl,c2,c3,k1,⟨.type "ValueError",λu' r=>r,k2⟩,hQ ρ1 H1 _ x1 R1 (by simp[RD,RI])⟩
 .cases hm
noncomputable def FE(mg:Str->Option Value):List Str->TA
 |[]=>Aq
 |x::xs=>AZ (Ig mg x) (FE mg xs)
def L7(K:Frag):List V->Hp->VK->Prop:=λvs H Q=>∃cs,W0 K cs vs H Q
def Sl:CallR X (.builtin "isinstance") (L7 X.K):=λO s σ H xs us Q I r ⟨cs,h⟩=>Sm O s σ H xs us Q I r h
def VI{xs:List Str}{Q:List V->Hp->Prop}(h:∀cs:List Addr,xs.map mg=cs.map (λc=>some (.ref c))->Q (cs.map V.ref) H):FE mg xs σ H Q:=by
 induction xs generalizing Q with
 |nil=>exact h [] rfl
 |cons x xs ih=>
  intro C hC;exact ih λcs e=>h (C::cs) (by rw[je,je,hC,e])
def XV{xs:List Str}{tbl:List (Str×Bool)}(hx:xs.length<=1000)(hc:∀nm b,tbl.lookup nm=some b->∀C (cs:List Addr),clsAt K nm=some C->xs.map mg=cs.map (λc=>some (.ref c))->XK1 K C/\PySem.W.kitAny K (.ref C) (cs.map Value.ref)=some b)(h:RE K t m):
 RE K (tCB (L7 K) (AZ t (AZ (JY (FE mg xs)) Aq))) (Cc tbl m):=by
 and_intros;obtain⟨⟨d1,h1⟩,e1,hm⟩:=j6 hm;dsimp only at hm;split at hm
 .next nm fs ds=>
  obtain⟨b,e2,e3⟩:=j7 hm;cases e3;refine h ρ σ H hd ls _ _ _ hR hL e1 λρ1 H1 v x1 R1 r1=>?_;refine VI λcs ec=>?_;have lc:cs.length=xs.length:=by have:=jA List.length ec;simpa using this.symm
  refine⟨by rw[ji,lc];exact jh hx (by decide),λtp ntp=>?_⟩;obtain⟨R2,x2⟩:=R1.hid ntp (ho:=.tup (cs.map V.ref));have r2:=r1.ext R1 x2;simp only[RD]at r2;obtain⟨a,xs',rfl,⟨C,dx,c1,c2,c3,c4⟩,r3⟩:=r2;obtain⟨k1,k2⟩:=hc nm b e2 C cs c1 ec;exact⟨cs,a,C,dx,_,tp,b,rfl,c2,c3,AE,k1,k2,hQ ρ1 _ _ (x1.trans R1 x2) R2 (by simp[RD,RI])⟩
 .cases hm
end
def Q2(Q:VK)(v:Value)(H:Hp):Prop:=∃a,v=.ref a/\Q (.ref a) H
noncomputable def Zn(K:Frag)(k:Nat)(F:FD):Sp:=λvs H _ E=>spF K k F vs H (λv H'=>∀a,v=.ref a->E (.ref a) none H') E0
section
variable(K:Frag)(X:Cx)
structure YX(e:Stmt)(t:TS)(m:MS):Prop where
 p:GX X e t
 r:RS K t m
structure YXs(e:List Stmt)(t:TS)(m:MS):Prop where
 p:GXs X e t
 r:RS K t m
structure YXE(e:Expr)(t:TE)(m:ME):Prop where
 p:GXE X e t
 r:RE K t m
structure YXA(e:List Expr)(t:TE)(m:ME):Prop where
 p:GXA X e t
 r:RE K t m
end
def Cl(E:EnK)(nm:Str)(fs:List Str):Prop:=∃C fI fd ps,E.mg nm=some (.ref C)/\clsAt E.K nm=some C/\XC E.K C fI/\XI E.K C/\(∀f∈fs,CJ E.K C f)/\FnOk E.P E.w E.K E.mg E.base CX0 1 fI fd ps (spJ C fs)/\Binds E.K fd ps []/\ps.length=fs.length+1/\fs.length<=1000
def Ch(E:EnK)(xB nm:Str):Prop:=∃B C,E.mg xB=some (.ref B)/\clsAt E.K nm=some C/\PySem.W.exmOne E.K (.ref C) (.ref B)=some true
def Ci(E:EnK)(x nm:Str)(b:Bool):Prop:=∃B C,E.mg x=some (.ref B)/\clsAt E.K nm=some C/\PySem.W.kitOne E.K (.ref C) (.ref B)=some b
def Cv(E:EnK)(nm:Str):Prop:=∃C,E.mg "ValueError"=none/\clsAt E.K nm=some C/\PySem.W.kitOne E.K (.ref C) (.type "ValueError")=some true
def Ct(E:EnK)(xs:List Str)(nm:Str)(b:Bool):Prop:=∃(cs:List Addr) (C:Addr),xs.map E.mg=cs.map (λc=>some (.ref c))/\clsAt E.K nm=some C/\PySem.W.kitAny E.K (.ref C) (cs.map Value.ref)=some b
def KnX(E:EnK)(e:Df):Prop:=∃f fd,DefAt E.K E.mg e.x e.st f fd e.ps/\FnOk E.P E.w E.K E.mg E.base (CXG E.P E.w) e.k f fd e.ps (Zn E.K e.ps.length e.F)/\∀ds hd z,e.F ds hd=some z->ds.length=e.ps.length
def Cl.k{nm:Str}(h:Cl E nm fs):∀C,clsAt E.K nm=some C->XK1 E.K C/\∀f∈fs,CJ E.K C f:=λC e=>by
 obtain⟨C',fI,fd,ps,h1,h2,h3,h4,h5,_⟩:=h;rw[h2]at e;cases e;exact⟨⟨⟨fI,h3⟩,h4⟩,h5⟩
section
variable{K:Frag}{X:Cx}{st:Stmt}{rest:List Stmt}{p1:Pos}
def WV(h:QS K X.nox st t m):YX K X st (Ld t) (DL m):=⟨ON h.p,M8 h.r⟩
def LK(h1:YX K X st t m1)(h2:YXs K X rest u m2):YXs K X (st::rest) (Lc t u) (A5 m1 m2):=⟨VD h1.p h2.p,Qu h1.r h2.r⟩
def WQ(h1:YX K X st t m1):YXs K X [st] t m1:=⟨Z4 h1.p,h1.r⟩
def WR:YXs K X [] (Ld HL) (DL AM):=⟨VC OB,M8 Jd⟩
def K9{rest:List Stmt}:YXs K X rest Ie CH:=⟨λ_ _ _ _ _ _ h=>h.elim,M9⟩
def eC(hc:QT K X.nox c tc mc)(ha:YXs K X a t m1)(hb:YXs K X b u m2):YX K X (.If c a b pos) (Lg tc t u) (AS mc m1 m2):=⟨fT hc.p ha.p hb.p,Vo hc.r ha.r hb.r⟩
def ZR(he:YXE K X e te me):YX K X (.Return (some e) pos) (IE te) (AI me):=⟨dH he.p,M7 he.r⟩
def ZQ(he:YXE K X e te me)(hs:swapsWith e (some (.Name x pos')) pos.line X.env=pure false:=by rfl):YX K X (.Assign [.Name x pos'] e pos) (IE te) (AI me):=⟨dG he.p hs,M7 he.r⟩
def Sz(he:YXE K X e te me)(hs:starEach (e::es) X.env=(false,eval e X.env)::starEach es X.env:=by rfl):YXA K X (e::es) te me:=⟨VE he.p hs,he.r⟩
def QJ(ha:QE K X.nox e tb mb)(hr:YXA K X es te me)(hs:starEach (e::es) X.env=(false,eval e X.env)::starEach es X.env:=by rfl):YXA K X (e::es) (Ov tb te) (Fu mb me):=⟨SC ha.p hr.p hs,XQ ha.r hr.r⟩
def WU{x1}(h:YXA K X es te me):YXE K X (.Tuple es x1 pos) te me:=⟨Z5 h.p,h.r⟩
def ZS{iter:Expr}(hi:QI K X.nox tg iter wi mi)(hg:QG K X.nox tg g n)(hb:YXs K X body tb mb)(hc:X.calm=true:=by rfl)(hst:X.stack=X.env::X.outer/\X.env.frame=some X.env.locals:=by exact⟨rfl,rfl⟩)
 (hs:∀x,foldedSetIterable iter X.env x=pure x:=by intro _;rfl):YX K X (.For tg iter body [] pos) (Lh wi g tb) (Az mi n mb):=⟨dI hst hc hi.p hg.p hb.p hs,Qw hi.r hg.r hb.r⟩
def ZT(h:QS K X.nox st tn mn)(hx:YX K X st tx mx):YX K X st (fu tn tx) (Ew mn mx):=by
 constructor
 .intro O s σ H D I q;rcases q with q|q
  .exact ON h.p O s σ H D I q
  .exact hx.p O s σ H D I q
 .intro ρ σ H hd ls E fl hd' hR hL hm hQ;unfold Ew at hm;split at hm
  .next r e=>cases hm;exact .inl (M8 h.r ρ σ H hd ls E fl hd' hR hL e hQ)
  .exact .inr (hx.r ρ σ H hd ls E fl hd' hR hL hm hQ)
def QH{j k:Nat}{st:Stmt}(G:KnX ⟨X.prog,X.w,X.K,X.mg,X.base⟩ ⟨x,st,ps,j,F⟩)(hr:Room k X.A)(ha:QA K X.nox (e::es) ta ma)
 (hjk:j<=k:=by first|decide|omega) (hg:Gl X x:=by rfl) (hdb:(x==("__debug__":Str))=false:=by decide) (he:starEach (e::es) X.env=(false,eval e X.env)::starEach es X.env:=by rfl) (hpl:(backTo pos (starEach es X.env)).any (·.1)=false:=by rfl) (hK:X.K=K:=by rfl):
 YXE K X (.Call (.Name x p) (e::es) [] pos) (tXg (Bx (spF K ps.length F) [] E0 ta)) (AW F ma):=by
 subst hK;obtain⟨fa,fd,DA,G,hF⟩:=G;refine⟨λO s σ H Q I h=>?_,eP (MK ha.r hF)⟩;refine kr (EE I hg DA.mg ?_ hdb);refine PySem.W.callWith_K (h₀:=X.base) I.ok.mod.kin DA.fn.kp (thx (ha.p pos O s σ H _ (I.wish _) h) (λus s1 ⟨vs,H1,I1',r,q⟩=>⟨I1'.kIn,?_⟩) λ_ _ z=>z.elim) he hpl;have I1:=I1'.unwish;dsimp only at q;rw[ju]at q;have q2:Zn X.K ps.length F vs H1 (λ_ _=>False) (λv dx H'=>Q2 Q v H'):=q.mono λv H' z a ea=>by subst ea;exact⟨a,rfl,z a rfl⟩
 have hl:us.length=ps.length:=by rw[<- r.length];exact G.len _ _ _ _ q2
 refine kq (kx (G.run X.A X.stack s1 H1 ⟨us,[]⟩ us vs _ _ (hr.mono hjk) I1.env0 (by have:=DA.bd s1 us I1.kIn (by simpa using hl);simpa using this) r q2) λres s' hq=>?_);cases res with
 |error x=>exact QK I1 (show CXG X.prog X.w X.stack H1 s1 (λv dx H'=>Q2 Q v H') x s' from hq) λa H' ⟨a',e1,e2⟩=>by cases e1;exact e2
 |ok fl=>
  cases fl with
  |ret u=>obtain⟨_,_,_,_,_,_,_,z⟩:=hq;exact z.elim
  |next=>exact hq.elim
  |brk=>exact hq.elim
  |cont=>exact hq.elim
end
noncomputable abbrev Cx.en(X:Cx):EnK:=⟨X.prog,X.w,X.K,X.mg,X.base⟩
def MH{o:Option Value}{a b:Addr}(h:o=some (.ref a))(k:o=some (.ref b)):a=b:=by rw[h]at k;cases k;rfl
def Im(h:o=some a)(k:o=some b):a=b:=by rw[h]at k;cases k;rfl
def Hx(E:EnK)(xB:Str)(ns:List Str):Prop:=(∃B,E.mg xB=some (.ref B))/\∀nm∈ns,Ch E xB nm
def Ix(E:EnK)(B:Str)(tbl:List (Str×Bool)):Prop:=(∃C,E.mg B=some (.ref C))/\∀nm b,tbl.lookup nm=some b->(∃fs,Cl E nm fs)/\Ci E B nm b
def Iv(E:EnK)(tbl:List (Str×Bool)):Prop:=E.mg "ValueError"=none/\∀nm b,tbl.lookup nm=some b->(∃fs,Cl E nm fs)/\Cv E nm/\b=true
def Itx(E:EnK)(xs:List Str)(tbl:List (Str×Bool)):Prop:=(∀x∈xs,∃C,E.mg x=some (.ref C))/\∀nm b,tbl.lookup nm=some b->(∃fs,Cl E nm fs)/\Ct E xs nm b
def Fx(E:EnK)(ns:List Str)(f:Str):Prop:=∀nm∈ns,∃fs,Cl E nm fs/\f∈fs
noncomputable def Cz:List Expr->List Str
 |.Name x _::r=>x::Cz r
 |_=>[]
section
variable{K:Frag}{X:Cx}{st:Stmt}{e:Expr}{es:List Expr}{te:TE}{me:ME}{pos p p1:Pos}{x:Str}
def T1{fs:List Str}{j:Nat}{ta:TA}{ma:MA}(G:Cl X.en x fs)(hr:Room j X.A)(ha:QA K X.nox (e::es) ta ma)(hjk:2<=j:=by decide)(hne:fs≠[]:=by simp)(hcalm:X.calm=true:=by rfl)(hg:Gl X x:=by rfl)
 (hdb:(x==("__debug__":Str))=false:=by decide) (hst:starEach (e::es) X.env=(false,eval e X.env)::starEach es X.env:=by rfl) (hpl:(backTo p1 (starEach es X.env)).any (·.1)=false:=by rfl) (hK:X.K=K:=by rfl):
 YX K X (.Raise (some (.Call (.Name x p) (e::es) [] p1)) none pos) (JZ X.mg x fs ta) (Cb x fs ma):=by
 subst hK;obtain⟨C,fI,fd,ps,mgC,cl,xc,xi,na,F,bd,l1,l2⟩:=G;exact⟨VF xc F (hr.mono hjk) bd l1 l2 hne hcalm hg mgC ha.p hdb hst hpl,Qv (λC' e=>by obtain rfl:=MH (o:=X.mg x) mgC e;exact cl) ha.r⟩
def gH{st:Stmt}{j k:Nat}(D:Dn E ⟨x,st,ps,k,F⟩)(S:FnScope N ps (A9 st))(hF:F=mkX ps.length N.length m)(hk:k=j+1)
 (h:∀(f:Addr) (cdv:Value) (A:Around) (outer:List Env) (s:Shared) (H:Hp) (Ek:XK),Room j (A.deeper (envOfC x (A9 st) s.heap.objs.size f cdv))->∃t,YXs E.K (DZ (CXG E.P E.w) E.P E.w E.K E.mg E.base N x (A9 st) f cdv A outer s H Ek) (B6 st) t m):KnX E ⟨x,st,ps,k,F⟩:=by
 obtain⟨fa,fd,DA⟩:=D;subst hF;subst hk;refine⟨fa,fd,DA,?_,Yk⟩;have h:=h fa;obtain⟨F,hmg,bd⟩:=DA;obtain⟨⟨oc,od,kV,doc,pm,an,cdv,ct,osl,rfl,lk,hcd⟩,kp⟩:=F;refine WG lk hcd S (λvs H Q E h=>h.1) λA outer s H vs Q Ek hr hs=>?_;obtain⟨t,q⟩:=h cdv A outer s H Ek hr;refine⟨λ_ σ H'=>t ⟨λ_ _=>False,λv H'=>∀a,v=.ref a->Ek (.ref a) none H',λ_ _=>False,λ_ _=>False⟩ σ H',λO s1 σ1 H1 D I h1=>?_,?_⟩
 .refine thx (q.p O s1 σ1 H1 _ I h1) (λfl s2 z=>?_) λe s2 z=>?_
  .cases fl with
   |next=>obtain⟨_,_,_,z⟩:=z;exact z.elim
   |ret v=>obtain⟨_,_,_,_,_,z⟩:=z;exact z.elim
   |brk=>obtain⟨_,_,_,z⟩:=z;exact z.elim
   |cont=>obtain⟨_,_,_,z⟩:=z;exact z.elim
  .obtain⟨a,C,dx,tb,fs,σ',H',e0,I',r⟩:=z;exact T2 (O:=O) ⟨a,C,dx,tb,fs,σ',H',e0,I'.wish _,r⟩ λa H' z=>z a rfl
 .obtain⟨hk,ρ,hd,ds,d,hd',hR,hr',hF,hQ⟩:=hs;dsimp only at hF;unfold mkX at hF;split at hF
  .next hl=>
   split at hF
   .next d1 h2 e1=>
    cases hF;rw[<- hl]at e1;exact q.r ρ _ H hd _ _ (.rt d) hd' hR (IH hr') e1 λρ' H' x R v r=>hQ ρ' H' v x R r
   .cases hF
  .cases hF
def Xn{i:Nat}{ns:List Str}{xB n:Str}{pB ph:Pos}{body suite:List Stmt}{b0:Stmt}{tb tx th:TS}{mb mx mh:MS}(hc:Hx X.en xB ns)(hb:QSs K X.nox body tb mb)(hx:YXs K X body tx mx)(hh:∀a,QSs K (X.hand (.ref a)) (b0::suite) th mh)
 (hN:X.N.Nodup) (hi:X.N[i]?=some n) (hl:X.env.scope.names.lookup n=some .local:=by rfl) (hst:X.stack=X.env::X.outer/\X.env.frame=some X.env.locals:=by exact⟨rfl,rfl⟩) (hg:Gl X xB:=by rfl) (hdb:(xB==("__debug__":Str))=false:=by decide) (hK:X.K=K:=by rfl):
 QS K X (.Try body [.ExceptHandler (some (.Name xB pB)) (some n) (b0::suite) ph] [] [] pos) (Ou X.K X.mg xB tb tx th (some i)) (Di ns (some i) mb mx mh):=by
 subst hK;obtain⟨⟨B,hm⟩,hc⟩:=hc;refine⟨YG hst hb.p hx.p hg hm hN hi hl (λa=>(hh a).p) hdb,X4 (λnm hn B' C h1 h2=>?_) hb.r hx.r (hh 0).r⟩;obtain⟨B2,C2,q1,q2,q3⟩:=hc nm hn;obtain rfl:=MH (o:=X.mg xB) q1 h1;obtain rfl:=Im q2 h2;exact q3
def MX(hg:Gl X x)(hm:X.mg x=some (.ref C))(hd:(x==("__debug__":Str))=false):PE X (.Name x pos) (Ig X.mg x):=λ_ _ _ H _ I h=>EE I hg hm ⟨.ref C,H,I,rfl,h C hm⟩ hd
noncomputable def GlN(X:Cx):List Expr->Prop
 |.Name x p::r=>(Gl X x/\(x==("__debug__":Str))=false/\starEach (.Name x p::r) X.env=(false,eval (.Name x p) X.env)::starEach r X.env)/\GlN X r
 |[]=>True
 |_=>False
theorem MY:∀{es:List Expr},GlN X es->(∀x∈Cz es,∃C,X.mg x=some (.ref C))->PA X es (FE X.mg (Cz es))
 |[],_,_=>Bn
 |e::es,hn,hx=>by
  cases e with
  |Name x p=>
   obtain⟨⟨g,d,h⟩,hn⟩:=(show(Gl X x/\(x==("__debug__":Str))=false/\starEach (.Name x p::es) X.env=(false,eval (.Name x p) X.env)::starEach es X.env)/\GlN X es from hn)
   obtain⟨C,hm⟩:=hx x (by simp[Cz]);exact B3 (MX g hm d) (MY hn (λy hy=>hx y (by simp[Cz,hy]))) h
  |_=>exact(show False from hn).elim
def bV{tbl:List (Str×Bool)}{B:Str}{pB:Pos}(hC:Ix X.en B tbl)(bI:X.mg "isinstance"=none)(he:QE K X e te me)(gI:Gl X "isinstance":=by rfl)(gB:Gl X B:=by rfl)(dB:(B==("__debug__":Str))=false:=by decide)
 (s1:starEach [e,.Name B pB] X.env=(false,eval e X.env)::starEach [.Name B pB] X.env:=by rfl) (hK:X.K=K:=by rfl):
 QE K X (.Call (.Name "isinstance" p) [e,.Name B pB] [] pos) (tCB (Jj K) (AZ te (AZ (Ig X.mg B) Aq))) (Cc tbl me):=by
 subst hK;obtain⟨⟨C0,hm⟩,hC⟩:=hC;refine⟨D3 NH gI bI IY (B3 he.p (B3 (MX gB hm dB) Bn) s1) (by decide) (by decide) s1,aT (λnm b hb C B' h1 h2=>?_) he.r⟩;obtain⟨⟨fs,cl⟩,B2,C2,q1,q2,q3⟩:=hC nm b hb;obtain rfl:=MH (o:=X.mg B) q1 h2;have:=(cl.k C h1).1;obtain rfl:=Im q2 h1;exact⟨this,q3⟩
def bW{pB:Pos}(hC:Iv X.en tbl)(bI:X.mg "isinstance"=none)(he:QE K X e te me)(gI:Gl X "isinstance":=by rfl)(gB:Gl X "ValueError":=by rfl)
 (s1:starEach [e,.Name "ValueError" pB] X.env=(false,eval e X.env)::starEach [.Name "ValueError" pB] X.env:=by rfl) (hK:X.K=K:=by rfl):
 QE K X (.Call (.Name "isinstance" p) [e,.Name "ValueError" pB] [] pos) (tCB (Jj K) (AZ te (AZ (tC (.ty "ValueError")) Aq))) (Cc tbl me):=by
 subst hK;obtain⟨hV,hC⟩:=hC;refine⟨D3 NH gI bI IY (B3 he.p (B3 (fA gB hV) Bn) s1) (by decide) (by decide) s1,aU (λnm b hb C h1=>?_) he.r⟩;obtain⟨⟨fs,cl⟩,⟨C2,q1,q2,q3⟩,rfl⟩:=hC nm b hb;have:=(cl.k C h1).1;obtain rfl:=Im q2 h1;exact⟨this,q3⟩
theorem MF:∀{as bs:List Addr},as.map (λc=>some (Value.ref c))=bs.map (λc=>some (Value.ref c))->as=bs
 |[],[],_=>rfl
 |[],_::_,h=>by cases h
 |_::_,[],h=>by cases h
 |a::as,b::bs,h=>by
  rw[je,je]at h;obtain⟨h1,h2⟩:=List.cons.inj h;cases h1;rw[MF h2]
def YA{k1}{pB:Pos}(hC:Itx X.en (Cz es) tbl)(bI:X.mg "isinstance"=none)(he:QE K X e te me)(hn:GlN X es:=by repeat' first|exact True.intro|refine⟨⟨rfl,by decide,rfl⟩,?_⟩)(hx:(Cz es).length<=1000:=by decide)(gI:Gl X "isinstance":=by rfl)
 (s1:starEach [e,.Tuple es k1 pB] X.env=(false,eval e X.env)::starEach [.Tuple es k1 pB] X.env:=by rfl) (s2:starEach [.Tuple es k1 pB] X.env=(false,eval (.Tuple es k1 pB) X.env)::starEach [] X.env:=by rfl) (hK:X.K=K:=by rfl):
 QE K X (.Call (.Name "isinstance" p) [e,.Tuple es k1 pB] [] pos) (tCB (L7 K) (AZ te (AZ (JY (FE X.mg (Cz es))) Aq))) (Cc tbl me):=by
 subst hK;obtain⟨hB,hC⟩:=hC;refine⟨D3 Sl gI bI IY (B3 he.p (B3 (Rl (MY hn hB)) Bn s2) s1) (by decide) (by decide) s1,XV hx (λnm b hb C cs h1 h2=>?_) he.r⟩;obtain⟨⟨fs,cl⟩,cs2,C2,q1,q2,q3⟩:=hC nm b hb;have:=(cl.k C h1).1;obtain rfl:=Im q2 h1;obtain rfl:=MF ((show(Cz es).map X.mg=_ from q1).symm.trans h2);exact⟨this,q3⟩
def bY(hC:Fx X.en ns f)(he:QE K X e te me)(hb:attributeBase e f X.env (eval e X.env)=eval e X.env:=by rfl)(hK:X.K=K:=by rfl):QE K X (.Attribute e f pos) (TR K te f) (Fw ns f me):=by
 subst hK;refine⟨bz he.p hb,aV (λnm hn C h1=>?_) he.r⟩;obtain⟨fs,cl,hf⟩:=hC nm hn;obtain⟨k1,k2⟩:=cl.k C h1;exact⟨k1,k2 f hf⟩
end
section
variable{m1 n1 m2 n2:MS}{mf:ME}
def Es{nm:Str}:Dj (Cb nm fs ma) CH:=⟨λ_ _ _ _ _=>rfl,λls hd fl x e n=>by
 obtain⟨⟨ds,y⟩,e1,e2⟩:=j6 e;dsimp only at e2;split at e2
 .cases e2;exact absurd rfl (n _)
 .cases e2⟩
theorem Jt(h:Dj m mn):∀(ds:List D) (ls:Ls) (hd:Hd),(∀d x,Ao n m g ds ls hd=some (.rt d,x)->Ao n mn g ds ls hd=none)/\∀fl x,Ao n m g ds ls hd=some (fl,x)->(∀d,fl≠.rt d)->Ao n mn g ds ls hd=some (fl,x)
 |[],ls,hd=>⟨(λd x e=>by unfold Ao at e;cases e),λfl x e _=>by unfold Ao at e ⊢;exact e⟩
 |d0::r,ls,hd=>by
  have ih:=Jt (n:=n) (g:=g) h r;constructor
  .intro d x e;unfold Ao at e ⊢;obtain⟨ls1,e1,e⟩:=j6 e;obtain⟨⟨fl,y⟩,e2,e⟩:=j6 e;rw[e1,bind_some];cases fl with
   |rt d1=>rw[h.rt _ _ _ _ e2];rfl
   |nx l=>
    rw[h.nx _ _ _ _ e2 (λd q=>by cases q),bind_some];dsimp only at e ⊢;split at e
    .next c=>rw[j9 c];exact(ih l y).1 d x e
    .cases e
   |ct l=>
    rw[h.nx _ _ _ _ e2 (λd q=>by cases q),bind_some];dsimp only at e ⊢;split at e
    .next c=>rw[j9 c];exact(ih l y).1 d x e
    .cases e
   |bk l=>cases e
  .intro fl x e nn;unfold Ao at e ⊢;obtain⟨ls1,e1,e⟩:=j6 e;obtain⟨⟨fl1,y⟩,e2,e⟩:=j6 e;rw[e1,bind_some];cases fl1 with
   |rt d1=>cases e;exact absurd rfl (nn d1)
   |nx l=>
    rw[h.nx _ _ _ _ e2 (λd q=>by cases q),bind_some];dsimp only at e ⊢;split at e
    .next c=>rw[j9 c];exact(ih l y).2 fl x e nn
    .cases e
   |ct l=>
    rw[h.nx _ _ _ _ e2 (λd q=>by cases q),bind_some];dsimp only at e ⊢;split at e
    .next c=>rw[j9 c];exact(ih l y).2 fl x e nn
    .cases e
   |bk l=>
    rw[h.nx _ _ _ _ e2 (λd q=>by cases q),bind_some];exact e
def df(h:Dj m mn):Dj (Az mi n m) (Az mi n mn):=by
 constructor
 .intro ls hd d x e;obtain⟨p,e1,e2⟩:=j6 e;unfold Az;rw[e1];exact(Jt h _ _ _).1 d x e2
 .intro ls hd fl x e n;obtain⟨p,e1,e2⟩:=j6 e;unfold Az;rw[e1];exact(Jt h _ _ _).2 fl x e2 n
section
variable{Q:Fl->Hd->Prop}{QE:D->Hd->Prop}{nm:Str}{fs:List Str}
def IC(h:WA ma ls hd λds x=>ds.length=fs.length/\Q (.rt (.op nm fs ds)) x):WS (Cb nm fs ma) ls hd Q:=by
 obtain⟨ds,x,e,l,q⟩:=h;refine⟨_,x,?_,q⟩;unfold Cb;rw[e];exact j9 l
def T5(h:WS mb ls hd Q):WS (Di ns i mb mx mh) ls hd Q:=by
 obtain⟨fl,x,e,q⟩:=h;refine⟨fl,x,?_,q⟩;unfold Di;rw[e]
def T4(dj:Dj mx mb)(h:WS mx ls hd λfl x=>∃nm fs ds,fl=.rt (.op nm fs ds)/\nm∈ns/\WS mh (hLs ls.length i (.op nm fs ds)) x λf2 y=>∃l2,f2=.nx l2/\Q (.nx (uLs i l2)) y):WS (Di ns i mb mx mh) ls hd Q:=by
 obtain⟨fl,x,e,nm,fs,ds,rfl,hn,f2,y,e2,l2,rfl,q⟩:=h;refine⟨_,y,?_,q⟩;unfold Di;rw[dj.rt _ _ _ _ e,e];dsimp only;rw[j9 hn,e2]
def LP{tbl:List (Str×Bool)}(h:WE me ls hd λd x=>∃nm fs ds b,d=.op nm fs ds/\tbl.lookup nm=some b/\QE (.im (.bl b)) x):WE (Cc tbl me) ls hd QE:=by
 obtain⟨d,x,e,nm,fs,ds,b,rfl,hb,q⟩:=h;refine⟨_,x,?_,q⟩;unfold Cc;rw[e];show(tbl.lookup nm).map _=_;rw[hb];rfl
def QU(h:WE me ls hd λd x=>∃nm fs ds z,d=.op nm fs ds/\nm∈ns/\ds.length=fs.length/\(fs.zip ds).lookup f=some z/\QE z x):WE (Fw ns f me) ls hd QE:=by
 obtain⟨d,x,e,nm,fs,ds,z,rfl,hn,hl,hz,q⟩:=h;refine⟨_,x,?_,q⟩;unfold Fw;rw[e];dsimp only[bind_some];rw[j9 ⟨hn,hl⟩,hz];rfl
end
end
def Ka{X F:List D->Hd->Option (D×Hd)}(h:DjF X F):DjE (AW X ma) (AW F ma):=by
 intro ls hd z e;obtain⟨p,e1,e2⟩:=j6 e;unfold AW;rw[e1];exact h _ _ _ e2
def J7(i j:Int):Prop:=i.natAbs.log2<100000/\j.natAbs.log2<100000
def Oc{i:Int}(h:i.natAbs.log2<100000):Builtin.Int.intBits i<=2^20:=by
 have e:(2:Nat)^20=1048576:=by decide
 unfold Builtin.Int.intBits;split<;>omega
def Yc:OpR X (binaryOp .Mult) (rI J7 λi j=>.int (i*j)):=opI λ_ _ _ _ _ _ _ hc q=>mul_int q (IntMulOk.of_bits (Oc hc.1) (Oc hc.2))
open Classical in
noncomputable abbrev Hb:D->D->Hd->Option (D×Hd):=fI λi j=>if J7 i j then some (.int (i*j))else none
def Xd{K:Frag}:RB K (rI J7 λi j=>.int (i*j)) Hb:=Gf λi j z h=>by
 split at h
 .next q=>cases h;exact⟨q,λ_=>by simp[RI]⟩
 .cases h
def JU{i j:Int}{QE:D->Hd->Prop}(c:J7 i j)(q:QE (.im (.int (i*j))) hd):WP (Hb (.im (.int i)) (.im (.int j)) hd) QE:=⟨_,_,by simp[c],q⟩
def Hj(j:Int):Prop:=0<j/\j.natAbs.log2<9000
def Ul:OpR X (binaryOp .FloorDiv) (rI (λ_ j=>Hj j) λi j=>.int (i/j)):=opI λi j _ _ _ _ _ hc q=>by
 have h1:(0:Int)<j:=hc.1;exact floordiv_int (by omega) (by rw[Int.fdiv_eq_ediv_of_nonneg i (by omega)];exact q) (.inl (PyProof.noPylong_of_log2 hc.2))
open Classical in
noncomputable abbrev Gy:D->D->Hd->Option (D×Hd):=fI λi j=>if Hj j then some (.int (i/j))else none
def U8{K:Frag}:RB K (rI (λ_ j=>Hj j) λi j=>.int (i/j)) Gy:=Gf λi j z h=>by
 split at h
 .next q=>cases h;exact⟨q,λ_=>by simp[RI]⟩
 .cases h
def T8{i j:Int}{QE:D->Hd->Prop}(c:Hj j)(q:QE (.im (.int (i/j))) hd):WP (Gy (.im (.int i)) (.im (.int j)) hd) QE:=⟨_,_,by simp[c],q⟩
section
variable{K:Frag}{X:Cx}{mg:Str->Option Value}
def Y9{pB:Pos}(hC:Ix X.en B tbl)(bI:mg "isinstance"=none)(he:QE K X e te me)(hmg:X.mg=mg:=by rfl)(gI:Gl X "isinstance":=by rfl)(gB:Gl X B:=by rfl)(dB:(B==("__debug__":Str))=false:=by decide)
 (s1:starEach [e,.Name B pB] X.env=(false,eval e X.env)::starEach [.Name B pB] X.env:=by rfl) (hK:X.K=K:=by rfl):
 QE K X (.Call (.Name "isinstance" p) [e,.Name B pB] [] pos) (tCB (Jj K) (AZ te (AZ (Ig mg B) Aq))) (Cc tbl me):=by
 subst hmg;exact bV hC bI he gI gB dB s1 hK
def UP{k1}{pB:Pos}(hC:Itx X.en (Cz es) tbl)(bI:mg "isinstance"=none)(he:QE K X e te me)(hmg:X.mg=mg:=by rfl)(hn:GlN X es:=by repeat' first|exact True.intro|refine⟨⟨rfl,by decide,rfl⟩,?_⟩)(hx:(Cz es).length<=1000:=by decide)(gI:Gl X "isinstance":=by rfl)
 (s1:starEach [e,.Tuple es k1 pB] X.env=(false,eval e X.env)::starEach [.Tuple es k1 pB] X.env:=by rfl) (s2:starEach [.Tuple es k1 pB] X.env=(false,eval (.Tuple es k1 pB) X.env)::starEach [] X.env:=by rfl) (hK:X.K=K:=by rfl):
 QE K X (.Call (.Name "isinstance" p) [e,.Tuple es k1 pB] [] pos) (tCB (L7 K) (AZ te (AZ (JY (FE mg (Cz es))) Aq))) (Cc tbl me):=by
 subst hmg;exact YA hC bI he hn hx gI s1 s2 hK
end
end L2
namespace HT
open PySem PyProof.Rows
def tuple_mul0(l:Addr)(items:Array Value)(n:Nat)(dd:Option Addr)(sl:Array (Option Value))(k:Int)(t:Tok)(h0:items.isEmpty=true)(hk:0<=k/\k<=1000):
 Meets (Builtin.«tuple.__mul__» ⟨[.ref l,.int k t],[]⟩) (λ_ R s=>s.heap.get? l=some { cls:=.type "tuple",dict:=dd,data:=.seq items n,slots:=sl }/\R (.ok (.ret (.ref l))) s):=
 .of_wp λprog w A R s h=>by
  obtain⟨hp,g,d,tk,os⟩:=s;obtain⟨hl,h1⟩:=h;have f1:=AutoSeq1.idx_int;have f2:=AutoSeq1.sub_tuple_tuple
  wp_walk using wpAny_loadPart' hl
  have c1:¬ (decide (k < -2^63)||decide (k>=2^63))=true:=by simp;omega
  rw[ja c1]
  wp_walk using wpAny_loadPart' hl
  exact⟨_,rfl,h1⟩
end HT
namespace L2
open PySem PySem.Spec PyProof.Rows
section
variable{X:Cx}
noncomputable def PK(K:Frag):R2:=λx y H Q=>∃l k xs,x=.ref l/\y=.int k/\SqT K H l xs/\(0<=k/\k<=1000)/\xs.length*k.toNat<=100000/\(xs=[]∨k=1->Q (.ref l) H)/\
 (xs≠[]->k≠1->∀p,H p=none->Q (.ref p) (upd H p (.tup (List.replicate k.toNat xs).flatten)))
def Yb(K:Frag)(hK:X.K=K:=by rfl):OpR X (binaryOp .Mult) (PK K):=by
 intro O s σ H x y v u Q I rx ry h;obtain⟨l,k,xs,rfl,rfl,hH,hk,hz,q1,q2⟩:=h;by_cases hne:xs=[]
 .subst hK;cases rx;obtain⟨t,rfl⟩:=ry;obtain⟨its,r,p,_⟩:=I.tuple hH;obtain⟨⟨cls,dd,data,sl⟩,ho,hc,n,hd⟩:=id p;simp only at hc hd;subst hc hd;have ht:s.TypeIs (.ref l) "tuple":=⟨_,ho,rfl⟩
  have hn:its=[]:=r.nil_iff.mpr hne;refine wpAny_binaryOp_repeat_ref (T:="tuple") (U:="int") (by decide) ht (λs'=>typeIs_int s' k t) HT.noFill_tuple_mul F.fills_int_mul F.slot_int_rmul HT.repeat_tuple F.slot_int_index.lookup
   (kh F.slot_int_rmul (typeIs_int s k t) F.entry_int_rmul (F.args_int_rmul_2 _ _) (HT.int_rmul_tuple k t l its.toArray n dd sl)
    ⟨ho,rfl,ht,kh F.slot_tuple_mul ht F.entry_tuple_mul (F.args_tuple_mul_2 _ _) (HT.tuple_mul0 l its.toArray n dd sl k t (by rw[hn];rfl) hk) ⟨ho,?_⟩⟩)
  exact⟨.ref l,H,I,rfl,q1 (.inl hne)⟩
 .exact YZ K hK O s σ H _ _ v u Q I rx ry ⟨l,k,xs,rfl,rfl,hH,hne,hk,hz,λe=>q1 (.inr e),λe=>q2 hne e⟩
end
section
variable{K:Frag}
open Classical in
noncomputable def HQ(ma mb:ME):ME:=λls hd=>(ma ls hd).bind λp=>(mb ls p.2).bind λq=>match AL p.1,q.1 with
 |some ds,.im (.int k)=>if(0<=k/\k<=1000)/\ds.length*k.toNat<=100000 then some (AO (List.replicate k.toNat ds).flatten,q.2)else none
 |_,_=>none
def XS(ha:RE K ta ma)(hb:RE K tb mb):RE K (tOp (PK K) ta tb) (HQ ma mb):=by
 and_intros;obtain⟨⟨d1,h1⟩,e1,hm⟩:=j6 hm;obtain⟨⟨d2,h2⟩,e2,hm⟩:=j6 hm;dsimp only at hm;split at hm
 .rename_i ds k tv
  split at hm
  .next c=>
   cases hm;refine ha ρ σ H hd ls _ _ h1 hR hL e1 λρ1 H1 v1 x1 R1 r1=>?_;refine hb ρ1 σ H1 h1 ls _ _ _ R1 (hL.ext hR x1) e2 λρ2 H2 v2 x2 R2 r2=>?_;simp only[RD,RI]at r2;subst r2;have r1:=r1.ext R1 x2;obtain⟨a,xs,rfl,sq,rs⟩:=r1.tup (ds:=ds) tv;have hl:xs.length=ds.length:=rs.len;refine⟨a,k,xs,rfl,rfl,sq,c.1,by rw[hl];exact c.2,λe=>?_,λhne e p hp=>?_⟩
   .refine hQ ρ2 H2 _ (x1.trans R1 x2) R2 ?_;have e5:(List.replicate k.toNat ds).flatten=ds:=by
     rcases e with e|e
     .have:ds=[]:=List.length_eq_zero_iff.mp (by rw[<- hl,e];rfl);subst this;simp
     .subst e;simp
    rw[e5];exact BA sq rs
   .obtain⟨R3,x3⟩:=R2.hid (ho:=.tup (List.replicate k.toNat xs).flatten) hp;refine hQ ρ2 _ _ ((x1.trans R1 x2).trans R2 x3) R3 ?_;exact BA (SqT.of AE) ((rs.rep k.toNat).ext R2 x3)
  .cases hm
 .cases hm
def Y8(K:Frag)(ha:QE K X a ta ma)(hb:QE K X b tb mb)(hK:X.K=K:=by rfl):QE K X (.BinOp a .Mult b pos) (tOp (PK K) ta tb) (HQ ma mb):=⟨PX (Yb K hK) ha.p hb.p,XS ha.r hb.r⟩
def Wi{QE:D->Hd->Prop}(h:WE ma ls hd λd x=>WE mb ls x λe y=>∃ds k,AL d=some ds/\e=.im (.int k)/\(0<=k/\k<=1000)/\ds.length*k.toNat<=100000/\QE (AO (List.replicate k.toNat ds).flatten) y):WE (HQ ma mb) ls hd QE:=by
 obtain⟨d,x,e1,e,y,e2,ds,k,tv,rfl,c2,c3,q⟩:=h;exact⟨_,_,by simp only[HQ,e1,bind_some,e2,tv];rw[j9 ⟨c2,c3⟩],q⟩
end
end L2
namespace Hds
open PySem L2 Bd
structure IsHead(S:Nat->Prop)(c l:Nat->Int)(W:List (Nat×Nat))(h:Nat->Int):Prop where
 lo:∀k,S k->c k<=h k
 up:∀p∈W,S p.2->h p.1+l p.1<=h p.2
 eq:∀k,S k->h k=c k∨∃p∈W,p.2=k/\h k=h p.1+l p.1
structure Rk(S:Nat->Prop)(W:List (Nat×Nat))(rk:Nat->Nat):Prop where
 ins:∀p∈W,S p.1/\S p.2
 lt:∀p∈W,rk p.1<rk p.2
def IsHead.bound{S:Nat->Prop}{c l:Nat->Int}{rk:Nat->Nat}(R:Rk S W rk){h:Nat->Int}(a:IsHead S c l W h){B m:Int}(hc:∀k,S k->c k<=B)(hl:∀k,S k->l k<=m)(hm:0<=m):∀n k,rk k=n->S k->h k<=B+m*n:=by
 intro n
 induction n using Nat.strongRecOn with
 |ind n ih=>
  intro k hk hS;have hn:0<=m*(n:Int):=Int.mul_nonneg hm (by omega);rcases a.eq k hS with e|⟨p,hp,e1,e2⟩
  .rw[e];have:=hc k hS;omega
  .have lt:=R.lt p hp;rw[e1,hk]at lt;have q:=ih (rk p.1) lt p.1 rfl (R.ins p hp).1;have:=hl p.1 (R.ins p hp).1;have g:m*(rk p.1:Int)+m<=m*(n:Int):=by
    have:m*((rk p.1:Int)+1)<=m*(n:Int):=Int.mul_le_mul_of_nonneg_left (by omega) hm;rw[Int.mul_add,Int.mul_one]at this;exact this
   omega
def Vc{seq:List Nat}{n:Nat}(pm:seq.Perm (List.range n))(h:Along seq ps):∃W:List (Nat×Nat),ps=(W.map λp=>((p.1:Int),(p.2:Int)))/\Rk (λk=>k<n) W (λk=>seq.idxOf k)/\∀k,k<n->seq.idxOf k<n:=by
 have nd:seq.Nodup:=pm.nodup_iff.mpr List.nodup_range;have sl:seq.length=n:=by simpa using pm.length_eq
 have ix:∀{i a:Nat},seq[i]?=some a->seq.idxOf a=i:=λ{i a} e=>by
  obtain⟨hi,e⟩:=List.getElem?_eq_some_iff.mp e;subst e;exact nd.idxOf_getElem i hi
 refine⟨ps.map λp=>(p.1.toNat,p.2.toNat),?_,⟨?_,?_⟩,?_⟩
 .rw[jx];refine(List.map_id' ps).symm.trans (List.map_congr_left λp hp=>?_);obtain⟨i,j,a,b,_,_,_,rfl⟩:=h p hp;simp
 .intro q hq;obtain⟨p,hp,rfl⟩:=mem_map.mp hq;obtain⟨i,j,a,b,_,ea,eb,rfl⟩:=h p hp;exact⟨by simpa using pm.mem_iff.mp (jt ea),by simpa using pm.mem_iff.mp (jt eb)⟩
 .intro q hq;obtain⟨p,hp,rfl⟩:=mem_map.mp hq;obtain⟨i,j,a,b,hij,ea,eb,rfl⟩:=h p hp;show seq.idxOf (a:Int).toNat<seq.idxOf (b:Int).toNat
  simp only[jN];rw[ix ea,ix eb];exact hij
 .intro k hk;have:k∈seq:=pm.mem_iff.mpr (by simpa using hk);have:=List.idxOf_lt_length_iff.mpr this;omega
end Hds
namespace Bd
open PySem L2
inductive Rc(ps:List (Int×Int)):Int->Int->Prop
 |one {x y:Int}:(x,y)∈ps->Rc ps x y
 |step {x y z:Int}:Rc ps x y->(y,z)∈ps->Rc ps x z
theorem KL:∀{l m:List Int},l.Nodup->(∀x∈l,x∈m)->l.length<=m.length
 |[],m,_,_=>by simp
 |x::r,m,nd,h=>by
  obtain⟨n1,n2⟩:=nodup_cons.mp nd;have hx:=h x jw;have:=KL (l:=r) (m:=m.erase x) n2 λy hy=>(List.mem_erase_of_ne (λe=>n1 (by rw[<- e];exact hy))).mpr (h y (jq _ hy));rw[List.length_erase_of_mem hx]at this;have:=List.length_pos_of_mem hx;simp only[jm];omega
structure Found(ps:List (Int×Int))(a:Int)(found fresh:List Int):Prop where
 nd:found.Nodup
 rc:∀x∈found,Rc ps a x
 fr:∀x∈fresh,x=a∨x∈found
 cl:∀x,(x=a∨x∈found)->x∈fresh∨∀y,(x,y)∈ps->y∈found
def Rc.snd{x y:Int}(h:Rc ps x y):y∈ps.map (·.2):=by
 cases h with
 |one h=>exact mem_map.mpr ⟨_,h,rfl⟩
 |step _ h=>exact mem_map.mpr ⟨_,h,rfl⟩
def Found.len{a:Int}{fresh:List Int}(h:Found ps a found fresh):found.length<=ps.length:=by
 have:=KL h.nd λx hx=>(h.rc x hx).snd;simpa using this
def Found.iff{a:Int}(h:Found ps a found [])(x:Int):x∈found↔Rc ps a x:=by
 refine⟨h.rc x,λr=>?_⟩
 induction r with
 |one e=>exact(h.cl a (.inl rfl)).elim (λz=>by cases z) λz=>z _ e
 |step _ e ih=>exact(h.cl _ (.inr ih)).elim (λz=>by cases z) λz=>z _ e
def VH(P:D)(hd:Hd)(g:Gd)(G:GOk hd g)(ps:List (Int×Int))(hp:ps.length<=500)(a:Int)
 (hP:∀(z1 z2 z3 z4 z5 z6:Option D) (r:Hd),DV (A0 0) [some P,z1,z2,z3,z4,z5,z6] (hd++r)=some ((ps.map Ac,g),hd++r)):∀(N:Nat) (found fresh:List Int) (z4 z5 z6:Option D),fresh.length+(ps.length-found.length)<=N->fresh.length<=1+found.length->Found ps a found fresh->∃(k:Nat) (found':List Int) (y4 y5 y6:Option D),
 As (BD (A0 3)) Mq k [some P,some (.im (.int a)),some (.mu hd.length),some (.mu (hd.length+1)),z4,z5,z6] (hd++[.lst (intD found),.lst (intD fresh)]) =
  some (.nx [some P,some (.im (.int a)),some (.mu hd.length),some (.mu (hd.length+1)),y4,y5,y6],hd++[.lst (intD found'),.lst []])/\Found ps a found' []:=by
 intro N
 induction N with
 |zero=>
  intro found fresh z4 z5 z6 hN _ F;have:fresh=[]:=List.length_eq_zero_iff.mp (by omega);subst this;refine⟨1,found,z4,z5,z6,?_,F⟩;simp only[As,JH,Dz,List.getElem?_cons_zero,List.getElem?_cons_succ,bind_some,Co,g1,jy,List.isEmpty_nil,Bool.not_true,jr,Bool.false_eq_true,jB]
 |succ N ih=>
  intro found fresh z4 z5 z6 hN hfr F;rcases List.eq_nil_or_concat fresh with rfl|⟨fr,x,rfl⟩
  .refine⟨1,found,z4,z5,z6,?_,F⟩;simp only[As,JH,Dz,List.getElem?_cons_zero,List.getElem?_cons_succ,bind_some,Co,g1,jy,List.isEmpty_nil,Bool.not_true,jr,Bool.false_eq_true,jB]
  .rw[List.concat_eq_append]at *;have fl:=F.len;simp only[jv,jm,jL]at hN hfr;obtain⟨new,y5,y6,q,l,nd,frh,al⟩:=Ga P hd g G a x ps found fr z5 z6 (by omega) (by omega);have F2:Found ps a (found++new) (fr++new):=by
    have rx:∀y∈new,Rc ps a y:=λy hy=>by
     rcases F.fr x (by simp)with rfl|h
     .exact .one (frh y hy).2
     .exact .step (F.rc x h) (frh y hy).2
    refine⟨nodup_append.mpr ⟨F.nd,nd,λu hu w hw e=>(frh w hw).1 (e ▸ hu)⟩,λy hy=>?_,λy hy=>?_,λw hw=>?_⟩
    .rcases mem_append.mp hy with h|h
     .exact F.rc y h
     .exact rx y h
    .rcases mem_append.mp hy with h|h
     .rcases F.fr y (by simp[h])with h|h
      .exact .inl h
      .exact .inr (jQ _ h)
     .exact .inr (jl _ h)
    .by_cases hn:w∈new
     .exact .inl (jl _ hn)
     .have hw':w=a∨w∈found:=by
       rcases hw with h|h
       .exact .inl h
       .rcases mem_append.mp h with h|h
        .exact .inr h
        .exact absurd h hn
      rcases F.cl w hw' with h|h
      .rcases mem_append.mp h with h|h
       .exact .inl (jQ _ h)
       .have:w=x:=by simpa using h
        subst this;exact .inr al
      .exact .inr λy hy=>jQ _ (h y hy)
   have fl2:=F2.len;simp only[jv]at fl2;obtain⟨k,found',y4,w5,w6,e,F3⟩:=ih (found++new) (fr++new) (some (.im (.int x))) y5 y6 (by simp only[jv];omega) (by simp only[jv];omega) F2;refine⟨k+1,found',y4,w5,w6,?_,F3⟩;have pop:HB (.mu (hd.length+1)) [] (hd++[.lst (intD found),.lst (intD (fr++[x]))])=some (.im (.int x),hd++[.lst (intD found),.lst (intD fr)]):=by
    simp only[HB,g1,List.map_append,je,jy,jv,jm,jL,ji];simp
   have ne:(intD (fr++[x])).isEmpty=false:=by simp
   unfold As;simp only[JH,Dz,List.getElem?_cons_zero,List.getElem?_cons_succ,bind_some,Co,g1,ne,Bool.not_false,jr,jj,Mq,JI,JJ,Pp,G5,N1,pop,Jx,set_cons_succ,set_cons_zero,da,hP,q,e]
def P9(P:D)(hd:Hd)(g:Gd)(G:GOk hd g)(ps:List (Int×Int))(hp:ps.length<64)(a:Int)
 (hP:∀(z1 z2 z3 z4 z5 z6:Option D) (r:Hd),DV (A0 0) [some P,z1,z2,z3,z4,z5,z6] (hd++r)=some ((ps.map Ac,g),hd++r)):∃(found:List Int) (r:Hd),F_reached [P,.im (.int a)] hd=some (.im (.tup ((Bm found).map I.int)),hd++r)/\found.Nodup/\(∀x,x∈found↔Rc ps a x)/\found.length<=ps.length:=by
 obtain⟨k,found,y4,y5,y6,e,F⟩:=VH P hd g G ps (by omega) a hP (1+ps.length) [] [a] none none none (by simp) (by simp) ⟨.nil,(λx h=>by cases h),(λx h=>Or.inl (by simpa using h)),(λx h=>Or.inl (by simpa using h))⟩;have e:=KO e;have fl:=F.len;refine⟨found,[.lst (intD found),.lst []],?_,F.nd,F.iff,fl⟩;have mk:AO ((Bm found).map λi=>D.im (.int i))=.im (.tup ((Bm found).map I.int)):=by
  have:((Bm found).map λi=>D.im (.int i))=((Bm found).map I.int).map D.im:=by rw[jx];rfl
  rw[this,CY]
 simp only[jy,je]at e;have lt:found.length<64:=by omega
 simp only[F_reached,mkF,gV,JI,JJ,dQ,dU,OP,N1,Dz,je,jy,jm,jL,jD,jT,List.replicate,Nat.reduceAdd,Nat.reduceSub,jj,List.getElem?_cons_zero,List.getElem?_cons_succ,bind_some,Dy,Cg,Jx,jr,set_cons_succ,set_cons_zero,jv,jC,e,SM,SO,SL,SN,g0,S8,lt,Bq,mk]
end Bd
namespace Rw
open PySem L2 Bd
@[reducible] noncomputable def gV:MS:=(A5 (AB 2 (Ag (Am A4)))
 (A5 (AB 3 (Ag (Am (A1 (A0 1) A4))))
 (A5 (Cr (BD (A0 3))
  (A5 (AB 4 (mMt HB (A0 3) A4))
 (Az (DV (A0 0)) (Bz 2 (Af (AF 5) (Af (AF 6) C8)))
  (AS (Ba (A6 (mOp gEq (A0 5) (A0 4))) (A6 (mOp (gIn true) (A0 6) (A0 2))))
  (A5 (Bp (mMt B5 (A0 2) (A1 (A0 6) A4)))
 (Bp (mMt B5 (A0 3) (A1 (A0 6) A4))))
  AM))))
 (AI (BI Bq (DU (C9 (A0 2))))))))
noncomputable def F_reached:List D->Hd->Option (D×Hd):=mkF 2 7 gV
@[reducible] noncomputable def j3:MS:=(AI (A7 0 F_reached (A1 (A0 1) (A1 (A0 2) A4))))
noncomputable def F_behind:List D->Hd->Option (D×Hd):=mkF 3 3 j3
def _root_.Bd.Rc.trans{x y z:Int}(a:Rc ps x y)(b:Rc ps y z):Rc ps x z:=by
 induction b with
 |one h=>exact .step a h
 |step _ h ih=>exact .step ih h
def Uj(ps:List (Int×Int)):(ps.map Gh).map D.im=ps.map Ac:=by rw[jx];rfl
noncomputable abbrev wI(ps:List (Int×Int)):I:=.tup (ps.map Gh)
def SI:F_reached=Bd.F_reached:=rfl
def behind_eq{ps:List (Int×Int)}(hp:ps.length<64)(n a:Int):∃(found:List Int) (g:Hd),F_behind [.im (.int n),.im (wI ps),.im (.int a)] []=some (.im (.tup ((Bm found).map I.int)),g)/\found.Nodup/\∀x,x∈found↔Rc ps a x:=by
 obtain⟨found,r,e,nd,mem,_⟩:=P9 (.im (wI ps)) [] [] (AJ _) ps hp a λz1 z2 z3 z4 z5 z6 r=>by
  have:=OJ (m:=A0 0) (ls:=[some (.im (wI ps)),z1,z2,z3,z4,z5,z6]) (hd:=[]++r) (hd':=[]++r) (is:=ps.map Gh) rfl;rw[this,Uj]
 refine⟨found,[],?_,nd,mem⟩;have c:=HH (m:=A1 (A0 1) (A1 (A0 2) A4)) (F:=Bd.F_reached) (ls:=[some (.im (.int n)),some (.im (wI ps)),some (.im (.int a))]) (hd:=[]) (ds:=[.im (wI ps),.im (.int a)]) (hd1:=[]) (by simp) (by simp) e;simp only[F_behind,mkF,j3,SI,SM,je,jy,jm,jL,jD,jT,List.replicate,Nat.reduceAdd,Nat.reduceSub,jj,c,bind_some]
end Rw
namespace An
open PySem L2 Bd
inductive Tv where
 |non|bl (b:Bool)|int (i:Int)|str (x:Str)|tup (l:List Tv)|lst (l:List Tv)
mutual
noncomputable def Is(n:Nat)(hd:Hd):Tv->D->Prop
 |.non,d=>d=.im .non
 |.bl b,d=>d=.im (.bl b)
 |.int i,d=>d=.im (.int i)
 |.str x,d=>d=.im (.str x)
 |.tup ts,d=>∃ds,d=AO ds/\Iss n hd ts ds
 |.lst ts,d=>∃k ds,d=.mu k/\2<=k/\k<n/\hd[k]?=some (.lst ds)/\Iss n hd ts ds
noncomputable def Iss(n:Nat)(hd:Hd):List Tv->List D->Prop
 |[],ds=>ds=[]
 |t::ts,ds=>∃d r,ds=d::r/\Is n hd t d/\Iss n hd ts r
end
section
variable{n n':Nat}
mutual
theorem Is.mono(hn:n<=n')(hk:∀k,2<=k->k<n->hd'[k]?=hd[k]?):∀{t:Tv} {d:D},Is n hd t d->Is n' hd' t d
 |.non,d,h=>by simpa only[Is]using h
 |.bl b,d,h=>by simpa only[Is]using h
 |.int i,d,h=>by simpa only[Is]using h
 |.str x,d,h=>by simpa only[Is]using h
 |.tup ts,d,h=>by
  simp only[Is]at h ⊢;obtain⟨ds,e,q⟩:=h;exact⟨ds,e,Iss.mono hn hk q⟩
 |.lst ts,d,h=>by
  simp only[Is]at h ⊢;obtain⟨k,ds,e,k2,kn,e2,q⟩:=h;exact⟨k,ds,e,k2,jn kn hn,(hk k k2 kn).trans e2,Iss.mono hn hk q⟩
theorem Iss.mono(hn:n<=n')(hk:∀k,2<=k->k<n->hd'[k]?=hd[k]?):∀{ts:List Tv} {ds:List D},Iss n hd ts ds->Iss n' hd' ts ds
 |[],ds,h=>by simpa only[Iss]using h
 |t::ts,ds,h=>by
  simp only[Iss]at h ⊢;obtain⟨d,r,e,q,z⟩:=h;exact⟨d,r,e,Is.mono hn hk q,Iss.mono hn hk z⟩
end
theorem Iss.len:∀{ts:List Tv} {ds:List D},Iss n hd ts ds->ds.length=ts.length
 |[],ds,h=>by simp only[Iss]at h;subst h;rfl
 |t::ts,ds,h=>by
  simp only[Iss]at h;obtain⟨d,r,rfl,q,z⟩:=h;simp[Iss.len z]
theorem Iss.app:∀{ts us:List Tv} {ds es:List D},Iss n hd ts ds->Iss n hd us es->Iss n hd (ts++us) (ds++es)
 |[],us,ds,es,h,h'=>by simp only[Iss]at h;subst h;simpa using h'
 |t::ts,us,ds,es,h,h'=>by
  simp only[Iss]at h;obtain⟨d,r,rfl,q,z⟩:=h;rw[jD,jD];simp only[Iss];exact⟨d,r++es,rfl,q,z.app h'⟩
def Iss.nil:Iss n hd [] []:=by simp only[Iss]
def Iss.cons(h:Is n hd t d)(r:Iss n hd ts ds):Iss n hd (t::ts) (d::ds):=by simp only[Iss];exact⟨d,ds,rfl,h,r⟩
def Iss.one(h:Is n hd t d):Iss n hd [t] [d]:=.cons h .nil
theorem Iss.drop:∀(k:Nat) {ts:List Tv} {ds:List D},Iss n hd ts ds->Iss n hd (ts.drop k) (ds.drop k)
 |0,ts,ds,h=>by simpa using h
 |k+1,[],ds,h=>by simp only[Iss]at h;subst h;simpa using Iss.nil
 |k+1,t::ts,ds,h=>by
  simp only[Iss]at h;obtain⟨d,r,rfl,q,z⟩:=h;simpa using Iss.drop k z
theorem Iss.take:∀(k:Nat) {ts:List Tv} {ds:List D},Iss n hd ts ds->Iss n hd (ts.take k) (ds.take k)
 |0,ts,ds,h=>by simpa using Iss.nil
 |k+1,[],ds,h=>by simp only[Iss]at h;subst h;simpa using Iss.nil
 |k+1,t::ts,ds,h=>by
  simp only[Iss]at h;obtain⟨d,r,rfl,q,z⟩:=h;simpa using Iss.cons q (Iss.take k z)
theorem Iss.rev:∀{ts:List Tv} {ds:List D},Iss n hd ts ds->Iss n hd ts.reverse ds.reverse
 |[],ds,h=>by simp only[Iss]at h;subst h;simpa using Iss.nil
 |t::ts,ds,h=>by
  simp only[Iss]at h;obtain⟨d,r,rfl,q,z⟩:=h;rw[kl,kl];exact z.rev.app (.one q)
theorem Iss.get:∀{ts:List Tv} {ds:List D} {k:Nat} {t:Tv},Iss n hd ts ds->ts[k]?=some t->∃d,ds[k]?=some d/\Is n hd t d
 |[],ds,k,t,h,e=>by simp at e
 |u::ts,ds,0,t,h,e=>by
  simp only[Iss]at h;obtain⟨d,r,rfl,q,z⟩:=h;simp at e;subst e;exact⟨d,rfl,q⟩
 |u::ts,ds,k+1,t,h,e=>by
  simp only[Iss]at h;obtain⟨d,r,rfl,q,z⟩:=h;exact Iss.get (k:=k) z (by simpa using e)
theorem Iss.tup(h:Iss n hd ts ds):Is n hd (.tup ts) (AO ds):=by simp only[Is];exact⟨ds,rfl,h⟩
def Is.view(h:Is n hd (.tup ts) d):∃ds,AL d=some ds/\Iss n hd ts ds:=by
 simp only[Is]at h;obtain⟨ds,rfl,q⟩:=h;exact⟨ds,AN ds,q⟩
noncomputable def ty(T:Ty):Tv->Bool
 |.non=>false
 |.bl _=>decide (T=.int∨T=.bool)
 |.int _=>decide (T=.int)
 |.str _=>decide (T=.str)
 |.tup _=>decide (T=.tuple)
 |.lst _=>decide (T=.list)
theorem Is.isD(T:Ty)(h:Is n hd t d):isD T hd d=some (ty T t):=by
 cases t with
 |non=>simp only[Is]at h;subst h;rfl
 |bl b=>simp only[Is]at h;subst h;rfl
 |int b=>simp only[Is]at h;subst h;rfl
 |str b=>simp only[Is]at h;subst h;rfl
 |tup ts=>
  simp only[Is]at h;obtain⟨ds,rfl,q⟩:=h;unfold AO;cases B0 ds<;>rfl
 |lst ts=>
  simp only[Is]at h;obtain⟨k,ds,rfl,_,_,e,_⟩:=h;simp[L2.isD,e,ty]
mutual
noncomputable def pyT:Tv->PyData
 |.non=>.none
 |.bl b=>.bool b
 |.int i=>.int i
 |.str x=>.str x
 |.tup ts=>.tuple (Ev ts)
 |.lst ts=>.list (Ev ts)
noncomputable def Ev:List Tv->List PyData
 |[]=>[]
 |t::ts=>pyT t::Ev ts
end
mutual
theorem Is.py:∀{t:Tv} {i:I},Is n hd t (.im i)->i.py=pyT t
 |.non,i,h=>by simp only[Is]at h;cases h;rfl
 |.bl b,i,h=>by simp only[Is]at h;cases h;rfl
 |.int b,i,h=>by simp only[Is]at h;cases h;rfl
 |.str b,i,h=>by simp only[Is]at h;cases h;rfl
 |.tup ts,i,h=>by
  simp only[Is]at h;obtain⟨ds,e,q⟩:=h;unfold AO at e;cases z:B0 ds with
  |none=>rw[z]at e;cases e
  |some is=>
   rw[z]at e;cases e;rw[Db z]at q;rw[I.py,pyT,Iss.pys q]
 |.lst ts,i,h=>by simp only[Is]at h;obtain⟨k,ds,e,_⟩:=h;cases e
theorem Iss.pys:∀{ts:List Tv} {is:List I},Iss n hd ts (is.map D.im)->I.pys is=Ev ts
 |[],is,h=>by
  simp only[Iss]at h;have:is=[]:=by simpa using h
  subst this;rfl
 |t::ts,is,h=>by
  simp only[Iss]at h;obtain⟨d,r,e,q,z⟩:=h;cases is with
  |nil=>cases e
  |cons i is=>
   rw[je]at e;obtain⟨rfl,rfl⟩:=List.cons.inj e;rw[I.pys,Ev,Is.py q,Iss.pys z]
end
mutual
noncomputable def dep:Tv->Nat
 |.non=>0
 |.bl _=>0
 |.int _=>0
 |.str _=>0
 |.tup ts=>D5 ts+1
 |.lst ts=>D5 ts+1
noncomputable def D5:List Tv->Nat
 |[]=>0
 |t::ts=>max (dep t) (D5 ts)
end
def Dt(m:Nat)(i:I):pyN m hd (.im i)=some i.py:=by cases m<;>rfl
mutual
theorem Is.pyN:∀{t:Tv} {d:D} {m:Nat},Is n hd t d->dep t<=m->pyN m hd d=some (pyT t)
 |.non,d,m,h,hm=>by simp only[Is]at h;subst h;exact Dt m _
 |.bl b,d,m,h,hm=>by simp only[Is]at h;subst h;exact Dt m _
 |.int i,d,m,h,hm=>by simp only[Is]at h;subst h;exact Dt m _
 |.str x,d,m,h,hm=>by simp only[Is]at h;subst h;exact Dt m _
 |.tup ts,d,m,h,hm=>by
  have h0:=h;simp only[Is]at h;obtain⟨ds,e,q⟩:=h;cases m with
  |zero=>simp[dep]at hm
  |succ m=>
   unfold AO at e;cases z:B0 ds with
   |some is=>rw[z]at e;subst e;rw[Dt,Is.py h0]
   |none=>
    rw[z]at e;subst e;show(E5 (ds.map (L2.pyN m hd))).map PyData.tuple=_;rw[Iss.pyN q (by simp[dep]at hm;omega),pyT];rfl
 |.lst ts,d,m,h,hm=>by
  simp only[Is]at h;obtain⟨k,ds,rfl,_,_,e,q⟩:=h;cases m with
  |zero=>simp[dep]at hm
  |succ m=>
   show(match hd[k]? with|some (.lst ds)=>(E5 (ds.map (L2.pyN m hd))).map PyData.list|_=>none)=_;rw[e];show(E5 (ds.map (L2.pyN m hd))).map PyData.list=_;rw[Iss.pyN q (by simp[dep]at hm;omega),pyT];rfl
theorem Iss.pyN:∀{ts:List Tv} {ds:List D} {m:Nat},Iss n hd ts ds->D5 ts<=m->E5 (ds.map (L2.pyN m hd))=some (Ev ts)
 |[],ds,m,h,hm=>by simp only[Iss]at h;subst h;rfl
 |t::ts,ds,m,h,hm=>by
  simp only[Iss]at h;obtain⟨d,r,rfl,q,z⟩:=h;simp only[D5]at hm;rw[je,Is.pyN q (by omega)];show(E5 (r.map (L2.pyN m hd))).map (pyT t::·)=_;rw[Iss.pyN z (by omega),Ev];rfl
end
mutual
noncomputable def Gq(m:Nat):Tv->Prop
 |.non=>True
 |.bl _=>True
 |.int i=>i.natAbs<=m
 |.str x=>∀c∈x.cps.toList,c<128
 |.tup ts=>Gqs m ts
 |.lst ts=>Gqs m ts
noncomputable def Gqs(m:Nat):List Tv->Prop
 |[]=>True
 |t::ts=>Gq m t/\Gqs m ts
end
mutual
noncomputable def wt:Tv->Nat
 |.non=>1
 |.bl _=>1
 |.int i=>i.natAbs.log2+2
 |.str x=>x.length+1
 |.tup ts=>wts ts+1
 |.lst ts=>wts ts+1
noncomputable def wts:List Tv->Nat
 |[]=>0
 |t::ts=>wt t+wts ts
end
theorem gds_iff{m:Nat}:∀{ts:List Tv},Gqs m ts↔∀t∈ts,Gq m t
 |[]=>by simp[Gqs]
 |t::ts=>by simp[Gqs,gds_iff]
def OR{k:Nat}(h:∀t∈ts,dep t<=k):D5 ts<=k:=by
 induction ts with
 |nil=>simp[D5]
 |cons t ts ih=>
  simp only[D5];have h1:=h t (by simp);have h2:=ih λu hu=>h u (by simp[hu]);omega
mutual
theorem Gq.mono{m m':Nat}(h:m<=m'):∀{t:Tv},Gq m t->Gq m' t
 |.non,q=>trivial
 |.bl _,q=>trivial
 |.int i,q=>by simp only[Gq]at q ⊢;omega
 |.str x,q=>by simpa only[Gq]using q
 |.tup ts,q=>by simp only[Gq]at q ⊢;exact Gqs.mono h q
 |.lst ts,q=>by simp only[Gq]at q ⊢;exact Gqs.mono h q
theorem Gqs.mono{m m':Nat}(h:m<=m'):∀{ts:List Tv},Gqs m ts->Gqs m' ts
 |[],q=>trivial
 |t::ts,q=>by simp only[Gqs]at q ⊢;exact⟨Gq.mono h q.1,Gqs.mono h q.2⟩
end
end
end An
namespace An
open PySem L2 Bd
section
variable{n n':Nat}{hd':Hd}
mutual
noncomputable def ofI:I->Tv
 |.non=>.non
 |.bl b=>.bl b
 |.int i=>.int i
 |.str x=>.str x
 |.tup l=>.tup (Jp l)
noncomputable def Jp:List I->List Tv
 |[]=>[]
 |i::l=>ofI i::Jp l
end
mutual
theorem Br:∀(i:I),Is n hd (ofI i) (.im i)
 |.non=>by simp only[ofI,Is]
 |.bl _=>by simp only[ofI,Is]
 |.int _=>by simp only[ofI,Is]
 |.str _=>by simp only[ofI,Is]
 |.tup l=>by
  simp only[ofI,Is];exact⟨l.map D.im,(CY l).symm,S5 l⟩
theorem S5:∀(l:List I),Iss n hd (Jp l) (l.map D.im)
 |[]=>Iss.nil
 |i::l=>by rw[Jp,je];exact .cons (Br i) (S5 l)
end
theorem Mb:∀l:List I,Jp l=l.map ofI
 |[]=>rfl
 |i::l=>by rw[Jp,Mb l];rfl
noncomputable def tl:Tv->Nat
 |.tup l=>l.length
 |.lst l=>l.length
 |_=>0
structure Bo(m w dp l:Nat)(t:Tv):Prop where
 gd:Gq m t
 wt:wt t<=w
 dp:dep t<=dp
 tl:tl t<=l
def So{m w dp l:Nat}(h1:∀t∈ts,Gq m t)(h2:wts ts+1<=w)(h3:D5 ts+1<=dp)(h4:ts.length<=l):Bo m w dp l (.tup ts):=⟨by simp only[Gq];exact gds_iff.mpr h1,by simpa only[An.wt]using h2,by simpa only[dep]using h3,by simpa only[An.tl]using h4⟩
def Sr{m w dp l:Nat}(h1:∀t∈ts,Gq m t)(h2:wts ts+1<=w)(h3:D5 ts+1<=dp)(h4:ts.length<=l):Bo m w dp l (.lst ts):=⟨by simp only[Gq];exact gds_iff.mpr h1,by simpa only[An.wt]using h2,by simpa only[dep]using h3,by simpa only[An.tl]using h4⟩
def NK{m w dp l:Nat}{i:Int}(h1:i.natAbs<=m)(h2:i.natAbs.log2+2<=w):Bo m w dp l (.int i):=⟨by simpa only[Gq]using h1,by simpa only[An.wt]using h2,by simp[dep],by simp[An.tl]⟩
def NJ{m w dp l:Nat}{x:Str}(h1:∀c∈x.cps.toList,c<128)(h2:x.length+1<=w):Bo m w dp l (.str x):=⟨by simpa only[Gq]using h1,by simpa only[An.wt]using h2,by simp[dep],by simp[An.tl]⟩
def WJ{m w dp l:Nat}{b:Bool}(h2:1<=w):Bo m w dp l (.bl b):=⟨trivial,by simpa only[An.wt]using h2,by simp[dep],by simp[An.tl]⟩
def Sq{m w dp l:Nat}(h2:1<=w):Bo m w dp l .non:=⟨trivial,by simpa only[An.wt]using h2,by simp[dep],by simp[An.tl]⟩
def fg{r:Int}(h:Iss n hd ts ds)(h0:0<=r)(h1:r<ts.length):∃d t,atI ds r=some d/\t∈ts/\Is n hd t d:=by
 obtain⟨k,rfl⟩:∃k:Nat,r=(k:Int):=⟨r.toNat,by omega⟩
 have hk:k<ts.length:=by omega
 obtain⟨d,e,q⟩:=h.get (List.getElem?_eq_getElem hk);exact⟨d,_,EZ rfl e,List.getElem_mem hk,q⟩
def sIx_nat(l d k:Nat):HT.sIx l d (some (k:Int))=min k l:=by
 unfold HT.sIx;have h:¬ ((k:Int)<0):=by omega
 simp[h]
def dh(xs:List D)(k:Nat):Bi xs none (some (k:Int))=xs.take k:=by
 unfold Bi;rw[sIx_nat,show HT.sIx xs.length 0 none=0 from rfl,List.drop_zero,Nat.sub_zero,<- List.take_eq_take_min]
def Sb(xs:List D)(k:Nat):Bi xs (some (k:Int)) none=xs.drop k:=by
 unfold Bi;rw[sIx_nat,show HT.sIx xs.length xs.length none=xs.length from rfl,jZ (by simp)];by_cases h:k<=xs.length
 .rw[Nat.min_eq_left h]
 .rw[Nat.min_eq_right (by omega),km (jc _),km (by omega)]
end
section
variable{QE:D->Hd->Prop}
def Sy(h:AL d=some xs):Mv d e hd=none:=by
 cases d with
 |im i=>cases i with
  |tup is=>rfl
  |_=>cases h
 |tm _=>rfl
 |mu _=>cases h
 |ro _=>cases h
 |op _ _ _=>cases h
def JW(h1:AL d=some xs)(h2:AL e=some ys)(hn:xs≠[])(hl:xs.length+ys.length<=1000000)(q:QE (AO (xs++ys)) hd):WP (AX d e hd) QE:=by
 refine⟨_,_,?_,q⟩;show CC Mv E9 d e hd=_;unfold CC;rw[Sy h1];show E9 d e hd=_;unfold E9;rw[h1,bind_some,h2,bind_some,j9 ⟨hn,AR hl⟩]
def wp_catN(h1:AL d=some xs)(h2:AL e=some ys)(hl:xs.length+ys.length<=1000000)(q:QE (AO (xs++ys)) hd):WP (Ep d e hd) QE:=by
 by_cases hn:xs=[]
 .subst hn;refine⟨_,_,?_,q⟩;show CC AX GD d e hd=_;unfold CC;have:AX d e hd=none:=by
   show CC Mv E9 d e hd=_;unfold CC;rw[Sy h1];show E9 d e hd=_;unfold E9;rw[h1,bind_some,h2,bind_some,ja (λc=>c.1 rfl)]
  rw[this];show GD d e hd=_;unfold GD;rw[h1,bind_some,h2,bind_some,j9 rfl];rfl
 .obtain⟨z,x,e1,q1⟩:=JW (hd:=hd) (QE:=QE) h1 h2 hn hl q;refine⟨z,x,?_,q1⟩;show CC AX GD d e hd=_;unfold CC;rw[e1]
def HJ{k:Nat}(hk:k<=1000)(q:QE (.im (.int ((10:Int)^k))) hd):WP (GB (.im (.int 10)) (.im (.int (k:Int))) hd) QE:=by
 have:Ef 10 (k:Int):=⟨by omega,by omega,by decide⟩
 exact⟨_,_,by simp[this],q⟩
end
end An
namespace An
open PySem L2 Bd
section
variable{QE:D->Hd->Prop}{i j k:Nat}
def Kv(h1:ls[i]?=some (some d))(hv:AL d=some ds)(h2:ls[j]?=some (some (.im (.int (k:Int)))))(q:QE (AO (ds.take k)) hd):WE (Ca (A0 i) B4 (BX (A0 j))) ls hd QE:=
 Ia (A2 h1 (Oj (FA (A2 h2 ⟨_,rfl,ds,hv,by rw[dh];exact q⟩))))
def eK(h1:ls[i]?=some (some d))(hv:AL d=some ds)(h2:ls[j]?=some (some (.im (.int (k:Int)))))(q:QE (AO (ds.drop k)) hd):WE (Ca (A0 i) (BX (A0 j)) B4) ls hd QE:=
 Ia (A2 h1 (FA (A2 h2 ⟨_,rfl,Oj ⟨ds,hv,by rw[Sb];exact q⟩⟩)))
def Lu{c:Nat}(h1:ls[i]?=some (some d))(hv:AL d=some ds)(h2:ls[j]?=some (some (.im (.int (k:Int)))))(q:QE (AO (ds.drop (k+c))) hd):WE (Ca (A0 i) (BX (mOp AX (A0 j) (mC (.int (c:Int))))) B4) ls hd QE:=
 Ia (A2 h1 (FA (AC (A2 h2 (AG (Dq ⟨_,rfl,Oj ⟨ds,hv,by rw[show((k:Int)+(c:Int))=((k+c:Nat):Int) by omega,Sb];exact q⟩⟩))))))
end
end An
namespace An
open PySem PySem.Spec PyProof.Rows L2
structure OkW(w dp:Nat)(p:PyData):Prop where
 sh:p.showable=true
 lay:p.canLay0=true
 it:p.intsShort 250=true
 dp:p.depth<=dp
 wt:p.weight+1<=w
structure OkWs(w dp:Nat)(p:List PyData):Prop where
 sh:PyData.showableAll p=true
 lay:PyData.canLayAll0 p=true
 it:PyData.intsShortAll 250 p=true
 dp:PyData.depthAll p<=dp
 wt:PyData.weightAll p<=w
def OkW.tup{w dp:Nat}(h:OkWs w dp p):OkW (w+1) (dp+1) (.tuple p):=by
 refine⟨?_,?_,?_,?_,?_⟩
 .rw[PyData.showable];exact h.sh
 .rw[PyData.canLay0];exact h.lay
 .rw[PyData.intsShort];exact h.it
 .rw[PyData.depth];have:=h.dp;omega
 .rw[PyData.weight];have:=h.wt;omega
def OkW.lst{w dp:Nat}(h:OkWs w dp p):OkW (w+1) (dp+1) (.list p):=by
 refine⟨?_,?_,?_,?_,?_⟩
 .rw[PyData.showable];exact h.sh
 .rw[PyData.canLay0];exact h.lay
 .rw[PyData.intsShort];exact h.it
 .rw[PyData.depth];have:=h.dp;omega
 .rw[PyData.weight];have:=h.wt;omega
def OkWs.nil{w dp:Nat}:OkWs w dp []:=⟨by simp[PyData.showableAll],by simp[PyData.canLayAll0],by simp[PyData.intsShortAll],by simp[PyData.depthAll],by simp[PyData.weightAll]⟩
def OkWs.cons{w w' dp:Nat}(h:OkW w dp d)(t:OkWs w' dp ds):OkWs (w+w') dp (d::ds):=by
 refine⟨by simp[PyData.showableAll,h.sh,t.sh],by simp[PyData.canLayAll0,h.lay,t.lay],by simp[PyData.intsShortAll,h.it,t.it],?_,?_⟩
 .simp only[PyData.depthAll];exact Nat.max_le.mpr ⟨h.dp,t.dp⟩
 .simp only[PyData.weightAll];have:=h.wt;have:=t.wt;omega
def OkW.mono{w w' dp dp':Nat}(h:OkW w dp d)(a:w<=w')(b:dp<=dp'):OkW w' dp' d:=⟨h.sh,h.lay,h.it,jh h.dp b,jh h.wt a⟩
def OkWs.mono{w w' dp dp':Nat}(h:OkWs w dp d)(a:w<=w')(b:dp<=dp'):OkWs w' dp' d:=⟨h.sh,h.lay,h.it,jh h.dp b,jh h.wt a⟩
def OkW.repr{w dp:Nat}(h:OkW w dp p)(hd:PyProof.Rows.isDisplay p=true)(h1:dp<=30)(h2:w<=30000):Gi p:=by
 refine⟨h.sh,PyData.hasDict_of_canLay p h.lay,hd,jh h.dp h1,?_⟩;have:=PyData.shown_le 250 (by decide) p (PyData.leavesShort_of_canLay0 250 p h.lay h.it);have hw:=h.wt;rw[jF];omega
mutual
theorem JF{m:Nat}(hm:m<=10^205):∀{t:Tv},Gq m t->OkW (wt t) (dep t) (pyT t)
 |.non,q=>⟨by simp[pyT,PyData.showable],by simp[pyT,PyData.canLay0],by simp[pyT,PyData.intsShort],by simp[pyT,PyData.depth],by simp[pyT,PyData.weight,wt]⟩
 |.bl _,q=>⟨by simp[pyT,PyData.showable],by simp[pyT,PyData.canLay0],by simp[pyT,PyData.intsShort],by simp[pyT,PyData.depth],by simp[pyT,PyData.weight,wt]⟩
 |.int i,q=>by
  simp only[Gq]at q;have h1:i.natAbs<10^206:=Nat.lt_of_le_of_lt (jh q hm) (by decide);have h0:i.natAbs<2^690:=jn h1 (by decide);have lg:i.natAbs.log2<690:=by
   by_cases z:i.natAbs=0
   .rw[z];decide
   .exact(log2_lt z).mpr h0
  refine⟨?_,by simp[pyT,PyData.canLay0],?_,by simp[pyT,PyData.depth],?_⟩
  .simp only[pyT,PyData.showable];exact jH (by omega)
  .simp only[pyT,PyData.intsShort,PyData.shown];refine jH ?_;have h2:=int_text_length_le10 (a:=i) (k:=206) (by decide) h1;rw[PySem.ofString_length];omega
  .simp only[pyT,PyData.weight,wt];split<;>omega
 |.str x,q=>by
  simp only[Gq]at q;refine⟨by simp[pyT,PyData.showable],?_,by simp[pyT,PyData.intsShort],by simp[pyT,PyData.depth],by simp only[pyT,PyData.weight,wt];exact jc _⟩;simp only[pyT,PyData.canLay0,PyData.strOk];rw[Array.all_eq_true'];intro c hc;have:=q c (by simpa using hc);simp;omega
 |.tup ts,q=>by
  simp only[Gq]at q;rw[pyT,wt,dep];exact OkW.tup (Mp hm q)
 |.lst ts,q=>by
  simp only[Gq]at q;rw[pyT,wt,dep];exact OkW.lst (Mp hm q)
theorem Mp{m:Nat}(hm:m<=10^205):∀{ts:List Tv},Gqs m ts->OkWs (wts ts) (D5 ts) (Ev ts)
 |[],q=>.nil
 |t::ts,q=>by
  simp only[Gqs]at q;rw[Ev,wts,D5];exact .cons ((JF hm q.1).mono (jc _) (by omega)) ((Mp hm q.2).mono (jc _) (by omega))
end
end An
namespace L2
open PySem PySem.W PyProof.Rows
def feE{K:Frag}{e:Df}(h:Ea.Fe K n s)(hn:e.x=n:=by rfl)(hs:e.st=s:=by rfl):Fe K e:=by subst hn;subst hs;exact h
def zsE{K:Frag}(h:Ea.Zs K):Zs K:=h
theorem W8:∀{l:List Value},Ea.ovB l=true->OverV l
 |[],h=>by simp[Ea.ovB]at h
 |v::l,h=>by
  unfold Ea.ovB at h;rcases Bool.or_eq_true_iff.mp h with h|h
  .rw[jV h];exact .base
  .cases v with
   |ref a=>exact .own (W8 h)
   |_=>cases h
theorem Hu{α:Type}{p f:α->Bool}{q:α}:∀{l:List α},l.find? p=some q->f q=true->(l.filter f).find? p=some q
 |[],h,_=>by cases h
 |a::l,h,hf=>by
  rw[jJ]at h;cases pa:p a with
  |true=>
   rw[pa]at h;cases h;rw[jR,j9 hf,jJ,pa]
  |false=>
   rw[pa]at h;have ih:=Hu h hf;rw[jR];split
   .rw[jJ,pa];exact ih
   .exact ih
def VT{K:Frag}{ts:List Tb}{nm:Str}(h:clsAt K nm=some C)(hC:C∉ts.map (·.1)):clsAt (B8 K ts) nm=some C:=by
 obtain⟨⟨C',o⟩,e,e2⟩:=j7 h;cases e2;unfold clsAt B8;rw[List.find?_append,Hu e (by simpa using hC)];rfl
def Ju{nm:Str}{b0 b:Bool}(h:List.lookup nm ((n,b0)::r)=some b):(nm=n/\b=b0)∨List.lookup nm r=some b:=by
 rw[jk]at h;cases q:(nm==n)with
 |true=>rw[q]at h;cases h;exact .inl ⟨beq_iff_eq.mp q,rfl⟩
 |false=>rw[q]at h;exact .inr h
def Ini(s:Stmt)(ps fs:List Str):Prop:=(∀{P:Program} {w:World} {K:Frag} {mg:Str->Option Value} {base:Heap} {qual:Str} {C fI fa:Addr} {fd:FuncData},Fun K "__init__" qual s fa fd->XC K C fI->(∀f∈fs,CJ K C f)->FnOk P w K mg base CX0 1 fa fd ps (spJ C fs))/\ps.length=fs.length+1/\fs.length<=1000 /\
 ∀(qual:Str) (kV doc pm:Value) (an:Option Addr) (cdv ct:Value) (us:List Value),us.length=ps.length->bindArgs (fnOf "__init__" qual (Bj s) (B6 s) (A9 s) .none kV doc pm an cdv ct) ⟨us,[]⟩=pure (ps.zip us)
section
variable{K:Frag}{mg:Str->Option Value}{c P:Str->Addr}(X:K.In h)(G:h.Ns mainGlobals mg)(hx:HX xs mg h c P){nm:Str}
include X hx in
theorem Ec.ncls(H:Ea.Ec K nm s fs C):C∉(tbs xs P).map (·.1):=λz=>by
 obtain⟨fI,N,nm',q,bs,bm,sub,sn,ab,col,dd,od,an,k0,k1,k2,k3,k5,oc,kV,dc,pm,cd,ct,sl,a,b,c',_⟩:=H;have:=X _ _ c';rw[IS hx C z]at this;cases this
include X hx in
theorem Ec.at(H:Ea.Ec K nm s fs C):clsAt (B8 K (tbs xs P)) nm=some C:=by
 have n:=Ec.ncls X hx H;obtain⟨fI,N,nm',q,bs,bm,sub,sn,ab,col,dd,od,an,k0,k1,k2,k3,k5,oc,kV,dc,pm,cd,ct,sl,a,b,_⟩:=H;exact VT b n
include X G hx in
theorem Ec.cl(H:Ea.Ec K nm s fs C)(I:Ini s ps fs):Cl (enM l w K xs P mg base) nm fs:=by
 have at':=Ec.at X hx H;have hP:=IS hx;obtain⟨fI,N,nm',q,bs,bm,sub,sn,ab,col,dd,od,an,k0,k1,k2,k3,k5,oc,kV,dc,pm,cd,ct,sl,a,b,lC,ov,fi,fn,kp,sa,ga,gx,ca,gd,tk,mo,na,li,ci,ki⟩:=H;have LE:=FM (ts:=tbs xs P) X hP;have xc:XC (B8 K (tbs xs P)) C fI:=LE.xc ⟨_,_,li,rfl⟩ ⟨⟨_,_,_,_,_,_,_,_,_,_,_,_,_,_,_,lC,W8 ov⟩,fi,fn,kp,sa,ga,gx⟩;have FI:=Fun.mark (ts:=tbs xs P) (SD (st:=s) li ci ki) X hP;have nA:∀f∈fs,CJ (B8 K (tbs xs P)) C f:=λf hf=>LE.noAttr (na f hf);exact⟨C,fI,_,ps,mg_of X G a,at',xc,LE.xi ⟨ca,gd,tk,mo⟩,nA,I.1 FI xc nA,FI.binds (I.2.2.2 _),I.2.1,I.2.2.1⟩
variable{b:Bool}
include X G hx in
theorem Ec.ch(H:Ea.Ec K nm s fs C)(hB:nsIn K mainGlobals B=some (some (.ref CB)))(k:PySem.W.exmOne K (.ref C) (.ref CB)=some true):Ch (enM l w K xs P mg base) B nm:=
 ⟨CB,C,mg_of X G hB,Ec.at X hx H,(FM (ts:=tbs xs P) X (IS hx)).exm k⟩
include X G hx in
theorem Ec.ci(H:Ea.Ec K nm s fs C)(hB:nsIn K mainGlobals B=some (some (.ref CB)))(k:PySem.W.kitOne K (.ref C) (.ref CB)=some b):Ci (enM l w K xs P mg base) B nm b:=
 ⟨CB,C,mg_of X G hB,Ec.at X hx H,(FM (ts:=tbs xs P) X (IS hx)).kitOne k⟩
include X G hx in
theorem Ec.cv(H:Ea.Ec K nm s fs C)(hV:nsIn K mainGlobals "ValueError"=some none)(k:PySem.W.kitOne K (.ref C) (.type "ValueError")=some true):Cv (enM l w K xs P mg base) nm:=
 ⟨C,PySem.W.mg_none_of X G hV,Ec.at X hx H,(FM (ts:=tbs xs P) X (IS hx)).kitOne k⟩
include X G hx in
theorem Ec.ct{ns:List Str}{cs:List Addr}(H:Ea.Ec K nm s fs C)(hB:ns.map mg=cs.map (λc=>some (.ref c)))(k:PySem.W.kitAny K (.ref C) (cs.map Value.ref)=some b):Ct (enM l w K xs P mg base) ns nm b:=
 ⟨cs,C,hB,Ec.at X hx H,(FM (ts:=tbs xs P) X (IS hx)).kitAny k⟩
end
end L2
namespace T21
open PySem L2
noncomputable abbrev Ht:Stmt:=top 11
def M1:FnScope ["thing"] ["thing"] (A9 Ht):=BC (by kernel_rfl)
@[reducible] noncomputable def Nb:MS:=(AI (El (C1 .int (A0 0)) (HV (C1 .bool (A0 0)))))
noncomputable def Dp:FD:=mkF 1 1 Nb
noncomputable abbrev F6:Df:=⟨"is_number",Ht,["thing"],1,Dp⟩
noncomputable abbrev EQ:Stmt:=top 12
def Ho:FnScope ["least","thing"] ["least","thing"] (A9 EQ):=BC (by kernel_rfl)
@[reducible] noncomputable def IQ:MS:=(AI (El (AW Dp (A1 (A0 1) A4)) (mOp gGe (A0 1) (A0 0))))
noncomputable def CF:FD:=mkF 2 2 IQ
noncomputable abbrev D4:Df:=⟨"is_number_from",EQ,["least","thing"],2,CF⟩
noncomputable abbrev DO:Stmt:=top 13
def Fj:FnScope ["many","thing"] ["many","thing"] (A9 DO):=BC (by kernel_rfl)
@[reducible] noncomputable def GS:MS:=(AI (El (AW CF (A1 (mC (.int 0)) (A1 (A0 1) A4))) (mOp gLt (A0 1) (A0 0))))
noncomputable def Ax:FD:=mkF 2 2 GS
noncomputable abbrev Be:Df:=⟨"is_number_of_work",DO,["many","thing"],3,Ax⟩
noncomputable abbrev Iq:Stmt:=top 15
def NT:FnScope ["rows","t","told","begin","amount"] ["rows","t"] (A9 Iq):=BC (by kernel_rfl)
@[reducible] noncomputable def iz:MS:=(A5 (AB 2 (mC (.int 0)))
 (A5 (Az (BE (A0 0)) (Bz 2 (Af (AF 3) (Af (AF 4) C8)))
  (A5 (AS (A6 (mOp gGt (A0 3) (A0 1)))
  (AI (A0 2))
  AM)
 (AB 2 (A0 4))))
 (AI (A0 2))))
noncomputable def HR:FD:=mkF 2 5 iz
noncomputable abbrev GH:Df:=⟨"steps_at",Iq,["rows","t"],1,HR⟩
noncomputable abbrev KI:Stmt:=top 16
def P5:FnScope ["cost","t","word","above"] ["cost","t"] (A9 KI):=BC (by kernel_rfl)
@[reducible] noncomputable def j4:MS:=(A5 (AB 2 (mOp gIx (A0 0) (mC (.int 0))))
 (A5 (AS (A6 (mOp gEq (A0 2) (mC (.str "steps"))))
  (AI (A7 0 HR (A1 (mOp gIx (A0 0) (mC (.int 1))) (A1 (A0 1) A4))))
  AM)
 (A5 (AS (A6 (mOp gEq (A0 2) (mC (.str "ends"))))
  (AI (mOp BY (mOp gIx (A0 0) (mC (.int 1))) (A0 1)))
  AM)
 (A5 (AB 3 (mOp BS (A0 1) (mOp gIx (A0 0) (mC (.int 1)))))
 (A5 (AS (A6 (mOp gEq (A0 2) (mC (.str "late"))))
  (AI (A0 3))
  AM)
 (A5 (AS (A6 (mOp gLe (A0 3) (mC (.int 0))))
  (AI (mC (.int 0)))
  AM)
 (A5 (AS (A6 (mOp gEq (A0 2) (mC (.str "tardy"))))
  (AI (mOp BY (mOp gIx (A0 0) (mC (.int 2))) (A0 3)))
  AM)
 (AI (mOp gIx (A0 0) (mC (.int 2)))))))))))
noncomputable def F_cost_at:FD:=mkF 2 4 j4
noncomputable abbrev HD:Df:=⟨"cost_at",KI,["cost","t"],2,F_cost_at⟩
noncomputable abbrev M3:Stmt:=top 18
def Qk:FnScope ["works","wishes","some","t","told","within","turn","a","b"] ["works","wishes","some","t"] (A9 M3):=BC (by kernel_rfl)
@[reducible] noncomputable def Ux:MS:=(A5 (AB 4 (JA (Gn 1 [0,3] (BE (A0 2)) (AF 0) CZ [] (HU (A0 0) (mCB EA (A1 (mOp gIx (mOp gIx (A0 1) (A0 0)) (mC (.int 1))) (A1 (A0 2) A4)))))))
 (A5 (AB 5 (Ag (Ak 2 [4] (BE (A0 1)) (Bz 2 (Af (AF 0) (Af (AF 1) C8))) (Ba (A6 (mOp (DX false) (A0 0) (A0 2))) (A6 (mOp (DX false) (A0 1) (A0 2)))) (Ad (A1 (A0 0) (A1 (A0 1) A4))))))
 (A5 (Az (BE (A0 2)) (AF 6)
  (Az (C9 (A0 5)) (Bz 2 (Af (AF 7) (Af (AF 8) C8)))
  (G4 (A0 4) (A0 8) (mCB EA (A1 (mOp DM (A0 4) (A0 8)) (A1 (mOp AX (mOp DM (A0 4) (A0 7)) (mOp gIx (mOp gIx (A0 0) (A0 7)) (mC (.int 0)))) A4))))))
 (AI (BI Bq (Ak 1 [4] (BE (A0 2)) (AF 0) CZ (mOp DM (A0 1) (A0 0))))))))
noncomputable def GP:FD:=mkF 4 9 Ux
noncomputable abbrev IU:Df:=⟨"raised",M3,["works","wishes","some","t"],1,GP⟩
noncomputable abbrev Nx:Stmt:=top 19
def Tk:FnScope ["works","wishes"] ["works","wishes"] (A9 Nx):=BC (by kernel_rfl)
@[reducible] noncomputable def Yt:MS:=(AI (A7 0 GP (A1 (A0 0) (A1 (A0 1) (A1 (LC (A1 (mCB (f1 true BM) (A1 (A0 0) A4)) A4)) (A1 (mC (.int 0)) A4))))))
noncomputable def Hn:FD:=mkF 2 2 Yt
noncomputable abbrev K2:Df:=⟨"heads",Nx,["works","wishes"],2,Hn⟩
noncomputable abbrev KH:Stmt:=top 21
def P4:FnScope ["pairs","a","found","fresh","at","one","other"] ["pairs","a"] (A9 KH):=BC (by kernel_rfl)
@[reducible] noncomputable def gV:MS:=(A5 (AB 2 (Ag (Am A4)))
 (A5 (AB 3 (Ag (Am (A1 (A0 1) A4))))
 (A5 (Cr (BD (A0 3))
  (A5 (AB 4 (mMt HB (A0 3) A4))
 (Az (DV (A0 0)) (Bz 2 (Af (AF 5) (Af (AF 6) C8)))
  (AS (Ba (A6 (mOp gEq (A0 5) (A0 4))) (A6 (mOp (gIn true) (A0 6) (A0 2))))
  (A5 (Bp (mMt B5 (A0 2) (A1 (A0 6) A4)))
 (Bp (mMt B5 (A0 3) (A1 (A0 6) A4))))
  AM))))
 (AI (BI Bq (DU (C9 (A0 2))))))))
noncomputable def F_reached:FD:=mkF 2 7 gV
noncomputable abbrev HC:Df:=⟨"reached",KH,["pairs","a"],1,F_reached⟩
noncomputable abbrev M6:Stmt:=top 22
def Qn:FnScope ["many","wishes","a"] ["many","wishes","a"] (A9 M6):=BC (by kernel_rfl)
@[reducible] noncomputable def j3:MS:=(AI (A7 0 F_reached (A1 (A0 1) (A1 (A0 2) A4))))
noncomputable def F_behind:FD:=mkF 3 3 j3
noncomputable abbrev IW:Df:=⟨"behind",M6,["many","wishes","a"],2,F_behind⟩
noncomputable abbrev Hs:Stmt:=top 23
def M0:FnScope ["many","wishes","some","told","u","later"] ["many","wishes","some"] (A9 Hs):=BC (by kernel_rfl)
@[reducible] noncomputable def Na:MS:=(A5 (AB 3 (Ag (Am A4)))
 (A5 (Az (BE (A0 2)) (AF 4)
  (A5 (AB 5 (A7 0 F_behind (A1 (A0 0) (A1 (A0 1) (A1 (A0 4) A4)))))
 (AS (CN (BD (BI Mk (Ak 1 [5] (BE (A0 2)) (AF 0) CZ (mOp (gIn false) (A0 0) (A0 1))))))
  (Bp (mMt B5 (A0 3) (A1 (A0 4) A4)))
  AM)))
 (AI (mCB (f1 true Bq) (A1 (A0 3) A4)))))
noncomputable def Do:FD:=mkF 3 6 Na
noncomputable abbrev F5:Df:=⟨"last_ones",Hs,["many","wishes","some"],3,Do⟩
noncomputable abbrev Hr:Stmt:=top 25
def Lz:FnScope ["works","some"] ["works","some"] (A9 Hr):=BC (by kernel_rfl)
@[reducible] noncomputable def NZ:MS:=(AI (BI Gw (Ak 1 [0] (BE (A0 1)) (AF 0) CZ (mOp gIx (mOp gIx (A0 1) (A0 0)) (mC (.int 0))))))
noncomputable def Dm:FD:=mkF 2 2 NZ
noncomputable abbrev F4:Df:=⟨"length_of",Hr,["works","some"],1,Dm⟩
noncomputable abbrev Ir:Stmt:=top 27
def NU:FnScope ["works","wishes","some","begins","end"] ["works","wishes","some"] (A9 Ir):=BC (by kernel_rfl)
@[reducible] noncomputable def Pf:MS:=(A5 (AB 3 (A7 0 Hn (A1 (A0 0) (A1 (A0 1) A4))))
 (A5 (AB 4 (mOp AX (BI G6 (Ak 1 [3] (BE (A0 2)) (AF 0) CZ (mOp gIx (A0 1) (A0 0)))) (A7 0 Dm (A1 (A0 0) (A1 (A0 2) A4)))))
 (AI (BI G6 (Ak 1 [0,4] (BE (A7 0 Do (A1 (mCB (f1 true BM) (A1 (A0 0) A4)) (A1 (A0 1) (A1 (A0 2) A4))))) (AF 0) CZ (A7 0 F_cost_at (A1 (mOp gIx (mOp gIx (A0 1) (A0 0)) (mC (.int 2))) (A1 (A0 2) A4))))))))
noncomputable def Cn:FD:=mkF 3 5 Pf
noncomputable abbrev EB:Df:=⟨"bound_of",Ir,["works","wishes","some"],4,Cn⟩
noncomputable abbrev Fk:Stmt:=top 28
def Hq:FnScope ["works","wishes","number","thing","k","entry"] ["works","wishes","number","thing"] (A9 Fk):=BC (by kernel_rfl)
@[reducible] noncomputable def Pe:MS:=(A5 (AS (mOr (CN (BD (C1 .tuple (A0 3)))) (A6 (mOp (Gz false) (A0 3) (Ad A4))))
 CH
 AM)
 (A5 (Az (G0 (BE (A0 3))) (Bz 2 (Af (AF 4) (Af (AF 5) C8)))
  (A5 (AS (CN (BD (AW Ax (A1 (mCB (f1 true BM) (A1 (A0 0) A4)) (A1 (A0 5) A4)))))
  CH
  AM)
 (AS (Ba (A6 (mOp gGt (A0 4) (mC (.int 0)))) (A6 (mOp gLe (A0 5) (mOp gIx (A0 3) (mOp BS (A0 4) (mC (.int 1)))))))
  CH
  AM)))
 (A5 (AS (A6 (mOp gLt (A7 0 Cn (A1 (A0 0) (A1 (A0 1) (A1 (A0 3) A4)))) (A0 2)))
  CH
  AM)
 (AI (mC (.bl true))))))
noncomputable def Bs:FD:=mkF 4 6 Pe
noncomputable abbrev GJ:Df:=⟨"lets_set",Fk,["works","wishes","number","thing"],5,Bs⟩
@[reducible] noncomputable def Nc:MS:=(A5 (AS (mOr (CN (BD (C1 .tuple (A0 3)))) (A6 (mOp (Gz false) (A0 3) (Ad A4))))
 (Cb "NoPaper" ["path","word"] (A1 (Ad A4) (A1 (mC (.str "shape")) A4)))
 (DL AM))
 (A5 (Az (G0 (BE (A0 3))) (Bz 2 (Af (AF 4) (Af (AF 5) C8)))
  (A5 (AS (CN (BD (AW Ax (A1 (mCB (f1 true BM) (A1 (A0 0) A4)) (A1 (A0 5) A4)))))
  (Cb "NoPaper" ["path","word"] (A1 (Ad (A1 (A0 4) A4)) (A1 (mC (.str "entry")) A4)))
  (DL AM))
 (AS (Ba (A6 (mOp gGt (A0 4) (mC (.int 0)))) (A6 (mOp gLe (A0 5) (mOp gIx (A0 3) (mOp BS (A0 4) (mC (.int 1)))))))
  (Cb "NoPaper" ["path","word"] (A1 (Ad (A1 (A0 4) A4)) (A1 (mC (.str "entry")) A4)))
  (DL AM))))
 (A5 (AS (A6 (mOp gLt (A7 0 Cn (A1 (A0 0) (A1 (A0 1) (A1 (A0 3) A4)))) (A0 2)))
  (Cb "NoPaper" ["path","word"] (A1 (Ad A4) (A1 (mC (.str "less")) A4)))
  (DL AM)) CH)))
noncomputable def Cm:FD:=mkX 4 6 Nc
noncomputable abbrev FY:Df:=⟨"lets_set",Fk,["works","wishes","number","thing"],5,Cm⟩
def Hv:DjF Cm Bs:=de (JM (LI Es iy) (JM (df (JM (LI Es iy) (LI Es iy))) (JM (LI Es iy) VP)))
noncomputable abbrev Qq:Stmt:=top 30
def Wx:FnScope ["_law_script"] ["_law_script"] (A9 Qq):=BC (by kernel_rfl)
@[reducible] noncomputable def cj:MS:=(AI (Ag (Am (A1 (Ag (Gm (Jr (A0 0) B4 (BX (mC (.int 63)))))) (A1 (mC (.int 0)) (A1 (mC (.int 0)) A4))))))
noncomputable def JS:FD:=mkF 1 1 cj
noncomputable abbrev N6:Df:=⟨"_law_feed",Qq,["_law_script"],1,JS⟩
noncomputable abbrev Qp:Stmt:=top 31
def Ww:FnScope ["_law_feed_here","_law_many","_law_digit","_law_at","_law_cell","_law_first"] ["_law_feed_here","_law_many"] (A9 Qp):=BC (by kernel_rfl)
@[reducible] noncomputable def cg:MS:=(A5 (AS (A6 (mOp gGt (mOp gIx (A0 0) (mC (.int 2))) (mC (.int 0))))
 (A5 (AB 2 (mOp Ce (mOp gIx (A0 0) (mC (.int 2))) (A0 1)))
 (A5 (Ej (A0 0) (mC (.int 2)) (mOp GC (mOp gIx (A0 0) (mC (.int 2))) (A0 1)))
 (AI (A0 2))))
  AM)
 (A5 (AB 3 (mOp gIx (A0 0) (mC (.int 1))))
 (A5 (Ej (A0 0) (mC (.int 1)) (mOp AX (A0 3) (mC (.int 1))))
 (A5 (AB 4 (mIf (A6 (Fz true (mOp gIx (A0 0) (mC (.int 0))) (Am A4))) (mOp gIx (mOp gIx (A0 0) (mC (.int 0))) (mOp Ce (A0 3) (mCB (f1 true BM) (A1 (mOp gIx (A0 0) (mC (.int 0))) A4)))) (mC (.int 0))))
 (A5 (AS (Ba (A6 (mOp gGe (A0 4) (mOp GB (mC (.int 10)) (mC (.int 18))))) (A6 (mOp gLt (A0 3) (mCB (f1 true BM) (A1 (mOp gIx (A0 0) (mC (.int 0))) A4)))))
  (A5 (Ej (A0 0) (mC (.int 2)) (mOp GC (A0 4) (A0 1)))
 (AI (mOp Ce (A0 4) (A0 1))))
  AM)
 (A5 (AB 5 (mOp Ce (mOp BY (mOp AX (mOp AX (mOp AX (mOp Ce (A0 4) (mC (.int 1000003))) (mOp BY (mOp BY (mC (.int 37)) (A0 3)) (A0 3))) (mOp BY (mC (.int 13)) (A0 3))) (mC (.int 5))) (mC (.int 48271))) (mC (.int 999983))))
 (AI (mOp Ce (mOp GC (mOp Ce (mOp BY (mOp Ce (mOp AX (mOp AX (mOp BY (A0 5) (A0 5)) (mOp BY (mC (.int 7919)) (A0 3))) (mC (.int 11))) (mC (.int 2097143))) (mC (.int 69621))) (mC (.int 2147483629))) (mC (.int 7))) (A0 1)))))))))
noncomputable def AQ:FD:=mkF 2 6 cg
noncomputable abbrev EY:Df:=⟨"_law_next",Qp,["_law_feed_here","_law_many"],1,AQ⟩
noncomputable abbrev Nv:Stmt:=top 32
def Ti:FnScope [] [] (A9 Nv):=BC (by kernel_rfl)
@[reducible] noncomputable def Yr:MS:=(AI (Ag (Am (A1 (mC (.str "late")) (A1 (mC (.str "tardy")) (A1 (mC (.str "miss")) (A1 (mC (.str "ends")) (A1 (mC (.str "steps")) A4))))))))
noncomputable def FX:FD:=mkF 0 0 Yr
noncomputable abbrev K1:Df:=⟨"_law_words",Nv,[],1,FX⟩
noncomputable abbrev Qr:Stmt:=top 33
def Wy:FnScope ["_law_feed_here","_law_words_here","_law_word","_law_dues","_law_due","_law_weight","_law_rows","_law_start","_law_height","_law_k"] ["_law_feed_here","_law_words_here"] (A9 Qr):=BC (by kernel_rfl)
@[reducible] noncomputable def ck:MS:=(A5 (AB 2 (mOp gIx (A0 1) (A7 2 AQ (A1 (A0 0) (A1 (mCB (f1 true BM) (A1 (A0 1) A4)) A4)))))
 (A5 (AB 3 (Ag (Am (A1 (A7 2 AQ (A1 (A0 0) (A1 (mC (.int 40)) A4))) (A1 (A7 2 AQ (A1 (A0 0) (A1 (mC (.int 160)) A4))) (A1 (mOp BS (A7 2 AQ (A1 (A0 0) (A1 (mC (.int 500)) A4))) (mC (.int 99))) A4))))))
 (A5 (AB 4 (mOp gIx (A0 3) (A7 2 AQ (A1 (A0 0) (A1 (mC (.int 3)) A4)))))
 (A5 (AB 5 (A7 2 AQ (A1 (A0 0) (A1 (mC (.int 10)) A4))))
 (A5 (AS (A6 (mOp gEq (A0 2) (mC (.str "late"))))
  (AI (Ad (A1 (A0 2) (A1 (A0 4) A4))))
  AM)
 (A5 (AS (A6 (mOp gEq (A0 2) (mC (.str "ends"))))
  (AI (Ad (A1 (A0 2) (A1 (A0 5) A4))))
  AM)
 (A5 (AS (A6 (mOp gNe (A0 2) (mC (.str "steps"))))
  (AI (Ad (A1 (A0 2) (A1 (A0 4) (A1 (A0 5) A4)))))
  AM)
 (A5 (AB 6 (Ag (Am A4)))
 (A5 (AB 7 (mOp BS (A7 2 AQ (A1 (A0 0) (A1 (mC (.int 140)) A4))) (mC (.int 100))))
 (A5 (AB 8 (mC (.int 0)))
 (A5 (Az (Bu (A1 (mOp AX (mC (.int 1)) (A7 2 AQ (A1 (A0 0) (A1 (mC (.int 5)) A4)))) A4)) (AF 9)
  (A5 (AB 7 (mOp AX (mOp AX (A0 7) (mC (.int 1))) (A7 2 AQ (A1 (A0 0) (A1 (mC (.int 60)) A4)))))
 (A5 (AB 8 (mCB Hc (A1 (mC (.int 99)) (A1 (mOp AX (A0 8) (A7 2 AQ (A1 (A0 0) (A1 (mC (.int 30)) A4)))) A4))))
 (Bp (mMt B5 (A0 6) (A1 (Ad (A1 (A0 7) (A1 (A0 8) A4))) A4))))))
 (AI (Ad (A1 (A0 2) (A1 (mCB (f1 true Bq) (A1 (A0 6) A4)) A4)))))))))))))))
noncomputable def JT:FD:=mkF 2 10 ck
noncomputable abbrev N7:Df:=⟨"_law_cost",Qr,["_law_feed_here","_law_words_here"],2,JT⟩
noncomputable abbrev Nu:Stmt:=top 34
def Tg:FnScope ["_law_feed_here","_law_most","_law_words_here","_law_ways","_law_many","_law_longest","_law_way","_law_first","_law_works_here","_law_k","_law_comings"] ["_law_feed_here","_law_most","_law_words_here","_law_ways"] (A9 Nu):=BC (by kernel_rfl)
@[reducible] noncomputable def Yq:MS:=(A5 (AB 4 (mOp AX (mC (.int 1)) (A7 2 AQ (A1 (A0 0) (A1 (A0 1) A4)))))
 (A5 (AB 5 (E3 (Am (A1 (mC (.int 3)) (A1 (mC (.int 20)) A4))) (A7 2 AQ (A1 (A0 0) (A1 (mC (.int 2)) A4)))))
 (A5 (AB 6 (mOp gIx (A0 3) (A7 2 AQ (A1 (A0 0) (A1 (mCB (f1 true BM) (A1 (A0 3) A4)) A4)))))
 (A5 (AB 7 (A7 2 AQ (A1 (A0 0) (A1 (mC (.int 61)) A4))))
 (A5 (AB 8 (Ag (Am A4)))
 (A5 (Az (Bu (A1 (A0 4) A4)) (AF 9)
  (Dx (A5 (AB 10 (Ag (Am (A1 (A0 7) (A1 (A7 2 AQ (A1 (A0 0) (A1 (mC (.int 8)) A4))) (A1 (A7 2 AQ (A1 (A0 0) (A1 (mC (.int 25)) A4))) (A1 (A7 2 AQ (A1 (A0 0) (A1 (mC (.int 61)) A4))) A4)))))))
 (Bp (mMt B5 (A0 8) (A1 (Ad (A1 (mOp AX (mC (.int 1)) (A7 2 AQ (A1 (A0 0) (A1 (A0 5) A4)))) (A1 (mOp gIx (A0 10) (A0 6)) (A1 (A7 3 JT (A1 (A0 0) (A1 (A0 2) A4))) A4)))) A4))))))
 (AI (mCB (f1 true Bq) (A1 (A0 8) A4)))))))))
noncomputable def Hm:FD:=mkF 4 11 Yq
noncomputable abbrev K0:Df:=⟨"_law_works",Nu,["_law_feed_here","_law_most","_law_words_here","_law_ways"],3,Hm⟩
noncomputable abbrev M2:Stmt:=top 35
def Qj:FnScope ["_law_feed_here","_law_many","_law_left","_law_seq","_law_way","_law_found","_law_k","_law_j"] ["_law_feed_here","_law_many"] (A9 M2):=BC (by kernel_rfl)
@[reducible] noncomputable def Uw:MS:=(A5 (AB 2 (Ag (Gk (A1 (A0 1) A4))))
 (A5 (AB 3 (Ag (Am A4)))
 (A5 (Cr (A6 (Fz true (A0 2) (Am A4)))
  (Bp (mMt B5 (A0 3) (A1 (mMt FT (A0 2) (A1 (A7 2 AQ (A1 (A0 0) (A1 (mCB (f1 true BM) (A1 (A0 2) A4)) A4))) A4)) A4))))
 (A5 (AB 4 (A7 2 AQ (A1 (A0 0) (A1 (mC (.int 4)) A4))))
 (A5 (AB 5 (Ag (Am A4)))
 (A5 (Az (Bu (A1 (A0 1) A4)) (AF 6)
  (Az (Bu (A1 (A0 6) A4)) (AF 7)
  (AS (mOr (Ba (A6 (mOp gEq (A0 4) (mC (.int 3)))) (A6 (mOp gEq (A0 7) (mOp BS (A0 6) (mC (.int 1)))))) (Ba (A6 (mOp (gIn false) (A0 4) (Ad (A1 (mC (.int 1)) (A1 (mC (.int 2)) A4))))) (A6 (mOp gEq (A7 2 AQ (A1 (A0 0) (A1 (E3 (Am (A1 (mC (.int 1)) (A1 (mC (.int 4)) (A1 (mC (.int 2)) A4)))) (A0 4)) A4))) (mC (.int 0))))))
  (Bp (mMt B5 (A0 5) (A1 (Ad (A1 (mOp gIx (A0 3) (A0 7)) (A1 (mOp gIx (A0 3) (A0 6)) A4))) A4)))
  AM)))
 (AI (BI Bq (Jr (Ag (EU (C9 (A0 5)))) B4 (BX (mC (.int 16))))))))))))
noncomputable def GO:FD:=mkF 2 8 Uw
noncomputable abbrev IT:Df:=⟨"_law_wishes",M2,["_law_feed_here","_law_many"],2,GO⟩
noncomputable abbrev Nz:Stmt:=top 36
def Tm:FnScope ["_law_cost_here","_law_t"] ["_law_cost_here","_law_t"] (A9 Nz):=BC (by kernel_rfl)
@[reducible] noncomputable def Yv:MS:=(A5 (AS (A6 (mOp gEq (mOp gIx (A0 0) (mC (.int 0))) (mC (.str "late"))))
 (AI (mOp BS (A0 1) (mOp gIx (A0 0) (mC (.int 1)))))
 AM)
 (A5 (AS (A6 (mOp gEq (mOp gIx (A0 0) (mC (.int 0))) (mC (.str "tardy"))))
  (AI (mOp BY (mOp gIx (A0 0) (mC (.int 2))) (mCB EA (A1 (mC (.int 0)) (A1 (mOp BS (A0 1) (mOp gIx (A0 0) (mC (.int 1)))) A4)))))
  AM)
 (A5 (AS (A6 (mOp gEq (mOp gIx (A0 0) (mC (.int 0))) (mC (.str "miss"))))
  (AI (mOp BY (mOp gIx (A0 0) (mC (.int 2))) (mCB Mz (A1 (mOp gGt (A0 1) (mOp gIx (A0 0) (mC (.int 1)))) A4))))
  AM)
 (A5 (AS (A6 (mOp gEq (mOp gIx (A0 0) (mC (.int 0))) (mC (.str "ends"))))
  (AI (mOp BY (mOp gIx (A0 0) (mC (.int 1))) (A0 1)))
  AM)
 (AI (BI G7 (Go (Ag (Am (A1 (mC (.int 0)) A4))) (Ag (Ak 2 [1] (BE (mOp gIx (A0 0) (mC (.int 1)))) (Bz 2 (Af (AF 0) (Af (AF 1) C8))) (A6 (mOp gLe (A0 0) (A0 2))) (A0 1))))))))))
noncomputable def DB:FD:=mkF 2 2 Yv
noncomputable abbrev K3:Df:=⟨"_law_costs",Nz,["_law_cost_here","_law_t"],1,DB⟩
noncomputable abbrev M4:Stmt:=top 37
def Ql:FnScope ["_law_works_here","_law_wishes_here","_law_found","_law_turn","_law_k","_law_firsts","_law_ends"] ["_law_works_here","_law_wishes_here"] (A9 M4):=BC (by kernel_rfl)
@[reducible] noncomputable def Uy:MS:=(A5 (AB 2 LD)
 (A5 (Az (Bu (A1 (mCB (f1 true BM) (A1 (A0 0) A4)) A4)) (AF 3)
  (Az (Bu (A1 (mCB (f1 true BM) (A1 (A0 0) A4)) A4)) (AF 4)
  (Dx (A5 (AB 5 (Ag (Ak 2 [4] (DV (A0 1)) (Bz 2 (Af (AF 0) (Af (AF 1) C8))) (A6 (mOp gEq (A0 1) (A0 2))) (A0 0))))
 (AS (Ba (A6 (mOp (DX true) (A0 4) (A0 2))) (A6 (Fy false (Ak 1 [2] (C9 (A0 5)) (AF 0) (A6 (mOp (DX true) (A0 0) (A0 1))) (A0 0)) (Am A4))))
  (A5 (AB 6 (Ag (Ak 1 [2,0] (C9 (A0 5)) (AF 0) CZ (mOp AX (mOp DM (A0 1) (A0 0)) (mOp gIx (mOp gIx (A0 2) (A0 0)) (mC (.int 0)))))))
 (G4 (A0 2) (A0 4) (BI G7 (Go (Ag (Am (A1 (mOp gIx (mOp gIx (A0 0) (A0 4)) (mC (.int 1))) A4))) (A0 6)))))
  AM)))))
 (AI (Ag (Ak 1 [2] (Bu (A1 (mCB (f1 true BM) (A1 (A0 0) A4)) A4)) (AF 0) CZ (mOp DM (A0 1) (A0 0)))))))
noncomputable def D6:FD:=mkF 2 7 Uy
noncomputable abbrev GI:Df:=⟨"_law_heads",M4,["_law_works_here","_law_wishes_here"],1,D6⟩
noncomputable abbrev Nw:Stmt:=top 38
def Tj:FnScope ["_law_many","_law_wishes_here","_law_found","_law_turn","_law_k","_law_b"] ["_law_many","_law_wishes_here"] (A9 Nw):=BC (by kernel_rfl)
@[reducible] noncomputable def Ys:MS:=(A5 (AB 2 (Ag (Ak 1 [1] (Bu (A1 (A0 0) A4)) (AF 0) CZ (Ag (Ak 2 [0] (BE (A0 1)) (Bz 2 (Af (AF 0) (Af (AF 1) C8))) (A6 (mOp gEq (A0 0) (A0 2))) (A0 1))))))
 (A5 (Az (Bu (A1 (A0 0) A4)) (AF 3)
  (Az (Bu (A1 (A0 0) A4)) (AF 4)
  (Az (Js (Fv (mOp gIx (A0 2) (A0 4)))) (AF 5)
  (Dx (Bp (mMt DY (mOp gIx (A0 2) (A0 4)) (A1 (Ag (Ak 1 [2,4] (C9 (mOp gIx (A0 2) (A0 5))) (AF 0) (A6 (mOp (gIn true) (A0 0) (mOp gIx (A0 1) (A0 2)))) (A0 0))) A4)))))))
 (AI (A0 2))))
noncomputable def Dc:FD:=mkF 2 6 Ys
noncomputable abbrev Hf:Df:=⟨"_law_reach",Nw,["_law_many","_law_wishes_here"],1,Dc⟩
noncomputable abbrev O0:Stmt:=top 39
def To:FnScope ["_law_works_here","_law_reach_here","_law_known","_law_some","_law_end","_law_last"] ["_law_works_here","_law_reach_here","_law_known","_law_some"] (A9 O0):=BC (by kernel_rfl)
@[reducible] noncomputable def Yw:MS:=(A5 (AB 4 (mOp AX (BI G6 (Ak 1 [2] (BE (A0 3)) (AF 0) CZ (mOp gIx (A0 1) (A0 0)))) (BI Gw (Ak 1 [0] (BE (A0 3)) (AF 0) CZ (mOp gIx (mOp gIx (A0 1) (A0 0)) (mC (.int 0)))))))
 (A5 (AB 5 (Ag (Ak 1 [3,1] (BE (A0 3)) (AF 0) (A6 (Fy false (Ak 1 [2,0] (BE (A0 1)) (AF 0) (A6 (mOp (gIn false) (A0 0) (mOp gIx (A0 1) (A0 2)))) (A0 0)) (Am A4))) (A0 0))))
 (AI (BI G6 (Ak 1 [0,4] (C9 (A0 5)) (AF 0) CZ (A7 0 DB (A1 (mOp gIx (mOp gIx (A0 1) (A0 0)) (mC (.int 2))) (A1 (A0 2) A4))))))))
noncomputable def Dd:FD:=mkF 4 6 Yw
noncomputable abbrev Hi:Df:=⟨"_law_bound",O0,["_law_works_here","_law_reach_here","_law_known","_law_some"],2,Dd⟩
noncomputable abbrev M5:Stmt:=top 40
def Qm:FnScope ["_law_works_here","_law_wishes_here","_law_number","_law_thing","_law_former","_law_k","_law_one","_law_bound_here"] ["_law_works_here","_law_wishes_here","_law_number","_law_thing"] (A9 M5):=BC (by kernel_rfl)
@[reducible] noncomputable def Uz:MS:=(A5 (AS (mOr (CN (BD (C1 .tuple (A0 3)))) (A6 (mOp gEq (mCB (f1 true BM) (A1 (A0 3) A4)) (mC (.int 0)))))
 (AI (Ad (A1 (mC (.str "no")) (A1 (Ad A4) (A1 (mC (.str "shape")) A4)))))
 AM)
 (A5 (AB 4 (E2 (mC (.int 1))))
 (A5 (Az (Bu (A1 (mCB (f1 true BM) (A1 (A0 3) A4)) A4)) (AF 5)
  (A5 (AB 6 (mOp gIx (A0 3) (A0 5)))
 (A5 (AS (mOr (CN (BD (C1 .int (A0 6)))) (mOr (BD (C1 .bool (A0 6))) (CN (A6 (Cd gLt gLt (A0 4) (A0 6) (mCB (f1 true BM) (A1 (A0 0) A4)))))))
  (AI (Ad (A1 (mC (.str "no")) (A1 (Ad (A1 (A0 5) A4)) (A1 (mC (.str "entry")) A4)))))
  AM)
 (AB 4 (A0 6)))))
 (A5 (AB 7 (AW Dd (A1 (A0 0) (A1 (Cs Dc (A1 (mCB (f1 true BM) (A1 (A0 0) A4)) (A1 (A0 1) A4))) (A1 (A7 0 D6 (A1 (A0 0) (A1 (A0 1) A4))) (A1 (A0 3) A4))))))
 (AI (mIf (A6 (mOp gLt (A0 7) (A0 2))) (Ad (A1 (mC (.str "no")) (A1 (Ad A4) (A1 (mC (.str "less")) A4)))) (Ad (A1 (mC (.str "yes")) (A1 (mC (.bl true)) A4)))))))))
noncomputable def Eb:FD:=mkF 4 8 Uz
noncomputable abbrev IV:Df:=⟨"_law_judged",M5,["_law_works_here","_law_wishes_here","_law_number","_law_thing"],3,Eb⟩
noncomputable abbrev Qo:Stmt:=top 41
def Wv:FnScope ["_law_works_here","_law_wishes_here","_law_number","_law_thing","_law_told_here","e","_law_others"] ["_law_works_here","_law_wishes_here","_law_number","_law_thing"] (A9 Qo):=BC (by kernel_rfl)
@[reducible] noncomputable def cf:MS:=(A5 (AB 4 (Ad (A1 (mC (.str "odd")) (A1 (mC (.int 0)) A4))))
 (A5 (Di ["NoPaper"] (some 5) (AB 4 (Ad (A1 (mC (.str "yes")) (A1 (AW Bs (A1 (A0 0) (A1 (A0 1) (A1 (A0 2) (A1 (A0 3) A4))))) A4))))
  (Ew (AB 4 (Ad (A1 (mC (.str "yes")) (A1 (AW Bs (A1 (A0 0) (A1 (A0 1) (A1 (A0 2) (A1 (A0 3) A4))))) A4)))) (AI (Fu (mC (.str "yes")) (AW Cm (A1 (A0 0) (A1 (A0 1) (A1 (A0 2) (A1 (A0 3) A4))))))))
  (A5 (AB 6 (Cc [("NoPaper",false)] (A0 5)))
 (AS (Ba (BD (Cc [("NoPaper",true)] (A0 5))) (Ba (BD (Cc [("NoPaper",true)] (A0 5))) (CN (BD (A0 6)))))
  (AB 4 (Ad (A1 (mC (.str "no")) (A1 (Fw ["NoPaper"] "path" (A0 5)) (A1 (Fw ["NoPaper"] "word" (A0 5)) A4)))))
  AM)))
 (AI (A0 4))))
noncomputable def HI:FD:=mkF 4 7 cf
noncomputable abbrev N5:Df:=⟨"_law_told",Qo,["_law_works_here","_law_wishes_here","_law_number","_law_thing"],6,HI⟩
noncomputable abbrev Ny:Stmt:=top 42
def Tl:FnScope [] [] (A9 Ny):=BC (by kernel_rfl)
@[reducible] noncomputable def Yu:MS:=(AI (mOp Hb (mOp Hb (mOp Hb (mOp GB (mC (.int 10)) (mC (.int 64))) (mOp GB (mC (.int 10)) (mC (.int 64)))) (mOp GB (mC (.int 10)) (mC (.int 64)))) (mOp GB (mC (.int 10)) (mC (.int 7)))))
noncomputable def CL:FD:=mkF 0 0 Yu
noncomputable abbrev Hg:Df:=⟨"_law_great",Ny,[],1,CL⟩
noncomputable abbrev Qs:Stmt:=top 43
def Wz:FnScope ["_law_feed_here","_law_many","_law_thing","_law_way","_law_at","_law_odd","_law_one","_law_some"] ["_law_feed_here","_law_many","_law_thing"] (A9 Qs):=BC (by kernel_rfl)
@[reducible] noncomputable def cm:MS:=(A5 (AB 3 (A7 2 AQ (A1 (A0 0) (A1 (mC (.int 9)) A4))))
 (A5 (AB 4 (A7 2 AQ (A1 (A0 0) (A1 (mOp AX (mCB (f1 true BM) (A1 (A0 2) A4)) (mC (.int 1))) A4))))
 (A5 (AB 5 (Ag (Am (A1 (mC (.bl true)) (A1 (mC (.bl false)) (A1 (mC .non) (A1 (mC (.str "0")) (A1 (mC (.str "")) (A1 (Ad (A1 (mC (.int 0)) A4)) (A1 (Ag (Am (A1 (mC (.int 0)) A4))) (A1 (E2 (mC (.int 1))) (A1 (A0 1) (A1 (A7 2 AQ (A1 (A0 0) (A1 (A0 1) A4))) (A1 (A7 0 CL A4) (A1 (E2 (A7 0 CL A4)) A4)))))))))))))))
 (A5 (AB 6 (mOp gIx (A0 5) (A7 2 AQ (A1 (A0 0) (A1 (mC (.int 12)) A4)))))
 (A5 (AS (A6 (mOp gLt (A0 3) (mC (.int 4))))
  (AI (mOp AX (mOp Ep (Ca (A0 2) B4 (BX (A0 4))) (Ad (A1 (A0 6) A4))) (Ca (A0 2) (BX (mOp AX (A0 4) (mC (.int 1)))) B4)))
  AM)
 (A5 (AS (A6 (mOp gEq (A0 3) (mC (.int 4))))
  (AI (mOp AX (mOp Ep (Ca (A0 2) B4 (BX (A0 4))) (Ad (A1 (A0 6) A4))) (Ca (A0 2) (BX (A0 4)) B4)))
  AM)
 (A5 (AB 7 (Ag (Am (A1 (mOp Ep (Ca (A0 2) B4 (BX (A0 4))) (Ca (A0 2) (BX (mOp AX (A0 4) (mC (.int 1)))) B4)) (A1 (mOp Ep (mOp Ep (Ca (A0 2) B4 (BX (A0 4))) (HQ (Ca (A0 2) (BX (A0 4)) (BX (mOp AX (A0 4) (mC (.int 1))))) (mC (.int 2)))) (Ca (A0 2) (BX (mOp AX (A0 4) (mC (.int 1)))) B4)) (A1 (HP (A0 2) (E2 (mC (.int 1)))) A4))))))
 (AI (E3 (Go (A0 7) (Ag (Am (A1 (E3 (Am (A1 (Ag (Fv (A0 2))) (A1 (mC .non) (A1 (mC (.str "set")) (A1 (Ad A4) (A1 (mOp Ep (A0 2) (Ad (A1 (mC (.int 0)) A4))) A4)))))) (mOp Ce (A0 4) (mC (.int 5)))) A4)))) (mOp BS (A0 3) (mC (.int 5))))))))))))
noncomputable def Ed:FD:=mkF 3 8 cm
noncomputable abbrev N8:Df:=⟨"_law_bent",Qs,["_law_feed_here","_law_many","_law_thing"],2,Ed⟩
noncomputable abbrev Vm:Stmt:=top 44
def Zu:FnScope ["_law_script","_law_feed_here","_law_works_here","_law_many","_law_wishes_here","_law_turn","_law_spoil","_law_number","_law_thing","_law_bound_here","_law_far","_law_asked","_law_kept","_law_due","_law_again"] ["_law_script"] (A9 Vm):=BC (by kernel_rfl)
@[reducible] noncomputable def fN:MS:=(A5 (AB 1 (AW JS (A1 (A0 0) A4)))
 (A5 (AB 2 (A7 4 Hm (A1 (A0 1) (A1 (mC (.int 8)) (A1 (A7 0 FX A4) (A1 (Ag (Am (A1 (mC (.int 0)) (A1 (mC (.int 1)) (A1 (mC (.int 2)) (A1 (mC (.int 3)) A4)))))) A4))))))
 (A5 (AB 3 (mCB (f1 true BM) (A1 (A0 2) A4)))
 (A5 (AB 4 (A7 2 GO (A1 (A0 1) (A1 (A0 3) A4))))
 (A5 (Az (Bu (A1 (mC (.int 12)) A4)) (AF 5)
  (A5 (AB 6 (A7 2 AQ (A1 (A0 1) (A1 (mC (.int 4)) A4))))
 (A5 (AB 7 (mOp AX (mC (.int 1)) (A7 2 AQ (A1 (A0 1) (A1 (mOp BS (mOp Ms (mC (.int 1)) (A0 3)) (mC (.int 1))) A4)))))
 (A5 (AB 8 (BI Bq (Ak 1 [7] (Bu (A1 (A0 3) A4)) (AF 0) (A6 (mOp gEq (mOp Mu (mOp Mr (A0 1) (A0 0)) (mC (.int 1))) (mC (.int 1)))) (A0 0))))
 (A5 (AB 9 (AW Dd (A1 (A0 2) (A1 (Cs Dc (A1 (A0 3) (A1 (A0 4) A4))) (A1 (A7 0 D6 (A1 (A0 2) (A1 (A0 4) A4))) (A1 (A0 8) A4))))))
 (A5 (AB 10 (E3 (Am (A1 (mC (.int 0)) (A1 (mC (.int 0)) (A1 (mC (.int 1)) (A1 (E2 (mC (.int 1))) (A1 (mOp BS (mC (.int 50)) (A7 2 AQ (A1 (A0 1) (A1 (mC (.int 100)) A4)))) (A1 (A7 0 CL A4) (A1 (E2 (A7 0 CL A4)) A4)))))))) (A7 2 AQ (A1 (A0 1) (A1 (mC (.int 7)) A4)))))
 (A5 (AB 11 (mIf (A6 (mOp gLt (mCB F1 (A1 (A0 10) A4)) (mC (.int 100)))) (mOp AX (A0 9) (A0 10)) (mOp BS (A0 10) (mOp Gy (A0 10) (mCB F1 (A1 (A0 10) A4))))))
 (A5 (AS (A6 (mOp gGt (A0 6) (mC (.int 1))))
  (AB 8 (AW Ed (A1 (A0 1) (A1 (A0 3) (A1 (A0 8) A4)))))
  AM)
 (A5 (AS (Ba (A6 (mOp gEq (A0 6) (mC (.int 3)))) (BD (C1 .tuple (A0 8))))
  (AB 8 (AW Ed (A1 (A0 1) (A1 (A0 3) (A1 (A0 8) A4)))))
  AM)
 (A5 (AB 12 (mCB Cj (A1 (A0 8) A4)))
 (A5 (AB 13 (mCB CI (A1 (AW Eb (A1 (A0 2) (A1 (A0 4) (A1 (A0 11) (A1 (A0 8) A4))))) A4)))
 (Az (Bu (A1 (mC (.int 2)) A4)) (AF 14)
  (AS (mOr (A6 (mOp gNe (mCB CI (A1 (AW HI (A1 (A0 2) (A1 (A0 4) (A1 (A0 11) (A1 (A0 8) A4))))) A4)) (A0 13))) (A6 (mOp gNe (mCB Cj (A1 (A0 8) A4)) (A0 12))))
  (AI (mC (.bl false)))
  AM)))))))))))))
 (AI (mC (.bl true))))))))
noncomputable def j5:FD:=mkF 1 15 fN
noncomputable abbrev Ps:Df:=⟨"law",Vm,["_law_script"],7,j5⟩
set_option maxHeartbeats 0 in
def oks{E:EnK}(B:BltA E.mg)(c0:Cl E "NoPaper" ["path","word"])(c1:Fx E ["NoPaper"] "path")(c2:Fx E ["NoPaper"] "word")(c3:Hx E "BenchError" ["NoPaper"])(c4:Itx E ["NoBack","NoRow","NoRule","NoText","NoWish","NoWork","TooMany"] [("NoPaper",false)])(c5:Iv E [("NoPaper",true)])(c6:Ix E "NoPaper" [("NoPaper",true)]):(Dn E F6->Kn E F6)/\
 (Dn E D4->Kn E F6->Kn E D4)/\
 (Dn E Be->Kn E D4->Kn E Be)/\
 (Dn E GH->Kn E GH)/\
 (Dn E HD->Kn E GH->Kn E HD)/\
 (Dn E IU->Kn E IU)/\
 (Dn E K2->Kn E IU->Kn E K2)/\
 (Dn E HC->Kn E HC)/\
 (Dn E IW->Kn E HC->Kn E IW)/\
 (Dn E F5->Kn E IW->Kn E F5)/\
 (Dn E F4->Kn E F4)/\
 (Dn E EB->Kn E HD->Kn E K2->Kn E F5->Kn E F4->Kn E EB)/\
 (Dn E FY->Kn E Be->Kn E EB->KnX E FY)/\
 (Dn E GJ->Kn E Be->Kn E EB->Kn E GJ)/\
 (Dn E N6->Kn E N6)/\
 (Dn E EY->Kn E EY)/\
 (Dn E K1->Kn E K1)/\
 (Dn E N7->Kn E EY->Kn E N7)/\
 (Dn E K0->Kn E EY->Kn E N7->Kn E K0)/\
 (Dn E IT->Kn E EY->Kn E IT)/\
 (Dn E K3->Kn E K3)/\
 (Dn E GI->Kn E GI)/\
 (Dn E Hf->Kn E Hf)/\
 (Dn E Hi->Kn E K3->Kn E Hi)/\
 (Dn E IV->Kn E GI->Kn E Hf->Kn E Hi->Kn E IV)/\
 (Dn E N5->Kn E GJ->KnX E FY->Kn E N5)/\
 (Dn E Hg->Kn E Hg)/\
 (Dn E N8->Kn E EY->Kn E Hg->Kn E N8)/\
 (Dn E Ps->Kn E N6->Kn E EY->Kn E K1->Kn E K0->Kn E IT->Kn E GI->Kn E Hf->Kn E Hi->Kn E IV->Kn E N5->Kn E Hg->Kn E N8->Kn E Ps):=by
 refine⟨λD=>okK D M1 rfl rfl λ_ _ _ _ _ _ _ hr=>?_,
  λD _=>okK D Ho rfl rfl λ_ _ _ _ _ _ _ hr=>?_,
  λD _=>okK D Fj rfl rfl λ_ _ _ _ _ _ _ hr=>?_,
  λD=>okK D NT rfl rfl λ_ _ _ _ _ _ _ hr=>?_,
  λD _=>okK D P5 rfl rfl λ_ _ _ _ _ _ _ hr=>?_,
  λD=>okK D Qk rfl rfl λ_ _ _ _ _ _ _ hr=>?_,
  λD _=>okK D Tk rfl rfl λ_ _ _ _ _ _ _ hr=>?_,
  λD=>okK D P4 rfl rfl λ_ _ _ _ _ _ _ hr=>?_,
  λD _=>okK D Qn rfl rfl λ_ _ _ _ _ _ _ hr=>?_,
  λD _=>okK D M0 rfl rfl λ_ _ _ _ _ _ _ hr=>?_,
  λD=>okK D Lz rfl rfl λ_ _ _ _ _ _ _ hr=>?_,
  λD _ _ _ _=>okK D NU rfl rfl λ_ _ _ _ _ _ _ hr=>?_,
  λD _ _=>gH D Hq rfl rfl λ_ _ _ _ _ _ _ hr=>?_,
  λD _ _=>okK D Hq rfl rfl λ_ _ _ _ _ _ _ hr=>?_,
  λD=>okK D Wx rfl rfl λ_ _ _ _ _ _ _ hr=>?_,
  λD=>okK D Ww rfl rfl λ_ _ _ _ _ _ _ hr=>?_,
  λD=>okK D Ti rfl rfl λ_ _ _ _ _ _ _ hr=>?_,
  λD _=>okK D Wy rfl rfl λ_ _ _ _ _ _ _ hr=>?_,
  λD _ _=>okK D Tg rfl rfl λ_ _ _ _ _ _ _ hr=>?_,
  λD _=>okK D Qj rfl rfl λ_ _ _ _ _ _ _ hr=>?_,
  λD=>okK D Tm rfl rfl λ_ _ _ _ _ _ _ hr=>?_,
  λD=>okK D Ql rfl rfl λ_ _ _ _ _ _ _ hr=>?_,
  λD=>okK D Tj rfl rfl λ_ _ _ _ _ _ _ hr=>?_,
  λD _=>okK D To rfl rfl λ_ _ _ _ _ _ _ hr=>?_,
  λD _ _ _=>okK D Qm rfl rfl λ_ _ _ _ _ _ _ hr=>?_,
  λD _ _=>okK D Wv rfl rfl λ_ _ _ _ _ _ _ hr=>?_,
  λD=>okK D Tl rfl rfl λ_ _ _ _ _ _ _ hr=>?_,
  λD _ _=>okK D Wz rfl rfl λ_ _ _ _ _ _ _ hr=>?_,
  λD _ _ _ _ _ _ _ _ _ _ _ _=>okK D Zu rfl rfl λ_ _ _ _ _ _ _ hr=>?_⟩
 all_goals (refine' ⟨_,_⟩;rotate_left;repeat' (first
  |((with_reducible show QE _ _ _ _ _);first|exact qv _ _|(first|exact bX _|exact bL _|exact f7 _|exact bP _)|((with_reducible show QE _ _ _ _ (mOp _ _ _));first|((with_reducible show QE _ _ _ _ (mOp gIx _ _));refine' eZ _ _ _)|((with_reducible show QE _ _ _ _ (mOp DM _ _));refine' YC _ (LF hr) _ _)|((with_reducible show QE _ _ _ _ (mOp AX _ _));refine' Cy _ ((Rr).or (Ma _)) (FG RW O4) _ _)|((with_reducible show QE _ _ _ _ (mOp BS _ _));refine' Cy _ cJ aX _ _)|((with_reducible show QE _ _ _ _ (mOp BY _ _));refine' Cy _ cP ae _ _)|((with_reducible show QE _ _ _ _ (mOp Ce _ _));refine' Cy _ cQ af _ _)|((with_reducible show QE _ _ _ _ (mOp GC _ _));refine' Cy _ Yd Xe _ _)|((with_reducible show QE _ _ _ _ (mOp Gy _ _));refine' Cy _ Ul U8 _ _)|((with_reducible show QE _ _ _ _ (mOp Hb _ _));refine' Cy _ Yc Xd _ _)|((with_reducible show QE _ _ _ _ (mOp GB _ _));refine' Cy _ cM aa _ _)|((with_reducible show QE _ _ _ _ (mOp Ms _ _));refine' Cy _ cL aZ _ _)|((with_reducible show QE _ _ _ _ (mOp Mr _ _));refine' Cy _ cK aY _ _)|((with_reducible show QE _ _ _ _ (mOp Mu _ _));refine' Cy _ cU aj _ _)|((with_reducible show QE _ _ _ _ (mOp Ep _ _));refine' Cy _ (((Rr).or (Ma _)).or (Yg _)) (FG (FG RW O4) Xf) _ _)|((with_reducible show QE _ _ _ _ (mOp gLt _ _));refine' J3 _ LA Kx _ _)|((with_reducible show QE _ _ _ _ (mOp gGt _ _));refine' J3 _ W9 Vt _ _)|((with_reducible show QE _ _ _ _ (mOp gGe _ _));refine' J3 _ WB Vu _ _)|((with_reducible show QE _ _ _ _ (mOp (gIn false) _ _));refine' J3 _ (Rq _) PD _ _))|refine' bK _ _|((with_reducible show QE _ _ _ _ (Ag _));refine' bQ _ _)|refine' bR _ _|((with_reducible show QE _ _ _ _ (A7 _ _ _));first|refine' qcW _ (by assumption) hr _|exact qc0 _ (by assumption) hr|refine' qcW _ (by assumption) (hr.in1.deeper _) _)|((with_reducible show QE _ _ _ _ (AW _ _));refine' qcG (by assumption) hr _)|((with_reducible show QE _ _ _ _ (Cs _ _));refine' qcS (by assumption) hr _)|((with_reducible show QE _ _ _ _ (BI _ _));first|((with_reducible show QE _ _ _ _ (BI Mk _));refine' L8 _ (Kh _ rfl) RP B.any L2.bt_any _)|((with_reducible show QE _ _ _ _ (BI Gw _));refine' L8 _ ((Kd _ rfl).or (JN _ rfl)) RJ B.sum L2.bt_sum _)|((with_reducible show QE _ _ _ _ (BI G6 _));refine' L8 _ (Kf _ rfl) RK B.min L2.bt_min _)|((with_reducible show QE _ _ _ _ (BI G7 _));refine' L8 _ ((Kg _ rfl).or (JO _ rfl)) RO B.max L2.bt_max _)|((with_reducible show QE _ _ _ _ (BI Bq _));refine' f6 _ (I0 _) MC B.tuple L2.bt_tuple _))|((with_reducible show QE _ _ _ _ (mCB _ _));first|((with_reducible show QE _ _ _ _ (mCB (f1 _ Mk) _));refine' Dg _ (Kh _ rfl) (Jf RP) B.any L2.bt_any _)|((with_reducible show QE _ _ _ _ (mCB (f1 _ Gw) _));refine' Dg _ ((Kd _ rfl).or (JN _ rfl)) (Jf RJ) B.sum L2.bt_sum _)|((with_reducible show QE _ _ _ _ (mCB (f1 _ BM) _));refine' Dg _ (Sk _) (Jf aI) B.len L2.bt_len _)|((with_reducible show QE _ _ _ _ (mCB (f1 _ G6) _));refine' Dg _ (Kf _ rfl) (Jf RK) B.min L2.bt_min _)|((with_reducible show QE _ _ _ _ (mCB (f1 _ G7) _));refine' Dg _ ((Kg _ rfl).or (JO _ rfl)) (Jf RO) B.max L2.bt_max _)|((with_reducible show QE _ _ _ _ (mCB EA _));refine' Dg _ (Sj rfl) XJ B.max L2.bt_max _)|((with_reducible show QE _ _ _ _ (mCB Hc _));refine' Dg _ (Si rfl) XH B.min L2.bt_min _)|((with_reducible show QE _ _ _ _ (mCB F1 _));refine' Dg _ VX aK B.abs L2.bt_abs _)|((with_reducible show QE _ _ _ _ (mCB Cj _));refine' Dg _ (Pz _ hr.gd hr.units) U4 B.repr L2.bt_repr _)|((with_reducible show QE _ _ _ _ (mCB CI _));refine' Dg _ (IA _ hr.gd hr.units) MD B.repr L2.bt_repr _)|((with_reducible show QE _ _ _ _ (mCB (f1 _ Bq) _));refine' W2 _ (I0 _) (Jf MC) B.tuple L2.bt_tuple _)|((with_reducible show QE _ _ _ _ (mCB Mz _));refine' W2 _ Sn aJ B.int L2.bt_int _))|refine' Y6 _ B.tuple B.range _|((with_reducible show QE _ _ _ _ (E3 _ _));refine' bU _ _ _)|((with_reducible show QE _ _ _ _ (Ca _ _ _));refine' bM _ _ _ _)|((with_reducible show QE _ _ _ _ (HP _ _));refine' Y7 _ _)|((with_reducible show QE _ _ _ _ (Cd _ _ _ _ _));first|((with_reducible show QE _ _ _ _ (Cd gLt gLt _ _ _));fail))|((with_reducible show QE _ _ _ _ (HQ _ _));refine' Y8 _ _ _)|refine' UQ _ _ _ _|((with_reducible show QE _ _ _ _ (mMt _ _ _));first|((with_reducible show QE _ _ _ _ (mMt B5 _ _));refine' PR _ PySem.F.slot_list_append PySem.F.type_list_append KN Qz _ _)|((with_reducible show QE _ _ _ _ (mMt HB _ _));refine' bS _ PySem.F.slot_list_pop PySem.F.type_list_pop cZ aD _)|((with_reducible show QE _ _ _ _ (mMt FT _ _));refine' PR _ PySem.F.slot_list_pop PySem.F.type_list_pop Uu Tz _ _)|((with_reducible show QE _ _ _ _ (mMt DY _ _));refine' PR _ PySem.F.slot_list_extend PySem.F.type_list_extend Rx Qy _ _))|refine' qdA _ (λ_ _ _=>_) (λ_ _ _=>_) (λ_ _ _=>_) (λ_ _ _=>_)|exact YB _|((with_reducible show QE _ _ _ _ (C1 _ _));first|((with_reducible show QE _ _ _ _ (C1 .int _));refine' MU _ .int B.isinstance B.int _)|((with_reducible show QE _ _ _ _ (C1 .bool _));refine' MU _ .bool B.isinstance B.bool _)|((with_reducible show QE _ _ _ _ (C1 .tuple _));refine' MU _ .tuple B.isinstance B.tuple _))|((with_reducible show QE _ _ _ _ (El _ _));refine' bZ _ _ _)|((with_reducible show QE _ _ _ _ (HV _));refine' bO _ _)|refine' bN _ _|((with_reducible show QE _ _ _ _ (Cc _ _));first|refine' Y9 (by assumption) B.isinstance _|refine' bW (by assumption) B.isinstance _|refine' UP (by assumption) B.isinstance _)|((with_reducible show QE _ _ _ _ (Fw _ _ _));refine' bY (by assumption) _))
  |refine' YD _ _ _|exact ba _
  |((with_reducible show QT _ _ _ _ _);first|((with_reducible show QT _ _ _ _ (A6 (mOp _ _ _)));first|((with_reducible show QT _ _ _ _ (A6 (mOp gLt _ _)));refine' DI _ LA Kx _ _)|((with_reducible show QT _ _ _ _ (A6 (mOp gLe _ _)));refine' DI _ fG eR _ _)|((with_reducible show QT _ _ _ _ (A6 (mOp gGt _ _)));refine' DI _ W9 Vt _ _)|((with_reducible show QT _ _ _ _ (A6 (mOp gGe _ _)));refine' DI _ WB Vu _ _)|((with_reducible show QT _ _ _ _ (A6 (mOp gEq _ _)));refine' DI _ ((fH).or (Jm _ hr.units)) (FG ag ah) _ _)|((with_reducible show QT _ _ _ _ (A6 (mOp gNe _ _)));refine' DI _ ((fF).or (OD _ hr.units)) (FG ac ad) _ _)|((with_reducible show QT _ _ _ _ (A6 (mOp (gIn false) _ _)));refine' DI _ (Rq _) PD _ _)|((with_reducible show QT _ _ _ _ (A6 (mOp (gIn true) _ _)));refine' DI _ (Ro _) PD _ _)|((with_reducible show QT _ _ _ _ (A6 (mOp (Gz false) _ _)));refine' DI _ (Jm _ hr.units) ai _ _)|((with_reducible show QT _ _ _ _ (A6 (mOp (DX false) _ _)));refine' av _ (LF hr) _ _)|((with_reducible show QT _ _ _ _ (A6 (mOp (DX true) _ _)));refine' Xk _ (LF hr) _ _))|refine' au _ _|((with_reducible show QT _ _ _ _ (BD _));refine' UG _ _)|((with_reducible show QT _ _ _ _ (Ba _ _));refine' QW.toT _)|((with_reducible show QT _ _ _ _ (mOr _ _));refine' QW.toT _)|((with_reducible show QT _ _ _ _ (A6 (Fz _ _ _)));refine' Xj _ (cN _ hr.units) _ _)|((with_reducible show QT _ _ _ _ (A6 (Fy _ _ _)));refine' Xi _ (cR _ hr.units) _ _)|((with_reducible show QT _ _ _ _ (A6 (Cd _ _ _ _ _)));first|((with_reducible show QT _ _ _ _ (A6 (Cd gLt gLt _ _ _)));refine' UH LA Kx LA Kx _ _ _)))
  |refine' Xh _ _|refine' aq _ _|refine' ar _ _ _|refine' eX _ _ _
  |((with_reducible show QN _ _ _ _ _);first|refine' b8 _ _|((with_reducible show QN _ _ _ _ (Ak _ _ _ _ _ _));refine' qnA _ (λ_ _ _=>_) (λ_ _ _=>_) (λ_ _ _=>_))|((with_reducible show QN _ _ _ _ (Go _ _));refine' b9 _ _ _)|((with_reducible show QN _ _ _ _ (Jr _ _ _));refine' az _ _ _ _)|((with_reducible show QN _ _ _ _ (EU _));refine' PP _ B.sorted _)|((with_reducible show QN _ _ _ _ (DU _));refine' PQ _ B.sorted _)|((with_reducible show QN _ _ _ _ (Gk _));refine' UL _ B.list B.range _)|((with_reducible show QN _ _ _ _ (Gm _));refine' UM _ B.list _)|((with_reducible show QN _ _ _ _ (Fv _));refine' Xy _ B.list _))
  |((with_reducible show QI _ _ _ _ _ _);first|((with_reducible show QI _ _ _ _ _ (Bu _));refine' Y0 _ B.range _)|((with_reducible show QI _ _ _ _ _ (BE _));refine' bA _ _)|((with_reducible show QI _ _ _ _ _ (C9 _));refine' Y3 _ _)|((with_reducible show QI _ _ _ _ _ (Js _));refine' bC _ _)|((with_reducible show QI _ _ _ _ _ (DV _));refine' bB _ _)|((with_reducible show QI _ _ _ _ _ (G0 _));refine' UN _ B.enumerate (Rb _ _)))
  |((with_reducible show QR _ _ _ _ _ _);first|((with_reducible show QR _ _ _ _ _ (C9 _));refine' Xv _ _)|((with_reducible show QR _ _ _ _ _ (BE _));refine' Rb _ _))
  |exact qgA
  |refine' bD _ rfl _
  |exact Y4 _|refine' UO _ _ _
  |exact bJ _|refine' bH _ _
  |exact Xx _|refine' Xw _ _
  |((with_reducible show QSs _ _ _ _ _);first|((with_reducible show QSs _ _ _ _ (A5 _ _));refine' UI _ _ _)|((with_reducible show QSs _ _ _ _ (Dx _));refine' Ra _ _)|(first|exact Xm _|refine' Xl _ _))
  |((with_reducible show QS _ _ _ _ _);first|((with_reducible show QS _ _ _ _ (AB _ (Ag (Ak _ _ _ _ _ _))));first|refine' gE _ (λ_ _ _=>_) (λ_ _ _=>_) (λ_ _ _=>_)|refine' qsA _)|((with_reducible show QS _ _ _ _ (AB _ _));refine' qsA _)|refine' eY _ _ _ _|refine' ax _ _|refine' ay _ rfl _ _ _|refine' Xr _ _|((with_reducible show QS _ _ _ _ (G4 _ _ _));refine' Xu _ (LF hr) _ _ _)|((with_reducible show QS _ _ _ _ (Ej _ _ _));refine' Xq _ _ _ _)|refine' UJ _ _ _|exact Xp _|((with_reducible show QS _ _ _ _ CH);exact UK _)|((with_reducible show QS _ _ _ _ (Di _ (some _) _ _ _));refine' Xn (by assumption) _ _ (λ_=>_) (FL (by kernel_rfl)) rfl))
  |((with_reducible show YXs _ _ _ _ _);first|((with_reducible show YXs _ _ _ _ (A5 _ CH));refine' LK _ K9)|((with_reducible show YXs _ _ _ _ (A5 _ _));refine' LK _ _)|(first|exact WR|refine' WQ _|exact K9))
  |((with_reducible show YX _ _ _ _ _);first|((with_reducible show YX _ _ _ _ (DL _));refine' WV _)|refine' eC _ _ _|((with_reducible show YX _ _ _ _ (Cb _ _ _));refine' T1 (by assumption) hr _)|((with_reducible show YX _ _ _ _ (Ew _ _));refine' ZT _ (ZQ _))|refine' ZR _|refine' ZS _ _ _)
  |((with_reducible show YXE _ _ _ _ _);first|refine' WU _|refine' QH (by assumption) hr _)
  | ((with_reducible show YXA _ _ _ _ _);first|((with_reducible show YXA _ _ _ _ (Fu _ _));refine' QJ _ _)|refine' Sz _)))
open Bd
def Gb{n:Nat}(h:n<=8):Fo (n:Int):=D7 (by omega) (by omega)
def TF{neg:Bool}{QE:D->Hd->Prop}(h:WE ma ls hd λd x=>∃ns:List Int,pyD x d=some (.list (ns.map PyData.int))/\QE (.im (.bl (if neg then !decide (ns=[])else decide (ns=[])))) x):WE (Fz neg ma (Am A4)) ls hd QE:=by
 obtain⟨d,x,e,ns,e2,q⟩:=h;refine⟨_,x,?_,q⟩;unfold Fz;rw[e];simp[e2,I.pys,OX]
def T6{QE:D->Hd->Prop}(q:QE (.im (.int 1000000000000000000)) hd):WP (GB (.im (.int 10)) (.im (.int 18)) hd) QE:=⟨_,_,by simp[po1],q⟩
local macro_rules | `(tactic| sizeOf_list_dec) => `(tactic| first | (with_reducible refine AA ?_; try dsimp only [set_cons_zero, set_cons_succ, je, jy, jD, jT, List.replicate, Nat.reduceSub, Int.reduceToNat]) | with_reducible refine DQ ?_ | with_reducible refine AH ?_ | with_reducible refine AY ?_ | with_reducible refine Ay ?_ | with_reducible refine Ni ?_ | with_reducible refine Ai ?_ | with_reducible refine Ar ?_ | with_reducible refine ZV ?_ | with_reducible refine WX ?_ | with_reducible refine DC ?_ | with_reducible refine A2 (d := _) rfl ?_ | with_reducible refine AG ?_ | with_reducible refine AC ?_ | with_reducible refine B1 ?_ | with_reducible refine CG ?_ | with_reducible refine Dr ?_ | with_reducible refine Ib ?_ | with_reducible refine C6 ?_ | with_reducible refine Vj ?_ | with_reducible refine BV ?_ | with_reducible refine Wk ?_ | with_reducible refine AU ?_ | with_reducible refine EH ?_ | with_reducible refine GT ?_ | with_reducible refine Fa ?_ | with_reducible refine EG ?_ | with_reducible refine A8 ?_ | with_reducible refine A3 ?_ | with_reducible refine Ds ?_ | with_reducible refine BZ ?_ | with_reducible refine GW ?_ | with_reducible refine eD ?_ | with_reducible refine EK ?_ | with_reducible refine Ze ?_ | with_reducible refine TD ?_ | with_reducible refine Dq ?_ | with_reducible refine F8 ?_ | with_reducible refine E6 ?_ | with_reducible refine Oh ?_ | with_reducible refine Oi ?_ | with_reducible refine Vh ?_ | with_reducible refine F9 ?_ | with_reducible refine ZZ ?_ | with_reducible refine GU ?_ | with_reducible refine LL ?_ | with_reducible refine Wa ?_ | with_reducible refine WZ ?_ | with_reducible refine ⟨_, rfl, ?_⟩ | refine Ae rfl (K7 _ _) ?_ | refine Ae rfl (Vb _ _ _) ?_ | refine Ae rfl (Q5 _ _ _ _) ?_ | refine ⟨_, _, _, _, rfl, rfl, rfl, rfl, ?_⟩ | refine ⟨⟨_, rfl⟩, ?_⟩ | refine ⟨JG, ?_⟩ | refine ⟨FS, ?_⟩ | refine ⟨dM, ?_⟩ | refine ⟨dL, ?_⟩ | refine ⟨Dy, ?_⟩ | refine ⟨Cg, ?_⟩ | with_reducible refine TF ?_)
def T(k:Nat)(a b:MO):Prop:=∃(cs:List Int) (nx lf:Int),0<=nx/\nx+k<=1000000000/\a=.lst (cs.map λi=>.im (.int i))/\b=.lst [.mu 0,.im (.int nx),.im (.int lf)]
def cX(k:Nat)(cs:List Int)(nx lf many:Int)(n0:0<=nx)(n1:nx+(k+1)<=1000000000)(h0:0<many)(h1:many<1073741824):WF AQ [.mu 1,.im (.int many)] [.lst (cs.map λi=>.im (.int i)),.lst [.mu 0,.im (.int nx),.im (.int lf)]] λd x=>∃r a' b',0<=r/\r<many/\d=.im (.int r)/\x=[a',b']/\T k a' b':=by
 have hm:Dh many:=h0;have hv:LJ many:=⟨h0,h1⟩
 unfold AQ;refine BJ rfl ?_
 repeat sizeOf_list_dec
 refine⟨λhc=>?_,λhc=>?_⟩
 .repeat sizeOf_list_dec
  refine DE hm ?_
  repeat sizeOf_list_dec
  refine JV hv ?_
  repeat sizeOf_list_dec
  exact⟨_,_,_,(Eg many h0).1,(Eg many h0).2,rfl,rfl,cs,nx,lf/many,n0,by omega,rfl,rfl⟩
 .repeat sizeOf_list_dec
  refine WP.mono (Q:=λd x=>x=[.lst (cs.map λi=>.im (.int i)),.lst [.mu 0,.im (.int (nx+1)),.im (.int lf)]]/\∃cell,d=.im (.int cell)) (LQ ?_) ?_
  .repeat sizeOf_list_dec
   refine⟨cs,by simp[pyD,GN,Ft],_,rfl,λhb=>?_,λhb=>?_⟩
   .repeat sizeOf_list_dec
    refine CP rfl rfl ?_;have hc:cs≠[]:=by simpa using hb
    have hl:=FO hc;obtain⟨c,e⟩:=ff hc nx;refine DE (show Dh _ by unfold Dh;simp;omega) ?_;refine Ae rfl (by simpa using e) ?_;exact⟨rfl,c,rfl⟩
   .repeat sizeOf_list_dec
    exact⟨rfl,_,rfl⟩
  .rintro d x ⟨rfl,cell,rfl⟩;have fin:∀ls,ls=[some (.mu 1),some (.im (.int many)),none,some (.im (.int nx)),some (.im (.int cell)),none]->WS (A5 (AB 5 (mOp Ce (mOp BY (mOp AX (mOp AX (mOp AX (mOp Ce (A0 4) (mC (.int 1000003))) (mOp BY (mOp BY (mC (.int 37)) (A0 3)) (A0 3))) (mOp BY (mC (.int 13)) (A0 3))) (mC (.int 5))) (mC (.int 48271))) (mC (.int 999983))))
    (AI (mOp Ce (mOp GC (mOp Ce (mOp BY (mOp Ce (mOp AX (mOp AX (mOp BY (A0 5) (A0 5)) (mOp BY (mC (.int 7919)) (A0 3))) (mC (.int 11))) (mC (.int 2097143))) (mC (.int 69621))) (mC (.int 2147483629))) (mC (.int 7))) (A0 1)))) ls [.lst (cs.map λi=>.im (.int i)),.lst [.mu 0,.im (.int (nx+1)),.im (.int lf)]]
    (λf x=>match f with
     |.rt d=>∃r a' b',0<=r/\r<many/\d=.im (.int r)/\x=[a',b']/\T k a' b'
     |.nx _=>∃r a' b',0<=r/\r<many/\D.im .non=.im (.int r)/\x=[a',b']/\T k a' b'
     | _=>False):=by
    rintro ls rfl
    repeat sizeOf_list_dec
    refine DE (by unfold Dh;decide) ?_
    repeat sizeOf_list_dec
    refine EI (D9 (by decide) (by decide)) ?_
    repeat sizeOf_list_dec
    refine EI (HM (by omega) (by omega)) ?_
    repeat sizeOf_list_dec
    refine EI (D9 (by decide) (by decide)) ?_
    repeat sizeOf_list_dec
    refine EI (HM (by decide) (by decide)) ?_
    repeat sizeOf_list_dec
    refine DE (by unfold Dh;decide) ?_
    repeat sizeOf_list_dec
    generalize hx:(((cell%1000003+37*nx*nx+13*nx+5)*48271)%999983:Int)=x;have b1:=Eg (x:=(cell%1000003+37*nx*nx+13*nx+5)*48271) 999983 (by decide);rw[hx]at b1;refine EI (HM (by omega) (by omega)) ?_
    repeat sizeOf_list_dec
    refine EI (D9 (by decide) (by decide)) ?_
    repeat sizeOf_list_dec
    refine DE (by unfold Dh;decide) ?_
    repeat sizeOf_list_dec
    refine EI (HM (by decide) (by decide)) ?_
    repeat sizeOf_list_dec
    refine DE (by unfold Dh;decide) ?_
    repeat sizeOf_list_dec
    refine JV (by unfold LJ;decide) ?_
    repeat sizeOf_list_dec
    refine DE hm ?_;exact⟨_,_,_,(Eg many h0).1,(Eg many h0).2,rfl,rfl,cs,nx+1,lf,by omega,by omega,rfl,rfl⟩
   repeat sizeOf_list_dec
   refine T6 ?_
   repeat sizeOf_list_dec
   split
   .repeat sizeOf_list_dec
    refine CP rfl rfl ?_
    repeat sizeOf_list_dec
    refine⟨λhb=>?_,λhb=>?_⟩
    .repeat sizeOf_list_dec
     refine JV hv ?_
     repeat sizeOf_list_dec
     refine DE hm ?_;exact⟨_,_,_,(Eg many h0).1,(Eg many h0).2,rfl,rfl,cs,nx+1,cell/many,by omega,by omega,rfl,rfl⟩
    .refine Ai (AA ?_);exact fin _ rfl
   .refine⟨λhb=>by simp at hb,λhb=>Ai (AA (fin _ rfl))⟩
def tap:Tap T AQ where
 cl:=by
  rintro k a b ⟨cs,nx,lf,_,_,rfl,rfl⟩;simp[clO,Kc]
 le:=by
  rintro j k a b ⟨cs,nx,lf,h1,h2,e1,e2⟩ h;exact⟨cs,nx,lf,h1,by omega,e1,e2⟩
 pick:=by
  rintro k a b many ⟨cs,nx,lf,n0,n1,rfl,rfl⟩ h0 h1;obtain⟨d,x,e,r,a',b',p1,p2,rfl,rfl,hT⟩:=cX k cs nx lf many n0 (by push_cast at n1;omega) h0 h1;exact⟨r,a',b',p1,p2,e,hT⟩
def dN(ns:List Int):WF JS [.ro ns] [] λd x=>d=.mu 1/\∃a b,T 100000 a b/\x=[a,b]:=by
 obtain⟨cs,e⟩:=VR ns none (some 63);exact⟨.mu 1,_,by simp[JS,mkF,e],rfl,_,_,⟨cs,0,0,by decide,by decide,rfl,rfl⟩,rfl⟩
noncomputable def Q9(bot:Int):List (Int×Int)->Prop
 |[]=>True
 |(_,h)::r=>bot<=h/\Q9 h r
noncomputable def Asc:List (Int×Int)->Prop
 |[]=>True
 |(b,_)::r=>(∀q∈r,b<q.1)/\Asc r
theorem KD(t:Int):∀{rows:List (Int×Int)} {bot:Int},Q9 bot rows->Asc rows->E1 (bot::((rows.filter λq=>decide (q.1<=t)).map (·.2)))=BQ t rows bot
 |[],bot,_,_=>by simp[BQ,E1]
 |(b,h)::r,bot,H,A=>by
   rw[BQ];by_cases hb:t<b
   .rw[j9 hb];have:((b,h)::r).filter (λq=>decide (q.1<=t))=[]:=by
     refine List.filter_eq_nil_iff.mpr λq hq=>?_;rcases mem_cons.mp hq with rfl|hq
     .simp;omega
     .have:=A.1 q hq;simp;omega
    rw[this];rfl
   .rw[ja hb,jR,j9 (by simp;omega),je];have ih:=KD t H.2 A.2;rw[<- ih];show E1 (bot::h::(r.filter λq=>decide (q.1<=t)).map (·.2))=_;have h1:=Dw (xs:=bot::h::(r.filter λq=>decide (q.1<=t)).map (·.2)) (by simp);have h2:=Dw (xs:=h::(r.filter λq=>decide (q.1<=t)).map (·.2)) (by simp);have hbot:=H.1;have a1:=h1.2 _ (jq _ h2.1);rcases mem_cons.mp h1.1 with e|e
    .have:=h2.2 h (by simp);omega
    .have:=h2.2 _ e;omega
noncomputable def FU:Cost->Prop
 |.tardy _ w=>0<=w/\w<=1000000
 |.miss _ w=>0<=w/\w<=1000000
 |.ends w=>0<=w/\w<=1000000
 |.steps rows=>rows.length<=5/\Q9 0 rows/\Asc rows
 |_=>True
def Up2(rows:List (Int×Int)):Prop:=rows.Pairwise λp q=>p.1<q.1/\p.2<=q.2
theorem No:∀{rows:List (Int×Int)} {bot:Int},Up2 rows->(∀q∈rows,bot<=q.2)->Q9 bot rows/\Asc rows
 |[],_,_,_=>⟨trivial,trivial⟩
 |(b,h)::r,bot,U,hb=>by
   unfold Up2 at U;rw[List.pairwise_cons]at U;have ih:=No (rows:=r) (bot:=h) U.2 λq hq=>(U.1 q hq).2;exact⟨⟨hb (b,h) (by simp),ih.1⟩,λq hq=>(U.1 q hq).1,ih.2⟩
def Wm{b h:Int}(U:Up2 rows)(hq:∀q∈rows,q.1<b/\q.2<=h):Up2 (rows++[(b,h)]):=by
 unfold Up2 at *;rw[List.pairwise_append];refine⟨U,by simp,λp hp q hq'=>?_⟩;rw[jS]at hq';subst hq';exact hq p hp
noncomputable def Bb(m:Int):Cost->Prop
 |.late d=>-m<=d/\d<=m
 |.tardy d w=>(-m<=d/\d<=m)/\0<=w/\w<=9
 |.miss d w=>(-m<=d/\d<=m)/\0<=w/\w<=9
 |.ends w=>0<=w/\w<=9
 |.steps rows=>∀q∈rows,(-m<=q.1/\q.1<=m)/\0<=q.2/\q.2<=99
noncomputable abbrev W5:MO:=.lst [.im (.str "late"),.im (.str "tardy"),.im (.str "miss"),.im (.str "ends"),.im (.str "steps")]
def Gx(x:Str):Prop:=x="late"∨x="tardy"∨x="miss"∨x="ends"∨x="steps"
def at5{r:Int}(h0:0<=r)(h1:r<5):∃x:Str,Gx x/\atI [D.im (.str "late"),.im (.str "tardy"),.im (.str "miss"),.im (.str "ends"),.im (.str "steps")] r=some (.im (.str x)):=by
 have:r=0∨r=1∨r=2∨r=3∨r=4:=by omega
 rcases this with rfl|rfl|rfl|rfl|rfl
 .exact⟨"late",.inl rfl,Aw (j:=0) rfl⟩
 .exact⟨"tardy",.inr (.inl rfl),Aw (j:=1) rfl⟩
 .exact⟨"miss",.inr (.inr (.inl rfl)),Aw (j:=2) rfl⟩
 .exact⟨"ends",.inr (.inr (.inr (.inl rfl))),Aw (j:=3) rfl⟩
 .exact⟨"steps",.inr (.inr (.inr (.inr rfl))),Aw (j:=4) rfl⟩
def at3{r:Int}(h0:0<=r)(h1:r<3)(x y z:D):∃d,(d=x∨d=y∨d=z)/\atI [x,y,z] r=some d:=by
 have:r=0∨r=1∨r=2:=by omega
 rcases this with rfl|rfl|rfl
 .exact⟨x,.inl rfl,Aw (j:=0) rfl⟩
 .exact⟨y,.inr (.inl rfl),Aw (j:=1) rfl⟩
 .exact⟨z,.inr (.inr rfl),Aw (j:=2) rfl⟩
def at2{r:Int}(h0:0<=r)(h1:r<2)(x y:D):∃d,(d=x∨d=y)/\atI [x,y] r=some d:=by
 have:r=0∨r=1:=by omega
 rcases this with rfl|rfl
 .exact⟨x,.inl rfl,Aw (j:=0) rfl⟩
 .exact⟨y,.inr rfl,Aw (j:=1) rfl⟩
def at4{r:Int}(h0:0<=r)(h1:r<4)(x y z w:D):∃d,(d=x∨d=y∨d=z∨d=w)/\atI [x,y,z,w] r=some d:=by
 have:r=0∨r=1∨r=2∨r=3:=by omega
 rcases this with rfl|rfl|rfl|rfl
 .exact⟨x,.inl rfl,Aw (j:=0) rfl⟩
 .exact⟨y,.inr (.inl rfl),Aw (j:=1) rfl⟩
 .exact⟨z,.inr (.inr (.inl rfl)),Aw (j:=2) rfl⟩
 .exact⟨w,.inr (.inr (.inr rfl)),Aw (j:=3) rfl⟩
def okw(h:Gx x):OkP 420 2 (I.py (.str x)):=(Yh x h).mono (by omega) (by omega)
def oki{i:Int}(h:-1000000<=i/\i<=1000000):OkP 420 2 (I.py (.int i)):=(Jn ⟨by omega,by omega⟩).mono (by omega) (by omega)
def Uq(i:I):Prop:=OkP 1263 3 i.py
def okC(i:I):Prop:=OkP 1263 3 i.py/\∃c,i=BP c/\FU c/\Bb 1000 c
def cV{i:Int}(h:Gx x)(b:-1000000<=i/\i<=1000000):Uq (.tup [.str x,.int i]):=
 (FK (w:=420) (dp:=2) (is:=[.str x,.int i]) λj hj=>by
  simp at hj;rcases hj with rfl|rfl
  .exact okw h
  .exact oki b).mono (by simp) (by omega)
def gG{i j:Int}(h:Gx x)(b:-1000000<=i/\i<=1000000)(c:-1000000<=j/\j<=1000000):Uq (.tup [.str x,.int i,.int j]):=
 (FK (w:=420) (dp:=2) (is:=[.str x,.int i,.int j]) λj hj=>by
  simp at hj;rcases hj with rfl|rfl|rfl
  .exact okw h
  .exact oki b
  .exact oki c).mono (by simp) (by omega)
def fK(r:Int×Int):Prop:=(-1000000<=r.1/\r.1<=1000000)/\(-1000000<=r.2/\r.2<=1000000)
def gF{rows:List (Int×Int)}(h:Gx x)(hl:rows.length<=5)(hr:∀r∈rows,fK r):Uq (.tup [.str x,.tup (rows.map λr=>.tup [.int r.1,.int r.2])]):=by
 have hrow:OkP 420 2 (I.py (.tup (rows.map λr=>.tup [.int r.1,.int r.2]))):=by
  refine OkP.mono (w':=420) (dp':=2) (FK (w:=82) (dp:=1) (is:=rows.map λr=>.tup [.int r.1,.int r.2]) λi hi=>?_) (by simp;omega) (by omega);obtain⟨r,hr1,rfl⟩:=mem_map.mp hi;have:=hr r hr1;refine(FK (w:=40) (dp:=0) (is:=[.int r.1,.int r.2]) λj hj=>?_).mono (by simp) (by omega);simp at hj;obtain⟨⟨a1,a2⟩,b1,b2⟩:=this;rcases hj with rfl|rfl
  .exact Jn ⟨by omega,by omega⟩
  .exact Jn ⟨by omega,by omega⟩
 refine OkP.mono (w':=1263) (dp':=3) (FK (w:=420) (dp:=2) (is:=[.str x,.tup (rows.map λr=>.tup [.int r.1,.int r.2])]) λi hi=>?_) (by simp) (by omega);simp at hi;rcases hi with rfl|rfl
 .exact okw h
 .exact hrow
def di(k:Nat)(a b:MO)(hT:T (k+30) a b):WF JT [.mu 1,.mu 2] [a,b,W5] λd x=>∃i a' b' g,d=.im i/\okC i/\T k a' b'/\x=a'::b'::([W5]++g):=by
 unfold JT;refine BJ rfl ?_
 repeat sizeOf_list_dec
 refine tap.draw hT rfl (by first|decide|omega) (by first|decide|omega) λr1 a b hT pr1 qr1=>?_;obtain⟨x,hx,ex⟩:=at5 pr1 qr1;refine Ae rfl ex ?_
 repeat sizeOf_list_dec
 refine tap.draw hT rfl (by first|decide|omega) (by first|decide|omega) λr2 a b hT pr2 qr2=>?_
 repeat sizeOf_list_dec
 refine tap.draw hT rfl (by first|decide|omega) (by first|decide|omega) λr3 a b hT pr3 qr3=>?_
 repeat sizeOf_list_dec
 refine tap.draw hT rfl (by first|decide|omega) (by first|decide|omega) λr4 a b hT pr4 qr4=>?_
 repeat sizeOf_list_dec
 refine tap.draw hT rfl (by first|decide|omega) (by first|decide|omega) λr5 a b hT pr5 qr5=>?_;obtain⟨d,hd,ed⟩:=at3 pr5 qr5 (.im (.int r2)) (.im (.int r3)) (.im (.int (r4-99)));refine Ae rfl ed ?_;obtain⟨due,rfl,hdue'⟩:∃due,d=.im (.int due)/\(-1000<=due/\due<=1000):=by
  rcases hd with rfl|rfl|rfl
  .exact⟨_,rfl,by omega,by omega⟩
  .exact⟨_,rfl,by omega,by omega⟩
  .exact⟨_,rfl,by omega,by omega⟩
 have hdue:-1000000<=due/\due<=1000000:=by omega
 repeat sizeOf_list_dec
 refine tap.draw hT rfl (by first|decide|omega) (by first|decide|omega) λr6 a b hT pr6 qr6=>?_;have w6:(0<=r6/\r6<=1000000)/\(0<=r6/\r6<=9)/\(-1000000<=r6/\r6<=1000000):=by omega
 clear pr1 qr1 pr2 qr2 pr3 qr3 pr4 qr4 pr5 qr5 pr6 qr6
 repeat sizeOf_list_dec
 refine⟨λhA=>?_,λhA=>?_⟩
 .repeat sizeOf_list_dec
  exact⟨_,a,b,_,HN _ _,⟨cV hx hdue,.late due,by rw[jV hA];rfl,trivial,hdue'⟩,tap.le hT (by omega),rfl⟩
 repeat sizeOf_list_dec
 refine⟨λhB=>?_,λhB=>?_⟩
 .repeat sizeOf_list_dec
  exact⟨_,a,b,_,HN _ _,⟨cV hx w6.2.2,.ends r6,by rw[jV hB];rfl,w6.1,w6.2.1⟩,tap.le hT (by omega),rfl⟩
 repeat sizeOf_list_dec
 refine⟨λhC=>?_,λhC=>?_⟩
 .repeat sizeOf_list_dec
  have hcs:x="tardy"∨x="miss":=by
   have nA:=of_decide_eq_false hA;have nB:=of_decide_eq_false hB;have nC:¬ x="steps":=by simpa using hC
   rcases hx with h|h|h|h|h
   .exact absurd h nA
   .exact .inl h
   .exact .inr h
   .exact absurd h nB
   .exact absurd h nC
  refine⟨_,a,b,_,Yl _ _ _,⟨gG hx hdue w6.2.2,?_⟩,tap.le hT (by omega),rfl⟩;rcases hcs with e|e
  .exact⟨.tardy due r6,by rw[e];rfl,w6.1,hdue',w6.2.1⟩
  .exact⟨.miss due r6,by rw[e];rfl,w6.1,hdue',w6.2.1⟩
 have xs:x="steps":=by simpa using hC
 repeat sizeOf_list_dec
 refine tap.draw hT rfl (by first|decide|omega) (by first|decide|omega) λr7 a b hT pr7 qr7=>?_
 repeat sizeOf_list_dec
 refine tap.draw hT rfl (by first|decide|omega) (by first|decide|omega) λr8 a b hT pr8 qr8=>?_
 repeat sizeOf_list_dec
 refine⟨D7 (by omega) (by omega),?_⟩;refine B9 (λr ls hd=>∃(rows:List (Int×Int)) (s h:Int) (a b:MO) (z:Option D),ls=[some (.mu 1),some (.mu 2),some (.im (.str x)),some (.mu 3),some (.im (.int due)),some (.im (.int r6)),some (.mu 4),some (.im (.int s)),some (.im (.int h)),z]/\hd=[a,b,W5,.lst [.im (.int r2),.im (.int r3),.im (.int (r4-99))],.lst (rows.map λr=>.im (.tup [.int r.1,.int r.2]))]/\T (k+2*r.length) a b/\(Up2 rows/\∀r∈rows,(-1000<=r.1/\r.1<=s)/\0<=r.2/\r.2<=h)/\rows.length+r.length<=5/\(-100<=s/\s+60*r.length<=1000)/\0<=h/\h<=99) ?_ ?_ ?_
 .exact⟨[],_,_,a,b,none,rfl,rfl,tap.le hT (by simp;omega),⟨List.Pairwise.nil,by simp⟩,by simp;omega,⟨by omega,by simp;omega⟩,by decide,by decide⟩
 .rintro d r ls hd ⟨rows,s,h,a,b,z,rfl,rfl,hT,ho,hl,hs,h0,h9⟩;simp only[jm]at hT hl hs;refine⟨_,rfl,?_⟩;dsimp only[set_cons_zero,set_cons_succ];have hT:T (k+2*r.length+2) a b:=hT
  repeat sizeOf_list_dec
  refine tap.draw hT rfl (by first|decide|omega) (by first|decide|omega) λr9 a b hT pr9 qr9=>?_
  repeat sizeOf_list_dec
  refine tap.draw hT rfl (by first|decide|omega) (by first|decide|omega) λr10 a b hT pr10 qr10=>?_
  repeat sizeOf_list_dec
  refine GV rfl (Bw (by simp;omega)) ?_;refine⟨AJ _,rows++[(s+1+r9,min 99 (h+r10))],_,_,a,b,_,rfl,by simp,hT,?_,by simp;omega,⟨by omega,by omega⟩,by omega,by omega⟩;refine⟨Wm ho.1 λq hq=>?_,λq hq=>?_⟩
  .have:=ho.2 q hq;omega
  rcases mem_append.mp hq with hq|hq
  .have:=ho.2 q hq;omega
  .simp at hq;subst hq;exact⟨⟨by show -1000<=s+1+r9;omega,by show s+1+r9<=s+1+r9;omega⟩,by show 0<=min 99 (h+r10);omega,by show min 99 (h+r10)<=min 99 (h+r10);omega⟩
 .rintro ls hd ⟨rows,s,h,a,b,z,rfl,rfl,hT,ho,hl,hs,h0,h9⟩
  repeat sizeOf_list_dec
  refine CP rfl rfl ?_
  repeat sizeOf_list_dec
  have e:(rows.map λr:Int×Int=>D.im (.tup [.int r.1,.int r.2]))=(rows.map λr:Int×Int=>I.tup [.int r.1,.int r.2]).map D.im:=by rw[jx];rfl
  have hl5:rows.length<=5:=by simp at hl;omega
  have hs':s<=1000:=by simp at hs;omega
  obtain⟨u1,u2⟩:=No (bot:=0) ho.1 λq hq=>(ho.2 q hq).2.1;refine⟨_,a,b,_,by rw[e,CY];exact HN _ _,⟨gF hx hl5 (λq hq=>?_),.steps rows,by rw[xs];rfl,⟨hl5,u1,u2⟩,λq hq=>?_⟩,tap.le hT (by simp),rfl⟩
  .have:=ho.2 q hq;exact⟨⟨by omega,by omega⟩,by omega,by omega⟩
  .have:=ho.2 q hq;exact⟨⟨by omega,by omega⟩,by omega,by omega⟩
structure Wg where
 len:Int
 com:Int
 co:I
noncomputable def wgI(w:Wg):I:=.tup [.int w.len,.int w.com,w.co]
def Wg.ok(w:Wg):Prop:=(1<=w.len/\w.len<=20)/\(0<=w.com/\w.com<=60)/\okC w.co
def gJ(ws:List Wg):Prop:=1<=ws.length/\ws.length<=8/\∀w∈ws,w.ok
noncomputable abbrev Ap(ws:List Wg):I:=.tup (ws.map wgI)
noncomputable abbrev V4:MO:=.lst [.im (.int 0),.im (.int 1),.im (.int 2),.im (.int 3)]
def EX(ws:List Wg):(ws.map λw=>D.im (wgI w))=(ws.map wgI).map D.im:=by rw[jx];rfl
def ZI(n:Nat)(ds:List D):clO n (.lst ds)=Aj n ds:=rfl
def Se{α:Type}(n:Nat)(f:α->I)(l:List α):Aj n (l.map λx=>D.im (f x))=true:=by induction l<;>simp_all
def Wc(k:Nat)(a b:MO)(hT:T (k+300) a b):WF Hm [.mu 1,.im (.int 8),.mu 2,.mu 3] [a,b,W5,V4] λd x=>∃i a' b' g,d=.im i/\(∃ws,i=Ap ws/\gJ ws)/\T k a' b'/\x=a'::b'::([W5,V4]++g):=by
 unfold Hm;refine BJ rfl ?_
 repeat sizeOf_list_dec
 refine tap.draw hT rfl (by first|decide|omega) (by first|decide|omega) λr1 a b hT pr1 qr1=>?_
 repeat sizeOf_list_dec
 refine tap.draw hT rfl (by first|decide|omega) (by first|decide|omega) λr2 a b hT pr2 qr2=>?_
 repeat sizeOf_list_dec
 obtain⟨d,hd,ed⟩:=at2 pr2 qr2 (.im (.int 3)) (.im (.int 20));refine⟨_,_,rfl,ed,?_⟩;obtain⟨lo,rfl,hlo⟩:∃lo,d=.im (.int lo)/\3<=lo/\lo<=20:=by
  rcases hd with rfl|rfl
  .exact⟨_,rfl,by omega,by omega⟩
  .exact⟨_,rfl,by omega,by omega⟩
 repeat sizeOf_list_dec
 refine tap.draw hT rfl (by first|decide|omega) (by first|decide|omega) λr3 a b hT pr3 qr3=>?_;obtain⟨d,hd,ed⟩:=at4 pr3 qr3 (.im (.int 0)) (.im (.int 1)) (.im (.int 2)) (.im (.int 3));refine Ae rfl ed ?_;obtain⟨way,rfl,hway⟩:∃way,d=.im (.int way)/\0<=way/\way<4:=by
  rcases hd with rfl|rfl|rfl|rfl<;>exact⟨_,rfl,by omega,by omega⟩
 repeat sizeOf_list_dec
 refine tap.draw hT rfl (by first|decide|omega) (by first|decide|omega) λr4 a b hT pr4 qr4=>?_
 repeat sizeOf_list_dec
 refine⟨D7 (by omega) (by omega),?_⟩;refine B9 (λr ls hd=>∃(ws:List Wg) (a b:MO) (z y:Option D),ls=[some (.mu 1),some (.im (.int 8)),some (.mu 2),some (.mu 3),some (.im (.int (1+r1))),some (.im (.int lo)),some (.im (.int way)),some (.im (.int r4)),some (.mu 4),z,y]/\hd=[a,b,W5,V4,.lst (ws.map λw=>.im (wgI w))]/\T (k+34*r.length) a b/\(∀w∈ws,w.ok)/\ws.length+r.length=(1+r1).toNat) ?_ ?_ ?_
 .exact⟨[],a,b,none,none,rfl,rfl,tap.le hT (by simp;omega),(by simp),by simp⟩
 .rintro d r ls hd ⟨ws,a,b,z,y,rfl,rfl,hT,ho,hl⟩;simp only[jm]at hT hl;have hT:T (k+34*r.length+34) a b:=hT;refine⟨_,rfl,?_⟩;dsimp only[set_cons_zero,set_cons_succ];refine IB ?_
  repeat sizeOf_list_dec
  refine tap.draw hT rfl (by first|decide|omega) (by first|decide|omega) λr5 a b hT pr5 qr5=>?_
  repeat sizeOf_list_dec
  refine tap.draw hT rfl (by first|decide|omega) (by first|decide|omega) λr6 a b hT pr6 qr6=>?_
  repeat sizeOf_list_dec
  refine tap.draw hT rfl (by first|decide|omega) (by first|decide|omega) λr7 a b hT pr7 qr7=>?_
  repeat sizeOf_list_dec
  refine tap.draw hT rfl (by first|decide|omega) (by first|decide|omega) λr8 a b hT pr8 qr8=>?_
  repeat sizeOf_list_dec
  obtain⟨d,hd,ed⟩:=at4 hway.1 hway.2 (.im (.int r4)) (.im (.int r5)) (.im (.int r6)) (.im (.int r7));refine Ae rfl ed ?_;obtain⟨com,rfl,hcom⟩:∃com,d=.im (.int com)/\0<=com/\com<=60:=by
   rcases hd with rfl|rfl|rfl|rfl<;>exact⟨_,rfl,by omega,by omega⟩
  repeat sizeOf_list_dec
  refine tap.callX (n:=k+34*r.length) (c:=30) hT [W5] (R:=okC) rfl rfl rfl rfl (di _) λi a b hT hi=>?_
  repeat sizeOf_list_dec
  refine GV rfl (Bw (by simp;omega)) ?_;have ca:=GK (w:=5) (by omega) (tap.cl hT).1;have cb:=GK (w:=5) (by omega) (tap.cl hT).2;refine⟨?_,_,rfl,AJ _,ws++[⟨1+r8,com,i⟩],a,b,_,_,rfl,?_,hT,?_,?_⟩
  .simp[ZI,ca,cb,Se]
  .simp[wgI]
  .intro w hw;rcases mem_append.mp hw with h|h
   .exact ho w h
   .simp at h;subst h;exact⟨⟨by show 1<=1+r8;omega,by show 1+r8<=20;omega⟩,hcom,hi⟩
  .simp;omega
 .rintro ls hd ⟨ws,a,b,z,y,rfl,rfl,hT,ho,hl⟩
  repeat sizeOf_list_dec
  refine CP rfl rfl ?_;simp at hl;refine⟨_,a,b,_,by rw[EX,CY],⟨ws,rfl,by omega,by omega,ho⟩,tap.le hT (by simp),rfl⟩
def TC(k:Nat)(n:Nat)(hn:n<=8)(a b:MO)(hT:T (k+100) a b):WF GO [.mu 1,.im (.int (n:Int))] [a,b] λd x=>∃i a' b' g,d=.im i/\(∃(seq:List Nat) (ps:List (Int×Int)),i=.tup (ps.map L9)/\seq.Perm (List.range n)/\Along seq ps/\ps.length<=16)/\T k a' b'/\x=a'::b'::g:=by
 unfold GO;refine BJ rfl ?_
 repeat sizeOf_list_dec
 refine Wl rfl (MB (by omega) (by omega)) ?_
 repeat sizeOf_list_dec
 refine T3 (λm ls hd=>∃(left seq:List Nat) (a b:MO),ls=[some (.mu 1),some (.im (.int (n:Int))),some (.mu 2),some (.mu 3),none,none,none,none]/\hd=[a,b,.lst (AK left),.lst (AK seq)]/\m=left.length/\T (k+80+m) a b/\(seq++left).Perm (List.range n)) (n:=n) ?_ ?_
 .refine⟨List.range n,[],a,b,rfl,?_,by simp,tap.le hT (by omega),by simp⟩;rw[jN,DH];rfl
 .rintro m ls hd ⟨left,seq,a,b,rfl,rfl,rfl,hT,pm⟩;have sl:seq.length+left.length=n:=by simpa using pm.length_eq
  repeat sizeOf_list_dec
  have en:AK left=(left.map λk:Nat=>(k:Int)).map λi=>.im (.int i):=by simp[AK]
  refine⟨left.map λk:Nat=>(k:Int),?_,?_⟩
  .show((B0 (AK left)).map λis=>PyData.list (I.pys is))=_;rw[en,GN,jr,Ft]
  repeat sizeOf_list_dec
  by_cases hl:left=[]
  .subst hl;rw[ja (by simp)];simp only[ju]at pm;have sl:seq.length=n:=by simpa using sl
   simp only[jL]at hT
   repeat sizeOf_list_dec
   refine tap.draw hT rfl (by first|decide|omega) (by first|decide|omega) λr1 a b hT pr1 qr1=>?_
   repeat sizeOf_list_dec
   refine⟨Gb (by omega),?_⟩;refine B9 (λr ls hd=>∃(ps:List (Int×Int)) (i:Nat) (a b:MO) (z y:Option D),r=AT (i:Int) (n-i)/\i<=n/\ls=[some (.mu 1),some (.im (.int (n:Int))),some (.mu 2),some (.mu 3),some (.im (.int r1)),some (.mu 4),z,y]/\hd=[a,b,.lst [],.lst (AK seq),.lst (ps.map Ac)]/\T (k+8*(n-i)) a b/\ps.length<=7*i/\Along seq ps) ?_ ?_ ?_
   .exact⟨[],0,a,b,none,none,by simp,by omega,rfl,rfl,tap.le hT (by omega),by simp,(by intro p hp;cases hp)⟩
   .rintro d r ls hd ⟨ps,i,a,b,z,y,er,hi,rfl,rfl,hT,hl,ho⟩;obtain⟨m,hm⟩:∃m,n-i=m+1:=by
     cases q:n-i with
     |zero=>rw[q]at er;cases er
     |succ m=>exact⟨m,rfl⟩
    rw[hm,AT]at er;obtain⟨rfl,rfl⟩:=List.cons.inj er;rw[hm]at hT;refine⟨_,rfl,?_⟩;dsimp only[set_cons_zero,set_cons_succ]
    repeat sizeOf_list_dec
    refine⟨Gb (by omega),?_⟩;refine B9 (λr ls hd=>∃(ps:List (Int×Int)) (j:Nat) (a b:MO) (y:Option D),r=AT (j:Int) (i-j)/\j<=i/\ls=[some (.mu 1),some (.im (.int (n:Int))),some (.mu 2),some (.mu 3),some (.im (.int r1)),some (.mu 4),some (.im (.int (i:Int))),y]/\hd=[a,b,.lst [],.lst (AK seq),.lst (ps.map Ac)]/\T (k+8*m+(8-j)) a b/\ps.length<=7*i+j/\Along seq ps) ?_ ?_ ?_
    .exact⟨ps,0,a,b,y,by simp,by omega,rfl,rfl,hT,by omega,ho⟩
    .rintro d r ls hd ⟨ps,j,a,b,y,er,hj,rfl,rfl,hT,hl,ho⟩;obtain⟨m2,hm2⟩:∃m2,i-j=m2+1:=by
      cases q:i-j with
      |zero=>rw[q]at er;cases er
      |succ m=>exact⟨m,rfl⟩
     rw[hm2,AT]at er;obtain⟨rfl,rfl⟩:=List.cons.inj er;have ej:((j:Int)+1)=((j+1:Nat):Int):=by omega
     have em:m2=i-(j+1):=by omega
     have hT:T (k+8*m+(8-(j+1))+1) a b:=tap.le hT (by omega);refine⟨_,rfl,?_⟩;dsimp only[set_cons_zero,set_cons_succ];refine Vf ?_;refine WP.mono (Q:=λc x=>∃a b,T (k+8*m+(8-(j+1))) a b/\x=[a,b,.lst [],.lst (AK seq),.lst (ps.map Ac)]) ?_ ?_
     .have tail:WT (Ba (A6 (mOp (gIn false) (A0 4) (Ad (A1 (mC (.int 1)) (A1 (mC (.int 2)) A4))))) (A6 (mOp gEq (A7 2 AQ (A1 (A0 0) (A1 (E3 (Am (A1 (mC (.int 1)) (A1 (mC (.int 4)) (A1 (mC (.int 2)) A4)))) (A0 4)) A4))) (mC (.int 0))))) [some (.mu 1),some (.im (.int (n:Int))),some (.mu 2),some (.mu 3),some (.im (.int r1)),some (.mu 4),some (.im (.int (i:Int))),some (.im (.int (j:Int)))] [a,b,.lst [],.lst (AK seq),.lst (ps.map Ac)] (λc x=>∃a b,T (k+8*m+(8-(j+1))) a b/\x=[a,b,.lst [],.lst (AK seq),.lst (ps.map Ac)]):=by
       repeat sizeOf_list_dec
       refine WP.eq (in_ints (xs:=[1,2]) r1 false (by simp)) ?_
       repeat sizeOf_list_dec
       by_cases h12:r1=1∨r1=2
       .rw[j9 (by simpa using h12)]
        repeat sizeOf_list_dec
        have hx:∃x:Int,(0<x/\x<=4)/\atI [D.im (.int 1),.im (.int 4),.im (.int 2)] r1=some (.im (.int x)):=by
         rcases h12 with rfl|rfl
         .exact⟨4,by omega,Vb _ _ _⟩
         .exact⟨2,by omega,Q5 _ _ _ _⟩
        obtain⟨x,hx1,hx2⟩:=hx;refine tap.draw (many:=x) (rest:=[.lst [],.lst (AK seq),.lst (ps.map Ac)]) hT (by simp[hx2]) (by omega) (by omega) λr a b hT pr qr=>?_
        repeat sizeOf_list_dec
        exact⟨a,b,hT,rfl⟩
       .rw[ja (by simpa using h12)];exact⟨a,b,tap.le hT (by omega),rfl⟩
      repeat sizeOf_list_dec
      split
      .repeat sizeOf_list_dec
       split
       .exact⟨a,b,tap.le hT (by omega),rfl⟩
       .exact tail
      .rw[ja Bool.false_ne_true];exact tail
     .rintro c x ⟨a,b,hT,rfl⟩;cases c with
      |false=>
       rw[ja Bool.false_ne_true]
       repeat sizeOf_list_dec
       exact⟨AJ _,ps,j+1,a,b,_,by rw[ej,em],by omega,rfl,rfl,hT,by omega,ho⟩
      |true=>
       rw[j9 rfl];have hj1:j<seq.length:=by omega
       have hi1:i<seq.length:=by omega
       have sj:seq[j]?=some seq[j]:=by simp[hj1]
       have si:seq[i]?=some seq[i]:=by simp[hi1]
       repeat sizeOf_list_dec
       refine Ae rfl (Rv sj) ?_
       repeat sizeOf_list_dec
       refine Ae rfl (Rv si) ?_
       repeat sizeOf_list_dec
       refine GV rfl (Bw (by simp;omega)) ?_;refine⟨AJ _,ps++[((seq[j]:Int),(seq[i]:Int))],j+1,a,b,_,by rw[ej,em],by omega,rfl,by simp[Ac],hT,by simp;omega,?_⟩;intro p hp;rcases mem_append.mp hp with hp|hp
       .exact ho p hp
       .simp at hp;exact⟨j,i,_,_,by omega,sj,si,hp⟩
    .rintro ls hd ⟨ps,j,a,b,y,er,hj,rfl,rfl,hT,hl,ho⟩;have:i-j=0:=by
      cases q:i-j with
      |zero=>rfl
      |succ m=>rw[q]at er;cases er
     exact⟨AJ _,ps,i+1,a,b,_,_,by rw[show n-(i+1)=m by omega];rfl,by omega,rfl,rfl,tap.le hT (by omega),by omega,ho⟩
   .rintro ls hd ⟨ps,i,a,b,z,y,er,hi,rfl,rfl,hT,hl,ho⟩;have pk:=ho.pok pm (by omega);have c64:ps.length<64/\∀q∈ps,pok q:=⟨by omega,pk⟩
    repeat sizeOf_list_dec
    have sub:((Bl ps).take 16).Sublist (Bl ps):=List.take_sublist _ _;have cut:Bi ((Bl ps).map Ac) none (some 16)=((Bl ps).map Ac).take 16:=VQ ((Bl ps).map Ac) 16;have mk:AO (((Bl ps).map Ac).take 16)=.im (.tup (((Bl ps).take 16).map L9)):=by
     have:((Bl ps).map Ac).take 16=(((Bl ps).take 16).map L9).map D.im:=by rw[<- map_take,jx];rfl
     rw[this,CY]
    refine WP.eq (z:=((Bl ps).take 16).map Ac) (h:=[a,b,.lst [],.lst (AK seq),.lst (ps.map Ac),.lst ((Bl ps).map Ac)]) ?_ ?_
    .simp;rw[j9 c64];simp[cut]
    .refine⟨_,rfl,_,a,b,_,?_,⟨seq,(Bl ps).take 16,rfl,pm,λp h=>ho p ((Fi ps).mem_iff.mp (sub.subset h)),by simp;omega⟩,tap.le hT (by omega),rfl⟩;rw[map_take];exact mk
  .rw[j9 (by simpa using hl)];have h1:0<left.length:=List.length_pos_iff.mpr hl;obtain⟨l,hl2⟩:∃l,left.length=l+1:=⟨left.length-1,by omega⟩
   rw[hl2]at hT
   repeat sizeOf_list_dec
   refine tap.draw (many:=(left.length:Int)) (rest:=[.lst (AK left),.lst (AK seq)]) hT (by simp[BM]) (by omega) (by omega) λr a b hT pr qr=>?_
   repeat sizeOf_list_dec
   have hr:r.toNat<left.length:=by omega
   have e1:left[r.toNat]?=some left[r.toNat]:=by simp[hr]
   refine T7 rfl (D7 (by omega) (by omega)) (Z2 (n:=(AK left).length) pr (by simp;omega)) (by simp[e1];rfl) ?_
   repeat sizeOf_list_dec
   refine GV rfl (Bw (by simp;omega)) ?_;refine⟨l,by omega,left.eraseIdx r.toNat,seq++[left[r.toNat]],a,b,rfl,?_,by rw[List.length_eraseIdx,j9 hr];omega,hT,(Rj e1).trans pm⟩;have er:(AK left).eraseIdx r.toNat=AK (left.eraseIdx r.toNat):=KY _ _ _;simp[er]
open Hds
noncomputable def Al(p:Nat×Nat):I:=.tup [.int p.1,.int p.2]
def Eo(ns:List Int):BF (intD ns)=some ns:=by
 induction ns with
 |nil=>rfl
 |cons n r ih=>simp[intD]at ih ⊢
def LO{neg:Bool}{ml:MA}{ls:Ls}{hd:Hd}{QE:D->Hd->Prop}(h:WA ml ls hd λds x=>∃ns:List Int,ds=intD ns/\QE (.im (.bl (if neg then !decide (ns=[])else decide (ns=[])))) x):WE (Fy neg ml (Am A4)) ls hd QE:=by
 obtain⟨ds,x,e,ns,rfl,q⟩:=h;refine⟨_,x,?_,q⟩;unfold Fy;rw[e];simp[GN,Ft,I.pys,OX]
def LS{ma mb:ME}{ls:Ls}{hd:Hd}{QA:List D->Hd->Prop}(h:WE ma ls hd λd x=>WE mb ls x λe y=>∃i j xs ys,d=.mu i/\e=.mu j/\y[i]?=some (.lst xs)/\y[j]?=some (.lst ys)/\Bg (xs.length+ys.length)/\QA (xs++ys) y):WA (Go ma mb) ls hd QA:=by
 obtain⟨d,x,e1,e,y,e2,i,j,xs,ys,rfl,rfl,e3,e4,c,q⟩:=h;exact⟨_,_,by simp only[Go,e1,bind_some,e2,e3,e4,c,jj],q⟩
def VU(w:Nat)(k:Key)(i:I):∀kvs:List (Key×D),C4 w kvs=true->C4 w (Cp kvs k (.im i))=true:=by
 have m:∀kvs:List (Key×D),C4 w kvs=true->C4 w (kvs.map λkv=>if kv.1=k then(kv.1,.im i)else kv)=true:=λkvs=>by
  induction kvs with
  |nil=>intro h;exact h
  |cons p r ih=>
   intro h;simp only[C4,Bool.and_eq_true,je]at h ⊢;refine⟨?_,ih h.2⟩;split
   .simp
   .exact h.1
 have a:∀kvs:List (Key×D),C4 w kvs=true->C4 w (kvs++[(k,.im i)])=true:=λkvs=>by
  induction kvs with
  |nil=>intro h;simp[C4]
  |cons p r ih=>
   intro h;simp only[C4,Bool.and_eq_true,jD]at h ⊢;exact⟨h.1,ih h.2⟩
 intro kvs h;unfold Cp;split
 .exact m kvs h
 .exact a kvs h
structure Good(c l:Nat->Int)(W:List (Nat×Nat))(g:Nat->Option Int)(k:Nat)(v:Int):Prop where
 lo:c k<=v
 up:∀p∈W,p.2=k->∃u,g p.1=some u/\u+l p.1<=v
 eq:v=c k∨∃p∈W,p.2=k/\∃u,g p.1=some u/\v=u+l p.1
def Good.ext{c l:Nat->Int}{W:List (Nat×Nat)}{g g':Nat->Option Int}{k:Nat}{v:Int}(h:Good c l W g k v)(e:∀j u,g j=some u->g' j=some u):Good c l W g' k v:=
 ⟨h.lo,λp hp hk=>let ⟨u,a,b⟩:=h.up p hp hk;⟨u,e _ _ a,b⟩,h.eq.imp id λ⟨p,hp,hk,u,a,b⟩=>⟨p,hp,hk,u,e _ _ a,b⟩⟩
noncomputable def BU(ws:List Wg)(k:Nat):Int:=((ws[k]?).map Wg.com).getD 0
noncomputable def Au(ws:List Wg)(k:Nat):Int:=((ws[k]?).map Wg.len).getD 0
def Fc{ws:List Wg}{k:Nat}(hk:k<ws.length):atI (ws.map λw=>D.im (wgI w)) (k:Int)=some (.im (wgI ws[k])):=EZ rfl (by simp[hk])
noncomputable abbrev wgD(ws:List Wg):List D:=ws.map λw=>D.im (wgI w)
noncomputable abbrev prD(W:List (Nat×Nat)):List D:=W.map λp=>D.im (Al p)
def ce(x:Int)(ns:List Int):∃v,G7 (.im (.int x)::intD ns)=some (.im (.int v))/\x<=v/\(∀n∈ns,n<=v)/\(v=x∨v∈ns):=by
 refine⟨E1 (x::ns),?_,?_⟩
 .have:=Eo (x::ns);simp only[intD,je]at this;simp[G7,this]
 .obtain⟨a,b⟩:=Dw (xs:=x::ns) (by simp);refine⟨b x jw,λn hn=>b n (jq _ hn),?_⟩;rcases mem_cons.mp a with h|h
  .exact .inl h
  .exact .inr h
structure Found(ws:List Wg)(W:List (Nat×Nat))(rk:Nat->Nat)(t j:Nat)(kvs:List (Key×D))(g:Nat->Option Int):Prop where
 dic:DicI kvs g
 cl:C4 0 kvs=true
 len:kvs.length<=8*t+j
 good:∀k v,g k=some v->k<ws.length/\Good (BU ws) (Au ws) W g k v
 old:∀k,k<ws.length->rk k<t->g k≠none
 new:∀k,k<j->rk k<t+1->g k≠none
noncomputable def Fd(w:Nat)(o:Option D):Option D:=match o with
 |some d=>if clD w d=true then some d else none
 |none=>none
def TN(w:Nat)(ls:Ls):Ee w ls=ls.map (Fd w):=rfl
def ID{w:Nat}{d:D}(h:clD w d=true):Fd w (some d)=some d:=by simp[Fd,h]
def hg0(H0:Hd)(x:MO)(r:Hd):(H0++x::r)[H0.length]?=some x:=by simp
def hg1(H0:Hd)(x y:MO)(r:Hd):(H0++x::y::r)[H0.length+1]?=some y:=by
 rw[List.getElem?_append_right (by omega)];simp
def hg2(H0:Hd)(x y z:MO)(r:Hd):(H0++x::y::z::r)[H0.length+2]?=some z:=by
 rw[List.getElem?_append_right (by omega)];simp
def hg3(H0:Hd)(x y z u:MO)(r:Hd):(H0++x::y::z::u::r)[H0.length+3]?=some u:=by
 rw[List.getElem?_append_right (by omega)];simp
def hs0(H0:Hd)(x y:MO)(r:Hd):(H0++x::r).set H0.length y=H0++y::r:=by simp
def SG(W:List (Nat×Nat))(k:Nat):(W.filterMap λp=>if p.2=k then some (D.im (.int (p.1:Int)))else none)=AK ((W.filter λp=>decide (p.2=k)).map Prod.fst):=by
 induction W with
 |nil=>rfl
 |cons p r ih=>
  rw[jI,jR];by_cases h:p.2=k
  .simp[h,ih,AK]
  .simp[h,ih,AK]
def V3{ws:List Wg}{W:List (Nat×Nat)}{rk:Nat->Nat}(hn:ws.length<=8)(hW:W.length<=16)(R:Rk (λk=>k<ws.length) W rk)(hrk:∀k,k<ws.length->rk k<ws.length)
 {H0:Hd} {d0 d1:D} {gd:Gd} (cH:H0.all (clO H0.length)=true) (c0:clD H0.length d0=true) (c1:clD H0.length d1=true) (e0:∀r,Aa (H0++r) d0=some (wgD ws))
 (e1:∀r i ls,ls[i]?=some (some d1)->DV (A0 i) ls (H0++r)=some ((prD W,gd),H0++r)) (eg:∀r,GOk (H0++r) gd):
 WF D6 [d0,d1] H0 λd x=>∃(hs:List Int) (L:Nat) (rest:Hd),d=.mu L/\H0.length<=L/\x=H0++rest/\x[L]?=some (.lst (intD hs))/\hs.length=ws.length/\IsHead (λk=>k<ws.length) (BU ws) (Au ws) W (λk=>hs.getD k 0):=by
 unfold D6;refine BJ rfl ?_
 repeat sizeOf_list_dec
 have ln:∀{r:Hd} {Q:D->Hd->Prop},Q (.im (.int (ws.length:Int))) (H0++r)->WP (f1 true BM [d0] (H0++r)) Q:=λ{r Q} q=>CP (by rw[j9 rfl];exact e0 r) (by simp[BM]) q
 refine ln ?_
 repeat sizeOf_list_dec
 refine⟨Gb (by omega),?_⟩;refine B9 (λr ls hd=>∃(t:Nat) (kvs:List (Key×D)) (g:Nat->Option Int) (z3 z4 z5 z6:Option D),ls=[some d0,some d1,some (.mu H0.length),z3,z4,z5,z6]/\hd=H0++[.dic kvs]/\t+r.length=ws.length/\Found ws W rk t 0 kvs g) ?_ ?_ ?_
 .exact⟨0,[],λ_=>none,none,none,none,none,rfl,rfl,by simp,⟨DicI.nil,rfl,by simp,(by intro k v h;cases h),(by intro k _ h;omega),(by intro k h;omega)⟩⟩
 .rintro d r ls hd ⟨t,kvs,g,z3,z4,z5,z6,rfl,rfl,ht,F⟩;simp only[jm]at ht;refine⟨_,rfl,?_⟩;dsimp only[set_cons_zero,set_cons_succ]
  repeat sizeOf_list_dec
  refine ln ?_
  repeat sizeOf_list_dec
  refine⟨Gb (by omega),?_⟩;refine B9 (λr ls hd=>∃(j:Nat) (kvs:List (Key×D)) (g:Nat->Option Int) (z3 z4 z5 z6:Option D),r=AT (j:Int) (ws.length-j)/\j<=ws.length/\ls=[some d0,some d1,some (.mu H0.length),z3,z4,z5,z6]/\hd=H0++[.dic kvs]/\Found ws W rk t j kvs g) ?_ ?_ ?_
  .exact⟨0,kvs,g,_,_,_,_,by simp,by omega,rfl,rfl,F⟩
  .rintro d r ls hd ⟨k,kvs,g,z3,z4,z5,z6,er,hk,rfl,rfl,F⟩;obtain⟨m,hm⟩:∃m,ws.length-k=m+1:=by
    cases q:ws.length-k with
    |zero=>rw[q]at er;cases er
    |succ m=>exact⟨m,rfl⟩
   rw[hm,AT]at er;obtain⟨rfl,rfl⟩:=List.cons.inj er;have ek:((k:Int)+1)=((k+1:Nat):Int):=by omega
   have em:m=ws.length-(k+1):=by omega
   have hk1:k<ws.length:=by omega
   refine⟨_,rfl,?_⟩;dsimp only[set_cons_zero,set_cons_succ];refine IB ?_
   repeat sizeOf_list_dec
   refine WP.eq (e1 _ 1 _ rfl) ?_;refine⟨AR (by simp;omega),?_⟩;refine BL (λp:Nat×Nat=>D.im (Al p)) (λp=>if p.2=k then some (.im (.int (p.1:Int)))else none) (λ_ ls=>∃x y,ls=[some x,some y,some (.im (.int (k:Int)))]) _ (eg _) ?_ ?_
   .rintro p hp ls (rfl|⟨_,x,y,rfl⟩)
    all_goals
     refine⟨_,rfl,⟨_,_,rfl⟩,?_⟩
     repeat sizeOf_list_dec
     refine⟨rfl,?_⟩;by_cases h:p.2=k
     .have h':(p.2:Int)=(k:Int):=by omega
      rw[j9 (by simpa using h')];exact⟨_,j9 h,A2 rfl ⟨rfl,rfl⟩⟩
     .have h':¬ (p.2:Int)=(k:Int):=by omega
      rw[ja (by simpa using h')];exact ja h
   rw[SG];generalize hfl:(W.filter λp=>decide (p.2=k)).map Prod.fst=fl;have mem_fl:∀a,a∈fl↔(a,k)∈W:=by
    intro a;rw[<- hfl];simp
   have fln:∀a∈fl,a<ws.length:=λa ha=>(R.ins _ ((mem_fl a).mp ha)).1;have fll:fl.length<=16:=by rw[<- hfl,ji];exact jh (kd _ _) hW
   repeat sizeOf_list_dec
   simp only[jv,jm,jL,jC,jD,jT,zero_add];refine HK (kvs:=kvs) (by rw[LH,hg0]) F.dic ?_
   repeat sizeOf_list_dec
   have cdic:∀kvs:List (Key×D),C4 0 kvs=true->clO (H0.length+1) (.dic kvs)=true:=λkvs h=>HF (v:=0) (by omega) h;have cH1:H0.all (clO (H0.length+1))=true:=by
    rw[all_eq_true]at cH ⊢;exact λo ho=>GK (by omega) (cH o ho)
   have c0':=GL (w:=H0.length+1) (by omega) c0;have c1':=GL (w:=H0.length+1) (by omega) c1;have done:∀(kvs':List (Key×D)) (g':Nat->Option Int) (r:Hd) (a3 a4 a5 a6:Option D) (Q:Fl->Hd->Prop),Found ws W rk t (k+1) kvs' g' ->
    ((H0++.dic kvs'::r).take (H0.length+1)).all (clO (H0.length+1))=true/\∃f',E7 (H0.length+1) (.nx [some d0,some d1,some (.mu H0.length),a3,a4,a5,a6])=some f' /\
    Vk [] (λls hd=>∃(j:Nat) (kvs:List (Key×D)) (g:Nat->Option Int) (z3 z4 z5 z6:Option D),AT ((k:Int)+1) m=AT (j:Int) (ws.length-j)/\j<=ws.length/\ls=[some d0,some d1,some (.mu H0.length),z3,z4,z5,z6]/\hd=H0++[.dic kvs]/\Found ws W rk t j kvs g) Q f' ((H0++.dic kvs'::r).take (H0.length+1)):=by
    intro kvs' g' r a3 a4 a5 a6 Q F';have e:(H0++.dic kvs'::r).take (H0.length+1)=H0++[.dic kvs']:=by
     rw[show H0++.dic kvs'::r=(H0++[.dic kvs'])++r by simp,show H0.length+1=(H0++[MO.dic kvs']).length by simp,List.take_left]
    rw[e];refine⟨?_,_,rfl,AJ _,k+1,kvs',g',Fd (H0.length+1) a3,Fd (H0.length+1) a4,Fd (H0.length+1) a5,Fd (H0.length+1) a6,by rw[ek,em],by omega,?_,rfl,F'⟩
    .rw[List.all_append];simp only[all_cons,List.all_nil,Bool.and_true,Bool.and_eq_true];exact⟨cH1,cdic kvs' F'.cl⟩
    .rw[TN];simp only[je,jy,ID c0',ID c1',ID (show clD (H0.length+1) (.mu H0.length)=true by simp)]
   have stay:(g k≠none∨∃p∈W,p.2=k/\g p.1=none)->Found ws W rk t (k+1) kvs g:=by
    intro h;refine⟨F.dic,F.cl,by have:=F.len;omega,F.good,F.old,λj hj hr=>?_⟩;by_cases ejk:j=k
    .subst ejk;rcases h with h|⟨p,hp,e,hg⟩
     .exact h
     .have:=R.lt p hp;rw[e]at this;exact absurd hg (F.old p.1 (R.ins p hp).1 (by omega))
    .exact F.new j (by omega) hr
   by_cases hgk:g k=none
   .rw[j9 (by simp[hgk])]
    repeat sizeOf_list_dec
    refine LO ?_
    repeat sizeOf_list_dec
    refine⟨_,_,rfl,hg1 _ _ _ _,AR (by simp;omega),?_⟩;refine BL (λa:Nat=>D.im (.int (a:Int))) (λa=>if g a=none then some (.im (.int (a:Int)))else none) (λ_ ls=>∃x,ls=[some x,some (.mu H0.length)]) _ (by intro p hp;simp at hp;subst hp;exact hg1 _ _ _ _) ?_ ?_
    .rintro a ha ls hls;refine⟨[some (.im (.int (a:Int))),some (.mu H0.length)],by rcases hls with rfl|⟨_,x,rfl⟩<;>rfl,⟨_,rfl⟩,?_⟩
     repeat sizeOf_list_dec
     refine HK (kvs:=kvs) (by rw[LH,hg0]) F.dic ?_
     repeat sizeOf_list_dec
     refine⟨rfl,?_⟩;by_cases h:g a=none
     .rw[j9 (by simp[h])];exact⟨_,j9 h,A2 rfl ⟨rfl,rfl⟩⟩
     .rw[ja (by simpa using h)];exact ja h
    have em2:(fl.filterMap λa=>if g a=none then some (D.im (.int (a:Int)))else none)=intD ((fl.filter λa=>decide (g a=none)).map λa:Nat=>(a:Int)):=by
     have:∀L:List Nat,(L.filterMap λa=>if g a=none then some (D.im (.int (a:Int)))else none)=intD ((L.filter λa=>decide (g a=none)).map λa:Nat=>(a:Int)):=by
      intro L
      induction L with
      |nil=>rfl
      |cons x r ih=>
       rw[jI,jR];by_cases h:g x=none
       .simp[h,ih,intD]
       .simp[h,ih]
     exact this fl
    refine⟨_,em2,?_⟩
    repeat sizeOf_list_dec
    refine⟨λhb=>?_,λhb=>?_⟩
    .have allf:∀a∈fl,∃u,g a=some u:=by
      intro a ha;have:fl.filter (λa=>decide (g a=none))=[]:=by simpa using hb
      have:=List.filter_eq_nil_iff.mp this a ha;exact Option.ne_none_iff_exists'.mp (by simpa using this)
     repeat sizeOf_list_dec
     refine⟨_,_,rfl,hg1 _ _ _ _,AR (by simp;omega),?_⟩;refine BL (λa:Nat=>D.im (.int (a:Int))) (λa=>some (.im (.int ((g a).getD 0+Au ws a)))) (λ_ ls=>∃x,ls=[some x,some (.mu H0.length),some d0]) _ (by intro p hp;simp at hp;subst hp;exact hg1 _ _ _ _) ?_ ?_
     .rintro a ha ls hls;obtain⟨u,hu⟩:=allf a ha;have han:=fln a ha;refine⟨[some (.im (.int (a:Int))),some (.mu H0.length),some d0],by rcases hls with rfl|⟨_,x,rfl⟩<;>rfl,⟨_,rfl⟩,?_⟩
      repeat sizeOf_list_dec
      refine⟨rfl,?_⟩;rw[j9 rfl];refine⟨_,rfl,?_⟩
      repeat sizeOf_list_dec
      refine EJ (kvs:=kvs) (by rw[LH,hg0]) F.dic hu ?_
      repeat sizeOf_list_dec
      refine Ae (e0 _) (Fc han) ?_
      repeat sizeOf_list_dec
      exact⟨rfl,by simp[hu,Au,han]⟩
     have ee:(fl.filterMap λa=>some (D.im (.int ((g a).getD 0+Au ws a))))=intD (fl.map λa=>(g a).getD 0+Au ws a):=by simp[intD]
     rw[ee]
     repeat sizeOf_list_dec
     simp only[jv,jm,jL,jC,jD,jT,zero_add];refine Nj (w:=0) ?_
     repeat sizeOf_list_dec
     refine LS ?_
     repeat sizeOf_list_dec
     refine Ae (e0 _) (Fc hk1) ?_
     repeat sizeOf_list_dec
     simp only[jv,jm,jL,jC,jD,jT,zero_add];refine⟨_,_,_,_,rfl,rfl,hg3 _ _ _ _ _ _,hg2 _ _ _ _ _,AR (by simp;omega),?_⟩;obtain⟨v,ev,v1,v2,v3⟩:=ce (BU ws k) (fl.map λa=>(g a).getD 0+Au ws a);have ec:ws[k].com=BU ws k:=by simp[BU,hk1]
     rw[ec];refine⟨_,ev,?_⟩
     repeat sizeOf_list_dec
     refine⟨_,_,_,rfl,rfl,hg0 _ _ _,Bw (by have:=F.len;omega),?_⟩;rw[hs0];have G:Good (BU ws) (Au ws) W g k v:=by
      refine⟨v1,λp hp e=>?_,?_⟩
      .have ha:p.1∈fl:=(mem_fl p.1).mpr (by rw[<- e];exact hp);obtain⟨u,hu⟩:=allf _ ha;refine⟨u,hu,?_⟩;have:=v2 _ (mem_map.mpr ⟨p.1,ha,rfl⟩);rw[hu]at this;exact this
      .rcases v3 with h|h
       .exact .inl h
       .obtain⟨a,ha,e⟩:=mem_map.mp h;obtain⟨u,hu⟩:=allf a ha;refine .inr ⟨(a,k),(mem_fl a).mp ha,rfl,u,hu,?_⟩;rw[hu]at e;exact e.symm
     have ext:∀j u,g j=some u->(λj=>if j=k then some v else g j) j=some u:=by
      intro j u hj;have:j≠k:=λz=>by rw[z,hgk]at hj;cases hj
      simp[this,hj]
     refine done _ (λj=>if j=k then some v else g j) _ _ _ _ _ _ ⟨F.dic.put k v,VU 0 _ _ _ F.cl,by have:=IJ kvs (.inl (k:Int)) (.im (.int v));have:=F.len;omega,?_,?_,?_⟩
     .intro j u hj;by_cases e:j=k
      .subst e;simp at hj;subst hj;exact⟨hk1,G.ext ext⟩
      .simp[e]at hj;exact⟨(F.good j u hj).1,(F.good j u hj).2.ext ext⟩
     .intro j hj hr;by_cases e:j=k
      .simp[e]
      .simp[e];exact F.old j hj hr
     .intro j hj hr;by_cases e:j=k
      .simp[e]
      .simp[e];exact F.new j (by omega) hr
    .refine Ai ?_;have hex:∃p∈W,p.2=k/\g p.1=none:=by
      have:¬ fl.filter (λa=>decide (g a=none))=[]:=by simpa using hb
      obtain⟨a,ha⟩:=List.exists_mem_of_ne_nil _ this;obtain⟨h1,h2⟩:=mem_filter.mp ha;exact⟨(a,k),(mem_fl a).mp h1,rfl,by simpa using h2⟩
     exact done kvs g _ _ _ _ _ _ (stay (.inr hex))
   .rw[ja (by simpa using hgk)];refine⟨λh=>(by cases h),λ_=>Ai ?_⟩;exact done kvs g _ _ _ _ _ _ (stay (.inl hgk))
  .rintro ls hd ⟨j,kvs,g,z3,z4,z5,z6,er,hj,rfl,rfl,F⟩;have:ws.length-j=0:=by
    cases q:ws.length-j with
    |zero=>rfl
    |succ m=>rw[q]at er;cases er
   have hj:j=ws.length:=by omega
   subst hj;exact⟨AJ _,t+1,kvs,g,_,_,_,_,rfl,rfl,by omega,⟨F.dic,F.cl,by have:=F.len;omega,F.good,λk hk hr=>F.new k hk hr,(by intro k h;omega)⟩⟩
 .rintro ls hd ⟨t,kvs,g,z3,z4,z5,z6,rfl,rfl,ht,F⟩;simp only[jL,Nat.add_zero]at ht;subst ht
  repeat sizeOf_list_dec
  refine ln ?_
  repeat sizeOf_list_dec
  refine⟨Gb (by omega),AR (by simp;omega),?_⟩;have all:∀k,k<ws.length->∃v,g k=some v:=λk hk=>Option.ne_none_iff_exists'.mp (F.old k hk (hrk k hk));rw[jN,DH];refine BL (λk:Nat=>D.im (.int (k:Int))) (λk=>(g k).map λv=>.im (.int v)) (λ_ ls=>∃x,ls=[some x,some (.mu H0.length)]) _ (AJ _) ?_ ?_
  .rintro k hk ls hls;have hk:k<ws.length:=by simpa using hk
   obtain⟨v,hv⟩:=all k hk;refine⟨[some (.im (.int (k:Int))),some (.mu H0.length)],by rcases hls with rfl|⟨_,x,rfl⟩<;>rfl,⟨_,rfl⟩,?_⟩
   repeat sizeOf_list_dec
   refine⟨rfl,?_⟩;rw[j9 rfl];refine⟨_,by rw[hv];rfl,?_⟩
   repeat sizeOf_list_dec
   exact EJ (kvs:=kvs) (by rw[LH,hg0]) F.dic hv ⟨rfl,rfl⟩
  .have e:((List.range ws.length).filterMap λk=>(g k).map λv=>D.im (.int v))=intD ((List.range ws.length).map λk=>(g k).getD 0):=by
    have:∀L:List Nat,(∀k∈L,k<ws.length)->(L.filterMap λk=>(g k).map λv=>D.im (.int v))=intD (L.map λk=>(g k).getD 0):=by
     intro L
     induction L with
     |nil=>intro _;rfl
     |cons x r ih=>
      intro h;obtain⟨v,hv⟩:=all x (h x jw);have:=ih λk hk=>h k (jq _ hk);simp[hv,this,intD]
    exact this _ λk hk=>by simpa using hk
   rw[e]
   repeat sizeOf_list_dec
   have gt:∀k,k<ws.length->((List.range ws.length).map λk=>(g k).getD 0).getD k 0=(g k).getD 0:=λk hk=>by simp[hk]
   refine⟨(List.range ws.length).map λk=>(g k).getD 0,H0.length+1,[.dic kvs,.lst (intD ((List.range ws.length).map λk=>(g k).getD 0))],by simp,by omega,by simp,?_,by simp,?_⟩
   .rw[jC];exact hg1 _ _ _ _
   .refine⟨λk hk=>?_,λp hp hk=>?_,λk hk=>?_⟩
    .obtain⟨v,hv⟩:=all k hk;have G:=(F.good k v hv).2;rw[gt k hk,hv];exact G.lo
    .obtain⟨v,hv⟩:=all p.2 hk;obtain⟨u,hu,le⟩:=(F.good p.2 v hv).2.up p hp rfl;rw[gt _ (R.ins p hp).1,gt _ hk,hv,hu];exact le
    .obtain⟨v,hv⟩:=all k hk;rw[gt k hk,hv];rcases(F.good k v hv).2.eq with e|⟨p,hp,e1,u,hu,e2⟩
     .exact .inl e
     .refine .inr ⟨p,hp,e1,?_⟩;rw[gt _ (R.ins p hp).1,hu];exact e2
noncomputable abbrev CT(W:List (Nat×Nat))(some_:List Nat):List (Nat×Nat):=W.filter λp=>decide (p.1∈some_)&&decide (p.2∈some_)
def QP(W:List (Nat×Nat))(some_:List Nat):(W.filterMap λp=>if p.1∈some_/\p.2∈some_ then some (D.im (Al p))else none)=prD (CT W some_):=by
 induction W with
 |nil=>rfl
 |cons p r ih=>
  rw[jI];by_cases h1:p.1∈some_<;>by_cases h2:p.2∈some_<;>simp[h1,h2,CT,prD]at ih ⊢<;>exact ih
structure Up(some_:List Nat)(W:List (Nat×Nat))(rk:Nat->Nat)(b l h:Nat->Int)(t:Nat)(rest:List (Nat×Nat))(v:Nat->Int):Prop where
 lo:∀k∈some_,b k<=v k
 hi:∀k∈some_,v k<=h k
 old:∀k∈some_,rk k<t->v k=h k
 new:∀k∈some_,rk k=t->v k=h k∨∃p∈rest,p.2=k/\h k=h p.1+l p.1
def Up.begin{some_:List Nat}{W:List (Nat×Nat)}{rk:Nat->Nat}{b l h v:Nat->Int}{t:Nat}(H:IsHead (λk=>k∈some_) b l W h)(lo:∀k∈some_,b k<=v k)(hi:∀k∈some_,v k<=h k)(old:∀k∈some_,rk k<t->v k=h k):Up some_ W rk b l h t W v:=
 ⟨lo,hi,old,λk hk e=>by
  rcases H.eq k hk with e|⟨p,hp,e1,e2⟩
  .have:=lo k hk;have:=hi k hk;exact .inl (by omega)
  .exact .inr ⟨p,hp,e1,e2⟩⟩
def Up.step{some_:List Nat}{W:List (Nat×Nat)}{rk:Nat->Nat}{b l h v:Nat->Int}{t:Nat}{q:Nat×Nat}{r:List (Nat×Nat)}(R:Rk (λk=>k∈some_) W rk)(H:IsHead (λk=>k∈some_) b l W h)(hq:q∈W)(U:Up some_ W rk b l h t (q::r) v):
 Up some_ W rk b l h t r (λk=>if k=q.2 then max (v q.2) (v q.1+l q.1)else v k):=by
 have hq1:=(R.ins q hq).1;have hq2:=(R.ins q hq).2;have u1:=H.up q hq hq2;have u2:=U.hi q.1 hq1;have u3:=U.hi q.2 hq2;refine⟨λk hk=>?_,λk hk=>?_,λk hk hr=>?_,λk hk hr=>?_⟩
 .by_cases e:k=q.2
  .subst e;simp only[jj];have:=U.lo q.2 hk;omega
  .simp only[e,jB];exact U.lo k hk
 .by_cases e:k=q.2
  .subst e;simp only[jj];omega
  .simp only[e,jB];exact U.hi k hk
 .by_cases e:k=q.2
  .subst e;simp only[jj];have:=U.old q.2 hk hr;omega
  .simp only[e,jB];exact U.old k hk hr
 .by_cases e:k=q.2
  .subst e;simp only[jj];rcases U.new q.2 hk hr with e1|⟨p,hp,e1,e2⟩
   .exact .inl (by omega)
   .rcases mem_cons.mp hp with rfl|hp
    .have lt:=R.lt p hq;have:=U.old p.1 hq1 (by omega);exact .inl (by omega)
    .exact .inr ⟨p,hp,e1,e2⟩
  .simp only[e,jB];rcases U.new k hk hr with e1|⟨p,hp,e1,e2⟩
   .exact .inl e1
   .rcases mem_cons.mp hp with rfl|hp
    .exact absurd e1.symm e
    .exact .inr ⟨p,hp,e1,e2⟩
noncomputable abbrev onS(some_:List Nat)(v:Nat->Int):Nat->Option Int:=λk=>if k∈some_ then some (v k)else none
def UA{ws:List Wg}{W:List (Nat×Nat)}{some_:List Nat}{t:Int}{rk:Nat->Nat}{h:Nat->Int}(hn:ws.length<=8)(hW:W.length<=16)(hs:∀k∈some_,k<ws.length)(hl:some_.length<=8)
 (R:Rk (λk=>k∈some_) (CT W some_) rk) (hrk:∀k∈some_,rk k<some_.length) (H:IsHead (λk=>k∈some_) (λk=>max (BU ws k) t) (Au ws) (CT W some_) h):
 WF GP [.im (Ap ws),.im (.tup (W.map Al)),.im (Ah some_),.im (.int t)] [] λd x=>d=.im (.tup (some_.map λk=>.int (h k))):=by
 unfold GP;refine BJ rfl ?_
 repeat sizeOf_list_dec
 refine Wj (T9 ?_)
 repeat sizeOf_list_dec
 have nat_im:(Ah some_)=.tup (some_.map λk:Nat=>I.int (k:Int)):=rfl;have tn:(some_.map λk:Nat=>I.int (k:Int)).map D.im=AK some_:=by simp[AK]
 rw[tn];refine LN (λr acc ls hd=>∃(done rest:List Nat) (z:Option D),some_=done++rest/\r=AK rest/\ls=[z,some (.im (Ap ws)),some (.im (.int t))]/\hd=[]/\acc.length<=done.length/\DicI acc (onS done λk=>max (BU ws k) t)) ?_ ?_ ?_
 .exact⟨[],some_,none,rfl,rfl,rfl,rfl,by simp,λk=>by simp[BH]⟩
 .rintro d r acc ls hd ⟨dn,rest,z,es,er,rfl,rfl,la,hd⟩;cases rest with
  |nil=>cases er
  |cons k rest=>
   obtain⟨rfl,rfl⟩:=List.cons.inj er;have hk:k<ws.length:=hs k (by rw[es];simp);refine⟨_,rfl,?_⟩
   repeat sizeOf_list_dec
   rw[j9 rfl];refine Zd ?_
   repeat sizeOf_list_dec
   refine Ae rfl (by rw[<- EX];exact Fc hk) ?_
   repeat sizeOf_list_dec
   refine⟨Bw (by have:=jA List.length es;simp at this;omega),AJ _,dn++[k],rest,_,by rw[es];simp,rfl,rfl,rfl,by have:=IJ acc (.inl (k:Int)) (.im (.int (max ws[k].com t)));simp;omega,?_⟩;have e:ws[k].com=BU ws k:=by simp[BU,hk]
   rw[e];intro j;rw[hd.put k _ j];by_cases ej:j=k
   .subst ej;simp
   .simp[ej]
 rintro acc ls hd ⟨dn,rest,z,es,er,rfl,rfl,la,hdic⟩;have:rest=[]:=by cases rest with
  |nil=>rfl
  |cons _ _=>cases er
 subst this;simp only[ju]at es;subst es
 repeat sizeOf_list_dec
 refine⟨AR (by simp;omega),?_⟩;have tw:(W.map Al).map D.im=W.map λp=>D.im (Al p):=by rw[jx];rfl
 rw[tw];refine BL (λp:Nat×Nat=>D.im (Al p)) (λp=>if p.1∈some_/\p.2∈some_ then some (.im (Al p))else none) (λ_ ls=>∃x y,ls=[some x,some y,some (.mu 0)]) _ (AJ _) ?_ ?_
 .rintro p hp ls hls;refine⟨[some (.im (.int (p.1:Int))),some (.im (.int (p.2:Int))),some (.mu 0)],by rcases hls with rfl|⟨_,x,y,rfl⟩<;>rfl,⟨_,_,rfl⟩,?_⟩
  repeat sizeOf_list_dec
  refine HK (kvs:=acc) rfl hdic ?_
  repeat sizeOf_list_dec
  by_cases h1:p.1∈some_
  .rw[j9 (by simp[h1])]
   repeat sizeOf_list_dec
   refine HK (kvs:=acc) rfl hdic ?_
   repeat sizeOf_list_dec
   refine⟨rfl,?_⟩;by_cases h2:p.2∈some_
   .rw[j9 (by simp[h2])];refine⟨_,j9 ⟨h1,h2⟩,?_⟩
    repeat sizeOf_list_dec
    exact⟨rfl,HN _ _⟩
   .rw[ja (by simp[h2])];exact ja λz=>h2 z.2
  .rw[ja (by simp[h1])];refine⟨rfl,?_⟩;rw[ja Bool.false_ne_true];exact ja λz=>h1 z.1
 rw[QP];have wl:(CT W some_).length<=16:=jh (kd _ _) hW
 repeat sizeOf_list_dec
 rw[tn];refine B9 (λr ls hd=>∃(n:Nat) (kvs:List (Key×D)) (v:Nat->Int) (z6 z7 z8:Option D),ls=[some (.im (Ap ws)),some (.im (.tup (W.map Al))),some (.im (Ah some_)),some (.im (.int t)),some (.mu 0),some (.mu 1),z6,z7,z8]/\hd=[.dic kvs,.lst (prD (CT W some_))]/\n+r.length=some_.length/\kvs.length<=8+16*n/\DicI kvs (onS some_ v)/\(∀k∈some_,max (BU ws k) t<=v k)/\(∀k∈some_,v k<=h k)/\∀k∈some_,rk k<n->v k=h k) ?_ ?_ ?_
 .exact⟨0,acc,λk=>max (BU ws k) t,none,none,none,rfl,rfl,by simp,by omega,hdic,λk _=>Int.le_refl _,λk hk=>H.lo k hk,λk _ hr=>by omega⟩
 .rintro d r ls hd ⟨n,kvs,v,z6,z7,z8,rfl,rfl,hl2,lk,hdic,lo,hi,old⟩;simp only[jm]at hl2;refine⟨_,rfl,?_⟩;dsimp only[set_cons_zero,set_cons_succ]
  repeat sizeOf_list_dec
  refine⟨_,_,rfl,rfl,?_⟩;refine B9 (λr ls hd=>∃(rest:List (Nat×Nat)) (kvs:List (Key×D)) (v:Nat->Int) (z6 z7 z8:Option D),r=prD rest/\(∀p∈rest,p∈CT W some_)/\ls=[some (.im (Ap ws)),some (.im (.tup (W.map Al))),some (.im (Ah some_)),some (.im (.int t)),some (.mu 0),some (.mu 1),z6,z7,z8]/\hd=[.dic kvs,.lst (prD (CT W some_))]/\kvs.length+rest.length<=8+16*n+16/\DicI kvs (onS some_ v)/\Up some_ (CT W some_) rk (λk=>max (BU ws k) t) (Au ws) h n rest v) ?_ ?_ ?_
  .exact⟨CT W some_,kvs,v,_,_,_,rfl,λp hp=>hp,rfl,rfl,by omega,hdic,Up.begin H lo hi old⟩
  .rintro d r ls hd ⟨rest,kvs,v,z6,z7,z8,er,hsub,rfl,rfl,lk,hdic,U⟩;cases rest with
   |nil=>cases er
   |cons q rest=>
    obtain⟨rfl,rfl⟩:=List.cons.inj er;have hq:=hsub q jw;have hq1:=(R.ins q hq).1;have hq2:=(R.ins q hq).2;refine⟨_,rfl,?_⟩;dsimp only[set_cons_zero,set_cons_succ];refine Nj (w:=0) ?_
    repeat sizeOf_list_dec
    refine EJ (kvs:=kvs) rfl hdic (j9 hq2) ?_
    repeat sizeOf_list_dec
    refine EJ (kvs:=kvs) rfl hdic (j9 hq1) ?_
    repeat sizeOf_list_dec
    refine Ae rfl (by rw[<- EX];exact Fc (hs _ hq1)) ?_
    repeat sizeOf_list_dec
    simp only[jm]at lk;refine⟨_,_,_,rfl,rfl,rfl,Bw (by omega),?_⟩;have hq1n:q.1<ws.length:=hs _ hq1;have el:ws[q.1].len=Au ws q.1:=by simp[Au,hs _ hq1]
    rw[el];refine⟨by intro p hp;simp at hp;subst hp;rfl,rest,_,_,_,_,_,rfl,λp hp=>hsub p (jq _ hp),rfl,rfl,by have:=IJ kvs (.inl (q.2:Int)) (.im (.int (max (v q.2) (v q.1+Au ws q.1))));omega,?_,Up.step R H hq U⟩;intro j;rw[hdic.put q.2 _ j];by_cases ej:j=q.2
    .subst ej;simp[hq2]
    .simp[ej]
  .rintro ls hd ⟨rest,kvs,v,z6,z7,z8,er,hsub,rfl,rfl,lk,hdic,U⟩;have:rest=[]:=by cases rest with
    |nil=>rfl
    |cons _ _=>cases er
   subst this;refine⟨AJ _,n+1,kvs,v,_,_,_,rfl,rfl,by omega,by simp at lk;omega,hdic,U.lo,U.hi,λk hk hr=>?_⟩;by_cases e:rk k=n
   .rcases U.new k hk e with e|⟨p,hp,_⟩
    .exact e
    .cases hp
   .exact U.old k hk (by omega)
 .rintro ls hd ⟨n,kvs,v,z6,z7,z8,rfl,rfl,hl2,lk,hdic,lo,hi,old⟩;simp only[jL,Nat.add_zero]at hl2;subst hl2
  repeat sizeOf_list_dec
  rw[tn];refine⟨AR (by simp;omega),?_⟩;refine BL (λk:Nat=>D.im (.int (k:Int))) (λk=>some (.im (.int (h k)))) (λ_ ls=>∃x,ls=[some x,some (.mu 0)]) _ (AJ _) ?_ ?_
  .rintro k hk ls hls;refine⟨[some (.im (.int (k:Int))),some (.mu 0)],by rcases hls with rfl|⟨_,x,rfl⟩<;>rfl,⟨_,rfl⟩,?_⟩
   repeat sizeOf_list_dec
   refine⟨rfl,?_⟩;rw[j9 rfl];refine⟨_,rfl,?_⟩
   repeat sizeOf_list_dec
   exact EJ (kvs:=kvs) rfl hdic (j9 hk) ⟨rfl,by rw[old k hk (hrk k hk)]⟩
  .refine⟨_,rfl,?_⟩;have:(some_.filterMap λk=>some (D.im (.int (h k))))=(some_.map λk=>I.int (h k)).map D.im:=by simp
   rw[this];exact CY _
def m1:¬ (("miss":Str)="ends"):=by decide +kernel
def s1:¬ (("steps":Str)="late"):=by decide +kernel
def s2:¬ (("steps":Str)="tardy"):=by decide +kernel
def s3:¬ (("steps":Str)="miss"):=by decide +kernel
def s4:¬ (("steps":Str)="ends"):=by decide +kernel
def e1:¬ (("ends":Str)="late"):=by decide +kernel
def e2:¬ (("ends":Str)="tardy"):=by decide +kernel
def e3:¬ (("ends":Str)="miss"):=by decide +kernel
def ZH(h:FU c)(t:Int):WF DB [.im (BP c),.im (.int t)] [] λd x=>d=.im (.int (c.at t)):=by
 cases c with
 |late d=>exact WP.eq (z:=.im (.int (t-d))) (h:=[]) (by simp[DB,mkF,BP]) rfl
 |tardy d w=>
  have b1:∀j,E8 w j:=λj=>D9 (by have:=h.1;omega) (by have:=h.2;omega);refine WP.eq (z:=.im (.int (w*if d<t then t-d else 0))) (h:=[]) (by simp[DB,mkF,BP,n8,b1,EA]) ?_;simp only[Cost.at];by_cases q:t-d<=0
  .rw[ja (by omega),j9 q,Int.mul_zero]
  .rw[j9 (by omega),ja q]
 |miss d w=>
  have b1:∀j,E8 w j:=λj=>D9 (by have:=h.1;omega) (by have:=h.2;omega);refine WP.eq (z:=.im (.int (w*if d<t then 1 else 0))) (h:=[]) (by simp[DB,mkF,BP,n9,n10,b1,Mz]) ?_;simp only[Cost.at];by_cases q:t-d<=0
  .rw[ja (by omega),j9 q,Int.mul_zero]
  .rw[j9 (by omega),ja q,Int.mul_one]
 |ends w=>
  have b1:∀j,E8 w j:=λj=>D9 (by have:=h.1;omega) (by have:=h.2;omega);exact WP.eq (z:=.im (.int (w*t))) (h:=[]) (by simp[DB,mkF,BP,e1,e2,e3,b1]) rfl
 |steps rows=>
  obtain⟨hl,hr,ha⟩:=h;unfold DB;refine BJ rfl ?_;refine AH (Ar (AU (AC (AC (A2 rfl (AG (Ae rfl (K7 _ _) (AG (GU ⟨_,rfl,(λq=>absurd (jV q) s1),λ_=>Ai (AA ?_)⟩)))))))));refine AH (Ar (AU (AC (AC (A2 rfl (AG (Ae rfl (K7 _ _) (AG (GU ⟨_,rfl,(λq=>absurd (jV q) s2),λ_=>Ai (AA ?_)⟩)))))))));refine AH (Ar (AU (AC (AC (A2 rfl (AG (Ae rfl (K7 _ _) (AG (GU ⟨_,rfl,(λq=>absurd (jV q) s3),λ_=>Ai (AA ?_)⟩)))))))));refine AH (Ar (AU (AC (AC (A2 rfl (AG (Ae rfl (K7 _ _) (AG (GU ⟨_,rfl,(λq=>absurd (jV q) s4),λ_=>Ai (AA ?_)⟩)))))))));refine Ay (Dr (LS (CG (Ds (A3 (AG (A8 ⟨Cg,?_⟩)))))));refine CG (BZ (EK (AC (A2 rfl (AG (Ae rfl (Vb _ _ _) ⟨_,rfl,?_⟩))))));rw[show(rows.map Fm).map D.im=rows.map Ac by simp[Fm,Ac]];refine⟨AR (by simp;omega),?_⟩;refine BL Ac (λq=>if q.1<=t then some (.im (.int q.2))else none) (λ_ ls=>∃x y,ls=[some x,some y,some (.im (.int t))]) _ (AJ _) ?_ ?_
  .rintro q hq ls hls;refine⟨[some (.im (.int q.1)),some (.im (.int q.2)),some (.im (.int t))],by rcases hls with rfl|⟨_,x,y,rfl⟩<;>rfl,⟨_,_,rfl⟩,AU (AC (A2 rfl (A2 rfl (Oh ⟨_,rfl,rfl,?_⟩))))⟩;by_cases hb:q.1<=t
   .rw[j9 (by simpa using hb)];exact⟨_,j9 hb,A2 rfl ⟨rfl,rfl⟩⟩
   .rw[ja (by simpa using hb)];exact ja hb
  have ef:(rows.filterMap λq=>if q.1<=t then some (D.im (.int q.2))else none)=intD ((rows.filter λq=>decide (q.1<=t)).map (·.2)):=by
   clear hl hr ha
   induction rows with
   |nil=>rfl
   |cons q r ih=>
    rw[jI,jR];by_cases hb:q.1<=t
    .simp[hb,ih,intD]
    .simp[hb,ih]
  rw[ef];have fl:=kd (λq:Int×Int=>decide (q.1<=t)) rows;refine⟨0,1,_,_,rfl,rfl,rfl,rfl,AR (by simp;omega),?_⟩;refine⟨.im (.int (BQ t rows 0)),?_,rfl⟩;rw[<- KD t hr ha];show G7 (intD (0::(rows.filter λq=>decide (q.1<=t)).map (·.2)))=_;unfold G7;rw[Eo];simp
noncomputable def NL(n m:Nat):List Nat:=(List.range n).filter λk=>decide (m/2^k%2=1)
def ZL{n m:Nat}(h0:m≠0)(h1:m<2^n):NL n m≠[]:=by
 obtain⟨i,hi⟩:=Nat.exists_testBit_of_ne_zero h0;have hin:i<n:=by
  rcases Nat.lt_or_ge i n with h|h
  .exact h
  .have:m<2^i:=jn h1 (Nat.pow_le_pow_right (by omega) h);rw[Nat.testBit_lt_two_pow this]at hi;cases hi
 intro h;have:i∈NL n m:=by
  rw[NL,mem_filter];refine⟨by simpa using hin,?_⟩;rw[Nat.testBit_eq_decide_div_mod_eq]at hi;exact hi
 rw[h]at this;simp at this
def VZ(n m:Nat):(NL n m).Sublist (List.range n):=List.filter_sublist
def ZM(m k:Nat):Builtin.bitAnd ((m:Int)/2^(k:Int).toNat) 1=((m/2^k%2:Nat):Int):=by
 have e:(m:Int)/2^(k:Int).toNat=((m/2^k:Nat):Int):=by
  rw[jN];norm_cast
 rw[e];generalize m/2^k=z;rw[PyProof.Rows.bitAnd_pp (Int.natCast_nonneg z) (by decide),jN];show((z &&& 1:Nat):Int)=_;rw[Nat.and_one_is_mod]
def Me(ks:List Nat):AO (AK ks)=.im (Ah ks):=by
 have:AK ks=(ks.map λk:Nat=>I.int (k:Int)).map D.im:=by simp[AK]
 rw[this,CY]
def LG(p:Nat->Prop)[DecidablePred p](L:List Nat):(L.filterMap λa=>if p a then some (D.im (.int (a:Int)))else none)=AK (L.filter λa=>decide (p a)):=by
 induction L with
 |nil=>rfl
 |cons x r ih=>
  rw[jI,jR];by_cases h:p x
  .simp[h,ih,AK]
  .simp[h,ih,AK]
def bo{n:Nat}(hn:n<=8):2^n<=256:=by
 have:2^n<=2^8:=Nat.pow_le_pow_right (by omega) hn;omega
def Zp(n:Nat):(1:Int)*2^(n:Int).toNat=((2^n:Nat):Int):=by
 rw[Int.one_mul,jN];norm_cast
def po(n:Nat)(hn:n<=8):Ef 1 (n:Int):=by unfold Ef;exact⟨by omega,by omega,by decide⟩
def VM:F_behind=Rw.F_behind:=rfl
noncomputable abbrev wI(ps:List (Int×Int)):I:=.tup (ps.map Gh)
structure Wsh(n:Nat)(ps:List (Int×Int)):Prop where
 len:ps.length<=16
 nod:∀p∈ps,∃a b:Nat,a<n/\b<n/\p=((a:Int),(b:Int))
def Mt(n:Nat)(ps:List (Int×Int))(M:Nat->Nat->Bool):Prop:=∀i j,i<n->j<n->(M i j=true↔Rc ps i j)
def Ck(ks:List Nat):(ks.map λk:Nat=>I.int (k:Int)).map D.im=AK ks:=by simp[AK]
def OG(ks:List Nat):AO (AK ks)=.im (Ah ks):=by rw[<- Ck,CY]
def Ut(L:List Nat)(x:Nat):((x:Int)∈L.map λk:Nat=>(k:Int))↔x∈L:=by
 constructor
 .intro h;obtain⟨k,hk,e⟩:=mem_map.mp h;have:k=x:=by omega
  rw[<- this];exact hk
 .intro h;exact mem_map.mpr ⟨x,h,rfl⟩
def nin(ks:List Nat)(x:Nat):decide ((x:Int)∈ks.map λk:Nat=>(k:Int))=decide (x∈ks):=by simp only[Ut]
noncomputable abbrev By(M:Nat->Nat->Bool)(ks:List Nat):List Nat:=ks.filter λa=>!(ks.any λb=>M a b)
def Tc(found:List Int)(x:Int):x∈Bm found↔x∈found:=(Ik found).mem_iff
def cy{n:Nat}{M:Nat->Nat->Bool}(h:Wsh n ps)(hM:Mt n ps M)(hk:∀k∈ks,k<n)(hl:ks.length<=8):
 WF Do [.im (.int (n:Int)),.im (wI ps),.im (Ah ks)] [] λd x=>d=.im (Ah (By M ks)):=by
 unfold Do;refine BJ rfl ?_
 repeat sizeOf_list_dec
 rw[Ck];refine B9 (λr ls hd=>∃(dn rest:List Nat) (z4 z5:Option D),ks=dn++rest/\r=AK rest/\ls=[some (.im (.int (n:Int))),some (.im (wI ps)),some (.im (Ah ks)),some (.mu 0),z4,z5]/\hd=[.lst (AK (dn.filter λa=>!(ks.any λb=>M a b)))]) ?_ ?_ ?_
 .exact⟨[],ks,none,none,rfl,rfl,rfl,rfl⟩
 .rintro d r ls hd ⟨dn,rest,z4,z5,ek,er,rfl,rfl⟩;cases rest with
  |nil=>cases er
  |cons u rest=>
   obtain⟨rfl,rfl⟩:=List.cons.inj er;have hu:u<n:=hk u (by rw[ek];simp);refine⟨_,rfl,?_⟩;dsimp only[set_cons_zero,set_cons_succ]
   repeat sizeOf_list_dec
   refine Bt ?_
   repeat sizeOf_list_dec
   refine⟨by simp,?_⟩;rw[VM];obtain⟨found,g,e,nd,mem⟩:=Rw.behind_eq (ps:=ps) (by have:=h.len;omega) (n:Int) (u:Int);refine WP.eq e ⟨_,rfl,?_⟩
   repeat sizeOf_list_dec
   refine CS ?_
   repeat sizeOf_list_dec
   rw[Ck];refine⟨AR (by simp;omega),?_⟩;refine BL (λk:Nat=>D.im (.int (k:Int))) (λk=>some (.im (.bl (M u k)))) (λ_ ls=>∃x,ls=[some x,some (.im (.tup ((Bm found).map I.int)))]) _ (AJ _) ?_ ?_
   .rintro k hk' ls hls;refine⟨[some (.im (.int (k:Int))),some (.im (.tup ((Bm found).map I.int)))],by rcases hls with rfl|⟨_,x,rfl⟩<;>rfl,⟨_,rfl⟩,?_⟩
    repeat sizeOf_list_dec
    refine⟨rfl,?_⟩;rw[j9 rfl];refine⟨_,rfl,?_⟩
    repeat sizeOf_list_dec
    refine LM (xs:=Bm found) (by simp[intD]) ⟨rfl,?_⟩;have:decide ((k:Int)∈Bm found)=M u k:=by
     have a:=hM u k hu (hk k hk');rw[<- mem,<- Tc]at a;cases q:M u k with
     |true=>rw[q]at a;simpa using a
     |false=>rw[q]at a;simpa using a
    rw[<- this];rfl
   have e1:(ks.filterMap λk=>some (D.im (.bl (M u k))))=blD (ks.map λk=>M u k):=by simp[blD]
   rw[e1];refine⟨_,by rw[Mk,VY];rfl,?_⟩;refine⟨_,rfl,?_⟩;have e2:((ks.map λk=>M u k).any id)=ks.any λb=>M u b:=by simp[List.any_map]
   rw[e2];have ek':ks=(dn++[u])++rest:=by rw[ek];simp
   refine⟨λhb=>?_,λhb=>?_⟩
   .repeat sizeOf_list_dec
    refine GV rfl (Bw (by have:=kd (λa=>!(ks.any λb=>M a b)) dn;have:=jA List.length ek;simp at this ⊢;omega)) ?_;refine⟨AJ _,dn++[u],rest,_,_,ek',rfl,rfl,?_⟩;have hb:(!(ks.any λb=>M u b))=true:=hb;simp only[List.filter_append,jR,hb,jj,List.filter_nil,set_cons_zero,AK,List.map_append,je,jy]
   .refine Ai ⟨AJ _,dn++[u],rest,_,_,ek',rfl,rfl,?_⟩;have hb:(!(ks.any λb=>M u b))=false:=hb;simp only[List.filter_append,jR,hb,jB,Bool.false_eq_true,List.filter_nil,ju]
 .rintro ls hd ⟨dn,rest,z4,z5,ek,er,rfl,rfl⟩;have:rest=[]:=by cases rest with
   |nil=>rfl
   |cons _ _=>cases er
  subst this;simp only[ju]at ek
  repeat sizeOf_list_dec
  refine CP rfl rfl ?_;rw[<- ek];exact OG _
noncomputable def Way(ps:List (Int×Int)):Nat->Nat->Nat->Prop
 |0,_,_=>False
 |m+1,x,y=>((x:Int),(y:Int))∈ps∨∃b:Nat,((x:Int),(b:Int))∈ps/\Way ps m b y
theorem Way.mono:∀{m m' x y:Nat},Way ps m x y->m<=m'->Way ps m' x y
 |0,_,_,_,h,_=>h.elim
 |m+1,0,_,_,_,h=>by omega
 |m+1,m'+1,x,y,h,hm=>by
  rcases h with h|⟨b,h1,h2⟩
  .exact .inl h
  .exact .inr ⟨b,h1,h2.mono (by omega)⟩
theorem Way.snoc:∀{m x y z:Nat},Way ps m x y->((y:Int),(z:Int))∈ps->Way ps (m+1) x z
 |0,_,_,_,h,_=>h.elim
 |m+1,x,y,z,h,e=>by
  rcases h with h|⟨b,h1,h2⟩
  .exact .inr ⟨y,h,.inl e⟩
  .exact .inr ⟨b,h1,h2.snoc e⟩
theorem KQ:∀{xs ys:List Nat},(∀c,xs.count c<=ys.count c)->xs.length<=ys.length
 |[],ys,_=>by simp
 |x::r,ys,h=>by
  have hx:x∈ys:=by
   have:=h x;rw[List.count_cons_self]at this;exact List.count_pos_iff.mp (by omega)
  have ih:=KQ (xs:=r) (ys:=ys.erase x) λc=>by
   have:=h c;by_cases e:c=x
   .subst e;rw[List.count_cons_self]at this;rw[List.count_erase_self];omega
   .rw[List.count_cons_of_ne (λq=>e q.symm)]at this;rw[List.count_erase_of_ne e];exact this
  rw[List.length_erase_of_mem hx]at ih;have:=List.length_pos_of_mem hx;simp only[jm];omega
noncomputable abbrev Bf(W:List (Nat×Nat)):List (Int×Int):=W.map λp=>((p.1:Int),(p.2:Int))
def cast_mem{x y:Nat}:((x:Int),(y:Int))∈Bf W↔(x,y)∈W:=by
 simp only[Bf,mem_map,Prod.mk.injEq];constructor
 .rintro⟨⟨a,b⟩,h,e1,e2⟩;have e1:(a:Int)=x:=e1;have e2:(b:Int)=y:=e2;have:a=x:=by omega
  have:b=y:=by omega
  subst a;subst b;exact h
 .intro h;exact⟨(x,y),h,rfl,rfl⟩
def ML{n:Nat}{rk:Nat->Nat}(R:Rk (λk=>k<n) W rk){x y:Int}(r:Rc (Bf W) x y):∀i:Nat,x=i->i<n/\∃j:Nat,y=j/\j<n/\rk i<rk j/\Way (Bf W) (rk j-rk i) i j:=by
 induction r with
 |one h=>
  rintro i rfl;obtain⟨⟨a,b⟩,hp,e⟩:=mem_map.mp h;simp only[Prod.mk.injEq]at e;obtain⟨e1,rfl⟩:=e;have:a=i:=by omega
  subst this;have l:=R.lt _ hp;have ins:=R.ins _ hp;refine⟨ins.1,b,rfl,ins.2,l,Way.mono (m:=1) (.inl h) ?_⟩;have l:rk a<rk b:=l;omega
 |step _ h ih=>
  intro i hi;obtain⟨hn,m,rfl,hm,lm,w⟩:=ih i hi;obtain⟨⟨a,b⟩,hp,e⟩:=mem_map.mp h;simp only[Prod.mk.injEq]at e;obtain⟨e1,rfl⟩:=e;have:a=m:=by omega
  subst this;have l:rk a<rk b:=R.lt _ hp;refine⟨hn,b,rfl,(R.ins _ hp).2,by omega,Way.mono (w.snoc h) (by omega)⟩
noncomputable def RH(n:Nat)(f:Nat->List Nat):Hd:=(List.range n).map (λi=>MO.lst (AK (f i)))++[.lst ((List.range n).map D.mu)]
def Iw(n:Nat)(f:Nat->List Nat):(RH n f).length=n+1:=by simp[RH]
def Gc{n i:Nat}{f:Nat->List Nat}(hi:i<n)(g:Hd):(RH n f++g)[i]?=some (.lst (AK (f i))):=by
 rw[RH,jC,List.getElem?_append_left (by simpa using hi)];simp[hi]
def R9(n:Nat)(f:Nat->List Nat)(g:Hd):(RH n f++g)[n]?=some (.lst ((List.range n).map D.mu)):=by
 rw[RH,jC,List.getElem?_append_right (by simp)];simp
def aG{n i:Nat}{f:Nat->List Nat}(hi:i<n)(xs:List Nat)(g:Hd):(RH n f++g).set i (.lst (AK xs))=RH n (λj=>if j=i then xs else f j)++g:=by
 unfold RH;rw[jC,jC,List.set_append_left _ _ (by simpa using hi)]
 congr 1
 refine List.ext_getElem (by simp) λj h1 h2=>?_;simp only[List.length_set,ji,List.length_range]at h1;rw[List.getElem_set];by_cases e:i=j
 .subst e;simp
 .rw[ja e];have e':¬ j=i:=λq=>e q.symm;simp[e']
def dk(w:Nat)(ks:List Nat):Aj w (AK ks)=true:=Se w (λk:Nat=>I.int (k:Int)) ks
def dl(w:Nat)(ks:List Nat)(h:∀k∈ks,k<w):Aj w (ks.map D.mu)=true:=by
 induction ks with
 |nil=>rfl
 |cons x r ih=>
  simp only[je,Aj,Bool.and_eq_true];exact⟨by simpa [clD]using h x (by simp),ih λk hk=>h k (by simp[hk])⟩
def eO(n w:Nat)(f:Nat->List Nat)(hw:n<=w):(RH n f).all (clO w)=true:=by
 unfold RH;rw[List.all_append,Bool.and_eq_true];refine⟨?_,?_⟩
 .rw[all_eq_true];intro x hx;obtain⟨i,_,rfl⟩:=mem_map.mp hx;exact dk _ _
 .rw[all_cons,List.all_nil,Bool.and_true];exact dl w _ λk hk=>jn (by simpa using hk) hw
noncomputable abbrev IG(W:List (Nat×Nat))(k:Nat):List Nat:=(W.filter λp=>decide (p.1=k)).map Prod.snd
def Wu(W:List (Nat×Nat))(k:Nat):(W.filterMap λp=>if p.1=k then some (D.im (.int (p.2:Int)))else none)=AK (IG W k):=by
 induction W with
 |nil=>rfl
 |cons p r ih=>
  rw[jI];by_cases h:p.1=k
  .simp[h,AK]at ih ⊢;exact ih
  .simp[h,AK]at ih ⊢;exact ih
structure Rows(n:Nat)(W:List (Nat×Nat))(f:Nat->List Nat):Prop where
 sound:∀i c,i<n->c∈f i->Rc (Bf W) i c
 cnt:∀i c,i<n->(f i).count c<=(W.map Prod.snd).count c
def Rows.len{n:Nat}{f:Nat->List Nat}(R:Rows n W f)(hW:W.length<=16){i:Nat}(hi:i<n):(f i).length<=16:=by
 have:=KQ (R.cnt i · hi);simp at this;omega
noncomputable abbrev grow(f:Nat->List Nat)(k b:Nat):Nat->List Nat:=λj=>if j=k then f k++(f b).filter (λc=>decide (¬ c∈f k))else f j
theorem Rows.grow{n:Nat}{f:Nat->List Nat}(R:Rows n W f){k b:Nat}(hk:k<n)(hb:b<n)(e:Rc (Bf W) k b):Rows n W (grow f k b):=by
 refine⟨λi c hi hc=>?_,λi c hi=>?_⟩
 .unfold T21.grow at hc;split at hc
  .next q=>
   subst q;rcases mem_append.mp hc with h|h
   .exact R.sound i c hi h
   .exact e.trans (R.sound b c hb (mem_filter.mp h).1)
  .exact R.sound i c hi hc
 .unfold T21.grow;split
  .next q=>
   subst q;rw[List.count_append];by_cases h:c∈f i
   .have:((f b).filter λc=>decide (¬ c∈f i)).count c=0:=List.count_eq_zero.mpr λq=>by
     have:=(mem_filter.mp q).2;simp[h]at this
    have:=R.cnt i c hi;omega
   .have h0:(f i).count c=0:=List.count_eq_zero.mpr h;have:=List.Sublist.count_le c (List.filter_sublist (l:=f b) (p:=λc=>decide (¬ c∈f i)));have:=R.cnt b c hb;omega
  .exact R.cnt i c hi
def GA{f:Nat->List Nat}{k b i c:Nat}(h:c∈f i):c∈grow f k b i:=by
 unfold grow;split
 .next q=>subst q;exact jQ _ h
 .exact h
def VG{f:Nat->List Nat}{k b c:Nat}(h:c∈f b):c∈grow f k b k:=by
 unfold grow;rw[j9 rfl];by_cases q:c∈f k
 .exact jQ _ q
 .exact jl _ (mem_filter.mpr ⟨h,by simpa using q⟩)
def QC(n:Nat)(W:List (Nat×Nat))(f:Nat->List Nat)(t:Nat):Prop:=∀i c,i<n->Way (Bf W) t i c->c∈f i
def Qe{n i:Nat}{f:Nat->List Nat}(hi:i<n)(g:Hd):Aa (RH n f++g) (.mu i)=some (AK (f i)):=by
 rw[Ii,G5,Gc hi]
def Qd(n:Nat)(f:Nat->List Nat)(g:Hd):Aa (RH n f++g) (.mu n)=some ((List.range n).map D.mu):=by
 rw[Ii,G5,R9]
def LB{n i:Nat}(hi:i<n):atI ((List.range n).map D.mu) (i:Int)=some (.mu i):=EZ rfl (by simp[hi])
def Mm(ks:List Nat):AK ks=intD (ks.map λk:Nat=>(k:Int)):=by simp[intD,AK]
noncomputable abbrev Lr(n:Nat)(d1:D)(z3 z4 z5:Option D):Ls:=[some (.im (.int (n:Int))),some d1,some (.mu n),z3,z4,z5]
def dm{n:Nat}{W:List (Nat×Nat)}{f:Nat->List Nat}(hn:n<=8)(hW:W.length<=16)(R:Rows n W f){k b:Nat}(hk:k<n)(hb:b<n)(e:Rc (Bf W) k b)(d1:I)(t:Int)(Q:Fl->Hd->Prop)
 (q:Q (.nx (Lr n (.im d1) (some (.im (.int t))) (some (.im (.int (k:Int)))) (some (.im (.int (b:Int)))))) (RH n (grow f k b))):
 WS (Dx (Bp (mMt DY (mOp gIx (A0 2) (A0 4)) (A1 (Ag (Ak 1 [2,4] (C9 (mOp gIx (A0 2) (A0 5))) (AF 0) (A6 (mOp (gIn true) (A0 0) (mOp gIx (A0 1) (A0 2)))) (A0 0))) A4)))) (Lr n (.im d1) (some (.im (.int t))) (some (.im (.int (k:Int)))) (some (.im (.int (b:Int))))) (RH n f) Q:=by
 have svT:=Qd n f [];have svK:=Qe (f:=f) hk [];have rB:=Gc (f:=f) hb [];have rK:=Gc (f:=f) hk [];simp only[ju]at svT svK rB rK;refine IB (Ni (Vj (AC (A2 rfl (A2 rfl (Ae svT (LB hk) ⟨⟨AK (f k),svK⟩,?_⟩))))));refine A3 (CG (BZ (TD (AC (A2 rfl (A2 rfl (Ae svT (LB hb) ⟨b,AK (f b),rfl,rB,AR (by have:=R.len hW hb;simp[AK];omega),?_⟩)))))));refine BL (λm:Nat=>D.im (.int (m:Int))) (λc=>if ¬ c∈f k then some (.im (.int (c:Int)))else none) (λ_ ls=>∃x,ls=[some x,some (.mu n),some (.im (.int (k:Int)))]) _ (by intro p hp;rw[jS]at hp;subst hp;exact rB) ?_ ?_
 .rintro c hc ls hls;refine⟨[some (.im (.int (c:Int))),some (.mu n),some (.im (.int (k:Int)))],by rcases hls with rfl|⟨_,x,rfl⟩<;>rfl,⟨_,rfl⟩,?_⟩;refine AU (AC (A2 rfl (AC (A2 rfl (A2 rfl (Ae svT (LB hk) (LM (xs:=(f k).map λk:Nat=>(k:Int)) (by rw[svK,Mm]) ⟨_,rfl,rfl,?_⟩)))))));rw[nin];by_cases h:c∈f k
  .rw[ja (by simp[h])];exact ja (λz=>z h)
  .rw[j9 (by simp[h])];exact⟨_,j9 h,A2 rfl ⟨rfl,rfl⟩⟩
 rw[LG];refine A8 (QM (Gc hk _) (by rw[List.getElem?_append_right (by rw[Iw];exact jc _),Nat.sub_self];rfl) (AR (by have:=R.len hW hk;have:=R.len hW hb;have:=kd (λa=>decide (¬ a∈f k)) (f b);simp only[AK,ji];omega)) ?_);have ea:AK (f k)++AK ((f b).filter λa=>decide (¬ a∈f k))=AK (f k++(f b).filter λa=>decide (¬ a∈f k)):=by simp[AK]
 rw[ea,aG hk,Iw];have tk:(RH n (grow f k b)++[MO.lst (AK ((f b).filter λa=>decide (¬ a∈f k)))]).take (n+1)=RH n (grow f k b):=by
  rw[List.take_append_of_le_length (by rw[Iw];exact jc _),jZ (by rw[Iw];exact jc _)]
 have tk':=tk;unfold grow at tk';rw[tk'];refine⟨eO n _ _ (by omega),.nx (Lr n (.im d1) (some (.im (.int t))) (some (.im (.int (k:Int)))) (some (.im (.int (b:Int))))),?_,q⟩;simp[E7,Ee,clD]
def NW{n x:Nat}{rest:List Nat}(e:List.range n=dn++x::rest):x=dn.length/\x<n:=by
 have h:(List.range n)[dn.length]?=some x:=by rw[e];simp
 obtain⟨h1,h2⟩:=List.getElem?_eq_some_iff.mp h;simp at h1 h2;omega
def W3(W:List (Nat×Nat)):(W.map Al).map D.im=W.map λp=>D.im (Al p):=by rw[jx];rfl
def XM{n:Nat}{W:List (Nat×Nat)}{rk:Nat->Nat}(hn:n<=8)(hW:W.length<=16)(R:Rk (λk=>k<n) W rk)(hrk:∀k,k<n->rk k<n):
 WF Dc [.im (.int (n:Int)),.im (.tup (W.map Al))] [] λd x=>∃f:Nat->List Nat,d=.mu n/\x=RH n f/\(∀i c,i<n->(c∈f i↔Rc (Bf W) i c))/\∀i,i<n->(f i).length<=16:=by
 unfold Dc;refine BJ rfl ?_;refine AH (AY (CG (BZ (GW (A3 (A2 rfl (A8 ⟨_,rfl,Gb (by omega),AR (by simp;omega),?_⟩)))))));rw[jN,DH];refine eF (λr es ls hd=>∃(dn rest:List Nat) (z:Option D),List.range n=dn++rest/\r=AK rest/\es=dn.map D.mu/\hd=dn.map (λi=>MO.lst (AK (IG W i)))/\ls=[z,some (.im (.tup (W.map Al)))]) ⟨[],List.range n,none,rfl,rfl,rfl,rfl,rfl⟩ ?_ ?_
 .rintro d r es ls hd ⟨dn,rest,z,e1,e2,rfl,rfl,rfl⟩;cases rest with
  |nil=>cases e2
  |cons x rest=>
   obtain⟨rfl,rfl⟩:=List.cons.inj e2;obtain⟨ex,hx⟩:=NW e1;refine⟨[some (.im (.int (x:Int))),some (.im (.tup (W.map Al)))],rfl,EG ?_⟩;rw[j9 rfl];refine CG (BZ (EK (A2 rfl ⟨_,rfl,AR (by simp;omega),?_⟩)));rw[W3];refine BL (λp:Nat×Nat=>D.im (Al p)) (λp=>if p.1=x then some (.im (.int (p.2:Int)))else none) (λ_ ls=>∃y z,ls=[some y,some z,some (.im (.int (x:Int)))]) _ (AJ _) ?_ ?_
   .rintro p hp ls hls;refine⟨[some (.im (.int (p.1:Int))),some (.im (.int (p.2:Int))),some (.im (.int (x:Int)))],by rcases hls with rfl|⟨_,y,z,rfl⟩<;>rfl,⟨_,_,rfl⟩,?_⟩;refine AU (AC (A2 rfl (A2 rfl (F9 ⟨_,rfl,rfl,?_⟩))));by_cases h:p.1=x
    .rw[j9 (by simp[h])];exact⟨_,j9 h,A2 rfl ⟨rfl,rfl⟩⟩
    .rw[ja (by simp;omega)];exact ja h
   rw[Wu];refine⟨AJ _,dn++[x],rest,_,by rw[e1];simp,rfl,?_,by simp,rfl⟩;rw[ji,<- ex];simp
 rintro es ls hd ⟨dn,rest,z,e1,e2,rfl,rfl,rfl⟩;have:rest=[]:=by cases rest with
  |nil=>rfl
  |cons _ _=>cases e2
 subst this;rw[ju]at e1;subst e1;have ln:((List.range n).map λi=>MO.lst (AK (IG W i))).length=n:=by simp
 rw[ln];refine AA ?_;change WS _ (Lr n (.im (.tup (W.map Al))) none none none) (RH n (IG W)) _;have R0:Rows n W (IG W):=by
  refine⟨λi c hi hc=>?_,λi c hi=>?_⟩
  .obtain⟨p,hp,rfl⟩:=mem_map.mp hc;obtain⟨h1,h2⟩:=mem_filter.mp hp;have h2:p.1=i:=by simpa using h2
   exact .one (cast_mem.mpr (h2 ▸ h1))
  .exact List.Sublist.count_le c (List.filter_sublist.map _)
 have D0:QC n W (IG W) 1:=by
  intro i c hi h;rcases h with h|⟨b,_,h⟩
  .exact mem_map.mpr ⟨(i,c),mem_filter.mpr ⟨cast_mem.mp h,by simp⟩,rfl⟩
  .exact h.elim
 refine AH (DC (GW (A3 (A2 rfl (A8 ⟨_,rfl,Gb (by omega),?_⟩)))));rw[jN];refine B9 (λr ls hd=>∃(t:Nat) (f:Nat->List Nat) (z3 z4 z5:Option D),r=AT (t:Int) (n-t)/\t<=n/\ls=Lr n (.im (.tup (W.map Al))) z3 z4 z5/\hd=RH n f/\Rows n W f/\QC n W f (t+1)) ⟨0,IG W,none,none,none,rfl,by omega,rfl,rfl,R0,D0⟩ ?_ ?_
 .rintro d r ls hd ⟨t,f,z3,z4,z5,er,ht,rfl,rfl,RR,DD⟩;obtain⟨m,hm⟩:∃m,n-t=m+1:=by
   cases q:n-t with
   |zero=>rw[q]at er;cases er
   |succ m=>exact⟨m,rfl⟩
  rw[hm,AT]at er;obtain⟨rfl,rfl⟩:=List.cons.inj er;refine⟨Lr n (.im (.tup (W.map Al))) (some (.im (.int (t:Int)))) z4 z5,rfl,?_⟩;refine DC (GW (A3 (A2 rfl (A8 ⟨_,rfl,Gb (by omega),?_⟩))));rw[jN];refine B9 (λr' ls hd=>∃(k:Nat) (f:Nat->List Nat) (z4 z5:Option D),r'=AT (k:Int) (n-k)/\k<=n/\ls=Lr n (.im (.tup (W.map Al))) (some (.im (.int (t:Int)))) z4 z5/\hd=RH n f/\Rows n W f/\QC n W f (t+1)/\∀i c,i<k->i<n->Way (Bf W) (t+2) i c->c∈f i) ⟨0,f,z4,z5,rfl,by omega,rfl,rfl,RR,DD,λi c h=>by omega⟩ ?_ ?_
  .rintro d r' ls hd ⟨k,f,z4,z5,er',hk,rfl,rfl,RR,DD,KK⟩;obtain⟨m',hm'⟩:∃m,n-k=m+1:=by
    cases q:n-k with
    |zero=>rw[q]at er';cases er'
    |succ m=>exact⟨m,rfl⟩
   rw[hm',AT]at er';obtain⟨rfl,rfl⟩:=List.cons.inj er';have hkn:k<n:=by omega
   refine⟨Lr n (.im (.tup (W.map Al))) (some (.im (.int (t:Int)))) (some (.im (.int (k:Int)))) z5,rfl,?_⟩;have svT:=Qd n f [];have svK:=Qe (f:=f) hkn [];simp only[ju]at svT svK;refine DC (Ze (Nm (AC (A2 rfl (A2 rfl (Ae svT (LB hkn) ⟨AK (f k),svK,?_⟩))))));refine B9 (λr'' ls hd=>∃(dn rest:List Nat) (f':Nat->List Nat) (z5:Option D),f k=dn++rest/\r''=AK rest/\ls=Lr n (.im (.tup (W.map Al))) (some (.im (.int (t:Int)))) (some (.im (.int (k:Int)))) z5/\hd=RH n f'/\Rows n W f'/\QC n W f' (t+1)/\(∀i c,i<k->i<n->Way (Bf W) (t+2) i c->c∈f' i)/\(∀c∈f k,c∈f' k)/\∀b∈dn,∀c,Way (Bf W) (t+1) b c->c∈f' k) ⟨[],f k,f,z5,rfl,rfl,rfl,rfl,RR,DD,KK,λc h=>h,by simp⟩ ?_ ?_
   .rintro d r'' ls hd ⟨dn,rest,f',z5,ef,er'',rfl,rfl,RR',DD',KK',SS,BB⟩;cases rest with
    |nil=>cases er''
    |cons b rest=>
     obtain⟨rfl,rfl⟩:=List.cons.inj er'';have rb:Rc (Bf W) k b:=RR.sound k b hkn (by rw[ef];simp);have hb:b<n:=by
      obtain⟨_,j,ej,hj,_⟩:=ML R rb k rfl;omega
     refine⟨Lr n (.im (.tup (W.map Al))) (some (.im (.int (t:Int)))) (some (.im (.int (k:Int)))) (some (.im (.int (b:Int)))),rfl,?_⟩;refine dm hn hW RR' hkn hb rb _ _ _ ?_;refine⟨AJ _,dn++[b],rest,grow f' k b,_,by rw[ef];simp,rfl,rfl,rfl,RR'.grow hkn hb rb,λi c hi w=>GA (DD' i c hi w),λi c h1 h2 w=>GA (KK' i c h1 h2 w),λc h=>GA (SS c h),λb' hb' c w=>?_⟩;rcases mem_append.mp hb' with h|h
     .exact GA (BB b' h c w)
     .rw[jS]at h;subst h;exact VG (DD' b' c hb w)
   .rintro ls hd ⟨dn,rest,f',z5,ef,er'',rfl,rfl,RR',DD',KK',SS,BB⟩;have:rest=[]:=by cases rest with
     |nil=>rfl
     |cons _ _=>cases er''
    subst this;rw[ju]at ef;refine⟨AJ _,k+1,f',_,_,by rw[show((k:Int)+1)=((k+1:Nat):Int) by omega,show m'=n-(k+1) by omega],by omega,rfl,rfl,RR',DD',λi c h1 h2 w=>?_⟩;by_cases h:i=k
    .subst h;rcases w with w|⟨b,w1,w2⟩
     .exact DD' i c h2 (.inl w)
     .have:b∈f i:=DD i b h2 (.inl w1);exact BB b (ef ▸ this) c w2
    .exact KK' i c (by omega) h2 w
  .rintro ls hd ⟨k,f,z4,z5,er',hk,rfl,rfl,RR,DD,KK⟩;have:k=n:=by
    cases q:n-k with
    |zero=>omega
    |succ m=>rw[q]at er';cases er'
   subst this;exact⟨AJ _,t+1,f,_,_,_,by rw[show((t:Int)+1)=((t+1:Nat):Int) by omega,show m=k-(t+1) by omega],by omega,rfl,rfl,RR,λi c hi w=>KK i c hi hi w⟩
 .rintro ls hd ⟨t,f,z3,z4,z5,er,ht,rfl,rfl,RR,DD⟩;have:t=n:=by
   cases q:n-t with
   |zero=>omega
   |succ m=>rw[q]at er;cases er
  subst this;refine AA (Ay (A2 rfl ⟨f,rfl,rfl,λi c hi=>⟨RR.sound i c hi,λr=>?_⟩,λi hi=>RR.len hW hi⟩));obtain⟨_,j,ej,hj,l,w⟩:=ML R r i rfl;have:j=c:=by omega
  subst this;refine DD i j hi (w.mono ?_);have:=hrk j hj;omega
def Wf(w:Wg):Prop:=(1<=w.len/\w.len<=20)/\(0<=w.com/\w.com<=60)/\∃c,w.co=BP c/\FU c/\Bb 2000 c
def Jo(ws:List Wg):Prop:=1<=ws.length/\ws.length<=8/\∀w∈ws,Wf w
def ZN(h:Bb 1000 c):Bb 2000 c:=by
 cases c with
 |late d=>simp only[Bb]at *;omega
 |tardy d w=>simp only[Bb]at *;omega
 |miss d w=>simp only[Bb]at *;omega
 |ends w=>simp only[Bb]at *;omega
 |steps rows=>intro q hq;have:=h q hq;omega
def fJ{w:Wg}(h:w.ok):Wf w:=by
 obtain⟨h1,h2,_,c,e,k1,k2⟩:=h;exact⟨h1,h2,c,e,k1,ZN k2⟩
def Z3{ws:List Wg}{W:List (Nat×Nat)}{rk:Nat->Nat}{h:Nat->Int}(hn:ws.length<=8)(hc:∀k,k<ws.length->0<=BU ws k)(hW:W.length<=16)(R:Rk (λk=>k<ws.length) W rk)(hrk:∀k,k<ws.length->rk k<ws.length)(H:IsHead (λk=>k<ws.length) (BU ws) (Au ws) W h):
 WF Hn [.im (Ap ws),.im (.tup (W.map Al))] [] λd x=>d=.im (.tup ((List.range ws.length).map λk=>.int (h k))):=by
 have we:CT W (List.range ws.length)=W:=by
  refine List.filter_eq_self.mpr λp hp=>?_;have:=R.ins p hp;simp[this.1,this.2]
 unfold Hn;refine BJ rfl ?_
 repeat sizeOf_list_dec
 refine Bt ?_
 repeat sizeOf_list_dec
 have rn:AO (AT 0 ws.length)=.im (Ah (List.range ws.length)):=by rw[DH,Me]
 have rgl:Iu (ws.length:Int):=MB (by omega) (by omega);refine WP.eq (z:=.im (Ah (List.range ws.length))) (h:=[]) (by simp[BM,rgl,rn]) ?_
 repeat sizeOf_list_dec
 refine⟨by simp,?_⟩;refine(UA (h:=h) (rk:=rk) hn hW (by simp) (by simpa using hn) ?_ (by simpa using hrk) ?_).mono ?_
 .rw[we];exact⟨λp hp=>by simpa using R.ins p hp,R.lt⟩
 .rw[we];refine⟨λk hk=>?_,λp hp hk=>H.up p hp (by simpa using hk),λk hk=>?_⟩
  .have hk:k<ws.length:=by simpa using hk
   have:=hc k hk;have:=H.lo k hk;omega
  .have hk:k<ws.length:=by simpa using hk
   have:=hc k hk;rcases H.eq k hk with e|e
   .refine .inl ?_;omega
   .exact .inr e
 .rintro d x rfl;exact⟨_,rfl,rfl⟩
def SJ:F_cost_at=Bd.F_cost_at:=rfl
def cW(h:FU c):c.wok:=by
 cases c<;>first|trivial|exact h
def NQ(ws:List Wg)(cs:Nat->Cost):Prop:=∀k,k<ws.length->(ws[k]?).map Wg.co=some (BP (cs k))/\FU (cs k)/\Bb 2000 (cs k)
def fZ(h:Jo ws):∃cs,NQ ws cs:=by
 refine Classical.skolem (p:=λk c=>k<ws.length->(ws[k]?).map Wg.co=some (BP c)/\FU c/\Bb 2000 c) |>.mp λk=>?_;by_cases hk:k<ws.length
 .obtain⟨_,_,c,e,k1,k2⟩:=h.2.2 ws[k] (List.getElem_mem hk);exact⟨c,λ_=>⟨by simp[hk,e],k1,k2⟩⟩
 .exact⟨.late 0,λh=>absurd h hk⟩
noncomputable def CQ(ws:List Wg)(h:Nat->Int)(ks:List Nat):Int:=ES (ks.map h)+(ks.map (Au ws)).sum
noncomputable def bnd(ws:List Wg)(cs:Nat->Cost)(h:Nat->Int)(M:Nat->Nat->Bool)(ks:List Nat):Int:=ES ((By M ks).map λk=>(cs k).at (CQ ws h ks))
def FR(ks:List Nat)(g:Nat->Int):(ks.filterMap λk=>some (D.im (.int (g k))))=intD (ks.map g):=by simp[intD]
def HW(h:ns≠[]):G6 (intD ns)=some (.im (.int (ES ns))):=by unfold G6;rw[Eo];simp[h]
def Z0(ns:List Int):Gw (intD ns)=some (.im (.int ns.sum)):=by unfold Gw;rw[Eo];rfl
def QQ{ws:List Wg}{k:Nat}(hk:k<ws.length):(ws[k]).len=Au ws k:=by simp[Au,hk]
def Vi{cs:Nat->Cost}(hc:NQ ws cs){k:Nat}(hk:k<ws.length):(ws[k]).co=BP (cs k):=by
 have:=(hc k hk).1;simpa [hk]using this
def S0{ws:List Wg}(hk:∀k∈ks,k<ws.length)(hl:ks.length<=8){i j:Nat}(e0:ls[i]?=some (some (.im (Ap ws))))(e1:ls[j]?=some (some (.im (Ah ks)))){QE:D->Hd->Prop}(q:QE (.im (.int (ks.map (Au ws)).sum)) hd):
 WE (BI Gw (Ak 1 [i] (BE (A0 j)) (AF 0) CZ (mOp gIx (mOp gIx (A0 1) (A0 0)) (mC (.int 0))))) ls hd QE:=by
 refine Dr (BZ (EK (A2 e1 ⟨_,rfl,?_⟩)));rw[Ck];refine⟨AR (by simp;omega),?_⟩;have ec:D1 1 [i] ls=[none,some (.im (Ap ws))]:=by simp[D1,e0]
 rw[ec];refine BL (λk:Nat=>D.im (.int (k:Int))) (λk=>some (.im (.int (Au ws k)))) (λ_ ls=>∃x,ls=[some x,some (.im (Ap ws))]) _ (AJ _) ?_ ?_
 .rintro k hk' ls hls;have hkn:=hk k hk';refine⟨[some (.im (.int (k:Int))),some (.im (Ap ws))],by rcases hls with rfl|⟨_,x,rfl⟩<;>rfl,⟨_,rfl⟩,EG ⟨rfl,?_⟩⟩;rw[j9 rfl];refine⟨_,rfl,AC (AC (A2 rfl (A2 rfl (Ae (by rw[Ih,<- EX]) (Fc hkn) (AG (Ae rfl (K7 _ _) ⟨rfl,?_⟩))))))⟩;rw[QQ hkn]
 rw[FR];exact⟨_,Z0 _,q⟩
structure Bh(H:Hd)(o p n:Nat)(f:Nat->List Nat)(hs:List Int):Prop where
 top:H[n+o]?=some (.lst ((List.range n).map λi=>.mu (i+o)))
 row:∀i,i<n->H[i+o]?=some (.lst (AK (f i)))
 hd:H[p]?=some (.lst (intD hs))
def dy{i:Nat}(h:H[i]?=some o)(g:Hd):(H++g)[i]?=some o:=by
 rw[List.getElem?_append_left (List.getElem?_eq_some_iff.mp h).1];exact h
def P2{i:Nat}(h:H[i]?=some (.lst ds)):Aa H (.mu i)=some ds:=by rw[Ii,G5,h]
def cY{n i o:Nat}(hi:i<n):atI ((List.range n).map λi=>D.mu (i+o)) (i:Int)=some (.mu (i+o)):=EZ rfl (by simp[hi])
def fU(p:Nat->Prop)[DecidablePred p](L:List Nat):(L.filterMap λa=>if p a then some (D.im (.int (a:Int)))else none)=intD ((L.filter λa=>decide (p a)).map λa:Nat=>(a:Int)):=by
 rw[LG,Mm]
noncomputable abbrev Mf(f:Nat->List Nat):Nat->Nat->Bool:=λi j=>decide (j∈f i)
def V6{ws:List Wg}{cs:Nat->Cost}{f:Nat->List Nat}{o p:Nat}(B:Bh H o p ws.length f hs)(hc:NQ ws cs)(hh:hs.length=ws.length)(hne:ks≠[])(hk:∀k∈ks,k<ws.length)(hl:ks.length<=8)(hlast:By (Mf f) ks≠[]):
 WF Dd [.im (Ap ws),.mu (ws.length+o),.mu p,.im (Ah ks)] H λd x=>d=.im (.int (bnd ws cs (λk=>hs.getD k 0) (Mf f) ks))/\∃g,x=H++g:=by
 unfold Dd;refine BJ rfl ?_;refine AH (AY (AC (Dr (BZ (EK (A2 rfl ⟨_,rfl,?_⟩))))));rw[Ck];refine⟨AR (by simp;omega),?_⟩;refine BL (λk:Nat=>D.im (.int (k:Int))) (λk=>some (.im (.int (hs.getD k 0)))) (λ_ ls=>∃x,ls=[some x,some (.mu p)]) _ (AJ _) ?_ ?_
 .rintro k hk' ls hls;have hkn:=hk k hk';refine⟨[some (.im (.int (k:Int))),some (.mu p)],by rcases hls with rfl|⟨_,x,rfl⟩<;>rfl,⟨_,rfl⟩,EG ⟨rfl,?_⟩⟩;rw[j9 rfl];refine⟨_,rfl,AC (A2 rfl (A2 rfl (Ae (P2 B.hd) (EZ (k:=k) (x:=.im (.int (hs.getD k 0))) rfl ?_) ⟨rfl,rfl⟩)))⟩;have:k<hs.length:=by omega
  simp[this]
 rw[FR];refine⟨_,HW (by simpa using hne),S0 hk hl rfl rfl (Dq (AA ?_))⟩;change WS _ [some (.im (Ap ws)),some (.mu (ws.length+o)),some (.mu p),some (.im (Ah ks)),some (.im (.int (CQ ws (λk=>hs.getD k 0) ks))),none] H _;refine AH (AY (CG (BZ (EK (A2 rfl ⟨_,rfl,?_⟩)))));rw[Ck];refine⟨AR (by simp;omega),?_⟩;refine BL (λk:Nat=>D.im (.int (k:Int))) (λu=>if(!(ks.any λb=>Mf f u b))=true then some (.im (.int (u:Int)))else none) (λ_ ls=>∃x,ls=[some x,some (.im (Ah ks)),some (.mu (ws.length+o))]) _ (AJ _) ?_ ?_
 .rintro u hu ls hls;have hun:=hk u hu;refine⟨[some (.im (.int (u:Int))),some (.im (Ah ks)),some (.mu (ws.length+o))],by rcases hls with rfl|⟨_,x,rfl⟩<;>rfl,⟨_,rfl⟩,?_⟩;refine AU (LO (BZ (EK (A2 rfl ⟨_,rfl,?_⟩))));rw[Ck];refine⟨AR (by simp;omega),?_⟩;refine BL (λk:Nat=>D.im (.int (k:Int))) (λv=>if v∈f u then some (.im (.int (v:Int)))else none) (λ_ ls=>∃x,ls=[some x,some (.mu (ws.length+o)),some (.im (.int (u:Int)))]) _ (AJ _) ?_ ?_
  .rintro v hv ls hls;refine⟨[some (.im (.int (v:Int))),some (.mu (ws.length+o)),some (.im (.int (u:Int)))],by rcases hls with rfl|⟨_,x,rfl⟩<;>rfl,⟨_,rfl⟩,?_⟩;refine AU (AC (A2 rfl (AC (A2 rfl (A2 rfl (Ae (P2 B.top) (cY hun) (LM (xs:=(f u).map λk:Nat=>(k:Int)) (by rw[P2 (B.row u hun),Mm]) ⟨_,rfl,rfl,?_⟩)))))));rw[ja Bool.false_ne_true,nin];by_cases h:v∈f u
   .rw[j9 (by simp[h])];exact⟨_,j9 h,A2 rfl ⟨rfl,rfl⟩⟩
   .rw[ja (by simp[h])];exact ja h
  rw[fU];refine⟨_,rfl,_,rfl,rfl,?_⟩;have ee:decide ((((ks.filter λv=>decide (v∈f u)).map λa:Nat=>(a:Int))=[]))=!(ks.any λb=>Mf f u b):=by
   rw[Bool.eq_iff_iff,decide_eq_true_iff];simp[Mf]
  rw[ja Bool.false_ne_true,ee];by_cases h:(!(ks.any λb=>Mf f u b))=true
  .rw[j9 h];exact⟨_,j9 h,A2 rfl ⟨rfl,rfl⟩⟩
  .rw[ja h];exact ja h
 rw[LG];have el:(ks.filter λa=>decide ((!(ks.any λb=>Mf f a b))=true))=By (Mf f) ks:=by
  unfold By
  congr 1
  funext a
  exact Bool.decide_eq_true
 rw[el];refine AA ?_;change WS _ [some (.im (Ap ws)),some (.mu (ws.length+o)),some (.mu p),some (.im (Ah ks)),some (.im (.int (CQ ws (λk=>hs.getD k 0) ks))),some (.mu H.length)] (H++[.lst (AK (By (Mf f) ks))]) _;have eH:(H++[MO.lst (AK (By (Mf f) ks))])[H.length]?=some (.lst (AK (By (Mf f) ks))):=by simp
 have hll:(By (Mf f) ks).length<=8:=jh (kd _ _) hl;refine Ay (Dr (BZ (TD (A2 rfl ⟨_,_,rfl,eH,AR (by simp only[AK,ji];omega),?_⟩))));refine BL (λk:Nat=>D.im (.int (k:Int))) (λk=>some (.im (.int ((cs k).at (CQ ws (λk=>hs.getD k 0) ks))))) (λ_ ls=>∃x,ls=[some x,some (.im (Ap ws)),some (.im (.int (CQ ws (λk=>hs.getD k 0) ks)))]) _ (by intro p hp;rw[jS]at hp;subst hp;exact eH) ?_ ?_
 .rintro k hk' ls hls;have hkn:=hk k (mem_filter.mp hk').1;refine⟨[some (.im (.int (k:Int))),some (.im (Ap ws)),some (.im (.int (CQ ws (λk=>hs.getD k 0) ks)))],by rcases hls with rfl|⟨_,x,rfl⟩<;>rfl,⟨_,rfl⟩,EG ⟨rfl,?_⟩⟩;rw[j9 rfl];refine⟨_,rfl,Bt (A3 (AC (AC (A2 rfl (A2 rfl (Ae (by rw[Ih,<- EX]) (Fc hkn) (AG (Ae rfl (Q5 _ _ _ _) ?_))))))))⟩;rw[Vi hc hkn];refine A3 (A2 rfl (A8 ⟨by simp,(ZH (hc k hkn).2.1 _).mono ?_⟩));rintro r x rfl;exact⟨_,rfl,rfl,rfl⟩
 rw[FR];exact⟨_,HW (by simpa using hlast),rfl,_,rfl⟩
def Q4{ws:List Wg}{W:List (Nat×Nat)}{rk:Nat->Nat}{cs:Nat->Cost}{M:Nat->Nat->Bool}{h:Nat->Int}(hn:ws.length<=8)(hcm:∀k,k<ws.length->0<=BU ws k)(hW:W.length<=16)(R:Rk (λk=>k<ws.length) W rk)(hrk:∀k,k<ws.length->rk k<ws.length)
 (Hh:IsHead (λk=>k<ws.length) (BU ws) (Au ws) W h) (hM:Mt ws.length (Bf W) M) (hc:NQ ws cs) (hne:ks≠[]) (hk:∀k∈ks,k<ws.length) (hl:ks.length<=8) (hlast:By M ks≠[]):
 WF Cn [.im (Ap ws),.im (.tup (W.map Al)),.im (Ah ks)] [] λd x=>d=.im (.int (bnd ws cs h M ks)):=by
 unfold Cn;refine BJ rfl ?_;refine AH (AY (Bt (A3 (A2 rfl (A3 (A2 rfl (A8 ⟨by simp,(Z3 hn hcm hW R hrk Hh).mono ?_⟩)))))));rintro r x rfl;refine⟨_,rfl,AA ?_⟩;change WS _ [some (.im (Ap ws)),some (.im (.tup (W.map Al))),some (.im (Ah ks)),some (.im (.tup ((List.range ws.length).map λk=>.int (h k)))),none] [] _;refine AH (AY (AC (Dr (BZ (EK (A2 rfl ⟨_,rfl,?_⟩))))));rw[Ck];refine⟨AR (by simp;omega),?_⟩;refine BL (λk:Nat=>D.im (.int (k:Int))) (λk=>some (.im (.int (h k)))) (λ_ ls=>∃x,ls=[some x,some (.im (.tup ((List.range ws.length).map λk=>.int (h k))))]) _ (AJ _) ?_ ?_
 .rintro k hk' ls hls;have hkn:=hk k hk';refine⟨[some (.im (.int (k:Int))),some (.im (.tup ((List.range ws.length).map λk=>.int (h k))))],by rcases hls with rfl|⟨_,x,rfl⟩<;>rfl,⟨_,rfl⟩,EG ⟨rfl,?_⟩⟩;rw[j9 rfl];refine⟨_,rfl,AC (A2 rfl (A2 rfl (Ae rfl (EZ (k:=k) (x:=.im (.int (h k))) rfl ?_) ⟨rfl,rfl⟩)))⟩;simp[hkn]
 rw[FR];refine⟨_,HW (by simpa using hne),?_⟩;refine Bt (A3 (A2 rfl (A3 (A2 rfl (A8 ⟨by simp,?_⟩)))));have lw:WF Dm [.im (Ap ws),.im (Ah ks)] [] λd x=>d=.im (.int (ks.map (Au ws)).sum):=by
  unfold Dm;refine BJ rfl ?_;exact Ay (S0 hk hl rfl rfl rfl)
 refine lw.mono ?_;rintro r x rfl;refine⟨_,rfl,Dq (AA ?_)⟩;change WS _ [some (.im (Ap ws)),some (.im (.tup (W.map Al))),some (.im (Ah ks)),some (.im (.tup ((List.range ws.length).map λk=>.int (h k)))),some (.im (.int (CQ ws h ks)))] [] _;have ew:W.map Al=(Bf W).map Gh:=by rw[jx];rfl
 have hW':Wsh ws.length (Bf W):=⟨by simpa using hW,λp hp=>by
  obtain⟨q,hq,rfl⟩:=mem_map.mp hp;have:=R.ins q hq;exact⟨q.1,q.2,this.1,this.2,rfl⟩⟩
 refine Ay (Dr (BZ (EK (Bt (A3 (C6 (A3 (A2 rfl (A8 (CP rfl rfl ?_)))))))))) ;refine A3 (A2 rfl (A3 (A2 rfl (A8 ⟨by simp,?_⟩))));rw[ew];have eln:(((ws.map wgI).map D.im).length:Int)=(ws.length:Int):=by simp
 rw[eln];refine(cy hW' hM hk hl).mono ?_;rintro r x rfl;refine⟨_,rfl,_,rfl,?_⟩;rw[Ck];have hll:(By M ks).length<=8:=jh (kd _ _) hl;refine⟨AR (by simp only[AK,ji];omega),?_⟩;refine BL (λk:Nat=>D.im (.int (k:Int))) (λk=>some (.im (.int ((cs k).at (CQ ws h ks))))) (λ_ ls=>∃x,ls=[some x,some (.im (Ap ws)),some (.im (.int (CQ ws h ks)))]) _ (AJ _) ?_ ?_
 .rintro k hk' ls hls;have hkn:=hk k (mem_filter.mp hk').1;refine⟨[some (.im (.int (k:Int))),some (.im (Ap ws)),some (.im (.int (CQ ws h ks)))],by rcases hls with rfl|⟨_,x,rfl⟩<;>rfl,⟨_,rfl⟩,EG ⟨rfl,?_⟩⟩;rw[j9 rfl];refine⟨_,rfl,Bt (A3 (AC (AC (A2 rfl (A2 rfl (Ae (by rw[Ih,<- EX]) (Fc hkn) (AG (Ae rfl (Q5 _ _ _ _) ?_))))))))⟩;rw[Vi hc hkn];refine A3 (A2 rfl (A8 ⟨by simp,?_⟩));rw[SJ];exact WP.eq (Pt _ _ (cW (hc k hkn).2.1)) ⟨_,rfl,rfl,rfl⟩
 rw[FR];exact⟨_,HW (by simpa using hlast),rfl⟩
open An
noncomputable abbrev enD(q:D×Nat):D:=AO [.im (.int (q.2:Int)),q.1]
noncomputable def Cq:Tv->Bool
 |.int _=>true
 |_=>false
noncomputable def DG:Tv->Int
 |.int i=>i
 |_=>0
def fL{n:Nat}(hi:Is n h t d):WF Dp [d] h λd' x=>d'=.im (.bl (Cq t))/\x=h:=by
 unfold Dp;refine BJ rfl ?_;refine Ay (JX (AU (DF (A2 rfl ⟨_,hi.isD .int,_,rfl,?_⟩))));cases t with
 |int i=>
  rw[j9 (by simp[ty])];exact Nl (AU (DF (A2 rfl ⟨_,hi.isD .bool,_,rfl,by simp[ty,Cq]⟩)))
 |bl i=>
  rw[j9 (by simp[ty])];exact Nl (AU (DF (A2 rfl ⟨_,hi.isD .bool,_,rfl,by simp[ty,Cq]⟩)))
 |non=>rw[ja (by simp[ty])];exact⟨rfl,rfl⟩
 |str x=>rw[ja (by simp[ty])];exact⟨rfl,rfl⟩
 |tup x=>rw[ja (by simp[ty])];exact⟨rfl,rfl⟩
 |lst x=>rw[ja (by simp[ty])];exact⟨rfl,rfl⟩
def Gj(h:Cq t=true):t=.int (DG t):=by
 cases t<;>simp[Cq,DG]at h ⊢
noncomputable def GE(k:Int)(t:Tv):Bool:=Cq t&&decide (k<=DG t)
def dJ{n:Nat}{k:Int}(hi:Is n h t d):WF CF [.im (.int k),d] h λd' x=>d'=.im (.bl (GE k t))/\x=h:=by
 unfold CF;refine BJ rfl ?_;refine Ay (JX (AU (BV (A3 (A2 rfl (A8 ((fL hi).mono ?_))))))) ;rintro d' x ⟨rfl,rfl⟩;refine⟨_,rfl,?_⟩;cases t with
 |int i=>
  simp only[Is]at hi;subst hi;rw[j9 (by simp[Cq])];exact AC (A2 rfl (A2 rfl (Vh ⟨by simp only[GE,Cq,DG,Bool.true_and];congr,rfl⟩)))
 |bl i=>rw[ja (by simp[Cq])];exact⟨rfl,rfl⟩
 |non=>rw[ja (by simp[Cq])];exact⟨rfl,rfl⟩
 |str x=>rw[ja (by simp[Cq])];exact⟨rfl,rfl⟩
 |tup x=>rw[ja (by simp[Cq])];exact⟨rfl,rfl⟩
 |lst x=>rw[ja (by simp[Cq])];exact⟨rfl,rfl⟩
noncomputable def DK(n:Int)(t:Tv):Bool:=GE 0 t&&decide (DG t<n)
def Ur{n:Nat}{k:Int}(hi:Is n h t d):WF Ax [.im (.int k),d] h λd' x=>d'=.im (.bl (DK k t))/\x=h:=by
 unfold Ax;refine BJ rfl ?_;refine Ay (JX (AU (BV (A3 (AG (A3 (A2 rfl (A8 ((dJ hi).mono ?_)))))))));rintro d' x ⟨rfl,hx⟩;subst x;refine⟨_,rfl,?_⟩;by_cases hf:GE 0 t=true
 .rw[j9 hf];have hn:Cq t=true:=by unfold GE at hf;rw[Bool.and_eq_true]at hf;exact hf.1
  have hi2:=hi;rw[Gj hn]at hi2;simp only[Is]at hi2;subst hi2;refine AC (A2 rfl (A2 rfl (E6 ⟨?_,rfl⟩)));rw[DK,hf,Bool.true_and]
 .rw[ja hf];exact⟨by rw[DK,Bool.eq_false_iff.mpr hf];rfl,rfl⟩
def KZ{ds:List D}{j:Nat}(h:d::r=((ds.drop j).zipIdx j).map enD):∃e,ds[j]?=some e/\d=enD (e,j)/\r=((ds.drop (j+1)).zipIdx (j+1)).map enD:=by
 cases q:ds[j]? with
 |none=>
  have:ds.length<=j:=List.getElem?_eq_none_iff.mp q;rw[km this]at h;cases h
 |some e=>
  obtain⟨lt,rfl⟩:=List.getElem?_eq_some_iff.mp q;rw[kc lt,List.zipIdx_cons,je]at h;obtain⟨rfl,rfl⟩:=List.cons.inj h;exact⟨_,rfl,rfl,rfl⟩
def VO{ds:List D}{j:Nat}(h:[]=((ds.drop j).zipIdx j).map enD):ds.length<=j:=by
 by_cases lt:j<ds.length
 .rw[kc lt,List.zipIdx_cons,je]at h;cases h
 .omega
def OK{n:Nat}{j:Nat}(h:Iss n hd ts ds)(e:ds[j]?=some d):∃t,ts[j]?=some t/\Is n hd t d:=by
 have lt:j<ts.length:=by have:=(List.getElem?_eq_some_iff.mp e).1;rw[h.len]at this;exact this
 obtain⟨d',e1,e2⟩:=h.get (List.getElem?_eq_getElem lt);rw[e]at e1;cases e1;exact⟨_,List.getElem?_eq_getElem lt,e2⟩
def dw{a b j:Nat}:Bz 2 (Af (AF a) (Af (AF b) C8)) (enD (e,j)) ls hd=some ((ls.set a (some (.im (.int (j:Int))))).set b (some e)):=by
 unfold Bz enD;rw[AN];rfl
def Jc(h:AL d=some ds):Aa hd d=some ds:=by unfold Aa;rw[h]
noncomputable abbrev NoP(path:List I)(word:Str):D:=.op "NoPaper" ["path","word"] [.im (.tup path),.im (.str word)]
def Pa{Q:Fl->Hd->Prop}(h:Q (.nx ls) hd):WS (DL AM) ls hd Q:=ZW (Ai ⟨(λd=>nofun),h⟩)
noncomputable def CW(N:Nat)(fm:Int)(t:Tv):Bool:=Cq t&&(decide (fm<DG t)&&decide (DG t<(N:Int)))
noncomputable def D2(N:Nat):Int->Nat->List Tv->Option Nat
 |_,_,[]=>none
 |fm,k,t::ts=>if CW N fm t=true then D2 N (DG t) (k+1) ts else some k
theorem KG{N:Nat}:∀{ts:List Tv} {fm:Int} {k:Nat},-1<=fm->fm<(N:Int)->D2 N fm k ts=none->∃ks:List Nat,ts=ks.map (λk:Nat=>Tv.int (k:Int))/\(∀k∈ks,k<N)/\(ks.length:Int)<=N-fm-1
 |[],fm,k,h0,h1,h=>⟨[],rfl,by simp,by simp;omega⟩
 |t::ts,fm,k,h0,h1,h=>by
  rw[D2]at h;by_cases q:CW N fm t=true
  .rw[j9 q]at h;unfold CW at q;simp only[Bool.and_eq_true,kB]at q;obtain⟨q1,q2,q3⟩:=q;obtain⟨ks,rfl,k1,k2⟩:=KG (by omega) q3 h;obtain⟨m,hm⟩:∃m:Nat,DG t=(m:Int):=⟨(DG t).toNat,by omega⟩
   have et:=Gj q1;rw[hm]at et k2 q3;refine⟨m::ks,by rw[et];rfl,λk hk=>?_,by rw[jm];omega⟩;rcases mem_cons.mp hk with rfl|hk
   .omega
   .exact k1 k hk
  .rw[ja q]at h;cases h
theorem S9{n:Nat}:∀{ks:List Nat} {ds:List D},Iss n hd (ks.map λk:Nat=>Tv.int (k:Int)) ds->ds=AK ks
 |[],ds,h=>by simp only[jy,Iss]at h;subst h;rfl
 |k::ks,ds,h=>by
  simp only[je,Iss]at h;obtain⟨d,r,rfl,h1,h2⟩:=h;simp only[Is]at h1;rw[S9 h2,h1];rfl
def Lx{n:Nat}{ks:List Nat}(h:Is n hd (.tup (ks.map λk:Nat=>Tv.int (k:Int))) d):d=.im (Ah ks):=by
 simp only[Is]at h;obtain⟨ds,rfl,h⟩:=h;rw[S9 h,OG]
structure Wd(ws:List Wg)(W:List (Nat×Nat))(rk:Nat->Nat):Prop where
 ok:Jo ws
 hW:W.length<=16
 R:Rk (λk=>k<ws.length) W rk
 hrk:∀k,k<ws.length->rk k<ws.length
noncomputable abbrev wiI(W:List (Nat×Nat)):I:=.tup (W.map Al)
def Bv(ws:List Wg)(W:List (Nat×Nat))(ks:List Nat)(v:Int):Prop:=WF Cn [.im (Ap ws),.im (wiI W),.im (Ah ks)] [] λd x=>d=.im (.int v)
def TK{w:Nat}{F:List D->Hd->Option (D×Hd)}{rest:Hd}{QE:D->Hd->Prop}(e:m ls hd=some (ds,pre++rest))(hw:pre.length=w)(hc:Aj w ds=true)(hp:pre.all (clO w)=true)
 (hF:WF F ds pre λd x=>∃k es pre' g,d=.mu k/\w<=k/\x=pre'++g/\pre'.length=w/\pre'.all (clO w)=true/\x[k]?=some (.lst es)/\Aj w es=true/\QE (.mu (w+rest.length)) (pre'++rest++[.lst es])):WE (A7 w F m) ls hd QE:=by
 subst hw;obtain⟨d,x,e2,k,es,pre',g,rfl,hk,rfl,lp,cp,e3,c3,q⟩:=hF;refine⟨_,_,?_,q⟩;have t1:(pre++rest).take pre.length=pre:=by simp
 have t2:(pre'++g).take pre.length=pre':=by rw[<- lp];simp
 have t3:¬ k<pre.length:=by omega
 simp only[A7,e,bind_some,t1,hc,hp,e2,fin,t2,cp,ja t3,e3,c3,jj];simp
def QV{w:Nat}{F:List D->Hd->Option (D×Hd)}{QE:D->Hd->Prop}(h:WA m ls hd λds x=>∃pre rest,x=pre++rest/\pre.length=w/\Aj w ds=true/\pre.all (clO w)=true/\WF F ds pre λd x=>∃k es pre' g,d=.mu k/\w<=k/\x=pre'++g/\pre'.length=w/\pre'.all (clO w)=true/\x[k]?=some (.lst es)/\Aj w es=true/\QE (.mu (w+rest.length)) (pre'++rest++[.lst es])):WE (A7 w F m) ls hd QE:=by
 obtain⟨ds,x,e,pre,rest,rfl,hw,hc,hp,hF⟩:=h;exact TK e hw hc hp hF
def Zt(k:Nat)(l:List Nat):DR k (l.map D.mu)=l.map λi=>D.mu (i+k):=by
 induction l with
 |nil=>rfl
 |cons x r ih=>simp[DR,shD,ih]
def Zr(k:Nat)(l:List Nat):DR k (AK l)=AK l:=by
 induction l with
 |nil=>rfl
 |cons x r ih=>simp[AK]at ih ⊢;simp[DR,shD,ih]
def Yz{M:Nat->Nat->Bool}{rk:Nat->Nat}(hne:ks≠[])(h:∀u∈ks,∀v∈ks,M u v=true->rk u<rk v):By M ks≠[]:=by
 have mx:∀ks:List Nat,ks≠[]->∃u∈ks,∀v∈ks,rk v<=rk u:=by
  intro ks
  induction ks with
  |nil=>intro h;exact absurd rfl h
  |cons x r ih=>
   intro _;by_cases hr:r=[]
   .subst hr;exact⟨x,by simp,by simp⟩
   .obtain⟨u,hu,hm⟩:=ih hr;by_cases q:rk u<=rk x
    .refine⟨x,by simp,λv hv=>?_⟩;rcases mem_cons.mp hv with rfl|hv
     .exact jc _
     .exact jh (hm v hv) q
    .refine⟨u,by simp[hu],λv hv=>?_⟩;rcases mem_cons.mp hv with rfl|hv
     .omega
     .exact hm v hv
 obtain⟨u,hu,hm⟩:=mx ks hne;have:u∈By M ks:=by
  refine mem_filter.mpr ⟨hu,?_⟩;rw[Bool.not_eq_true',List.any_eq_false];intro v hv q;have:=h u hu v hv q;have:=hm v hv;omega
 intro e;rw[e]at this;simp at this
theorem Lm(t:Int):∀{rows:List (Int×Int)} {x:Int},(0<=x/\x<=99)->(∀q∈rows,(-2000<=q.1/\q.1<=2000)/\0<=q.2/\q.2<=99)->0<=BQ t rows x/\BQ t rows x<=99
 |[],x,h,_=>h
 |(b,a)::r,x,h,hr=>by
   unfold BQ;split
   .exact h
   .exact Lm t (hr (b,a) (by simp)).2 λq hq=>hr q (by simp[hq])
def fh(h:Bb 2000 c){t:Int}(h0:0<=t)(h1:t<=1000):-100000<=c.at t/\c.at t<=100000:=by
 cases c with
 |late d=>simp only[Bb,Cost.at]at *;omega
 |tardy d w=>
  simp only[Bb,Cost.at]at *;split
  .omega
  .obtain⟨⟨a1,a2⟩,b1,b2⟩:=h;have p1:0<=w*(t-d):=Int.mul_nonneg b1 (by omega);have p2:w*(t-d)<=9*(t-d):=Int.mul_le_mul_of_nonneg_right b2 (by omega);omega
 |miss d w=>simp only[Bb,Cost.at]at *;split<;>omega
 |ends w=>
  simp only[Bb,Cost.at]at *;have p1:0<=w*t:=Int.mul_nonneg h.1 h0;have p2:w*t<=9*t:=Int.mul_le_mul_of_nonneg_right h.2 h0;omega
 |steps rows=>
  have:=Lm t (rows:=rows) (x:=0) ⟨by omega,by omega⟩ h;simp only[Cost.at];omega
theorem Qf(h:Jo ws):∀{ks:List Nat},(∀k∈ks,k<ws.length)->0<=(ks.map (Au ws)).sum/\(ks.map (Au ws)).sum<=20*ks.length
 |[],_=>by simp
 |k::r,hk=>by
  have ih:=Qf h (ks:=r) λk hk'=>hk k (by simp[hk']);have hkn:=hk k (by simp);have:=(h.2.2 ws[k] (List.getElem_mem hkn)).1;rw[QQ hkn]at this;simp only[je,List.sum_cons,jm];omega
def NB(h:Jo ws){k:Nat}(hk:k<ws.length):0<=BU ws k/\BU ws k<=60:=by
 have:=(h.2.2 ws[k] (List.getElem_mem hk)).2.1;simpa [BU,hk]using this
def cx(h:Jo ws){k:Nat}(hk:k<ws.length):1<=Au ws k/\Au ws k<=20:=by
 have:=(h.2.2 ws[k] (List.getElem_mem hk)).1;simpa [Au,hk]using this
def dq{cs:Nat->Cost}{h:Nat->Int}{M:Nat->Nat->Bool}(hok:Jo ws)(hc:NQ ws cs)(hh:∀k,k<ws.length->0<=h k/\h k<=300)(hne:ks≠[])(hk:∀k∈ks,k<ws.length)(hl:ks.length<=8)(hlast:By M ks≠[]):-1000000<=bnd ws cs h M ks/\bnd ws cs h M ks<=1000000:=by
 have m1:=(Eh (xs:=ks.map h) (by simpa using hne)).1;obtain⟨k0,hk0,e0⟩:=mem_map.mp m1;have b0:=hh k0 (hk k0 hk0);have s0:=Qf hok hk;have en:0<=CQ ws h ks/\CQ ws h ks<=1000:=by unfold CQ;omega
 have m2:=(Eh (xs:=(By M ks).map λk=>(cs k).at (CQ ws h ks)) (by simpa using hlast)).1;obtain⟨k1,hk1,e1⟩:=mem_map.mp m2;have:=fh (hc k1 (hk k1 (mem_filter.mp hk1).1)).2.2 en.1 en.2;unfold bnd;omega
def TB:FX [] []=some (.mu 0,[W5]):=by simp[FX,mkF]
def fe(H0:Hd)(n:Nat)(f:Nat->List Nat):Bh (H0++(RH n f).map (shO H0.length)++[.lst (intD hs)]) H0.length (H0++(RH n f).map (shO H0.length)).length n f hs:=by
 have g:∀p o,(RH n f)[p]?=some o->(H0++(RH n f).map (shO H0.length)++[.lst (intD hs)])[p+H0.length]?=some (shO H0.length o):=by
  intro p o e;refine dy ?_ _;rw[List.getElem?_append_right (by omega),Nat.add_sub_cancel,List.getElem?_map,e];rfl
 have t:=R9 n f [];rw[ju]at t;refine⟨?_,λi hi=>?_,by simp⟩
 .rw[g n _ t];show some (MO.lst (DR _ _))=_;rw[Zt]
 .have r:=Gc (f:=f) hi [];rw[ju]at r;rw[g i _ r];show some (MO.lst (DR _ _))=_;rw[Zr]
def WK{rk:Nat->Nat}(w:Wd ws W rk)(hne:ks≠[])(hk:∀k∈ks,k<ws.length)(hl:ks.length<=8){i j t:Nat}(e0:ls[i]?=some (some (.im (Ap ws))))(e1:ls[j]?=some (some (.im (wiI W))))(e2:ls[t]?=some (some (.im (Ah ks))))(en:∀h,mn ls h=some (.im (.int (ws.length:Int)),h)){QE:D->Hd->Prop}(q:∀v g,Bv ws W ks v->-1000000<=v->v<=1000000->QE (.im (.int v)) (hd++g)):WE (AW Dd (A1 (A0 i) (A1 (Cs Dc (A1 mn (A1 (A0 j) A4))) (A1 (A7 0 D6 (A1 (A0 i) (A1 (A0 j) A4))) (A1 (A0 t) A4))))) ls hd QE:=by
 have hok:=w.ok;have hn:=hok.2.1;refine BV (A3 (A2 e0 (A3 (TJ (A3 (WP.eq (en _) (A3 (A2 e1 (A8 ⟨by simp,(XM hn w.hW w.R w.hrk).mono ?_⟩)))))))));rintro d3 x3 ⟨f,rfl,rfl,hf,lf⟩;refine A3 (QV (A3 (A2 e0 (A3 (A2 e1 (A8 ⟨[],hd++(RH ws.length f).map (shO hd.length),rfl,rfl,by simp,rfl,?_⟩))))));refine(V3 (ws:=ws) (W:=W) (rk:=rk) (gd:=[]) hn w.hW w.R w.hrk rfl (by simp) (by simp) (λr=>by rw[Ih,<- EX]) (λr i ls e=>by rw[OJ (is:=W.map Al) (hd':=[]++r) (by simp[e]),W3]) (λr=>AJ _)).mono ?_;rintro d2 x2 ⟨hs,L2,rest2,rfl,hL2,ex2,e4,l2,H2⟩;obtain⟨cs,hcs⟩:=fZ hok;have hh:∀k,k<ws.length->0<=hs.getD k 0/\hs.getD k 0<=300:=by
  intro k hk;have lo:=H2.lo k hk;have up:=H2.bound w.R (B:=60) (m:=20) (λk hk=>(NB hok hk).2) (λk hk=>(cx hok hk).2) (by decide) _ k rfl hk;have:=NB hok hk;have:=w.hrk k hk
  try dsimp only at lo up this
  omega
 have hM:Mt ws.length (Bf W) (Mf f):=λi j hi hj=>by
  rw[<- hf i j hi];simp[Mf]
 have hlast:By (Mf f) ks≠[]:=Yz (rk:=rk) hne λu hu v hv q=>by
  have rc:Rc (Bf W) u v:=(hM u v (hk u hu) (hk v hv)).mp q;obtain⟨_,j,ej,_,l,_⟩:=ML w.R rc u rfl;have:j=v:=by omega
  subst this;exact l
 have bb:=dq hok hcs hh hne hk hl hlast;have bv:Bv ws W ks (bnd ws cs (λk=>hs.getD k 0) (Mf f) ks):=Q4 hn (λk hk=>(NB hok hk).1) w.hW w.R w.hrk H2 hM hcs hne hk hl hlast;refine⟨L2,_,[],rest2,rfl,hL2,ex2,rfl,rfl,e4,Kc _ _,A3 (A2 e2 (A8 ?_))⟩;have BB:=fe hd (hs:=hs) ws.length f;have key:=V6 BB hcs l2 hne hk hl hlast;have ha:(0+(hd++(RH ws.length f).map (shO hd.length)).length)=(hd++(RH ws.length f).map (shO hd.length)).length:=zero_add _;rw[ha,jT];refine key.mono ?_;rintro d6 x6 ⟨rfl,g6,rfl⟩;rw[jC,jC];exact q _ _ bv (by omega) (by omega)
abbrev Th(t:Tv):Prop:=Bo (10^202) 8000 12 100 t
def eqv_nil(ts:List Tv):PyData.eqv (pyT (.tup ts)) (I.py (.tup []))=ts.isEmpty:=by
 cases ts<;>simp[pyT,Ev,I.py,I.pys,PyData.eqv,PyData.eqvAll]
noncomputable abbrev itv(ks:List Nat):List Tv:=ks.map λk:Nat=>Tv.int (k:Int)
inductive Rs(ws:List Wg)(W:List (Nat×Nat))(num:Int):Tv->I->Prop
 |shape (t:Tv) (h:∀es,t=.tup es->es=[]):Rs ws W num t (.tup [.str "no",.tup [],.str "shape"])
 |entry (es:List Tv) (k:Nat) (hne:es≠[]) (hs:D2 ws.length (-1) 0 es=some k):Rs ws W num (.tup es) (.tup [.str "no",.tup [.int (k:Int)],.str "entry"])
 |less (ks:List Nat) (v:Int) (hne:ks≠[]) (hs:D2 ws.length (-1) 0 (itv ks)=none) (hb:Bv ws W ks v) (hv:v<num):Rs ws W num (.tup (itv ks)) (.tup [.str "no",.tup [],.str "less"])
 |yes (ks:List Nat) (v:Int) (hne:ks≠[]) (hs:D2 ws.length (-1) 0 (itv ks)=none) (hb:Bv ws W ks v) (hv:¬ v<num):Rs ws W num (.tup (itv ks)) (.tup [.str "yes",.bl true])
structure Sv(N:Nat)(es:List Tv)(j:Nat)(fm:Int):Prop where
 lo:-1<=fm
 hi:fm<(N:Int)
 eq:D2 N (-1) 0 es=D2 N fm j (es.drop j)
 pr:(j=0/\fm=-1)∨(0<j/\0<=fm/\es[j-1]?=some (.int fm))
def Sv.start{N:Nat}(es:List Tv):Sv N es 0 (-1):=⟨by decide,by omega,rfl,.inl ⟨rfl,rfl⟩⟩
def Sv.next{N j:Nat}{fm:Int}(s:Sv N es j fm)(e:es[j]?=some t)(q:CW N fm t=true):Sv N es (j+1) (DG t):=by
 obtain⟨hj,e'⟩:=List.getElem?_eq_some_iff.mp e;have q':=q;unfold CW at q';simp only[Bool.and_eq_true,kB]at q';have:=s.lo;refine⟨by omega,q'.2.2,?_,.inr ⟨by omega,by omega,?_⟩⟩
 .rw[s.eq,kc hj,e',D2,j9 q]
 .rw[Nat.add_sub_cancel,e,<- Gj q'.1]
def Sv.bad{N j:Nat}{fm:Int}(s:Sv N es j fm)(e:es[j]?=some t)(q:¬ CW N fm t=true):D2 N (-1) 0 es=some j:=by
 obtain⟨hj,e'⟩:=List.getElem?_eq_some_iff.mp e;rw[s.eq,kc hj,e',D2,ja q]
def Sv.done{N j:Nat}{fm:Int}(s:Sv N es j fm)(h:es.length<=j):D2 N (-1) 0 es=none:=by
 rw[s.eq,km h];rfl
def Zq{n:Nat}(h:Is n hd t d)(bt:Th t)(hi:ls[3]?=some (some d)){QT:Bool->Hd->Prop}(q1:(∀es,t=.tup es->es=[])->QT true hd)(q2:∀es,t=.tup es->es≠[]->QT false hd):WT (mOr (CN (BD (C1 .tuple (A0 3)))) (A6 (mOp (Gz false) (A0 3) (Ad A4)))) ls hd QT:=by
 refine Fa (EH (CS (DF (A2 hi ⟨_,h.isD .tuple,_,rfl,?_⟩))));by_cases ht:∃es,t=.tup es
 .obtain⟨es,rfl⟩:=ht;rw[ja (by simp[ty])];refine AU (AC (A2 hi (B1 (A8 ⟨Dy,?_⟩))));rw[Ry];have bp:=bt.dp;refine Za (h.pyN (by omega)) (Dt 30 (.tup [])) ⟨(JF (by decide) bt.gd).lay,by simp[I.py,I.pys,PyData.canLay0,PyData.canLayAll0],jh (Nat.min_le_right _ _) (by simp[I.py,I.pys,PyData.depth,PyData.depthAll])⟩ ⟨_,rfl,?_⟩;rw[eqv_nil];cases es with
  |nil=>exact q1 λes e=>by cases e;rfl
  |cons a r=>exact q2 _ rfl (by simp)
 .have:ty .tuple t=false:=by
   cases t with
   |tup ts=>exact absurd ⟨ts,rfl⟩ ht
   |_=>simp[ty]
  rw[this,j9 (by simp)];exact q1 λes e=>absurd ⟨es,e⟩ ht
def En(ws:List Wg):(((ws.map wgI).map D.im).length:Int)=(ws.length:Int):=by simp
def V8{rk:Nat->Nat}(w:Wd ws W rk){num:Int}{n:Nat}(h:Is n hd t d)(bt:Th t):WF Eb [.im (Ap ws),.im (wiI W),.im (.int num),d] hd λe x=>∃res,e=.im res/\Rs ws W num t res/\∃g,x=hd++g:=by
 have hn:=w.ok.2.1;unfold Eb;refine BJ rfl ?_;have shp:(∀es,t=.tup es->es=[])->∀{ls:Ls},WS (AI (Ad (A1 (mC (.str "no")) (A1 (Ad A4) (A1 (mC (.str "shape")) A4))))) ls hd λf x=>∃res,f=.rt (.im res)/\Rs ws W num t res/\∃g,x=hd++g:=λq ls=>Ay (B1 (A3 (AG (A3 (B1 (A8 ⟨Dy,A3 (AG (A8 ⟨FS,_,rfl,.shape t q,[],by simp⟩))⟩))))));refine AH (Ar (Fa (EH (CS (DF (A2 rfl ⟨_,h.isD .tuple,_,rfl,?_⟩))))));by_cases ht:∃es,t=.tup es
 case neg=>
  have:ty .tuple t=false:=by
   cases t with
   |tup ts=>exact absurd ⟨ts,rfl⟩ ht
   |_=>simp[ty]
  rw[this,j9 (by simp)];refine⟨λ_=>(shp λes e=>absurd ⟨es,e⟩ ht).mono ?_,λh=>by cases h⟩;rintro f x ⟨res,rfl,q⟩;exact DQ ⟨res,rfl,q⟩
 obtain⟨es,rfl⟩:=ht;obtain⟨ds,tv,is⟩:=h.view;have hl:=is.len;have tl:=bt.tl;simp only[An.tl]at tl;rw[ja (by simp[ty])];refine AU (AC (C6 (A3 (A2 rfl (A8 (CP (ds:=ds) (Jc tv) rfl (AG (F9 ⟨_,rfl,λh0=>?_,λh0=>Ai (AA ?_)⟩))))))))
 .have:es=[]:=by
   have:ds.length=0:=by simpa using h0
   exact List.length_eq_zero_iff.mp (by omega)
  refine(shp λes' e=>by cases e;exact this).mono ?_;rintro f x ⟨res,rfl,q⟩;exact DQ ⟨res,rfl,q⟩
 have hne:es≠[]:=by
  intro z;subst z;simp at hl;simp[hl]at h0
 refine AH (AY (FC (AG ⟨_,rfl,AA ?_⟩)));refine AH (DC (GW (A3 (C6 (A3 (A2 rfl (A8 (CP (ds:=ds) (Jc tv) rfl (A8 ⟨(ds.length:Int),rfl,D7 (by omega) (by omega),?_⟩)))))))));refine B9 (λr ls x=>∃(j:Nat) (fm:Int) (z5 z6:Option D),j<=ds.length/\r=AT (j:Int) (ds.length-j)/\Sv ws.length es j fm/\ls=[some (.im (Ap ws)),some (.im (wiI W)),some (.im (.int num)),some d,some (.im (.int fm)),z5,z6,none]/\x=hd) ⟨0,-1,none,none,by omega,by simp,.start es,rfl,rfl⟩ ?_ ?_
 .rintro e r ls x ⟨j,fm,z5,z6,hj,er,sv,rfl,hx⟩;subst x;cases q:ds.length-j with
  |zero=>rw[q]at er;cases er
  |succ m=>
   rw[q,AT]at er;obtain⟨rfl,rfl⟩:=List.cons.inj er;have hj2:j<es.length:=by omega
   have et:es[j]?=some es[j]:=List.getElem?_eq_getElem hj2;obtain⟨dj,ed,ij⟩:=is.get et;refine⟨_,rfl,AH (AY (AC (A2 rfl (A2 rfl (Ae (ds:=ds) (Jc tv) (EZ rfl ed) (AA ?_))))))⟩;change WS _ [some (.im (Ap ws)),some (.im (wiI W)),some (.im (.int num)),some d,some (.im (.int fm)),some (.im (.int (j:Int))),some dj,none] hd _;generalize es[j]=tj at et ij;have tst:∀{QT:Bool->Hd->Prop},QT (!CW ws.length fm tj) hd->WT (mOr (CN (BD (C1 .int (A0 6)))) (mOr (BD (C1 .bool (A0 6))) (CN (A6 (Cd gLt gLt (A0 4) (A0 6) (mCB (f1 true BM) (A1 (A0 0) A4))))))) [some (.im (Ap ws)),some (.im (wiI W)),some (.im (.int num)),some d,some (.im (.int fm)),some (.im (.int (j:Int))),some dj,none] hd QT:=by
    intro QT q;refine Fa (EH (CS (DF (A2 rfl ⟨_,ij.isD .int,_,rfl,?_⟩))));cases tj with
    |int i=>
     simp only[Is]at ij;subst ij;rw[ja (by simp[ty])];refine Fa (CS (DF (A2 rfl ⟨_,rfl,_,rfl,?_⟩)));rw[ja (by simp)];have oe:CW ws.length fm (.int i)=(decide (fm<i)&&decide (i<(ws.length:Int))):=rfl;rw[oe]at q;refine EH (AU (TH (A2 rfl (A2 rfl (E6 ⟨_,rfl,λh1=>?_,λh1=>?_⟩)))))
     .refine C6 (A3 (A2 rfl (A8 (CP (ds:=(ws.map wgI).map D.im) rfl rfl (E6 ⟨_,rfl,?_⟩)))));rw[En];rw[h1,Bool.true_and]at q;exact q
     .refine⟨_,rfl,?_⟩;rw[h1,Bool.false_and]at q;exact q
    |bl b=>
     rw[ja (by simp[ty])];refine Fa (CS (DF (A2 rfl ⟨_,ij.isD .bool,_,rfl,?_⟩)));rw[j9 (by simp[ty])];exact q
    |non=>rw[j9 (by simp[ty])];exact q
    |str x=>rw[j9 (by simp[ty])];exact q
    |tup x=>rw[j9 (by simp[ty])];exact q
    |lst x=>rw[j9 (by simp[ty])];exact q
   refine AH (Ar (tst ⟨λhq=>?_,λhq=>Ai (AA ?_)⟩))
   .have hb:¬ CW ws.length fm tj=true:=by simpa using hq
    refine Ay (B1 (A3 (AG (A3 (B1 (A3 (A2 rfl (A8 ⟨Cg,A3 (AG (A8 ⟨FS,?_⟩))⟩))))))));exact⟨_,rfl,.entry es j hne (sv.bad et hb),[],by simp⟩
   .have hb:CW ws.length fm tj=true:=by simpa using hq
    have nm:Cq tj=true:=by unfold CW at hb;rw[Bool.and_eq_true]at hb;exact hb.1
    have ij2:=ij;rw[Gj nm]at ij2;simp only[Is]at ij2;subst ij2;exact AY (A2 rfl ⟨AJ _,j+1,DG tj,_,_,by omega,by rw[show ds.length-(j+1)=m by omega];rfl,sv.next et hb,rfl,rfl⟩)
 rintro ls x ⟨j,fm,z5,z6,hj,er,sv,rfl,hx⟩;subst x;have hj2:es.length<=j:=by
  cases q:ds.length-j with
  |zero=>omega
  |succ m=>rw[q,AT]at er;cases er
 have sc:=sv.done hj2;obtain⟨ks,rfl,k1,k2⟩:=KG (by decide) (by omega) sc;have ed:=Lx h;subst ed;have kne:ks≠[]:=by intro z;subst z;exact hne rfl
 refine AA (AH (AY (WK w (ks:=ks) kne k1 (by omega) (i:=0) (j:=1) (t:=3) (hd:=hd) rfl rfl rfl (λh'=>?_) λv g bv _ _=>AA ?_)))
 .have:WE (mCB (f1 true BM) (A1 (A0 0) A4)) [some (.im (Ap ws)),some (.im (wiI W)),some (.im (.int num)),some (.im (Ah ks)),some (.im (.int fm)),z5,z6,none] h' λe x=>e=.im (.int (ws.length:Int))/\x=h':=C6 (A3 (A2 rfl (A8 (CP (ds:=(ws.map wgI).map D.im) rfl rfl ⟨by rw[En],rfl⟩))));obtain⟨_,_,q,rfl,rfl⟩:=this;exact q
 refine Ay (LQ (AU (AC (A2 rfl (A2 rfl (E6 ⟨_,rfl,λhv=>?_,λhv=>?_⟩))))))
 .exact B1 (A3 (AG (A3 (B1 (A8 ⟨Dy,A3 (AG (A8 ⟨FS,_,rfl,.less ks v kne sc bv (by simpa using hv),g,rfl⟩))⟩)))))
 .exact B1 (A3 (AG (A3 (AG (A8 ⟨JG,_,rfl,.yes ks v kne sc bv (by simpa using hv),g,rfl⟩)))))
def Uk{n:Nat}(ws:List Wg)(ij:Is n hd t dj)(e0:ls[0]?=some (some (.im (Ap ws))))(e5:ls[5]?=some (some dj)){QT:Bool->Hd->Prop}(q:QT (!DK (ws.length:Int) t) hd):WT (CN (BD (AW Ax (A1 (mCB (f1 true BM) (A1 (A0 0) A4)) (A1 (A0 5) A4))))) ls hd QT:=by
 refine EH (CS (BV (A3 (C6 (A3 (A2 e0 (A8 (CP (ds:=(ws.map wgI).map D.im) rfl rfl (A3 (A2 e5 (A8 ?_)))))))))));rw[En];refine(Ur ij).mono ?_;rintro d' x ⟨rfl,rfl⟩;exact⟨_,rfl,q⟩
def Zi{n:Nat}{j N:Nat}{fm i:Int}(sv:Sv N es j fm)(tv:AL d=some ds)(is:Iss n hd es ds)(e3:ls[3]?=some (some d))(e4:ls[4]?=some (some (.im (.int (j:Int)))))(e5:ls[5]?=some (some (.im (.int i))))(hi:0<=i){QT:Bool->Hd->Prop}(q:QT (!decide (fm<i)) hd):WT (Ba (A6 (mOp gGt (A0 4) (mC (.int 0)))) (A6 (mOp gLe (A0 5) (mOp gIx (A0 3) (mOp BS (A0 4) (mC (.int 1))))))) ls hd QT:=by
 refine GT (AU (AC (A2 e4 (AG (Oi ⟨_,rfl,?_⟩)))));rcases sv.pr with⟨rfl,rfl⟩|⟨j0,f0,ep⟩
 .rw[ja (by simp)];rw[show decide ((-1:Int)<i)=true from jH (by omega)]at q;exact q
 .rw[j9 (by simp;omega)];obtain⟨dp,edp,idp⟩:=is.get ep;simp only[Is]at idp;subst idp;refine AU (AC (A2 e5 (AC (A2 e3 (AC (A2 e4 (AG (F8 (Ae (ds:=ds) (Jc tv) (EZ (k:=j-1) (by omega) edp) (Oh ⟨_,rfl,?_⟩))))))))));rw[show decide (i<=fm)=!decide (fm<i) by by_cases z:fm<i<;>simp[z]<;>omega];exact q
noncomputable abbrev Ll(ws:List Wg)(W:List (Nat×Nat))(num:Int)(d:D)(z4 z5:Option D):Ls:=[some (.im (Ap ws)),some (.im (wiI W)),some (.im (.int num)),some d,z4,z5]
def WC{N:Nat}{fm:Int}(h:DK (N:Int) t=true):∃i,t=.int i/\0<=i/\i<(N:Int)/\CW N fm t=decide (fm<i):=by
 unfold DK GE at h;simp only[Bool.and_eq_true,kB]at h;refine⟨DG t,Gj h.1.1,h.1.2,h.2,?_⟩;unfold CW;rw[h.1.1,Bool.true_and,jH h.2,Bool.and_true]
def W7{N:Nat}{fm:Int}(hf:-1<=fm)(h:CW N fm t=true):DK (N:Int) t=true:=by
 unfold CW at h;simp only[Bool.and_eq_true,kB]at h;unfold DK GE;rw[h.1,jH h.2.2,jH (show 0<=DG t by omega)];rfl
def cw{ws:List Wg}{num:Int}{n:Nat}{v:Int}(hn:ws.length<=8)(h:Is n hd (.tup (itv ks)) d)(bt:Th (.tup (itv ks)))(hne:ks≠[])(hs:D2 ws.length (-1) 0 (itv ks)=none)(hb:Bv ws W ks v)(hv:¬ v<num):WF Bs [.im (Ap ws),.im (wiI W),.im (.int num),d] hd λe x=>e=.im (.bl true)/\x=hd:=by
 obtain⟨ds,tv,is⟩:=h.view;have hl:=is.len;unfold Bs;refine BJ rfl ?_;refine AH (Ar (Zq h bt rfl (λq=>?_) λes e he=>⟨(λh=>by cases h),λ_=>Ai (AA ?_)⟩))
 .have:=q _ rfl;simp at this;exact absurd this hne
 refine AH (DC (Nk (EK (A2 rfl ⟨ds,tv,?_⟩))));change WP (Ao _ _ _ (((ds.drop 0).zipIdx 0).map enD) (Ll ws W num d none none) hd) _;refine B9 (λr ls x=>∃(j:Nat) (fm:Int) (z4 z5:Option D),r=((ds.drop j).zipIdx j).map enD/\Sv ws.length (itv ks) j fm/\ls=Ll ws W num d z4 z5/\x=hd) ⟨0,-1,none,none,rfl,.start _,rfl,rfl⟩ ?_ ?_
 .rintro e r ls x ⟨j,fm,z4,z5,er,sv,rfl,hx⟩;subst x;obtain⟨dj,ej,rfl,rfl⟩:=KZ er;obtain⟨tj,et,ij⟩:=OK is ej;have ok:CW ws.length fm tj=true:=Classical.byContradiction λz=>by rw[sv.bad et z]at hs;cases hs
  have ow:=W7 sv.lo ok;obtain⟨i,rfl,i0,i1,oe⟩:=WC (fm:=fm) ow;simp only[Is]at ij;subst ij;refine⟨Ll ws W num d (some (.im (.int (j:Int)))) (some (.im (.int i))),dw,?_⟩;refine AH (Ar (Uk ws (n:=n) (t:=.int i) (by simp only[Is]) rfl rfl ⟨(λh=>by rw[ow]at h;cases h),λ_=>Ai (AA ?_)⟩));refine Ar (Zi sv tv is rfl rfl rfl i0 ⟨(λh=>by rw[<- oe,ok]at h;cases h),λ_=>Ai ⟨AJ _,j+1,_,_,_,rfl,sv.next et ok,rfl,rfl⟩⟩)
 rintro ls x ⟨j,fm,z4,z5,er,sv,rfl,hx⟩;subst x;have ed:=Lx h;subst ed;refine AA (AH (Ar (AU (AC (Bt (A3 (A2 rfl (A3 (A2 rfl (A3 (A2 rfl (A8 ⟨by simp,hb.mono ?_⟩))))))))))));rintro _ _ rfl;exact⟨_,rfl,A2 rfl (E6 ⟨_,rfl,(λh=>absurd (jV h) hv),λ_=>Ai (AA (Ay (AG ⟨rfl,rfl⟩)))⟩)⟩
def cu{ws:List Wg}{num:Int}{n:Nat}(hn:ws.length<=8)(h:Is n hd t d)(bt:Th t)(r:Rs ws W num t (.tup [.str "no",.tup p,.str word])):WF Cm [.im (Ap ws),.im (wiI W),.im (.int num),d] hd λe x=>x=hd/\e=NoP p word:=by
 unfold Cm;refine Zf rfl ?_;change WS _ (Ll ws W num d none none) hd _;refine AH (Ar (Zq h bt rfl (λq=>⟨λ_=>?_,λh=>by cases h⟩) λes e he=>⟨(λh=>by cases h),λ_=>Pa (AA ?_)⟩))
 .cases r with
  |shape _ _=>exact IC (A3 (B1 (A8 ⟨Dy,A3 (AG (A8 ⟨rfl,_,rfl,rfl,rfl⟩))⟩)))
  |entry es k hne hs=>exact absurd (q _ rfl) hne
  |less ks v hne hs hb hv=>
   have:=q _ rfl;simp at this;exact absurd this hne
 subst e;obtain⟨ds,tv,is⟩:=h.view;have hl:=is.len;refine AH (DC (Nk (EK (A2 rfl ⟨ds,tv,?_⟩))));change WP (Ao _ _ _ (((ds.drop 0).zipIdx 0).map enD) (Ll ws W num d none none) hd) _;refine B9 (λr ls x=>∃(j:Nat) (fm:Int) (z4 z5:Option D),r=((ds.drop j).zipIdx j).map enD/\Sv ws.length es j fm/\ls=Ll ws W num d z4 z5/\x=hd) ⟨0,-1,none,none,rfl,.start _,rfl,rfl⟩ ?_ ?_
 .rintro e r' ls x ⟨j,fm,z4,z5,er,sv,rfl,hx⟩;subst x;obtain⟨dj,ej,rfl,rfl⟩:=KZ er;obtain⟨tj,et,ij⟩:=OK is ej;refine⟨Ll ws W num d (some (.im (.int (j:Int)))) (some dj),dw,?_⟩;have rs:¬ CW ws.length fm tj=true->WS (Cb "NoPaper" ["path","word"] (A1 (Ad (A1 (A0 4) A4)) (A1 (mC (.str "entry")) A4))) (Ll ws W num d (some (.im (.int (j:Int)))) (some dj)) hd λf x=>∃e,f=.rt e/\x=hd/\e=NoP p word:=λnb=>by
   have sb:=sv.bad et nb;cases r with
   |shape _ q=>exact absurd (q _ rfl) he
   |entry _ k hne hs=>
    rw[sb]at hs;cases hs;exact IC (A3 (B1 (A3 (A2 rfl (A8 ⟨Cg,A3 (AG (A8 ⟨rfl,_,rfl,rfl,rfl⟩))⟩)))))
   |less ks v hne hs hb hv=>rw[sb]at hs;cases hs
  by_cases ow:DK (ws.length:Int) tj=true
  .obtain⟨i,rfl,i0,i1,oe⟩:=WC (fm:=fm) ow;simp only[Is]at ij;subst ij;refine AH (Ar (Uk ws (n:=n) (t:=.int i) (by simp only[Is]) rfl rfl ⟨(λh=>by rw[ow]at h;cases h),λ_=>Pa (AA ?_)⟩));refine Ar (Zi sv tv is rfl rfl rfl i0 ⟨λh=>?_,λh=>Pa ⟨AJ _,j+1,_,_,_,rfl,sv.next et (by rw[oe];simpa using h),rfl,rfl⟩⟩);refine(rs (by rw[oe];simpa using h)).mono ?_;rintro f x ⟨e,rfl,hx,he⟩;exact⟨e,rfl,hx,he⟩
  .refine AH (Ar (Uk ws ij rfl rfl ⟨λ_=>?_,λh=>absurd (by simpa using h) ow⟩));refine(rs λz=>ow (W7 sv.lo z)).mono ?_;rintro f x ⟨e,rfl,hx,he⟩;exact DQ ⟨e,rfl,hx,he⟩
 rintro ls x ⟨j,fm,z4,z5,er,sv,rfl,hx⟩;subst x;have sc:=sv.done (by have:=VO er;omega);cases r with
 |shape _ q=>exact absurd (q _ rfl) he
 |entry _ k hne hs=>rw[sc]at hs;cases hs
 |less ks v hne hs hb hv=>
  have ed:=Lx h;subst ed;refine AA (AH (Ar (AU (AC (Bt (A3 (A2 rfl (A3 (A2 rfl (A3 (A2 rfl (A8 ⟨by simp,hb.mono ?_⟩))))))))))));rintro _ _ rfl;refine⟨_,rfl,A2 rfl (E6 ⟨_,rfl,(λ_=>?_),λh=>absurd hv (of_decide_eq_false h)⟩)⟩;exact IC (A3 (B1 (A8 ⟨Dy,A3 (AG (A8 ⟨rfl,_,rfl,rfl,rfl⟩))⟩)))
def Zm{ws:List Wg}{num:Int}{n:Nat}(hn:ws.length<=8)(h:Is n hd t d)(bt:Th t)(r:Rs ws W num t res):WF HI [.im (Ap ws),.im (wiI W),.im (.int num),d] hd λe x=>e=.im res/\x=hd:=by
 unfold HI;refine BJ rfl ?_;refine AH (AY (B1 (A3 (AG (A3 (AG (A8 ⟨JG,AA ?_⟩)))))));have no:∀{p:List I} {word:Str},Rs ws W num t (.tup [.str "no",.tup p,.str word])->WS (A5 (Di ["NoPaper"] (some 5) (AB 4 (Ad (A1 (mC (.str "yes")) (A1 (AW Bs (A1 (A0 0) (A1 (A0 1) (A1 (A0 2) (A1 (A0 3) A4))))) A4))))
  (Ew (AB 4 (Ad (A1 (mC (.str "yes")) (A1 (AW Bs (A1 (A0 0) (A1 (A0 1) (A1 (A0 2) (A1 (A0 3) A4))))) A4)))) (AI (Fu (mC (.str "yes")) (AW Cm (A1 (A0 0) (A1 (A0 1) (A1 (A0 2) (A1 (A0 3) A4))))))))
  (A5 (AB 6 (Cc [("NoPaper",false)] (A0 5)))
  (AS (Ba (BD (Cc [("NoPaper",true)] (A0 5))) (Ba (BD (Cc [("NoPaper",true)] (A0 5))) (CN (BD (A0 6)))))
   (AB 4 (Ad (A1 (mC (.str "no")) (A1 (Fw ["NoPaper"] "path" (A0 5)) (A1 (Fw ["NoPaper"] "word" (A0 5)) A4)))))
   AM)))
  (AI (A0 4))) [some (.im (Ap ws)),some (.im (wiI W)),some (.im (.int num)),some d,some (.im (.tup [.str "odd",.int 0])),none,none] hd λf x=>f=.rt (.im (.tup [.str "no",.tup p,.str word]))/\x=hd:=by
  intro p word r;refine AH (T4 (dg (SW (OQ (Kb (NA (Ka Hv)))))) (WY (SW (OQ (Kb (NA (Ka Hv))))) (Ay (We (AG (BV (A3 (A2 rfl (A3 (A2 rfl (A3 (A2 rfl (A3 (A2 rfl (A8 ((cu hn h bt r).mono ?_))))))))))))))));rintro e x ⟨hx,rfl⟩;subst x;refine⟨_,rfl,_,_,_,rfl,by simp,?_⟩;refine AH (AY (LP (A2 rfl ⟨_,_,_,false,rfl,rfl,AA ?_⟩)));refine Ar (GT (CS (LP (A2 rfl ⟨_,_,_,true,rfl,rfl,true,rfl,?_⟩))));rw[j9 rfl];refine GT (CS (LP (A2 rfl ⟨_,_,_,true,rfl,rfl,true,rfl,?_⟩)));rw[j9 rfl];refine EH (CS (A2 rfl ⟨false,rfl,(λ_=>?_),λh=>by cases h⟩));refine AY (B1 (A3 (AG (A3 (QU (A2 rfl ⟨_,_,_,_,rfl,by simp,rfl,rfl,A3 (QU (A2 rfl ⟨_,_,_,_,rfl,by simp,rfl,rfl,A8 ⟨FS,_,rfl,AA ?_⟩⟩))⟩))))));exact Ay (A2 rfl ⟨rfl,rfl⟩)
 cases r with
 |shape _ q=>exact(no (.shape t q)).mono λf x ⟨e,hx⟩=>by subst e;exact⟨rfl,hx⟩
 |entry es k hne hs=>exact(no (.entry es k hne hs)).mono λf x ⟨e,hx⟩=>by subst e;exact⟨rfl,hx⟩
 |less ks v hne hs hb hv=>exact(no (.less ks v hne hs hb hv)).mono λf x ⟨e,hx⟩=>by subst e;exact⟨rfl,hx⟩
 |yes ks v hne hs hb hv=>
  refine AH (T5 (AY (B1 (A3 (AG (A3 (BV (A3 (A2 rfl (A3 (A2 rfl (A3 (A2 rfl (A3 (A2 rfl (A8 ((cw hn h bt hne hs hb hv).mono ?_)))))))))))))))));rintro e x ⟨rfl,hx⟩;subst x;exact A8 ⟨JG,AA (Ay (A2 rfl ⟨rfl,rfl⟩))⟩
def Er{n:Nat}{QE:D->Hd->Prop}(h:WA m ls hd λds x=>∃(a b:MO) (rest:Hd) (many:Int),x=a::b::rest/\ds=[.mu 1,.im (.int many)]/\T (n+1) a b/\0<many/\many<1073741824/\∀r a' b',T n a' b'->0<=r->r<many->QE (.im (.int r)) (a'::b'::rest)):WE (A7 2 AQ m) ls hd QE:=by
 obtain⟨ds,x,e,a,b,rest,many,rfl,rfl,hT,h0,h1,k⟩:=h;exact tap.draw hT e h0 h1 k
noncomputable abbrev GG:Int:=(10:Int)^64*(10:Int)^64*(10:Int)^64*(10:Int)^7
def great_w:WF CL [] [] λd x=>d=.im (.int GG):=by
 unfold CL;exact BJ rfl (Ay (AC (AC (AC (AC (AG (AG (HJ (k:=64) (by decide) (AC (AG (AG (HJ (k:=64) (by decide) (JU (by constructor<;>decide +kernel) (AC (AG (AG (HJ (k:=64) (by decide) (JU (by constructor<;>decide +kernel) (AC (AG (AG (HJ (k:=7) (by decide) (JU (by constructor<;>decide +kernel) rfl)))))))))))))))))))))))
def Ha{QE:D->Hd->Prop}(q:QE (.im (.int GG)) hd):WE (A7 0 CL A4) ls hd QE:=Bt (A8 ⟨by simp,great_w.mono (by rintro d x rfl;exact⟨_,rfl,q⟩)⟩)
abbrev Lf(t:Tv):Prop:=Bo (10^200) 700 2 100 t
theorem QL{c:Nat}:∀{ts:List Tv},(∀t∈ts,wt t<=c)->wts ts<=c*ts.length
 |[],_=>by simp[wts]
 |t::ts,h=>by
  have h1:=h t (by simp);have h2:=QL (ts:=ts) λu hu=>h u (by simp[hu]);simp only[wts,jm,Nat.mul_succ];omega
def Qa(h:∀e∈es,Lf e)(l:es.length<=11):Th (.tup es)/\Th (.lst es):=by
 have w:=QL (c:=700) λt (q:t∈es)=>(h t q).wt;have d:D5 es<=2:=OR λt q=>(h t q).dp;have g:∀t∈es,Gq (10^202) t:=λt q=>(h t q).gd.mono (by decide +kernel);exact⟨So g (by omega) (by omega) (by omega),Sr g (by omega) (by omega) (by omega)⟩
structure Ot(L:Nat)(t:Tv):Prop where
 th:Th t
 tp:∀es,t=.tup es->es.length<=L/\∀e∈es,Lf e
def Dv{L:Nat}(h:∀e∈es,Lf e)(l:es.length<=L)(hL:L<=11):Ot L (.tup es):=⟨(Qa h (by omega)).1,λes' e=>by cases e;exact⟨l,h⟩⟩
def big:Lf (.int GG)/\Lf (.int (-GG)):=⟨NK (by decide +kernel) (by decide +kernel),NK (by decide +kernel) (by decide +kernel)⟩
def GZ{i:Int}(h0:-100<=i)(h1:i<=100):Lf (.int i):=by
 refine NK (jh (show i.natAbs<=100 by omega) (by decide +kernel)) ?_;have:i.natAbs.log2<7:=by
  by_cases z:i.natAbs=0
  .rw[z];decide
  .exact(log2_lt z).mpr (by omega)
 omega
def WM{n:Nat}(P:Tv->Prop)(h:Iss n hd ts ds)(hp:∀t∈ts,P t){r:Int}(h0:0<=r)(h1:r<ts.length):∃d t,atI ds r=some d/\P t/\Is n hd t d:=by
 obtain⟨d,t,q1,q2,q3⟩:=fg h h0 h1;exact⟨d,t,q1,hp t q2,q3⟩
def S6{n:Nat}{k:Nat}(h2:2<=k)(hn:k<n)(e:hd[k]?=some (.lst ds))(h:Iss n hd ts ds):Is n hd (.lst ts) (.mu k):=by
 simp only[Is];exact⟨k,ds,rfl,h2,hn,e,h⟩
def two{rest:Hd}{k:Nat}(h:2<=k):(a'::b'::rest)[k]?=(a::b::rest)[k]? := by
 obtain⟨j,rfl⟩:∃j,k=j+2:=⟨k-2,by omega⟩
 rfl
def OV(xs:List D)(k:Nat):Bi xs (some (k:Int)) (some ((k+1:Nat):Int))=(xs.drop k).take 1:=by
 unfold Bi;rw[An.sIx_nat,An.sIx_nat];by_cases h:k<=xs.length
 .rw[Nat.min_eq_left h];by_cases h2:k+1<=xs.length
  .rw[Nat.min_eq_left h2,show k+1-k=1 by omega]
  .rw[Nat.min_eq_right (by omega),jZ (by simp),jZ (by simp;omega)]
 .rw[km (show xs.length<=min k xs.length by omega),km (show xs.length<=k by omega)];simp
def svl{q:Nat}(e:h[q]?=some (.lst ds)):Aa h (.mu q)=some ds:=by rw[Ii,G5,e]
def Ob(k L:Nat)(g:Hd)(d:D)(x:Hd):Prop:=∃a' b' g' t',x=a'::b'::(g++g')/\T k a' b'/\Is x.length x t' d/\Ot L t'
def Su(k:Nat){N L:Nat}(hN:1<=N/\N<=8)(hL:L<=10)(hT:T (k+4) a b)(h:Is (a::b::g).length (a::b::g) (.tup es) d)(le:es.length<=L)(be:∀e∈es,Lf e):WF Ed [.mu 1,.im (.int (N:Int)),d] (a::b::g) (Ob k (L+1) g):=by
 obtain⟨ds,tv,is0⟩:=h.view;have hl:=is0.len;have is:∀(a' b':MO) (y:Hd),Iss (a'::b'::(g++y)).length (a'::b'::(g++y)) es ds:=λa' b' y=>is0.mono (by simp) λk k2 kn=>by
  rw[two k2 (a:=a) (b:=b),<- jD,<- jD,List.getElem?_append_left (by simpa using kn)]
 unfold Ed;refine BJ rfl ?_;refine AH (AY (Er (n:=k+3) (A3 (A2 rfl (A3 (AG (A8 ⟨a,b,g,9,rfl,rfl,hT,by decide,by decide,λway a b hT p0 q0=>AA ?_⟩)))))));refine AH (AY (Er (n:=k+2) (A3 (A2 rfl (A3 (AC (C6 (A3 (A2 rfl (A8 (CP (ds:=ds) (Jc tv) rfl (AG (Dq (A8 ⟨a,b,g,(ds.length:Int)+1,rfl,rfl,hT,by omega,by omega,λr a b hT p1 q1=>AA ?_⟩))))))))))))));obtain⟨at',rfl⟩:∃j:Nat,r=(j:Int):=⟨r.toNat,by omega⟩
 have hat:at'<=es.length:=by omega
 refine AH (AY (CG (Ds (A3 (AG (A3 (AG (A3 (AG (A3 (AG (A3 (AG (A3 (B1 (A3 (AG (A8 ⟨Cg,A3 (CG (Ds (A3 (AG (A8 ⟨Cg,A3 (FC (AG ⟨_,rfl,A3 (A2 rfl ?_)⟩))⟩)))))⟩))))))))))))))))));refine A3 (Er (n:=k+1) (A3 (A2 rfl (A3 (A2 rfl (A8 ⟨a,b,g++[.lst [.im (.int 0)]],(N:Int),rfl,rfl,hT,by omega,by omega,λnx a b hT p2 q2=>?_⟩))))));refine A3 (Ha (A3 (FC (Ha ⟨_,rfl,A8 ⟨AR (by simp),AA ?_⟩⟩))));generalize hE:[D.im (.bl true),_,_,_,_,_,_,_,_,_,_,_]=E;obtain⟨z,ez⟩:∃z,z=[MO.lst [.im (.int 0)],.lst E]:=⟨_,rfl⟩
 have iE:∀(a b:MO) (y:Hd),Iss (a::b::(g++(z++y))).length (a::b::(g++(z++y))) [.bl true,.bl false,.non,.str "0",.str "",.tup [.int 0],.lst [.int 0],.int (-1),.int (N:Int),.int nx,.int GG,.int (-GG)] E:=λa b y=>by
  rw[<- hE];refine .cons (Br (.bl true)) (.cons (Br (.bl false)) (.cons (Br .non) (.cons (Br (.str "0")) (.cons (Br (.str "")) (.cons (Br (.tup [.int 0])) (.cons ?_ (.cons (Br (.int (-1))) (.cons (Br (.int (N:Int))) (.cons (Br (.int nx)) (.cons (Br (.int GG)) (.one (Br (.int (-GG))))))))))))));exact S6 (ds:=[.im (.int 0)]) (by simp) (by rw[ez];simp) (by rw[ez];simp) (.one (Br (.int 0)))
 have bE:∀t∈[Tv.bl true,.bl false,.non,.str "0",.str "",.tup [.int 0],.lst [.int 0],.int (-1),.int (N:Int),.int nx,.int GG,.int (-GG)],Lf t:=λt ht=>by
  have l0:∀t∈[Tv.int 0],Gq (10^200) t:=λt ht=>by rw[jS]at ht;subst ht;simp only[Gq];decide +kernel
  simp only[jd,k4,kj]at ht;rcases ht with rfl|rfl|rfl|rfl|rfl|rfl|rfl|rfl|rfl|rfl|rfl|rfl
  .exact WJ (by decide)
  .exact WJ (by decide)
  .exact Sq (by decide)
  .exact NJ (by decide) (by decide)
  .exact NJ (by decide) (by decide)
  .exact So l0 (by decide) (by decide) (by decide)
  .exact Sr l0 (by decide) (by decide) (by decide)
  .exact GZ (by decide) (by decide)
  .exact GZ (by omega) (by omega)
  .exact GZ (by omega) (by omega)
  .exact big.1
  .exact big.2
 have eh:∀(a b:MO),a::b::(g++[MO.lst [.im (.int 0)]])++[MO.lst E]=a::b::(g++z):=λa b=>by rw[ez];simp
 rw[eh];refine AH (AY (AC (A2 rfl (Er (n:=k) (A3 (A2 rfl (A3 (AG (A8 ⟨a,b,g++z,12,rfl,rfl,hT,by decide,by decide,λr a b hT p3 q3=>?_⟩)))))))));obtain⟨d1,t1,at1,b1,i1⟩:=WM Lf (iE a b []) bE p3 (by simpa using q3);rw[ju]at i1;refine Ae (ds:=E) (svl (by rw[ez];simp)) at1 (AA ?_);change WS _ [some (.mu 1),some (.im (.int (N:Int))),some d,some (.im (.int way)),some (.im (.int (at':Int))),_,some d1,none] (a::b::(g++z)) _;have isz:=is a b z;have tk:∀e∈es.take at',Lf e:=λe he=>be e (List.mem_of_mem_take he);have dr:∀j,∀e∈es.drop j,Lf e:=λj e he=>be e (List.mem_of_mem_drop he);have same:∀{d:D} {t:Tv},Is (a::b::(g++z)).length (a::b::(g++z)) t d->Ot (L+1) t->Ob k (L+1) g d (a::b::(g++z)):=λ{d t} h q=>⟨a,b,z,t,rfl,hT,h,q⟩
 have mem3:∀{x:Tv} {l1 l2 l3:List Tv},(∀e∈l1,Lf e)->(∀e∈l2,Lf e)->(∀e∈l3,Lf e)->∀e∈l1++l2++l3,Lf e:=λ{x l1 l2 l3} h1 h2 h3 e he=>by
  rcases mem_append.mp he with he|he
  .rcases mem_append.mp he with he|he
   .exact h1 e he
   .exact h2 e he
  .exact h3 e he
 have o1:∀e∈[t1],Lf e:=λe he=>by rw[jS]at he;subst he;exact b1
 refine AH (Ar (AU (AC (A2 rfl (AG (E6 ⟨_,rfl,λc=>?_,λc=>Ai (AA ?_)⟩))))))
 .refine Ay (AC (AC (Kv (i:=2) (j:=4) (k:=at') rfl tv rfl (B1 (A3 (A2 rfl (A8 ⟨Cg,An.wp_catN (AN _) (AN _) (by simp;omega) ?_⟩)))))));refine Lu (i:=2) (j:=4) (k:=at') (c:=1) rfl tv rfl (JW (AN _) (AN _) (by simp) (by simp;omega) (DQ ?_));exact same (((isz.take at').app (.one i1)).app (isz.drop (at'+1))).tup (Dv (mem3 (x:=t1) tk o1 (dr _)) (by simp;omega) (by omega))
 refine AH (Ar (AU (AC (A2 rfl (AG (F9 ⟨_,rfl,λc=>?_,λc2=>Ai (AA ?_)⟩))))))
 .refine Ay (AC (AC (Kv (i:=2) (j:=4) (k:=at') rfl tv rfl (B1 (A3 (A2 rfl (A8 ⟨Cg,An.wp_catN (AN _) (AN _) (by simp;omega) ?_⟩)))))));refine eK (i:=2) (j:=4) (k:=at') rfl tv rfl (JW (AN _) (AN _) (by simp) (by simp;omega) (DQ ?_));exact same (((isz.take at').app (.one i1)).app (isz.drop at')).tup (Dv (mem3 (x:=t1) tk o1 (dr _)) (by simp;omega) (by omega))
 have w5:5<=way:=by
  have c:¬ way<4:=by simpa using c
  have c2:¬ way=4:=by simpa using c2
  omega
 refine AH (AY (CG (Ds (A3 (AC (Kv (i:=2) (j:=4) (k:=at') rfl tv rfl (Lu (i:=2) (j:=4) (k:=at') (c:=1) rfl tv rfl (An.wp_catN (AN _) (AN _) (by simp;omega) ?_))))))));refine A3 (AC (AC (Kv (i:=2) (j:=4) (k:=at') rfl tv rfl (Wi (Ia (A2 rfl (FA (A2 rfl ⟨_,rfl,FA (AC (A2 rfl (AG (Dq ⟨_,rfl,ds,tv,AG ⟨_,2,AN _,rfl,by decide,?_,?_⟩⟩))))⟩))))))))
 .have:(Bi ds (some (at':Int)) (some ((at':Int)+1))).length<=ds.length:=by
   rw[show((at':Int)+1)=((at'+1:Nat):Int) by omega,OV];simp;omega
  show _*2<=100000;omega
 rw[show((at':Int)+1)=((at'+1:Nat):Int) by omega,OV];have r2:(List.replicate (Int.toNat 2) ((ds.drop at').take 1)).flatten=(ds.drop at').take 1++(ds.drop at').take 1:=by simp[List.replicate]
 rw[r2];refine An.wp_catN (AN _) (AN _) (by simp;omega) (Lu (i:=2) (j:=4) (k:=at') (c:=1) rfl tv rfl (An.wp_catN (AN _) (AN _) (by simp;omega) ?_));refine A3 (Wh (A2 rfl (FC (AG ⟨_,rfl,rfl,ds,tv,A8 ⟨FS,AA ?_⟩⟩))));generalize hF:[AO (ds.take at'++ds.drop (at'+1)),_,_]=F;have iF:∀y,Iss (a::b::(g++(z++y))).length (a::b::(g++(z++y))) [.tup (es.take at'++es.drop (at'+1)),.tup (es.take at'++((es.drop at').take 1++(es.drop at').take 1)++es.drop (at'+1)),.tup es.reverse] F:=λy=>by
  have i:=is a b (z++y);rw[<- hF];exact .cons ((i.take at').app (i.drop (at'+1))).tup (.cons (((i.take at').app (((i.drop at').take 1).app ((i.drop at').take 1))).app (i.drop (at'+1))).tup (.one i.rev.tup))
 have d1':∀e∈(es.drop at').take 1,Lf e:=λe he=>dr at' e (List.mem_of_mem_take he);have lt1:((es.drop at').take 1).length<=1:=by rw[jP];omega
 have lt2:(es.take at').length+((es.drop at').take 1).length+(es.drop (at'+1)).length<=es.length:=by simp only[jP,length_drop];omega
 have bF:∀t∈[Tv.tup (es.take at'++es.drop (at'+1)),.tup (es.take at'++((es.drop at').take 1++(es.drop at').take 1)++es.drop (at'+1)),.tup es.reverse],Ot (L+1) t:=λt ht=>by
  simp only[jd,k4,kj]at ht;rcases ht with rfl|rfl|rfl
  .refine Dv (λe he=>?_) (by simp;omega) (by omega);rcases mem_append.mp he with he|he
   .exact tk e he
   .exact dr _ e he
  .refine Dv (mem3 (x:=t1) tk (λe he=>?_) (dr _)) (by simp only[jv];omega) (by omega);rcases mem_append.mp he with he|he
   .exact d1' e he
   .exact d1' e he
  .exact Dv (λe he=>be e (by simpa using he)) (by simp;omega) (by omega)
 refine Ay (Ib (LS (A2 rfl (CG (Ds (A3 (Ib (Ds (A3 (CG (Nm (A2 rfl ⟨ds,Jc tv,A3 (AG (A3 (AG (A3 (B1 (A8 ⟨Dy,A3 (AC (A2 rfl (B1 (A3 (AG (A8 ⟨Cg,An.wp_catN tv (AN _) (by simp;omega) (A8 ⟨AR (by simp),?_⟩)⟩))))))⟩))))))⟩))))))))))));generalize hG:[D.mu _,_,_,_,_]=G;have iG:∀y,Iss (a::b::(g++(z++([.lst F,.lst ds]++y)))).length (a::b::(g++(z++([.lst F,.lst ds]++y)))) [.lst es,.non,.str "set",.tup [],.tup (es++[.int 0])] G:=λy=>by
  have i:=is a b (z++([.lst F,.lst ds]++y));rw[<- hG];refine .cons ?_ (.cons (Br .non) (.cons (Br (.str "set")) (.cons Iss.nil.tup (.one (i.app (.one (Br (.int 0)))).tup))));exact S6 (ds:=ds) (by simp) (by simp) (by rw[ez];simp) i
 have bG:∀t∈[Tv.lst es,.non,.str "set",.tup [],.tup (es++[.int 0])],Ot (L+1) t:=λt ht=>by
  simp only[jd,k4,kj]at ht;rcases ht with rfl|rfl|rfl|rfl|rfl
  .exact⟨(Qa be (by omega)).2,λes e=>by cases e⟩
  .exact⟨Sq (by decide),λes e=>by cases e⟩
  .exact⟨NJ (by decide) (by decide),λes e=>by cases e⟩
  .exact Dv (by simp) (by simp) (by omega)
  .refine Dv (λe he=>?_) (by simp;omega) (by omega);rcases mem_append.mp he with he|he
   .exact be e he
   .rw[jS]at he;subst he;exact GZ (by decide) (by decide)
 refine AC (A2 rfl (AG (DE (by unfold Dh;decide) ?_)));obtain⟨m5,hm5,e5⟩:∃m5:Nat,m5<5/\(at':Int)%5=(m5:Int):=⟨at'%5,Nat.mod_lt _ (by decide),by omega⟩
 rw[e5];obtain⟨t5,ht5⟩:∃t5,[Tv.lst es,.non,.str "set",.tup [],.tup (es++[.int 0])][m5]?=some t5:=⟨_,List.getElem?_eq_getElem (by simp;omega)⟩
 obtain⟨d5,ed5,-⟩:=(iG []).get ht5;refine⟨_,d5,rfl,EZ rfl ed5,A8 ⟨Cg,?_⟩⟩;have i4:Iss (a::b::(g++(z++([.lst F,.lst ds]++[.lst [d5]])))).length (a::b::(g++(z++([.lst F,.lst ds]++[.lst [d5]])))) ([.tup (es.take at'++es.drop (at'+1)),.tup (es.take at'++((es.drop at').take 1++(es.drop at').take 1)++es.drop (at'+1)),.tup es.reverse]++[t5]) (F++[d5]):=by
  refine(iF _).app (.one ?_);obtain⟨d6,e6,i6⟩:=(iG [.lst [d5]]).get ht5;rw[ed5]at e6;cases e6;exact i6
 have b4:∀t∈([Tv.tup (es.take at'++es.drop (at'+1)),.tup (es.take at'++((es.drop at').take 1++(es.drop at').take 1)++es.drop (at'+1)),.tup es.reverse]++[t5]),Ot (L+1) t:=λt ht=>by
  rcases mem_append.mp ht with ht|ht
  .exact bF t ht
  .rw[jS]at ht;subst ht;exact bG _ (jt ht5)
 obtain⟨d7,t7,at7,b7,i7⟩:=WM (Ot (L+1)) i4 b4 (r:=way-5) (by omega) (by simp;omega);refine⟨_,_,F,[d5],rfl,rfl,?_,?_,?_,?_⟩
 .rw[ez];simp
 .simp
 .have:F.length=3:=by rw[<- hF];rfl
  exact AR (by rw[this];simp)
 .refine AC (A2 rfl (AG (F8 ⟨_,d7,rfl,at7,?_⟩)));refine⟨a,b,z++([.lst F,.lst ds]++[.lst [d5]]),t7,by simp,hT,?_,b7⟩;have eh2:a::b::(g++z)++[MO.lst F]++[MO.lst ds]++[MO.lst [d5]]=a::b::(g++(z++([.lst F,.lst ds]++[.lst [d5]]))):=by simp
  rw[eh2];exact i7
def O5{d:D}{hd:Hd}(h:∀i,d=.im i->∃is,i=.tup is):Cj [d] hd=CI [d] hd:=by
 cases d with
 |im i=>obtain⟨is,rfl⟩:=h i rfl;rfl
 |_=>rfl
noncomputable def rT:Tv->Str
 |.non=>"None"
 |.bl b=>if b then "True" else "False"
 |.int i=>toString i
 |.str x=>reprText x
 |t=>(pyT t).shown
def Vg{N:Nat}{hd:Hd}{t:Tv}{d:D}{QE:D->Hd->Prop}(hi:Is N hd t d)(h:Th t)(q:QE (.im (.str (rT t))) hd):WP (Cj [d] hd) QE:=by
 have ok:=JF (m:=10^202) (by decide) h.gd;have hw:=h.wt;have hp:=h.dp;cases t with
 |non=>simp only[Is]at hi;subst hi;exact⟨_,_,rfl,q⟩
 |bl b=>simp only[Is]at hi;subst hi;exact⟨_,_,rfl,q⟩
 |int i=>
  simp only[Is]at hi;subst hi;have:=ok.sh;simp only[pyT,PyData.showable]at this;have h:i.natAbs.log2<1920:=jV this;exact⟨_,_,by show HA [.im (.int i)] hd=_;unfold HA;exact j9 h,q⟩
 |str x=>
  simp only[Is]at hi;subst hi;have hs:(reprText x).length<=sizeLine:=by
   have:=PyData.shown_le 250 (by decide) (pyT (.str x)) (PyData.leavesShort_of_canLay0 250 _ ok.lay ok.it);have hw2:=ok.wt;rw[jF];simp only[pyT,PyData.shown]at this hw2;omega
  exact⟨_,_,j9 hs,q⟩
 |tup ts=>
  have e:Cj [d] hd=CI [d] hd:=O5 λi ei=>by
   subst ei;simp only[Is]at hi;obtain⟨ds,e,_⟩:=hi;unfold AO at e;cases z:B0 ds with
   |none=>rw[z]at e;cases e
   |some is=>rw[z]at e;cases e;exact⟨_,rfl⟩
  rw[e];exact Fb (hi.pyN (by omega)) (ok.repr rfl (by omega) (by omega)) q
 |lst ts=>
  have e:Cj [d] hd=CI [d] hd:=O5 λi ei=>by
   subst ei;simp only[Is]at hi;obtain⟨k,ds,e,_⟩:=hi;cases e
  rw[e];exact Fb (hi.pyN (by omega)) (ok.repr rfl (by omega) (by omega)) q
theorem Nr{N:Nat}:∀{ts:List Tv} {fm:Int} {j k:Nat},D2 N fm j ts=some k->k<j+ts.length
 |[],fm,j,k,h=>by cases h
 |t::ts,fm,j,k,h=>by
  rw[D2]at h;split at h
  .have:=Nr h;rw[jm];omega
  .cases h;rw[jm];omega
def X6{ws:List Wg}{W:List (Nat×Nat)}{num:Int}{t:Tv}{res:I}(r:Rs ws W num t res)(bt:Th t):Gi res.py:=by
 have key:∀(p:List Tv),(∀e∈p,∃k:Nat,e=.int (k:Int)/\k<=100)->p.length<=1->∀word:Str,(∀c∈word.cps.toList,c<128)->word.length<=10->Gi (pyT (.tup [.str "no",.tup p,.str word])):=λp hp lp word hw lw=>by
  have gp:∀e∈p,Gq 1000 e:=λe he=>by
   obtain⟨k,rfl,hk⟩:=hp e he;simp only[Gq];omega
  have wp:wts p<=100:=by
   match p,lp with
   |[],_=>simp[wts]
   |[e],_=>
    obtain⟨k,rfl,hk⟩:=hp e (by simp);have:(k:Int).natAbs.log2<7:=by
     by_cases z:(k:Int).natAbs=0
     .rw[z];decide
     .exact(log2_lt z).mpr (by omega)
    simp only[wts,An.wt];omega
  have dp:D5 p<=0:=OR λe he=>by obtain⟨k,rfl,_⟩:=hp e he;simp[dep]
  have q:=JF (m:=1000) (by decide) (t:=.tup [.str "no",.tup p,.str word]) (by simp only[Gq,Gqs];exact⟨by decide,gds_iff.mpr gp,hw,trivial⟩);refine q.repr rfl ?_ ?_
  .simp only[dep,D5];omega
  .simp only[An.wt,wts];have:Str.length "no"=2:=rfl;omega
 cases r with
 |shape _ _=>exact key [] (by simp) (by simp) "shape" (by decide) (by decide)
 |less _ _ _ _ _ _=>exact key [] (by simp) (by simp) "less" (by decide) (by decide)
 |entry es k hne hs=>
  have:=Nr hs;have tl:=bt.tl;simp only[An.tl]at tl;exact key [.int (k:Int)] (λe he=>by rw[jS]at he;subst he;exact⟨k,rfl,by omega⟩) (by simp) "entry" (by decide) (by decide)
 |yes _ _ _ _ _ _=>
  have q:=JF (m:=1000) (by decide) (t:=.tup [.str "yes",.bl true]) (by simp only[Gq,Gqs];exact⟨by decide,trivial,trivial⟩);exact q.repr rfl (by decide) (by decide)
noncomputable abbrev Lw(ns:List Int)(ws:List Wg)(W:List (Nat×Nat))(z5 z6 z7 z8 z9 z10 z11 z12 z13 z14:Option D):Ls:=[some (.ro ns),some (.mu 1),some (.im (Ap ws)),some (.im (.int (ws.length:Int))),some (.im (wiI W)),z5,z6,z7,z8,z9,z10,z11,z12,z13,z14]
def OL{n:Nat}{hd:Hd}(ks:List Nat):Is n hd (.tup (itv ks)) (.im (Ah ks)):=by
 have:=Br (n:=n) (hd:=hd) (Ah ks);have e:ofI (Ah ks)=.tup (itv ks):=by
  unfold Ah;rw[ofI,Mb,jx];rfl
 rw[e]at this;exact this
inductive Tn(ns:List Int)(ws:List Wg)(W:List (Nat×Nat))(k:Nat)(g:Hd)(z5:Option D):Fl->Hd->Prop
 |mk (a b:MO) (g':Hd) (y6 y7 y8 y9 y10 y11 y12 y13 y14:Option D) (h:T k a b):Tn ns ws W k g z5 (.nx (Lw ns ws W z5 y6 y7 y8 y9 y10 y11 y12 y13 y14)) (a::b::(g++g'))
inductive Il(ns:List Int)(ws:List Wg)(W:List (Nat×Nat))(r:List D)(ls:Ls)(x:Hd):Prop
 |mk (a b:MO) (g:Hd) (z5 z6 z7 z8 z9 z10 z11 z12 z13 z14:Option D) (h1:ls=Lw ns ws W z5 z6 z7 z8 z9 z10 z11 z12 z13 z14) (h2:x=a::b::g) (h3:T (20*r.length) a b):Il ns ws W r ls x
set_option maxHeartbeats 1000000 in
def Zk{ws:List Wg}{W:List (Nat×Nat)}{rk:Nat->Nat}(w:Wd ws W rk)(ns:List Int)(k:Nat){a b:MO}{g:Hd}(hT:T (k+20) a b){z5 z6 z7 z8 z9 z10 z11 z12 z13 z14:Option D}:
 WS (A5 (AB 6 (A7 2 AQ (A1 (A0 1) (A1 (mC (.int 4)) A4))))
 (A5 (AB 7 (mOp AX (mC (.int 1)) (A7 2 AQ (A1 (A0 1) (A1 (mOp BS (mOp Ms (mC (.int 1)) (A0 3)) (mC (.int 1))) A4)))))
 (A5 (AB 8 (BI Bq (Ak 1 [7] (Bu (A1 (A0 3) A4)) (AF 0) (A6 (mOp gEq (mOp Mu (mOp Mr (A0 1) (A0 0)) (mC (.int 1))) (mC (.int 1)))) (A0 0))))
 (A5 (AB 9 (AW Dd (A1 (A0 2) (A1 (Cs Dc (A1 (A0 3) (A1 (A0 4) A4))) (A1 (A7 0 D6 (A1 (A0 2) (A1 (A0 4) A4))) (A1 (A0 8) A4))))))
 (A5 (AB 10 (E3 (Am (A1 (mC (.int 0)) (A1 (mC (.int 0)) (A1 (mC (.int 1)) (A1 (E2 (mC (.int 1))) (A1 (mOp BS (mC (.int 50)) (A7 2 AQ (A1 (A0 1) (A1 (mC (.int 100)) A4)))) (A1 (A7 0 CL A4) (A1 (E2 (A7 0 CL A4)) A4)))))))) (A7 2 AQ (A1 (A0 1) (A1 (mC (.int 7)) A4)))))
 (A5 (AB 11 (mIf (A6 (mOp gLt (mCB F1 (A1 (A0 10) A4)) (mC (.int 100)))) (mOp AX (A0 9) (A0 10)) (mOp BS (A0 10) (mOp Gy (A0 10) (mCB F1 (A1 (A0 10) A4))))))
 (A5 (AS (A6 (mOp gGt (A0 6) (mC (.int 1))))
  (AB 8 (AW Ed (A1 (A0 1) (A1 (A0 3) (A1 (A0 8) A4)))))
  AM)
 (A5 (AS (Ba (A6 (mOp gEq (A0 6) (mC (.int 3)))) (BD (C1 .tuple (A0 8))))
  (AB 8 (AW Ed (A1 (A0 1) (A1 (A0 3) (A1 (A0 8) A4)))))
  AM)
 (A5 (AB 12 (mCB Cj (A1 (A0 8) A4)))
 (A5 (AB 13 (mCB CI (A1 (AW Eb (A1 (A0 2) (A1 (A0 4) (A1 (A0 11) (A1 (A0 8) A4))))) A4)))
 (Az (Bu (A1 (mC (.int 2)) A4)) (AF 14)
  (AS (mOr (A6 (mOp gNe (mCB CI (A1 (AW HI (A1 (A0 2) (A1 (A0 4) (A1 (A0 11) (A1 (A0 8) A4))))) A4)) (A0 13))) (A6 (mOp gNe (mCB Cj (A1 (A0 8) A4)) (A0 12))))
  (AI (mC (.bl false)))
  AM)))))))))))) (Lw ns ws W z5 z6 z7 z8 z9 z10 z11 z12 z13 z14) (a::b::g) (Tn ns ws W k g z5):=by
 have hn:=w.ok.2.1;have h1:=w.ok.1;obtain⟨N,hN⟩:∃N,N=ws.length:=⟨_,rfl⟩
 have p2:=bo hn;have p1:2<=2^ws.length:=by
  have:2^1<=2^ws.length:=Nat.pow_le_pow_right (by omega) h1;omega
 refine AH (AY (Er (n:=k+19) (A3 (A2 rfl (A3 (AG (A8 ⟨a,b,g,4,rfl,rfl,hT,by decide,by decide,λsp a b hT p0 q0=>AA ?_⟩)))))));refine AH (AY (AC (AG (Er (n:=k+18) (A3 (A2 rfl (A3 (AC (AC (AG (A2 rfl (ZY (po ws.length hn) ?_))))))))))));rw[Zp];refine AG (F8 (A8 ⟨a,b,g,((2^ws.length:Nat):Int)-1,rfl,rfl,hT,by omega,by omega,λr a b hT p1' q1=>Dq (AA ?_)⟩));obtain⟨m,hm⟩:∃m:Nat,1+r=(m:Int):=⟨(1+r).toNat,by omega⟩
 rw[hm];have m0:m≠0:=by omega
 have m1:m<2^ws.length:=by omega
 change WS _ (Lw ns ws W z5 (some (.im (.int sp))) (some (.im (.int (m:Int)))) z8 z9 z10 z11 z12 z13 z14) _ _;refine AH (AY (Dr (BZ (GW (A3 (A2 rfl (A8 ⟨_,rfl,D7 (by omega) (by omega),AR (by simp;omega),?_⟩)))))));rw[jN,DH];refine BL (λx:Nat=>D.im (.int (x:Int))) (λx=>if m/2^x%2=1 then some (.im (.int (x:Int)))else none) (λ_ ls=>∃x,ls=[some x,some (.im (.int (m:Int)))]) _ (AJ _) ?_ ?_
 .rintro x hx ls hls;refine⟨[some (.im (.int (x:Int))),some (.im (.int (m:Int)))],by rcases hls with rfl|⟨_,x,rfl⟩<;>rfl,⟨_,rfl⟩,?_⟩;refine AU (AC (AC (AC (A2 rfl (A2 rfl (ZX (Int.natCast_nonneg x) ?_))))));refine AG (Zc (AG (F9 ⟨_,rfl,rfl,?_⟩)));rw[ZM];by_cases hb:m/2^x%2=1
  .rw[j9 (by simp[hb])];exact⟨_,j9 hb,A2 rfl ⟨rfl,rfl⟩⟩
  .rw[ja (λh=>hb (by have:=jV h;exact_mod_cast this))];exact ja hb
 rw[LG];obtain⟨ks,hks⟩:∃ks,ks=NL ws.length m:=⟨_,rfl⟩
 have kne:ks≠[]:=by rw[hks];exact ZL m0 m1
 have ksub:ks.Sublist (List.range ws.length):=by rw[hks];exact VZ _ _
 have hk:∀k∈ks,k<ws.length:=λk hk=>by simpa using ksub.subset hk
 have hl:ks.length<=8:=by have:=ksub.length_le;simp at this;omega
 refine⟨.im (Ah ks),by rw[hks];exact jA some (Me _),AA ?_⟩;change WS _ (Lw ns ws W z5 (some (.im (.int sp))) (some (.im (.int (m:Int)))) (some (.im (Ah ks))) z9 z10 z11 z12 z13 z14) _ _;refine AH (AY (WK w kne hk hl (i:=2) (j:=4) (t:=8) (hd:=a::b::g) rfl rfl rfl (λh'=>rfl) λv g1 bv v0 v1=>AA ?_));have eh:a::b::g++g1=a::b::(g++g1):=rfl;rw[eh];change WS _ (Lw ns ws W z5 (some (.im (.int sp))) (some (.im (.int (m:Int)))) (some (.im (Ah ks))) (some (.im (.int v))) z10 z11 z12 z13 z14) _ _;refine AH (AY (Ib (Ds (A3 (AG (A3 (AG (A3 (AG (A3 (FC (AG ⟨_,rfl,A3 (AC (AG (Er (n:=k+17) (A3 (A2 rfl (A3 (AG (A8 ⟨a,b,g++g1,100,rfl,rfl,hT,by decide,by decide,λr2 a b hT p2' q2=>F8 ?_⟩))))))))⟩))))))))))));refine A3 (Ha (A3 (FC (Ha ⟨_,rfl,A8 ⟨AR (by simp),?_⟩⟩))));refine Er (n:=k+16) (A3 (A2 rfl (A3 (AG (A8 ⟨a,b,g++g1,7,rfl,rfl,hT,by decide,by decide,λr3 a b hT p3 q3=>?_⟩)))));have far7:∃fr:Int,atI [D.im (.int 0),.im (.int 0),.im (.int 1),.im (.int (-1)),.im (.int (50-r2)),.im (.int GG),.im (.int (-GG))] r3=some (.im (.int fr))/\fr.natAbs.log2<9000:=by
  obtain⟨j,rfl⟩:∃j:Nat,r3=(j:Int):=⟨r3.toNat,by omega⟩
  have hj:j<7:=by omega
  have sm:∀i:Int,-100<=i->i<=100->i.natAbs.log2<9000:=λi a b=>by
   by_cases z:i.natAbs=0
   .rw[z];decide
   .exact lt_trans ((log2_lt (k:=7) z).mpr (by omega)) (by decide)
  match j,hj with
  |0,_=>exact⟨0,rfl,by decide⟩
  |1,_=>exact⟨0,rfl,by decide⟩
  |2,_=>exact⟨1,rfl,by decide⟩
  |3,_=>exact⟨-1,rfl,by decide⟩
  |4,_=>exact⟨50-r2,rfl,sm _ (by omega) (by omega)⟩
  |5,_=>exact⟨GG,rfl,by decide +kernel⟩
  |6,_=>exact⟨-GG,rfl,by decide +kernel⟩
 obtain⟨fr,efr,lfr⟩:=far7;refine⟨_,_,rfl,efr,AA ?_⟩;change WS _ (Lw ns ws W z5 (some (.im (.int sp))) (some (.im (.int (m:Int)))) (some (.im (Ah ks))) (some (.im (.int v))) (some (.im (.int fr))) z11 z12 z13 z14) _ _;refine AH (AY (WP.mono (Q:=λ(d:D) (x:Hd)=>∃num:Int,d=.im (.int num)/\x=a::b::(g++g1)) ?_ ?_))
 .refine LQ (AU (AC (C6 (A3 (A2 rfl (A8 (WP.eq (z:=.im (.int (fr.natAbs:Int))) (h:=a::b::(g++g1)) (by simp[F1];split<;>omega) (AG (E6 ⟨_,rfl,λ_=>?_,λhc=>?_⟩)))))))))
  .exact AC (A2 rfl (A2 rfl (Dq ⟨_,rfl,rfl⟩)))
  .have hc:¬ (fr.natAbs:Int)<100:=by simpa using hc
   refine AC (A2 rfl (AC (A2 rfl (C6 (A3 (A2 rfl (A8 (WP.eq (z:=.im (.int (fr.natAbs:Int))) (h:=a::b::(g++g1)) (by simp[F1];split<;>omega) (T8 ⟨by omega,by rw[Int.natAbs_natCast];exact lfr⟩ (F8 ⟨_,rfl,rfl⟩))))))))))
 rintro _ _ ⟨num,rfl,rfl⟩;refine AA ?_;change WS _ (Lw ns ws W z5 (some (.im (.int sp))) (some (.im (.int (m:Int)))) (some (.im (Ah ks))) (some (.im (.int v))) (some (.im (.int fr))) (some (.im (.int num))) z12 z13 z14) _ _;have bks:∀e∈itv ks,Lf e:=λe he=>by
  obtain⟨j,hj,rfl⟩:=mem_map.mp he;have:=hk j hj;exact GZ (by omega) (by omega)
 have lks:(itv ks).length<=8:=by simpa using hl
 refine AH (WP.mono (Q:=λ(fl:Fl) (x:Hd)=>∃(a b:MO) (g2:Hd) (d:D) (t:Tv),fl=.nx (Lw ns ws W z5 (some (.im (.int sp))) (some (.im (.int (m:Int)))) (some d) (some (.im (.int v))) (some (.im (.int fr))) (some (.im (.int num))) z12 z13 z14)/\x=a::b::(g++g1++g2)/\T (k+8) a b/\Is x.length x t d/\Ot 9 t) ?_ ?_)
 .refine Ar (AU (AC (A2 rfl (AG (Oi ⟨_,rfl,λ_=>?_,λ_=>Ai ⟨a,b,[],_,_,rfl,by simp,tap.le hT (by omega),OL ks,Dv bks (by omega) (by decide)⟩⟩)))));refine AY (BV (A3 (A2 rfl (A3 (A2 rfl (A3 (A2 rfl (A8 ((Su (k+8) (N:=ws.length) (L:=8) ⟨h1,hn⟩ (by decide) (g:=g++g1) (tap.le hT (by omega)) (OL ks) lks bks).mono ?_)))))))));rintro d x ⟨a,b,g2,t,rfl,hT,hi,ho⟩;exact⟨a,b,g2,d,t,rfl,rfl,hT,hi,ho⟩
 rintro fl x ⟨a,b,g2,d,t,rfl,rfl,hT,hi,ho⟩;refine AA (AH (WP.mono (Q:=λ(fl:Fl) (x:Hd)=>∃(a b:MO) (g2:Hd) (d:D) (t:Tv),fl=.nx (Lw ns ws W z5 (some (.im (.int sp))) (some (.im (.int (m:Int)))) (some d) (some (.im (.int v))) (some (.im (.int fr))) (some (.im (.int num))) z12 z13 z14)/\x=a::b::(g++g1++g2)/\T (k+4) a b/\Is x.length x t d/\Ot 10 t) ?_ ?_))
 .have stay:Ot 10 t:=⟨ho.th,λes e=>⟨by have:=(ho.tp es e).1;omega,(ho.tp es e).2⟩⟩
  refine Ar (GT (AU (AC (A2 rfl (AG (F9 ⟨_,rfl,?_⟩))))));split
  .refine CS (DF (A2 rfl ⟨_,hi.isD .tuple,_,rfl,λht=>?_,λ_=>Ai ⟨a,b,g2,d,t,rfl,rfl,tap.le hT (by omega),hi,stay⟩⟩));obtain⟨es,rfl⟩:∃es,t=.tup es:=by
    cases t with
    |tup es=>exact⟨es,rfl⟩
    |_=>simp[ty]at ht
   obtain⟨o1,o2⟩:=ho.tp es rfl;refine AY (BV (A3 (A2 rfl (A3 (A2 rfl (A3 (A2 rfl (A8 ((Su (k+4) (N:=ws.length) (L:=9) ⟨h1,hn⟩ (by decide) (g:=g++g1++g2) (tap.le hT (by omega)) hi o1 o2).mono ?_)))))))));rintro d x ⟨a,b,g3,t,rfl,hT,hi,ho⟩;exact⟨a,b,g2++g3,d,t,rfl,by simp,hT,hi,ho⟩
  .exact⟨(λh=>by cases h),λ_=>Ai ⟨a,b,g2,d,t,rfl,rfl,tap.le hT (by omega),hi,stay⟩⟩
 clear hi ho hT;rintro fl x ⟨a,b,g2,d,t,rfl,rfl,hT,hi,ho⟩;have th:=ho.th;refine AA (AH (AY (C6 (A3 (A2 rfl (A8 (Vg hi th (AA ?_))))))));refine AH (AY (C6 (A3 (BV (A3 (A2 rfl (A3 (A2 rfl (A3 (A2 rfl (A3 (A2 rfl (A8 ((V8 w hi th).mono ?_))))))))))))));rintro e x ⟨res,rfl,rs,g3,rfl⟩;have ok:=X6 rs th;refine A8 (Fb (p:=res.py) (Dt 30 _) ok (AA ?_));have eh3:a::b::(g++g1++g2)++g3=a::b::(g++g1++g2++g3):=rfl;have hi2:Is (a::b::(g++g1++g2)).length (a::b::(g++g1++g2)++g3) t d:=hi.mono (jc _) λk _ kn=>List.getElem?_append_left (by omega);rw[eh3]at hi2 ⊢;change WS _ (Lw ns ws W z5 (some (.im (.int sp))) (some (.im (.int (m:Int)))) (some d) (some (.im (.int v))) (some (.im (.int fr))) (some (.im (.int num))) (some (.im (.str (rT t)))) (some (.im (.str res.py.shown))) z14) _ _;refine DC (GW (A3 (AG (A8 ⟨2,rfl,D7 (by decide) (by decide),?_⟩))));refine B9 (λr ls x=>∃y14,ls=Lw ns ws W z5 (some (.im (.int sp))) (some (.im (.int (m:Int)))) (some d) (some (.im (.int v))) (some (.im (.int fr))) (some (.im (.int num))) (some (.im (.str (rT t)))) (some (.im (.str res.py.shown))) y14/\x=a::b::(g++g1++g2++g3)) ⟨z14,rfl,rfl⟩ ?_ ?_
 .rintro e r ls x ⟨y14,rfl,rfl⟩;refine⟨Lw ns ws W z5 (some (.im (.int sp))) (some (.im (.int (m:Int)))) (some d) (some (.im (.int v))) (some (.im (.int fr))) (some (.im (.int num))) (some (.im (.str (rT t)))) (some (.im (.str res.py.shown))) (some e),rfl,?_⟩;refine Ar (Fa (AU (AC (C6 (A3 (BV (A3 (A2 rfl (A3 (A2 rfl (A3 (A2 rfl (A3 (A2 rfl (A8 ((Zm hn hi2 th rs).mono ?_))))))))))))))));rintro _ _ ⟨rfl,rfl⟩;refine A8 (Fb (p:=res.py) (Dt 30 _) ok (A2 rfl (LL ⟨_,rfl,?_⟩)));rw[ja (by simp)];exact AU (AC (C6 (A3 (A2 rfl (A8 (Vg hi2 th (A2 rfl (LL ⟨_,rfl,(λh=>by simp at h),λ_=>Ai ⟨AJ _,_,rfl,rfl⟩⟩))))))))
 .rintro ls x ⟨y14,rfl,rfl⟩;have e:a::b::(g++g1++g2++g3)=a::b::(g++(g1++g2++g3)):=by simp
  rw[e];exact .mk a b _ _ _ _ _ _ _ _ _ _ (tap.le hT (by omega))
def fS(ns:List Int):WF j5 [.ro ns] [] λd x=>d=.im (.bl true):=by
 unfold j5;refine BJ rfl ?_;refine AH (AY (BV (A3 (A2 rfl (A8 ((dN ns).mono ?_))))));rintro d x ⟨rfl,a,b,hT,rfl⟩;refine AA (AH (AY ?_));have ew:∀ls:Ls,A7 0 FX A4 ls [a,b]=some (.mu 2,[a,b,W5]):=λls=>Q1 (ds:=[]) (hd1:=[a,b]) rfl rfl TB rfl rfl;have hT:T (90000+300) a b:=tap.le hT (by decide);refine tap.callX (n:=90000) (c:=300) hT [W5,V4] (rest:=[]) (as:=[.im (.int 8),.mu 2,.mu 3]) (by simp[ew]) rfl rfl rfl (Wc _) ?_;rintro i a b hT ⟨ws,rfl,hok⟩;have hn:=hok.2.1;refine AA (AH (AY (C6 (A3 (A2 rfl (A8 (CP (ds:=(ws.map wgI).map D.im) rfl rfl ?_))))))) ;rw[En];refine AA (AH (AY ?_));have hT:T (80000+100) a b:=tap.le hT (by decide);refine tap.call (n:=80000) (c:=100) hT (as:=[.im (.int (ws.length:Int))]) (rest:=[W5,V4]) rfl rfl (TC _ ws.length hn) ?_;rintro i a b hT ⟨seq,ps,rfl,pm,al,hW⟩;obtain⟨W,rfl,R,hrk⟩:=Vc pm al;simp only[ji]at hW;have eW:(W.map λp:Nat×Nat=>((p.1:Int),(p.2:Int))).map L9=W.map Al:=by rw[jx];rfl
 rw[eW];have w:Wd ws W (λk=>seq.idxOf k):=⟨⟨hok.1,hn,λx hx=>fJ (hok.2.2 x hx)⟩,hW,R,hrk⟩
 refine AA ?_;change WS _ (Lw ns ws W none none none none none none none none none none) (a::b::[W5,V4]) _;refine AH (DC (GW (A3 (AG (A8 ⟨12,rfl,D7 (by decide) (by decide),?_⟩)))));refine B9 (Il ns ws W) ⟨a,b,[W5,V4],none,none,none,none,none,none,none,none,none,none,rfl,rfl,tap.le hT (by decide)⟩ ?_ ?_
 .rintro e r ls x ⟨a,b,g,z5,z6,z7,z8,z9,z10,z11,z12,z13,z14,rfl,rfl,hT⟩;refine⟨Lw ns ws W (some e) z6 z7 z8 z9 z10 z11 z12 z13 z14,rfl,?_⟩;have hT:T (20*r.length+20) a b:=tap.le hT (by rw[jm];omega);refine(Zk w ns _ hT).mono ?_;rintro _ _ ⟨a',b',g',y6,y7,y8,y9,y10,y11,y12,y13,y14,hT'⟩;exact⟨AJ _,a',b',_,_,_,_,_,_,_,_,_,_,_,rfl,rfl,hT'⟩
 .rintro ls x ⟨a,b,g,z5,z6,z7,z8,z9,z10,z11,z12,z13,z14,rfl,rfl,hT⟩;exact AA (Ay (AG rfl))
def law_eq(ns:List Int):∃hd,j5 [.ro ns] []=some (.im (.bl true),hd):=by
 obtain⟨d,x,e,rfl⟩:=fS ns;exact⟨x,e⟩
open PySem L2 PySem.W PyProof.Rows
noncomputable abbrev xS:Xs:=[]
def NS:FnScope ["self","path","word"] ["self","path","word"] (A9 (Ea.inC (top 2))):=BC (by kernel_rfl)
def CK:Ini (Ea.inC (top 2)) ["self","path","word"] ["path","word"]:=⟨λF c nA=>Uo F NS rfl c (nA _ (by simp)) (nA _ (by simp)) (by decide) (λ_ _ _ _ _ _=>rfl) (λ_ _ _ _ _ _=>rfl) (Or.inl rfl) (Or.inl rfl) (Or.inl rfl) (by decide) (by decide) (by decide) (by decide),rfl,by decide,λ_ _ _ _ _ _ _ us hl=>match us,hl with|[_,_,_],_=>rfl⟩
def all_mk{l:OpenLaw}{w:World}{K:Frag}{h:Heap}{mg:Str->Option Value}{fa:Addr}{c P:Str->Addr}(X:K.In h)(G:h.Ns mainGlobals mg)(hfa:mg "law"=some (.ref fa))(hx:HX xS mg h c P)(F:QB K):HG l w K xS mg c P fa Ps:=by
 obtain⟨Z,h0,h1,h2,h3,h4,h5,h6,h7,h8,h9,h10,h11,h12,h13,h14,h15,h16,h17,h18,h19,h20,h21,h22,h23,h24,h25,h26,h27,cc0,cc1,cc2,cc3,cc4,cc5,cc6,cc7,cc8,ec_NoPaper,ns_NoPaper,ns_BenchError,ns_NoBack,ns_NoRow,ns_NoRule,ns_NoText,ns_NoWish,ns_NoWork,ns_TooMany,kt0,kt1,kt2,kt3,kt4⟩:=F;have B:=(zsE Z).blt X G;refine VB X G hfa hx (feE h0) bd1 rfl λbase hd bl=>?_;obtain⟨o_is_number,o_is_number_from,o_is_number_of_work,o_steps_at,o_cost_at,o_raised,o_heads,o_reached,o_behind,o_last_ones,o_length_of,o_bound_of,ox_lets_set,o_lets_set,o_feed,o_next,o_words,o_cost,o_works,o_wishes,o_costs,o_lheads,o_reach,o_bound,o_judged,o_told,o_great,o_bent,o_law⟩:=oks (E:=enM l w K xS P mg base) B
  (Ec.cl X G hx ec_NoPaper CK)
  (λnm hh=>(by rcases mem_cons.mp hh with rfl|hh;(· exact⟨_,Ec.cl X G hx ec_NoPaper CK,by simp⟩);cases hh))
  (λnm hh=>(by rcases mem_cons.mp hh with rfl|hh;(· exact⟨_,Ec.cl X G hx ec_NoPaper CK,by simp⟩);cases hh))
  (⟨⟨_,mg_of X G ns_BenchError⟩,λnm hh=>(by rcases mem_cons.mp hh with rfl|hh;(· exact Ec.ch X G hx ec_NoPaper ns_BenchError kt0);cases hh)⟩)
  (⟨λnm hh=>(by rcases mem_cons.mp hh with rfl|hh;(· exact⟨_,mg_of X G ns_NoBack⟩);rcases mem_cons.mp hh with rfl|hh;(· exact⟨_,mg_of X G ns_NoRow⟩);rcases mem_cons.mp hh with rfl|hh;(· exact⟨_,mg_of X G ns_NoRule⟩);rcases mem_cons.mp hh with rfl|hh;(· exact⟨_,mg_of X G ns_NoText⟩);rcases mem_cons.mp hh with rfl|hh;(· exact⟨_,mg_of X G ns_NoWish⟩);rcases mem_cons.mp hh with rfl|hh;(· exact⟨_,mg_of X G ns_NoWork⟩);rcases mem_cons.mp hh with rfl|hh;(· exact⟨_,mg_of X G ns_TooMany⟩);cases hh),λnm b hh=>(by rcases Ju hh with⟨rfl,rfl⟩|hh;(· exact⟨⟨_,Ec.cl X G hx ec_NoPaper CK⟩,Ec.ct X G hx ec_NoPaper (by simp only[je,jy];rw[mg_of X G ns_NoBack,mg_of X G ns_NoRow,mg_of X G ns_NoRule,mg_of X G ns_NoText,mg_of X G ns_NoWish,mg_of X G ns_NoWork,mg_of X G ns_TooMany]) kt1⟩);cases hh)⟩)
  (⟨PySem.W.mg_none_of X G kt2,λnm b hh=>(by rcases Ju hh with⟨rfl,rfl⟩|hh;(· exact⟨⟨_,Ec.cl X G hx ec_NoPaper CK⟩,Ec.cv X G hx ec_NoPaper kt2 kt3,rfl⟩);cases hh)⟩)
  (⟨⟨_,mg_of X G ns_NoPaper⟩,λnm b hh=>(by rcases Ju hh with⟨rfl,rfl⟩|hh;(· exact⟨⟨_,Ec.cl X G hx ec_NoPaper CK⟩,Ec.ci X G hx ec_NoPaper ns_NoPaper kt4⟩);cases hh)⟩)
 have g1:=o_feed ((feE h1).dn X G hx bd1 l w base);have g2:=o_next ((feE h2).dn X G hx bd2 l w base);have g3:=o_words ((feE h3).dn X G hx bd0 l w base);have g4:=o_cost ((feE h4).dn X G hx bd2 l w base) g2;have g5:=o_works ((feE h5).dn X G hx bd4 l w base) g2 g4;have g6:=o_wishes ((feE h6).dn X G hx bd2 l w base) g2;have g7:=o_lheads ((feE h7).dn X G hx bd2 l w base);have g8:=o_reach ((feE h8).dn X G hx bd2 l w base);have g9:=o_costs ((feE h9).dn X G hx bd2 l w base);have g10:=o_bound ((feE h10).dn X G hx bd4 l w base) g9;have g11:=o_judged ((feE h11).dn X G hx bd4 l w base) g7 g8 g10;have g12:=o_is_number ((feE h12).dn X G hx bd1 l w base);have g13:=o_is_number_from ((feE h13).dn X G hx bd2 l w base) g12;have g14:=o_is_number_of_work ((feE h14).dn X G hx bd2 l w base) g13;have g15:=o_steps_at ((feE h15).dn X G hx bd2 l w base)
 have g16:=o_cost_at ((feE h16).dn X G hx bd2 l w base) g15;have g17:=o_raised ((feE h17).dn X G hx bd4 l w base);have g18:=o_heads ((feE h18).dn X G hx bd2 l w base) g17;have g19:=o_reached ((feE h19).dn X G hx bd2 l w base);have g20:=o_behind ((feE h20).dn X G hx bd3 l w base) g19;have g21:=o_last_ones ((feE h21).dn X G hx bd3 l w base) g20;have g22:=o_length_of ((feE h22).dn X G hx bd2 l w base);have g23:=o_bound_of ((feE h23).dn X G hx bd3 l w base) g16 g18 g21 g22;have gx24:=ox_lets_set ((feE h24).dn X G hx bd4 l w base) g14 g23;have g24:=o_lets_set ((feE h24).dn X G hx bd4 l w base) g14 g23;have g25:=o_told ((feE h25).dn X G hx bd4 l w base) g24 gx24;have g26:=o_great ((feE h26).dn X G hx bd0 l w base)
 have g27:=o_bent ((feE h27).dn X G hx bd3 l w base) g2 g26;exact o_law ((feE h0).dn X G hx bd1 l w base) g1 g2 g3 g5 g6 g7 g8 g10 g11 g25 g26 g27
end T21
theorem PySem.Challenge.cw_benchdays_k21_sets_judged_holds : PySem.Challenge.rw_benchdays_k21_sets_judged.Holds := by
 refine T21.early λK F d hd hdf=>L2.walkL T21.xS (l:=PySem.Challenge.rw_benchdays_k21_sets_judged) (n:=63) (k:=7) (F:=T21.j5) rfl (by decide) hdf ⟨rfl,by decide,by decide,rfl⟩ (by intro x hx;cases hx) T21.law_eq (λw h Y=>Y) λw mg fa h c P X G hmg hx=>?_;rw[hd]at hmg;exact T21.all_mk X G hmg hx (F w)
